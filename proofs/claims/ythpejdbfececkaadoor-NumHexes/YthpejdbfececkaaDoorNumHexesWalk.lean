/-
  NumHexes: its Go text returns true.
-/
import Derived.Test.YthpejdbfececkaaDoorNumWalks4
namespace Go.Proofs.YthpejdbfececkaaDoor
open Go.RowKit

theorem pow_dig (D : Nat) (P : Int) (h : (16 : Int) ^ D = P) : (2 : Int) ^ (4 * (D : Int)).toNat = P := by
  have e : (4 * (D : Int)).toNat = 4 * D := by omega
  rw [e, Int.pow_mul]
  exact h

set_option maxHeartbeats 400000 in
theorem numHexes_arg (n m : Int) (s : ByteArray) (w : World) (_hn : -9223372036854775808 ≤ n ∧ n ≤ 9223372036854775807) (hm : m < 1 ∨ 15 < m) (hs : ¬ 100 < s.size) (hV : Vs w) :
    Calls Tryd.prog 4 #[.int .i64 n, .int .i64 m, .string s] w fun e w' => e = .returned (.bool true) ∧ Bl w w' := by
  have hV0 := hV
  have HK0 := Lib.hid (Bl.refl w)
  clear hV
  rcases hm with h | h
  · skip
    have hs' : s.size ≤ 100 := by omega
    go_enter Tryd.func4, Tryd.ntmps4
    go_wp2_with fail
    refine (hex_arg n m _ (.inl h)).mono ?_
    rintro e w0 ⟨rfl, rfl⟩
    go_wp2_with fail
    refine (unhex_any s _ (by omega)).mono ?_
    rintro e w1 hU
    rcases hU with ⟨y, hy, rfl, rfl⟩ | ⟨hy, rfl, rfl⟩
    · have HY := Lib.hid hy
      clear hy
      go_wp2_with fail
      refine (runhex_any s _ (by omega)).mono ?_
      rintro e w2 hR
      rcases hR with ⟨z, hz, rfl, rfl⟩ | ⟨hz, rfl, rfl⟩
      · obtain rfl : z = y := by
          rw [HY.out] at hz
          exact (Option.some.inj hz).symm
        clear hz HY
        go_wp2_with fail
        refine (awake_any _ hV0).mono ?_
        rintro e w6 ⟨rfl, hk⟩
        have HK6 := Lib.hid (HK0.out.next hk)
        clear hk hV0 HK0
        go_wp2
        go_ret
        exact ⟨rfl, HK6.out⟩
      · rw [HY.out] at hz
        cases hz
    · have HY := Lib.hid hy
      clear hy
      go_wp2_with fail
      refine (runhex_any s _ (by omega)).mono ?_
      rintro e w2 hR
      rcases hR with ⟨z, hz, rfl, rfl⟩ | ⟨hz, rfl, rfl⟩
      · rw [HY.out] at hz
        cases hz
      · clear hz HY
        go_wp2_with fail
        refine (awake_any _ hV0).mono ?_
        rintro e w6 ⟨rfl, hk⟩
        have HK6 := Lib.hid (HK0.out.next hk)
        clear hk hV0 HK0
        go_wp2
        go_ret
        exact ⟨rfl, HK6.out⟩
  · have h' : 1 ≤ m := by omega
    have hs' : s.size ≤ 100 := by omega
    go_enter Tryd.func4, Tryd.ntmps4
    go_wp2_with fail
    refine (hex_arg n m _ (.inr h)).mono ?_
    rintro e w0 ⟨rfl, rfl⟩
    go_wp2_with fail
    refine (unhex_any s _ (by omega)).mono ?_
    rintro e w1 hU
    rcases hU with ⟨y, hy, rfl, rfl⟩ | ⟨hy, rfl, rfl⟩
    · have HY := Lib.hid hy
      clear hy
      go_wp2_with fail
      refine (runhex_any s _ (by omega)).mono ?_
      rintro e w2 hR
      rcases hR with ⟨z, hz, rfl, rfl⟩ | ⟨hz, rfl, rfl⟩
      · obtain rfl : z = y := by
          rw [HY.out] at hz
          exact (Option.some.inj hz).symm
        clear hz HY
        go_wp2_with fail
        refine (awake_any _ hV0).mono ?_
        rintro e w6 ⟨rfl, hk⟩
        have HK6 := Lib.hid (HK0.out.next hk)
        clear hk hV0 HK0
        go_wp2
        go_ret
        exact ⟨rfl, HK6.out⟩
      · rw [HY.out] at hz
        cases hz
    · have HY := Lib.hid hy
      clear hy
      go_wp2_with fail
      refine (runhex_any s _ (by omega)).mono ?_
      rintro e w2 hR
      rcases hR with ⟨z, hz, rfl, rfl⟩ | ⟨hz, rfl, rfl⟩
      · rw [HY.out] at hz
        cases hz
      · clear hz HY
        go_wp2_with fail
        refine (awake_any _ hV0).mono ?_
        rintro e w6 ⟨rfl, hk⟩
        have HK6 := Lib.hid (HK0.out.next hk)
        clear hk hV0 HK0
        go_wp2
        go_ret
        exact ⟨rfl, HK6.out⟩

set_option maxHeartbeats 400000 in
theorem numHexes_range (n : Int) (D : Nat) (s : ByteArray) (w : World) (hn : -9223372036854775808 ≤ n ∧ n ≤ 9223372036854775807) (h1 : 1 ≤ D) (h2 : D ≤ 15) (hr : n < 0 ∨ 16 ^ D ≤ n) (hs : ¬ 100 < s.size) (hV : Vs w) :
    Calls Tryd.prog 4 #[.int .i64 n, .int .i64 D, .string s] w fun e w' => e = .returned (.bool true) ∧ Bl w w' := by
  have hV0 := hV
  have HK0 := Lib.hid (Bl.refl w)
  clear hV
  have d1 : 1 ≤ (D : Int) := by omega
  have d2 : (D : Int) ≤ 15 := by omega
  rcases hr with h | h
  · have HX := Lib.hid (fun w => hex_range n D w h1 h2 (.inl h))
    have hs' : s.size ≤ 100 := by omega
    go_enter Tryd.func4, Tryd.ntmps4
    go_wp2_with fail
    refine (HX.out _).mono ?_
    rintro e w0 ⟨rfl, rfl⟩
    go_wp2_with fail
    refine (unhex_any s _ (by omega)).mono ?_
    rintro e w1 hU
    rcases hU with ⟨y, hy, rfl, rfl⟩ | ⟨hy, rfl, rfl⟩
    · have HY := Lib.hid hy
      clear hy
      go_wp2_with fail
      refine (runhex_any s _ (by omega)).mono ?_
      rintro e w2 hR
      rcases hR with ⟨z, hz, rfl, rfl⟩ | ⟨hz, rfl, rfl⟩
      · obtain rfl : z = y := by
          rw [HY.out] at hz
          exact (Option.some.inj hz).symm
        clear hz HY
        go_wp2_with fail
        refine (awake_any _ hV0).mono ?_
        rintro e w6 ⟨rfl, hk⟩
        have HK6 := Lib.hid (HK0.out.next hk)
        clear hk hV0 HK0
        go_wp2
        go_ret
        exact ⟨rfl, HK6.out⟩
      · rw [HY.out] at hz
        cases hz
    · have HY := Lib.hid hy
      clear hy
      go_wp2_with fail
      refine (runhex_any s _ (by omega)).mono ?_
      rintro e w2 hR
      rcases hR with ⟨z, hz, rfl, rfl⟩ | ⟨hz, rfl, rfl⟩
      · rw [HY.out] at hz
        cases hz
      · clear hz HY
        go_wp2_with fail
        refine (awake_any _ hV0).mono ?_
        rintro e w6 ⟨rfl, hk⟩
        have HK6 := Lib.hid (HK0.out.next hk)
        clear hk hV0 HK0
        go_wp2
        go_ret
        exact ⟨rfl, HK6.out⟩
  · have hpb := Nm.pow_bd D h2
    have h0 : 0 ≤ n := by omega
    have HX := Lib.hid (fun w => hex_range n D w h1 h2 (.inr h))
    obtain ⟨P, hP⟩ : ∃ P : Int, (16 : Int) ^ D = P := ⟨_, rfl⟩
    have EP := Lib.hid (pow_dig D P hP)
    rw [hP] at h hpb
    clear hP
    have hs' : s.size ≤ 100 := by omega
    go_enter Tryd.func4, Tryd.ntmps4
    go_wp2_with fail
    refine (HX.out _).mono ?_
    rintro e w0 ⟨rfl, rfl⟩
    go_wp2_with fail
    refine (unhex_any s _ (by omega)).mono ?_
    rintro e w1 hU
    rcases hU with ⟨y, hy, rfl, rfl⟩ | ⟨hy, rfl, rfl⟩
    · have HY := Lib.hid hy
      clear hy
      go_wp2_with fail
      refine (runhex_any s _ (by omega)).mono ?_
      rintro e w2 hR
      rcases hR with ⟨z, hz, rfl, rfl⟩ | ⟨hz, rfl, rfl⟩
      · obtain rfl : z = y := by
          rw [HY.out] at hz
          exact (Option.some.inj hz).symm
        clear hz HY
        go_wp2_with fail
        refine (power_any _ _ (by omega) (by omega)).mono ?_
        rintro e w7 ⟨rfl, rfl⟩
        rw [EP.out]
        go_wp2_with fail
        refine (awake_any _ hV0).mono ?_
        rintro e w6 ⟨rfl, hk⟩
        have HK6 := Lib.hid (HK0.out.next hk)
        clear hk hV0 HK0
        go_wp2
        go_ret
        exact ⟨rfl, HK6.out⟩
      · rw [HY.out] at hz
        cases hz
    · have HY := Lib.hid hy
      clear hy
      go_wp2_with fail
      refine (runhex_any s _ (by omega)).mono ?_
      rintro e w2 hR
      rcases hR with ⟨z, hz, rfl, rfl⟩ | ⟨hz, rfl, rfl⟩
      · rw [HY.out] at hz
        cases hz
      · clear hz HY
        go_wp2_with fail
        refine (power_any _ _ (by omega) (by omega)).mono ?_
        rintro e w7 ⟨rfl, rfl⟩
        rw [EP.out]
        go_wp2_with fail
        refine (awake_any _ hV0).mono ?_
        rintro e w6 ⟨rfl, hk⟩
        have HK6 := Lib.hid (HK0.out.next hk)
        clear hk hV0 HK0
        go_wp2
        go_ret
        exact ⟨rfl, HK6.out⟩

set_option maxHeartbeats 400000 in
theorem numHexes_ok (n : Int) (D : Nat) (s : ByteArray) (w : World) (hn : -9223372036854775808 ≤ n ∧ n ≤ 9223372036854775807) (h1 : 1 ≤ D) (h2 : D ≤ 15) (h0 : 0 ≤ n) (h3 : n < 16 ^ D) (hs : ¬ 100 < s.size) (hV : Vs w) :
    Calls Tryd.prog 4 #[.int .i64 n, .int .i64 D, .string s] w fun e w' => e = .returned (.bool true) ∧ Bl w w' := by
  have d1 : 1 ≤ (D : Int) := by omega
  have d2 : (D : Int) ≤ 15 := by omega
  have hpb := Nm.pow_bd D h2
  have UX : Hid (Nm.unhex (Nm.hx n.toNat D) = some n) := Lib.hid (by
    have h := Nm.unhex_hx n.toNat D h1 h2 (by
      have e : ((16 ^ D : Nat) : Int) = (16 : Int) ^ D := Int.natCast_pow 16 D
      omega)
    rw [h]
    congr 1
    omega)
  have hsz : (⟨(Nm.hx n.toNat D).toArray⟩ : ByteArray).size ≤ 1000 := by show (Nm.hx n.toNat D).toArray.size ≤ 1000; rw [List.size_toArray, Nm.hx_len]; omega
  have HX := Lib.hid (fun w => hex_ok n D w h1 h2 h0 h3)
  obtain ⟨P, hP⟩ : ∃ P : Int, (16 : Int) ^ D = P := ⟨_, rfl⟩
  have EP := Lib.hid (pow_dig D P hP)
  rw [hP] at h3 hpb
  clear hP
  have hs' : s.size ≤ 100 := by omega
  go_enter Tryd.func4, Tryd.ntmps4
  go_wp2_with fail
  refine (HX.out _).mono ?_
  rintro e w0 ⟨rfl, hk⟩
  have hV0 := hV.next hk
  have HK0 := Lib.hid hk
  clear hk hV
  go_wp2_with fail
  refine (unhex_any s _ (by omega)).mono ?_
  rintro e w1 hU
  rcases hU with ⟨y, hy, rfl, rfl⟩ | ⟨hy, rfl, rfl⟩
  · have HY := Lib.hid hy
    clear hy
    go_wp2_with fail
    refine (runhex_any s _ (by omega)).mono ?_
    rintro e w2 hR
    rcases hR with ⟨z, hz, rfl, rfl⟩ | ⟨hz, rfl, rfl⟩
    · obtain rfl : z = y := by
        rw [HY.out] at hz
        exact (Option.some.inj hz).symm
      clear hz HY
      go_wp2_with fail
      refine (power_any _ _ (by omega) (by omega)).mono ?_
      rintro e w7 ⟨rfl, rfl⟩
      rw [EP.out]
      go_wp2_with fail
      refine (unhex_any _ _ hsz).mono ?_
      rintro e w8 hU
      rcases hU with ⟨x, hx, rfl, rfl⟩ | ⟨hx, rfl, rfl⟩
      · obtain rfl : x = n := by
          have h9 := UX.out
          rw [show (⟨(Nm.hx n.toNat D).toArray⟩ : ByteArray).data.toList = Nm.hx n.toNat D from rfl] at hx
          rw [h9] at hx
          exact (Option.some.inj hx).symm
        clear hx
        go_wp2_with fail
        refine (rhex_any D _ _ h0 (by omega) (by omega)).mono ?_
        rintro e w9 ⟨rfl, hk⟩
        have hV1 := hV0.next hk
        have HK1 := Lib.hid (HK0.out.next hk)
        clear hk hV0 HK0
        have hV0 := hV1
        have HK0 := HK1
        clear hV1 HK1
        go_wp2_with fail
        refine (awake_any _ hV0).mono ?_
        rintro e w6 ⟨rfl, hk⟩
        have HK6 := Lib.hid (HK0.out.next hk)
        clear hk hV0 HK0
        go_wp2
        go_ret
        exact ⟨rfl, HK6.out⟩
      · have h9 := UX.out
        rw [show (⟨(Nm.hx n.toNat D).toArray⟩ : ByteArray).data.toList = Nm.hx n.toNat D from rfl, h9] at hx
        cases hx
    · rw [HY.out] at hz
      cases hz
  · have HY := Lib.hid hy
    clear hy
    go_wp2_with fail
    refine (runhex_any s _ (by omega)).mono ?_
    rintro e w2 hR
    rcases hR with ⟨z, hz, rfl, rfl⟩ | ⟨hz, rfl, rfl⟩
    · rw [HY.out] at hz
      cases hz
    · clear hz HY
      go_wp2_with fail
      refine (power_any _ _ (by omega) (by omega)).mono ?_
      rintro e w7 ⟨rfl, rfl⟩
      rw [EP.out]
      go_wp2_with fail
      refine (unhex_any _ _ hsz).mono ?_
      rintro e w8 hU
      rcases hU with ⟨x, hx, rfl, rfl⟩ | ⟨hx, rfl, rfl⟩
      · obtain rfl : x = n := by
          have h9 := UX.out
          rw [show (⟨(Nm.hx n.toNat D).toArray⟩ : ByteArray).data.toList = Nm.hx n.toNat D from rfl] at hx
          rw [h9] at hx
          exact (Option.some.inj hx).symm
        clear hx
        go_wp2_with fail
        refine (rhex_any D _ _ h0 (by omega) (by omega)).mono ?_
        rintro e w9 ⟨rfl, hk⟩
        have hV1 := hV0.next hk
        have HK1 := Lib.hid (HK0.out.next hk)
        clear hk hV0 HK0
        have hV0 := hV1
        have HK0 := HK1
        clear hV1 HK1
        go_wp2_with fail
        refine (awake_any _ hV0).mono ?_
        rintro e w6 ⟨rfl, hk⟩
        have HK6 := Lib.hid (HK0.out.next hk)
        clear hk hV0 HK0
        go_wp2
        go_ret
        exact ⟨rfl, HK6.out⟩
      · have h9 := UX.out
        rw [show (⟨(Nm.hx n.toNat D).toArray⟩ : ByteArray).data.toList = Nm.hx n.toNat D from rfl, h9] at hx
        cases hx

theorem numHexes_any (n m : Int) (s : ByteArray) (w : World) (hn : -9223372036854775808 ≤ n ∧ n ≤ 9223372036854775807) (hm : s.size ≤ 9223372036854775807) (hV : Vs w) :
    Calls Tryd.prog 4 #[.int .i64 n, .int .i64 m, .string s] w fun e w' => e = .returned (.bool true) ∧ Bl w w' := by
  by_cases hs : 100 < s.size
  · go_enter Tryd.func4, Tryd.ntmps4
    go_wp2_with fail
    refine (awake_any _ hV).mono ?_
    rintro e w1 ⟨rfl, hk⟩
    have HK := Lib.hid hk
    clear hk hV
    go_wp2
    go_ret
    exact ⟨rfl, HK.out⟩
  · by_cases h : m < 1 ∨ 15 < m
    · exact numHexes_arg n m s w hn h hs hV
    · obtain ⟨D, rfl⟩ : ∃ D : Nat, m = D := ⟨m.toNat, by omega⟩
      by_cases h' : n < 0 ∨ 16 ^ D ≤ n
      · exact numHexes_range n D s w hn (by omega) (by omega) h' hs hV
      · exact numHexes_ok n D s w hn (by omega) (by omega) (by omega) (by omega) hs hV
end Go.Proofs.YthpejdbfececkaaDoor
