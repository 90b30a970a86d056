/-
  NumDecs: its Go text returns true.
-/
import Derived.Test.YthpejdbfececkaaDoorNumWalks4
namespace Go.Proofs.YthpejdbfececkaaDoor
open Go.RowKit

theorem undec_someS (s : ByteArray) (v : Int) (w : World) (hs : s.size ≤ 1000) (hu : Nm.undec s.data.toList = some v) (hV : Vs w) :
    Calls Tryd.prog 6 #[.string s] w fun e w' => e = .returned (.tuple #[.int .i64 v, .int .i64 0]) ∧ Bl w w' := by
  have h := undec_some s.data.toList v w (by rw [len_list]; exact hs) hu hV
  rwa [← ba_list] at h
theorem undec_noneS (s : ByteArray) (w : World) (hs : s.size ≤ 1000) (hu : Nm.undec s.data.toList = none) (hV : Vs w) :
    Calls Tryd.prog 6 #[.string s] w fun e w' => e = .returned (.tuple #[.int .i64 0, .int .i64 6]) ∧ Bl w w' := by
  have h := undec_none s.data.toList w (by rw [len_list]; exact hs) hu hV
  rwa [← ba_list] at h

set_option maxHeartbeats 400000 in
theorem numDecs_any (n : Int) (s : ByteArray) (w : World) (hn : -9223372036854775808 ≤ n ∧ n ≤ 9223372036854775807) (hm : s.size ≤ 9223372036854775807) (hV : Vs w) :
    Calls Tryd.prog 3 #[.int .i64 n, .string s] w fun e w' => e = .returned (.bool true) ∧ Bl w w' := by
  by_cases hs : 100 < s.size
  · go_enter Tryd.func3, Tryd.ntmps3
    go_wp2_with fail
    refine (awake_any _ hV).mono ?_
    rintro e w1 ⟨rfl, hk⟩
    have HK := Lib.hid hk
    clear hk hV
    go_wp2
    go_ret
    exact ⟨rfl, HK.out⟩
  · have hs' : s.size ≤ 100 := by omega
    have hlen := Nm.itoa_len n hn.1 hn.2
    have U1 := Lib.hid ((Nm.undec_iff (Lib.itoa n) n).2 ⟨rfl, hn⟩)
    go_enter Tryd.func3, Tryd.ntmps3
    go_wp2_with fail
    refine (dec_any n _ hn hV).mono ?_
    rintro e w0 ⟨rfl, hk⟩
    have hV0 := hV.next hk
    have HK0 := Lib.hid hk
    clear hk hV
    go_wp2_with fail
    refine (undec_some (Lib.itoa n) n _ (by omega) U1.out hV0).mono ?_
    rintro e w1 ⟨rfl, hk⟩
    have hV1 := hV0.next hk
    have HK1 := Lib.hid (HK0.out.next hk)
    clear hk hV0 HK0
    cases hu : Nm.undec s.data.toList with
    | some v =>
      have HU := Lib.hid hu
      clear hu
      go_wp2_with fail
      refine (undec_someS s v _ (by omega) HU.out hV1).mono ?_
      rintro e w2 ⟨rfl, hk⟩
      have hV2 := hV1.next hk
      have HK2 := Lib.hid (HK1.out.next hk)
      clear hk hV1 HK1
      go_wp2_with fail
      refine (rundec_any s _ (by omega)).mono ?_
      rintro e w3 ⟨y, b, rfl, hb, hk⟩
      have hV3 := hV2.next hk
      have HK3 := Lib.hid (HK2.out.next hk)
      clear hk hV2 HK2
      obtain ⟨rfl, rfl⟩ : b = true ∧ y = v := by
        rw [HU.out] at hb
        cases b with
        | true => simp at hb; exact ⟨rfl, hb.symm⟩
        | false => simp at hb
      clear hb HU
      go_wp2_with fail
      refine (dec_any n _ hn hV3).mono ?_
      rintro e w4 ⟨rfl, hk⟩
      have hV4 := hV3.next hk
      have HK4 := Lib.hid (HK3.out.next hk)
      clear hk hV3 HK3
      go_wp2_with fail
      refine (rdec_any n _ hn).mono ?_
      rintro e w5 ⟨rfl, hk⟩
      have hV5 := hV4.next hk
      have HK5 := Lib.hid (HK4.out.next hk)
      clear hk hV4 HK4
      go_wp2_with fail
      refine (awake_any _ hV5).mono ?_
      rintro e w6 ⟨rfl, hk⟩
      have HK6 := Lib.hid (HK5.out.next hk)
      clear hk hV5 HK5
      go_wp2
      go_ret
      exact ⟨rfl, HK6.out⟩
    | none =>
      have HU := Lib.hid hu
      clear hu
      go_wp2_with fail
      refine (undec_noneS s _ (by omega) HU.out hV1).mono ?_
      rintro e w2 ⟨rfl, hk⟩
      have hV2 := hV1.next hk
      have HK2 := Lib.hid (HK1.out.next hk)
      clear hk hV1 HK1
      go_wp2_with fail
      refine (rundec_any s _ (by omega)).mono ?_
      rintro e w3 ⟨y, b, rfl, hb, hk⟩
      have hV3 := hV2.next hk
      have HK3 := Lib.hid (HK2.out.next hk)
      clear hk hV2 HK2
      obtain rfl : b = false := by
        rw [HU.out] at hb
        cases b with
        | true => simp at hb
        | false => rfl
      clear hb HU
      go_wp2_with fail
      refine (dec_any n _ hn hV3).mono ?_
      rintro e w4 ⟨rfl, hk⟩
      have hV4 := hV3.next hk
      have HK4 := Lib.hid (HK3.out.next hk)
      clear hk hV3 HK3
      go_wp2_with fail
      refine (rdec_any n _ hn).mono ?_
      rintro e w5 ⟨rfl, hk⟩
      have hV5 := hV4.next hk
      have HK5 := Lib.hid (HK4.out.next hk)
      clear hk hV4 HK4
      go_wp2_with fail
      refine (awake_any _ hV5).mono ?_
      rintro e w6 ⟨rfl, hk⟩
      have HK6 := Lib.hid (HK5.out.next hk)
      clear hk hV5 HK5
      go_wp2
      go_ret
      exact ⟨rfl, HK6.out⟩
end Go.Proofs.YthpejdbfececkaaDoor
