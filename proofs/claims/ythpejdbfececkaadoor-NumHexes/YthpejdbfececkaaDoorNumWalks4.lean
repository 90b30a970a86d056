/-
  Contracts of layer 3 (num), digits of a base of 16: telling.
-/
import Derived.Test.YthpejdbfececkaaDoorNumWalks3
import Derived.Deep.OwnRows
namespace Go.Proofs.YthpejdbfececkaaDoor
open Go.RowKit

theorem ret_two {a b : Value} {a' b' : Value} (h : a = a') (h' : b = b') : Ending.returned (.tuple #[a, b]) = .returned (.tuple #[a', b']) := by rw [h, h']
theorem shl_dig (D : Nat) (h : D ≤ 15) : wrap64 (2 ^ (D * 4)) = 16 ^ D := by
  have e : (2 : Int) ^ (D * 4) = 16 ^ D := by rw [Nat.mul_comm, Int.pow_mul]; rfl
  have hp := Nm.pow_bd D h
  rw [e]
  unfold wrap64
  omega
theorem info5 : (Tryd.prog.info? 5).map (fun i => (i.zero, i.size, i.bytes)) = some (some (.int .u8 0), 1, 1) := by kernel_rfl
theorem make_bytes (D : Nat) (h : D ≤ 15) (w : World) : (Instr.makeSlice 40 (.int .i64 D) (.int .i64 D)).run Tryd.prog w = .ok (.slice (some ⟨w.heap.size, 0, none⟩) D D) (w.alloc (.cells (madeCells #[.int .u8 0] D) 5)) :=
  run_make_row' _ _ _ 1 Tryd.underlying40 info5 rfl .i64 .i64 D (by omega) (by omega) w
/-- the byte at place j behind k digits -/
def hp (N D k j : Nat) : Int := if j + k < D then 0 else ((Nm.hd (N / 16 ^ (D - 1 - j) % 16)).toNat : Int)

theorem hex_fin : ∀ d : Fin 16, ((#[48, 49, 50, 51, 52, 53, 54, 55, 56, 57, 97, 98, 99, 100, 101, 102] : Array UInt8)[d.val]'(by simp)).toNat = (Nm.hd d.val).toNat := by decide +kernel
theorem hex_digit (d : Nat) (h : d < 16) (h' : d < (⟨#[48, 49, 50, 51, 52, 53, 54, 55, 56, 57, 97, 98, 99, 100, 101, 102]⟩ : ByteArray).size) : ((⟨#[48, 49, 50, 51, 52, 53, 54, 55, 56, 57, 97, 98, 99, 100, 101, 102]⟩ : ByteArray)[d]'h').toNat = (Nm.hd d).toNat := hex_fin ⟨d, h⟩
theorem hp_set {N D k : Nat} (hk : k < D) (j : Nat) {v : Int} (hv : v = ((Nm.hd (N / 16 ^ k % 16)).toNat : Int)) : (if j = D - 1 - k then Value.int .u8 v else Value.int .u8 (hp N D k j)) = Value.int .u8 (hp N D (k + 1) j) := by
  by_cases h : j = D - 1 - k
  · rw [if_pos h]
    unfold hp
    rw [if_neg (by omega), hv, show D - 1 - j = k by omega]
  · rw [if_neg h]
    unfold hp
    by_cases h2 : j + k < D
    · rw [if_pos h2, if_pos (by omega)]
    · rw [if_neg h2, if_neg (by omega)]
theorem hx_get (N : Nat) : ∀ (D j : Nat) (h : j < (Nm.hx N D).length), (Nm.hx N D)[j] = Nm.hd (N / 16 ^ (D - 1 - j) % 16)
  | 0, j, h => by simp [Nm.hx] at h
  | D + 1, 0, h => by simp [Nm.hx]
  | D + 1, j + 1, h => by
    have h' : j < (Nm.hx N D).length := by simpa [Nm.hx] using h
    have := hx_get N D j h'
    simp only [Nm.hx, List.getElem_cons_succ]
    rw [this]
    congr 4
    omega
theorem conv_hex (W : World) (b D N : Nat) (h : W.rowIs b 5 D (fun j => .int .u8 (hp N D D j))) :
    (convert 40 9 (.slice (some ⟨b, 0, none⟩) D D)).run Tryd.prog W = .ok (.string ⟨(Nm.hx N D).toArray⟩) W := by
  have hl := Nm.hx_len N D
  have := run_convert_bytes_back W 40 9 5 ⟨b, 0, none⟩ D (Nm.hx N D) Tryd.underlying40 Tryd.underlying5 Tryd.underlying9 (fun j hj => by
    have hc := h.cell (i := j) (by omega)
    have e : (⟨b, 0, none⟩ : Addr).add j = ⟨b, j, none⟩ := by simp [Addr.add]; omega
    rw [e, hc]
    unfold hp
    rw [if_neg (by omega), hx_get N D j hj])
  rw [hl] at this
  exact this

set_option maxHeartbeats 400000 in
theorem hex_arg (n D : Int) (w : World) (h : D < 1 ∨ 15 < D) :
    Calls Tryd.prog 10 #[.int .i64 n, .int .i64 D] w fun e w' => e = .returned (.tuple #[.string ⟨#[]⟩, .int .i64 2]) ∧ w' = w := by
  rcases h with h | h
  · go_enter Tryd.func10, Tryd.ntmps10
    go_wp2
    go_ret2
    exact ⟨rfl, rfl⟩
  · have h' : 1 ≤ D := by omega
    go_enter Tryd.func10, Tryd.ntmps10
    go_wp2
    go_ret2
    exact ⟨rfl, rfl⟩

set_option maxHeartbeats 400000 in
theorem hex_range (n : Int) (D : Nat) (w : World) (h1 : 1 ≤ D) (h2 : D ≤ 15) (h : n < 0 ∨ 16 ^ D ≤ n) :
    Calls Tryd.prog 10 #[.int .i64 n, .int .i64 D] w fun e w' => e = .returned (.tuple #[.string ⟨#[]⟩, .int .i64 3]) ∧ w' = w := by
  have d1 : 1 ≤ (D : Int) := by omega
  have d2 : (D : Int) ≤ 15 := by omega
  rcases h with h | h
  · go_enter Tryd.func10, Tryd.ntmps10
    go_wp2
    go_ret2
    exact ⟨rfl, rfl⟩
  · have hp := Nm.pow_bd D h2
    have h0 : 0 ≤ n := by omega
    have WS := shl_dig D h2
    generalize (16 : Int) ^ D = P at *
    go_enter Tryd.func10, Tryd.ntmps10
    go_wp2
    go_ret2
    exact ⟨rfl, rfl⟩

set_option maxHeartbeats 400000 in
theorem hex_ok (N : Int) (D : Nat) (w : World) (h1 : 1 ≤ D) (h2 : D ≤ 15) (h3 : 0 ≤ N) (h4 : N < 16 ^ D) :
    Calls Tryd.prog 10 #[.int .i64 N, .int .i64 D] w fun e w' => e = .returned (.tuple #[.string ⟨(Nm.hx N.toNat D).toArray⟩, .int .i64 0]) ∧ Bl w w' := by
  have d1 : 1 ≤ (D : Int) := by omega
  have d2 : (D : Int) ≤ 15 := by omega
  have hpb := Nm.pow_bd D h2
  have WS := shl_dig D h2
  obtain ⟨P, hP⟩ : ∃ P : Int, (16 : Int) ^ D = P := ⟨_, rfl⟩
  rw [hP] at h4 hpb WS
  have HP := Lib.hid hP
  clear hP
  have mk := make_bytes D h2 w
  go_enter Tryd.func10, Tryd.ntmps10
  go_wp2
  clear mk WS
  go_loopw [0, 26] (fun n i wr => ∃ k : Nat, k ≤ D ∧ i = .int .i64 k ∧ ∃ M : Int, n = .int .i64 M ∧ 0 ≤ M ∧ M ≤ 1152921504606846976 ∧ Hid (M = ((N.toNat / 16 ^ k : Nat) : Int)) ∧ wr.rowIs w.heap.size 5 D (fun j => .int .u8 (hp N.toNat D k j)) ∧ Bl w wr) (fun _ i _ => D - (intOf i).toNat)
  case atStart =>
    refine ⟨0, by omega, rfl, N, rfl, h3, by omega, Lib.hid (by simp; omega), ?_, ?_⟩
    · exact (World.rowIs_made w _ D 5).congr (fun j hj => by unfold hp; rw [if_pos (by omega)])
    · exact (Below.refl _ _).alloc (Nat.le_refl _) _
  case round =>
    obtain ⟨k, hk, rfl, M, rfl, hM0, hM1, hM, hR, hB⟩ := hrel
    by_cases hlt : k < D
    · have hc := hR.cell (i := D - 1 - k) (by omega)
      have hf := hR.frozen (D - 1 - k)
      have HR := Lib.hid hR
      have HB := Lib.hid hB
      clear hR hB
      have WA := Nm.and_dig M hM0 (by omega)
      go_wp2
      refine ⟨⟨k + 1, by omega, by go_num, _, rfl, by omega, by omega, Lib.hid ?_, ?_, ?_⟩, by simp [intOf]; omega⟩
      · rw [hM.out, Nat.pow_succ, ← Nat.div_div_eq_div_mul]
        omega
      · refine (HR.out.set (D - 1 - k) _).congr (fun j _ => hp_set hlt j ?_)
        rw [hex_digit _ (by omega)]
        have e : (M % 16).toNat = N.toNat / 16 ^ k % 16 := by rw [hM.out]; omega
        rw [e]
      · exact HB.out.setCell (Nat.le_refl _) _
    · obtain rfl : k = D := by omega
      have cv := conv_hex wr w.heap.size k N.toNat hR
      have HB := Lib.hid hB
      clear hR hB
      go_wp2
      go_ret2
      exact ⟨rfl, HB.out⟩

set_option maxHeartbeats 400000 in
theorem awake_any (w : World) (hV : Vs w) :
    Calls Tryd.prog 5 #[] w fun e w' => e = .returned (.bool true) ∧ Bl w w' := by
  have q1 : Nm.undec [48, 48, 55] = none := by decide +kernel
  go_enter Tryd.func5, Tryd.ntmps5
  go_wp2_with fail
  refine (hex_ok 255 4 w (by decide) (by decide) (by decide) (by decide)).mono ?_
  rintro e w1 ⟨rfl, hk1⟩
  have hV1 := hV.next hk1
  have HK1 := Lib.hid hk1
  clear hk1 hV
  have e1 : (⟨(Nm.hx (255 : Int).toNat 4).toArray⟩ : ByteArray) = ⟨#[48, 48, 102, 102]⟩ := by decide +kernel
  rw [e1]
  clear e1
  go_wp2_with fail
  refine (undec_none [48, 48, 55] _ (by decide) q1 hV1).mono ?_
  rintro e w2 ⟨rfl, hk2⟩
  have hV2 := hV1.next hk2
  have HK2 := Lib.hid (HK1.out.next hk2)
  clear hk2 hV1 HK1 q1
  go_wp2_with fail
  refine (dec_any (-5) _ (by decide) hV2).mono ?_
  rintro e w3 ⟨rfl, hk3⟩
  have HK3 := Lib.hid (HK2.out.next hk3)
  clear hk3 hV2 HK2
  have e2 : (⟨(Lib.itoa (-5)).toArray⟩ : ByteArray) = ⟨#[45, 53]⟩ := by decide +kernel
  rw [e2]
  clear e2
  go_wp2
  go_ret
  exact ⟨rfl, HK3.out⟩
end Go.Proofs.YthpejdbfececkaaDoor
