/-
  Contracts of layer 5 (vec): diagonals, the matrix that moves nothing, scales, places.
-/
import Derived.Test.YtbhdmfoigilibaaVecWalks2
namespace Go.Proofs.Ytbhdmfoigilibaa
open Go.RowKit

theorem idx4 (l : Nat → Int) (w : World) : (Instr.index 51 (.agg #[.int .i64 (l 0), .int .i64 (l 1), .int .i64 (l 2), .int .i64 (l 3)]) (.int .i64 0)).run Try.prog w = .ok (.int .i64 (l 0)) w ∧ (Instr.index 51 (.agg #[.int .i64 (l 0), .int .i64 (l 1), .int .i64 (l 2), .int .i64 (l 3)]) (.int .i64 1)).run Try.prog w = .ok (.int .i64 (l 1)) w
    ∧ (Instr.index 51 (.agg #[.int .i64 (l 0), .int .i64 (l 1), .int .i64 (l 2), .int .i64 (l 3)]) (.int .i64 2)).run Try.prog w = .ok (.int .i64 (l 2)) w ∧ (Instr.index 51 (.agg #[.int .i64 (l 0), .int .i64 (l 1), .int .i64 (l 2), .int .i64 (l 3)]) (.int .i64 3)).run Try.prog w = .ok (.int .i64 (l 3)) w :=
  ⟨index4 l 0 (by omega) w, index4 l 1 (by omega) w, index4 l 2 (by omega) w, index4 l 3 (by omega) w⟩

set_option maxHeartbeats 4000000 in
theorem diagonal_any (l : Nat → Int) (w : World) :
    Calls Try.prog 26 #[.agg #[.int .i64 (l 0), .int .i64 (l 1), .int .i64 (l 2), .int .i64 (l 3)]] w fun e w' => e = .returned (.agg (Vc.ar (Vc.diag l))) ∧ Kp w.heap.size w w' := by
  have i0 := fun w => (idx4 l w).1
  have i1 := fun w => (idx4 l w).2.1
  have i2 := fun w => (idx4 l w).2.2.1
  have i3 := fun w => (idx4 l w).2.2.2
  go_enter Try.func26, Try.ntmps26
  go_wp2
  go_loopw [7] (fun i wr => ∃ k : Nat, k ≤ 4 ∧ i = .int .i64 k ∧ Rw 16 wr (w.heap.size + 2) (Vc.dk l k) ∧ Rw 16 wr (w.heap.size + 1) (fun _ => 0) ∧ Kp w.heap.size w wr) (fun i _ => 4 - (intOf i).toNat)
  case atStart =>
    refine ⟨0, by omega, rfl, (Rw.zero16 _ _ (by simp)).congr (fun j _ => (by unfold Vc.dk; rw [if_neg (by omega)])), (Rw.zero16 _ _ (by simp)).alloc (by omega) _ _, (((Kp.refl _ _).alloc (Nat.le_refl _) _ _).alloc (by simp) _ _).alloc (by simp; omega) _ _⟩
  case round =>
    obtain ⟨k, hk, rfl, hM, hZ, hK⟩ := hrel
    have hc := hM.cell
    have hf := hM.froz
    have HM := Lib.hid hM
    have HZ := Lib.hid hZ
    have HK := Lib.hid hK
    clear hM hZ hK
    by_cases hlt : k < 4
    · have HS := Lib.hid (HM.out.set (k := 5 * k) (by omega) (l k))
      obtain rfl | rfl | rfl | rfl : k = 0 ∨ k = 1 ∨ k = 2 ∨ k = 3 := by omega
      all_goals
        go_wp2_with ((go_at_call 25; refine (at_any _ _ _ ?_ ?_).mono ?_; omega; omega; rintro e w' ⟨rfl, rfl⟩))
        refine ⟨⟨_, ?_, ?_, HS.out.congr (fun j _ => Vc.dk_succ l), HZ.out.other (by simp) _, HK.out.setCell (by first | (simp; done) | (simp; omega)) _⟩, ?_⟩
        · omega
        · rfl
        · simp [intOf]
    · obtain rfl : k = 4 := by omega
      go_wp2_with (first | (refine wpList_ld rfl _ rfl _ rfl _ HM.out ?_) | (refine wpList_st rfl _ _ rfl _ rfl _ rfl HZ.out ?_; intro w1 hr1 hs1; have HR := Lib.hid hr1; have KK := Lib.hid (hs1.kp HK.out (by omega)); clear hr1 hs1))
      refine bodyPost_ret (results_m rfl rfl HR.out) rfl ⟨by rw [Vc.ar_congr fun j hj => Vc.dk_all l hj], KK.out⟩

theorem cells3 (W : World) (x y z : Int) (t : TypeId) {b : Nat} (hb : b = W.heap.size) : ∀ j, j < 3 → (W.alloc (.cells #[.int .i64 x, .int .i64 y, .int .i64 z] t)).cell? ⟨b, j, none⟩ = some (.int .i64 (Vc.v4 x y z 0 j)) := by
  subst hb
  intro j hj
  rcases j with _ | _ | _ | j
  all_goals first | omega | (simp [go_sem, Vc.v4])
theorem cells4 (W : World) (x y z u : Int) (t : TypeId) {b : Nat} (hb : b = W.heap.size) : ∀ j, j < 4 → (W.alloc (.cells #[.int .i64 x, .int .i64 y, .int .i64 z, .int .i64 u] t)).cell? ⟨b, j, none⟩ = some (.int .i64 (Vc.v4 x y z u j)) := by
  subst hb
  intro j hj
  rcases j with _ | _ | _ | _ | j
  all_goals first | omega | (simp [go_sem, Vc.v4])

set_option maxHeartbeats 1000000 in
theorem identity_any (w : World) :
    Calls Try.prog 12 #[] w fun e w' => e = .returned (.agg (Vc.ar (Vc.one))) ∧ Kp w.heap.size w w' := by
  have HZ := Lib.hid (Rw.zero16 w 23 rfl)
  have HK := Lib.hid ((Kp.refl w.heap.size w).alloc (Nat.le_refl _) #[.int .i64 0, .int .i64 0, .int .i64 0, .int .i64 0, .int .i64 0, .int .i64 0, .int .i64 0, .int .i64 0, .int .i64 0, .int .i64 0, .int .i64 0, .int .i64 0, .int .i64 0, .int .i64 0, .int .i64 0, .int .i64 0] 23)
  go_enter Try.func12, Try.ntmps12
  go_wp2_with (first
    | (go_at_call 26; refine (diagonal_any (fun _ => 65536) _).mono ?_; rintro e w1 ⟨rfl, hk1⟩; have HZ1 := Lib.hid (HZ.out.call (by omega) hk1); have HK1 := Lib.hid (HK.out.next (hk1.mono (Nat.le_refl _))); clear hk1)
    | (refine wpList_st rfl _ _ rfl _ rfl _ rfl HZ1.out ?_; intro w2 hr2 hs2; have HR := Lib.hid hr2; have KK := Lib.hid (hs2.kp HK1.out (by omega)); clear hr2 hs2))
  exact bodyPost_ret (results_m rfl rfl HR.out) rfl ⟨rfl, KK.out⟩

set_option maxHeartbeats 1000000 in
theorem place_any (x y z : Int) (c0 c1 c2 c3 c4 c5 : Value) (w : World) :
    Calls Try.prog 17 #[.agg #[.int .i64 x, .int .i64 y, .int .i64 z, c0, c1, c2, c3, c4, c5]] w fun e w' => e = .returned (.agg #[.int .i64 x, .int .i64 y, .int .i64 z, .int .i64 256]) ∧ Kp w.heap.size w w' := by
  go_enter Try.func17, Try.ntmps17
  go_wp2
  exact bodyPost_ret (v := .agg #[.int .i64 x, .int .i64 y, .int .i64 z, .int .i64 256]) (by simp [results, Try.results17, go_sem]) rfl ⟨rfl, by repeat' (first | exact Kp.refl _ _ | refine Kp.alloc ?_ ?_ _ _ | (simp; done))⟩

set_option maxHeartbeats 1000000 in
theorem scale_any (x y z : Int) (w : World) :
    Calls Try.prog 16 #[.int .i64 x, .int .i64 y, .int .i64 z] w fun e w' => (e = .returned (if Vc.wi 16777216 (Vc.v4 x y z 0) 3 then .tuple #[.agg (Vc.ar (Vc.diag (Vc.v4 x y z 65536))), .int .i64 0] else .tuple #[.agg (Vc.ar (fun _ => 0)), .int .i64 3])) ∧ Kp w.heap.size w w' := by
  have HZ := Lib.hid (Rw.zero16 w 23 rfl)
  have HC := Lib.hid (cells3 (w.alloc (.cells #[.int .i64 0, .int .i64 0, .int .i64 0, .int .i64 0, .int .i64 0, .int .i64 0, .int .i64 0, .int .i64 0, .int .i64 0, .int .i64 0, .int .i64 0, .int .i64 0, .int .i64 0, .int .i64 0, .int .i64 0, .int .i64 0] 23)) x y z 3 (b := w.heap.size + 1) (by simp))
  have HK := Lib.hid (((Kp.refl w.heap.size w).alloc (Nat.le_refl _) #[.int .i64 0, .int .i64 0, .int .i64 0, .int .i64 0, .int .i64 0, .int .i64 0, .int .i64 0, .int .i64 0, .int .i64 0, .int .i64 0, .int .i64 0, .int .i64 0, .int .i64 0, .int .i64 0, .int .i64 0, .int .i64 0] 23).alloc (by simp) #[.int .i64 x, .int .i64 y, .int .i64 z] 3)
  cases hw : Vc.wi 16777216 (Vc.v4 x y z 0) 3
  · go_enter Try.func16, Try.ntmps16
    go_wp2_with (first
      | (go_at_call 20; refine (within_any 16777216 (Vc.v4 x y z 0) 3 3 _ _ ?_ ?_ HC.out).mono ?_; omega; omega; rintro e w' ⟨rfl, rfl⟩)
      | (refine wpList_st rfl _ _ rfl _ rfl (fun _ => 0) (congrArg Value.agg Vc.ar_zero) (HZ.out.alloc (by omega) _ _) ?_; intro w2 hr2 hs2; have HR := Lib.hid hr2; have KK := Lib.hid (hs2.kp HK.out (by omega)); clear hr2 hs2))
    exact bodyPost_ret (results_m2 rfl rfl rfl HR.out) rfl ⟨rfl, KK.out⟩
  · go_enter Try.func16, Try.ntmps16
    go_wp2_with (first
      | (go_at_call 20; refine (within_any 16777216 (Vc.v4 x y z 0) 3 3 _ _ ?_ ?_ HC.out).mono ?_; omega; omega; rintro e w' ⟨rfl, rfl⟩)
      | (go_at_call 26; refine (diagonal_any (Vc.v4 x y z 65536) _).mono ?_; rintro e w1 ⟨rfl, hk1⟩; have HZ1 := Lib.hid ((HZ.out.alloc (by omega) _ _).call (by omega) hk1); have HK1 := Lib.hid (HK.out.next hk1); clear hk1)
      | (refine wpList_st rfl _ _ rfl _ rfl _ rfl HZ1.out ?_; intro w2 hr2 hs2; have HR := Lib.hid hr2; have KK := Lib.hid (hs2.kp HK1.out (by omega)); clear hr2 hs2))
    exact bodyPost_ret (results_m2 rfl rfl rfl HR.out) rfl ⟨rfl, KK.out⟩

theorem idx3 (x y z : Int) (w : World) : (Instr.index 40 (.agg #[.int .i64 x, .int .i64 y, .int .i64 z]) (.int .i64 0)).run Try.prog w = .ok (.int .i64 x) w ∧ (Instr.index 40 (.agg #[.int .i64 x, .int .i64 y, .int .i64 z]) (.int .i64 1)).run Try.prog w = .ok (.int .i64 y) w
    ∧ (Instr.index 40 (.agg #[.int .i64 x, .int .i64 y, .int .i64 z]) (.int .i64 2)).run Try.prog w = .ok (.int .i64 z) w := ⟨by kernel_rfl, by kernel_rfl, by kernel_rfl⟩

set_option maxHeartbeats 1000000 in
theorem move_no (x y z : Int) (w : World) (hw : Vc.wi 65536 (Vc.v4 x y z 0) 3 = false) :
    Calls Try.prog 15 #[.int .i64 x, .int .i64 y, .int .i64 z] w fun e w' => e = .returned (.tuple #[.agg (Vc.ar (fun _ => 0)), .int .i64 3]) ∧ Kp w.heap.size w w' := by
  have HZ := Lib.hid (Rw.zero16 w 23 rfl)
  have HC := Lib.hid (cells3 (w.alloc (.cells #[.int .i64 0, .int .i64 0, .int .i64 0, .int .i64 0, .int .i64 0, .int .i64 0, .int .i64 0, .int .i64 0, .int .i64 0, .int .i64 0, .int .i64 0, .int .i64 0, .int .i64 0, .int .i64 0, .int .i64 0, .int .i64 0] 23)) x y z 3 (b := w.heap.size + 1) (by simp))
  have HK := Lib.hid (((Kp.refl w.heap.size w).alloc (Nat.le_refl _) #[.int .i64 0, .int .i64 0, .int .i64 0, .int .i64 0, .int .i64 0, .int .i64 0, .int .i64 0, .int .i64 0, .int .i64 0, .int .i64 0, .int .i64 0, .int .i64 0, .int .i64 0, .int .i64 0, .int .i64 0, .int .i64 0] 23).alloc (by simp) #[.int .i64 x, .int .i64 y, .int .i64 z] 3)
  go_enter Try.func15, Try.ntmps15
  go_wp2_with (first
    | (go_at_call 20; refine (within_any 65536 (Vc.v4 x y z 0) 3 3 _ _ ?_ ?_ HC.out).mono ?_; omega; omega; rintro e w' ⟨rfl, rfl⟩)
    | (refine wpList_st rfl _ _ rfl _ rfl (fun _ => 0) (congrArg Value.agg Vc.ar_zero) (HZ.out.alloc (by omega) _ _) ?_; intro w2 hr2 hs2; have HR := Lib.hid hr2; have KK := Lib.hid (hs2.kp HK.out (by omega)); clear hr2 hs2))
  exact bodyPost_ret (results_m2 rfl rfl rfl HR.out) rfl ⟨rfl, KK.out⟩

set_option maxHeartbeats 4000000 in
theorem move_yes (x y z : Int) (w : World) (hw : Vc.wi 65536 (Vc.v4 x y z 0) 3 = true) :
    Calls Try.prog 15 #[.int .i64 x, .int .i64 y, .int .i64 z] w fun e w' => e = .returned (.tuple #[.agg (Vc.ar (Vc.mov x y z)), .int .i64 0]) ∧ Kp w.heap.size w w' := by
  have HZ := Lib.hid (Rw.zero16 w 23 rfl)
  have HC := Lib.hid (cells3 (w.alloc (.cells #[.int .i64 0, .int .i64 0, .int .i64 0, .int .i64 0, .int .i64 0, .int .i64 0, .int .i64 0, .int .i64 0, .int .i64 0, .int .i64 0, .int .i64 0, .int .i64 0, .int .i64 0, .int .i64 0, .int .i64 0, .int .i64 0] 23)) x y z 3 (b := w.heap.size + 1) (by simp))
  have HK := Lib.hid (((Kp.refl w.heap.size w).alloc (Nat.le_refl _) #[.int .i64 0, .int .i64 0, .int .i64 0, .int .i64 0, .int .i64 0, .int .i64 0, .int .i64 0, .int .i64 0, .int .i64 0, .int .i64 0, .int .i64 0, .int .i64 0, .int .i64 0, .int .i64 0, .int .i64 0, .int .i64 0] 23).alloc (by simp) #[.int .i64 x, .int .i64 y, .int .i64 z] 3)
  have HW := Vc.wi_all hw
  obtain ⟨x1, x2⟩ : -65536 ≤ x ∧ x ≤ 65536 := HW 0 (by omega)
  obtain ⟨y1, y2⟩ : -65536 ≤ y ∧ y ≤ 65536 := HW 1 (by omega)
  obtain ⟨z1, z2⟩ : -65536 ≤ z ∧ z ≤ 65536 := HW 2 (by omega)
  clear HW
  have i0 := fun w => (idx3 x y z w).1
  have i1 := fun w => (idx3 x y z w).2.1
  have i2 := fun w => (idx3 x y z w).2.2
  go_enter Try.func15, Try.ntmps15
  go_wp2_with (first
    | (go_at_call 20; refine (within_any 65536 (Vc.v4 x y z 0) 3 3 _ _ ?_ ?_ HC.out).mono ?_; omega; omega; rintro e w' ⟨rfl, rfl⟩)
    | (go_at_call 12; refine (identity_any _).mono ?_; rintro e w1 ⟨rfl, hk1⟩; have hz1 := hk1.size; have HZ1 := Lib.hid ((HZ.out.alloc (by omega) _ _).call (by omega) hk1); have HK1 := Lib.hid (HK.out.next hk1); clear hk1; simp at hz1)
    | (refine wpList_st rfl _ _ rfl _ rfl _ rfl (Rw.zero16 w1 _ rfl) ?_; intro w2 hr2 hs2; have HR := Lib.hid hr2; have HZ2 := Lib.hid (hs2.rw (HZ1.out.alloc (by omega) _ _) (by omega)); have KK := Lib.hid (hs2.kp (HK1.out.alloc (by omega) _ _) (by omega)); clear hr2 hs2))
  go_loopw [23] (fun i wr => ∃ k : Nat, k ≤ 3 ∧ i = .int .i64 k ∧ Rw 16 wr w1.heap.size (Vc.mk x y z k) ∧ Rw 16 wr w.heap.size (fun _ => 0) ∧ Kp w.heap.size w wr) (fun i _ => 3 - (intOf i).toNat)
  case atStart => exact ⟨0, by omega, rfl, HR.out.congr (fun j _ => (Vc.mk_zero x y z j).symm), HZ2.out, KK.out⟩
  case round =>
    obtain ⟨k, hk, rfl, hM, hZ, hK⟩ := hrel
    have hc := hM.cell
    have hf := hM.froz
    have HM := Lib.hid hM
    have HY := Lib.hid hZ
    have HL := Lib.hid hK
    clear hM hZ hK
    by_cases hlt : k < 3
    · have HS := Lib.hid (HM.out.set (k := 4 * k + 3) (by omega) (256 * Vc.v4 x y z 0 k))
      obtain rfl | rfl | rfl : k = 0 ∨ k = 1 ∨ k = 2 := by omega
      all_goals
        go_wp2_with ((go_at_call 25; refine (at_any _ _ _ ?_ ?_).mono ?_; omega; omega; rintro e w' ⟨rfl, rfl⟩))
        refine ⟨⟨_, ?_, ?_, HS.out.congr (fun j _ => Vc.mk_succ x y z), HY.out.other (by first | (simp; done) | (simp; omega)) _, HL.out.setCell (by first | (simp; done) | (simp; omega)) _⟩, ?_⟩
        · omega
        · rfl
        · simp [intOf]
    · obtain rfl : k = 3 := by omega
      go_wp2_with (first | (refine wpList_ld rfl _ rfl _ rfl _ HM.out ?_) | (refine wpList_st rfl _ _ rfl _ rfl _ rfl HY.out ?_; intro w4 hr4 hs4; have HR4 := Lib.hid hr4; have KK4 := Lib.hid (hs4.kp HL.out (by omega)); clear hr4 hs4))
      exact bodyPost_ret (results_m2 rfl rfl rfl HR4.out) rfl ⟨rfl, KK4.out⟩
end Go.Proofs.Ytbhdmfoigilibaa
