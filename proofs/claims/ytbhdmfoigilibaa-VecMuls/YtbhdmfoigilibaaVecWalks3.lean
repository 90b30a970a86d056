/-
  Contracts of layer 5 (vec): rows and columns.
-/
import Derived.Test.YtbhdmfoigilibaaVecWalks2
namespace Go.Proofs.Ytbhdmfoigilibaa
open Go.RowKit

theorem at_here (i j : Int) (w : World) (hi : 0 ≤ i ∧ i ≤ 3) (hj : 0 ≤ j ∧ j ≤ 3) :
    Calls Try.prog 25 #[.int .i64 i, .int .i64 j] w fun e w' => e = .returned (.int .i64 (i * 4 + j)) ∧ w' = w :=
  (at_any i j w hi hj).mono fun _ _ h => ⟨h.1, h.2.symm⟩

set_option maxHeartbeats 4000000 in
theorem rowOf_any (m : Nat → Int) (i : Nat) (hi : i < 4) (w : World) :
    Calls Try.prog 22 #[.agg (Vc.ar (m)), .int .i64 i] w fun e w' => e = .returned (.agg #[.int .i64 ((Vc.row m i) 0), .int .i64 ((Vc.row m i) 1), .int .i64 ((Vc.row m i) 2), .int .i64 ((Vc.row m i) 3)]) ∧ Kp w.heap.size w w' := by
  obtain rfl | rfl | rfl | rfl : i = 0 ∨ i = 1 ∨ i = 2 ∨ i = 3 := by omega
  all_goals
    go_enter Try.func22, Try.ntmps22
    go_wp2
    refine wp_region_still_tail 17 (by kernel_rfl) (by kernel_rfl) ?_
    simp only [List.take_succ_cons, List.take_zero, List.drop_succ_cons, List.drop_zero]
    change wpStill _ _ (World.drew _) _ _ _
    generalize hw2 : World.drew _ = w2
    have hA : Rw 16 w2 w.heap.size m := by rw [← hw2]; exact ((Rw.new16 w m _ rfl).alloc (by omega) _ _).drew
    have hB : Rw 4 w2 (w.heap.size + 1) (fun _ => 0) := by rw [← hw2]; exact (Rw.new4 (w.alloc _) (fun _ => 0) _ (by simp)).drew
    have hK : Kp w.heap.size w w2 := by rw [← hw2]; exact (((Kp.refl _ _).alloc (Nat.le_refl _) _ _).alloc (by simp) _ _).drew
    have HW := Lib.hid hw2
    clear hw2
    have hc := hA.cell
    have d0 := hB.cell 0 (by omega); have d1 := hB.cell 1 (by omega); have d2 := hB.cell 2 (by omega); have d3 := hB.cell 3 (by omega)
    have f0 := hB.froz 0 (by omega); have f1 := hB.froz 1 (by omega); have f2 := hB.froz 2 (by omega); have f3 := hB.froz 3 (by omega)
    have KK := Lib.hid hK
    have HB := Lib.hid hB
    clear hA hB hK
    repeat still_step
    still_call (at_here _ _ _ (by omega) (by omega))
    repeat still_step
    still_call (at_here _ _ _ (by omega) (by omega))
    repeat still_step
    still_call (at_here _ _ _ (by omega) (by omega))
    repeat still_step
    still_call (at_here _ _ _ (by omega) (by omega))
    repeat still_step
    refine wpStill_nil ?_
    change wpList _ _ _ _ _ (World.drew _)
    rw [HW.out]
    clear HW
    go_wp2
    refine bodyPost_ret (by simp [results, Try.results22, go_sem, *]; exact ⟨rfl, rfl, rfl, rfl⟩) rfl ⟨rfl, ?_⟩
    exact (((KK.out.setCell (by simp) _).setCell (by simp) _).setCell (by simp) _).setCell (by simp) _

set_option maxHeartbeats 4000000 in
theorem columnOf_any (m : Nat → Int) (i : Nat) (hi : i < 4) (w : World) :
    Calls Try.prog 24 #[.agg (Vc.ar (m)), .int .i64 i] w fun e w' => e = .returned (.agg #[.int .i64 ((Vc.col m i) 0), .int .i64 ((Vc.col m i) 1), .int .i64 ((Vc.col m i) 2), .int .i64 ((Vc.col m i) 3)]) ∧ Kp w.heap.size w w' := by
  obtain rfl | rfl | rfl | rfl : i = 0 ∨ i = 1 ∨ i = 2 ∨ i = 3 := by omega
  all_goals
    go_enter Try.func24, Try.ntmps24
    go_wp2
    refine wp_region_still_tail 17 (by kernel_rfl) (by kernel_rfl) ?_
    simp only [List.take_succ_cons, List.take_zero, List.drop_succ_cons, List.drop_zero]
    change wpStill _ _ (World.drew _) _ _ _
    generalize hw2 : World.drew _ = w2
    have hA : Rw 16 w2 w.heap.size m := by rw [← hw2]; exact ((Rw.new16 w m _ rfl).alloc (by omega) _ _).drew
    have hB : Rw 4 w2 (w.heap.size + 1) (fun _ => 0) := by rw [← hw2]; exact (Rw.new4 (w.alloc _) (fun _ => 0) _ (by simp)).drew
    have hK : Kp w.heap.size w w2 := by rw [← hw2]; exact (((Kp.refl _ _).alloc (Nat.le_refl _) _ _).alloc (by simp) _ _).drew
    have HW := Lib.hid hw2
    clear hw2
    have hc := hA.cell
    have d0 := hB.cell 0 (by omega); have d1 := hB.cell 1 (by omega); have d2 := hB.cell 2 (by omega); have d3 := hB.cell 3 (by omega)
    have f0 := hB.froz 0 (by omega); have f1 := hB.froz 1 (by omega); have f2 := hB.froz 2 (by omega); have f3 := hB.froz 3 (by omega)
    have KK := Lib.hid hK
    have HB := Lib.hid hB
    clear hA hB hK
    repeat still_step
    still_call (at_here _ _ _ (by omega) (by omega))
    repeat still_step
    still_call (at_here _ _ _ (by omega) (by omega))
    repeat still_step
    still_call (at_here _ _ _ (by omega) (by omega))
    repeat still_step
    still_call (at_here _ _ _ (by omega) (by omega))
    repeat still_step
    refine wpStill_nil ?_
    change wpList _ _ _ _ _ (World.drew _)
    rw [HW.out]
    clear HW
    go_wp2
    refine bodyPost_ret (by simp [results, Try.results24, go_sem, *]; exact ⟨rfl, rfl, rfl, rfl⟩) rfl ⟨rfl, ?_⟩
    exact (((KK.out.setCell (by simp) _).setCell (by simp) _).setCell (by simp) _).setCell (by simp) _
end Go.Proofs.Ytbhdmfoigilibaa
