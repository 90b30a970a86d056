/-
  Contracts of the document's own answers for layer 5: a vector that is moved.
-/
import Derived.Test.YtbhdmfoigilibaaVecRefRow
import Derived.Test.YtbhdmfoigilibaaVecApply
namespace Go.Proofs.Ytbhdmfoigilibaa
open Go.RowKit

set_option linter.unusedSimpArgs false in
set_option maxHeartbeats 4000000 in
theorem rapply_any (m v : Nat → Int) (w : World) (hm : ∀ j, j < 16 → -16777216 ≤ m j ∧ m j ≤ 16777216) (hv : ∀ j, j < 4 → -1073741824 ≤ v j ∧ v j ≤ 1073741824) :
    Calls Try.prog 10 #[.agg (Vc.ar (m)), .agg #[.int .i64 (v 0), .int .i64 (v 1), .int .i64 (v 2), .int .i64 (v 3)]] w fun e w' => e = .returned (.agg #[.int .i64 ((Vc.app m v) 0), .int .i64 ((Vc.app m v) 1), .int .i64 ((Vc.app m v) 2), .int .i64 ((Vc.app m v) 3)]) ∧ Kp w.heap.size w w' := by
  have HA := Lib.hid (Ap.new w m v 23 25 25)
  have HM := Lib.hid hm
  have HV := Lib.hid hv
  clear hm hv
  go_enter Try.func10, Try.ntmps10
  go_upto_region 1 with fail
  generalize hw0 : ((w.alloc (.cells (Vc.ar m) 23)).alloc (.cells #[.int .i64 (v 0), .int .i64 (v 1), .int .i64 (v 2), .int .i64 (v 3)] 25)).alloc (.cells #[.int .i64 0, .int .i64 0, .int .i64 0, .int .i64 0] 25) = W0 at *
  clear hw0
  refine Rg.region (I := fun _ W => Kp W0.heap.size W0 W) (dem := fun _ => false) (m := 13) (g := 1) (T := fun listed bs a => ∀ W, Kp W0.heap.size W0 W → wpAny Try.prog .any _ _ 1 listed a W) (by kernel_rfl) (Kp.refl _ _).drew rfl (fun _ _ _ _ h hI => h _ hI) ?_
  refine Rg.take 0 (v := .agg (Vc.ar m)) rfl rfl (by kernel_rfl) (by kernel_rfl) (by kernel_rfl) (by kernel_rfl) (by kernel_rfl) (.inl ⟨rfl, fun bs wq hI => ?_⟩) ?_
  · exact quiet_ldM (b := w.heap.size) (.tmp 2) rfl rfl (HA.out.call hI).m
  simp only [Act.put, List.getElem_toArray, List.getElem_cons_zero, List.getElem_cons_succ, List.setIfInBounds_toArray, List.set_cons_zero, List.set_cons_succ]
  refine Rg.take 1 (v := .agg #[.int .i64 (v 0), .int .i64 (v 1), .int .i64 (v 2), .int .i64 (v 3)]) rfl rfl (by kernel_rfl) (by kernel_rfl) (by kernel_rfl) (by kernel_rfl) (by kernel_rfl) (.inl ⟨rfl, fun bs wq hI => ?_⟩) ?_
  · exact quiet_ld4 four_vec (b := w.heap.size + 1) (f := v) (.tmp 3) rfl rfl (HA.out.call hI).v
  simp only [Act.put, List.getElem_toArray, List.getElem_cons_zero, List.getElem_cons_succ, List.setIfInBounds_toArray, List.set_cons_zero, List.set_cons_succ]
  refine Rg.take 2 (v := .int .i64 (Vc.app m v 0)) rfl rfl (by kernel_rfl) (by kernel_rfl) (by kernel_rfl) (by kernel_rfl) (by kernel_rfl) (.inl ⟨rfl, fun bs wq hI => ?_⟩) ?_
  · (go_simp; exact (rrow_any m v 0 (by omega) _ HM.out HV.out).mono fun e w2 h => ⟨h.1, hI.next h.2⟩)
  simp only [Act.put, List.getElem_toArray, List.getElem_cons_zero, List.getElem_cons_succ, List.setIfInBounds_toArray, List.set_cons_zero, List.set_cons_succ]
  refine Rg.take 3 (v := .agg (Vc.ar m)) rfl rfl (by kernel_rfl) (by kernel_rfl) (by kernel_rfl) (by kernel_rfl) (by kernel_rfl) (.inl ⟨rfl, fun bs wq hI => ?_⟩) ?_
  · exact quiet_ldM (b := w.heap.size) (.tmp 2) rfl rfl (HA.out.call hI).m
  simp only [Act.put, List.getElem_toArray, List.getElem_cons_zero, List.getElem_cons_succ, List.setIfInBounds_toArray, List.set_cons_zero, List.set_cons_succ]
  refine Rg.take 4 (v := .agg #[.int .i64 (v 0), .int .i64 (v 1), .int .i64 (v 2), .int .i64 (v 3)]) rfl rfl (by kernel_rfl) (by kernel_rfl) (by kernel_rfl) (by kernel_rfl) (by kernel_rfl) (.inl ⟨rfl, fun bs wq hI => ?_⟩) ?_
  · exact quiet_ld4 four_vec (b := w.heap.size + 1) (f := v) (.tmp 3) rfl rfl (HA.out.call hI).v
  simp only [Act.put, List.getElem_toArray, List.getElem_cons_zero, List.getElem_cons_succ, List.setIfInBounds_toArray, List.set_cons_zero, List.set_cons_succ]
  refine Rg.take 5 (v := .int .i64 (Vc.app m v 1)) rfl rfl (by kernel_rfl) (by kernel_rfl) (by kernel_rfl) (by kernel_rfl) (by kernel_rfl) (.inl ⟨rfl, fun bs wq hI => ?_⟩) ?_
  · (go_simp; exact (rrow_any m v 1 (by omega) _ HM.out HV.out).mono fun e w2 h => ⟨h.1, hI.next h.2⟩)
  simp only [Act.put, List.getElem_toArray, List.getElem_cons_zero, List.getElem_cons_succ, List.setIfInBounds_toArray, List.set_cons_zero, List.set_cons_succ]
  refine Rg.take 6 (v := .agg (Vc.ar m)) rfl rfl (by kernel_rfl) (by kernel_rfl) (by kernel_rfl) (by kernel_rfl) (by kernel_rfl) (.inl ⟨rfl, fun bs wq hI => ?_⟩) ?_
  · exact quiet_ldM (b := w.heap.size) (.tmp 2) rfl rfl (HA.out.call hI).m
  simp only [Act.put, List.getElem_toArray, List.getElem_cons_zero, List.getElem_cons_succ, List.setIfInBounds_toArray, List.set_cons_zero, List.set_cons_succ]
  refine Rg.take 7 (v := .agg #[.int .i64 (v 0), .int .i64 (v 1), .int .i64 (v 2), .int .i64 (v 3)]) rfl rfl (by kernel_rfl) (by kernel_rfl) (by kernel_rfl) (by kernel_rfl) (by kernel_rfl) (.inl ⟨rfl, fun bs wq hI => ?_⟩) ?_
  · exact quiet_ld4 four_vec (b := w.heap.size + 1) (f := v) (.tmp 3) rfl rfl (HA.out.call hI).v
  simp only [Act.put, List.getElem_toArray, List.getElem_cons_zero, List.getElem_cons_succ, List.setIfInBounds_toArray, List.set_cons_zero, List.set_cons_succ]
  refine Rg.take 8 (v := .int .i64 (Vc.app m v 2)) rfl rfl (by kernel_rfl) (by kernel_rfl) (by kernel_rfl) (by kernel_rfl) (by kernel_rfl) (.inl ⟨rfl, fun bs wq hI => ?_⟩) ?_
  · (go_simp; exact (rrow_any m v 2 (by omega) _ HM.out HV.out).mono fun e w2 h => ⟨h.1, hI.next h.2⟩)
  simp only [Act.put, List.getElem_toArray, List.getElem_cons_zero, List.getElem_cons_succ, List.setIfInBounds_toArray, List.set_cons_zero, List.set_cons_succ]
  refine Rg.take 9 (v := .agg (Vc.ar m)) rfl rfl (by kernel_rfl) (by kernel_rfl) (by kernel_rfl) (by kernel_rfl) (by kernel_rfl) (.inl ⟨rfl, fun bs wq hI => ?_⟩) ?_
  · exact quiet_ldM (b := w.heap.size) (.tmp 2) rfl rfl (HA.out.call hI).m
  simp only [Act.put, List.getElem_toArray, List.getElem_cons_zero, List.getElem_cons_succ, List.setIfInBounds_toArray, List.set_cons_zero, List.set_cons_succ]
  refine Rg.take 10 (v := .agg #[.int .i64 (v 0), .int .i64 (v 1), .int .i64 (v 2), .int .i64 (v 3)]) rfl rfl (by kernel_rfl) (by kernel_rfl) (by kernel_rfl) (by kernel_rfl) (by kernel_rfl) (.inl ⟨rfl, fun bs wq hI => ?_⟩) ?_
  · exact quiet_ld4 four_vec (b := w.heap.size + 1) (f := v) (.tmp 3) rfl rfl (HA.out.call hI).v
  simp only [Act.put, List.getElem_toArray, List.getElem_cons_zero, List.getElem_cons_succ, List.setIfInBounds_toArray, List.set_cons_zero, List.set_cons_succ]
  refine Rg.take 11 (v := .int .i64 (Vc.app m v 3)) rfl rfl (by kernel_rfl) (by kernel_rfl) (by kernel_rfl) (by kernel_rfl) (by kernel_rfl) (.inl ⟨rfl, fun bs wq hI => ?_⟩) ?_
  · (go_simp; exact (rrow_any m v 3 (by omega) _ HM.out HV.out).mono fun e w2 h => ⟨h.1, hI.next h.2⟩)
  simp only [Act.put, List.getElem_toArray, List.getElem_cons_zero, List.getElem_cons_succ, List.setIfInBounds_toArray, List.set_cons_zero, List.set_cons_succ]
  refine Rg.take 12 (v := .agg #[.int .i64 (Vc.app m v 0), .int .i64 (Vc.app m v 1), .int .i64 (Vc.app m v 2), .int .i64 (Vc.app m v 3)]) rfl rfl (by kernel_rfl) (by kernel_rfl) (by kernel_rfl) (by kernel_rfl) (by kernel_rfl) (.inl ⟨rfl, fun bs wq hI => ?_⟩) ?_
  · go_simp
  simp only [Act.put, List.getElem_toArray, List.getElem_cons_zero, List.getElem_cons_succ, List.setIfInBounds_toArray, List.set_cons_zero, List.set_cons_succ]
  refine Rg.done (rs := [13]) (by kernel_rfl) (by decide) (fun W hI => ?_)
  have hB := (HA.out.call hI).r
  have d0 := hB.cell 0 (by omega); have d1 := hB.cell 1 (by omega); have d2 := hB.cell 2 (by omega); have d3 := hB.cell 3 (by omega)
  have f0 := hB.froz 0 (by omega); have f1 := hB.froz 1 (by omega); have f2 := hB.froz 2 (by omega); have f3 := hB.froz 3 (by omega)
  have KK := Lib.hid (HA.out.call hI).k
  clear hI hB
  refine wpAny_ready (rs := [13]) (by kernel_rfl) (by simp) (AllReady.cons (o := _) rfl (fun K hK => ?_) AllReady.nil)
  go_simp
  refine hK _ _ ?_
  clear hK K
  refine wpAny_done (by kernel_rfl) ?_ _
  go_wp2_with fail
  refine bodyPost_ret (v := .agg #[.int .i64 ((Vc.app m v) 0), .int .i64 ((Vc.app m v) 1), .int .i64 ((Vc.app m v) 2), .int .i64 ((Vc.app m v) 3)]) (by simp [results, Try.results10, go_sem, *]) rfl ⟨rfl, ?_⟩
  exact (((KK.out.setCell (by simp; omega) _).setCell (by simp; omega) _).setCell (by simp; omega) _).setCell (by simp; omega) _
end Go.Proofs.Ytbhdmfoigilibaa
