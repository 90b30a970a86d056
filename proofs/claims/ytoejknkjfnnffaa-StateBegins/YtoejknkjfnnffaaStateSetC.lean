/-
  Contracts of layer 18 (state): what single commands set (a matrix).
-/
import Derived.Test.YtoejknkjfnnffaaStateCopy
import Derived.Test.YtoejknkjfnnffaaJRegionOw
import Derived.Test.YtoejknkjfnnffaaJDepthPlain
import Derived.BigGuard
namespace Go.Proofs.Ytoejknkjfnnffaa
open Go.RowKit

set_option linter.unusedSimpArgs false in
set_option maxRecDepth 100000 in
set_option maxHeartbeats 8000000 in
theorem setMat_any (s : Sf) (p q : Bool) (c : Sf) (l : List Int) (v u : Value) (w0 w : World) (pb : Nat) (ms : List (Nat × List Value)) (ho : Ow w0 w ((pb, [.int .i64 (s 0), .int .i64 (s 1), .int .i64 (s 2), .int .i64 (s 3), .int .i64 (s 4), .int .i64 (s 5), .int .i64 (s 6), .int .i64 (s 7), .int .i64 (s 8), .int .i64 (s 9), .int .i64 (s 10), .int .i64 (s 11), .int .i64 (s 12), .int .i64 (s 13), .int .i64 (s 14), .int .i64 (s 15), .int .i64 (s 16), .int .i64 (s 17), .int .i64 (s 18), .int .i64 (s 19), .int .i64 (s 20), .int .i64 (s 21), .int .i64 (s 22), .int .i64 (s 23), .int .i64 (s 24), .bool p, .int .i64 (s 26), .int .i64 (s 27), .int .i64 (s 28), .int .i64 (s 29), .int .i64 (s 30), .int .i64 (s 31), .int .i64 (s 32), .int .i64 (s 33), .int .i64 (s 34), .int .i64 (s 35), .int .i64 (s 36), .int .i64 (s 37), .int .i64 (s 38), .int .i64 (s 39), .bool q]) :: ms)) (hS : Sl w0 v (iv l)) :
    Calls Try.prog 40 #[.pointer (some ⟨pb, 0, none⟩), .agg #[.int .i64 (c 0), .int .i64 (c 1), .int .i64 (c 2), .int .i64 (c 3), .int .i64 (c 4), .int .i64 (c 5), v, u]] w fun e w' => e = .returned (.int .i64 (Sx.eMat l)) ∧ Ow w0 w' ((pb, [.int .i64 ((Sx.mat s l) 0), .int .i64 ((Sx.mat s l) 1), .int .i64 ((Sx.mat s l) 2), .int .i64 ((Sx.mat s l) 3), .int .i64 ((Sx.mat s l) 4), .int .i64 ((Sx.mat s l) 5), .int .i64 ((Sx.mat s l) 6), .int .i64 ((Sx.mat s l) 7), .int .i64 ((Sx.mat s l) 8), .int .i64 ((Sx.mat s l) 9), .int .i64 ((Sx.mat s l) 10), .int .i64 ((Sx.mat s l) 11), .int .i64 ((Sx.mat s l) 12), .int .i64 ((Sx.mat s l) 13), .int .i64 ((Sx.mat s l) 14), .int .i64 ((Sx.mat s l) 15), .int .i64 ((Sx.mat s l) 16), .int .i64 ((Sx.mat s l) 17), .int .i64 ((Sx.mat s l) 18), .int .i64 ((Sx.mat s l) 19), .int .i64 ((Sx.mat s l) 20), .int .i64 ((Sx.mat s l) 21), .int .i64 ((Sx.mat s l) 22), .int .i64 ((Sx.mat s l) 23), .int .i64 ((Sx.mat s l) 24), .bool p, .int .i64 ((Sx.mat s l) 26), .int .i64 ((Sx.mat s l) 27), .int .i64 ((Sx.mat s l) 28), .int .i64 ((Sx.mat s l) 29), .int .i64 ((Sx.mat s l) 30), .int .i64 ((Sx.mat s l) 31), .int .i64 ((Sx.mat s l) 32), .int .i64 ((Sx.mat s l) 33), .int .i64 ((Sx.mat s l) 34), .int .i64 ((Sx.mat s l) 35), .int .i64 ((Sx.mat s l) 36), .int .i64 ((Sx.mat s l) 37), .int .i64 ((Sx.mat s l) 38), .int .i64 ((Sx.mat s l) 39), .bool q]) :: ms) := by
  have L1 := fun W => lengthOf_sl 16 hS W
  have C1 := fun W => cellsOf_any (Sx.mat s l) W
  have HR := Lib.hid (Sx.eMat_fst s l)
  have HM := Lib.hid (Sx.mat_cells s p q l)
  generalize Sx.mat s l = t at *
  generalize Sx.cell t = e2 at *
  generalize Sx.len l.length 16 = e1 at *
  generalize Sx.eMat l = r at *
  have HO := Lib.hid (ho.newAt w.heap.size rfl (.int .i64 (c 0)) [.int .i64 (c 1), .int .i64 (c 2), .int .i64 (c 3), .int .i64 (c 4), .int .i64 (c 5), v, u] 35)
  clear ho
  go_enter Try.func40, Try.ntmps40
  go_upto_region 1 with fail
  refine Rg.region (I := fun _ W => Ow w0 W ((w.heap.size, [.int .i64 (c 0), .int .i64 (c 1), .int .i64 (c 2), .int .i64 (c 3), .int .i64 (c 4), .int .i64 (c 5), v, u]) :: (pb, [.int .i64 (s 0), .int .i64 (s 1), .int .i64 (s 2), .int .i64 (s 3), .int .i64 (s 4), .int .i64 (s 5), .int .i64 (s 6), .int .i64 (s 7), .int .i64 (s 8), .int .i64 (s 9), .int .i64 (s 10), .int .i64 (s 11), .int .i64 (s 12), .int .i64 (s 13), .int .i64 (s 14), .int .i64 (s 15), .int .i64 (s 16), .int .i64 (s 17), .int .i64 (s 18), .int .i64 (s 19), .int .i64 (s 20), .int .i64 (s 21), .int .i64 (s 22), .int .i64 (s 23), .int .i64 (s 24), .bool p, .int .i64 (s 26), .int .i64 (s 27), .int .i64 (s 28), .int .i64 (s 29), .int .i64 (s 30), .int .i64 (s 31), .int .i64 (s 32), .int .i64 (s 33), .int .i64 (s 34), .int .i64 (s 35), .int .i64 (s 36), .int .i64 (s 37), .int .i64 (s 38), .int .i64 (s 39), .bool q]) :: ms)) (dem := fun _ => false) (m := 6) (g := 1) (T := fun listed bs st => ∀ W, Ow w0 W ((w.heap.size, [.int .i64 (c 0), .int .i64 (c 1), .int .i64 (c 2), .int .i64 (c 3), .int .i64 (c 4), .int .i64 (c 5), v, u]) :: (pb, [.int .i64 (s 0), .int .i64 (s 1), .int .i64 (s 2), .int .i64 (s 3), .int .i64 (s 4), .int .i64 (s 5), .int .i64 (s 6), .int .i64 (s 7), .int .i64 (s 8), .int .i64 (s 9), .int .i64 (s 10), .int .i64 (s 11), .int .i64 (s 12), .int .i64 (s 13), .int .i64 (s 14), .int .i64 (s 15), .int .i64 (s 16), .int .i64 (s 17), .int .i64 (s 18), .int .i64 (s 19), .int .i64 (s 20), .int .i64 (s 21), .int .i64 (s 22), .int .i64 (s 23), .int .i64 (s 24), .bool p, .int .i64 (s 26), .int .i64 (s 27), .int .i64 (s 28), .int .i64 (s 29), .int .i64 (s 30), .int .i64 (s 31), .int .i64 (s 32), .int .i64 (s 33), .int .i64 (s 34), .int .i64 (s 35), .int .i64 (s 36), .int .i64 (s 37), .int .i64 (s 38), .int .i64 (s 39), .bool q]) :: ms) → wpAny Try.prog .any _ _ 1 listed st W) (by kernel_rfl) HO.out.drew rfl (fun _ _ _ _ h hI => h _ hI) ?_
  clear HO
  refine Rg.take 0 (v := .pointer (some ⟨pb, 0, none⟩)) rfl rfl (by kernel_rfl) (by kernel_rfl) (by kernel_rfl) (by kernel_rfl) (by kernel_rfl) (.inl ⟨rfl, fun bs wq hI => ?_⟩) ?_
  · go_simp
  simp only [Act.put, List.getElem_toArray, List.getElem_cons_zero, List.getElem_cons_succ, List.setIfInBounds_toArray, List.set_cons_zero, List.set_cons_succ]
  refine Rg.take 1 (v := .pointer (some ⟨pb, 0, none⟩)) rfl rfl (by kernel_rfl) (by kernel_rfl) (by kernel_rfl) (by kernel_rfl) (by kernel_rfl) (.inl ⟨rfl, fun bs wq hI => ?_⟩) ?_
  · go_simp
  simp only [Act.put, List.getElem_toArray, List.getElem_cons_zero, List.getElem_cons_succ, List.setIfInBounds_toArray, List.set_cons_zero, List.set_cons_succ]
  refine Rg.take 2 (v := .pointer (some ⟨pb, 0, none⟩)) rfl rfl (by kernel_rfl) (by kernel_rfl) (by kernel_rfl) (by kernel_rfl) (by kernel_rfl) (.inl ⟨rfl, fun bs wq hI => ?_⟩) ?_
  · go_simp
  simp only [Act.put, List.getElem_toArray, List.getElem_cons_zero, List.getElem_cons_succ, List.setIfInBounds_toArray, List.set_cons_zero, List.set_cons_succ]
  refine Rg.take 3 (v := .slice (some ⟨pb, 0, none⟩) 16 16) rfl rfl (by kernel_rfl) (by kernel_rfl) (by kernel_rfl) (by kernel_rfl) (by kernel_rfl) (.inl ⟨rfl, fun bs wq hI => ?_⟩) ?_
  · go_simp
  simp only [Act.put, List.getElem_toArray, List.getElem_cons_zero, List.getElem_cons_succ, List.setIfInBounds_toArray, List.set_cons_zero, List.set_cons_succ]
  refine Rg.take 4 (v := .pointer (some ⟨w.heap.size, 6, none⟩)) rfl rfl (by kernel_rfl) (by kernel_rfl) (by kernel_rfl) (by kernel_rfl) (by kernel_rfl) (.inl ⟨rfl, fun bs wq hI => ?_⟩) ?_
  · go_simp
  simp only [Act.put, List.getElem_toArray, List.getElem_cons_zero, List.getElem_cons_succ, List.setIfInBounds_toArray, List.set_cons_zero, List.set_cons_succ]
  refine Rg.take 5 (v := v) rfl rfl (by kernel_rfl) (by kernel_rfl) (by kernel_rfl) (by kernel_rfl) (by kernel_rfl) (.inl ⟨rfl, fun bs wq hI => ?_⟩) ?_
  · (have hc := (hI.at 0 rfl).cell 6 rfl; go_simp)
  simp only [Act.put, List.getElem_toArray, List.getElem_cons_zero, List.getElem_cons_succ, List.setIfInBounds_toArray, List.set_cons_zero, List.set_cons_succ]
  refine Rg.done (rs := [6]) (by kernel_rfl) (by decide) (fun W hI => ?_)
  refine wpAny_alone 6 (by kernel_rfl) rfl rfl (fun K1 hK1 => ?_)
  refine wp_copy hI 1 (.tmp 8) (.tmp 10) 32 32 rfl 3 Try.underlying32 (by kernel_rfl) pb 0 16 16 rfl v (iv l) rfl (hS.next hI.k) _ rfl (by simp) (iv_one l) (fun W2 k2 h2 => ?_)
  refine hK1 _ _ ?_
  clear hK1
  try simp only [Act.put, List.getElem_toArray, List.getElem_cons_zero, List.getElem_cons_succ, List.setIfInBounds_toArray, List.set_cons_zero, List.set_cons_succ]
  rw [HM.out] at h2
  have l2 : Ow w0 W2 ((w.heap.size, [.int .i64 (c 0), .int .i64 (c 1), .int .i64 (c 2), .int .i64 (c 3), .int .i64 (c 4), .int .i64 (c 5), v, u]) :: (pb, [.int .i64 (t 0), .int .i64 (t 1), .int .i64 (t 2), .int .i64 (t 3), .int .i64 (t 4), .int .i64 (t 5), .int .i64 (t 6), .int .i64 (t 7), .int .i64 (t 8), .int .i64 (t 9), .int .i64 (t 10), .int .i64 (t 11), .int .i64 (t 12), .int .i64 (t 13), .int .i64 (t 14), .int .i64 (t 15), .int .i64 (t 16), .int .i64 (t 17), .int .i64 (t 18), .int .i64 (t 19), .int .i64 (t 20), .int .i64 (t 21), .int .i64 (t 22), .int .i64 (t 23), .int .i64 (t 24), .bool p, .int .i64 (t 26), .int .i64 (t 27), .int .i64 (t 28), .int .i64 (t 29), .int .i64 (t 30), .int .i64 (t 31), .int .i64 (t 32), .int .i64 (t 33), .int .i64 (t 34), .int .i64 (t 35), .int .i64 (t 36), .int .i64 (t 37), .int .i64 (t 38), .int .i64 (t 39), .bool q]) :: ms) := h2
  have HO := Lib.hid l2
  clear l2 h2 hI HM
  refine wpAny_done (by kernel_rfl) ?_ _
  go_upto_region 2 with fail
  refine Rg.region (I := fun _ W => Ow w0 W ((w.heap.size, [.int .i64 (c 0), .int .i64 (c 1), .int .i64 (c 2), .int .i64 (c 3), .int .i64 (c 4), .int .i64 (c 5), v, u]) :: (pb, [.int .i64 (t 0), .int .i64 (t 1), .int .i64 (t 2), .int .i64 (t 3), .int .i64 (t 4), .int .i64 (t 5), .int .i64 (t 6), .int .i64 (t 7), .int .i64 (t 8), .int .i64 (t 9), .int .i64 (t 10), .int .i64 (t 11), .int .i64 (t 12), .int .i64 (t 13), .int .i64 (t 14), .int .i64 (t 15), .int .i64 (t 16), .int .i64 (t 17), .int .i64 (t 18), .int .i64 (t 19), .int .i64 (t 20), .int .i64 (t 21), .int .i64 (t 22), .int .i64 (t 23), .int .i64 (t 24), .bool p, .int .i64 (t 26), .int .i64 (t 27), .int .i64 (t 28), .int .i64 (t 29), .int .i64 (t 30), .int .i64 (t 31), .int .i64 (t 32), .int .i64 (t 33), .int .i64 (t 34), .int .i64 (t 35), .int .i64 (t 36), .int .i64 (t 37), .int .i64 (t 38), .int .i64 (t 39), .bool q]) :: ms)) (dem := fun _ => false) (m := 8) (g := 3) (T := fun listed bs st => ∀ W, Ow w0 W ((w.heap.size, [.int .i64 (c 0), .int .i64 (c 1), .int .i64 (c 2), .int .i64 (c 3), .int .i64 (c 4), .int .i64 (c 5), v, u]) :: (pb, [.int .i64 (t 0), .int .i64 (t 1), .int .i64 (t 2), .int .i64 (t 3), .int .i64 (t 4), .int .i64 (t 5), .int .i64 (t 6), .int .i64 (t 7), .int .i64 (t 8), .int .i64 (t 9), .int .i64 (t 10), .int .i64 (t 11), .int .i64 (t 12), .int .i64 (t 13), .int .i64 (t 14), .int .i64 (t 15), .int .i64 (t 16), .int .i64 (t 17), .int .i64 (t 18), .int .i64 (t 19), .int .i64 (t 20), .int .i64 (t 21), .int .i64 (t 22), .int .i64 (t 23), .int .i64 (t 24), .bool p, .int .i64 (t 26), .int .i64 (t 27), .int .i64 (t 28), .int .i64 (t 29), .int .i64 (t 30), .int .i64 (t 31), .int .i64 (t 32), .int .i64 (t 33), .int .i64 (t 34), .int .i64 (t 35), .int .i64 (t 36), .int .i64 (t 37), .int .i64 (t 38), .int .i64 (t 39), .bool q]) :: ms) → wpAny Try.prog .any _ _ 3 listed st W) (by kernel_rfl) HO.out.drew rfl (fun _ _ _ _ h hI => h _ hI) ?_
  clear HO
  refine Rg.take 0 (v := .pointer (some ⟨w.heap.size, 6, none⟩)) rfl rfl (by kernel_rfl) (by kernel_rfl) (by kernel_rfl) (by kernel_rfl) (by kernel_rfl) (.inl ⟨rfl, fun bs wq hI => ?_⟩) ?_
  · go_simp
  simp only [Act.put, List.getElem_toArray, List.getElem_cons_zero, List.getElem_cons_succ, List.setIfInBounds_toArray, List.set_cons_zero, List.set_cons_succ]
  refine Rg.take 1 (v := v) rfl rfl (by kernel_rfl) (by kernel_rfl) (by kernel_rfl) (by kernel_rfl) (by kernel_rfl) (.inl ⟨rfl, fun bs wq hI => ?_⟩) ?_
  · (have hc := (hI.at 0 rfl).cell 6 rfl; go_simp)
  simp only [Act.put, List.getElem_toArray, List.getElem_cons_zero, List.getElem_cons_succ, List.setIfInBounds_toArray, List.set_cons_zero, List.set_cons_succ]
  refine Rg.take 2 (v := .int .i64 e1) rfl rfl (by kernel_rfl) (by kernel_rfl) (by kernel_rfl) (by kernel_rfl) (by kernel_rfl) (.inl ⟨rfl, fun bs wq hI => ?_⟩) ?_
  · (go_simp; exact (L1 _).mono fun e w2 h => ⟨h.1, h.2 ▸ hI⟩)
  simp only [Act.put, List.getElem_toArray, List.getElem_cons_zero, List.getElem_cons_succ, List.setIfInBounds_toArray, List.set_cons_zero, List.set_cons_succ]
  refine Rg.take 3 (v := .pointer (some ⟨pb, 0, none⟩)) rfl rfl (by kernel_rfl) (by kernel_rfl) (by kernel_rfl) (by kernel_rfl) (by kernel_rfl) (.inl ⟨rfl, fun bs wq hI => ?_⟩) ?_
  · go_simp
  simp only [Act.put, List.getElem_toArray, List.getElem_cons_zero, List.getElem_cons_succ, List.setIfInBounds_toArray, List.set_cons_zero, List.set_cons_succ]
  refine Rg.take 4 (v := .pointer (some ⟨pb, 0, none⟩)) rfl rfl (by kernel_rfl) (by kernel_rfl) (by kernel_rfl) (by kernel_rfl) (by kernel_rfl) (.inl ⟨rfl, fun bs wq hI => ?_⟩) ?_
  · go_simp
  simp only [Act.put, List.getElem_toArray, List.getElem_cons_zero, List.getElem_cons_succ, List.setIfInBounds_toArray, List.set_cons_zero, List.set_cons_succ]
  refine Rg.take 5 (v := .pointer (some ⟨pb, 0, none⟩)) rfl rfl (by kernel_rfl) (by kernel_rfl) (by kernel_rfl) (by kernel_rfl) (by kernel_rfl) (.inl ⟨rfl, fun bs wq hI => ?_⟩) ?_
  · go_simp
  simp only [Act.put, List.getElem_toArray, List.getElem_cons_zero, List.getElem_cons_succ, List.setIfInBounds_toArray, List.set_cons_zero, List.set_cons_succ]
  refine Rg.take 6 (v := .agg #[.int .i64 (t 0), .int .i64 (t 1), .int .i64 (t 2), .int .i64 (t 3), .int .i64 (t 4), .int .i64 (t 5), .int .i64 (t 6), .int .i64 (t 7), .int .i64 (t 8), .int .i64 (t 9), .int .i64 (t 10), .int .i64 (t 11), .int .i64 (t 12), .int .i64 (t 13), .int .i64 (t 14), .int .i64 (t 15)]) rfl rfl (by kernel_rfl) (by kernel_rfl) (by kernel_rfl) (by kernel_rfl) (by kernel_rfl) (.inl ⟨rfl, fun bs wq hI => ?_⟩) ?_
  · exact quiet_ldo (vs := [.int .i64 (t 0), .int .i64 (t 1), .int .i64 (t 2), .int .i64 (t 3), .int .i64 (t 4), .int .i64 (t 5), .int .i64 (t 6), .int .i64 (t 7), .int .i64 (t 8), .int .i64 (t 9), .int .i64 (t 10), .int .i64 (t 11), .int .i64 (t 12), .int .i64 (t 13), .int .i64 (t 14), .int .i64 (t 15), .int .i64 (t 16), .int .i64 (t 17), .int .i64 (t 18), .int .i64 (t 19), .int .i64 (t 20), .int .i64 (t 21), .int .i64 (t 22), .int .i64 (t 23), .int .i64 (t 24), .bool p, .int .i64 (t 26), .int .i64 (t 27), .int .i64 (t 28), .int .i64 (t 29), .int .i64 (t 30), .int .i64 (t 31), .int .i64 (t 32), .int .i64 (t 33), .int .i64 (t 34), .int .i64 (t 35), .int .i64 (t 36), .int .i64 (t 37), .int .i64 (t 38), .int .i64 (t 39), .bool q]) (us := [.int .i64 (t 0), .int .i64 (t 1), .int .i64 (t 2), .int .i64 (t 3), .int .i64 (t 4), .int .i64 (t 5), .int .i64 (t 6), .int .i64 (t 7), .int .i64 (t 8), .int .i64 (t 9), .int .i64 (t 10), .int .i64 (t 11), .int .i64 (t 12), .int .i64 (t 13), .int .i64 (t 14), .int .i64 (t 15)]) ty_mat (.tmp 17) rfl rfl rfl rfl (hI.at 1 rfl)
  simp only [Act.put, List.getElem_toArray, List.getElem_cons_zero, List.getElem_cons_succ, List.setIfInBounds_toArray, List.set_cons_zero, List.set_cons_succ]
  refine Rg.take 7 (v := .int .i64 e2) rfl rfl (by kernel_rfl) (by kernel_rfl) (by kernel_rfl) (by kernel_rfl) (by kernel_rfl) (.inl ⟨rfl, fun bs wq hI => ?_⟩) ?_
  · (go_simp; exact (C1 _).mono fun e w2 h => ⟨h.1, hI.call h.2⟩)
  simp only [Act.put, List.getElem_toArray, List.getElem_cons_zero, List.getElem_cons_succ, List.setIfInBounds_toArray, List.set_cons_zero, List.set_cons_succ]
  refine Rg.done (rs := [8]) (by kernel_rfl) (by decide) (fun W hI => ?_)
  refine wpAny_alone 8 (by kernel_rfl) rfl rfl (fun K1 hK1 => ?_)
  go_simp
  refine hK1 _ _ ?_
  clear hK1
  try simp only [Act.put, List.getElem_toArray, List.getElem_cons_zero, List.getElem_cons_succ, List.setIfInBounds_toArray, List.set_cons_zero, List.set_cons_succ]
  have l2 := hI.newAt W.heap.size rfl (.int .i64 e1) [.int .i64 e2] 37
  clear hI
  generalize hV : World.alloc _ _ = V at *
  clear hV
  refine wpAny_alone 9 (by kernel_rfl) rfl rfl (fun K1 hK1 => ?_)
  go_simp
  refine (first_any [e1, e2] 2 2 W.heap.size _ rfl (by decide) (fun j v hj => (l2.at 0 rfl).cell j hj)).mono ?_
  rintro en wz ⟨rfl, rfl⟩
  refine hK1 _ _ ?_
  clear hK1
  try simp only [Act.put, List.getElem_toArray, List.getElem_cons_zero, List.getElem_cons_succ, List.setIfInBounds_toArray, List.set_cons_zero, List.set_cons_succ]
  refine wpAny_alone 10 (by kernel_rfl) rfl rfl (fun K1 hK1 => ?_)
  go_simp
  refine hK1 _ _ ?_
  clear hK1
  try simp only [Act.put, List.getElem_toArray, List.getElem_cons_zero, List.getElem_cons_succ, List.setIfInBounds_toArray, List.set_cons_zero, List.set_cons_succ]
  have HO := Lib.hid l2
  clear l2
  refine wpAny_done (by kernel_rfl) ?_ _
  go_wp2_with fail
  go_ret
  exact ⟨ret_int HR.out.symm, HO.out.drop1.drop1⟩
end Go.Proofs.Ytoejknkjfnnffaa
