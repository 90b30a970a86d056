/-
  Contracts of layer 18 (state): what single commands set (a stencil test).
-/
import Derived.Test.YtoejknkjfnnffaaStateCopy
import Derived.Test.YtoejknkjfnnffaaJRegionOw
import Derived.Test.YtoejknkjfnnffaaJDepthPlain
import Derived.BigGuard
namespace Go.Proofs.Ytoejknkjfnnffaa
open Go.RowKit

set_option linter.unusedSimpArgs false in
set_option maxRecDepth 100000 in
set_option maxHeartbeats 8000000 in
theorem setSten_any (s : Sf) (p q : Bool) (c : Sf) (l : List Int) (v u : Value) (w0 w : World) (pb : Nat) (ms : List (Nat × List Value)) (ho : Ow w0 w ((pb, [.int .i64 (s 0), .int .i64 (s 1), .int .i64 (s 2), .int .i64 (s 3), .int .i64 (s 4), .int .i64 (s 5), .int .i64 (s 6), .int .i64 (s 7), .int .i64 (s 8), .int .i64 (s 9), .int .i64 (s 10), .int .i64 (s 11), .int .i64 (s 12), .int .i64 (s 13), .int .i64 (s 14), .int .i64 (s 15), .int .i64 (s 16), .int .i64 (s 17), .int .i64 (s 18), .int .i64 (s 19), .int .i64 (s 20), .int .i64 (s 21), .int .i64 (s 22), .int .i64 (s 23), .int .i64 (s 24), .bool p, .int .i64 (s 26), .int .i64 (s 27), .int .i64 (s 28), .int .i64 (s 29), .int .i64 (s 30), .int .i64 (s 31), .int .i64 (s 32), .int .i64 (s 33), .int .i64 (s 34), .int .i64 (s 35), .int .i64 (s 36), .int .i64 (s 37), .int .i64 (s 38), .int .i64 (s 39), .bool q]) :: ms)) (hS : Sl w0 v (iv l)) :
    Calls Try.prog 44 #[.pointer (some ⟨pb, 0, none⟩), .agg #[.int .i64 (c 0), .int .i64 (c 1), .int .i64 (c 2), .int .i64 (c 3), .int .i64 (c 4), .int .i64 (c 5), v, u]] w fun e w' => e = .returned (.int .i64 (Sx.eSten l)) ∧ Ow w0 w' ((pb, [.int .i64 ((Sx.sten s l) 0), .int .i64 ((Sx.sten s l) 1), .int .i64 ((Sx.sten s l) 2), .int .i64 ((Sx.sten s l) 3), .int .i64 ((Sx.sten s l) 4), .int .i64 ((Sx.sten s l) 5), .int .i64 ((Sx.sten s l) 6), .int .i64 ((Sx.sten s l) 7), .int .i64 ((Sx.sten s l) 8), .int .i64 ((Sx.sten s l) 9), .int .i64 ((Sx.sten s l) 10), .int .i64 ((Sx.sten s l) 11), .int .i64 ((Sx.sten s l) 12), .int .i64 ((Sx.sten s l) 13), .int .i64 ((Sx.sten s l) 14), .int .i64 ((Sx.sten s l) 15), .int .i64 ((Sx.sten s l) 16), .int .i64 ((Sx.sten s l) 17), .int .i64 ((Sx.sten s l) 18), .int .i64 ((Sx.sten s l) 19), .int .i64 ((Sx.sten s l) 20), .int .i64 ((Sx.sten s l) 21), .int .i64 ((Sx.sten s l) 22), .int .i64 ((Sx.sten s l) 23), .int .i64 ((Sx.sten s l) 24), .bool p, .int .i64 ((Sx.sten s l) 26), .int .i64 ((Sx.sten s l) 27), .int .i64 ((Sx.sten s l) 28), .int .i64 ((Sx.sten s l) 29), .int .i64 ((Sx.sten s l) 30), .int .i64 ((Sx.sten s l) 31), .int .i64 ((Sx.sten s l) 32), .int .i64 ((Sx.sten s l) 33), .int .i64 ((Sx.sten s l) 34), .int .i64 ((Sx.sten s l) 35), .int .i64 ((Sx.sten s l) 36), .int .i64 ((Sx.sten s l) 37), .int .i64 ((Sx.sten s l) 38), .int .i64 ((Sx.sten s l) 39), .bool q]) :: ms) := by
  have L1 := fun W => lengthOf_sl 7 hS W
  have C1 := fun W => scheck_any (Sx.num l 0) (Sx.num l 1) (Sx.num l 2) (Sx.num l 3) (Sx.num l 4) (Sx.num l 5) (Sx.num l 6) W
  have HR := Lib.hid (Sx.eSten_fst l)
  have HM := Lib.hid (Sx.num_cells l)
  have HN : Hid (∀ w', Ow w0 w' ((pb, [.int .i64 (s 0), .int .i64 (s 1), .int .i64 (s 2), .int .i64 (s 3), .int .i64 (s 4), .int .i64 (s 5), .int .i64 (s 6), .int .i64 (s 7), .int .i64 (s 8), .int .i64 (s 9), .int .i64 (s 10), .int .i64 (s 11), .int .i64 (s 12), .int .i64 (s 13), .int .i64 (s 14), .int .i64 (s 15), .int .i64 (s 16), .int .i64 (s 17), .int .i64 (s 18), .int .i64 (s 19), .int .i64 (s 20), .int .i64 (s 21), .int .i64 (s 22), .int .i64 (s 23), .int .i64 (s 24), .bool p, .int .i64 ((Sx.num l) 0), .int .i64 ((Sx.num l) 1), .int .i64 ((Sx.num l) 2), .int .i64 ((Sx.num l) 3), .int .i64 ((Sx.num l) 4), .int .i64 ((Sx.num l) 5), .int .i64 ((Sx.num l) 6), .int .i64 (s 33), .int .i64 (s 34), .int .i64 (s 35), .int .i64 (s 36), .int .i64 (s 37), .int .i64 (s 38), .int .i64 (s 39), .bool q]) :: ms) → Ow w0 w' ((pb, [.int .i64 ((Sx.sten s l) 0), .int .i64 ((Sx.sten s l) 1), .int .i64 ((Sx.sten s l) 2), .int .i64 ((Sx.sten s l) 3), .int .i64 ((Sx.sten s l) 4), .int .i64 ((Sx.sten s l) 5), .int .i64 ((Sx.sten s l) 6), .int .i64 ((Sx.sten s l) 7), .int .i64 ((Sx.sten s l) 8), .int .i64 ((Sx.sten s l) 9), .int .i64 ((Sx.sten s l) 10), .int .i64 ((Sx.sten s l) 11), .int .i64 ((Sx.sten s l) 12), .int .i64 ((Sx.sten s l) 13), .int .i64 ((Sx.sten s l) 14), .int .i64 ((Sx.sten s l) 15), .int .i64 ((Sx.sten s l) 16), .int .i64 ((Sx.sten s l) 17), .int .i64 ((Sx.sten s l) 18), .int .i64 ((Sx.sten s l) 19), .int .i64 ((Sx.sten s l) 20), .int .i64 ((Sx.sten s l) 21), .int .i64 ((Sx.sten s l) 22), .int .i64 ((Sx.sten s l) 23), .int .i64 ((Sx.sten s l) 24), .bool p, .int .i64 ((Sx.sten s l) 26), .int .i64 ((Sx.sten s l) 27), .int .i64 ((Sx.sten s l) 28), .int .i64 ((Sx.sten s l) 29), .int .i64 ((Sx.sten s l) 30), .int .i64 ((Sx.sten s l) 31), .int .i64 ((Sx.sten s l) 32), .int .i64 ((Sx.sten s l) 33), .int .i64 ((Sx.sten s l) 34), .int .i64 ((Sx.sten s l) 35), .int .i64 ((Sx.sten s l) 36), .int .i64 ((Sx.sten s l) 37), .int .i64 ((Sx.sten s l) 38), .int .i64 ((Sx.sten s l) 39), .bool q]) :: ms)) := Lib.hid fun w' h => h
  generalize Sx.sten s l = t at *
  generalize Sx.num l = n at *
  generalize Sn.chk (n 0) (n 1) (n 2) (n 3) (n 4) (n 5) (n 6) = e2 at *
  generalize Sx.len l.length 7 = e1 at *
  generalize Sx.eSten l = r at *
  have HO := Lib.hid (ho.newAt w.heap.size rfl (.int .i64 (c 0)) [.int .i64 (c 1), .int .i64 (c 2), .int .i64 (c 3), .int .i64 (c 4), .int .i64 (c 5), v, u] 35)
  have l2 := HO.out.newAt (w.heap.size + 1) (by simp) (.int .i64 0) [.int .i64 0, .int .i64 0, .int .i64 0, .int .i64 0, .int .i64 0, .int .i64 0] 88
  clear HO
  have HO := Lib.hid l2
  clear l2
  clear ho
  go_enter Try.func44, Try.ntmps44
  go_upto_region 2 with fail
  refine Rg.region (I := fun _ W => Ow w0 W ((w.heap.size + 1, [.int .i64 0, .int .i64 0, .int .i64 0, .int .i64 0, .int .i64 0, .int .i64 0, .int .i64 0]) :: (w.heap.size, [.int .i64 (c 0), .int .i64 (c 1), .int .i64 (c 2), .int .i64 (c 3), .int .i64 (c 4), .int .i64 (c 5), v, u]) :: (pb, [.int .i64 (s 0), .int .i64 (s 1), .int .i64 (s 2), .int .i64 (s 3), .int .i64 (s 4), .int .i64 (s 5), .int .i64 (s 6), .int .i64 (s 7), .int .i64 (s 8), .int .i64 (s 9), .int .i64 (s 10), .int .i64 (s 11), .int .i64 (s 12), .int .i64 (s 13), .int .i64 (s 14), .int .i64 (s 15), .int .i64 (s 16), .int .i64 (s 17), .int .i64 (s 18), .int .i64 (s 19), .int .i64 (s 20), .int .i64 (s 21), .int .i64 (s 22), .int .i64 (s 23), .int .i64 (s 24), .bool p, .int .i64 (s 26), .int .i64 (s 27), .int .i64 (s 28), .int .i64 (s 29), .int .i64 (s 30), .int .i64 (s 31), .int .i64 (s 32), .int .i64 (s 33), .int .i64 (s 34), .int .i64 (s 35), .int .i64 (s 36), .int .i64 (s 37), .int .i64 (s 38), .int .i64 (s 39), .bool q]) :: ms)) (dem := fun _ => false) (m := 3) (g := 1) (T := fun listed bs st => ∀ W, Ow w0 W ((w.heap.size + 1, [.int .i64 0, .int .i64 0, .int .i64 0, .int .i64 0, .int .i64 0, .int .i64 0, .int .i64 0]) :: (w.heap.size, [.int .i64 (c 0), .int .i64 (c 1), .int .i64 (c 2), .int .i64 (c 3), .int .i64 (c 4), .int .i64 (c 5), v, u]) :: (pb, [.int .i64 (s 0), .int .i64 (s 1), .int .i64 (s 2), .int .i64 (s 3), .int .i64 (s 4), .int .i64 (s 5), .int .i64 (s 6), .int .i64 (s 7), .int .i64 (s 8), .int .i64 (s 9), .int .i64 (s 10), .int .i64 (s 11), .int .i64 (s 12), .int .i64 (s 13), .int .i64 (s 14), .int .i64 (s 15), .int .i64 (s 16), .int .i64 (s 17), .int .i64 (s 18), .int .i64 (s 19), .int .i64 (s 20), .int .i64 (s 21), .int .i64 (s 22), .int .i64 (s 23), .int .i64 (s 24), .bool p, .int .i64 (s 26), .int .i64 (s 27), .int .i64 (s 28), .int .i64 (s 29), .int .i64 (s 30), .int .i64 (s 31), .int .i64 (s 32), .int .i64 (s 33), .int .i64 (s 34), .int .i64 (s 35), .int .i64 (s 36), .int .i64 (s 37), .int .i64 (s 38), .int .i64 (s 39), .bool q]) :: ms) → wpAny Try.prog .any _ _ 1 listed st W) (by kernel_rfl) HO.out.drew rfl (fun _ _ _ _ h hI => h _ hI) ?_
  clear HO
  refine Rg.take 0 (v := .slice (some ⟨w.heap.size + 1, 0, none⟩) 7 7) rfl rfl (by kernel_rfl) (by kernel_rfl) (by kernel_rfl) (by kernel_rfl) (by kernel_rfl) (.inl ⟨rfl, fun bs wq hI => ?_⟩) ?_
  · go_simp
  simp only [Act.put, List.getElem_toArray, List.getElem_cons_zero, List.getElem_cons_succ, List.setIfInBounds_toArray, List.set_cons_zero, List.set_cons_succ]
  refine Rg.take 1 (v := .pointer (some ⟨w.heap.size, 6, none⟩)) rfl rfl (by kernel_rfl) (by kernel_rfl) (by kernel_rfl) (by kernel_rfl) (by kernel_rfl) (.inl ⟨rfl, fun bs wq hI => ?_⟩) ?_
  · go_simp
  simp only [Act.put, List.getElem_toArray, List.getElem_cons_zero, List.getElem_cons_succ, List.setIfInBounds_toArray, List.set_cons_zero, List.set_cons_succ]
  refine Rg.take 2 (v := v) rfl rfl (by kernel_rfl) (by kernel_rfl) (by kernel_rfl) (by kernel_rfl) (by kernel_rfl) (.inl ⟨rfl, fun bs wq hI => ?_⟩) ?_
  · (have hc := (hI.at 1 rfl).cell 6 rfl; go_simp)
  simp only [Act.put, List.getElem_toArray, List.getElem_cons_zero, List.getElem_cons_succ, List.setIfInBounds_toArray, List.set_cons_zero, List.set_cons_succ]
  refine Rg.done (rs := [3]) (by kernel_rfl) (by decide) (fun W hI => ?_)
  refine wpAny_alone 3 (by kernel_rfl) rfl rfl (fun K1 hK1 => ?_)
  refine wp_copy hI 0 (.tmp 6) (.tmp 8) 32 32 rfl 3 Try.underlying32 (by kernel_rfl) (w.heap.size + 1) 0 7 7 rfl v (iv l) rfl (hS.next hI.k) _ rfl (by simp) (iv_one l) (fun W2 k2 h2 => ?_)
  refine hK1 _ _ ?_
  clear hK1
  try simp only [Act.put, List.getElem_toArray, List.getElem_cons_zero, List.getElem_cons_succ, List.setIfInBounds_toArray, List.set_cons_zero, List.set_cons_succ]
  rw [HM.out] at h2
  have l2 : Ow w0 W2 ((w.heap.size + 1, [.int .i64 (n 0), .int .i64 (n 1), .int .i64 (n 2), .int .i64 (n 3), .int .i64 (n 4), .int .i64 (n 5), .int .i64 (n 6)]) :: (w.heap.size, [.int .i64 (c 0), .int .i64 (c 1), .int .i64 (c 2), .int .i64 (c 3), .int .i64 (c 4), .int .i64 (c 5), v, u]) :: (pb, [.int .i64 (s 0), .int .i64 (s 1), .int .i64 (s 2), .int .i64 (s 3), .int .i64 (s 4), .int .i64 (s 5), .int .i64 (s 6), .int .i64 (s 7), .int .i64 (s 8), .int .i64 (s 9), .int .i64 (s 10), .int .i64 (s 11), .int .i64 (s 12), .int .i64 (s 13), .int .i64 (s 14), .int .i64 (s 15), .int .i64 (s 16), .int .i64 (s 17), .int .i64 (s 18), .int .i64 (s 19), .int .i64 (s 20), .int .i64 (s 21), .int .i64 (s 22), .int .i64 (s 23), .int .i64 (s 24), .bool p, .int .i64 (s 26), .int .i64 (s 27), .int .i64 (s 28), .int .i64 (s 29), .int .i64 (s 30), .int .i64 (s 31), .int .i64 (s 32), .int .i64 (s 33), .int .i64 (s 34), .int .i64 (s 35), .int .i64 (s 36), .int .i64 (s 37), .int .i64 (s 38), .int .i64 (s 39), .bool q]) :: ms) := h2
  have HO := Lib.hid l2
  clear l2 h2 hI HM
  refine wpAny_done (by kernel_rfl) ?_ _
  have d0 := (HO.out.at 0 rfl).cell 0 rfl
  have d1 := (HO.out.at 0 rfl).cell 1 rfl
  have d2 := (HO.out.at 0 rfl).cell 2 rfl
  have d3 := (HO.out.at 0 rfl).cell 3 rfl
  have d4 := (HO.out.at 0 rfl).cell 4 rfl
  have d5 := (HO.out.at 0 rfl).cell 5 rfl
  have d6 := (HO.out.at 0 rfl).cell 6 rfl
  go_upto_region 4 with ((with_reducible show wpList _ _ _ ({ dst := _, op := Op.store 27 (Operand.tmp 27) _, type := _, pos := _, after := _, guard := _ } :: _) _ _); refine wpList_stm ty_sten HO.out 2 [.int .i64 (n 0), .int .i64 (n 1), .int .i64 (n 2), .int .i64 (n 3), .int .i64 (n 4), .int .i64 (n 5), .int .i64 (n 6)] rfl _ _ rfl _ 26 rfl rfl _ rfl (by simp) rfl rfl ?_; intro w2 l2; simp only [setsAt, List.set_cons_zero, List.set_cons_succ] at l2; clear HO; have HO := Lib.hid l2; clear l2)
  clear d0 d1 d2 d3 d4 d5 d6
  refine Rg.region (I := fun _ W => Ow w0 W ((w.heap.size + 1, [.int .i64 (n 0), .int .i64 (n 1), .int .i64 (n 2), .int .i64 (n 3), .int .i64 (n 4), .int .i64 (n 5), .int .i64 (n 6)]) :: (w.heap.size, [.int .i64 (c 0), .int .i64 (c 1), .int .i64 (c 2), .int .i64 (c 3), .int .i64 (c 4), .int .i64 (c 5), v, u]) :: (pb, [.int .i64 (s 0), .int .i64 (s 1), .int .i64 (s 2), .int .i64 (s 3), .int .i64 (s 4), .int .i64 (s 5), .int .i64 (s 6), .int .i64 (s 7), .int .i64 (s 8), .int .i64 (s 9), .int .i64 (s 10), .int .i64 (s 11), .int .i64 (s 12), .int .i64 (s 13), .int .i64 (s 14), .int .i64 (s 15), .int .i64 (s 16), .int .i64 (s 17), .int .i64 (s 18), .int .i64 (s 19), .int .i64 (s 20), .int .i64 (s 21), .int .i64 (s 22), .int .i64 (s 23), .int .i64 (s 24), .bool p, .int .i64 (n 0), .int .i64 (n 1), .int .i64 (n 2), .int .i64 (n 3), .int .i64 (n 4), .int .i64 (n 5), .int .i64 (n 6), .int .i64 (s 33), .int .i64 (s 34), .int .i64 (s 35), .int .i64 (s 36), .int .i64 (s 37), .int .i64 (s 38), .int .i64 (s 39), .bool q]) :: ms)) (dem := fun _ => false) (m := 8) (g := 3) (T := fun listed bs st => ∀ W, Ow w0 W ((w.heap.size + 1, [.int .i64 (n 0), .int .i64 (n 1), .int .i64 (n 2), .int .i64 (n 3), .int .i64 (n 4), .int .i64 (n 5), .int .i64 (n 6)]) :: (w.heap.size, [.int .i64 (c 0), .int .i64 (c 1), .int .i64 (c 2), .int .i64 (c 3), .int .i64 (c 4), .int .i64 (c 5), v, u]) :: (pb, [.int .i64 (s 0), .int .i64 (s 1), .int .i64 (s 2), .int .i64 (s 3), .int .i64 (s 4), .int .i64 (s 5), .int .i64 (s 6), .int .i64 (s 7), .int .i64 (s 8), .int .i64 (s 9), .int .i64 (s 10), .int .i64 (s 11), .int .i64 (s 12), .int .i64 (s 13), .int .i64 (s 14), .int .i64 (s 15), .int .i64 (s 16), .int .i64 (s 17), .int .i64 (s 18), .int .i64 (s 19), .int .i64 (s 20), .int .i64 (s 21), .int .i64 (s 22), .int .i64 (s 23), .int .i64 (s 24), .bool p, .int .i64 (n 0), .int .i64 (n 1), .int .i64 (n 2), .int .i64 (n 3), .int .i64 (n 4), .int .i64 (n 5), .int .i64 (n 6), .int .i64 (s 33), .int .i64 (s 34), .int .i64 (s 35), .int .i64 (s 36), .int .i64 (s 37), .int .i64 (s 38), .int .i64 (s 39), .bool q]) :: ms) → wpAny Try.prog .any _ _ 3 listed st W) (by kernel_rfl) HO.out.drew rfl (fun _ _ _ _ h hI => h _ hI) ?_
  clear HO
  refine Rg.take 0 (v := .pointer (some ⟨w.heap.size, 6, none⟩)) rfl rfl (by kernel_rfl) (by kernel_rfl) (by kernel_rfl) (by kernel_rfl) (by kernel_rfl) (.inl ⟨rfl, fun bs wq hI => ?_⟩) ?_
  · go_simp
  simp only [Act.put, List.getElem_toArray, List.getElem_cons_zero, List.getElem_cons_succ, List.setIfInBounds_toArray, List.set_cons_zero, List.set_cons_succ]
  refine Rg.take 1 (v := v) rfl rfl (by kernel_rfl) (by kernel_rfl) (by kernel_rfl) (by kernel_rfl) (by kernel_rfl) (.inl ⟨rfl, fun bs wq hI => ?_⟩) ?_
  · (have hc := (hI.at 1 rfl).cell 6 rfl; go_simp)
  simp only [Act.put, List.getElem_toArray, List.getElem_cons_zero, List.getElem_cons_succ, List.setIfInBounds_toArray, List.set_cons_zero, List.set_cons_succ]
  refine Rg.take 2 (v := .int .i64 e1) rfl rfl (by kernel_rfl) (by kernel_rfl) (by kernel_rfl) (by kernel_rfl) (by kernel_rfl) (.inl ⟨rfl, fun bs wq hI => ?_⟩) ?_
  · (go_simp; exact (L1 _).mono fun e w2 h => ⟨h.1, h.2 ▸ hI⟩)
  simp only [Act.put, List.getElem_toArray, List.getElem_cons_zero, List.getElem_cons_succ, List.setIfInBounds_toArray, List.set_cons_zero, List.set_cons_succ]
  refine Rg.take 3 (v := .pointer (some ⟨pb, 0, none⟩)) rfl rfl (by kernel_rfl) (by kernel_rfl) (by kernel_rfl) (by kernel_rfl) (by kernel_rfl) (.inl ⟨rfl, fun bs wq hI => ?_⟩) ?_
  · go_simp
  simp only [Act.put, List.getElem_toArray, List.getElem_cons_zero, List.getElem_cons_succ, List.setIfInBounds_toArray, List.set_cons_zero, List.set_cons_succ]
  refine Rg.take 4 (v := .pointer (some ⟨pb, 0, none⟩)) rfl rfl (by kernel_rfl) (by kernel_rfl) (by kernel_rfl) (by kernel_rfl) (by kernel_rfl) (.inl ⟨rfl, fun bs wq hI => ?_⟩) ?_
  · go_simp
  simp only [Act.put, List.getElem_toArray, List.getElem_cons_zero, List.getElem_cons_succ, List.setIfInBounds_toArray, List.set_cons_zero, List.set_cons_succ]
  refine Rg.take 5 (v := .pointer (some ⟨pb, 26, none⟩)) rfl rfl (by kernel_rfl) (by kernel_rfl) (by kernel_rfl) (by kernel_rfl) (by kernel_rfl) (.inl ⟨rfl, fun bs wq hI => ?_⟩) ?_
  · go_simp
  simp only [Act.put, List.getElem_toArray, List.getElem_cons_zero, List.getElem_cons_succ, List.setIfInBounds_toArray, List.set_cons_zero, List.set_cons_succ]
  refine Rg.take 6 (v := .agg #[.int .i64 (n 0), .int .i64 (n 1), .int .i64 (n 2), .int .i64 (n 3), .int .i64 (n 4), .int .i64 (n 5), .int .i64 (n 6)]) rfl rfl (by kernel_rfl) (by kernel_rfl) (by kernel_rfl) (by kernel_rfl) (by kernel_rfl) (.inl ⟨rfl, fun bs wq hI => ?_⟩) ?_
  · exact quiet_ldo (vs := [.int .i64 (s 0), .int .i64 (s 1), .int .i64 (s 2), .int .i64 (s 3), .int .i64 (s 4), .int .i64 (s 5), .int .i64 (s 6), .int .i64 (s 7), .int .i64 (s 8), .int .i64 (s 9), .int .i64 (s 10), .int .i64 (s 11), .int .i64 (s 12), .int .i64 (s 13), .int .i64 (s 14), .int .i64 (s 15), .int .i64 (s 16), .int .i64 (s 17), .int .i64 (s 18), .int .i64 (s 19), .int .i64 (s 20), .int .i64 (s 21), .int .i64 (s 22), .int .i64 (s 23), .int .i64 (s 24), .bool p, .int .i64 (n 0), .int .i64 (n 1), .int .i64 (n 2), .int .i64 (n 3), .int .i64 (n 4), .int .i64 (n 5), .int .i64 (n 6), .int .i64 (s 33), .int .i64 (s 34), .int .i64 (s 35), .int .i64 (s 36), .int .i64 (s 37), .int .i64 (s 38), .int .i64 (s 39), .bool q]) (us := [.int .i64 (n 0), .int .i64 (n 1), .int .i64 (n 2), .int .i64 (n 3), .int .i64 (n 4), .int .i64 (n 5), .int .i64 (n 6)]) ty_sten (.tmp 33) rfl rfl rfl rfl (hI.at 2 rfl)
  simp only [Act.put, List.getElem_toArray, List.getElem_cons_zero, List.getElem_cons_succ, List.setIfInBounds_toArray, List.set_cons_zero, List.set_cons_succ]
  refine Rg.take 7 (v := .int .i64 e2) rfl rfl (by kernel_rfl) (by kernel_rfl) (by kernel_rfl) (by kernel_rfl) (by kernel_rfl) (.inl ⟨rfl, fun bs wq hI => ?_⟩) ?_
  · (go_simp; exact (C1 _).mono fun e w2 h => ⟨h.1, hI.call h.2⟩)
  simp only [Act.put, List.getElem_toArray, List.getElem_cons_zero, List.getElem_cons_succ, List.setIfInBounds_toArray, List.set_cons_zero, List.set_cons_succ]
  refine Rg.done (rs := [8]) (by kernel_rfl) (by decide) (fun W hI => ?_)
  refine wpAny_alone 8 (by kernel_rfl) rfl rfl (fun K1 hK1 => ?_)
  go_simp
  refine hK1 _ _ ?_
  clear hK1
  try simp only [Act.put, List.getElem_toArray, List.getElem_cons_zero, List.getElem_cons_succ, List.setIfInBounds_toArray, List.set_cons_zero, List.set_cons_succ]
  have l2 := hI.newAt W.heap.size rfl (.int .i64 e1) [.int .i64 e2] 37
  clear hI
  generalize hV : World.alloc _ _ = V at *
  clear hV
  refine wpAny_alone 9 (by kernel_rfl) rfl rfl (fun K1 hK1 => ?_)
  go_simp
  refine (first_any [e1, e2] 2 2 W.heap.size _ rfl (by decide) (fun j v hj => (l2.at 0 rfl).cell j hj)).mono ?_
  rintro en wz ⟨rfl, rfl⟩
  refine hK1 _ _ ?_
  clear hK1
  try simp only [Act.put, List.getElem_toArray, List.getElem_cons_zero, List.getElem_cons_succ, List.setIfInBounds_toArray, List.set_cons_zero, List.set_cons_succ]
  refine wpAny_alone 10 (by kernel_rfl) rfl rfl (fun K1 hK1 => ?_)
  go_simp
  refine hK1 _ _ ?_
  clear hK1
  try simp only [Act.put, List.getElem_toArray, List.getElem_cons_zero, List.getElem_cons_succ, List.setIfInBounds_toArray, List.set_cons_zero, List.set_cons_succ]
  have HO := Lib.hid l2
  clear l2
  refine wpAny_done (by kernel_rfl) ?_ _
  go_wp2_with fail
  go_ret
  exact ⟨ret_int HR.out.symm, HN.out _ HO.out.drop1.drop1.drop1⟩
end Go.Proofs.Ytoejknkjfnnffaa
