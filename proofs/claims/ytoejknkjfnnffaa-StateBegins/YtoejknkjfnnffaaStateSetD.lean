/-
  Contracts of layer 18 (state): what single commands set (a texture).
-/
import Derived.Test.YtoejknkjfnnffaaStateCode
import Derived.Test.YtoejknkjfnnffaaJDepthPlain
import Derived.Test.YtoejknkjfnnffaaJRegionOw
import Derived.BigGuard
namespace Go.Proofs.Ytoejknkjfnnffaa
open Go.RowKit

set_option linter.unusedSimpArgs false in
set_option maxRecDepth 100000 in
set_option maxHeartbeats 8000000 in
theorem setBind_any (s : Sf) (p q : Bool) (c : Sf) (v u : Value) (w0 w : World) (pb : Nat) (ms : List (Nat × List Value)) (ho : Ow w0 w ((pb, [.int .i64 (s 0), .int .i64 (s 1), .int .i64 (s 2), .int .i64 (s 3), .int .i64 (s 4), .int .i64 (s 5), .int .i64 (s 6), .int .i64 (s 7), .int .i64 (s 8), .int .i64 (s 9), .int .i64 (s 10), .int .i64 (s 11), .int .i64 (s 12), .int .i64 (s 13), .int .i64 (s 14), .int .i64 (s 15), .int .i64 (s 16), .int .i64 (s 17), .int .i64 (s 18), .int .i64 (s 19), .int .i64 (s 20), .int .i64 (s 21), .int .i64 (s 22), .int .i64 (s 23), .int .i64 (s 24), .bool p, .int .i64 (s 26), .int .i64 (s 27), .int .i64 (s 28), .int .i64 (s 29), .int .i64 (s 30), .int .i64 (s 31), .int .i64 (s 32), .int .i64 (s 33), .int .i64 (s 34), .int .i64 (s 35), .int .i64 (s 36), .int .i64 (s 37), .int .i64 (s 38), .int .i64 (s 39), .bool q]) :: ms)) :
    Calls Try.prog 47 #[.pointer (some ⟨pb, 0, none⟩), .agg #[.int .i64 (c 0), .int .i64 (c 1), .int .i64 (c 2), .int .i64 (c 3), .int .i64 (c 4), .int .i64 (c 5), v, u]] w fun e w' => e = .returned (.int .i64 (Sx.eBind c)) ∧ Ow w0 w' ((pb, [.int .i64 ((Sx.bind s (c 1) (c 2)) 0), .int .i64 ((Sx.bind s (c 1) (c 2)) 1), .int .i64 ((Sx.bind s (c 1) (c 2)) 2), .int .i64 ((Sx.bind s (c 1) (c 2)) 3), .int .i64 ((Sx.bind s (c 1) (c 2)) 4), .int .i64 ((Sx.bind s (c 1) (c 2)) 5), .int .i64 ((Sx.bind s (c 1) (c 2)) 6), .int .i64 ((Sx.bind s (c 1) (c 2)) 7), .int .i64 ((Sx.bind s (c 1) (c 2)) 8), .int .i64 ((Sx.bind s (c 1) (c 2)) 9), .int .i64 ((Sx.bind s (c 1) (c 2)) 10), .int .i64 ((Sx.bind s (c 1) (c 2)) 11), .int .i64 ((Sx.bind s (c 1) (c 2)) 12), .int .i64 ((Sx.bind s (c 1) (c 2)) 13), .int .i64 ((Sx.bind s (c 1) (c 2)) 14), .int .i64 ((Sx.bind s (c 1) (c 2)) 15), .int .i64 ((Sx.bind s (c 1) (c 2)) 16), .int .i64 ((Sx.bind s (c 1) (c 2)) 17), .int .i64 ((Sx.bind s (c 1) (c 2)) 18), .int .i64 ((Sx.bind s (c 1) (c 2)) 19), .int .i64 ((Sx.bind s (c 1) (c 2)) 20), .int .i64 ((Sx.bind s (c 1) (c 2)) 21), .int .i64 ((Sx.bind s (c 1) (c 2)) 22), .int .i64 ((Sx.bind s (c 1) (c 2)) 23), .int .i64 ((Sx.bind s (c 1) (c 2)) 24), .bool p, .int .i64 ((Sx.bind s (c 1) (c 2)) 26), .int .i64 ((Sx.bind s (c 1) (c 2)) 27), .int .i64 ((Sx.bind s (c 1) (c 2)) 28), .int .i64 ((Sx.bind s (c 1) (c 2)) 29), .int .i64 ((Sx.bind s (c 1) (c 2)) 30), .int .i64 ((Sx.bind s (c 1) (c 2)) 31), .int .i64 ((Sx.bind s (c 1) (c 2)) 32), .int .i64 ((Sx.bind s (c 1) (c 2)) 33), .int .i64 ((Sx.bind s (c 1) (c 2)) 34), .int .i64 ((Sx.bind s (c 1) (c 2)) 35), .int .i64 ((Sx.bind s (c 1) (c 2)) 36), .int .i64 ((Sx.bind s (c 1) (c 2)) 37), .int .i64 ((Sx.bind s (c 1) (c 2)) 38), .int .i64 ((Sx.bind s (c 1) (c 2)) 39), .bool ((c 3 == 1))]) :: ms) := by
  have T1 := fun W => handleOf_any (c 1) W
  have T2 := fun W => wrapOf_any (c 2) W
  have T3 := fun W => flagOf_any (c 3) W
  have HR : Hid (Sx.eBind c = Sx.fst [Sx.hand (c 1), Sx.kind (c 2), Sx.flag (c 3)]) := Lib.hid rfl
  generalize Sx.hand (c 1) = e1 at *
  generalize Sx.kind (c 2) = e2 at *
  generalize Sx.flag (c 3) = e3 at *
  generalize Sx.eBind c = r at *
  obtain ⟨b1, hb1⟩ : ∃ b1, b1 = (c 3 == 1) := ⟨_, rfl⟩
  rw [← hb1]
  have HB := Lib.hid hb1
  clear hb1
  have HO := Lib.hid (ho.newAt w.heap.size rfl (.int .i64 (c 0)) [.int .i64 (c 1), .int .i64 (c 2), .int .i64 (c 3), .int .i64 (c 4), .int .i64 (c 5), v, u] 35)
  clear ho
  go_enter Try.func47, Try.ntmps47
  go_upto_region 1 with fail
  have HO2 := Lib.hid HO.out.swap
  have HK : Hid ((w.heap.size, [.int .i64 (c 0), .int .i64 (c 1), .int .i64 (c 2), .int .i64 (c 3), .int .i64 (c 4), .int .i64 (c 5), v, u]) ∈ ((w.heap.size, [.int .i64 (c 0), .int .i64 (c 1), .int .i64 (c 2), .int .i64 (c 3), .int .i64 (c 4), .int .i64 (c 5), v, u]) :: ms : List (Nat × List Value))) := Lib.hid (by simp)
  refine Rg2.region (σ := List (Nat × List Value)) (I := Rg2.Io w0 ((w.heap.size, [.int .i64 (c 0), .int .i64 (c 1), .int .i64 (c 2), .int .i64 (c 3), .int .i64 (c 4), .int .i64 (c 5), v, u]) :: ms)) (mk := fun b s => (b, [.int .i64 0]) :: s) (dem := fun i => i == 12 || i == 15 || i == 18) (m := 19) (g := 0) (T := fun listed s st => ∀ W, Rg2.Io w0 ((w.heap.size, [.int .i64 (c 0), .int .i64 (c 1), .int .i64 (c 2), .int .i64 (c 3), .int .i64 (c 4), .int .i64 (c 5), v, u]) :: ms) s W → wpAny Try.prog .any _ _ 0 listed st W) [(pb, [.int .i64 (s 0), .int .i64 (s 1), .int .i64 (s 2), .int .i64 (s 3), .int .i64 (s 4), .int .i64 (s 5), .int .i64 (s 6), .int .i64 (s 7), .int .i64 (s 8), .int .i64 (s 9), .int .i64 (s 10), .int .i64 (s 11), .int .i64 (s 12), .int .i64 (s 13), .int .i64 (s 14), .int .i64 (s 15), .int .i64 (s 16), .int .i64 (s 17), .int .i64 (s 18), .int .i64 (s 19), .int .i64 (s 20), .int .i64 (s 21), .int .i64 (s 22), .int .i64 (s 23), .int .i64 (s 24), .bool p, .int .i64 (s 26), .int .i64 (s 27), .int .i64 (s 28), .int .i64 (s 29), .int .i64 (s 30), .int .i64 (s 31), .int .i64 (s 32), .int .i64 (s 33), .int .i64 (s 34), .int .i64 (s 35), .int .i64 (s 36), .int .i64 (s 37), .int .i64 (s 38), .int .i64 (s 39), .bool q])] (by kernel_rfl) (show Rg2.Io w0 ((w.heap.size, [.int .i64 (c 0), .int .i64 (c 1), .int .i64 (c 2), .int .i64 (c 3), .int .i64 (c 4), .int .i64 (c 5), v, u]) :: ms) [(pb, [.int .i64 (s 0), .int .i64 (s 1), .int .i64 (s 2), .int .i64 (s 3), .int .i64 (s 4), .int .i64 (s 5), .int .i64 (s 6), .int .i64 (s 7), .int .i64 (s 8), .int .i64 (s 9), .int .i64 (s 10), .int .i64 (s 11), .int .i64 (s 12), .int .i64 (s 13), .int .i64 (s 14), .int .i64 (s 15), .int .i64 (s 16), .int .i64 (s 17), .int .i64 (s 18), .int .i64 (s 19), .int .i64 (s 20), .int .i64 (s 21), .int .i64 (s 22), .int .i64 (s 23), .int .i64 (s 24), .bool p, .int .i64 (s 26), .int .i64 (s 27), .int .i64 (s 28), .int .i64 (s 29), .int .i64 (s 30), .int .i64 (s 31), .int .i64 (s 32), .int .i64 (s 33), .int .i64 (s 34), .int .i64 (s 35), .int .i64 (s 36), .int .i64 (s 37), .int .i64 (s 38), .int .i64 (s 39), .bool q])] _ from HO2.out.drew) rfl (fun _ _ _ _ h hI => h _ hI) ?_
  clear HO HO2
  refine Rg2.take 0 (v := .pointer (some ⟨pb, 0, none⟩)) rfl rfl (by kernel_rfl) (by kernel_rfl) (by kernel_rfl) (by kernel_rfl) (by kernel_rfl) (.inl ⟨rfl, fun bs wq hI => ?_⟩) ?_
  · go_simp
  simp only [Act.put, List.getElem_toArray, List.getElem_cons_zero, List.getElem_cons_succ, List.setIfInBounds_toArray, List.set_cons_zero, List.set_cons_succ]
  refine Rg2.take 1 (v := .pointer (some ⟨pb, 0, none⟩)) rfl rfl (by kernel_rfl) (by kernel_rfl) (by kernel_rfl) (by kernel_rfl) (by kernel_rfl) (.inl ⟨rfl, fun bs wq hI => ?_⟩) ?_
  · go_simp
  simp only [Act.put, List.getElem_toArray, List.getElem_cons_zero, List.getElem_cons_succ, List.setIfInBounds_toArray, List.set_cons_zero, List.set_cons_succ]
  refine Rg2.take 2 (v := .pointer (some ⟨pb, 0, none⟩)) rfl rfl (by kernel_rfl) (by kernel_rfl) (by kernel_rfl) (by kernel_rfl) (by kernel_rfl) (.inl ⟨rfl, fun bs wq hI => ?_⟩) ?_
  · go_simp
  simp only [Act.put, List.getElem_toArray, List.getElem_cons_zero, List.getElem_cons_succ, List.setIfInBounds_toArray, List.set_cons_zero, List.set_cons_succ]
  refine Rg2.take 3 (v := .pointer (some ⟨w.heap.size, 1, none⟩)) rfl rfl (by kernel_rfl) (by kernel_rfl) (by kernel_rfl) (by kernel_rfl) (by kernel_rfl) (.inl ⟨rfl, fun bs wq hI => ?_⟩) ?_
  · go_simp
  simp only [Act.put, List.getElem_toArray, List.getElem_cons_zero, List.getElem_cons_succ, List.setIfInBounds_toArray, List.set_cons_zero, List.set_cons_succ]
  refine Rg2.take 4 (v := .int .i64 (c 1)) rfl rfl (by kernel_rfl) (by kernel_rfl) (by kernel_rfl) (by kernel_rfl) (by kernel_rfl) (.inl ⟨rfl, fun bs wq hI => ?_⟩) ?_
  · (have hc := (hI.rc HK.out).cell 1 rfl; go_simp)
  simp only [Act.put, List.getElem_toArray, List.getElem_cons_zero, List.getElem_cons_succ, List.setIfInBounds_toArray, List.set_cons_zero, List.set_cons_succ]
  refine Rg2.take 5 (v := .pointer (some ⟨w.heap.size, 2, none⟩)) rfl rfl (by kernel_rfl) (by kernel_rfl) (by kernel_rfl) (by kernel_rfl) (by kernel_rfl) (.inl ⟨rfl, fun bs wq hI => ?_⟩) ?_
  · go_simp
  simp only [Act.put, List.getElem_toArray, List.getElem_cons_zero, List.getElem_cons_succ, List.setIfInBounds_toArray, List.set_cons_zero, List.set_cons_succ]
  refine Rg2.take 6 (v := .int .i64 (c 2)) rfl rfl (by kernel_rfl) (by kernel_rfl) (by kernel_rfl) (by kernel_rfl) (by kernel_rfl) (.inl ⟨rfl, fun bs wq hI => ?_⟩) ?_
  · (have hc := (hI.rc HK.out).cell 2 rfl; go_simp)
  simp only [Act.put, List.getElem_toArray, List.getElem_cons_zero, List.getElem_cons_succ, List.setIfInBounds_toArray, List.set_cons_zero, List.set_cons_succ]
  refine Rg2.take 7 (v := .pointer (some ⟨w.heap.size, 3, none⟩)) rfl rfl (by kernel_rfl) (by kernel_rfl) (by kernel_rfl) (by kernel_rfl) (by kernel_rfl) (.inl ⟨rfl, fun bs wq hI => ?_⟩) ?_
  · go_simp
  simp only [Act.put, List.getElem_toArray, List.getElem_cons_zero, List.getElem_cons_succ, List.setIfInBounds_toArray, List.set_cons_zero, List.set_cons_succ]
  refine Rg2.take 8 (v := .int .i64 (c 3)) rfl rfl (by kernel_rfl) (by kernel_rfl) (by kernel_rfl) (by kernel_rfl) (by kernel_rfl) (.inl ⟨rfl, fun bs wq hI => ?_⟩) ?_
  · (have hc := (hI.rc HK.out).cell 3 rfl; go_simp)
  simp only [Act.put, List.getElem_toArray, List.getElem_cons_zero, List.getElem_cons_succ, List.setIfInBounds_toArray, List.set_cons_zero, List.set_cons_succ]
  refine Rg2.take 9 (v := .bool b1) rfl rfl (by kernel_rfl) (by kernel_rfl) (by kernel_rfl) (by kernel_rfl) (by kernel_rfl) (.inl ⟨rfl, fun bs wq hI => ?_⟩) ?_
  · (go_simp; exact HB.out.symm)
  simp only [Act.put, List.getElem_toArray, List.getElem_cons_zero, List.getElem_cons_succ, List.setIfInBounds_toArray, List.set_cons_zero, List.set_cons_succ]
  refine Rg2.take 10 (v := .pointer (some ⟨pb, 0, none⟩)) rfl rfl (by kernel_rfl) (by kernel_rfl) (by kernel_rfl) (by kernel_rfl) (by kernel_rfl) (.inl ⟨rfl, fun bs wq hI => ?_⟩) ?_
  · go_simp
  simp only [Act.put, List.getElem_toArray, List.getElem_cons_zero, List.getElem_cons_succ, List.setIfInBounds_toArray, List.set_cons_zero, List.set_cons_succ]
  refine Rg2.take 11 (v := .pointer (some ⟨pb, 38, none⟩)) rfl rfl (by kernel_rfl) (by kernel_rfl) (by kernel_rfl) (by kernel_rfl) (by kernel_rfl) (.inl ⟨rfl, fun bs wq hI => ?_⟩) ?_
  · go_simp
  simp only [Act.put, List.getElem_toArray, List.getElem_cons_zero, List.getElem_cons_succ, List.setIfInBounds_toArray, List.set_cons_zero, List.set_cons_succ]
  refine Rg2.put1 12 (by kernel_rfl) rfl rfl (Rg2.puts_cell 0 rfl 38 (by simp) (.int .i64 (c 1)) rfl (fun W h1 h2 => by simp at h1; simp [execOp, go_sem, h1, h2])) ?_
  simp only [Act.put, List.getElem_toArray, List.getElem_cons_zero, List.getElem_cons_succ, List.setIfInBounds_toArray, List.set_cons_zero, List.set_cons_succ]
  refine Rg2.take 13 (v := .pointer (some ⟨pb, 0, none⟩)) rfl rfl (by kernel_rfl) (by kernel_rfl) (by kernel_rfl) (by kernel_rfl) (by kernel_rfl) (.inl ⟨rfl, fun bs wq hI => ?_⟩) ?_
  · go_simp
  simp only [Act.put, List.getElem_toArray, List.getElem_cons_zero, List.getElem_cons_succ, List.setIfInBounds_toArray, List.set_cons_zero, List.set_cons_succ]
  refine Rg2.take 14 (v := .pointer (some ⟨pb, 39, none⟩)) rfl rfl (by kernel_rfl) (by kernel_rfl) (by kernel_rfl) (by kernel_rfl) (by kernel_rfl) (.inl ⟨rfl, fun bs wq hI => ?_⟩) ?_
  · go_simp
  simp only [Act.put, List.getElem_toArray, List.getElem_cons_zero, List.getElem_cons_succ, List.setIfInBounds_toArray, List.set_cons_zero, List.set_cons_succ]
  refine Rg2.put1 15 (by kernel_rfl) rfl rfl (Rg2.puts_cell 0 rfl 39 (by simp) (.int .i64 (c 2)) rfl (fun W h1 h2 => by simp at h1; simp [execOp, go_sem, h1, h2])) ?_
  simp only [Act.put, List.getElem_toArray, List.getElem_cons_zero, List.getElem_cons_succ, List.setIfInBounds_toArray, List.set_cons_zero, List.set_cons_succ]
  refine Rg2.take 16 (v := .pointer (some ⟨pb, 0, none⟩)) rfl rfl (by kernel_rfl) (by kernel_rfl) (by kernel_rfl) (by kernel_rfl) (by kernel_rfl) (.inl ⟨rfl, fun bs wq hI => ?_⟩) ?_
  · go_simp
  simp only [Act.put, List.getElem_toArray, List.getElem_cons_zero, List.getElem_cons_succ, List.setIfInBounds_toArray, List.set_cons_zero, List.set_cons_succ]
  refine Rg2.take 17 (v := .pointer (some ⟨pb, 40, none⟩)) rfl rfl (by kernel_rfl) (by kernel_rfl) (by kernel_rfl) (by kernel_rfl) (by kernel_rfl) (.inl ⟨rfl, fun bs wq hI => ?_⟩) ?_
  · go_simp
  simp only [Act.put, List.getElem_toArray, List.getElem_cons_zero, List.getElem_cons_succ, List.setIfInBounds_toArray, List.set_cons_zero, List.set_cons_succ]
  refine Rg2.put1 18 (by kernel_rfl) rfl rfl (Rg2.puts_cell 0 rfl 40 (by simp) (.bool b1) rfl (fun W h1 h2 => by simp at h1; simp [execOp, go_sem, h1, h2])) ?_
  simp only [Act.put, List.getElem_toArray, List.getElem_cons_zero, List.getElem_cons_succ, List.setIfInBounds_toArray, List.set_cons_zero, List.set_cons_succ]
  refine Rg2.done (rs := []) (by kernel_rfl) (by decide) (fun W hI => ?_)
  have HO := Lib.hid (show Ow w0 W ((pb, [.int .i64 ((Sx.bind s (c 1) (c 2)) 0), .int .i64 ((Sx.bind s (c 1) (c 2)) 1), .int .i64 ((Sx.bind s (c 1) (c 2)) 2), .int .i64 ((Sx.bind s (c 1) (c 2)) 3), .int .i64 ((Sx.bind s (c 1) (c 2)) 4), .int .i64 ((Sx.bind s (c 1) (c 2)) 5), .int .i64 ((Sx.bind s (c 1) (c 2)) 6), .int .i64 ((Sx.bind s (c 1) (c 2)) 7), .int .i64 ((Sx.bind s (c 1) (c 2)) 8), .int .i64 ((Sx.bind s (c 1) (c 2)) 9), .int .i64 ((Sx.bind s (c 1) (c 2)) 10), .int .i64 ((Sx.bind s (c 1) (c 2)) 11), .int .i64 ((Sx.bind s (c 1) (c 2)) 12), .int .i64 ((Sx.bind s (c 1) (c 2)) 13), .int .i64 ((Sx.bind s (c 1) (c 2)) 14), .int .i64 ((Sx.bind s (c 1) (c 2)) 15), .int .i64 ((Sx.bind s (c 1) (c 2)) 16), .int .i64 ((Sx.bind s (c 1) (c 2)) 17), .int .i64 ((Sx.bind s (c 1) (c 2)) 18), .int .i64 ((Sx.bind s (c 1) (c 2)) 19), .int .i64 ((Sx.bind s (c 1) (c 2)) 20), .int .i64 ((Sx.bind s (c 1) (c 2)) 21), .int .i64 ((Sx.bind s (c 1) (c 2)) 22), .int .i64 ((Sx.bind s (c 1) (c 2)) 23), .int .i64 ((Sx.bind s (c 1) (c 2)) 24), .bool p, .int .i64 ((Sx.bind s (c 1) (c 2)) 26), .int .i64 ((Sx.bind s (c 1) (c 2)) 27), .int .i64 ((Sx.bind s (c 1) (c 2)) 28), .int .i64 ((Sx.bind s (c 1) (c 2)) 29), .int .i64 ((Sx.bind s (c 1) (c 2)) 30), .int .i64 ((Sx.bind s (c 1) (c 2)) 31), .int .i64 ((Sx.bind s (c 1) (c 2)) 32), .int .i64 ((Sx.bind s (c 1) (c 2)) 33), .int .i64 ((Sx.bind s (c 1) (c 2)) 34), .int .i64 ((Sx.bind s (c 1) (c 2)) 35), .int .i64 ((Sx.bind s (c 1) (c 2)) 36), .int .i64 ((Sx.bind s (c 1) (c 2)) 37), .int .i64 ((Sx.bind s (c 1) (c 2)) 38), .int .i64 ((Sx.bind s (c 1) (c 2)) 39), .bool b1]) :: (w.heap.size, [.int .i64 (c 0), .int .i64 (c 1), .int .i64 (c 2), .int .i64 (c 3), .int .i64 (c 4), .int .i64 (c 5), v, u]) :: ms) from hI)
  clear hI
  refine wpAny_done (by kernel_rfl) ?_ _
  clear HK
  go_upto_region 2 with fail
  refine Rg.region (I := fun _ W => Ow w0 W ((pb, [.int .i64 ((Sx.bind s (c 1) (c 2)) 0), .int .i64 ((Sx.bind s (c 1) (c 2)) 1), .int .i64 ((Sx.bind s (c 1) (c 2)) 2), .int .i64 ((Sx.bind s (c 1) (c 2)) 3), .int .i64 ((Sx.bind s (c 1) (c 2)) 4), .int .i64 ((Sx.bind s (c 1) (c 2)) 5), .int .i64 ((Sx.bind s (c 1) (c 2)) 6), .int .i64 ((Sx.bind s (c 1) (c 2)) 7), .int .i64 ((Sx.bind s (c 1) (c 2)) 8), .int .i64 ((Sx.bind s (c 1) (c 2)) 9), .int .i64 ((Sx.bind s (c 1) (c 2)) 10), .int .i64 ((Sx.bind s (c 1) (c 2)) 11), .int .i64 ((Sx.bind s (c 1) (c 2)) 12), .int .i64 ((Sx.bind s (c 1) (c 2)) 13), .int .i64 ((Sx.bind s (c 1) (c 2)) 14), .int .i64 ((Sx.bind s (c 1) (c 2)) 15), .int .i64 ((Sx.bind s (c 1) (c 2)) 16), .int .i64 ((Sx.bind s (c 1) (c 2)) 17), .int .i64 ((Sx.bind s (c 1) (c 2)) 18), .int .i64 ((Sx.bind s (c 1) (c 2)) 19), .int .i64 ((Sx.bind s (c 1) (c 2)) 20), .int .i64 ((Sx.bind s (c 1) (c 2)) 21), .int .i64 ((Sx.bind s (c 1) (c 2)) 22), .int .i64 ((Sx.bind s (c 1) (c 2)) 23), .int .i64 ((Sx.bind s (c 1) (c 2)) 24), .bool p, .int .i64 ((Sx.bind s (c 1) (c 2)) 26), .int .i64 ((Sx.bind s (c 1) (c 2)) 27), .int .i64 ((Sx.bind s (c 1) (c 2)) 28), .int .i64 ((Sx.bind s (c 1) (c 2)) 29), .int .i64 ((Sx.bind s (c 1) (c 2)) 30), .int .i64 ((Sx.bind s (c 1) (c 2)) 31), .int .i64 ((Sx.bind s (c 1) (c 2)) 32), .int .i64 ((Sx.bind s (c 1) (c 2)) 33), .int .i64 ((Sx.bind s (c 1) (c 2)) 34), .int .i64 ((Sx.bind s (c 1) (c 2)) 35), .int .i64 ((Sx.bind s (c 1) (c 2)) 36), .int .i64 ((Sx.bind s (c 1) (c 2)) 37), .int .i64 ((Sx.bind s (c 1) (c 2)) 38), .int .i64 ((Sx.bind s (c 1) (c 2)) 39), .bool b1]) :: (w.heap.size, [.int .i64 (c 0), .int .i64 (c 1), .int .i64 (c 2), .int .i64 (c 3), .int .i64 (c 4), .int .i64 (c 5), v, u]) :: ms)) (dem := fun _ => false) (m := 9) (g := 3) (T := fun listed bs st => ∀ W, Ow w0 W ((pb, [.int .i64 ((Sx.bind s (c 1) (c 2)) 0), .int .i64 ((Sx.bind s (c 1) (c 2)) 1), .int .i64 ((Sx.bind s (c 1) (c 2)) 2), .int .i64 ((Sx.bind s (c 1) (c 2)) 3), .int .i64 ((Sx.bind s (c 1) (c 2)) 4), .int .i64 ((Sx.bind s (c 1) (c 2)) 5), .int .i64 ((Sx.bind s (c 1) (c 2)) 6), .int .i64 ((Sx.bind s (c 1) (c 2)) 7), .int .i64 ((Sx.bind s (c 1) (c 2)) 8), .int .i64 ((Sx.bind s (c 1) (c 2)) 9), .int .i64 ((Sx.bind s (c 1) (c 2)) 10), .int .i64 ((Sx.bind s (c 1) (c 2)) 11), .int .i64 ((Sx.bind s (c 1) (c 2)) 12), .int .i64 ((Sx.bind s (c 1) (c 2)) 13), .int .i64 ((Sx.bind s (c 1) (c 2)) 14), .int .i64 ((Sx.bind s (c 1) (c 2)) 15), .int .i64 ((Sx.bind s (c 1) (c 2)) 16), .int .i64 ((Sx.bind s (c 1) (c 2)) 17), .int .i64 ((Sx.bind s (c 1) (c 2)) 18), .int .i64 ((Sx.bind s (c 1) (c 2)) 19), .int .i64 ((Sx.bind s (c 1) (c 2)) 20), .int .i64 ((Sx.bind s (c 1) (c 2)) 21), .int .i64 ((Sx.bind s (c 1) (c 2)) 22), .int .i64 ((Sx.bind s (c 1) (c 2)) 23), .int .i64 ((Sx.bind s (c 1) (c 2)) 24), .bool p, .int .i64 ((Sx.bind s (c 1) (c 2)) 26), .int .i64 ((Sx.bind s (c 1) (c 2)) 27), .int .i64 ((Sx.bind s (c 1) (c 2)) 28), .int .i64 ((Sx.bind s (c 1) (c 2)) 29), .int .i64 ((Sx.bind s (c 1) (c 2)) 30), .int .i64 ((Sx.bind s (c 1) (c 2)) 31), .int .i64 ((Sx.bind s (c 1) (c 2)) 32), .int .i64 ((Sx.bind s (c 1) (c 2)) 33), .int .i64 ((Sx.bind s (c 1) (c 2)) 34), .int .i64 ((Sx.bind s (c 1) (c 2)) 35), .int .i64 ((Sx.bind s (c 1) (c 2)) 36), .int .i64 ((Sx.bind s (c 1) (c 2)) 37), .int .i64 ((Sx.bind s (c 1) (c 2)) 38), .int .i64 ((Sx.bind s (c 1) (c 2)) 39), .bool b1]) :: (w.heap.size, [.int .i64 (c 0), .int .i64 (c 1), .int .i64 (c 2), .int .i64 (c 3), .int .i64 (c 4), .int .i64 (c 5), v, u]) :: ms) → wpAny Try.prog .any _ _ 3 listed st W) (by kernel_rfl) HO.out.drew rfl (fun _ _ _ _ h hI => h _ hI) ?_
  clear HO
  refine Rg.take 0 (v := .pointer (some ⟨w.heap.size, 1, none⟩)) rfl rfl (by kernel_rfl) (by kernel_rfl) (by kernel_rfl) (by kernel_rfl) (by kernel_rfl) (.inl ⟨rfl, fun bs wq hI => ?_⟩) ?_
  · go_simp
  simp only [Act.put, List.getElem_toArray, List.getElem_cons_zero, List.getElem_cons_succ, List.setIfInBounds_toArray, List.set_cons_zero, List.set_cons_succ]
  refine Rg.take 1 (v := .int .i64 (c 1)) rfl rfl (by kernel_rfl) (by kernel_rfl) (by kernel_rfl) (by kernel_rfl) (by kernel_rfl) (.inl ⟨rfl, fun bs wq hI => ?_⟩) ?_
  · (have hc := (hI.at 1 rfl).cell 1 rfl; go_simp)
  simp only [Act.put, List.getElem_toArray, List.getElem_cons_zero, List.getElem_cons_succ, List.setIfInBounds_toArray, List.set_cons_zero, List.set_cons_succ]
  refine Rg.take 2 (v := .int .i64 e1) rfl rfl (by kernel_rfl) (by kernel_rfl) (by kernel_rfl) (by kernel_rfl) (by kernel_rfl) (.inl ⟨rfl, fun bs wq hI => ?_⟩) ?_
  · (go_simp; exact (T1 _).mono fun e w2 h => ⟨h.1, h.2 ▸ hI⟩)
  simp only [Act.put, List.getElem_toArray, List.getElem_cons_zero, List.getElem_cons_succ, List.setIfInBounds_toArray, List.set_cons_zero, List.set_cons_succ]
  refine Rg.take 3 (v := .pointer (some ⟨w.heap.size, 2, none⟩)) rfl rfl (by kernel_rfl) (by kernel_rfl) (by kernel_rfl) (by kernel_rfl) (by kernel_rfl) (.inl ⟨rfl, fun bs wq hI => ?_⟩) ?_
  · go_simp
  simp only [Act.put, List.getElem_toArray, List.getElem_cons_zero, List.getElem_cons_succ, List.setIfInBounds_toArray, List.set_cons_zero, List.set_cons_succ]
  refine Rg.take 4 (v := .int .i64 (c 2)) rfl rfl (by kernel_rfl) (by kernel_rfl) (by kernel_rfl) (by kernel_rfl) (by kernel_rfl) (.inl ⟨rfl, fun bs wq hI => ?_⟩) ?_
  · (have hc := (hI.at 1 rfl).cell 2 rfl; go_simp)
  simp only [Act.put, List.getElem_toArray, List.getElem_cons_zero, List.getElem_cons_succ, List.setIfInBounds_toArray, List.set_cons_zero, List.set_cons_succ]
  refine Rg.take 5 (v := .int .i64 e2) rfl rfl (by kernel_rfl) (by kernel_rfl) (by kernel_rfl) (by kernel_rfl) (by kernel_rfl) (.inl ⟨rfl, fun bs wq hI => ?_⟩) ?_
  · (go_simp; exact (T2 _).mono fun e w2 h => ⟨h.1, h.2 ▸ hI⟩)
  simp only [Act.put, List.getElem_toArray, List.getElem_cons_zero, List.getElem_cons_succ, List.setIfInBounds_toArray, List.set_cons_zero, List.set_cons_succ]
  refine Rg.take 6 (v := .pointer (some ⟨w.heap.size, 3, none⟩)) rfl rfl (by kernel_rfl) (by kernel_rfl) (by kernel_rfl) (by kernel_rfl) (by kernel_rfl) (.inl ⟨rfl, fun bs wq hI => ?_⟩) ?_
  · go_simp
  simp only [Act.put, List.getElem_toArray, List.getElem_cons_zero, List.getElem_cons_succ, List.setIfInBounds_toArray, List.set_cons_zero, List.set_cons_succ]
  refine Rg.take 7 (v := .int .i64 (c 3)) rfl rfl (by kernel_rfl) (by kernel_rfl) (by kernel_rfl) (by kernel_rfl) (by kernel_rfl) (.inl ⟨rfl, fun bs wq hI => ?_⟩) ?_
  · (have hc := (hI.at 1 rfl).cell 3 rfl; go_simp)
  simp only [Act.put, List.getElem_toArray, List.getElem_cons_zero, List.getElem_cons_succ, List.setIfInBounds_toArray, List.set_cons_zero, List.set_cons_succ]
  refine Rg.take 8 (v := .int .i64 e3) rfl rfl (by kernel_rfl) (by kernel_rfl) (by kernel_rfl) (by kernel_rfl) (by kernel_rfl) (.inl ⟨rfl, fun bs wq hI => ?_⟩) ?_
  · (go_simp; exact (T3 _).mono fun e w2 h => ⟨h.1, h.2 ▸ hI⟩)
  simp only [Act.put, List.getElem_toArray, List.getElem_cons_zero, List.getElem_cons_succ, List.setIfInBounds_toArray, List.set_cons_zero, List.set_cons_succ]
  refine Rg.done (rs := [9]) (by kernel_rfl) (by decide) (fun W hI => ?_)
  refine wpAny_alone 9 (by kernel_rfl) rfl rfl (fun K1 hK1 => ?_)
  go_simp
  refine hK1 _ _ ?_
  clear hK1
  try simp only [Act.put, List.getElem_toArray, List.getElem_cons_zero, List.getElem_cons_succ, List.setIfInBounds_toArray, List.set_cons_zero, List.set_cons_succ]
  have l2 := hI.newAt W.heap.size rfl (.int .i64 e1) [.int .i64 e2, .int .i64 e3] 37
  clear hI
  generalize hV : World.alloc _ _ = V at *
  clear hV
  refine wpAny_alone 10 (by kernel_rfl) rfl rfl (fun K1 hK1 => ?_)
  go_simp
  refine (first_any [e1, e2, e3] 3 3 W.heap.size _ rfl (by decide) (fun j v hj => (l2.at 0 rfl).cell j hj)).mono ?_
  rintro en wz ⟨rfl, rfl⟩
  refine hK1 _ _ ?_
  clear hK1
  try simp only [Act.put, List.getElem_toArray, List.getElem_cons_zero, List.getElem_cons_succ, List.setIfInBounds_toArray, List.set_cons_zero, List.set_cons_succ]
  refine wpAny_alone 11 (by kernel_rfl) rfl rfl (fun K1 hK1 => ?_)
  go_simp
  refine hK1 _ _ ?_
  clear hK1
  try simp only [Act.put, List.getElem_toArray, List.getElem_cons_zero, List.getElem_cons_succ, List.setIfInBounds_toArray, List.set_cons_zero, List.set_cons_succ]
  have HO := Lib.hid l2
  clear l2
  refine wpAny_done (by kernel_rfl) ?_ _
  go_wp2_with fail
  go_ret
  exact ⟨ret_int HR.out.symm, HO.out.drop1.drop2⟩
end Go.Proofs.Ytoejknkjfnnffaa
