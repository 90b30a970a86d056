/-
  Contracts of layer 20 (cmd): all fields of a Make, of a Wipe.
-/
import Derived.Test.YtkmhnfbjapfbeaaCmdAssert
import Derived.Test.YtkmhnfbjapfbeaaCmdSmall
import Derived.BigGuard
namespace Go.Proofs.Ytkmhnfbjapfbeaa
open Go.RowKit

set_option linter.unusedSimpArgs false in
set_option maxRecDepth 100000 in
set_option maxHeartbeats 8000000 in
set_option linter.unusedVariables false in
theorem fields_Make (o h a b c d : Int) (a3 a4 : Option Addr) (n3 c3 n4 c4 : Nat) (w : World) :
    Calls Try.prog 23 #[.iface 39 (.agg #[.int .i64 o, .int .i64 h, .int .i64 a, .int .i64 b, .slice a3 n3 c3, .slice a4 n4 c4])] w fun e w' => e = .returned (.tuple #[.agg #[.int .i64 o, .int .i64 h, .int .i64 a, .int .i64 b, .int .i64 0, .int .i64 0, .slice a3 n3 c3, .slice a4 n4 c4], .bool (Cm.makes o)]) ∧ Kp w.heap.size w w' := by
  have A0 := as_Make_Make
  have M1 := makes_any o
  generalize Cm.makes o = fit at *
  have HO := Lib.hid (((Ow.refl w).newAt (w.heap.size) rfl (.int .i64 0) [.int .i64 0, .int .i64 0, .int .i64 0, .int .i64 0, .int .i64 0, .slice none 0 0, .slice none 0 0] 25).newAt (w.heap.size + 1) (by simp) (.int .i64 o) [.int .i64 h, .int .i64 a, .int .i64 b, .slice a3 n3 c3, .slice a4 n4 c4] 39)
  go_enter Try.func23, Try.ntmps23
  go_wp2_with go_big_skip
  refine Rg2.region (σ := List (Nat × List Value)) (I := Rg2.Io w [(w.heap.size + 1, [.int .i64 o, .int .i64 h, .int .i64 a, .int .i64 b, .slice a3 n3 c3, .slice a4 n4 c4])]) (mk := fun b sq => (b, [.int .i64 0, .int .i64 0, .int .i64 0, .int .i64 0, .int .i64 0, .int .i64 0, .slice none 0 0, .slice none 0 0]) :: sq) (dem := fun i => i == 16) (m := 18) (g := 0) (T := fun listed sq st => ∀ W, Rg2.Io w [(w.heap.size + 1, [.int .i64 o, .int .i64 h, .int .i64 a, .int .i64 b, .slice a3 n3 c3, .slice a4 n4 c4])] sq W → wpAny Try.prog .any _ _ 0 listed st W) [(w.heap.size, [.int .i64 0, .int .i64 0, .int .i64 0, .int .i64 0, .int .i64 0, .int .i64 0, .slice none 0 0, .slice none 0 0])] (by kernel_rfl) (show Rg2.Io w [(w.heap.size + 1, [.int .i64 o, .int .i64 h, .int .i64 a, .int .i64 b, .slice a3 n3 c3, .slice a4 n4 c4])] [(w.heap.size, [.int .i64 0, .int .i64 0, .int .i64 0, .int .i64 0, .int .i64 0, .int .i64 0, .slice none 0 0, .slice none 0 0])] _ from HO.out.swap.drew) rfl (fun _ _ _ _ h hI => h _ hI) ?_
  clear HO
  refine Rg2.take 0 (v := .pointer (some ⟨w.heap.size + 1, 0, none⟩)) rfl rfl (by kernel_rfl) (by kernel_rfl) (by kernel_rfl) (by kernel_rfl) (by kernel_rfl) (.inl ⟨rfl, fun bs wq hI => ?_⟩) ?_
  · go_simp
  simp only [Act.put, List.getElem_toArray, List.getElem_cons_zero, List.getElem_cons_succ, List.setIfInBounds_toArray, List.set_cons_zero, List.set_cons_succ]
  refine Rg2.take 1 (v := .int .i64 o) rfl rfl (by kernel_rfl) (by kernel_rfl) (by kernel_rfl) (by kernel_rfl) (by kernel_rfl) (.inl ⟨rfl, fun bs wq hI => ?_⟩) ?_
  · (have hc := (hI.rc (List.mem_of_getElem? (i := 0) rfl)).cell 0 rfl; go_simp)
  simp only [Act.put, List.getElem_toArray, List.getElem_cons_zero, List.getElem_cons_succ, List.setIfInBounds_toArray, List.set_cons_zero, List.set_cons_succ]
  refine Rg2.take 2 (v := .pointer (some ⟨w.heap.size + 1, 1, none⟩)) rfl rfl (by kernel_rfl) (by kernel_rfl) (by kernel_rfl) (by kernel_rfl) (by kernel_rfl) (.inl ⟨rfl, fun bs wq hI => ?_⟩) ?_
  · go_simp
  simp only [Act.put, List.getElem_toArray, List.getElem_cons_zero, List.getElem_cons_succ, List.setIfInBounds_toArray, List.set_cons_zero, List.set_cons_succ]
  refine Rg2.take 3 (v := .int .i64 h) rfl rfl (by kernel_rfl) (by kernel_rfl) (by kernel_rfl) (by kernel_rfl) (by kernel_rfl) (.inl ⟨rfl, fun bs wq hI => ?_⟩) ?_
  · (have hc := (hI.rc (List.mem_of_getElem? (i := 0) rfl)).cell 1 rfl; go_simp)
  simp only [Act.put, List.getElem_toArray, List.getElem_cons_zero, List.getElem_cons_succ, List.setIfInBounds_toArray, List.set_cons_zero, List.set_cons_succ]
  refine Rg2.take 4 (v := .pointer (some ⟨w.heap.size + 1, 2, none⟩)) rfl rfl (by kernel_rfl) (by kernel_rfl) (by kernel_rfl) (by kernel_rfl) (by kernel_rfl) (.inl ⟨rfl, fun bs wq hI => ?_⟩) ?_
  · go_simp
  simp only [Act.put, List.getElem_toArray, List.getElem_cons_zero, List.getElem_cons_succ, List.setIfInBounds_toArray, List.set_cons_zero, List.set_cons_succ]
  refine Rg2.take 5 (v := .int .i64 a) rfl rfl (by kernel_rfl) (by kernel_rfl) (by kernel_rfl) (by kernel_rfl) (by kernel_rfl) (.inl ⟨rfl, fun bs wq hI => ?_⟩) ?_
  · (have hc := (hI.rc (List.mem_of_getElem? (i := 0) rfl)).cell 2 rfl; go_simp)
  simp only [Act.put, List.getElem_toArray, List.getElem_cons_zero, List.getElem_cons_succ, List.setIfInBounds_toArray, List.set_cons_zero, List.set_cons_succ]
  refine Rg2.take 6 (v := .pointer (some ⟨w.heap.size + 1, 3, none⟩)) rfl rfl (by kernel_rfl) (by kernel_rfl) (by kernel_rfl) (by kernel_rfl) (by kernel_rfl) (.inl ⟨rfl, fun bs wq hI => ?_⟩) ?_
  · go_simp
  simp only [Act.put, List.getElem_toArray, List.getElem_cons_zero, List.getElem_cons_succ, List.setIfInBounds_toArray, List.set_cons_zero, List.set_cons_succ]
  refine Rg2.take 7 (v := .int .i64 b) rfl rfl (by kernel_rfl) (by kernel_rfl) (by kernel_rfl) (by kernel_rfl) (by kernel_rfl) (.inl ⟨rfl, fun bs wq hI => ?_⟩) ?_
  · (have hc := (hI.rc (List.mem_of_getElem? (i := 0) rfl)).cell 3 rfl; go_simp)
  simp only [Act.put, List.getElem_toArray, List.getElem_cons_zero, List.getElem_cons_succ, List.setIfInBounds_toArray, List.set_cons_zero, List.set_cons_succ]
  refine Rg2.take 8 (v := .pointer (some ⟨w.heap.size + 1, 4, none⟩)) rfl rfl (by kernel_rfl) (by kernel_rfl) (by kernel_rfl) (by kernel_rfl) (by kernel_rfl) (.inl ⟨rfl, fun bs wq hI => ?_⟩) ?_
  · go_simp
  simp only [Act.put, List.getElem_toArray, List.getElem_cons_zero, List.getElem_cons_succ, List.setIfInBounds_toArray, List.set_cons_zero, List.set_cons_succ]
  refine Rg2.take 9 (v := .slice a3 n3 c3) rfl rfl (by kernel_rfl) (by kernel_rfl) (by kernel_rfl) (by kernel_rfl) (by kernel_rfl) (.inl ⟨rfl, fun bs wq hI => ?_⟩) ?_
  · (have hc := (hI.rc (List.mem_of_getElem? (i := 0) rfl)).cell 4 rfl; go_simp)
  simp only [Act.put, List.getElem_toArray, List.getElem_cons_zero, List.getElem_cons_succ, List.setIfInBounds_toArray, List.set_cons_zero, List.set_cons_succ]
  refine Rg2.take 10 (v := .pointer (some ⟨w.heap.size + 1, 5, none⟩)) rfl rfl (by kernel_rfl) (by kernel_rfl) (by kernel_rfl) (by kernel_rfl) (by kernel_rfl) (.inl ⟨rfl, fun bs wq hI => ?_⟩) ?_
  · go_simp
  simp only [Act.put, List.getElem_toArray, List.getElem_cons_zero, List.getElem_cons_succ, List.setIfInBounds_toArray, List.set_cons_zero, List.set_cons_succ]
  refine Rg2.take 11 (v := .slice a4 n4 c4) rfl rfl (by kernel_rfl) (by kernel_rfl) (by kernel_rfl) (by kernel_rfl) (by kernel_rfl) (.inl ⟨rfl, fun bs wq hI => ?_⟩) ?_
  · (have hc := (hI.rc (List.mem_of_getElem? (i := 0) rfl)).cell 5 rfl; go_simp)
  simp only [Act.put, List.getElem_toArray, List.getElem_cons_zero, List.getElem_cons_succ, List.setIfInBounds_toArray, List.set_cons_zero, List.set_cons_succ]
  refine Rg2.take 12 (v := .agg #[.int .i64 o, .int .i64 h, .int .i64 a, .int .i64 b, .int .i64 0, .int .i64 0, .slice a3 n3 c3, .slice a4 n4 c4]) rfl rfl (by kernel_rfl) (by kernel_rfl) (by kernel_rfl) (by kernel_rfl) (by kernel_rfl) (.inl ⟨rfl, fun bs wq hI => ?_⟩) ?_
  · go_simp
  simp only [Act.put, List.getElem_toArray, List.getElem_cons_zero, List.getElem_cons_succ, List.setIfInBounds_toArray, List.set_cons_zero, List.set_cons_succ]
  refine Rg2.take 13 (v := .pointer (some ⟨w.heap.size + 1, 0, none⟩)) rfl rfl (by kernel_rfl) (by kernel_rfl) (by kernel_rfl) (by kernel_rfl) (by kernel_rfl) (.inl ⟨rfl, fun bs wq hI => ?_⟩) ?_
  · go_simp
  simp only [Act.put, List.getElem_toArray, List.getElem_cons_zero, List.getElem_cons_succ, List.setIfInBounds_toArray, List.set_cons_zero, List.set_cons_succ]
  refine Rg2.take 14 (v := .int .i64 o) rfl rfl (by kernel_rfl) (by kernel_rfl) (by kernel_rfl) (by kernel_rfl) (by kernel_rfl) (.inl ⟨rfl, fun bs wq hI => ?_⟩) ?_
  · (have hc := (hI.rc (List.mem_of_getElem? (i := 0) rfl)).cell 0 rfl; go_simp)
  simp only [Act.put, List.getElem_toArray, List.getElem_cons_zero, List.getElem_cons_succ, List.setIfInBounds_toArray, List.set_cons_zero, List.set_cons_succ]
  refine Rg2.take 15 (v := .bool fit) rfl rfl (by kernel_rfl) (by kernel_rfl) (by kernel_rfl) (by kernel_rfl) (by kernel_rfl) (.inl ⟨rfl, fun bs wq hI => ?_⟩) ?_
  · (go_simp; exact (M1 _).mono fun e w2 h => ⟨h.1, h.2 ▸ hI⟩)
  simp only [Act.put, List.getElem_toArray, List.getElem_cons_zero, List.getElem_cons_succ, List.setIfInBounds_toArray, List.set_cons_zero, List.set_cons_succ]
  refine Rg2.put1 16 (by kernel_rfl) rfl rfl (Rg2.puts_row ty_cmd 0 [.int .i64 o, .int .i64 h, .int .i64 a, .int .i64 b, .int .i64 0, .int .i64 0, .slice a3 n3 c3, .slice a4 n4 c4] rfl _ _ rfl _ rfl rfl _ rfl rfl rfl rfl) ?_
  simp only [Act.put, List.getElem_toArray, List.getElem_cons_zero, List.getElem_cons_succ, List.setIfInBounds_toArray, List.set_cons_zero, List.set_cons_succ]
  refine Rg2.take 17 (v := .bool fit) rfl rfl (by kernel_rfl) (by kernel_rfl) (by kernel_rfl) (by kernel_rfl) (by kernel_rfl) (.inl ⟨rfl, fun bs wq hI => ?_⟩) ?_
  · go_simp
  simp only [Act.put, List.getElem_toArray, List.getElem_cons_zero, List.getElem_cons_succ, List.setIfInBounds_toArray, List.set_cons_zero, List.set_cons_succ]
  refine Rg2.done (rs := []) (by kernel_rfl) (by decide) (fun W hI => ?_)
  have HO := Lib.hid (show Ow w W [(w.heap.size, [.int .i64 o, .int .i64 h, .int .i64 a, .int .i64 b, .int .i64 0, .int .i64 0, .slice a3 n3 c3, .slice a4 n4 c4]), (w.heap.size + 1, [.int .i64 o, .int .i64 h, .int .i64 a, .int .i64 b, .slice a3 n3 c3, .slice a4 n4 c4])] from hI)
  clear hI
  refine wpAny_done (by kernel_rfl) ?_ _
  go_wp2_with go_big_skip
  refine bodyPost_ret (results_c2 ty_cmd rfl rfl rfl rfl (HO.out.at 0 rfl)) rfl ⟨rfl, HO.out.k⟩
set_option linter.unusedSimpArgs false in
set_option maxRecDepth 100000 in
set_option maxHeartbeats 8000000 in
set_option linter.unusedVariables false in
theorem fields_Wipe (o h a b c d : Int) (a3 a4 : Option Addr) (n3 c3 n4 c4 : Nat) (w : World) :
    Calls Try.prog 23 #[.iface 63 (.agg #[.int .i64 a, .int .i64 b, .int .i64 c, .int .i64 d])] w fun e w' => e = .returned (.tuple #[.agg #[.int .i64 13, .int .i64 0, .int .i64 a, .int .i64 b, .int .i64 c, .int .i64 d, .slice none 0 0, .slice none 0 0], .bool (true)]) ∧ Kp w.heap.size w w' := by
  have A0 := as_Wipe_Make
  have A1 := as_Wipe_Set
  have A2 := as_Wipe_Wipe
  have HO := Lib.hid (((Ow.refl w).newAt (w.heap.size) rfl (.int .i64 13) [.int .i64 0, .int .i64 a, .int .i64 b, .int .i64 c, .int .i64 d, .slice none 0 0, .slice none 0 0] 25).newAt (w.heap.size + 1) (by simp) (.int .i64 a) [.int .i64 b, .int .i64 c, .int .i64 d] 63)
  go_enter Try.func23, Try.ntmps23
  go_wp2_with go_big_skip
  refine bodyPost_ret (results_c2 ty_cmd rfl rfl rfl rfl (HO.out.at 1 rfl)) rfl ⟨rfl, HO.out.k⟩
end Go.Proofs.Ytkmhnfbjapfbeaa
