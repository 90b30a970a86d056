/-
  Contracts of layer 20 (cmd): a command's own fields, where they are numbers alone.
-/
import Derived.Test.YtkmhnfbjapfbeaaCmdOwnA
import Derived.BigGuard
namespace Go.Proofs.Ytkmhnfbjapfbeaa
open Go.RowKit

set_option linter.unusedSimpArgs false in
set_option maxRecDepth 100000 in
set_option maxHeartbeats 8000000 in
set_option linter.unusedVariables false in
theorem own_10 (h a b c d : Int) (v u : Value) (l : List Int) (vs : List (Nat → Int)) (w : World) (hS : Sl w v (iv l)) (hV : Ro.Sp Cm.vt 9 w u vs) (hl : l.length ≤ 5000) (hn : vs.length ≤ 5000) : Cm.OwnSays 10 h a b c d v u l vs w := by
  unfold Cm.OwnSays
  clear hS hV hl hn
  have HO := Lib.hid ((((Ow.refl w).newAt (w.heap.size) rfl (.int .i64 10) [.int .i64 h, .int .i64 a, .int .i64 b, .int .i64 c, .int .i64 d, v, u] 25).newAt (w.heap.size + 1) (by simp) (.int .i64 0) [.int .i64 0, .int .i64 0, .int .i64 0, .int .i64 0, .int .i64 0, .slice none 0 0, .slice none 0 0] 25).newAt (w.heap.size + 2) (by simp) (.int .i64 10) [.int .i64 0, .int .i64 0, .int .i64 0, .int .i64 0, .int .i64 0, .slice none 0 0, .slice none 0 0] 25)
  go_enter Try.func8, Try.ntmps8
  go_wp2_with go_big_skip
  refine Rg2.region (σ := List (Nat × List Value)) (I := Rg2.Io w [(w.heap.size + 1, [.int .i64 0, .int .i64 0, .int .i64 0, .int .i64 0, .int .i64 0, .int .i64 0, .slice none 0 0, .slice none 0 0]), (w.heap.size, [.int .i64 10, .int .i64 h, .int .i64 a, .int .i64 b, .int .i64 c, .int .i64 d, v, u])]) (mk := fun b sq => (b, [.int .i64 0]) :: sq) (dem := fun i => i == 9 || i == 11 || i == 13 || i == 15) (m := 16) (g := 0) (T := fun listed sq st => ∀ W, Rg2.Io w [(w.heap.size + 1, [.int .i64 0, .int .i64 0, .int .i64 0, .int .i64 0, .int .i64 0, .int .i64 0, .slice none 0 0, .slice none 0 0]), (w.heap.size, [.int .i64 10, .int .i64 h, .int .i64 a, .int .i64 b, .int .i64 c, .int .i64 d, v, u])] sq W → wpAny Try.prog .any _ _ 0 listed st W) [(w.heap.size + 2, [.int .i64 10, .int .i64 0, .int .i64 0, .int .i64 0, .int .i64 0, .int .i64 0, .slice none 0 0, .slice none 0 0])] (by kernel_rfl) (show Rg2.Io w [(w.heap.size + 1, [.int .i64 0, .int .i64 0, .int .i64 0, .int .i64 0, .int .i64 0, .int .i64 0, .slice none 0 0, .slice none 0 0]), (w.heap.size, [.int .i64 10, .int .i64 h, .int .i64 a, .int .i64 b, .int .i64 c, .int .i64 d, v, u])] [(w.heap.size + 2, [.int .i64 10, .int .i64 0, .int .i64 0, .int .i64 0, .int .i64 0, .int .i64 0, .slice none 0 0, .slice none 0 0])] _ from HO.out.drew) rfl (fun _ _ _ _ h hI => h _ hI) ?_
  clear HO
  refine Rg2.take 0 (v := .pointer (some ⟨w.heap.size, 2, none⟩)) rfl rfl (by kernel_rfl) (by kernel_rfl) (by kernel_rfl) (by kernel_rfl) (by kernel_rfl) (.inl ⟨rfl, fun bs wq hI => ?_⟩) ?_
  · go_simp
  simp only [Act.put, List.getElem_toArray, List.getElem_cons_zero, List.getElem_cons_succ, List.setIfInBounds_toArray, List.set_cons_zero, List.set_cons_succ]
  refine Rg2.take 1 (v := .int .i64 a) rfl rfl (by kernel_rfl) (by kernel_rfl) (by kernel_rfl) (by kernel_rfl) (by kernel_rfl) (.inl ⟨rfl, fun bs wq hI => ?_⟩) ?_
  · (have hc := (hI.rc (List.mem_of_getElem? (i := 1) rfl)).cell 2 rfl; go_simp)
  simp only [Act.put, List.getElem_toArray, List.getElem_cons_zero, List.getElem_cons_succ, List.setIfInBounds_toArray, List.set_cons_zero, List.set_cons_succ]
  refine Rg2.take 2 (v := .pointer (some ⟨w.heap.size, 3, none⟩)) rfl rfl (by kernel_rfl) (by kernel_rfl) (by kernel_rfl) (by kernel_rfl) (by kernel_rfl) (.inl ⟨rfl, fun bs wq hI => ?_⟩) ?_
  · go_simp
  simp only [Act.put, List.getElem_toArray, List.getElem_cons_zero, List.getElem_cons_succ, List.setIfInBounds_toArray, List.set_cons_zero, List.set_cons_succ]
  refine Rg2.take 3 (v := .int .i64 b) rfl rfl (by kernel_rfl) (by kernel_rfl) (by kernel_rfl) (by kernel_rfl) (by kernel_rfl) (.inl ⟨rfl, fun bs wq hI => ?_⟩) ?_
  · (have hc := (hI.rc (List.mem_of_getElem? (i := 1) rfl)).cell 3 rfl; go_simp)
  simp only [Act.put, List.getElem_toArray, List.getElem_cons_zero, List.getElem_cons_succ, List.setIfInBounds_toArray, List.set_cons_zero, List.set_cons_succ]
  refine Rg2.take 4 (v := .pointer (some ⟨w.heap.size, 4, none⟩)) rfl rfl (by kernel_rfl) (by kernel_rfl) (by kernel_rfl) (by kernel_rfl) (by kernel_rfl) (.inl ⟨rfl, fun bs wq hI => ?_⟩) ?_
  · go_simp
  simp only [Act.put, List.getElem_toArray, List.getElem_cons_zero, List.getElem_cons_succ, List.setIfInBounds_toArray, List.set_cons_zero, List.set_cons_succ]
  refine Rg2.take 5 (v := .int .i64 c) rfl rfl (by kernel_rfl) (by kernel_rfl) (by kernel_rfl) (by kernel_rfl) (by kernel_rfl) (.inl ⟨rfl, fun bs wq hI => ?_⟩) ?_
  · (have hc := (hI.rc (List.mem_of_getElem? (i := 1) rfl)).cell 4 rfl; go_simp)
  simp only [Act.put, List.getElem_toArray, List.getElem_cons_zero, List.getElem_cons_succ, List.setIfInBounds_toArray, List.set_cons_zero, List.set_cons_succ]
  refine Rg2.take 6 (v := .pointer (some ⟨w.heap.size, 5, none⟩)) rfl rfl (by kernel_rfl) (by kernel_rfl) (by kernel_rfl) (by kernel_rfl) (by kernel_rfl) (.inl ⟨rfl, fun bs wq hI => ?_⟩) ?_
  · go_simp
  simp only [Act.put, List.getElem_toArray, List.getElem_cons_zero, List.getElem_cons_succ, List.setIfInBounds_toArray, List.set_cons_zero, List.set_cons_succ]
  refine Rg2.take 7 (v := .int .i64 d) rfl rfl (by kernel_rfl) (by kernel_rfl) (by kernel_rfl) (by kernel_rfl) (by kernel_rfl) (.inl ⟨rfl, fun bs wq hI => ?_⟩) ?_
  · (have hc := (hI.rc (List.mem_of_getElem? (i := 1) rfl)).cell 5 rfl; go_simp)
  simp only [Act.put, List.getElem_toArray, List.getElem_cons_zero, List.getElem_cons_succ, List.setIfInBounds_toArray, List.set_cons_zero, List.set_cons_succ]
  refine Rg2.take 8 (v := .pointer (some ⟨w.heap.size + 2, 2, none⟩)) rfl rfl (by kernel_rfl) (by kernel_rfl) (by kernel_rfl) (by kernel_rfl) (by kernel_rfl) (.inl ⟨rfl, fun bs wq hI => ?_⟩) ?_
  · go_simp
  simp only [Act.put, List.getElem_toArray, List.getElem_cons_zero, List.getElem_cons_succ, List.setIfInBounds_toArray, List.set_cons_zero, List.set_cons_succ]
  refine Rg2.put1 9 (by kernel_rfl) rfl rfl (Rg2.puts_cellM 0 rfl 2 (by simp) (.int .i64 a) rfl (fun W cc ff => by simp only [List.getElem?_cons_zero, List.getElem?_cons_succ] at cc; simp [execOp, go_sem, cc, ff])) ?_
  simp only [Act.put, List.getElem_toArray, List.getElem_cons_zero, List.getElem_cons_succ, List.setIfInBounds_toArray, List.set_cons_zero, List.set_cons_succ]
  refine Rg2.take 10 (v := .pointer (some ⟨w.heap.size + 2, 3, none⟩)) rfl rfl (by kernel_rfl) (by kernel_rfl) (by kernel_rfl) (by kernel_rfl) (by kernel_rfl) (.inl ⟨rfl, fun bs wq hI => ?_⟩) ?_
  · go_simp
  simp only [Act.put, List.getElem_toArray, List.getElem_cons_zero, List.getElem_cons_succ, List.setIfInBounds_toArray, List.set_cons_zero, List.set_cons_succ]
  refine Rg2.put1 11 (by kernel_rfl) rfl rfl (Rg2.puts_cellM 0 rfl 3 (by simp) (.int .i64 b) rfl (fun W cc ff => by simp only [List.getElem?_cons_zero, List.getElem?_cons_succ] at cc; simp [execOp, go_sem, cc, ff])) ?_
  simp only [Act.put, List.getElem_toArray, List.getElem_cons_zero, List.getElem_cons_succ, List.setIfInBounds_toArray, List.set_cons_zero, List.set_cons_succ]
  refine Rg2.take 12 (v := .pointer (some ⟨w.heap.size + 2, 4, none⟩)) rfl rfl (by kernel_rfl) (by kernel_rfl) (by kernel_rfl) (by kernel_rfl) (by kernel_rfl) (.inl ⟨rfl, fun bs wq hI => ?_⟩) ?_
  · go_simp
  simp only [Act.put, List.getElem_toArray, List.getElem_cons_zero, List.getElem_cons_succ, List.setIfInBounds_toArray, List.set_cons_zero, List.set_cons_succ]
  refine Rg2.put1 13 (by kernel_rfl) rfl rfl (Rg2.puts_cellM 0 rfl 4 (by simp) (.int .i64 c) rfl (fun W cc ff => by simp only [List.getElem?_cons_zero, List.getElem?_cons_succ] at cc; simp [execOp, go_sem, cc, ff])) ?_
  simp only [Act.put, List.getElem_toArray, List.getElem_cons_zero, List.getElem_cons_succ, List.setIfInBounds_toArray, List.set_cons_zero, List.set_cons_succ]
  refine Rg2.take 14 (v := .pointer (some ⟨w.heap.size + 2, 5, none⟩)) rfl rfl (by kernel_rfl) (by kernel_rfl) (by kernel_rfl) (by kernel_rfl) (by kernel_rfl) (.inl ⟨rfl, fun bs wq hI => ?_⟩) ?_
  · go_simp
  simp only [Act.put, List.getElem_toArray, List.getElem_cons_zero, List.getElem_cons_succ, List.setIfInBounds_toArray, List.set_cons_zero, List.set_cons_succ]
  refine Rg2.put1 15 (by kernel_rfl) rfl rfl (Rg2.puts_cellM 0 rfl 5 (by simp) (.int .i64 d) rfl (fun W cc ff => by simp only [List.getElem?_cons_zero, List.getElem?_cons_succ] at cc; simp [execOp, go_sem, cc, ff])) ?_
  simp only [Act.put, List.getElem_toArray, List.getElem_cons_zero, List.getElem_cons_succ, List.setIfInBounds_toArray, List.set_cons_zero, List.set_cons_succ]
  refine Rg2.done (rs := []) (by kernel_rfl) (by decide) (fun W hI => ?_)
  have HO := Lib.hid (show Ow w W [(w.heap.size + 2, [.int .i64 10, .int .i64 0, .int .i64 a, .int .i64 b, .int .i64 c, .int .i64 d, .slice none 0 0, .slice none 0 0]), (w.heap.size + 1, [.int .i64 0, .int .i64 0, .int .i64 0, .int .i64 0, .int .i64 0, .int .i64 0, .slice none 0 0, .slice none 0 0]), (w.heap.size, [.int .i64 10, .int .i64 h, .int .i64 a, .int .i64 b, .int .i64 c, .int .i64 d, v, u])] from hI)
  clear hI
  refine wpAny_done (by kernel_rfl) ?_ _
  go_wp2_with (first
    | go_big_skip
    | ((with_reducible show wpList _ _ _ ({ dst := _, op := Op.load 25 (Operand.tmp 3), type := _, pos := _, after := _, guard := _ } :: _) _ _); refine wpList_ldr ty_cmd rfl _ rfl _ rfl _ rfl (HO.out.at 0 rfl) ?_)
    | ((with_reducible show wpList _ _ _ ({ dst := _, op := Op.store 25 (Operand.tmp 2) _, type := _, pos := _, after := _, guard := _ } :: _) _ _); refine wpList_sto ty_cmd HO.out 1 [.int .i64 10, .int .i64 0, .int .i64 a, .int .i64 b, .int .i64 c, .int .i64 d, .slice none 0 0, .slice none 0 0] rfl _ _ rfl _ rfl rfl _ rfl rfl rfl rfl ?_; intro w2 l2; clear HO; have HO := Lib.hid l2; clear l2))
  refine bodyPost_ret (results_c ty_cmd rfl rfl rfl (HO.out.at 1 rfl)) rfl ⟨_, _, rfl, SlF.nil _ _, SpF.nil _ _, HO.out.k⟩
set_option linter.unusedSimpArgs false in
set_option maxRecDepth 100000 in
set_option maxHeartbeats 8000000 in
set_option linter.unusedVariables false in
theorem own_13 (h a b c d : Int) (v u : Value) (l : List Int) (vs : List (Nat → Int)) (w : World) (hS : Sl w v (iv l)) (hV : Ro.Sp Cm.vt 9 w u vs) (hl : l.length ≤ 5000) (hn : vs.length ≤ 5000) : Cm.OwnSays 13 h a b c d v u l vs w := by
  unfold Cm.OwnSays
  clear hS hV hl hn
  have HO := Lib.hid ((((Ow.refl w).newAt (w.heap.size) rfl (.int .i64 13) [.int .i64 h, .int .i64 a, .int .i64 b, .int .i64 c, .int .i64 d, v, u] 25).newAt (w.heap.size + 1) (by simp) (.int .i64 0) [.int .i64 0, .int .i64 0, .int .i64 0, .int .i64 0, .int .i64 0, .slice none 0 0, .slice none 0 0] 25).newAt (w.heap.size + 2) (by simp) (.int .i64 13) [.int .i64 0, .int .i64 0, .int .i64 0, .int .i64 0, .int .i64 0, .slice none 0 0, .slice none 0 0] 25)
  go_enter Try.func8, Try.ntmps8
  go_wp2_with go_big_skip
  refine Rg2.region (σ := List (Nat × List Value)) (I := Rg2.Io w [(w.heap.size + 1, [.int .i64 0, .int .i64 0, .int .i64 0, .int .i64 0, .int .i64 0, .int .i64 0, .slice none 0 0, .slice none 0 0]), (w.heap.size, [.int .i64 13, .int .i64 h, .int .i64 a, .int .i64 b, .int .i64 c, .int .i64 d, v, u])]) (mk := fun b sq => (b, [.int .i64 0]) :: sq) (dem := fun i => i == 9 || i == 11 || i == 13 || i == 15) (m := 16) (g := 0) (T := fun listed sq st => ∀ W, Rg2.Io w [(w.heap.size + 1, [.int .i64 0, .int .i64 0, .int .i64 0, .int .i64 0, .int .i64 0, .int .i64 0, .slice none 0 0, .slice none 0 0]), (w.heap.size, [.int .i64 13, .int .i64 h, .int .i64 a, .int .i64 b, .int .i64 c, .int .i64 d, v, u])] sq W → wpAny Try.prog .any _ _ 0 listed st W) [(w.heap.size + 2, [.int .i64 13, .int .i64 0, .int .i64 0, .int .i64 0, .int .i64 0, .int .i64 0, .slice none 0 0, .slice none 0 0])] (by kernel_rfl) (show Rg2.Io w [(w.heap.size + 1, [.int .i64 0, .int .i64 0, .int .i64 0, .int .i64 0, .int .i64 0, .int .i64 0, .slice none 0 0, .slice none 0 0]), (w.heap.size, [.int .i64 13, .int .i64 h, .int .i64 a, .int .i64 b, .int .i64 c, .int .i64 d, v, u])] [(w.heap.size + 2, [.int .i64 13, .int .i64 0, .int .i64 0, .int .i64 0, .int .i64 0, .int .i64 0, .slice none 0 0, .slice none 0 0])] _ from HO.out.drew) rfl (fun _ _ _ _ h hI => h _ hI) ?_
  clear HO
  refine Rg2.take 0 (v := .pointer (some ⟨w.heap.size, 2, none⟩)) rfl rfl (by kernel_rfl) (by kernel_rfl) (by kernel_rfl) (by kernel_rfl) (by kernel_rfl) (.inl ⟨rfl, fun bs wq hI => ?_⟩) ?_
  · go_simp
  simp only [Act.put, List.getElem_toArray, List.getElem_cons_zero, List.getElem_cons_succ, List.setIfInBounds_toArray, List.set_cons_zero, List.set_cons_succ]
  refine Rg2.take 1 (v := .int .i64 a) rfl rfl (by kernel_rfl) (by kernel_rfl) (by kernel_rfl) (by kernel_rfl) (by kernel_rfl) (.inl ⟨rfl, fun bs wq hI => ?_⟩) ?_
  · (have hc := (hI.rc (List.mem_of_getElem? (i := 1) rfl)).cell 2 rfl; go_simp)
  simp only [Act.put, List.getElem_toArray, List.getElem_cons_zero, List.getElem_cons_succ, List.setIfInBounds_toArray, List.set_cons_zero, List.set_cons_succ]
  refine Rg2.take 2 (v := .pointer (some ⟨w.heap.size, 3, none⟩)) rfl rfl (by kernel_rfl) (by kernel_rfl) (by kernel_rfl) (by kernel_rfl) (by kernel_rfl) (.inl ⟨rfl, fun bs wq hI => ?_⟩) ?_
  · go_simp
  simp only [Act.put, List.getElem_toArray, List.getElem_cons_zero, List.getElem_cons_succ, List.setIfInBounds_toArray, List.set_cons_zero, List.set_cons_succ]
  refine Rg2.take 3 (v := .int .i64 b) rfl rfl (by kernel_rfl) (by kernel_rfl) (by kernel_rfl) (by kernel_rfl) (by kernel_rfl) (.inl ⟨rfl, fun bs wq hI => ?_⟩) ?_
  · (have hc := (hI.rc (List.mem_of_getElem? (i := 1) rfl)).cell 3 rfl; go_simp)
  simp only [Act.put, List.getElem_toArray, List.getElem_cons_zero, List.getElem_cons_succ, List.setIfInBounds_toArray, List.set_cons_zero, List.set_cons_succ]
  refine Rg2.take 4 (v := .pointer (some ⟨w.heap.size, 4, none⟩)) rfl rfl (by kernel_rfl) (by kernel_rfl) (by kernel_rfl) (by kernel_rfl) (by kernel_rfl) (.inl ⟨rfl, fun bs wq hI => ?_⟩) ?_
  · go_simp
  simp only [Act.put, List.getElem_toArray, List.getElem_cons_zero, List.getElem_cons_succ, List.setIfInBounds_toArray, List.set_cons_zero, List.set_cons_succ]
  refine Rg2.take 5 (v := .int .i64 c) rfl rfl (by kernel_rfl) (by kernel_rfl) (by kernel_rfl) (by kernel_rfl) (by kernel_rfl) (.inl ⟨rfl, fun bs wq hI => ?_⟩) ?_
  · (have hc := (hI.rc (List.mem_of_getElem? (i := 1) rfl)).cell 4 rfl; go_simp)
  simp only [Act.put, List.getElem_toArray, List.getElem_cons_zero, List.getElem_cons_succ, List.setIfInBounds_toArray, List.set_cons_zero, List.set_cons_succ]
  refine Rg2.take 6 (v := .pointer (some ⟨w.heap.size, 5, none⟩)) rfl rfl (by kernel_rfl) (by kernel_rfl) (by kernel_rfl) (by kernel_rfl) (by kernel_rfl) (.inl ⟨rfl, fun bs wq hI => ?_⟩) ?_
  · go_simp
  simp only [Act.put, List.getElem_toArray, List.getElem_cons_zero, List.getElem_cons_succ, List.setIfInBounds_toArray, List.set_cons_zero, List.set_cons_succ]
  refine Rg2.take 7 (v := .int .i64 d) rfl rfl (by kernel_rfl) (by kernel_rfl) (by kernel_rfl) (by kernel_rfl) (by kernel_rfl) (.inl ⟨rfl, fun bs wq hI => ?_⟩) ?_
  · (have hc := (hI.rc (List.mem_of_getElem? (i := 1) rfl)).cell 5 rfl; go_simp)
  simp only [Act.put, List.getElem_toArray, List.getElem_cons_zero, List.getElem_cons_succ, List.setIfInBounds_toArray, List.set_cons_zero, List.set_cons_succ]
  refine Rg2.take 8 (v := .pointer (some ⟨w.heap.size + 2, 2, none⟩)) rfl rfl (by kernel_rfl) (by kernel_rfl) (by kernel_rfl) (by kernel_rfl) (by kernel_rfl) (.inl ⟨rfl, fun bs wq hI => ?_⟩) ?_
  · go_simp
  simp only [Act.put, List.getElem_toArray, List.getElem_cons_zero, List.getElem_cons_succ, List.setIfInBounds_toArray, List.set_cons_zero, List.set_cons_succ]
  refine Rg2.put1 9 (by kernel_rfl) rfl rfl (Rg2.puts_cellM 0 rfl 2 (by simp) (.int .i64 a) rfl (fun W cc ff => by simp only [List.getElem?_cons_zero, List.getElem?_cons_succ] at cc; simp [execOp, go_sem, cc, ff])) ?_
  simp only [Act.put, List.getElem_toArray, List.getElem_cons_zero, List.getElem_cons_succ, List.setIfInBounds_toArray, List.set_cons_zero, List.set_cons_succ]
  refine Rg2.take 10 (v := .pointer (some ⟨w.heap.size + 2, 3, none⟩)) rfl rfl (by kernel_rfl) (by kernel_rfl) (by kernel_rfl) (by kernel_rfl) (by kernel_rfl) (.inl ⟨rfl, fun bs wq hI => ?_⟩) ?_
  · go_simp
  simp only [Act.put, List.getElem_toArray, List.getElem_cons_zero, List.getElem_cons_succ, List.setIfInBounds_toArray, List.set_cons_zero, List.set_cons_succ]
  refine Rg2.put1 11 (by kernel_rfl) rfl rfl (Rg2.puts_cellM 0 rfl 3 (by simp) (.int .i64 b) rfl (fun W cc ff => by simp only [List.getElem?_cons_zero, List.getElem?_cons_succ] at cc; simp [execOp, go_sem, cc, ff])) ?_
  simp only [Act.put, List.getElem_toArray, List.getElem_cons_zero, List.getElem_cons_succ, List.setIfInBounds_toArray, List.set_cons_zero, List.set_cons_succ]
  refine Rg2.take 12 (v := .pointer (some ⟨w.heap.size + 2, 4, none⟩)) rfl rfl (by kernel_rfl) (by kernel_rfl) (by kernel_rfl) (by kernel_rfl) (by kernel_rfl) (.inl ⟨rfl, fun bs wq hI => ?_⟩) ?_
  · go_simp
  simp only [Act.put, List.getElem_toArray, List.getElem_cons_zero, List.getElem_cons_succ, List.setIfInBounds_toArray, List.set_cons_zero, List.set_cons_succ]
  refine Rg2.put1 13 (by kernel_rfl) rfl rfl (Rg2.puts_cellM 0 rfl 4 (by simp) (.int .i64 c) rfl (fun W cc ff => by simp only [List.getElem?_cons_zero, List.getElem?_cons_succ] at cc; simp [execOp, go_sem, cc, ff])) ?_
  simp only [Act.put, List.getElem_toArray, List.getElem_cons_zero, List.getElem_cons_succ, List.setIfInBounds_toArray, List.set_cons_zero, List.set_cons_succ]
  refine Rg2.take 14 (v := .pointer (some ⟨w.heap.size + 2, 5, none⟩)) rfl rfl (by kernel_rfl) (by kernel_rfl) (by kernel_rfl) (by kernel_rfl) (by kernel_rfl) (.inl ⟨rfl, fun bs wq hI => ?_⟩) ?_
  · go_simp
  simp only [Act.put, List.getElem_toArray, List.getElem_cons_zero, List.getElem_cons_succ, List.setIfInBounds_toArray, List.set_cons_zero, List.set_cons_succ]
  refine Rg2.put1 15 (by kernel_rfl) rfl rfl (Rg2.puts_cellM 0 rfl 5 (by simp) (.int .i64 d) rfl (fun W cc ff => by simp only [List.getElem?_cons_zero, List.getElem?_cons_succ] at cc; simp [execOp, go_sem, cc, ff])) ?_
  simp only [Act.put, List.getElem_toArray, List.getElem_cons_zero, List.getElem_cons_succ, List.setIfInBounds_toArray, List.set_cons_zero, List.set_cons_succ]
  refine Rg2.done (rs := []) (by kernel_rfl) (by decide) (fun W hI => ?_)
  have HO := Lib.hid (show Ow w W [(w.heap.size + 2, [.int .i64 13, .int .i64 0, .int .i64 a, .int .i64 b, .int .i64 c, .int .i64 d, .slice none 0 0, .slice none 0 0]), (w.heap.size + 1, [.int .i64 0, .int .i64 0, .int .i64 0, .int .i64 0, .int .i64 0, .int .i64 0, .slice none 0 0, .slice none 0 0]), (w.heap.size, [.int .i64 13, .int .i64 h, .int .i64 a, .int .i64 b, .int .i64 c, .int .i64 d, v, u])] from hI)
  clear hI
  refine wpAny_done (by kernel_rfl) ?_ _
  go_wp2_with (first
    | go_big_skip
    | ((with_reducible show wpList _ _ _ ({ dst := _, op := Op.load 25 (Operand.tmp 3), type := _, pos := _, after := _, guard := _ } :: _) _ _); refine wpList_ldr ty_cmd rfl _ rfl _ rfl _ rfl (HO.out.at 0 rfl) ?_)
    | ((with_reducible show wpList _ _ _ ({ dst := _, op := Op.store 25 (Operand.tmp 2) _, type := _, pos := _, after := _, guard := _ } :: _) _ _); refine wpList_sto ty_cmd HO.out 1 [.int .i64 13, .int .i64 0, .int .i64 a, .int .i64 b, .int .i64 c, .int .i64 d, .slice none 0 0, .slice none 0 0] rfl _ _ rfl _ rfl rfl _ rfl rfl rfl rfl ?_; intro w2 l2; clear HO; have HO := Lib.hid l2; clear l2))
  refine bodyPost_ret (results_c ty_cmd rfl rfl rfl (HO.out.at 1 rfl)) rfl ⟨_, _, rfl, SlF.nil _ _, SpF.nil _ _, HO.out.k⟩
end Go.Proofs.Ytkmhnfbjapfbeaa
