/-
  Contracts of layer 20 (cmd): a command's own fields, with its row.
-/
import Derived.Test.YtkmhnfbjapfbeaaCmdOwnA
import Derived.BigGuard
namespace Go.Proofs.Ytkmhnfbjapfbeaa
open Go.RowKit

set_option linter.unusedSimpArgs false in
set_option maxRecDepth 100000 in
set_option maxHeartbeats 8000000 in
set_option linter.unusedVariables false in
theorem own_2 (h a b c d : Int) (v u : Value) (l : List Int) (vs : List (Nat → Int)) (w : World) (hS : Sl w v (iv l)) (hV : Ro.Sp Cm.vt 9 w u vs) (hl : l.length ≤ 5000) (hn : vs.length ≤ 5000) : Cm.OwnSays 2 h a b c d v u l vs w := by
  unfold Cm.OwnSays
  have HV := Lib.hid hV
  have HS := Lib.hid hS
  have HN := Lib.hid hn
  have HL := Lib.hid hl
  clear hS hV hl hn
  have HO := Lib.hid ((((Ow.refl w).newAt (w.heap.size) rfl (.int .i64 2) [.int .i64 h, .int .i64 a, .int .i64 b, .int .i64 c, .int .i64 d, v, u] 25).newAt (w.heap.size + 1) (by simp) (.int .i64 0) [.int .i64 0, .int .i64 0, .int .i64 0, .int .i64 0, .int .i64 0, .slice none 0 0, .slice none 0 0] 25).newAt (w.heap.size + 2) (by simp) (.int .i64 2) [.int .i64 0, .int .i64 0, .int .i64 0, .int .i64 0, .int .i64 0, .slice none 0 0, .slice none 0 0] 25)
  go_enter Try.func8, Try.ntmps8
  go_wp2_with go_big_skip
  refine Rg4.region (σ := List (Nat × List Value) × Option Value) (I := Rg4.If w [(w.heap.size + 1, [.int .i64 0, .int .i64 0, .int .i64 0, .int .i64 0, .int .i64 0, .int .i64 0, .slice none 0 0, .slice none 0 0]), (w.heap.size, [.int .i64 2, .int .i64 h, .int .i64 a, .int .i64 b, .int .i64 c, .int .i64 d, v, u])] (fun x W => ∀ y, x = some y → SlF (w.heap.size + 2 + 1) W y (iv l))) (dem := fun i => i == 4 || i == 6 || i == 8) (m := 9) (g := 0) (T := fun listed sq st => ∀ W, Rg4.If w [(w.heap.size + 1, [.int .i64 0, .int .i64 0, .int .i64 0, .int .i64 0, .int .i64 0, .int .i64 0, .slice none 0 0, .slice none 0 0]), (w.heap.size, [.int .i64 2, .int .i64 h, .int .i64 a, .int .i64 b, .int .i64 c, .int .i64 d, v, u])] (fun x W => ∀ y, x = some y → SlF (w.heap.size + 2 + 1) W y (iv l)) sq W → wpAny Try.prog .any _ _ 0 listed st W) ([(w.heap.size + 2, [.int .i64 2, .int .i64 0, .int .i64 0, .int .i64 0, .int .i64 0, .int .i64 0, .slice none 0 0, .slice none 0 0])], none) (by kernel_rfl) (show Rg4.If w [(w.heap.size + 1, [.int .i64 0, .int .i64 0, .int .i64 0, .int .i64 0, .int .i64 0, .int .i64 0, .slice none 0 0, .slice none 0 0]), (w.heap.size, [.int .i64 2, .int .i64 h, .int .i64 a, .int .i64 b, .int .i64 c, .int .i64 d, v, u])] (fun x W => ∀ y, x = some y → SlF (w.heap.size + 2 + 1) W y (iv l)) _ _ from ⟨show Rg2.Io w [(w.heap.size + 1, [.int .i64 0, .int .i64 0, .int .i64 0, .int .i64 0, .int .i64 0, .int .i64 0, .slice none 0 0, .slice none 0 0]), (w.heap.size, [.int .i64 2, .int .i64 h, .int .i64 a, .int .i64 b, .int .i64 c, .int .i64 d, v, u])] [(w.heap.size + 2, [.int .i64 2, .int .i64 0, .int .i64 0, .int .i64 0, .int .i64 0, .int .i64 0, .slice none 0 0, .slice none 0 0])] _ from HO.out.drew, fun y e => by cases e⟩) rfl (fun _ _ _ _ h hI => h _ hI) ?_
  have HB : Hid (∀ W s, s ≠ [] → Rg2.Io w [(w.heap.size + 1, [.int .i64 0, .int .i64 0, .int .i64 0, .int .i64 0, .int .i64 0, .int .i64 0, .slice none 0 0, .slice none 0 0]), (w.heap.size, [.int .i64 2, .int .i64 h, .int .i64 a, .int .i64 b, .int .i64 c, .int .i64 d, v, u])] s W → w.heap.size + 2 ∈ s.map Prod.fst → w.heap.size + 2 + 1 ≤ W.heap.size) := Lib.hid (fun W s _ hI hm => by obtain ⟨q, hq, e⟩ := List.mem_map.1 hm; have := Ow.lt hI (q := q) (List.mem_append_left _ hq); omega)
  clear HO
  refine Rg4.take 0 (v := .pointer (some ⟨w.heap.size, 1, none⟩)) rfl rfl (by kernel_rfl) (by kernel_rfl) (by kernel_rfl) (by kernel_rfl) (by kernel_rfl) (.inl ⟨rfl, fun bs wq hI => ?_⟩) ?_
  · go_simp
  simp only [Act.put, List.getElem_toArray, List.getElem_cons_zero, List.getElem_cons_succ, List.setIfInBounds_toArray, List.set_cons_zero, List.set_cons_succ]
  refine Rg4.take 1 (v := .int .i64 h) rfl rfl (by kernel_rfl) (by kernel_rfl) (by kernel_rfl) (by kernel_rfl) (by kernel_rfl) (.inl ⟨rfl, fun bs wq hI => ?_⟩) ?_
  · (have hc := (hI.1.rc (List.mem_of_getElem? (i := 1) rfl)).cell 1 rfl; go_simp)
  simp only [Act.put, List.getElem_toArray, List.getElem_cons_zero, List.getElem_cons_succ, List.setIfInBounds_toArray, List.set_cons_zero, List.set_cons_succ]
  refine Rg4.take 2 (v := .pointer (some ⟨w.heap.size, 6, none⟩)) rfl rfl (by kernel_rfl) (by kernel_rfl) (by kernel_rfl) (by kernel_rfl) (by kernel_rfl) (.inl ⟨rfl, fun bs wq hI => ?_⟩) ?_
  · go_simp
  simp only [Act.put, List.getElem_toArray, List.getElem_cons_zero, List.getElem_cons_succ, List.setIfInBounds_toArray, List.set_cons_zero, List.set_cons_succ]
  refine Rg4.take 3 (v := v) rfl rfl (by kernel_rfl) (by kernel_rfl) (by kernel_rfl) (by kernel_rfl) (by kernel_rfl) (.inl ⟨rfl, fun bs wq hI => ?_⟩) ?_
  · (have hc := (hI.1.rc (List.mem_of_getElem? (i := 1) rfl)).cell 6 rfl; go_simp)
  simp only [Act.put, List.getElem_toArray, List.getElem_cons_zero, List.getElem_cons_succ, List.setIfInBounds_toArray, List.set_cons_zero, List.set_cons_succ]
  refine Rg4.take 5 (v := .pointer (some ⟨w.heap.size + 2, 1, none⟩)) rfl rfl (by kernel_rfl) (by kernel_rfl) (by kernel_rfl) (by kernel_rfl) (by kernel_rfl) (.inl ⟨rfl, fun bs wq hI => ?_⟩) ?_
  · go_simp
  simp only [Act.put, List.getElem_toArray, List.getElem_cons_zero, List.getElem_cons_succ, List.setIfInBounds_toArray, List.set_cons_zero, List.set_cons_succ]
  refine Rg4.gives1 4 (fun sq y => sq = ([(w.heap.size + 2, [.int .i64 2, .int .i64 0, .int .i64 0, .int .i64 0, .int .i64 0, .int .i64 0, .slice none 0 0, .slice none 0 0])], some y) ∧ ∃ a n c, y = .slice a n c) (by kernel_rfl) rfl rfl (Rg4.gives_call (fun y => ∃ a n c, y = .slice a n c) 16 #[v] rfl (fun W => by simp [execOp, go_sem]) (fun W hI => ((clone_ints l v W (HS.out.next (Ow.k hI)) HL.out).mono fun e w2 ⟨y, e1, e2, e3⟩ => ⟨y, e1, fun z ez => by cases ez; exact e2.mono (HB.out W _ (by simp) hI (by simp)), e3, e2.shape⟩))) (fun sq y hR => ?_)
  obtain ⟨rfl, a3, n3, c3, rfl⟩ := hR
  simp only [Act.put, List.getElem_toArray, List.getElem_cons_zero, List.getElem_cons_succ, List.setIfInBounds_toArray, List.set_cons_zero, List.set_cons_succ]
  refine Rg4.put1 6 (by kernel_rfl) rfl rfl (Rg4.puts_cellF (B := w.heap.size + 2 + 1) (fun x => ⟨fun W W' h hk y e => (SlF.keeps).kp W W' (h y e) hk, fun b W W' hb hs h y e => (SlF.keeps).st b W W' hb hs (h y e)⟩) 0 rfl 1 (by simp) (.int .i64 h) rfl (by omega) (fun W cc ff => by simp only [List.getElem?_cons_zero, List.getElem?_cons_succ] at cc; simp [execOp, go_sem, cc, ff])) ?_
  simp only [Act.put, List.getElem_toArray, List.getElem_cons_zero, List.getElem_cons_succ, List.setIfInBounds_toArray, List.set_cons_zero, List.set_cons_succ]
  refine Rg4.take 7 (v := .pointer (some ⟨w.heap.size + 2, 6, none⟩)) rfl rfl (by kernel_rfl) (by kernel_rfl) (by kernel_rfl) (by kernel_rfl) (by kernel_rfl) (.inl ⟨rfl, fun bs wq hI => ?_⟩) ?_
  · go_simp
  simp only [Act.put, List.getElem_toArray, List.getElem_cons_zero, List.getElem_cons_succ, List.setIfInBounds_toArray, List.set_cons_zero, List.set_cons_succ]
  refine Rg4.put1 8 (by kernel_rfl) rfl rfl (Rg4.puts_cellF (B := w.heap.size + 2 + 1) (fun x => ⟨fun W W' h hk y e => (SlF.keeps).kp W W' (h y e) hk, fun b W W' hb hs h y e => (SlF.keeps).st b W W' hb hs (h y e)⟩) 0 rfl 6 (by simp) (.slice a3 n3 c3) rfl (by omega) (fun W cc ff => by simp only [List.getElem?_cons_zero, List.getElem?_cons_succ] at cc; simp [execOp, go_sem, cc, ff])) ?_
  simp only [Act.put, List.getElem_toArray, List.getElem_cons_zero, List.getElem_cons_succ, List.setIfInBounds_toArray, List.set_cons_zero, List.set_cons_succ]
  refine Rg4.done (rs := []) (by kernel_rfl) (by decide) (fun W hI => ?_)
  have HO := Lib.hid (show Ow w W [(w.heap.size + 2, [.int .i64 2, .int .i64 h, .int .i64 0, .int .i64 0, .int .i64 0, .int .i64 0, .slice a3 n3 c3, .slice none 0 0]), (w.heap.size + 1, [.int .i64 0, .int .i64 0, .int .i64 0, .int .i64 0, .int .i64 0, .int .i64 0, .slice none 0 0, .slice none 0 0]), (w.heap.size, [.int .i64 2, .int .i64 h, .int .i64 a, .int .i64 b, .int .i64 c, .int .i64 d, v, u])] from hI.1)
  have HF := Lib.hid (show SlF (w.heap.size + 2 + 1) W (.slice a3 n3 c3) (iv l) from hI.2 _ rfl)
  have KF := Lib.hid (show Keeps (w.heap.size + 2 + 1) (fun W => SlF (w.heap.size + 2 + 1) W (.slice a3 n3 c3) (iv l)) from SlF.keeps)
  clear hI HB HV HS HN HL
  refine wpAny_done (by kernel_rfl) ?_ _
  go_wp2_with (first
    | go_big_skip
    | ((with_reducible show wpList _ _ _ ({ dst := _, op := Op.load 25 (Operand.tmp 3), type := _, pos := _, after := _, guard := _ } :: _) _ _); refine wpList_ldr ty_cmd rfl _ rfl _ rfl _ rfl (HO.out.at 0 rfl) ?_)
    | ((with_reducible show wpList _ _ _ ({ dst := _, op := Op.store 25 (Operand.tmp 2) _, type := _, pos := _, after := _, guard := _ } :: _) _ _); refine wpList_stoF ty_cmd KF.out HO.out HF.out 1 [.int .i64 2, .int .i64 h, .int .i64 0, .int .i64 0, .int .i64 0, .int .i64 0, .slice a3 n3 c3, .slice none 0 0] rfl _ _ rfl _ rfl rfl _ rfl rfl rfl rfl (by omega) ?_; intro w2 l2 l3; clear HO HF; have HO := Lib.hid l2; have HF := Lib.hid l3; clear l2 l3))
  refine bodyPost_ret (results_c ty_cmd rfl rfl rfl (HO.out.at 1 rfl)) rfl ⟨_, _, rfl, SlF.mono HF.out (by omega), SpF.nil _ _, HO.out.k⟩
end Go.Proofs.Ytkmhnfbjapfbeaa
