/-
  Contracts of layer 20 (cmd): a command's own fields, with its row; none of a kind that there is not.
-/
import Derived.Test.YtkmhnfbjapfbeaaCmdOwnA
import Derived.BigGuard
namespace Go.Proofs.Ytkmhnfbjapfbeaa
open Go.RowKit

set_option linter.unusedSimpArgs false in
set_option maxRecDepth 100000 in
set_option maxHeartbeats 8000000 in
set_option linter.unusedVariables false in
theorem own_5 (h a b c d : Int) (v u : Value) (l : List Int) (vs : List (Nat → Int)) (w : World) (hS : Sl w v (iv l)) (hV : Ro.Sp Cm.vt 9 w u vs) (hl : l.length ≤ 5000) (hn : vs.length ≤ 5000) : Cm.OwnSays 5 h a b c d v u l vs w := by
  unfold Cm.OwnSays
  have HV := Lib.hid hV
  have HS := Lib.hid hS
  have HN := Lib.hid hn
  have HL := Lib.hid hl
  clear hS hV hl hn
  have HO := Lib.hid ((((Ow.refl w).newAt (w.heap.size) rfl (.int .i64 5) [.int .i64 h, .int .i64 a, .int .i64 b, .int .i64 c, .int .i64 d, v, u] 25).newAt (w.heap.size + 1) (by simp) (.int .i64 0) [.int .i64 0, .int .i64 0, .int .i64 0, .int .i64 0, .int .i64 0, .slice none 0 0, .slice none 0 0] 25).newAt (w.heap.size + 2) (by simp) (.int .i64 5) [.int .i64 0, .int .i64 0, .int .i64 0, .int .i64 0, .int .i64 0, .slice none 0 0, .slice none 0 0] 25)
  go_enter Try.func8, Try.ntmps8
  go_wp2_with (first
    | (go_at_call 16; refine (clone_ints l v _ (HS.out.next HO.out.k) HL.out).mono ?_; rintro e w3 ⟨v', rfl, hf, hk1⟩; obtain ⟨a3, n3, c3, rfl⟩ := hf.shape; have l3 := hf.mono (B' := w.heap.size + 2 + 1) (Nat.le_of_eq (by simp)); have l2 := HO.out.call hk1; clear HO hk1 hf; have HO := Lib.hid l2; have HF := Lib.hid l3; have KF := Lib.hid (show Keeps (w.heap.size + 2 + 1) (fun W => SlF (w.heap.size + 2 + 1) W (.slice a3 n3 c3) (iv l)) from SlF.keeps); clear l2 l3)
    | ((with_reducible show wpList _ _ _ ({ dst := _, op := Op.load 22 (Operand.tmp 51), type := _, pos := _, after := _, guard := _ } :: _) _ _); refine wpList_ld1 rfl 6 (v) (HO.out.at 2 rfl) rfl (fun cc K hK => by go_simp; exact hK) ?_)
    | ((with_reducible show wpList _ _ _ ({ dst := _, op := Op.store 22 (Operand.tmp 54) _, type := _, pos := _, after := _, guard := _ } :: _) _ _); refine wpList_put1F KF.out HO.out HF.out 0 rfl 6 (by simp) (.slice a3 n3 c3) rfl (by omega) (fun cc ff K hK => by simp only [List.getElem?_cons_zero, List.getElem?_cons_succ] at cc; go_simp; exact hK) ?_; intro w2 l2 l3; simp only [List.set_cons_zero, List.set_cons_succ] at l2; clear HO HF; have HO := Lib.hid l2; have HF := Lib.hid l3; clear l2 l3)
    | go_big_skip
    | ((with_reducible show wpList _ _ _ ({ dst := _, op := Op.load 25 (Operand.tmp 3), type := _, pos := _, after := _, guard := _ } :: _) _ _); refine wpList_ldr ty_cmd rfl _ rfl _ rfl _ rfl (HO.out.at 0 rfl) ?_)
    | ((with_reducible show wpList _ _ _ ({ dst := _, op := Op.store 25 (Operand.tmp 2) _, type := _, pos := _, after := _, guard := _ } :: _) _ _); refine wpList_stoF ty_cmd KF.out HO.out HF.out 1 [.int .i64 5, .int .i64 0, .int .i64 0, .int .i64 0, .int .i64 0, .int .i64 0, .slice a3 n3 c3, .slice none 0 0] rfl _ _ rfl _ rfl rfl _ rfl rfl rfl rfl (by omega) ?_; intro w2 l2 l3; clear HO HF; have HO := Lib.hid l2; have HF := Lib.hid l3; clear l2 l3))
  refine bodyPost_ret (results_c ty_cmd rfl rfl rfl (HO.out.at 1 rfl)) rfl ⟨_, _, rfl, SlF.mono HF.out (by omega), SpF.nil _ _, HO.out.k⟩
set_option linter.unusedSimpArgs false in
set_option maxRecDepth 100000 in
set_option maxHeartbeats 8000000 in
set_option linter.unusedVariables false in
theorem own_9 (h a b c d : Int) (v u : Value) (l : List Int) (vs : List (Nat → Int)) (w : World) (hS : Sl w v (iv l)) (hV : Ro.Sp Cm.vt 9 w u vs) (hl : l.length ≤ 5000) (hn : vs.length ≤ 5000) : Cm.OwnSays 9 h a b c d v u l vs w := by
  unfold Cm.OwnSays
  have HV := Lib.hid hV
  have HS := Lib.hid hS
  have HN := Lib.hid hn
  have HL := Lib.hid hl
  clear hS hV hl hn
  have HO := Lib.hid ((((Ow.refl w).newAt (w.heap.size) rfl (.int .i64 9) [.int .i64 h, .int .i64 a, .int .i64 b, .int .i64 c, .int .i64 d, v, u] 25).newAt (w.heap.size + 1) (by simp) (.int .i64 0) [.int .i64 0, .int .i64 0, .int .i64 0, .int .i64 0, .int .i64 0, .slice none 0 0, .slice none 0 0] 25).newAt (w.heap.size + 2) (by simp) (.int .i64 9) [.int .i64 0, .int .i64 0, .int .i64 0, .int .i64 0, .int .i64 0, .slice none 0 0, .slice none 0 0] 25)
  go_enter Try.func8, Try.ntmps8
  go_wp2_with (first
    | (go_at_call 16; refine (clone_ints l v _ (HS.out.next HO.out.k) HL.out).mono ?_; rintro e w3 ⟨v', rfl, hf, hk1⟩; obtain ⟨a3, n3, c3, rfl⟩ := hf.shape; have l3 := hf.mono (B' := w.heap.size + 2 + 1) (Nat.le_of_eq (by simp)); have l2 := HO.out.call hk1; clear HO hk1 hf; have HO := Lib.hid l2; have HF := Lib.hid l3; have KF := Lib.hid (show Keeps (w.heap.size + 2 + 1) (fun W => SlF (w.heap.size + 2 + 1) W (.slice a3 n3 c3) (iv l)) from SlF.keeps); clear l2 l3)
    | ((with_reducible show wpList _ _ _ ({ dst := _, op := Op.load 22 (Operand.tmp 51), type := _, pos := _, after := _, guard := _ } :: _) _ _); refine wpList_ld1 rfl 6 (v) (HO.out.at 2 rfl) rfl (fun cc K hK => by go_simp; exact hK) ?_)
    | ((with_reducible show wpList _ _ _ ({ dst := _, op := Op.store 22 (Operand.tmp 54) _, type := _, pos := _, after := _, guard := _ } :: _) _ _); refine wpList_put1F KF.out HO.out HF.out 0 rfl 6 (by simp) (.slice a3 n3 c3) rfl (by omega) (fun cc ff K hK => by simp only [List.getElem?_cons_zero, List.getElem?_cons_succ] at cc; go_simp; exact hK) ?_; intro w2 l2 l3; simp only [List.set_cons_zero, List.set_cons_succ] at l2; clear HO HF; have HO := Lib.hid l2; have HF := Lib.hid l3; clear l2 l3)
    | go_big_skip
    | ((with_reducible show wpList _ _ _ ({ dst := _, op := Op.load 25 (Operand.tmp 3), type := _, pos := _, after := _, guard := _ } :: _) _ _); refine wpList_ldr ty_cmd rfl _ rfl _ rfl _ rfl (HO.out.at 0 rfl) ?_)
    | ((with_reducible show wpList _ _ _ ({ dst := _, op := Op.store 25 (Operand.tmp 2) _, type := _, pos := _, after := _, guard := _ } :: _) _ _); refine wpList_stoF ty_cmd KF.out HO.out HF.out 1 [.int .i64 9, .int .i64 0, .int .i64 0, .int .i64 0, .int .i64 0, .int .i64 0, .slice a3 n3 c3, .slice none 0 0] rfl _ _ rfl _ rfl rfl _ rfl rfl rfl rfl (by omega) ?_; intro w2 l2 l3; clear HO HF; have HO := Lib.hid l2; have HF := Lib.hid l3; clear l2 l3))
  refine bodyPost_ret (results_c ty_cmd rfl rfl rfl (HO.out.at 1 rfl)) rfl ⟨_, _, rfl, SlF.mono HF.out (by omega), SpF.nil _ _, HO.out.k⟩
set_option linter.unusedSimpArgs false in
set_option maxRecDepth 100000 in
set_option maxHeartbeats 8000000 in
theorem own_no (o h a b c d : Int) (v u : Value) (l : List Int) (vs : List (Nat → Int)) (w : World) (hk : ¬ (1 ≤ o ∧ o ≤ 19)) : Cm.OwnSays o h a b c d v u l vs w := by
  unfold Cm.OwnSays
  have q1 : (o == 1) = false := by simp; omega
  have q2 : (o == 2) = false := by simp; omega
  have q3 : (o == 3) = false := by simp; omega
  have q4 : (o == 4) = false := by simp; omega
  have q5 : (o == 5) = false := by simp; omega
  have q6 : (o == 6) = false := by simp; omega
  have q7 : (o == 7) = false := by simp; omega
  have q8 : (o == 8) = false := by simp; omega
  have q9 : (o == 9) = false := by simp; omega
  have q10 : (o == 10) = false := by simp; omega
  have q11 : (o == 11) = false := by simp; omega
  have q12 : (o == 12) = false := by simp; omega
  have q13 : (o == 13) = false := by simp; omega
  have q14 : (o == 14) = false := by simp; omega
  have q15 : (o == 15) = false := by simp; omega
  have q16 : (o == 16) = false := by simp; omega
  have q17 : (o == 17) = false := by simp; omega
  have q18 : (o == 18) = false := by simp; omega
  have q19 : (o == 19) = false := by simp; omega
  rw [Cm.op_out hk]
  rw [show Cm.hH o = false by unfold Cm.hH; simp; omega]
  rw [show Cm.hA o = false by unfold Cm.hA; simp; omega]
  rw [show Cm.hB o = false by unfold Cm.hB; simp; omega]
  rw [show Cm.hC o = false by unfold Cm.hC; simp; omega]
  rw [show Cm.hD o = false by unfold Cm.hD; simp; omega]
  rw [show Cm.hL o = false by unfold Cm.hL; simp; omega]
  rw [show Cm.hV o = false by unfold Cm.hV; simp; omega]
  clear hk
  have HO := Lib.hid ((((Ow.refl w).newAt (w.heap.size) rfl (.int .i64 o) [.int .i64 h, .int .i64 a, .int .i64 b, .int .i64 c, .int .i64 d, v, u] 25).newAt (w.heap.size + 1) (by simp) (.int .i64 0) [.int .i64 0, .int .i64 0, .int .i64 0, .int .i64 0, .int .i64 0, .slice none 0 0, .slice none 0 0] 25).newAt (w.heap.size + 2) (by simp) (.int .i64 o) [.int .i64 0, .int .i64 0, .int .i64 0, .int .i64 0, .int .i64 0, .slice none 0 0, .slice none 0 0] 25)
  go_enter Try.func8, Try.ntmps8
  go_wp2_with go_big_skip
  refine bodyPost_ret (results_c ty_cmd rfl rfl rfl (HO.out.at 1 rfl)) rfl ⟨_, _, rfl, SlF.nil _ _, SpF.nil _ _, HO.out.k⟩
end Go.Proofs.Ytkmhnfbjapfbeaa
