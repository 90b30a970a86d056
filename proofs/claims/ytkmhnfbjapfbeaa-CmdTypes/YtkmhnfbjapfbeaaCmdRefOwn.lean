/-
  Contracts of the document's answers for layer 20 (cmd): a command's own fields, of whatever Op.
-/
import Derived.Test.YtkmhnfbjapfbeaaCmdRefOwnA
import Derived.Test.YtkmhnfbjapfbeaaCmdRefOwnB
import Derived.Test.YtkmhnfbjapfbeaaCmdRefOwnC
import Derived.BigGuard
namespace Go.Proofs.Ytkmhnfbjapfbeaa
open Go.RowKit

/-- a slice, or none -/
def Cm.ps (b : Bool) (v : Value) : Value := bif b then v else .slice none 0 0
set_option linter.unusedSimpArgs false in
set_option maxRecDepth 100000 in
set_option maxHeartbeats 8000000 in
theorem rown_no (o h a b c d : Int) (v u : Value) (w : World) (hk : ¬ (1 ≤ o ∧ o ≤ 19)) :
    Calls Try.prog 11 #[.agg #[.int .i64 o, .int .i64 h, .int .i64 a, .int .i64 b, .int .i64 c, .int .i64 d, v, u]] w fun e w' => e = .returned (.agg #[.int .i64 0, .int .i64 0, .int .i64 0, .int .i64 0, .int .i64 0, .int .i64 0, .slice none 0 0, .slice none 0 0]) ∧ Kp w.heap.size w w' := by
  have HO := Lib.hid (((Ow.refl w).newAt (w.heap.size) rfl (.int .i64 o) [.int .i64 h, .int .i64 a, .int .i64 b, .int .i64 c, .int .i64 d, v, u] 25).newAt (w.heap.size + 1) (by simp) (.int .i64 0) [.int .i64 0, .int .i64 0, .int .i64 0, .int .i64 0, .int .i64 0, .slice none 0 0, .slice none 0 0] 25)
  by_cases h1 : o < 1
  · have z1 : decide (o < 1) = true := decide_eq_true h1
    clear hk
    go_enter Try.func11, Try.ntmps11
    go_wp2_with go_big_skip
    refine bodyPost_ret (results_c ty_cmd rfl rfl rfl (HO.out.at 0 rfl)) rfl ⟨rfl, HO.out.k⟩
  · have z1 : decide (o < 1) = false := decide_eq_false h1
    have z2 : decide (19 < o) = true := decide_eq_true (by omega)
    have z3 : 19 < o := by omega
    clear hk
    go_enter Try.func11, Try.ntmps11
    go_wp2_with go_big_skip
    refine bodyPost_ret (results_c ty_cmd rfl rfl rfl (HO.out.at 0 rfl)) rfl ⟨rfl, HO.out.k⟩
theorem rown_any (o h a b c d : Int) (a1 a2 : Option Addr) (n1 c1 n2 c2 : Nat) (w : World) :
    Calls Try.prog 11 #[.agg #[.int .i64 o, .int .i64 h, .int .i64 a, .int .i64 b, .int .i64 c, .int .i64 d, .slice a1 n1 c1, .slice a2 n2 c2]] w fun e w' => e = .returned (.agg #[.int .i64 (Cm.op o), .int .i64 (Cm.pk (Cm.hH o) h), .int .i64 (Cm.pk (Cm.hA o) a), .int .i64 (Cm.pk (Cm.hB o) b), .int .i64 (Cm.pk (Cm.hC o) c), .int .i64 (Cm.pk (Cm.hD o) d), Cm.ps (Cm.hL o) (.slice a1 n1 c1), Cm.ps (Cm.hV o) (.slice a2 n2 c2)]) ∧ Kp w.heap.size w w' := by
  by_cases hk : 1 ≤ o ∧ o ≤ 19
  · rcases Cm.kinds hk with rfl | rfl | rfl | rfl | rfl | rfl | rfl | rfl | rfl | rfl | rfl | rfl | rfl | rfl | rfl | rfl | rfl | rfl | rfl
    · exact rown_ft ⟨#[72, 86]⟩ 1 h a b c d a1 a2 n1 c1 n2 c2 (Cm.hH 1) (Cm.hA 1) (Cm.hB 1) (Cm.hC 1) (Cm.hD 1) w (by decide) (fun W => pick_any _ 72 h _ W fun W => has_HV_H W) (fun W => pick_any _ 65 a _ W fun W => has_HV_A W) (fun W => pick_any _ 66 b _ W fun W => has_HV_B W) (fun W => pick_any _ 67 c _ W fun W => has_HV_C W) (fun W => pick_any _ 68 d _ W fun W => has_HV_D W) (fun W => has_HV_L W) (fun W => has_HV_V W) (fun W => fields_1 W)
    · exact rown_tf ⟨#[72, 76]⟩ 2 h a b c d a1 a2 n1 c1 n2 c2 (Cm.hH 2) (Cm.hA 2) (Cm.hB 2) (Cm.hC 2) (Cm.hD 2) w (by decide) (fun W => pick_any _ 72 h _ W fun W => has_HL_H W) (fun W => pick_any _ 65 a _ W fun W => has_HL_A W) (fun W => pick_any _ 66 b _ W fun W => has_HL_B W) (fun W => pick_any _ 67 c _ W fun W => has_HL_C W) (fun W => pick_any _ 68 d _ W fun W => has_HL_D W) (fun W => has_HL_L W) (fun W => has_HL_V W) (fun W => fields_2 W)
    · exact rown_tf ⟨#[72, 65, 66, 76]⟩ 3 h a b c d a1 a2 n1 c1 n2 c2 (Cm.hH 3) (Cm.hA 3) (Cm.hB 3) (Cm.hC 3) (Cm.hD 3) w (by decide) (fun W => pick_any _ 72 h _ W fun W => has_HABL_H W) (fun W => pick_any _ 65 a _ W fun W => has_HABL_A W) (fun W => pick_any _ 66 b _ W fun W => has_HABL_B W) (fun W => pick_any _ 67 c _ W fun W => has_HABL_C W) (fun W => pick_any _ 68 d _ W fun W => has_HABL_D W) (fun W => has_HABL_L W) (fun W => has_HABL_V W) (fun W => fields_3 W)
    · exact rown_ff ⟨#[72]⟩ 4 h a b c d a1 a2 n1 c1 n2 c2 (Cm.hH 4) (Cm.hA 4) (Cm.hB 4) (Cm.hC 4) (Cm.hD 4) w (by decide) (fun W => pick_any _ 72 h _ W fun W => has_H_H W) (fun W => pick_any _ 65 a _ W fun W => has_H_A W) (fun W => pick_any _ 66 b _ W fun W => has_H_B W) (fun W => pick_any _ 67 c _ W fun W => has_H_C W) (fun W => pick_any _ 68 d _ W fun W => has_H_D W) (fun W => has_H_L W) (fun W => has_H_V W) (fun W => fields_4 W)
    · exact rown_tf ⟨#[76]⟩ 5 h a b c d a1 a2 n1 c1 n2 c2 (Cm.hH 5) (Cm.hA 5) (Cm.hB 5) (Cm.hC 5) (Cm.hD 5) w (by decide) (fun W => pick_any _ 72 h _ W fun W => has_L_H W) (fun W => pick_any _ 65 a _ W fun W => has_L_A W) (fun W => pick_any _ 66 b _ W fun W => has_L_B W) (fun W => pick_any _ 67 c _ W fun W => has_L_C W) (fun W => pick_any _ 68 d _ W fun W => has_L_D W) (fun W => has_L_L W) (fun W => has_L_V W) (fun W => fields_5 W)
    · exact rown_ff ⟨#[65, 66, 67, 68]⟩ 6 h a b c d a1 a2 n1 c1 n2 c2 (Cm.hH 6) (Cm.hA 6) (Cm.hB 6) (Cm.hC 6) (Cm.hD 6) w (by decide) (fun W => pick_any _ 72 h _ W fun W => has_ABCD_H W) (fun W => pick_any _ 65 a _ W fun W => has_ABCD_A W) (fun W => pick_any _ 66 b _ W fun W => has_ABCD_B W) (fun W => pick_any _ 67 c _ W fun W => has_ABCD_C W) (fun W => pick_any _ 68 d _ W fun W => has_ABCD_D W) (fun W => has_ABCD_L W) (fun W => has_ABCD_V W) (fun W => fields_6 W)
    · exact rown_ff ⟨#[65, 66, 67, 68]⟩ 7 h a b c d a1 a2 n1 c1 n2 c2 (Cm.hH 7) (Cm.hA 7) (Cm.hB 7) (Cm.hC 7) (Cm.hD 7) w (by decide) (fun W => pick_any _ 72 h _ W fun W => has_ABCD_H W) (fun W => pick_any _ 65 a _ W fun W => has_ABCD_A W) (fun W => pick_any _ 66 b _ W fun W => has_ABCD_B W) (fun W => pick_any _ 67 c _ W fun W => has_ABCD_C W) (fun W => pick_any _ 68 d _ W fun W => has_ABCD_D W) (fun W => has_ABCD_L W) (fun W => has_ABCD_V W) (fun W => fields_7 W)
    · exact rown_ff ⟨#[65, 66]⟩ 8 h a b c d a1 a2 n1 c1 n2 c2 (Cm.hH 8) (Cm.hA 8) (Cm.hB 8) (Cm.hC 8) (Cm.hD 8) w (by decide) (fun W => pick_any _ 72 h _ W fun W => has_AB_H W) (fun W => pick_any _ 65 a _ W fun W => has_AB_A W) (fun W => pick_any _ 66 b _ W fun W => has_AB_B W) (fun W => pick_any _ 67 c _ W fun W => has_AB_C W) (fun W => pick_any _ 68 d _ W fun W => has_AB_D W) (fun W => has_AB_L W) (fun W => has_AB_V W) (fun W => fields_8 W)
    · exact rown_tf ⟨#[76]⟩ 9 h a b c d a1 a2 n1 c1 n2 c2 (Cm.hH 9) (Cm.hA 9) (Cm.hB 9) (Cm.hC 9) (Cm.hD 9) w (by decide) (fun W => pick_any _ 72 h _ W fun W => has_L_H W) (fun W => pick_any _ 65 a _ W fun W => has_L_A W) (fun W => pick_any _ 66 b _ W fun W => has_L_B W) (fun W => pick_any _ 67 c _ W fun W => has_L_C W) (fun W => pick_any _ 68 d _ W fun W => has_L_D W) (fun W => has_L_L W) (fun W => has_L_V W) (fun W => fields_9 W)
    · exact rown_ff ⟨#[65, 66, 67, 68]⟩ 10 h a b c d a1 a2 n1 c1 n2 c2 (Cm.hH 10) (Cm.hA 10) (Cm.hB 10) (Cm.hC 10) (Cm.hD 10) w (by decide) (fun W => pick_any _ 72 h _ W fun W => has_ABCD_H W) (fun W => pick_any _ 65 a _ W fun W => has_ABCD_A W) (fun W => pick_any _ 66 b _ W fun W => has_ABCD_B W) (fun W => pick_any _ 67 c _ W fun W => has_ABCD_C W) (fun W => pick_any _ 68 d _ W fun W => has_ABCD_D W) (fun W => has_ABCD_L W) (fun W => has_ABCD_V W) (fun W => fields_10 W)
    · exact rown_ff ⟨#[65]⟩ 11 h a b c d a1 a2 n1 c1 n2 c2 (Cm.hH 11) (Cm.hA 11) (Cm.hB 11) (Cm.hC 11) (Cm.hD 11) w (by decide) (fun W => pick_any _ 72 h _ W fun W => has_A_H W) (fun W => pick_any _ 65 a _ W fun W => has_A_A W) (fun W => pick_any _ 66 b _ W fun W => has_A_B W) (fun W => pick_any _ 67 c _ W fun W => has_A_C W) (fun W => pick_any _ 68 d _ W fun W => has_A_D W) (fun W => has_A_L W) (fun W => has_A_V W) (fun W => fields_11 W)
    · exact rown_ff ⟨#[72, 65, 66]⟩ 12 h a b c d a1 a2 n1 c1 n2 c2 (Cm.hH 12) (Cm.hA 12) (Cm.hB 12) (Cm.hC 12) (Cm.hD 12) w (by decide) (fun W => pick_any _ 72 h _ W fun W => has_HAB_H W) (fun W => pick_any _ 65 a _ W fun W => has_HAB_A W) (fun W => pick_any _ 66 b _ W fun W => has_HAB_B W) (fun W => pick_any _ 67 c _ W fun W => has_HAB_C W) (fun W => pick_any _ 68 d _ W fun W => has_HAB_D W) (fun W => has_HAB_L W) (fun W => has_HAB_V W) (fun W => fields_12 W)
    · exact rown_ff ⟨#[65, 66, 67, 68]⟩ 13 h a b c d a1 a2 n1 c1 n2 c2 (Cm.hH 13) (Cm.hA 13) (Cm.hB 13) (Cm.hC 13) (Cm.hD 13) w (by decide) (fun W => pick_any _ 72 h _ W fun W => has_ABCD_H W) (fun W => pick_any _ 65 a _ W fun W => has_ABCD_A W) (fun W => pick_any _ 66 b _ W fun W => has_ABCD_B W) (fun W => pick_any _ 67 c _ W fun W => has_ABCD_C W) (fun W => pick_any _ 68 d _ W fun W => has_ABCD_D W) (fun W => has_ABCD_L W) (fun W => has_ABCD_V W) (fun W => fields_13 W)
    · exact rown_ff ⟨#[72, 65, 66, 67]⟩ 14 h a b c d a1 a2 n1 c1 n2 c2 (Cm.hH 14) (Cm.hA 14) (Cm.hB 14) (Cm.hC 14) (Cm.hD 14) w (by decide) (fun W => pick_any _ 72 h _ W fun W => has_HABC_H W) (fun W => pick_any _ 65 a _ W fun W => has_HABC_A W) (fun W => pick_any _ 66 b _ W fun W => has_HABC_B W) (fun W => pick_any _ 67 c _ W fun W => has_HABC_C W) (fun W => pick_any _ 68 d _ W fun W => has_HABC_D W) (fun W => has_HABC_L W) (fun W => has_HABC_V W) (fun W => fields_14 W)
    · exact rown_ff ⟨#[]⟩ 15 h a b c d a1 a2 n1 c1 n2 c2 (Cm.hH 15) (Cm.hA 15) (Cm.hB 15) (Cm.hC 15) (Cm.hD 15) w (by decide) (fun W => pick_any _ 72 h _ W fun W => has_no_H W) (fun W => pick_any _ 65 a _ W fun W => has_no_A W) (fun W => pick_any _ 66 b _ W fun W => has_no_B W) (fun W => pick_any _ 67 c _ W fun W => has_no_C W) (fun W => pick_any _ 68 d _ W fun W => has_no_D W) (fun W => has_no_L W) (fun W => has_no_V W) (fun W => fields_15 W)
    · exact rown_ff ⟨#[65]⟩ 16 h a b c d a1 a2 n1 c1 n2 c2 (Cm.hH 16) (Cm.hA 16) (Cm.hB 16) (Cm.hC 16) (Cm.hD 16) w (by decide) (fun W => pick_any _ 72 h _ W fun W => has_A_H W) (fun W => pick_any _ 65 a _ W fun W => has_A_A W) (fun W => pick_any _ 66 b _ W fun W => has_A_B W) (fun W => pick_any _ 67 c _ W fun W => has_A_C W) (fun W => pick_any _ 68 d _ W fun W => has_A_D W) (fun W => has_A_L W) (fun W => has_A_V W) (fun W => fields_16 W)
    · exact rown_ff ⟨#[65]⟩ 17 h a b c d a1 a2 n1 c1 n2 c2 (Cm.hH 17) (Cm.hA 17) (Cm.hB 17) (Cm.hC 17) (Cm.hD 17) w (by decide) (fun W => pick_any _ 72 h _ W fun W => has_A_H W) (fun W => pick_any _ 65 a _ W fun W => has_A_A W) (fun W => pick_any _ 66 b _ W fun W => has_A_B W) (fun W => pick_any _ 67 c _ W fun W => has_A_C W) (fun W => pick_any _ 68 d _ W fun W => has_A_D W) (fun W => has_A_L W) (fun W => has_A_V W) (fun W => fields_17 W)
    · exact rown_ff ⟨#[72, 65, 66, 67, 68]⟩ 18 h a b c d a1 a2 n1 c1 n2 c2 (Cm.hH 18) (Cm.hA 18) (Cm.hB 18) (Cm.hC 18) (Cm.hD 18) w (by decide) (fun W => pick_any _ 72 h _ W fun W => has_HABCD_H W) (fun W => pick_any _ 65 a _ W fun W => has_HABCD_A W) (fun W => pick_any _ 66 b _ W fun W => has_HABCD_B W) (fun W => pick_any _ 67 c _ W fun W => has_HABCD_C W) (fun W => pick_any _ 68 d _ W fun W => has_HABCD_D W) (fun W => has_HABCD_L W) (fun W => has_HABCD_V W) (fun W => fields_18 W)
    · exact rown_ff ⟨#[]⟩ 19 h a b c d a1 a2 n1 c1 n2 c2 (Cm.hH 19) (Cm.hA 19) (Cm.hB 19) (Cm.hC 19) (Cm.hD 19) w (by decide) (fun W => pick_any _ 72 h _ W fun W => has_no_H W) (fun W => pick_any _ 65 a _ W fun W => has_no_A W) (fun W => pick_any _ 66 b _ W fun W => has_no_B W) (fun W => pick_any _ 67 c _ W fun W => has_no_C W) (fun W => pick_any _ 68 d _ W fun W => has_no_D W) (fun W => has_no_L W) (fun W => has_no_V W) (fun W => fields_19 W)
  · rw [Cm.op_out hk]
    rw [show Cm.hH o = false by unfold Cm.hH; simp; omega]
    rw [show Cm.hA o = false by unfold Cm.hA; simp; omega]
    rw [show Cm.hB o = false by unfold Cm.hB; simp; omega]
    rw [show Cm.hC o = false by unfold Cm.hC; simp; omega]
    rw [show Cm.hD o = false by unfold Cm.hD; simp; omega]
    rw [show Cm.hL o = false by unfold Cm.hL; simp; omega]
    rw [show Cm.hV o = false by unfold Cm.hV; simp; omega]
    exact rown_no o h a b c d _ _ w hk
end Go.Proofs.Ytkmhnfbjapfbeaa
