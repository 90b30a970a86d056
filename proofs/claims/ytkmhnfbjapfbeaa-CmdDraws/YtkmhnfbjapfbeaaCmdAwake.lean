/-
  awake of layer 20's laws.
-/
import Derived.Test.YtkmhnfbjapfbeaaCmdBackP
import Derived.Test.YtkmhnfbjapfbeaaCmdSame
import Derived.BigGuard
namespace Go.Proofs.Ytkmhnfbjapfbeaa
open Go.RowKit

set_option linter.unusedSimpArgs false in
set_option maxRecDepth 100000 in
set_option maxHeartbeats 8000000 in
theorem awake_any (w : World) : Calls Try.prog 7 #[] w fun e w' => e = .returned (.bool true) ∧ Kp w.heap.size w w' := by
  have FL : ∀ W, Calls Try.prog 12 #[.iface 49 (.agg #[.int .i64 1, .int .i64 2, .int .i64 0, .int .i64 3])] W fun e w' => ∃ v' u', e = .returned (.tuple #[.agg #[.int .i64 14, .int .i64 1, .int .i64 2, .int .i64 0, .int .i64 3, .int .i64 0, v', u'], .int .i64 0]) ∧ SlF W.heap.size w' v' (iv []) ∧ SpF Cm.vt 9 W.heap.size w' u' [] ∧ Kp W.heap.size W w' := fun W => back_Draw 14 1 2 0 3 0 (.slice none 0 0) (.slice none 0 0) [] [] W rfl (Sl.nil W) (Ro.Sp.nil W) (by simp) (by simp)
  have HO := Lib.hid (Ow.refl w)
  go_enter Try.func7, Try.ntmps7
  go_wp2_with (first
    | go_big_skip
    | (go_at_call 12; refine (FL _).mono ?_; rintro e w3 ⟨v', u', rfl, f1, f2, hk1⟩; obtain ⟨a5, n5, c5, rfl⟩ := f1.shape; obtain ⟨a6, n6, c6, rfl⟩ := f2.shape; have l3 := SlF.keeps.kp _ _ f1 (Kp.new w3 #[.int .i64 14, .int .i64 1, .int .i64 2, .int .i64 0, .int .i64 3, .int .i64 0, .slice a5 n5 c5, .slice a6 n6 c6] 25); have l4 := SpF.keeps.kp _ _ f2 (Kp.new w3 #[.int .i64 14, .int .i64 1, .int .i64 2, .int .i64 0, .int .i64 3, .int .i64 0, .slice a5 n5 c5, .slice a6 n6 c6] 25); have l2 := (HO.out.call hk1).newAt (w3.heap.size) rfl (.int .i64 14) [.int .i64 1, .int .i64 2, .int .i64 0, .int .i64 3, .int .i64 0, .slice a5 n5 c5, .slice a6 n6 c6] 25; clear HO hk1 f1 f2; have HO := Lib.hid l2; have HS := Lib.hid l3; have HV := Lib.hid l4; clear l2 l3 l4)
    | ((with_reducible show wpList _ _ _ ({ dst := _, op := Op.load 25 (Operand.tmp 1), type := _, pos := _, after := _, guard := _ } :: _) _ _); refine wpList_ldr ty_cmd rfl _ rfl _ rfl _ rfl (HO.out.at 0 rfl) ?_)
    | (go_at_call 10; refine (rsame_yes 14 1 2 0 3 0 _ _ _ _ [] [] _ HS.out.sl (Sl.nil _) HV.out.sp (Ro.Sp.nil _) (by simp) (by simp)).mono ?_; rintro e wz ⟨rfl, hk1⟩; have l2 := HO.out.call hk1; clear HO hk1; have HO := Lib.hid l2; clear l2))
  go_ret
  exact ⟨rfl, HO.out.k⟩
end Go.Proofs.Ytkmhnfbjapfbeaa
