/-
  Contracts of layer 20 (cmd): Flat, of none, of one that is none of its type, of one that is.
-/
import Derived.Test.YtkmhnfbjapfbeaaCmdOwn
import Derived.Test.YtkmhnfbjapfbeaaCmdAssert
import Derived.Test.YtkmhnfbjapfbeaaCmdSmall
import Derived.BigGuard
namespace Go.Proofs.Ytkmhnfbjapfbeaa
open Go.RowKit

theorem iface_nil (T : TypeId) (v : Value) (w : World) : (binOp .eql 30 (.iface T v) .nilIface).run Try.prog w = .ok (.bool false) w := by rfl
theorem nil_nil (w : World) : (binOp .eql 30 .nilIface .nilIface).run Try.prog w = .ok (.bool true) w := by rfl
set_option linter.unusedSimpArgs false in
set_option maxRecDepth 100000 in
set_option maxHeartbeats 8000000 in
theorem flat_nil (w : World) : Calls Try.prog 12 #[.nilIface] w fun e w' => e = .returned (.tuple #[.agg #[.int .i64 0, .int .i64 0, .int .i64 0, .int .i64 0, .int .i64 0, .int .i64 0, .slice none 0 0, .slice none 0 0], .int .i64 1]) ∧ Kp w.heap.size w w' := by
  have qn := nil_nil
  have HO := Lib.hid ((Ow.refl w).newAt (w.heap.size) rfl (.int .i64 0) [.int .i64 0, .int .i64 0, .int .i64 0, .int .i64 0, .int .i64 0, .slice none 0 0, .slice none 0 0] 25)
  go_enter Try.func12, Try.ntmps12
  go_wp2_with go_big_skip
  refine bodyPost_ret (results_c2 ty_cmd rfl rfl rfl rfl (HO.out.at 0 rfl)) rfl ⟨rfl, HO.out.k⟩
set_option linter.unusedSimpArgs false in
set_option maxRecDepth 100000 in
set_option maxHeartbeats 8000000 in
theorem flat_no (T : TypeId) (y : Value) (o h a b c d : Int) (a3 a4 : Option Addr) (n3 c3 n4 c4 : Nat) (w : World) (FL : ∀ W, Calls Try.prog 23 #[.iface T y] W fun e w' => e = .returned (.tuple #[.agg #[.int .i64 o, .int .i64 h, .int .i64 a, .int .i64 b, .int .i64 c, .int .i64 d, .slice a3 n3 c3, .slice a4 n4 c4], .bool false]) ∧ Kp W.heap.size W w') :
    Calls Try.prog 12 #[.iface T y] w fun e w' => e = .returned (.tuple #[.agg #[.int .i64 0, .int .i64 0, .int .i64 0, .int .i64 0, .int .i64 0, .int .i64 0, .slice none 0 0, .slice none 0 0], .int .i64 9]) ∧ Kp w.heap.size w w' := by
  have qn := iface_nil T y
  have HO := Lib.hid ((Ow.refl w).newAt (w.heap.size) rfl (.int .i64 0) [.int .i64 0, .int .i64 0, .int .i64 0, .int .i64 0, .int .i64 0, .slice none 0 0, .slice none 0 0] 25)
  go_enter Try.func12, Try.ntmps12
  go_wp2_with (first
    | go_big_skip
    | (go_at_call 23; refine (FL _).mono ?_; rintro e w1 ⟨rfl, hk1⟩; have l2 := (HO.out.call hk1).newAt (w1.heap.size) rfl (.int .i64 o) [.int .i64 h, .int .i64 a, .int .i64 b, .int .i64 c, .int .i64 d, .slice a3 n3 c3, .slice a4 n4 c4] 25; clear HO hk1; have HO := Lib.hid l2; clear l2)
    | ((with_reducible show wpList _ _ _ ({ dst := _, op := Op.store 25 (Operand.tmp 2) _, type := _, pos := _, after := _, guard := _ } :: _) _ _); refine wpList_sto ty_cmd HO.out 1 [.int .i64 0, .int .i64 0, .int .i64 0, .int .i64 0, .int .i64 0, .int .i64 0, .slice none 0 0, .slice none 0 0] rfl _ _ rfl _ rfl rfl _ rfl rfl rfl rfl ?_; intro w2 l2; clear HO; have HO := Lib.hid l2; clear l2))
  refine bodyPost_ret (results_c2 ty_cmd rfl rfl rfl rfl (HO.out.at 1 rfl)) rfl ⟨rfl, HO.out.k⟩
set_option linter.unusedSimpArgs false in
set_option maxRecDepth 100000 in
set_option maxHeartbeats 8000000 in
theorem flat_yes (T : TypeId) (y : Value) (o h a b c d o9 h9 a9 b9 c9 d9 : Int) (a3 a4 : Option Addr) (n3 c3 n4 c4 : Nat) (xs : List Value) (ys : List (Nat → Int)) (w : World) (FL : ∀ W, Calls Try.prog 23 #[.iface T y] W fun e w' => e = .returned (.tuple #[.agg #[.int .i64 o, .int .i64 h, .int .i64 a, .int .i64 b, .int .i64 c, .int .i64 d, .slice a3 n3 c3, .slice a4 n4 c4], .bool true]) ∧ Kp W.heap.size W w') (OW : ∀ W, Kp w.heap.size w W → Calls Try.prog 8 #[.agg #[.int .i64 o, .int .i64 h, .int .i64 a, .int .i64 b, .int .i64 c, .int .i64 d, .slice a3 n3 c3, .slice a4 n4 c4]] W fun e w' => ∃ v' u', e = .returned (.agg #[.int .i64 o9, .int .i64 h9, .int .i64 a9, .int .i64 b9, .int .i64 c9, .int .i64 d9, v', u']) ∧ SlF W.heap.size w' v' xs ∧ SpF Cm.vt 9 W.heap.size w' u' ys ∧ Kp W.heap.size W w') :
    Calls Try.prog 12 #[.iface T y] w fun e w' => ∃ v' u', e = .returned (.tuple #[.agg #[.int .i64 o9, .int .i64 h9, .int .i64 a9, .int .i64 b9, .int .i64 c9, .int .i64 d9, v', u'], .int .i64 0]) ∧ SlF w.heap.size w' v' xs ∧ SpF Cm.vt 9 w.heap.size w' u' ys ∧ Kp w.heap.size w w' := by
  have qn := iface_nil T y
  have HO := Lib.hid ((Ow.refl w).newAt (w.heap.size) rfl (.int .i64 0) [.int .i64 0, .int .i64 0, .int .i64 0, .int .i64 0, .int .i64 0, .slice none 0 0, .slice none 0 0] 25)
  go_enter Try.func12, Try.ntmps12
  go_wp2_with (first
    | go_big_skip
    | (go_at_call 23; refine (FL _).mono ?_; rintro e w1 ⟨rfl, hk1⟩; have l2 := (HO.out.call hk1).newAt (w1.heap.size) rfl (.int .i64 o) [.int .i64 h, .int .i64 a, .int .i64 b, .int .i64 c, .int .i64 d, .slice a3 n3 c3, .slice a4 n4 c4] 25; clear HO hk1; have HO := Lib.hid l2; clear l2)
    | ((with_reducible show wpList _ _ _ ({ dst := _, op := Op.load 25 (Operand.tmp 4), type := _, pos := _, after := _, guard := _ } :: _) _ _); refine wpList_ldr ty_cmd rfl _ rfl _ rfl _ rfl (HO.out.at 0 rfl) ?_)
    | (go_at_call 8; refine (OW _ HO.out.k).mono ?_; rintro e w3 ⟨v', u', rfl, f1, f2, hk1⟩; obtain ⟨a5, n5, c5, rfl⟩ := f1.shape; obtain ⟨a6, n6, c6, rfl⟩ := f2.shape; have hb := HO.out.lt (q := (w.heap.size, [.int .i64 0, .int .i64 0, .int .i64 0, .int .i64 0, .int .i64 0, .int .i64 0, .slice none 0 0, .slice none 0 0])) (by simp); have l3 := And.intro (f1.mono (B' := w.heap.size + 1) hb) (f2.mono (B' := w.heap.size + 1) hb); have KF := Lib.hid (show Keeps (w.heap.size + 1) (fun W => SlF (w.heap.size + 1) W (.slice a5 n5 c5) xs ∧ SpF Cm.vt 9 (w.heap.size + 1) W (.slice a6 n6 c6) ys) from SlF.keeps.and SpF.keeps); have l2 := HO.out.call hk1; clear HO hk1 f1 f2 hb; have HO := Lib.hid l2; have HF := Lib.hid l3; clear l2 l3)
    | ((with_reducible show wpList _ _ _ ({ dst := _, op := Op.store 25 (Operand.tmp 2) _, type := _, pos := _, after := _, guard := _ } :: _) _ _); refine wpList_stoF ty_cmd KF.out HO.out HF.out 1 [.int .i64 o9, .int .i64 h9, .int .i64 a9, .int .i64 b9, .int .i64 c9, .int .i64 d9, .slice a5 n5 c5, .slice a6 n6 c6] rfl _ _ rfl _ rfl rfl _ rfl rfl rfl rfl (by omega) ?_; intro w2 l2 l3; clear HO HF; have HO := Lib.hid l2; have HF := Lib.hid l3; clear l2 l3))
  refine bodyPost_ret (results_c2 ty_cmd rfl rfl rfl rfl (HO.out.at 1 rfl)) rfl ⟨_, _, rfl, SlF.mono (And.left HF.out) (by omega), SpF.mono (And.right HF.out) (by omega), HO.out.k⟩
end Go.Proofs.Ytkmhnfbjapfbeaa
