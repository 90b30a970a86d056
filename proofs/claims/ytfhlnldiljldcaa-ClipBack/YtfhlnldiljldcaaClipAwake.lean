/-
  What must come at any rate, of layer 15's statements.
-/
import Derived.Test.YtfhlnldiljldcaaClipCode
import Derived.BigGuard
namespace Go.Proofs.Ytfhlnldiljldcaa
open Go.RowKit

def Cl.aw1 : Cn | 3 => 3 | _ => 0
def Cl.aw2 : Cn | 0 => 4 | 3 => -1 | _ => 0
def Cl.aw3 : Cn | 0 => 1 | 3 => 2 | _ => 0
def Cl.aw4 : Cn | 0 => 2 | 3 => 1 | _ => 0
theorem Cl.aw_may : Cl.May Cl.aw1 ∧ Cl.May Cl.aw2 ∧ Cl.May Cl.aw3 := ⟨Cl.may_iff.1 (by decide), Cl.may_iff.1 (by decide), Cl.may_iff.1 (by decide)⟩
set_option maxHeartbeats 1000000 in
theorem awake_any (w : World) :
    Calls Try.prog 9 #[] w fun e w' => e = .returned (.bool true) ∧ Kp w.heap.size w w' := by
  have C1 : ∀ W, Calls Try.prog 7 #[.int .i64 0, .agg #[.int .i64 0, .int .i64 0, .int .i64 0, .int .i64 3, .int .i64 0, .int .i64 0, .int .i64 0, .int .i64 0, .int .i64 0, .int .i64 0], .agg #[.int .i64 4, .int .i64 0, .int .i64 0, .int .i64 (-1), .int .i64 0, .int .i64 0, .int .i64 0, .int .i64 0, .int .i64 0, .int .i64 0]] W fun e w' => e = .returned (.tuple #[.agg #[.int .i64 2, .int .i64 0, .int .i64 0, .int .i64 1, .int .i64 0, .int .i64 0, .int .i64 0, .int .i64 0, .int .i64 0, .int .i64 0], .int .i64 0]) ∧ Kp W.heap.size W w' := fun W => cut_yes 0 Cl.aw1 Cl.aw2 W (by omega) Cl.aw_may.1 Cl.aw_may.2.1 (by decide) (by decide)
  have F1 : ∀ W, Calls Try.prog 8 #[.int .i64 3, .agg #[.int .i64 1, .int .i64 0, .int .i64 0, .int .i64 2, .int .i64 0, .int .i64 0, .int .i64 0, .int .i64 0, .int .i64 0, .int .i64 0]] W fun e w' => e = .returned (.tuple #[.int .i64 7, .int .i64 0]) ∧ Kp W.heap.size W w' := fun W => far_yes 3 Cl.aw3 W (by omega) Cl.aw_may.2.2
  have hE : ∀ W : World, (Op.equalIn 10000 26 (.agg #[.int .i64 2, .int .i64 0, .int .i64 0, .int .i64 1, .int .i64 0, .int .i64 0, .int .i64 0, .int .i64 0, .int .i64 0, .int .i64 0]) (.agg #[.int .i64 2, .int .i64 0, .int .i64 0, .int .i64 1, .int .i64 0, .int .i64 0, .int .i64 0, .int .i64 0, .int .i64 0, .int .i64 0])).run Try.prog W = .ok true W := fun W => run_eqN_same Cl.aw4 W
  have HO := Lib.hid (Ow.refl w)
  go_enter Try.func9, Try.ntmps9
  go_wp2_with (first
    | ((with_reducible show wpList _ _ _ ({ dst := _, op := Op.load 26 _, type := _, pos := _, after := _, guard := _ } :: _) _ _); refine wpList_ldr ty_corner rfl _ rfl _ rfl _ rfl (HO.out.at 0 rfl) ?_)
    | (go_at_call 7; refine (C1 _).mono ?_; rintro e w1 ⟨rfl, hk1⟩; have l2 := (HO.out.call hk1).newAt w1.heap.size rfl (.int .i64 2) [.int .i64 0, .int .i64 0, .int .i64 1, .int .i64 0, .int .i64 0, .int .i64 0, .int .i64 0, .int .i64 0, .int .i64 0] 26; clear HO hk1; have HO := Lib.hid l2; clear l2)
    | (go_at_call 8; refine (F1 _).mono ?_; rintro e wz ⟨rfl, hk1⟩; have l2 := HO.out.call hk1; clear HO hk1; have HO := Lib.hid l2; clear l2))
  go_ret
  exact ⟨rfl, HO.out.k⟩
end Go.Proofs.Ytfhlnldiljldcaa
