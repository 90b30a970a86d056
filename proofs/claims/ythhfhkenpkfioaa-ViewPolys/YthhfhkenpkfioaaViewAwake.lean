/-
  What must come at any rate, of layer 16's statements.
-/
import Derived.Test.YthhfhkenpkfioaaViewSnap
import Derived.Test.YthhfhkenpkfioaaViewRef
import Derived.BigGuard
namespace Go.Proofs.Ythhfhkenpkfioaa
open Go.RowKit

theorem wf64 {n : Int} (h : (Lit.int .i64 n).wf = true) : -9223372036854775808 ≤ n ∧ n ≤ 9223372036854775807 := by simpa [Lit.wf, IntKind.min, IntKind.max, IntKind.signed, IntKind.bits] using h
def Vw.awc : Cn | 3 => 256 | _ => 0
def Vw.aws : Nat → Int | 0 => 480 | 1 => 480 | 2 => 32767 | _ => 0
theorem run_eqZ (w : World) : (Op.equalIn 10000 32 (.agg #[.int .i64 0, .int .i64 0, .int .i64 0, .int .i64 0, .int .i64 0, .int .i64 0, .int .i64 0, .int .i64 0, .int .i64 0]) (.agg #[.int .i64 0, .int .i64 0, .int .i64 0, .int .i64 0, .int .i64 0, .int .i64 0, .int .i64 0, .int .i64 0, .int .i64 0])).run Try.prog w = .ok true w := run_eqS_same (fun _ => 0) w
set_option maxHeartbeats 1000000 in
theorem awake_any (w : World) :
    Calls Try.prog 9 #[] w fun e w' => e = .returned (.bool true) ∧ Kp w.heap.size w w' := by
  have P1 : ∀ W, Calls Try.prog 6 #[.agg #[.int .i64 0, .int .i64 0, .int .i64 0, .int .i64 256, .int .i64 0, .int .i64 0, .int .i64 0, .int .i64 0, .int .i64 0, .int .i64 0], .agg #[.int .i64 10, .int .i64 20, .int .i64 50, .int .i64 40]] W fun e w' => e = .returned (.tuple #[.agg #[.int .i64 480, .int .i64 480, .int .i64 32767, .int .i64 0, .int .i64 0, .int .i64 0, .int .i64 0, .int .i64 0, .int .i64 0], .int .i64 0]) ∧ Kp W.heap.size W w' := fun W => by
    have h := vsnap_yes Vw.awc 10 20 50 40 W (by decide) (by decide)
    have e0 : Vw.spot Vw.awc 10 20 50 40 0 = 480 := by decide
    have e1 : Vw.spot Vw.awc 10 20 50 40 1 = 480 := by decide
    have e2 : Vw.spot Vw.awc 10 20 50 40 2 = 32767 := by decide
    rw [e0, e1, e2] at h
    exact h
  have hE : ∀ W : World, (Op.equalIn 10000 32 (.agg #[.int .i64 480, .int .i64 480, .int .i64 32767, .int .i64 0, .int .i64 0, .int .i64 0, .int .i64 0, .int .i64 0, .int .i64 0]) (.agg #[.int .i64 480, .int .i64 480, .int .i64 32767, .int .i64 0, .int .i64 0, .int .i64 0, .int .i64 0, .int .i64 0, .int .i64 0])).run Try.prog W = .ok true W := fun W => run_eqS_same Vw.aws W
  have HO := Lib.hid (Ow.refl w)
  go_enter Try.func9, Try.ntmps9
  go_wp2_with (first
    | ((with_reducible show wpList _ _ _ ({ dst := _, op := Op.load 32 (Operand.tmp 1), type := _, pos := _, after := _, guard := _ } :: _) _ _); refine wpList_ldr ty_spot rfl _ rfl _ rfl _ rfl (HO.out.at 0 rfl) ?_)
    | (go_at_call 6; refine (P1 _).mono ?_; rintro e w1 ⟨rfl, hk1⟩; have l2 := (HO.out.call hk1).newAt w1.heap.size rfl (.int .i64 480) [.int .i64 480, .int .i64 32767, .int .i64 0, .int .i64 0, .int .i64 0, .int .i64 0, .int .i64 0, .int .i64 0] 32; clear HO hk1; have HO := Lib.hid l2; clear l2))
  go_ret
  exact ⟨rfl, HO.out.k⟩
end Go.Proofs.Ythhfhkenpkfioaa
