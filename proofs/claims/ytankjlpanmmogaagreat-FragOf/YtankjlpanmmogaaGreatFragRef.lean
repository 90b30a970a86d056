/-
  Layer 19's document (temperaref19): which pixels and fragments are right.
-/
import Derived.Test.YtankjlpanmmogaaGreatJFragCode
import Derived.BigGuard
namespace Go.Proofs.YtankjlpanmmogaaGreat
set_option maxRecDepth 100000
open Go.RowKit

theorem rdeep_any (z : Int) (w : World) :
    Calls Tryz.prog 28 #[.int .i64 z] w fun e w' => e = .returned (.bool (Fr.deep z)) ∧ w = w' := by
  cases h1 : decide (0 ≤ z)
  all_goals
    go_enter Tryz.func28, Tryz.ntmps28
    go_wp2_with go_big_skip
    go_ret
    exact ⟨ret_bool (by simp [Fr.deep, h1]), rfl⟩
set_option linter.unusedSimpArgs false in
set_option maxRecDepth 100000 in
set_option maxHeartbeats 8000000 in
theorem rmay19_any (f : Sf) (w : World) :
    Calls Tryz.prog 9 #[.agg #[.int .i64 (f 0), .int .i64 (f 1), .int .i64 (f 2), .int .i64 (f 3), .int .i64 (f 4)]] w fun e w' => e = .returned (.bool (Fr.may f)) ∧ Kp w.heap.size w w' := by
  have T1 := fun W => rright_any (f 0) (f 1) (f 2) (f 3) W
  have W1 := fun W => rdeep_any (f 4) W
  have HR : Hid (Fr.may f = (Tn.right (f 0) (f 1) (f 2) (f 3) && Fr.deep (f 4))) := Lib.hid rfl
  generalize Tn.right (f 0) (f 1) (f 2) (f 3) = c1 at *
  generalize Fr.deep (f 4) = c2 at *
  generalize Fr.may f = r at *
  have HO := Lib.hid ((Ow.refl w).newAt (w.heap.size) rfl (.int .i64 (f 0)) [.int .i64 (f 1), .int .i64 (f 2), .int .i64 (f 3), .int .i64 (f 4)] 53)
  cases c1
  all_goals
    go_enter Tryz.func9, Tryz.ntmps9
    go_wp2_with (first
      | go_big_skip
      | ((with_reducible show wpList _ _ _ ({ dst := _, op := Op.load 51 (Operand.tmp 3), type := _, pos := _, after := _, guard := _ } :: _) _ _); refine wpList_ldo ty_color rfl _ rfl _ _ rfl [.int .i64 (f 0), .int .i64 (f 1), .int .i64 (f 2), .int .i64 (f 3), .int .i64 (f 4)] rfl (Rc.some (HO.out.at 0 rfl)) ?_; intro us hus; dsimp only [List.drop, List.take] at hus; subst hus)
      | ((with_reducible show wpList _ _ _ ({ dst := _, op := Op.load 3 (Operand.tmp 7), type := _, pos := _, after := _, guard := _ } :: _) _ _); refine wpList_ld1 rfl 4 (.int .i64 (f 4)) (HO.out.at 0 rfl) rfl (fun cc K hK => by go_simp; exact hK) ?_)
      | (go_at_call 27; (with_reducible refine (T1 _).mono ?_); rintro e wz ⟨rfl, hk1⟩; have l2 := HO.out.call hk1; clear HO hk1; have HO := Lib.hid l2; clear l2)
      | (go_at_call 28; (with_reducible refine (W1 _).mono ?_); rintro e w' ⟨rfl, rfl⟩))
    go_ret
    exact ⟨ret_bool (HR.out.trans (by simp)).symm, HO.out.k⟩
end Go.Proofs.YtankjlpanmmogaaGreat
