/-
  Layer 19's document (temperaref19): which pixels and fragments are right.
-/
import Derived.Test.YtankjlpanmmogaaFragCode
import Derived.BigGuard
namespace Go.Proofs.Ytankjlpanmmogaa
set_option maxRecDepth 100000
open Go.RowKit

theorem rdeep_any (z : Int) (w : World) :
    Calls Try.prog 28 #[.int .i64 z] w fun e w' => e = .returned (.bool (Fr.deep z)) ∧ w = w' := by
  cases h1 : decide (0 ≤ z)
  all_goals
    go_enter Try.func28, Try.ntmps28
    go_wp2_with go_big_skip
    go_ret
    exact ⟨ret_bool (by simp [Fr.deep, h1]), rfl⟩
set_option linter.unusedSimpArgs false in
set_option maxRecDepth 100000 in
set_option maxHeartbeats 8000000 in
theorem rright19_any (p : Sf) (w : World) :
    Calls Try.prog 10 #[.agg #[.int .i64 (p 0), .int .i64 (p 1), .int .i64 (p 2), .int .i64 (p 3), .int .i64 (p 4), .int .i64 (p 5)]] w fun e w' => e = .returned (.bool (Fr.right p)) ∧ Kp w.heap.size w w' := by
  have T1 := fun W => rright_any (p 0) (p 1) (p 2) (p 3) W
  have W1 := fun W => rdeep_any (p 4) W
  have W2 := fun W => rsten_any (p 5) W
  have HR : Hid (Fr.right p = (Tn.right (p 0) (p 1) (p 2) (p 3) && Fr.deep (p 4) && Sn.is (p 5))) := Lib.hid rfl
  generalize Tn.right (p 0) (p 1) (p 2) (p 3) = c1 at *
  generalize Fr.deep (p 4) = c2 at *
  generalize Sn.is (p 5) = c3 at *
  generalize Fr.right p = r at *
  have HO := Lib.hid ((Ow.refl w).newAt (w.heap.size) rfl (.int .i64 (p 0)) [.int .i64 (p 1), .int .i64 (p 2), .int .i64 (p 3), .int .i64 (p 4), .int .i64 (p 5)] 25)
  cases c1 <;> cases c2
  all_goals
    go_enter Try.func10, Try.ntmps10
    go_wp2_with (first
      | go_big_skip
      | ((with_reducible show wpList _ _ _ ({ dst := _, op := Op.load 23 (Operand.tmp 3), type := _, pos := _, after := _, guard := _ } :: _) _ _); refine wpList_ldo ty_color rfl _ rfl _ _ rfl [.int .i64 (p 0), .int .i64 (p 1), .int .i64 (p 2), .int .i64 (p 3), .int .i64 (p 4), .int .i64 (p 5)] rfl (Rc.some (HO.out.at 0 rfl)) ?_; intro us hus; dsimp only [List.drop, List.take] at hus; subst hus)
      | ((with_reducible show wpList _ _ _ ({ dst := _, op := Op.load 3 (Operand.tmp 7), type := _, pos := _, after := _, guard := _ } :: _) _ _); refine wpList_ld1 rfl 4 (.int .i64 (p 4)) (HO.out.at 0 rfl) rfl (fun cc K hK => by go_simp; exact hK) ?_)
      | ((with_reducible show wpList _ _ _ ({ dst := _, op := Op.load 3 (Operand.tmp 12), type := _, pos := _, after := _, guard := _ } :: _) _ _); refine wpList_ld1 rfl 5 (.int .i64 (p 5)) (HO.out.at 0 rfl) rfl (fun cc K hK => by go_simp; exact hK) ?_)
      | (go_at_call 27; (with_reducible refine (T1 _).mono ?_); rintro e wz ⟨rfl, hk1⟩; have l2 := HO.out.call hk1; clear HO hk1; have HO := Lib.hid l2; clear l2)
      | (go_at_call 28; (with_reducible refine (W1 _).mono ?_); rintro e w' ⟨rfl, rfl⟩)
      | (go_at_call 29; (with_reducible refine (W2 _).mono ?_); rintro e w' ⟨rfl, rfl⟩))
    go_ret
    exact ⟨ret_bool (HR.out.trans (by simp)).symm, HO.out.k⟩
set_option linter.unusedSimpArgs false in
set_option maxRecDepth 100000 in
set_option maxHeartbeats 8000000 in
theorem rmay19_any (f : Sf) (w : World) :
    Calls Try.prog 11 #[.agg #[.int .i64 (f 0), .int .i64 (f 1), .int .i64 (f 2), .int .i64 (f 3), .int .i64 (f 4)]] w fun e w' => e = .returned (.bool (Fr.may f)) ∧ Kp w.heap.size w w' := by
  have T1 := fun W => rright_any (f 0) (f 1) (f 2) (f 3) W
  have W1 := fun W => rdeep_any (f 4) W
  have HR : Hid (Fr.may f = (Tn.right (f 0) (f 1) (f 2) (f 3) && Fr.deep (f 4))) := Lib.hid rfl
  generalize Tn.right (f 0) (f 1) (f 2) (f 3) = c1 at *
  generalize Fr.deep (f 4) = c2 at *
  generalize Fr.may f = r at *
  have HO := Lib.hid ((Ow.refl w).newAt (w.heap.size) rfl (.int .i64 (f 0)) [.int .i64 (f 1), .int .i64 (f 2), .int .i64 (f 3), .int .i64 (f 4)] 27)
  cases c1
  all_goals
    go_enter Try.func11, Try.ntmps11
    go_wp2_with (first
      | go_big_skip
      | ((with_reducible show wpList _ _ _ ({ dst := _, op := Op.load 23 (Operand.tmp 3), type := _, pos := _, after := _, guard := _ } :: _) _ _); refine wpList_ldo ty_color rfl _ rfl _ _ rfl [.int .i64 (f 0), .int .i64 (f 1), .int .i64 (f 2), .int .i64 (f 3), .int .i64 (f 4)] rfl (Rc.some (HO.out.at 0 rfl)) ?_; intro us hus; dsimp only [List.drop, List.take] at hus; subst hus)
      | ((with_reducible show wpList _ _ _ ({ dst := _, op := Op.load 3 (Operand.tmp 7), type := _, pos := _, after := _, guard := _ } :: _) _ _); refine wpList_ld1 rfl 4 (.int .i64 (f 4)) (HO.out.at 0 rfl) rfl (fun cc K hK => by go_simp; exact hK) ?_)
      | (go_at_call 27; (with_reducible refine (T1 _).mono ?_); rintro e wz ⟨rfl, hk1⟩; have l2 := HO.out.call hk1; clear HO hk1; have HO := Lib.hid l2; clear l2)
      | (go_at_call 28; (with_reducible refine (W1 _).mono ?_); rintro e w' ⟨rfl, rfl⟩))
    go_ret
    exact ⟨ret_bool (HR.out.trans (by simp)).symm, HO.out.k⟩
end Go.Proofs.Ytankjlpanmmogaa
