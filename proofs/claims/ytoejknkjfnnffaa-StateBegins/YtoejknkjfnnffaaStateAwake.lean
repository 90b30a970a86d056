/-
  awake of layer 18 (state).
-/
import Derived.Test.YtoejknkjfnnffaaStateSet
import Derived.Test.YtoejknkjfnnffaaStateBegin
import Derived.Test.YtoejknkjfnnffaaStateCheck
import Derived.Test.YtoejknkjfnnffaaStateEq
import Derived.BigGuard
namespace Go.Proofs.Ytoejknkjfnnffaa
open Go.RowKit

/-- the command of awake -/
def Sx.c81 : Sf := fun i => if i = 0 then 8 else if i = 2 then 1 else 0
set_option linter.unusedSimpArgs false in
set_option maxRecDepth 100000 in
set_option maxHeartbeats 8000000 in
theorem awake_parts : ∃ s t : Sf, (∀ W, Calls Try.prog 12 #[.int .i64 4, .int .i64 5] W fun e w' => e = .returned (.tuple #[.agg #[.int .i64 (s 0), .int .i64 (s 1), .int .i64 (s 2), .int .i64 (s 3), .int .i64 (s 4), .int .i64 (s 5), .int .i64 (s 6), .int .i64 (s 7), .int .i64 (s 8), .int .i64 (s 9), .int .i64 (s 10), .int .i64 (s 11), .int .i64 (s 12), .int .i64 (s 13), .int .i64 (s 14), .int .i64 (s 15), .int .i64 0, .int .i64 0, .int .i64 4, .int .i64 5, .int .i64 (s 20), .int .i64 (s 21), .int .i64 (s 22), .int .i64 (s 23), .int .i64 (s 24), .bool true, .int .i64 (s 26), .int .i64 (s 27), .int .i64 (s 28), .int .i64 (s 29), .int .i64 (s 30), .int .i64 (s 31), .int .i64 (s 32), .int .i64 (s 33), .int .i64 (s 34), .int .i64 (s 35), .int .i64 (s 36), .int .i64 (s 37), .int .i64 (s 38), .int .i64 (s 39), .bool false], .int .i64 0]) ∧ Kp W.heap.size W w') ∧
    (∀ W, Calls Try.prog 7 #[.agg #[.int .i64 (s 0), .int .i64 (s 1), .int .i64 (s 2), .int .i64 (s 3), .int .i64 (s 4), .int .i64 (s 5), .int .i64 (s 6), .int .i64 (s 7), .int .i64 (s 8), .int .i64 (s 9), .int .i64 (s 10), .int .i64 (s 11), .int .i64 (s 12), .int .i64 (s 13), .int .i64 (s 14), .int .i64 (s 15), .int .i64 0, .int .i64 0, .int .i64 4, .int .i64 5, .int .i64 (s 20), .int .i64 (s 21), .int .i64 (s 22), .int .i64 (s 23), .int .i64 (s 24), .bool true, .int .i64 (s 26), .int .i64 (s 27), .int .i64 (s 28), .int .i64 (s 29), .int .i64 (s 30), .int .i64 (s 31), .int .i64 (s 32), .int .i64 (s 33), .int .i64 (s 34), .int .i64 (s 35), .int .i64 (s 36), .int .i64 (s 37), .int .i64 (s 38), .int .i64 (s 39), .bool false], .agg #[.int .i64 8, .int .i64 0, .int .i64 1, .int .i64 0, .int .i64 0, .int .i64 0, .slice none 0 0, .slice none 0 0]] W fun e w' => e = .returned (.tuple #[.agg #[.int .i64 (t 0), .int .i64 (t 1), .int .i64 (t 2), .int .i64 (t 3), .int .i64 (t 4), .int .i64 (t 5), .int .i64 (t 6), .int .i64 (t 7), .int .i64 (t 8), .int .i64 (t 9), .int .i64 (t 10), .int .i64 (t 11), .int .i64 (t 12), .int .i64 (t 13), .int .i64 (t 14), .int .i64 (t 15), .int .i64 (t 16), .int .i64 (t 17), .int .i64 (t 18), .int .i64 (t 19), .int .i64 (t 20), .int .i64 (t 21), .int .i64 (t 22), .int .i64 (t 23), .int .i64 1, .bool false, .int .i64 (t 26), .int .i64 (t 27), .int .i64 (t 28), .int .i64 (t 29), .int .i64 (t 30), .int .i64 (t 31), .int .i64 (t 32), .int .i64 (t 33), .int .i64 (t 34), .int .i64 (t 35), .int .i64 (t 36), .int .i64 (t 37), .int .i64 (t 38), .int .i64 (t 39), .bool false], .int .i64 0]) ∧ Kp W.heap.size W w') ∧
    (∀ W, Calls Try.prog 11 #[.agg #[.int .i64 (t 0), .int .i64 (t 1), .int .i64 (t 2), .int .i64 (t 3), .int .i64 (t 4), .int .i64 (t 5), .int .i64 (t 6), .int .i64 (t 7), .int .i64 (t 8), .int .i64 (t 9), .int .i64 (t 10), .int .i64 (t 11), .int .i64 (t 12), .int .i64 (t 13), .int .i64 (t 14), .int .i64 (t 15), .int .i64 (t 16), .int .i64 (t 17), .int .i64 (t 18), .int .i64 (t 19), .int .i64 (t 20), .int .i64 (t 21), .int .i64 (t 22), .int .i64 (t 23), .int .i64 1, .bool false, .int .i64 (t 26), .int .i64 (t 27), .int .i64 (t 28), .int .i64 (t 29), .int .i64 (t 30), .int .i64 (t 31), .int .i64 (t 32), .int .i64 (t 33), .int .i64 (t 34), .int .i64 (t 35), .int .i64 (t 36), .int .i64 (t 37), .int .i64 (t 38), .int .i64 (t 39), .bool false]] W fun e w' => e = .returned (.int .i64 0) ∧ Kp W.heap.size W w') := by
  have e0 : Sx.eDep Sx.c81 = 0 := by rfl
  have ee : Sx.err Sx.c81 [] = 0 := (Sx.err_8 (l := []) (by rfl)).trans e0
  have hb := Sx.beg_bd (w := 4) (h := 5) (by rfl)
  have hk := Sx.beg_chk (w := 4) (h := 5) (by rfl)
  obtain ⟨a1, a2, a3⟩ := Sx.yes_8 (s := Sx.beg 4 5) (c := Sx.c81) (p := true) (q := false) (l := []) (by rfl) e0
  refine ⟨Sx.beg 4 5, Sx.dep (Sx.beg 4 5) 1, fun W => begin_yes 4 5 W (by rfl), fun W => ?_, fun W => ?_⟩
  · have h := set_any (Sx.beg 4 5) true false Sx.c81 [] (.slice none 0 0) (.slice none 0 0) W (Sl.nil W)
    rw [a1, a2, a3, ee] at h
    exact h
  · have h := check_any (Sx.ans (Sx.beg 4 5) Sx.c81 []) false false W (by
      unfold Sx.ans; rw [if_pos ee]; exact Sx.bd_new hb ee)
    have hz : Sx.chk (Sx.ans (Sx.beg 4 5) Sx.c81 []) = 0 := by
      unfold Sx.ans; rw [if_pos ee]; exact Sx.stays hk ee
    rw [hz, a1] at h
    exact h
set_option linter.unusedSimpArgs false in
set_option maxRecDepth 100000 in
set_option maxHeartbeats 8000000 in
theorem awake_any (w : World) :
    Calls Try.prog 6 #[] w fun e w' => e = .returned (.bool true) ∧ Kp w.heap.size w w' := by
  obtain ⟨s, t, A1, A2, A3⟩ := awake_parts
  have hE := run_eqRect 0 0 4 5
  have HO := Lib.hid (Ow.refl w)
  go_enter Try.func6, Try.ntmps6
  go_upto_region 2 with (first
    | go_big_skip
    | (go_at_call 12; (with_reducible refine (A1 _).mono ?_); rintro e w1 ⟨rfl, hk1⟩; have l2 := (HO.out.call hk1).newAt w1.heap.size rfl (.int .i64 0) [.int .i64 0, .int .i64 0, .int .i64 0, .int .i64 0, .int .i64 0, .int .i64 0, .int .i64 0, .int .i64 0, .int .i64 0, .int .i64 0, .int .i64 0, .int .i64 0, .int .i64 0, .int .i64 0, .int .i64 0, .int .i64 0, .int .i64 0, .int .i64 0, .int .i64 0, .int .i64 0, .int .i64 0, .int .i64 0, .int .i64 0, .int .i64 0, .bool false, .int .i64 0, .int .i64 0, .int .i64 0, .int .i64 0, .int .i64 0, .int .i64 0, .int .i64 0, .int .i64 0, .int .i64 0, .int .i64 0, .int .i64 0, .int .i64 0, .int .i64 0, .int .i64 0, .bool false] 31; clear HO hk1; have HO := Lib.hid l2; clear l2)
    | ((with_reducible show wpList _ _ _ ({ dst := _, op := Op.store 31 (Operand.tmp 1) _, type := _, pos := _, after := _, guard := _ } :: _) _ _); refine wpList_sto ty_state HO.out 0 [.int .i64 (s 0), .int .i64 (s 1), .int .i64 (s 2), .int .i64 (s 3), .int .i64 (s 4), .int .i64 (s 5), .int .i64 (s 6), .int .i64 (s 7), .int .i64 (s 8), .int .i64 (s 9), .int .i64 (s 10), .int .i64 (s 11), .int .i64 (s 12), .int .i64 (s 13), .int .i64 (s 14), .int .i64 (s 15), .int .i64 0, .int .i64 0, .int .i64 4, .int .i64 5, .int .i64 (s 20), .int .i64 (s 21), .int .i64 (s 22), .int .i64 (s 23), .int .i64 (s 24), .bool true, .int .i64 (s 26), .int .i64 (s 27), .int .i64 (s 28), .int .i64 (s 29), .int .i64 (s 30), .int .i64 (s 31), .int .i64 (s 32), .int .i64 (s 33), .int .i64 (s 34), .int .i64 (s 35), .int .i64 (s 36), .int .i64 (s 37), .int .i64 (s 38), .int .i64 (s 39), .bool false] rfl _ _ rfl _ rfl rfl _ rfl rfl rfl rfl ?_; intro w2 l2; clear HO; have HO := Lib.hid l2; clear l2))
  generalize w1.heap.size = p1 at *
  go_upto_region 3 with (first
    | go_big_skip
    | ((with_reducible show wpList _ _ _ ({ dst := _, op := Op.load 31 (Operand.tmp 1), type := _, pos := _, after := _, guard := _ } :: _) _ _); refine wpList_ldr ty_state rfl _ rfl _ rfl _ rfl (HO.out.at 0 rfl) ?_)
    | (go_at_call 7; (with_reducible refine (A2 _).mono ?_); rintro e w2 ⟨rfl, hk1⟩; have l2 := (HO.out.call hk1).newAt w2.heap.size rfl (.int .i64 0) [.int .i64 0, .int .i64 0, .int .i64 0, .int .i64 0, .int .i64 0, .int .i64 0, .int .i64 0, .int .i64 0, .int .i64 0, .int .i64 0, .int .i64 0, .int .i64 0, .int .i64 0, .int .i64 0, .int .i64 0, .int .i64 0, .int .i64 0, .int .i64 0, .int .i64 0, .int .i64 0, .int .i64 0, .int .i64 0, .int .i64 0, .int .i64 0, .bool false, .int .i64 0, .int .i64 0, .int .i64 0, .int .i64 0, .int .i64 0, .int .i64 0, .int .i64 0, .int .i64 0, .int .i64 0, .int .i64 0, .int .i64 0, .int .i64 0, .int .i64 0, .int .i64 0, .bool false] 31; clear HO hk1; have HO := Lib.hid l2; clear l2)
    | ((with_reducible show wpList _ _ _ ({ dst := _, op := Op.store 31 (Operand.tmp 3) _, type := _, pos := _, after := _, guard := _ } :: _) _ _); refine wpList_sto ty_state HO.out 0 [.int .i64 (t 0), .int .i64 (t 1), .int .i64 (t 2), .int .i64 (t 3), .int .i64 (t 4), .int .i64 (t 5), .int .i64 (t 6), .int .i64 (t 7), .int .i64 (t 8), .int .i64 (t 9), .int .i64 (t 10), .int .i64 (t 11), .int .i64 (t 12), .int .i64 (t 13), .int .i64 (t 14), .int .i64 (t 15), .int .i64 (t 16), .int .i64 (t 17), .int .i64 (t 18), .int .i64 (t 19), .int .i64 (t 20), .int .i64 (t 21), .int .i64 (t 22), .int .i64 (t 23), .int .i64 1, .bool false, .int .i64 (t 26), .int .i64 (t 27), .int .i64 (t 28), .int .i64 (t 29), .int .i64 (t 30), .int .i64 (t 31), .int .i64 (t 32), .int .i64 (t 33), .int .i64 (t 34), .int .i64 (t 35), .int .i64 (t 36), .int .i64 (t 37), .int .i64 (t 38), .int .i64 (t 39), .bool false] rfl _ _ rfl _ rfl rfl _ rfl rfl rfl rfl ?_; intro w2 l2; clear HO; have HO := Lib.hid l2; clear l2))
  generalize w2.heap.size = p3 at *
  clear A1 A2
  have c24 := (HO.out.at 0 rfl).cell 24 rfl
  have c25 := (HO.out.at 0 rfl).cell 25 rfl
  have d25 := (HO.out.at 1 rfl).cell 25 rfl
  go_wp2_with (first
    | go_big_skip
    | ((with_reducible show wpList _ _ _ ({ dst := _, op := Op.load 25 (Operand.tmp 22), type := _, pos := _, after := _, guard := _ } :: _) _ _); refine wpList_ldo ty_rect rfl _ rfl _ _ rfl [.int .i64 (s 0), .int .i64 (s 1), .int .i64 (s 2), .int .i64 (s 3), .int .i64 (s 4), .int .i64 (s 5), .int .i64 (s 6), .int .i64 (s 7), .int .i64 (s 8), .int .i64 (s 9), .int .i64 (s 10), .int .i64 (s 11), .int .i64 (s 12), .int .i64 (s 13), .int .i64 (s 14), .int .i64 (s 15), .int .i64 0, .int .i64 0, .int .i64 4, .int .i64 5, .int .i64 (s 20), .int .i64 (s 21), .int .i64 (s 22), .int .i64 (s 23), .int .i64 (s 24), .bool true, .int .i64 (s 26), .int .i64 (s 27), .int .i64 (s 28), .int .i64 (s 29), .int .i64 (s 30), .int .i64 (s 31), .int .i64 (s 32), .int .i64 (s 33), .int .i64 (s 34), .int .i64 (s 35), .int .i64 (s 36), .int .i64 (s 37), .int .i64 (s 38), .int .i64 (s 39), .bool false] rfl (Rc.some (HO.out.at 1 rfl)) ?_; intro us hus; dsimp only [List.drop, List.take] at hus; subst hus)
    | ((with_reducible show wpList _ _ _ ({ dst := _, op := Op.load 31 (Operand.tmp 3), type := _, pos := _, after := _, guard := _ } :: _) _ _); refine wpList_ldr ty_state rfl _ rfl _ rfl _ rfl (HO.out.at 0 rfl) ?_)
    | (go_at_call 11; (with_reducible refine (A3 _).mono ?_); rintro e wz ⟨rfl, hk1⟩; have l2 := HO.out.call hk1; clear HO hk1; have HO := Lib.hid l2; clear l2))
  go_ret
  exact ⟨rfl, HO.out.k⟩
end Go.Proofs.Ytoejknkjfnnffaa
