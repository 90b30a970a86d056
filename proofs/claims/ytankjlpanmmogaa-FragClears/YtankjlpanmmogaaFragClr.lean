/-
  Contracts of layer 19 (frag): Clear.
-/
import Derived.Test.YtankjlpanmmogaaFragCode
import Derived.BigGuard
namespace Go.Proofs.Ytankjlpanmmogaa
set_option maxRecDepth 100000
open Go.RowKit

set_option linter.unusedSimpArgs false in
set_option maxRecDepth 100000 in
set_option maxHeartbeats 8000000 in
theorem clear_kind (p t : Sf) (n : Int) (W1 : ∀ W, Calls Try.prog 26 #[.int .i64 1, .int .i64 7, .int .i64 n] W fun e w' => e = .returned (.bool false) ∧ W = w') (w : World) :
    Calls Try.prog 13 #[.agg #[.int .i64 (p 0), .int .i64 (p 1), .int .i64 (p 2), .int .i64 (p 3), .int .i64 (p 4), .int .i64 (p 5)], .int .i64 n, .agg #[.int .i64 (t 0), .int .i64 (t 1), .int .i64 (t 2), .int .i64 (t 3), .int .i64 (t 4), .int .i64 (t 5)]] w fun e w' => e = .returned (.tuple #[.agg #[.int .i64 0, .int .i64 0, .int .i64 0, .int .i64 0, .int .i64 0, .int .i64 0], .int .i64 9]) ∧ Kp w.heap.size w w' := by
  have HO := Lib.hid ((((Ow.refl w).newAt (w.heap.size) rfl (.int .i64 (p 0)) [.int .i64 (p 1), .int .i64 (p 2), .int .i64 (p 3), .int .i64 (p 4), .int .i64 (p 5)] 25).newAt (w.heap.size + 1) (by simp) (.int .i64 (t 0)) [.int .i64 (t 1), .int .i64 (t 2), .int .i64 (t 3), .int .i64 (t 4), .int .i64 (t 5)] 25).newAt (w.heap.size + 2) (by simp) (.int .i64 0) [.int .i64 0, .int .i64 0, .int .i64 0, .int .i64 0, .int .i64 0] 25)
  go_enter Try.func13, Try.ntmps13
  go_wp2_with (first
    | go_big_skip
    | (go_at_call 26; (with_reducible refine (W1 _).mono ?_); rintro e w' ⟨rfl, rfl⟩)
    | ((with_reducible show wpList _ _ _ ({ dst := _, op := Op.load 25 (Operand.tmp 3), type := _, pos := _, after := _, guard := _ } :: _) _ _); refine wpList_ldr ty_px rfl _ rfl _ rfl _ rfl (HO.out.at 2 rfl) ?_)
    | ((with_reducible show wpList _ _ _ ({ dst := _, op := Op.load 25 (Operand.tmp 5), type := _, pos := _, after := _, guard := _ } :: _) _ _); refine wpList_ldr ty_px rfl _ rfl _ rfl _ rfl (HO.out.at 1 rfl) ?_)
    | (go_at_call 9; (with_reducible refine (R1 _).mono ?_); rintro e wz ⟨rfl, hk1⟩; have l2 := HO.out.call hk1; clear HO hk1; have HO := Lib.hid l2; clear l2)
    | (go_at_call 9; (with_reducible refine (R2 _).mono ?_); rintro e wz ⟨rfl, hk1⟩; have l2 := HO.out.call hk1; clear HO hk1; have HO := Lib.hid l2; clear l2)
    | ((with_reducible show wpList _ _ _ ({ dst := _, op := Op.store 25 (Operand.tmp 6) _, type := _, pos := _, after := _, guard := _ } :: _) _ _); refine wpList_sto ty_px HO.out 0 [.int .i64 0, .int .i64 0, .int .i64 0, .int .i64 0, .int .i64 0, .int .i64 0] rfl _ _ rfl _ rfl rfl _ rfl rfl rfl rfl ?_; intro w2 l2; clear HO; have HO := Lib.hid l2; clear l2))
  refine bodyPost_ret (results_c2 ty_px rfl rfl rfl rfl (HO.out.at 0 rfl)) rfl ⟨rfl, HO.out.k⟩
set_option linter.unusedSimpArgs false in
set_option maxRecDepth 100000 in
set_option maxHeartbeats 8000000 in
theorem clear_wrong1 (p t : Sf) (n : Int) (W1 : ∀ W, Calls Try.prog 26 #[.int .i64 1, .int .i64 7, .int .i64 n] W fun e w' => e = .returned (.bool true) ∧ W = w') (R1 : ∀ W, Calls Try.prog 9 #[.agg #[.int .i64 (p 0), .int .i64 (p 1), .int .i64 (p 2), .int .i64 (p 3), .int .i64 (p 4), .int .i64 (p 5)]] W fun e w' => e = .returned (.bool false) ∧ Kp W.heap.size W w') (w : World) :
    Calls Try.prog 13 #[.agg #[.int .i64 (p 0), .int .i64 (p 1), .int .i64 (p 2), .int .i64 (p 3), .int .i64 (p 4), .int .i64 (p 5)], .int .i64 n, .agg #[.int .i64 (t 0), .int .i64 (t 1), .int .i64 (t 2), .int .i64 (t 3), .int .i64 (t 4), .int .i64 (t 5)]] w fun e w' => e = .returned (.tuple #[.agg #[.int .i64 0, .int .i64 0, .int .i64 0, .int .i64 0, .int .i64 0, .int .i64 0], .int .i64 3]) ∧ Kp w.heap.size w w' := by
  have HO := Lib.hid ((((Ow.refl w).newAt (w.heap.size) rfl (.int .i64 (p 0)) [.int .i64 (p 1), .int .i64 (p 2), .int .i64 (p 3), .int .i64 (p 4), .int .i64 (p 5)] 25).newAt (w.heap.size + 1) (by simp) (.int .i64 (t 0)) [.int .i64 (t 1), .int .i64 (t 2), .int .i64 (t 3), .int .i64 (t 4), .int .i64 (t 5)] 25).newAt (w.heap.size + 2) (by simp) (.int .i64 0) [.int .i64 0, .int .i64 0, .int .i64 0, .int .i64 0, .int .i64 0] 25)
  go_enter Try.func13, Try.ntmps13
  go_wp2_with (first
    | go_big_skip
    | (go_at_call 26; (with_reducible refine (W1 _).mono ?_); rintro e w' ⟨rfl, rfl⟩)
    | ((with_reducible show wpList _ _ _ ({ dst := _, op := Op.load 25 (Operand.tmp 3), type := _, pos := _, after := _, guard := _ } :: _) _ _); refine wpList_ldr ty_px rfl _ rfl _ rfl _ rfl (HO.out.at 2 rfl) ?_)
    | ((with_reducible show wpList _ _ _ ({ dst := _, op := Op.load 25 (Operand.tmp 5), type := _, pos := _, after := _, guard := _ } :: _) _ _); refine wpList_ldr ty_px rfl _ rfl _ rfl _ rfl (HO.out.at 1 rfl) ?_)
    | (go_at_call 9; (with_reducible refine (R1 _).mono ?_); rintro e wz ⟨rfl, hk1⟩; have l2 := HO.out.call hk1; clear HO hk1; have HO := Lib.hid l2; clear l2)
    | (go_at_call 9; (with_reducible refine (R2 _).mono ?_); rintro e wz ⟨rfl, hk1⟩; have l2 := HO.out.call hk1; clear HO hk1; have HO := Lib.hid l2; clear l2)
    | ((with_reducible show wpList _ _ _ ({ dst := _, op := Op.store 25 (Operand.tmp 6) _, type := _, pos := _, after := _, guard := _ } :: _) _ _); refine wpList_sto ty_px HO.out 0 [.int .i64 0, .int .i64 0, .int .i64 0, .int .i64 0, .int .i64 0, .int .i64 0] rfl _ _ rfl _ rfl rfl _ rfl rfl rfl rfl ?_; intro w2 l2; clear HO; have HO := Lib.hid l2; clear l2))
  refine bodyPost_ret (results_c2 ty_px rfl rfl rfl rfl (HO.out.at 0 rfl)) rfl ⟨rfl, HO.out.k⟩
set_option linter.unusedSimpArgs false in
set_option maxRecDepth 100000 in
set_option maxHeartbeats 8000000 in
theorem clear_wrong2 (p t : Sf) (n : Int) (W1 : ∀ W, Calls Try.prog 26 #[.int .i64 1, .int .i64 7, .int .i64 n] W fun e w' => e = .returned (.bool true) ∧ W = w') (R1 : ∀ W, Calls Try.prog 9 #[.agg #[.int .i64 (p 0), .int .i64 (p 1), .int .i64 (p 2), .int .i64 (p 3), .int .i64 (p 4), .int .i64 (p 5)]] W fun e w' => e = .returned (.bool true) ∧ Kp W.heap.size W w') (R2 : ∀ W, Calls Try.prog 9 #[.agg #[.int .i64 (t 0), .int .i64 (t 1), .int .i64 (t 2), .int .i64 (t 3), .int .i64 (t 4), .int .i64 (t 5)]] W fun e w' => e = .returned (.bool false) ∧ Kp W.heap.size W w') (w : World) :
    Calls Try.prog 13 #[.agg #[.int .i64 (p 0), .int .i64 (p 1), .int .i64 (p 2), .int .i64 (p 3), .int .i64 (p 4), .int .i64 (p 5)], .int .i64 n, .agg #[.int .i64 (t 0), .int .i64 (t 1), .int .i64 (t 2), .int .i64 (t 3), .int .i64 (t 4), .int .i64 (t 5)]] w fun e w' => e = .returned (.tuple #[.agg #[.int .i64 0, .int .i64 0, .int .i64 0, .int .i64 0, .int .i64 0, .int .i64 0], .int .i64 3]) ∧ Kp w.heap.size w w' := by
  have HO := Lib.hid ((((Ow.refl w).newAt (w.heap.size) rfl (.int .i64 (p 0)) [.int .i64 (p 1), .int .i64 (p 2), .int .i64 (p 3), .int .i64 (p 4), .int .i64 (p 5)] 25).newAt (w.heap.size + 1) (by simp) (.int .i64 (t 0)) [.int .i64 (t 1), .int .i64 (t 2), .int .i64 (t 3), .int .i64 (t 4), .int .i64 (t 5)] 25).newAt (w.heap.size + 2) (by simp) (.int .i64 0) [.int .i64 0, .int .i64 0, .int .i64 0, .int .i64 0, .int .i64 0] 25)
  go_enter Try.func13, Try.ntmps13
  go_wp2_with (first
    | go_big_skip
    | (go_at_call 26; (with_reducible refine (W1 _).mono ?_); rintro e w' ⟨rfl, rfl⟩)
    | ((with_reducible show wpList _ _ _ ({ dst := _, op := Op.load 25 (Operand.tmp 3), type := _, pos := _, after := _, guard := _ } :: _) _ _); refine wpList_ldr ty_px rfl _ rfl _ rfl _ rfl (HO.out.at 2 rfl) ?_)
    | ((with_reducible show wpList _ _ _ ({ dst := _, op := Op.load 25 (Operand.tmp 5), type := _, pos := _, after := _, guard := _ } :: _) _ _); refine wpList_ldr ty_px rfl _ rfl _ rfl _ rfl (HO.out.at 1 rfl) ?_)
    | (go_at_call 9; (with_reducible refine (R1 _).mono ?_); rintro e wz ⟨rfl, hk1⟩; have l2 := HO.out.call hk1; clear HO hk1; have HO := Lib.hid l2; clear l2)
    | (go_at_call 9; (with_reducible refine (R2 _).mono ?_); rintro e wz ⟨rfl, hk1⟩; have l2 := HO.out.call hk1; clear HO hk1; have HO := Lib.hid l2; clear l2)
    | ((with_reducible show wpList _ _ _ ({ dst := _, op := Op.store 25 (Operand.tmp 6) _, type := _, pos := _, after := _, guard := _ } :: _) _ _); refine wpList_sto ty_px HO.out 0 [.int .i64 0, .int .i64 0, .int .i64 0, .int .i64 0, .int .i64 0, .int .i64 0] rfl _ _ rfl _ rfl rfl _ rfl rfl rfl rfl ?_; intro w2 l2; clear HO; have HO := Lib.hid l2; clear l2))
  refine bodyPost_ret (results_c2 ty_px rfl rfl rfl rfl (HO.out.at 0 rfl)) rfl ⟨rfl, HO.out.k⟩
set_option linter.unusedSimpArgs false in
set_option maxRecDepth 100000 in
set_option maxHeartbeats 8000000 in
theorem clear_1 (p t : Sf) (W1 : ∀ W, Calls Try.prog 26 #[.int .i64 1, .int .i64 7, .int .i64 1] W fun e w' => e = .returned (.bool true) ∧ W = w') (R1 : ∀ W, Calls Try.prog 9 #[.agg #[.int .i64 (p 0), .int .i64 (p 1), .int .i64 (p 2), .int .i64 (p 3), .int .i64 (p 4), .int .i64 (p 5)]] W fun e w' => e = .returned (.bool true) ∧ Kp W.heap.size W w') (R2 : ∀ W, Calls Try.prog 9 #[.agg #[.int .i64 (t 0), .int .i64 (t 1), .int .i64 (t 2), .int .i64 (t 3), .int .i64 (t 4), .int .i64 (t 5)]] W fun e w' => e = .returned (.bool true) ∧ Kp W.heap.size W w') (w : World) :
    Calls Try.prog 13 #[.agg #[.int .i64 (p 0), .int .i64 (p 1), .int .i64 (p 2), .int .i64 (p 3), .int .i64 (p 4), .int .i64 (p 5)], .int .i64 1, .agg #[.int .i64 (t 0), .int .i64 (t 1), .int .i64 (t 2), .int .i64 (t 3), .int .i64 (t 4), .int .i64 (t 5)]] w fun e w' => e = .returned (.tuple #[.agg #[.int .i64 (t 0), .int .i64 (t 1), .int .i64 (t 2), .int .i64 (t 3), .int .i64 (p 4), .int .i64 (p 5)], .int .i64 0]) ∧ Kp w.heap.size w w' := by
  have HO := Lib.hid ((((Ow.refl w).newAt (w.heap.size) rfl (.int .i64 (p 0)) [.int .i64 (p 1), .int .i64 (p 2), .int .i64 (p 3), .int .i64 (p 4), .int .i64 (p 5)] 25).newAt (w.heap.size + 1) (by simp) (.int .i64 (t 0)) [.int .i64 (t 1), .int .i64 (t 2), .int .i64 (t 3), .int .i64 (t 4), .int .i64 (t 5)] 25).newAt (w.heap.size + 2) (by simp) (.int .i64 0) [.int .i64 0, .int .i64 0, .int .i64 0, .int .i64 0, .int .i64 0] 25)
  go_enter Try.func13, Try.ntmps13
  go_wp2_with (first
    | go_big_skip
    | (go_at_call 26; (with_reducible refine (W1 _).mono ?_); rintro e w' ⟨rfl, rfl⟩)
    | (go_at_call 9; (with_reducible refine (R1 _).mono ?_); rintro e wz ⟨rfl, hk1⟩; have l2 := HO.out.call hk1; clear HO hk1; have HO := Lib.hid l2; clear l2)
    | (go_at_call 9; (with_reducible refine (R2 _).mono ?_); rintro e wz ⟨rfl, hk1⟩; have l2 := HO.out.call hk1; clear HO hk1; have HO := Lib.hid l2; clear l2)
    | ((with_reducible show wpList _ _ _ ({ dst := _, op := Op.load 23 (Operand.tmp 24), type := _, pos := _, after := _, guard := _ } :: _) _ _); refine wpList_ldo ty_color rfl _ rfl _ _ rfl [.int .i64 (t 0), .int .i64 (t 1), .int .i64 (t 2), .int .i64 (t 3), .int .i64 (t 4), .int .i64 (t 5)] rfl (Rc.some (HO.out.at 1 rfl)) ?_; intro us hus; dsimp only [List.drop, List.take] at hus; subst hus)
    | ((with_reducible show wpList _ _ _ ({ dst := _, op := Op.store 23 (Operand.tmp 26) _, type := _, pos := _, after := _, guard := _ } :: _) _ _); refine wpList_stm ty_color HO.out 2 [.int .i64 (t 0), .int .i64 (t 1), .int .i64 (t 2), .int .i64 (t 3)] rfl _ _ rfl _ 0 rfl rfl _ rfl (by simp) rfl rfl ?_; intro w2 l2; simp only [setsAt, List.set_cons_zero, List.set_cons_succ] at l2; clear HO; have HO := Lib.hid l2; clear l2)
    | ((with_reducible show wpList _ _ _ ({ dst := _, op := Op.load 25 (Operand.tmp 5), type := _, pos := _, after := _, guard := _ } :: _) _ _); refine wpList_ldr ty_px rfl _ rfl _ rfl _ rfl (HO.out.at 1 rfl) ?_)
    | ((with_reducible show wpList _ _ _ ({ dst := _, op := Op.load 25 (Operand.tmp 3), type := _, pos := _, after := _, guard := _ } :: _) _ _); refine wpList_ldr ty_px rfl _ rfl _ rfl _ rfl (HO.out.at 2 rfl) ?_)
    | ((with_reducible show wpList _ _ _ ({ dst := _, op := Op.store 25 (Operand.tmp 6) _, type := _, pos := _, after := _, guard := _ } :: _) _ _); refine wpList_sto ty_px HO.out 0 [.int .i64 (t 0), .int .i64 (t 1), .int .i64 (t 2), .int .i64 (t 3), .int .i64 (p 4), .int .i64 (p 5)] rfl _ _ rfl _ rfl rfl _ rfl rfl rfl rfl ?_; intro w2 l2; clear HO; have HO := Lib.hid l2; clear l2))
  refine bodyPost_ret (results_c2 ty_px rfl rfl rfl rfl (HO.out.at 0 rfl)) rfl ⟨rfl, HO.out.k⟩
set_option linter.unusedSimpArgs false in
set_option maxRecDepth 100000 in
set_option maxHeartbeats 8000000 in
theorem clear_2 (p t : Sf) (W1 : ∀ W, Calls Try.prog 26 #[.int .i64 1, .int .i64 7, .int .i64 2] W fun e w' => e = .returned (.bool true) ∧ W = w') (R1 : ∀ W, Calls Try.prog 9 #[.agg #[.int .i64 (p 0), .int .i64 (p 1), .int .i64 (p 2), .int .i64 (p 3), .int .i64 (p 4), .int .i64 (p 5)]] W fun e w' => e = .returned (.bool true) ∧ Kp W.heap.size W w') (R2 : ∀ W, Calls Try.prog 9 #[.agg #[.int .i64 (t 0), .int .i64 (t 1), .int .i64 (t 2), .int .i64 (t 3), .int .i64 (t 4), .int .i64 (t 5)]] W fun e w' => e = .returned (.bool true) ∧ Kp W.heap.size W w') (w : World) :
    Calls Try.prog 13 #[.agg #[.int .i64 (p 0), .int .i64 (p 1), .int .i64 (p 2), .int .i64 (p 3), .int .i64 (p 4), .int .i64 (p 5)], .int .i64 2, .agg #[.int .i64 (t 0), .int .i64 (t 1), .int .i64 (t 2), .int .i64 (t 3), .int .i64 (t 4), .int .i64 (t 5)]] w fun e w' => e = .returned (.tuple #[.agg #[.int .i64 (p 0), .int .i64 (p 1), .int .i64 (p 2), .int .i64 (p 3), .int .i64 (t 4), .int .i64 (p 5)], .int .i64 0]) ∧ Kp w.heap.size w w' := by
  have HO := Lib.hid ((((Ow.refl w).newAt (w.heap.size) rfl (.int .i64 (p 0)) [.int .i64 (p 1), .int .i64 (p 2), .int .i64 (p 3), .int .i64 (p 4), .int .i64 (p 5)] 25).newAt (w.heap.size + 1) (by simp) (.int .i64 (t 0)) [.int .i64 (t 1), .int .i64 (t 2), .int .i64 (t 3), .int .i64 (t 4), .int .i64 (t 5)] 25).newAt (w.heap.size + 2) (by simp) (.int .i64 0) [.int .i64 0, .int .i64 0, .int .i64 0, .int .i64 0, .int .i64 0] 25)
  go_enter Try.func13, Try.ntmps13
  go_wp2_with (first
    | go_big_skip
    | (go_at_call 26; (with_reducible refine (W1 _).mono ?_); rintro e w' ⟨rfl, rfl⟩)
    | (go_at_call 9; (with_reducible refine (R1 _).mono ?_); rintro e wz ⟨rfl, hk1⟩; have l2 := HO.out.call hk1; clear HO hk1; have HO := Lib.hid l2; clear l2)
    | (go_at_call 9; (with_reducible refine (R2 _).mono ?_); rintro e wz ⟨rfl, hk1⟩; have l2 := HO.out.call hk1; clear HO hk1; have HO := Lib.hid l2; clear l2)
    | ((with_reducible show wpList _ _ _ ({ dst := _, op := Op.load 3 (Operand.tmp 30), type := _, pos := _, after := _, guard := _ } :: _) _ _); refine wpList_ld1 rfl 4 (.int .i64 (t 4)) (HO.out.at 1 rfl) rfl (fun cc K hK => by go_simp; exact hK) ?_)
    | ((with_reducible show wpList _ _ _ ({ dst := _, op := Op.store 3 (Operand.tmp 32) _, type := _, pos := _, after := _, guard := _ } :: _) _ _); refine wpList_put1 HO.out 2 rfl 4 (by simp) (.int .i64 (t 4)) rfl (fun cc ff K hK => by simp only [List.getElem?_cons_zero, List.getElem?_cons_succ] at cc; go_simp; exact hK) ?_; intro w2 l2; simp only [List.set_cons_zero, List.set_cons_succ] at l2; clear HO; have HO := Lib.hid l2; clear l2)
    | ((with_reducible show wpList _ _ _ ({ dst := _, op := Op.load 25 (Operand.tmp 5), type := _, pos := _, after := _, guard := _ } :: _) _ _); refine wpList_ldr ty_px rfl _ rfl _ rfl _ rfl (HO.out.at 1 rfl) ?_)
    | ((with_reducible show wpList _ _ _ ({ dst := _, op := Op.load 25 (Operand.tmp 3), type := _, pos := _, after := _, guard := _ } :: _) _ _); refine wpList_ldr ty_px rfl _ rfl _ rfl _ rfl (HO.out.at 2 rfl) ?_)
    | ((with_reducible show wpList _ _ _ ({ dst := _, op := Op.store 25 (Operand.tmp 6) _, type := _, pos := _, after := _, guard := _ } :: _) _ _); refine wpList_sto ty_px HO.out 0 [.int .i64 (p 0), .int .i64 (p 1), .int .i64 (p 2), .int .i64 (p 3), .int .i64 (t 4), .int .i64 (p 5)] rfl _ _ rfl _ rfl rfl _ rfl rfl rfl rfl ?_; intro w2 l2; clear HO; have HO := Lib.hid l2; clear l2))
  refine bodyPost_ret (results_c2 ty_px rfl rfl rfl rfl (HO.out.at 0 rfl)) rfl ⟨rfl, HO.out.k⟩
set_option linter.unusedSimpArgs false in
set_option maxRecDepth 100000 in
set_option maxHeartbeats 8000000 in
theorem clear_3 (p t : Sf) (W1 : ∀ W, Calls Try.prog 26 #[.int .i64 1, .int .i64 7, .int .i64 3] W fun e w' => e = .returned (.bool true) ∧ W = w') (R1 : ∀ W, Calls Try.prog 9 #[.agg #[.int .i64 (p 0), .int .i64 (p 1), .int .i64 (p 2), .int .i64 (p 3), .int .i64 (p 4), .int .i64 (p 5)]] W fun e w' => e = .returned (.bool true) ∧ Kp W.heap.size W w') (R2 : ∀ W, Calls Try.prog 9 #[.agg #[.int .i64 (t 0), .int .i64 (t 1), .int .i64 (t 2), .int .i64 (t 3), .int .i64 (t 4), .int .i64 (t 5)]] W fun e w' => e = .returned (.bool true) ∧ Kp W.heap.size W w') (w : World) :
    Calls Try.prog 13 #[.agg #[.int .i64 (p 0), .int .i64 (p 1), .int .i64 (p 2), .int .i64 (p 3), .int .i64 (p 4), .int .i64 (p 5)], .int .i64 3, .agg #[.int .i64 (t 0), .int .i64 (t 1), .int .i64 (t 2), .int .i64 (t 3), .int .i64 (t 4), .int .i64 (t 5)]] w fun e w' => e = .returned (.tuple #[.agg #[.int .i64 (t 0), .int .i64 (t 1), .int .i64 (t 2), .int .i64 (t 3), .int .i64 (t 4), .int .i64 (p 5)], .int .i64 0]) ∧ Kp w.heap.size w w' := by
  have HO := Lib.hid ((((Ow.refl w).newAt (w.heap.size) rfl (.int .i64 (p 0)) [.int .i64 (p 1), .int .i64 (p 2), .int .i64 (p 3), .int .i64 (p 4), .int .i64 (p 5)] 25).newAt (w.heap.size + 1) (by simp) (.int .i64 (t 0)) [.int .i64 (t 1), .int .i64 (t 2), .int .i64 (t 3), .int .i64 (t 4), .int .i64 (t 5)] 25).newAt (w.heap.size + 2) (by simp) (.int .i64 0) [.int .i64 0, .int .i64 0, .int .i64 0, .int .i64 0, .int .i64 0] 25)
  go_enter Try.func13, Try.ntmps13
  go_wp2_with (first
    | go_big_skip
    | (go_at_call 26; (with_reducible refine (W1 _).mono ?_); rintro e w' ⟨rfl, rfl⟩)
    | (go_at_call 9; (with_reducible refine (R1 _).mono ?_); rintro e wz ⟨rfl, hk1⟩; have l2 := HO.out.call hk1; clear HO hk1; have HO := Lib.hid l2; clear l2)
    | (go_at_call 9; (with_reducible refine (R2 _).mono ?_); rintro e wz ⟨rfl, hk1⟩; have l2 := HO.out.call hk1; clear HO hk1; have HO := Lib.hid l2; clear l2)
    | ((with_reducible show wpList _ _ _ ({ dst := _, op := Op.load 23 (Operand.tmp 24), type := _, pos := _, after := _, guard := _ } :: _) _ _); refine wpList_ldo ty_color rfl _ rfl _ _ rfl [.int .i64 (t 0), .int .i64 (t 1), .int .i64 (t 2), .int .i64 (t 3), .int .i64 (t 4), .int .i64 (t 5)] rfl (Rc.some (HO.out.at 1 rfl)) ?_; intro us hus; dsimp only [List.drop, List.take] at hus; subst hus)
    | ((with_reducible show wpList _ _ _ ({ dst := _, op := Op.store 23 (Operand.tmp 26) _, type := _, pos := _, after := _, guard := _ } :: _) _ _); refine wpList_stm ty_color HO.out 2 [.int .i64 (t 0), .int .i64 (t 1), .int .i64 (t 2), .int .i64 (t 3)] rfl _ _ rfl _ 0 rfl rfl _ rfl (by simp) rfl rfl ?_; intro w2 l2; simp only [setsAt, List.set_cons_zero, List.set_cons_succ] at l2; clear HO; have HO := Lib.hid l2; clear l2)
    | ((with_reducible show wpList _ _ _ ({ dst := _, op := Op.load 3 (Operand.tmp 30), type := _, pos := _, after := _, guard := _ } :: _) _ _); refine wpList_ld1 rfl 4 (.int .i64 (t 4)) (HO.out.at 1 rfl) rfl (fun cc K hK => by go_simp; exact hK) ?_)
    | ((with_reducible show wpList _ _ _ ({ dst := _, op := Op.store 3 (Operand.tmp 32) _, type := _, pos := _, after := _, guard := _ } :: _) _ _); refine wpList_put1 HO.out 2 rfl 4 (by simp) (.int .i64 (t 4)) rfl (fun cc ff K hK => by simp only [List.getElem?_cons_zero, List.getElem?_cons_succ] at cc; go_simp; exact hK) ?_; intro w2 l2; simp only [List.set_cons_zero, List.set_cons_succ] at l2; clear HO; have HO := Lib.hid l2; clear l2)
    | ((with_reducible show wpList _ _ _ ({ dst := _, op := Op.load 25 (Operand.tmp 5), type := _, pos := _, after := _, guard := _ } :: _) _ _); refine wpList_ldr ty_px rfl _ rfl _ rfl _ rfl (HO.out.at 1 rfl) ?_)
    | ((with_reducible show wpList _ _ _ ({ dst := _, op := Op.load 25 (Operand.tmp 3), type := _, pos := _, after := _, guard := _ } :: _) _ _); refine wpList_ldr ty_px rfl _ rfl _ rfl _ rfl (HO.out.at 2 rfl) ?_)
    | ((with_reducible show wpList _ _ _ ({ dst := _, op := Op.store 25 (Operand.tmp 6) _, type := _, pos := _, after := _, guard := _ } :: _) _ _); refine wpList_sto ty_px HO.out 0 [.int .i64 (t 0), .int .i64 (t 1), .int .i64 (t 2), .int .i64 (t 3), .int .i64 (t 4), .int .i64 (p 5)] rfl _ _ rfl _ rfl rfl _ rfl rfl rfl rfl ?_; intro w2 l2; clear HO; have HO := Lib.hid l2; clear l2))
  refine bodyPost_ret (results_c2 ty_px rfl rfl rfl rfl (HO.out.at 0 rfl)) rfl ⟨rfl, HO.out.k⟩
set_option linter.unusedSimpArgs false in
set_option maxRecDepth 100000 in
set_option maxHeartbeats 8000000 in
theorem clear_4 (p t : Sf) (W1 : ∀ W, Calls Try.prog 26 #[.int .i64 1, .int .i64 7, .int .i64 4] W fun e w' => e = .returned (.bool true) ∧ W = w') (R1 : ∀ W, Calls Try.prog 9 #[.agg #[.int .i64 (p 0), .int .i64 (p 1), .int .i64 (p 2), .int .i64 (p 3), .int .i64 (p 4), .int .i64 (p 5)]] W fun e w' => e = .returned (.bool true) ∧ Kp W.heap.size W w') (R2 : ∀ W, Calls Try.prog 9 #[.agg #[.int .i64 (t 0), .int .i64 (t 1), .int .i64 (t 2), .int .i64 (t 3), .int .i64 (t 4), .int .i64 (t 5)]] W fun e w' => e = .returned (.bool true) ∧ Kp W.heap.size W w') (w : World) :
    Calls Try.prog 13 #[.agg #[.int .i64 (p 0), .int .i64 (p 1), .int .i64 (p 2), .int .i64 (p 3), .int .i64 (p 4), .int .i64 (p 5)], .int .i64 4, .agg #[.int .i64 (t 0), .int .i64 (t 1), .int .i64 (t 2), .int .i64 (t 3), .int .i64 (t 4), .int .i64 (t 5)]] w fun e w' => e = .returned (.tuple #[.agg #[.int .i64 (p 0), .int .i64 (p 1), .int .i64 (p 2), .int .i64 (p 3), .int .i64 (p 4), .int .i64 (t 5)], .int .i64 0]) ∧ Kp w.heap.size w w' := by
  have HO := Lib.hid ((((Ow.refl w).newAt (w.heap.size) rfl (.int .i64 (p 0)) [.int .i64 (p 1), .int .i64 (p 2), .int .i64 (p 3), .int .i64 (p 4), .int .i64 (p 5)] 25).newAt (w.heap.size + 1) (by simp) (.int .i64 (t 0)) [.int .i64 (t 1), .int .i64 (t 2), .int .i64 (t 3), .int .i64 (t 4), .int .i64 (t 5)] 25).newAt (w.heap.size + 2) (by simp) (.int .i64 0) [.int .i64 0, .int .i64 0, .int .i64 0, .int .i64 0, .int .i64 0] 25)
  go_enter Try.func13, Try.ntmps13
  go_wp2_with (first
    | go_big_skip
    | (go_at_call 26; (with_reducible refine (W1 _).mono ?_); rintro e w' ⟨rfl, rfl⟩)
    | (go_at_call 9; (with_reducible refine (R1 _).mono ?_); rintro e wz ⟨rfl, hk1⟩; have l2 := HO.out.call hk1; clear HO hk1; have HO := Lib.hid l2; clear l2)
    | (go_at_call 9; (with_reducible refine (R2 _).mono ?_); rintro e wz ⟨rfl, hk1⟩; have l2 := HO.out.call hk1; clear HO hk1; have HO := Lib.hid l2; clear l2)
    | ((with_reducible show wpList _ _ _ ({ dst := _, op := Op.load 3 (Operand.tmp 36), type := _, pos := _, after := _, guard := _ } :: _) _ _); refine wpList_ld1 rfl 5 (.int .i64 (t 5)) (HO.out.at 1 rfl) rfl (fun cc K hK => by go_simp; exact hK) ?_)
    | ((with_reducible show wpList _ _ _ ({ dst := _, op := Op.store 3 (Operand.tmp 38) _, type := _, pos := _, after := _, guard := _ } :: _) _ _); refine wpList_put1 HO.out 2 rfl 5 (by simp) (.int .i64 (t 5)) rfl (fun cc ff K hK => by simp only [List.getElem?_cons_zero, List.getElem?_cons_succ] at cc; go_simp; exact hK) ?_; intro w2 l2; simp only [List.set_cons_zero, List.set_cons_succ] at l2; clear HO; have HO := Lib.hid l2; clear l2)
    | ((with_reducible show wpList _ _ _ ({ dst := _, op := Op.load 25 (Operand.tmp 5), type := _, pos := _, after := _, guard := _ } :: _) _ _); refine wpList_ldr ty_px rfl _ rfl _ rfl _ rfl (HO.out.at 1 rfl) ?_)
    | ((with_reducible show wpList _ _ _ ({ dst := _, op := Op.load 25 (Operand.tmp 3), type := _, pos := _, after := _, guard := _ } :: _) _ _); refine wpList_ldr ty_px rfl _ rfl _ rfl _ rfl (HO.out.at 2 rfl) ?_)
    | ((with_reducible show wpList _ _ _ ({ dst := _, op := Op.store 25 (Operand.tmp 6) _, type := _, pos := _, after := _, guard := _ } :: _) _ _); refine wpList_sto ty_px HO.out 0 [.int .i64 (p 0), .int .i64 (p 1), .int .i64 (p 2), .int .i64 (p 3), .int .i64 (p 4), .int .i64 (t 5)] rfl _ _ rfl _ rfl rfl _ rfl rfl rfl rfl ?_; intro w2 l2; clear HO; have HO := Lib.hid l2; clear l2))
  refine bodyPost_ret (results_c2 ty_px rfl rfl rfl rfl (HO.out.at 0 rfl)) rfl ⟨rfl, HO.out.k⟩
set_option linter.unusedSimpArgs false in
set_option maxRecDepth 100000 in
set_option maxHeartbeats 8000000 in
theorem clear_5 (p t : Sf) (W1 : ∀ W, Calls Try.prog 26 #[.int .i64 1, .int .i64 7, .int .i64 5] W fun e w' => e = .returned (.bool true) ∧ W = w') (R1 : ∀ W, Calls Try.prog 9 #[.agg #[.int .i64 (p 0), .int .i64 (p 1), .int .i64 (p 2), .int .i64 (p 3), .int .i64 (p 4), .int .i64 (p 5)]] W fun e w' => e = .returned (.bool true) ∧ Kp W.heap.size W w') (R2 : ∀ W, Calls Try.prog 9 #[.agg #[.int .i64 (t 0), .int .i64 (t 1), .int .i64 (t 2), .int .i64 (t 3), .int .i64 (t 4), .int .i64 (t 5)]] W fun e w' => e = .returned (.bool true) ∧ Kp W.heap.size W w') (w : World) :
    Calls Try.prog 13 #[.agg #[.int .i64 (p 0), .int .i64 (p 1), .int .i64 (p 2), .int .i64 (p 3), .int .i64 (p 4), .int .i64 (p 5)], .int .i64 5, .agg #[.int .i64 (t 0), .int .i64 (t 1), .int .i64 (t 2), .int .i64 (t 3), .int .i64 (t 4), .int .i64 (t 5)]] w fun e w' => e = .returned (.tuple #[.agg #[.int .i64 (t 0), .int .i64 (t 1), .int .i64 (t 2), .int .i64 (t 3), .int .i64 (p 4), .int .i64 (t 5)], .int .i64 0]) ∧ Kp w.heap.size w w' := by
  have HO := Lib.hid ((((Ow.refl w).newAt (w.heap.size) rfl (.int .i64 (p 0)) [.int .i64 (p 1), .int .i64 (p 2), .int .i64 (p 3), .int .i64 (p 4), .int .i64 (p 5)] 25).newAt (w.heap.size + 1) (by simp) (.int .i64 (t 0)) [.int .i64 (t 1), .int .i64 (t 2), .int .i64 (t 3), .int .i64 (t 4), .int .i64 (t 5)] 25).newAt (w.heap.size + 2) (by simp) (.int .i64 0) [.int .i64 0, .int .i64 0, .int .i64 0, .int .i64 0, .int .i64 0] 25)
  go_enter Try.func13, Try.ntmps13
  go_wp2_with (first
    | go_big_skip
    | (go_at_call 26; (with_reducible refine (W1 _).mono ?_); rintro e w' ⟨rfl, rfl⟩)
    | (go_at_call 9; (with_reducible refine (R1 _).mono ?_); rintro e wz ⟨rfl, hk1⟩; have l2 := HO.out.call hk1; clear HO hk1; have HO := Lib.hid l2; clear l2)
    | (go_at_call 9; (with_reducible refine (R2 _).mono ?_); rintro e wz ⟨rfl, hk1⟩; have l2 := HO.out.call hk1; clear HO hk1; have HO := Lib.hid l2; clear l2)
    | ((with_reducible show wpList _ _ _ ({ dst := _, op := Op.load 23 (Operand.tmp 24), type := _, pos := _, after := _, guard := _ } :: _) _ _); refine wpList_ldo ty_color rfl _ rfl _ _ rfl [.int .i64 (t 0), .int .i64 (t 1), .int .i64 (t 2), .int .i64 (t 3), .int .i64 (t 4), .int .i64 (t 5)] rfl (Rc.some (HO.out.at 1 rfl)) ?_; intro us hus; dsimp only [List.drop, List.take] at hus; subst hus)
    | ((with_reducible show wpList _ _ _ ({ dst := _, op := Op.store 23 (Operand.tmp 26) _, type := _, pos := _, after := _, guard := _ } :: _) _ _); refine wpList_stm ty_color HO.out 2 [.int .i64 (t 0), .int .i64 (t 1), .int .i64 (t 2), .int .i64 (t 3)] rfl _ _ rfl _ 0 rfl rfl _ rfl (by simp) rfl rfl ?_; intro w2 l2; simp only [setsAt, List.set_cons_zero, List.set_cons_succ] at l2; clear HO; have HO := Lib.hid l2; clear l2)
    | ((with_reducible show wpList _ _ _ ({ dst := _, op := Op.load 3 (Operand.tmp 36), type := _, pos := _, after := _, guard := _ } :: _) _ _); refine wpList_ld1 rfl 5 (.int .i64 (t 5)) (HO.out.at 1 rfl) rfl (fun cc K hK => by go_simp; exact hK) ?_)
    | ((with_reducible show wpList _ _ _ ({ dst := _, op := Op.store 3 (Operand.tmp 38) _, type := _, pos := _, after := _, guard := _ } :: _) _ _); refine wpList_put1 HO.out 2 rfl 5 (by simp) (.int .i64 (t 5)) rfl (fun cc ff K hK => by simp only [List.getElem?_cons_zero, List.getElem?_cons_succ] at cc; go_simp; exact hK) ?_; intro w2 l2; simp only [List.set_cons_zero, List.set_cons_succ] at l2; clear HO; have HO := Lib.hid l2; clear l2)
    | ((with_reducible show wpList _ _ _ ({ dst := _, op := Op.load 25 (Operand.tmp 5), type := _, pos := _, after := _, guard := _ } :: _) _ _); refine wpList_ldr ty_px rfl _ rfl _ rfl _ rfl (HO.out.at 1 rfl) ?_)
    | ((with_reducible show wpList _ _ _ ({ dst := _, op := Op.load 25 (Operand.tmp 3), type := _, pos := _, after := _, guard := _ } :: _) _ _); refine wpList_ldr ty_px rfl _ rfl _ rfl _ rfl (HO.out.at 2 rfl) ?_)
    | ((with_reducible show wpList _ _ _ ({ dst := _, op := Op.store 25 (Operand.tmp 6) _, type := _, pos := _, after := _, guard := _ } :: _) _ _); refine wpList_sto ty_px HO.out 0 [.int .i64 (t 0), .int .i64 (t 1), .int .i64 (t 2), .int .i64 (t 3), .int .i64 (p 4), .int .i64 (t 5)] rfl _ _ rfl _ rfl rfl _ rfl rfl rfl rfl ?_; intro w2 l2; clear HO; have HO := Lib.hid l2; clear l2))
  refine bodyPost_ret (results_c2 ty_px rfl rfl rfl rfl (HO.out.at 0 rfl)) rfl ⟨rfl, HO.out.k⟩
set_option linter.unusedSimpArgs false in
set_option maxRecDepth 100000 in
set_option maxHeartbeats 8000000 in
theorem clear_6 (p t : Sf) (W1 : ∀ W, Calls Try.prog 26 #[.int .i64 1, .int .i64 7, .int .i64 6] W fun e w' => e = .returned (.bool true) ∧ W = w') (R1 : ∀ W, Calls Try.prog 9 #[.agg #[.int .i64 (p 0), .int .i64 (p 1), .int .i64 (p 2), .int .i64 (p 3), .int .i64 (p 4), .int .i64 (p 5)]] W fun e w' => e = .returned (.bool true) ∧ Kp W.heap.size W w') (R2 : ∀ W, Calls Try.prog 9 #[.agg #[.int .i64 (t 0), .int .i64 (t 1), .int .i64 (t 2), .int .i64 (t 3), .int .i64 (t 4), .int .i64 (t 5)]] W fun e w' => e = .returned (.bool true) ∧ Kp W.heap.size W w') (w : World) :
    Calls Try.prog 13 #[.agg #[.int .i64 (p 0), .int .i64 (p 1), .int .i64 (p 2), .int .i64 (p 3), .int .i64 (p 4), .int .i64 (p 5)], .int .i64 6, .agg #[.int .i64 (t 0), .int .i64 (t 1), .int .i64 (t 2), .int .i64 (t 3), .int .i64 (t 4), .int .i64 (t 5)]] w fun e w' => e = .returned (.tuple #[.agg #[.int .i64 (p 0), .int .i64 (p 1), .int .i64 (p 2), .int .i64 (p 3), .int .i64 (t 4), .int .i64 (t 5)], .int .i64 0]) ∧ Kp w.heap.size w w' := by
  have HO := Lib.hid ((((Ow.refl w).newAt (w.heap.size) rfl (.int .i64 (p 0)) [.int .i64 (p 1), .int .i64 (p 2), .int .i64 (p 3), .int .i64 (p 4), .int .i64 (p 5)] 25).newAt (w.heap.size + 1) (by simp) (.int .i64 (t 0)) [.int .i64 (t 1), .int .i64 (t 2), .int .i64 (t 3), .int .i64 (t 4), .int .i64 (t 5)] 25).newAt (w.heap.size + 2) (by simp) (.int .i64 0) [.int .i64 0, .int .i64 0, .int .i64 0, .int .i64 0, .int .i64 0] 25)
  go_enter Try.func13, Try.ntmps13
  go_wp2_with (first
    | go_big_skip
    | (go_at_call 26; (with_reducible refine (W1 _).mono ?_); rintro e w' ⟨rfl, rfl⟩)
    | (go_at_call 9; (with_reducible refine (R1 _).mono ?_); rintro e wz ⟨rfl, hk1⟩; have l2 := HO.out.call hk1; clear HO hk1; have HO := Lib.hid l2; clear l2)
    | (go_at_call 9; (with_reducible refine (R2 _).mono ?_); rintro e wz ⟨rfl, hk1⟩; have l2 := HO.out.call hk1; clear HO hk1; have HO := Lib.hid l2; clear l2)
    | ((with_reducible show wpList _ _ _ ({ dst := _, op := Op.load 3 (Operand.tmp 30), type := _, pos := _, after := _, guard := _ } :: _) _ _); refine wpList_ld1 rfl 4 (.int .i64 (t 4)) (HO.out.at 1 rfl) rfl (fun cc K hK => by go_simp; exact hK) ?_)
    | ((with_reducible show wpList _ _ _ ({ dst := _, op := Op.store 3 (Operand.tmp 32) _, type := _, pos := _, after := _, guard := _ } :: _) _ _); refine wpList_put1 HO.out 2 rfl 4 (by simp) (.int .i64 (t 4)) rfl (fun cc ff K hK => by simp only [List.getElem?_cons_zero, List.getElem?_cons_succ] at cc; go_simp; exact hK) ?_; intro w2 l2; simp only [List.set_cons_zero, List.set_cons_succ] at l2; clear HO; have HO := Lib.hid l2; clear l2)
    | ((with_reducible show wpList _ _ _ ({ dst := _, op := Op.load 3 (Operand.tmp 36), type := _, pos := _, after := _, guard := _ } :: _) _ _); refine wpList_ld1 rfl 5 (.int .i64 (t 5)) (HO.out.at 1 rfl) rfl (fun cc K hK => by go_simp; exact hK) ?_)
    | ((with_reducible show wpList _ _ _ ({ dst := _, op := Op.store 3 (Operand.tmp 38) _, type := _, pos := _, after := _, guard := _ } :: _) _ _); refine wpList_put1 HO.out 2 rfl 5 (by simp) (.int .i64 (t 5)) rfl (fun cc ff K hK => by simp only [List.getElem?_cons_zero, List.getElem?_cons_succ] at cc; go_simp; exact hK) ?_; intro w2 l2; simp only [List.set_cons_zero, List.set_cons_succ] at l2; clear HO; have HO := Lib.hid l2; clear l2)
    | ((with_reducible show wpList _ _ _ ({ dst := _, op := Op.load 25 (Operand.tmp 5), type := _, pos := _, after := _, guard := _ } :: _) _ _); refine wpList_ldr ty_px rfl _ rfl _ rfl _ rfl (HO.out.at 1 rfl) ?_)
    | ((with_reducible show wpList _ _ _ ({ dst := _, op := Op.load 25 (Operand.tmp 3), type := _, pos := _, after := _, guard := _ } :: _) _ _); refine wpList_ldr ty_px rfl _ rfl _ rfl _ rfl (HO.out.at 2 rfl) ?_)
    | ((with_reducible show wpList _ _ _ ({ dst := _, op := Op.store 25 (Operand.tmp 6) _, type := _, pos := _, after := _, guard := _ } :: _) _ _); refine wpList_sto ty_px HO.out 0 [.int .i64 (p 0), .int .i64 (p 1), .int .i64 (p 2), .int .i64 (p 3), .int .i64 (t 4), .int .i64 (t 5)] rfl _ _ rfl _ rfl rfl _ rfl rfl rfl rfl ?_; intro w2 l2; clear HO; have HO := Lib.hid l2; clear l2))
  refine bodyPost_ret (results_c2 ty_px rfl rfl rfl rfl (HO.out.at 0 rfl)) rfl ⟨rfl, HO.out.k⟩
set_option linter.unusedSimpArgs false in
set_option maxRecDepth 100000 in
set_option maxHeartbeats 8000000 in
theorem clear_7 (p t : Sf) (W1 : ∀ W, Calls Try.prog 26 #[.int .i64 1, .int .i64 7, .int .i64 7] W fun e w' => e = .returned (.bool true) ∧ W = w') (R1 : ∀ W, Calls Try.prog 9 #[.agg #[.int .i64 (p 0), .int .i64 (p 1), .int .i64 (p 2), .int .i64 (p 3), .int .i64 (p 4), .int .i64 (p 5)]] W fun e w' => e = .returned (.bool true) ∧ Kp W.heap.size W w') (R2 : ∀ W, Calls Try.prog 9 #[.agg #[.int .i64 (t 0), .int .i64 (t 1), .int .i64 (t 2), .int .i64 (t 3), .int .i64 (t 4), .int .i64 (t 5)]] W fun e w' => e = .returned (.bool true) ∧ Kp W.heap.size W w') (w : World) :
    Calls Try.prog 13 #[.agg #[.int .i64 (p 0), .int .i64 (p 1), .int .i64 (p 2), .int .i64 (p 3), .int .i64 (p 4), .int .i64 (p 5)], .int .i64 7, .agg #[.int .i64 (t 0), .int .i64 (t 1), .int .i64 (t 2), .int .i64 (t 3), .int .i64 (t 4), .int .i64 (t 5)]] w fun e w' => e = .returned (.tuple #[.agg #[.int .i64 (t 0), .int .i64 (t 1), .int .i64 (t 2), .int .i64 (t 3), .int .i64 (t 4), .int .i64 (t 5)], .int .i64 0]) ∧ Kp w.heap.size w w' := by
  have HO := Lib.hid ((((Ow.refl w).newAt (w.heap.size) rfl (.int .i64 (p 0)) [.int .i64 (p 1), .int .i64 (p 2), .int .i64 (p 3), .int .i64 (p 4), .int .i64 (p 5)] 25).newAt (w.heap.size + 1) (by simp) (.int .i64 (t 0)) [.int .i64 (t 1), .int .i64 (t 2), .int .i64 (t 3), .int .i64 (t 4), .int .i64 (t 5)] 25).newAt (w.heap.size + 2) (by simp) (.int .i64 0) [.int .i64 0, .int .i64 0, .int .i64 0, .int .i64 0, .int .i64 0] 25)
  go_enter Try.func13, Try.ntmps13
  go_wp2_with (first
    | go_big_skip
    | (go_at_call 26; (with_reducible refine (W1 _).mono ?_); rintro e w' ⟨rfl, rfl⟩)
    | (go_at_call 9; (with_reducible refine (R1 _).mono ?_); rintro e wz ⟨rfl, hk1⟩; have l2 := HO.out.call hk1; clear HO hk1; have HO := Lib.hid l2; clear l2)
    | (go_at_call 9; (with_reducible refine (R2 _).mono ?_); rintro e wz ⟨rfl, hk1⟩; have l2 := HO.out.call hk1; clear HO hk1; have HO := Lib.hid l2; clear l2)
    | ((with_reducible show wpList _ _ _ ({ dst := _, op := Op.load 23 (Operand.tmp 24), type := _, pos := _, after := _, guard := _ } :: _) _ _); refine wpList_ldo ty_color rfl _ rfl _ _ rfl [.int .i64 (t 0), .int .i64 (t 1), .int .i64 (t 2), .int .i64 (t 3), .int .i64 (t 4), .int .i64 (t 5)] rfl (Rc.some (HO.out.at 1 rfl)) ?_; intro us hus; dsimp only [List.drop, List.take] at hus; subst hus)
    | ((with_reducible show wpList _ _ _ ({ dst := _, op := Op.store 23 (Operand.tmp 26) _, type := _, pos := _, after := _, guard := _ } :: _) _ _); refine wpList_stm ty_color HO.out 2 [.int .i64 (t 0), .int .i64 (t 1), .int .i64 (t 2), .int .i64 (t 3)] rfl _ _ rfl _ 0 rfl rfl _ rfl (by simp) rfl rfl ?_; intro w2 l2; simp only [setsAt, List.set_cons_zero, List.set_cons_succ] at l2; clear HO; have HO := Lib.hid l2; clear l2)
    | ((with_reducible show wpList _ _ _ ({ dst := _, op := Op.load 3 (Operand.tmp 30), type := _, pos := _, after := _, guard := _ } :: _) _ _); refine wpList_ld1 rfl 4 (.int .i64 (t 4)) (HO.out.at 1 rfl) rfl (fun cc K hK => by go_simp; exact hK) ?_)
    | ((with_reducible show wpList _ _ _ ({ dst := _, op := Op.store 3 (Operand.tmp 32) _, type := _, pos := _, after := _, guard := _ } :: _) _ _); refine wpList_put1 HO.out 2 rfl 4 (by simp) (.int .i64 (t 4)) rfl (fun cc ff K hK => by simp only [List.getElem?_cons_zero, List.getElem?_cons_succ] at cc; go_simp; exact hK) ?_; intro w2 l2; simp only [List.set_cons_zero, List.set_cons_succ] at l2; clear HO; have HO := Lib.hid l2; clear l2)
    | ((with_reducible show wpList _ _ _ ({ dst := _, op := Op.load 3 (Operand.tmp 36), type := _, pos := _, after := _, guard := _ } :: _) _ _); refine wpList_ld1 rfl 5 (.int .i64 (t 5)) (HO.out.at 1 rfl) rfl (fun cc K hK => by go_simp; exact hK) ?_)
    | ((with_reducible show wpList _ _ _ ({ dst := _, op := Op.store 3 (Operand.tmp 38) _, type := _, pos := _, after := _, guard := _ } :: _) _ _); refine wpList_put1 HO.out 2 rfl 5 (by simp) (.int .i64 (t 5)) rfl (fun cc ff K hK => by simp only [List.getElem?_cons_zero, List.getElem?_cons_succ] at cc; go_simp; exact hK) ?_; intro w2 l2; simp only [List.set_cons_zero, List.set_cons_succ] at l2; clear HO; have HO := Lib.hid l2; clear l2)
    | ((with_reducible show wpList _ _ _ ({ dst := _, op := Op.load 25 (Operand.tmp 5), type := _, pos := _, after := _, guard := _ } :: _) _ _); refine wpList_ldr ty_px rfl _ rfl _ rfl _ rfl (HO.out.at 1 rfl) ?_)
    | ((with_reducible show wpList _ _ _ ({ dst := _, op := Op.load 25 (Operand.tmp 3), type := _, pos := _, after := _, guard := _ } :: _) _ _); refine wpList_ldr ty_px rfl _ rfl _ rfl _ rfl (HO.out.at 2 rfl) ?_)
    | ((with_reducible show wpList _ _ _ ({ dst := _, op := Op.store 25 (Operand.tmp 6) _, type := _, pos := _, after := _, guard := _ } :: _) _ _); refine wpList_sto ty_px HO.out 0 [.int .i64 (t 0), .int .i64 (t 1), .int .i64 (t 2), .int .i64 (t 3), .int .i64 (t 4), .int .i64 (t 5)] rfl _ _ rfl _ rfl rfl _ rfl rfl rfl rfl ?_; intro w2 l2; clear HO; have HO := Lib.hid l2; clear l2))
  refine bodyPost_ret (results_c2 ty_px rfl rfl rfl rfl (HO.out.at 0 rfl)) rfl ⟨rfl, HO.out.k⟩
theorem clear_no1 (p t : Sf) (n : Int) (w : World) (h : ¬ (1 ≤ n ∧ n ≤ 7)) :
    Calls Try.prog 13 #[.agg #[.int .i64 (p 0), .int .i64 (p 1), .int .i64 (p 2), .int .i64 (p 3), .int .i64 (p 4), .int .i64 (p 5)], .int .i64 n, .agg #[.int .i64 (t 0), .int .i64 (t 1), .int .i64 (t 2), .int .i64 (t 3), .int .i64 (t 4), .int .i64 (t 5)]] w fun e w' => e = .returned (.tuple #[.agg #[.int .i64 0, .int .i64 0, .int .i64 0, .int .i64 0, .int .i64 0, .int .i64 0], .int .i64 9]) ∧ Kp w.heap.size w w' := by
  have W1 := fun W => fgwithin_any 1 7 n W
  rw [show Sx.wi 1 7 n = false by rw [← Bool.not_eq_true, Sx.wi_iff]; exact h] at W1
  exact clear_kind p t n W1 w
theorem clear_no2 (p t : Sf) (n : Int) (w : World) (h : 1 ≤ n ∧ n ≤ 7) (hr : (Fr.right p && Fr.right t) = false) :
    Calls Try.prog 13 #[.agg #[.int .i64 (p 0), .int .i64 (p 1), .int .i64 (p 2), .int .i64 (p 3), .int .i64 (p 4), .int .i64 (p 5)], .int .i64 n, .agg #[.int .i64 (t 0), .int .i64 (t 1), .int .i64 (t 2), .int .i64 (t 3), .int .i64 (t 4), .int .i64 (t 5)]] w fun e w' => e = .returned (.tuple #[.agg #[.int .i64 0, .int .i64 0, .int .i64 0, .int .i64 0, .int .i64 0, .int .i64 0], .int .i64 3]) ∧ Kp w.heap.size w w' := by
  have W1 := fun W => fgwithin_any 1 7 n W
  rw [Sx.wi_iff.2 h] at W1
  have R1 := fun W => fright_any p W
  have R2 := fun W => fright_any t W
  cases hp : Fr.right p
  · rw [hp] at R1
    exact clear_wrong1 p t n W1 R1 w
  · rw [hp] at R1 hr
    rw [show Fr.right t = false by simpa using hr] at R2
    exact clear_wrong2 p t n W1 R1 R2 w
theorem clear_yes (p t : Sf) (n : Int) (w : World) (h : 1 ≤ n ∧ n ≤ 7) (hp : Fr.right p = true) (ht : Fr.right t = true) :
    Calls Try.prog 13 #[.agg #[.int .i64 (p 0), .int .i64 (p 1), .int .i64 (p 2), .int .i64 (p 3), .int .i64 (p 4), .int .i64 (p 5)], .int .i64 n, .agg #[.int .i64 (t 0), .int .i64 (t 1), .int .i64 (t 2), .int .i64 (t 3), .int .i64 (t 4), .int .i64 (t 5)]] w fun e w' => e = .returned (.tuple #[.agg #[.int .i64 (((Fr.clear p n t)) 0), .int .i64 (((Fr.clear p n t)) 1), .int .i64 (((Fr.clear p n t)) 2), .int .i64 (((Fr.clear p n t)) 3), .int .i64 (((Fr.clear p n t)) 4), .int .i64 (((Fr.clear p n t)) 5)], .int .i64 0]) ∧ Kp w.heap.size w w' := by
  have W1 := fun W => fgwithin_any 1 7 n W
  rw [Sx.wi_iff.2 h] at W1
  have R1 := fun W => fright_any p W
  have R2 := fun W => fright_any t W
  rw [hp] at R1
  rw [ht] at R2
  obtain rfl | rfl | rfl | rfl | rfl | rfl | rfl : n = 1 ∨ n = 2 ∨ n = 3 ∨ n = 4 ∨ n = 5 ∨ n = 6 ∨ n = 7 := by omega
  · exact clear_1 p t W1 R1 R2 w
  · exact clear_2 p t W1 R1 R2 w
  · exact clear_3 p t W1 R1 R2 w
  · exact clear_4 p t W1 R1 R2 w
  · exact clear_5 p t W1 R1 R2 w
  · exact clear_6 p t W1 R1 R2 w
  · exact clear_7 p t W1 R1 R2 w
end Go.Proofs.Ytankjlpanmmogaa
