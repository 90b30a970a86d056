/-
  Contracts of layer 19 (frag): which pixels and fragments are right; a stencil is written.
-/
import Derived.Test.YtankjlpanmmogaaJFragPlain
import Derived.Test.YtankjlpanmmogaaStateCode
import Derived.Test.YtankjlpanmmogaaStenWalks3
import Derived.BigGuard
namespace Go.Proofs.Ytankjlpanmmogaa
set_option maxRecDepth 100000
open Go.RowKit

theorem ty_px : Ty 25 6 := ⟨by kernel_rfl, _, Try.underlying25, rfl⟩
theorem ty_frag : Ty 27 5 := ⟨by kernel_rfl, _, Try.underlying27, rfl⟩
theorem fgwithin_any (lo hi n : Int) (w : World) :
    Calls Try.prog 26 #[.int .i64 lo, .int .i64 hi, .int .i64 n] w fun e w' => e = .returned (.bool (Sx.wi lo hi n)) ∧ w = w' := by
  cases h1 : decide (lo ≤ n)
  all_goals
    go_enter Try.func26, Try.ntmps26
    go_wp2_with go_big_skip
    go_ret
    exact ⟨ret_bool (by simp [Sx.wi, h1]), rfl⟩
theorem Fr.sten_wi (n : Int) : Sx.wi 0 255 n = Sn.is n := by
  rw [Bool.eq_iff_iff, Sx.wi_iff, Sn.is_iff]
set_option linter.unusedSimpArgs false in
set_option maxRecDepth 100000 in
set_option maxHeartbeats 8000000 in
theorem fright_any (p : Sf) (w : World) :
    Calls Try.prog 9 #[.agg #[.int .i64 (p 0), .int .i64 (p 1), .int .i64 (p 2), .int .i64 (p 3), .int .i64 (p 4), .int .i64 (p 5)]] w fun e w' => e = .returned (.bool (Fr.right p)) ∧ Kp w.heap.size w w' := by
  have T1 := fun W => right_any (p 0) (p 1) (p 2) (p 3) W
  have W1 := fun W => fgwithin_any 0 65535 (p 4) W
  have W2 := fun W => fgwithin_any 0 255 (p 5) W
  have HR : Hid (Fr.right p = (Tn.right (p 0) (p 1) (p 2) (p 3) && Sx.wi 0 65535 (p 4) && Sx.wi 0 255 (p 5))) := Lib.hid (by unfold Fr.right Fr.deep; rw [Fr.sten_wi]; rfl)
  generalize Tn.right (p 0) (p 1) (p 2) (p 3) = c1 at *
  generalize Sx.wi 0 65535 (p 4) = c2 at *
  generalize Sx.wi 0 255 (p 5) = c3 at *
  generalize Fr.right p = r at *
  have HO := Lib.hid ((Ow.refl w).newAt (w.heap.size) rfl (.int .i64 (p 0)) [.int .i64 (p 1), .int .i64 (p 2), .int .i64 (p 3), .int .i64 (p 4), .int .i64 (p 5)] 25)
  cases c1 <;> cases c2
  all_goals
    go_enter Try.func9, Try.ntmps9
    go_wp2_with (first
      | go_big_skip
      | ((with_reducible show wpList _ _ _ ({ dst := _, op := Op.load 23 (Operand.tmp 3), type := _, pos := _, after := _, guard := _ } :: _) _ _); refine wpList_ldo ty_color rfl _ rfl _ _ rfl [.int .i64 (p 0), .int .i64 (p 1), .int .i64 (p 2), .int .i64 (p 3), .int .i64 (p 4), .int .i64 (p 5)] rfl (Rc.some (HO.out.at 0 rfl)) ?_; intro us hus; dsimp only [List.drop, List.take] at hus; subst hus)
      | ((with_reducible show wpList _ _ _ ({ dst := _, op := Op.load 3 (Operand.tmp 7), type := _, pos := _, after := _, guard := _ } :: _) _ _); refine wpList_ld1 rfl 4 (.int .i64 (p 4)) (HO.out.at 0 rfl) rfl (fun cc K hK => by go_simp; exact hK) ?_)
      | ((with_reducible show wpList _ _ _ ({ dst := _, op := Op.load 3 (Operand.tmp 12), type := _, pos := _, after := _, guard := _ } :: _) _ _); refine wpList_ld1 rfl 5 (.int .i64 (p 5)) (HO.out.at 0 rfl) rfl (fun cc K hK => by go_simp; exact hK) ?_)
      | (go_at_call 25; (with_reducible refine (T1 _).mono ?_); rintro e wz ⟨rfl, hk1⟩; have l2 := HO.out.call hk1; clear HO hk1; have HO := Lib.hid l2; clear l2)
      | (go_at_call 26; (with_reducible refine (W1 _).mono ?_); rintro e w' ⟨rfl, rfl⟩)
      | (go_at_call 26; (with_reducible refine (W2 _).mono ?_); rintro e w' ⟨rfl, rfl⟩))
    go_ret
    exact ⟨ret_bool (HR.out.trans (by simp)).symm, HO.out.k⟩
set_option linter.unusedSimpArgs false in
set_option maxRecDepth 100000 in
set_option maxHeartbeats 8000000 in
theorem fmay_any (f : Sf) (w : World) :
    Calls Try.prog 16 #[.agg #[.int .i64 (f 0), .int .i64 (f 1), .int .i64 (f 2), .int .i64 (f 3), .int .i64 (f 4)]] w fun e w' => e = .returned (.bool (Fr.may f)) ∧ Kp w.heap.size w w' := by
  have T1 := fun W => right_any (f 0) (f 1) (f 2) (f 3) W
  have W1 := fun W => fgwithin_any 0 65535 (f 4) W
  have HR : Hid (Fr.may f = (Tn.right (f 0) (f 1) (f 2) (f 3) && Sx.wi 0 65535 (f 4))) := Lib.hid rfl
  generalize Tn.right (f 0) (f 1) (f 2) (f 3) = c1 at *
  generalize Sx.wi 0 65535 (f 4) = c2 at *
  generalize Fr.may f = r at *
  have HO := Lib.hid ((Ow.refl w).newAt (w.heap.size) rfl (.int .i64 (f 0)) [.int .i64 (f 1), .int .i64 (f 2), .int .i64 (f 3), .int .i64 (f 4)] 27)
  cases c1
  all_goals
    go_enter Try.func16, Try.ntmps16
    go_wp2_with (first
      | go_big_skip
      | ((with_reducible show wpList _ _ _ ({ dst := _, op := Op.load 23 (Operand.tmp 3), type := _, pos := _, after := _, guard := _ } :: _) _ _); refine wpList_ldo ty_color rfl _ rfl _ _ rfl [.int .i64 (f 0), .int .i64 (f 1), .int .i64 (f 2), .int .i64 (f 3), .int .i64 (f 4)] rfl (Rc.some (HO.out.at 0 rfl)) ?_; intro us hus; dsimp only [List.drop, List.take] at hus; subst hus)
      | ((with_reducible show wpList _ _ _ ({ dst := _, op := Op.load 3 (Operand.tmp 7), type := _, pos := _, after := _, guard := _ } :: _) _ _); refine wpList_ld1 rfl 4 (.int .i64 (f 4)) (HO.out.at 0 rfl) rfl (fun cc K hK => by go_simp; exact hK) ?_)
      | (go_at_call 25; (with_reducible refine (T1 _).mono ?_); rintro e wz ⟨rfl, hk1⟩; have l2 := HO.out.call hk1; clear HO hk1; have HO := Lib.hid l2; clear l2)
      | (go_at_call 26; (with_reducible refine (W1 _).mono ?_); rintro e w' ⟨rfl, rfl⟩))
    go_ret
    exact ⟨ret_bool (HR.out.trans (by simp)).symm, HO.out.k⟩
set_option linter.unusedSimpArgs false in
set_option maxRecDepth 100000 in
set_option maxHeartbeats 8000000 in
theorem fwritten_any (r g b a z o fn rf rd wr fl zf ps : Int) (k : Nat) (w : World) (hn : Sn.chk fn rf rd wr fl zf ps = 0) (hk : k < 3) (ho : Sn.is o = true) :
    Calls Try.prog 45 #[.agg #[.int .i64 r, .int .i64 g, .int .i64 b, .int .i64 a, .int .i64 z, .int .i64 o], .agg #[.int .i64 fn, .int .i64 rf, .int .i64 rd, .int .i64 wr, .int .i64 fl, .int .i64 zf, .int .i64 ps], .int .i64 k] w fun e w' => e = .returned (.agg #[.int .i64 r, .int .i64 g, .int .i64 b, .int .i64 a, .int .i64 z, .int .i64 (Sn.put (Sn.deed fl zf ps k) o rf wr)]) ∧ Kp w.heap.size w w' := by
  have P1 := fun W => put_yes fn rf rd wr fl zf ps k o W hn hk ho
  generalize Sn.put (Sn.deed fl zf ps k) o rf wr = X at *
  clear hn hk ho
  have HO := Lib.hid ((((Ow.refl w).newAt (w.heap.size) rfl (.int .i64 r) [.int .i64 g, .int .i64 b, .int .i64 a, .int .i64 z, .int .i64 o] 25).newAt (w.heap.size + 1) (by simp) (.int .i64 fn) [.int .i64 rf, .int .i64 rd, .int .i64 wr, .int .i64 fl, .int .i64 zf, .int .i64 ps] 33).newAt (w.heap.size + 2) (by simp) (.int .i64 0) [.int .i64 0, .int .i64 0, .int .i64 0, .int .i64 0, .int .i64 0] 25)
  go_enter Try.func45, Try.ntmps45
  go_wp2_with (first
    | ((with_reducible show wpList _ _ _ ({ dst := _, op := Op.load 33 (Operand.tmp 4), type := _, pos := _, after := _, guard := _ } :: _) _ _); refine wpList_ldr ty_sten rfl _ rfl _ rfl _ rfl (HO.out.at 1 rfl) ?_)
    | ((with_reducible show wpList _ _ _ ({ dst := _, op := Op.load 3 (Operand.tmp 10), type := _, pos := _, after := _, guard := _ } :: _) _ _); refine wpList_ld1 rfl 5 (.int .i64 o) (HO.out.at 2 rfl) rfl (fun cc K hK => by go_simp; exact hK) ?_)
    | (go_at_call 66; (with_reducible refine (P1 _).mono ?_); rintro e wz ⟨rfl, hk1⟩; have l2 := HO.out.call hk1; clear HO hk1; have HO := Lib.hid l2; clear l2)
    | ((with_reducible show wpList _ _ _ ({ dst := _, op := Op.store 3 (Operand.tmp 15) _, type := _, pos := _, after := _, guard := _ } :: _) _ _); refine wpList_put1 HO.out 2 rfl 5 (by simp) (.int .i64 X) rfl (fun cc ff K hK => by simp only [List.getElem?_cons_zero, List.getElem?_cons_succ] at cc; go_simp; exact hK) ?_; intro w2 l2; simp only [List.set_cons_zero, List.set_cons_succ] at l2; clear HO; have HO := Lib.hid l2; clear l2)
    | ((with_reducible show wpList _ _ _ ({ dst := _, op := Op.load 25 (Operand.tmp 3), type := _, pos := _, after := _, guard := _ } :: _) _ _); refine wpList_ldr ty_px rfl _ rfl _ rfl _ rfl (HO.out.at 2 rfl) ?_)
    | ((with_reducible show wpList _ _ _ ({ dst := _, op := Op.store 25 (Operand.tmp 6) _, type := _, pos := _, after := _, guard := _ } :: _) _ _); refine wpList_sto ty_px HO.out 0 [.int .i64 r, .int .i64 g, .int .i64 b, .int .i64 a, .int .i64 z, .int .i64 X] rfl _ _ rfl _ rfl rfl _ rfl rfl rfl rfl ?_; intro w2 l2; clear HO; have HO := Lib.hid l2; clear l2))
  refine bodyPost_ret (results_c ty_px rfl rfl rfl (HO.out.at 0 rfl)) rfl ⟨rfl, HO.out.k⟩
end Go.Proofs.Ytankjlpanmmogaa
