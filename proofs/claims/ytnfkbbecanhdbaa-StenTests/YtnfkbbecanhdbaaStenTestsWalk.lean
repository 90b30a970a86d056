/-
  StenTests: its Go text returns true.
-/
import Derived.Test.YtnfkbbecanhdbaaStenWalks3
namespace Go.Proofs.Ytnfkbbecanhdbaa
open Go.RowKit

set_option maxHeartbeats 4000000 in
theorem tests_walk (fn ref rd wr f z p old other : Int) (w : World) :
    Calls Try.prog 3 #[.agg #[.int .i64 fn, .int .i64 ref, .int .i64 rd, .int .i64 wr, .int .i64 f, .int .i64 z, .int .i64 p], .int .i64 old, .int .i64 other] w fun e w' => e = .returned (.bool true) ∧ Kp w.heap.size w w' := by
  have HO := Lib.hid ((Ow.refl w).newAt w.heap.size rfl (.int .i64 fn) [.int .i64 ref, .int .i64 rd, .int .i64 wr, .int .i64 f, .int .i64 z, .int .i64 p] 23)
  have C1 := fun W => rcheck_any fn ref rd wr f z p W
  have C2 := fun W => check_any fn ref rd wr f z p W
  by_cases h : Sn.chk fn ref rd wr f z p = 0
  · have T0 := fun W => test_no2 fn ref rd wr f z p old W h
    have T3 := fun W => test_yes fn ref rd wr f z p old W h
    have T4 := fun W => test_yes fn ref rd wr f z p other W h
    have T5 := fun W => rtest_any fn ref rd wr f z p old W h
    rw [h] at C1 C2
    cases ho : Sn.is old
    · have T1 := fun W => T0 W ho
      have T2 := T1
      have R1 := T1
      have I1 := fun W => rsten_any old W
      rw [ho] at I1
      clear h T0 T3 T4 T5 ho
      go_enter Try.func3, Try.ntmps3
      go_wp2_with (first   | go_skip   | ((with_reducible show wpList _ _ _ ({ dst := _, op := Op.load 23 _, type := _, pos := _, after := _, guard := _ } :: _) _ _); refine wpList_ldr ty_sten rfl _ rfl _ rfl _ rfl (HO.out.at 0 rfl) ?_)   | (go_at_call 6; (with_reducible refine (T1 _).mono ?_); rintro e w1 ⟨rfl, hk1⟩; have l2 := HO.out.call hk1; clear HO hk1; have HO := Lib.hid l2; clear l2)   | (go_at_call 6; (with_reducible refine (T2 _).mono ?_); rintro e w1 ⟨rfl, hk1⟩; have l2 := HO.out.call hk1; clear HO hk1; have HO := Lib.hid l2; clear l2)   | (go_at_call 7; refine (C1 _).mono ?_; rintro e w1 ⟨rfl, hk1⟩; have l2 := HO.out.call hk1; clear HO hk1; have HO := Lib.hid l2; clear l2)   | (go_at_call 8; refine (C2 _).mono ?_; rintro e w1 ⟨rfl, hk1⟩; have l2 := HO.out.call hk1; clear HO hk1; have HO := Lib.hid l2; clear l2)   | (go_at_call 10; refine (I1 _).mono ?_; rintro e w' ⟨rfl, rfl⟩)   | (go_at_call 12; refine (R1 _).mono ?_; rintro e w1 ⟨rfl, hk1⟩; have l2 := HO.out.call hk1; clear HO hk1; have HO := Lib.hid l2; clear l2)   | (go_at_call 9; refine (awake_any _).mono ?_; rintro e w1 ⟨rfl, hk1⟩; have l2 := HO.out.call hk1; clear HO hk1; have HO := Lib.hid l2; clear l2))
      go_ret
      exact ⟨rfl, HO.out.k⟩
    · have T1 := fun W => T3 W ho
      have R1 := fun W => T5 W ho
      have I1 := fun W => rsten_any old W
      have I2 := fun W => rsten_any other W
      obtain ⟨-, -, s2, -⟩ := Sn.chk_ok h
      have A1 := fun W => rand_any old rd W ho s2
      rw [ho] at I1
      cases h2 : Sn.is other
      · have T2 := T1
        rw [h2] at I2
        clear h T0 T3 T4 T5 ho h2 s2 A1
        generalize Dp.pass fn (Sn.and ref rd) (Sn.and old rd) = B at *
        cases B
        all_goals
          go_enter Try.func3, Try.ntmps3
          go_upto_region 9 with (first   | go_skip   | ((with_reducible show wpList _ _ _ ({ dst := _, op := Op.load 23 _, type := _, pos := _, after := _, guard := _ } :: _) _ _); refine wpList_ldr ty_sten rfl _ rfl _ rfl _ rfl (HO.out.at 0 rfl) ?_)   | (go_at_call 6; (with_reducible refine (T1 _).mono ?_); rintro e w1 ⟨rfl, hk1⟩; have l2 := HO.out.call hk1; clear HO hk1; have HO := Lib.hid l2; clear l2)   | (go_at_call 6; (with_reducible refine (T2 _).mono ?_); rintro e w1 ⟨rfl, hk1⟩; have l2 := HO.out.call hk1; clear HO hk1; have HO := Lib.hid l2; clear l2)   | (go_at_call 7; refine (C1 _).mono ?_; rintro e w1 ⟨rfl, hk1⟩; have l2 := HO.out.call hk1; clear HO hk1; have HO := Lib.hid l2; clear l2)   | (go_at_call 8; refine (C2 _).mono ?_; rintro e w1 ⟨rfl, hk1⟩; have l2 := HO.out.call hk1; clear HO hk1; have HO := Lib.hid l2; clear l2)   | (go_at_call 10; refine (I1 _).mono ?_; rintro e w' ⟨rfl, rfl⟩)   | (go_at_call 12; refine (R1 _).mono ?_; rintro e w1 ⟨rfl, hk1⟩; have l2 := HO.out.call hk1; clear HO hk1; have HO := Lib.hid l2; clear l2)   | (go_at_call 9; refine (awake_any _).mono ?_; rintro e w1 ⟨rfl, hk1⟩; have l2 := HO.out.call hk1; clear HO hk1; have HO := Lib.hid l2; clear l2))
          go_quiet (first | (go_at_call 10; exact Calls.quiet_of_same ((I2 _).mono fun _ _ h => ⟨h.1, h.2.symm⟩)))
          generalize hW2 : World.drewN _ _ = W2 at *
          have l3 := HO.out
          clear HO
          have HO := Lib.hid (show Ow w W2 [(w.heap.size, [.int .i64 fn, .int .i64 ref, .int .i64 rd, .int .i64 wr, .int .i64 f, .int .i64 z, .int .i64 p])] by rw [← hW2]; exact l3.drewN _)
          clear hW2 l3
          go_wp2_with (first   | go_skip   | ((with_reducible show wpList _ _ _ ({ dst := _, op := Op.load 23 _, type := _, pos := _, after := _, guard := _ } :: _) _ _); refine wpList_ldr ty_sten rfl _ rfl _ rfl _ rfl (HO.out.at 0 rfl) ?_)   | (go_at_call 6; (with_reducible refine (T1 _).mono ?_); rintro e w1 ⟨rfl, hk1⟩; have l2 := HO.out.call hk1; clear HO hk1; have HO := Lib.hid l2; clear l2)   | (go_at_call 6; (with_reducible refine (T2 _).mono ?_); rintro e w1 ⟨rfl, hk1⟩; have l2 := HO.out.call hk1; clear HO hk1; have HO := Lib.hid l2; clear l2)   | (go_at_call 7; refine (C1 _).mono ?_; rintro e w1 ⟨rfl, hk1⟩; have l2 := HO.out.call hk1; clear HO hk1; have HO := Lib.hid l2; clear l2)   | (go_at_call 8; refine (C2 _).mono ?_; rintro e w1 ⟨rfl, hk1⟩; have l2 := HO.out.call hk1; clear HO hk1; have HO := Lib.hid l2; clear l2)   | (go_at_call 10; refine (I1 _).mono ?_; rintro e w' ⟨rfl, rfl⟩)   | (go_at_call 12; refine (R1 _).mono ?_; rintro e w1 ⟨rfl, hk1⟩; have l2 := HO.out.call hk1; clear HO hk1; have HO := Lib.hid l2; clear l2)   | (go_at_call 9; refine (awake_any _).mono ?_; rintro e w1 ⟨rfl, hk1⟩; have l2 := HO.out.call hk1; clear HO hk1; have HO := Lib.hid l2; clear l2))
          go_ret
          exact ⟨rfl, HO.out.k⟩
      · have A2 := fun W => rand_any other rd W h2 s2
        have T2 := fun W => T4 W h2
        rw [h2] at I2
        by_cases he : Sn.and other rd = Sn.and old rd
        · rw [he] at A2 T2
          clear h T0 T3 T4 T5 ho h2 s2 he
          generalize Dp.pass fn (Sn.and ref rd) (Sn.and old rd) = B at *
          generalize Sn.and old rd = M at *
          cases B
          all_goals
            go_enter Try.func3, Try.ntmps3
            go_upto_region 9 with (first   | go_skip   | ((with_reducible show wpList _ _ _ ({ dst := _, op := Op.load 23 _, type := _, pos := _, after := _, guard := _ } :: _) _ _); refine wpList_ldr ty_sten rfl _ rfl _ rfl _ rfl (HO.out.at 0 rfl) ?_)   | (go_at_call 6; (with_reducible refine (T1 _).mono ?_); rintro e w1 ⟨rfl, hk1⟩; have l2 := HO.out.call hk1; clear HO hk1; have HO := Lib.hid l2; clear l2)   | (go_at_call 6; (with_reducible refine (T2 _).mono ?_); rintro e w1 ⟨rfl, hk1⟩; have l2 := HO.out.call hk1; clear HO hk1; have HO := Lib.hid l2; clear l2)   | (go_at_call 7; refine (C1 _).mono ?_; rintro e w1 ⟨rfl, hk1⟩; have l2 := HO.out.call hk1; clear HO hk1; have HO := Lib.hid l2; clear l2)   | (go_at_call 8; refine (C2 _).mono ?_; rintro e w1 ⟨rfl, hk1⟩; have l2 := HO.out.call hk1; clear HO hk1; have HO := Lib.hid l2; clear l2)   | (go_at_call 10; refine (I1 _).mono ?_; rintro e w' ⟨rfl, rfl⟩)   | (go_at_call 12; refine (R1 _).mono ?_; rintro e w1 ⟨rfl, hk1⟩; have l2 := HO.out.call hk1; clear HO hk1; have HO := Lib.hid l2; clear l2)   | (go_at_call 9; refine (awake_any _).mono ?_; rintro e w1 ⟨rfl, hk1⟩; have l2 := HO.out.call hk1; clear HO hk1; have HO := Lib.hid l2; clear l2))
            have c2 := (HO.out.at 0 rfl).cell 2 rfl
            go_quiet (first
              | (go_at_call 10; exact Calls.quiet_of_same ((I2 _).mono fun _ _ h => ⟨h.1, h.2.symm⟩))
              | (go_at_call 11; with_reducible exact Calls.quiet_of_same ((A1 _).mono fun _ _ h => ⟨h.1, h.2.symm⟩))
              | (go_at_call 11; with_reducible exact Calls.quiet_of_same ((A2 _).mono fun _ _ h => ⟨h.1, h.2.symm⟩)))
            clear c2
            generalize hW2 : World.drewN _ _ = W2 at *
            have l3 := HO.out
            clear HO
            have HO := Lib.hid (show Ow w W2 [(w.heap.size, [.int .i64 fn, .int .i64 ref, .int .i64 rd, .int .i64 wr, .int .i64 f, .int .i64 z, .int .i64 p])] by rw [← hW2]; exact l3.drewN _)
            clear hW2 l3
            go_wp2_with (first   | go_skip   | ((with_reducible show wpList _ _ _ ({ dst := _, op := Op.load 23 _, type := _, pos := _, after := _, guard := _ } :: _) _ _); refine wpList_ldr ty_sten rfl _ rfl _ rfl _ rfl (HO.out.at 0 rfl) ?_)   | (go_at_call 6; (with_reducible refine (T1 _).mono ?_); rintro e w1 ⟨rfl, hk1⟩; have l2 := HO.out.call hk1; clear HO hk1; have HO := Lib.hid l2; clear l2)   | (go_at_call 6; (with_reducible refine (T2 _).mono ?_); rintro e w1 ⟨rfl, hk1⟩; have l2 := HO.out.call hk1; clear HO hk1; have HO := Lib.hid l2; clear l2)   | (go_at_call 7; refine (C1 _).mono ?_; rintro e w1 ⟨rfl, hk1⟩; have l2 := HO.out.call hk1; clear HO hk1; have HO := Lib.hid l2; clear l2)   | (go_at_call 8; refine (C2 _).mono ?_; rintro e w1 ⟨rfl, hk1⟩; have l2 := HO.out.call hk1; clear HO hk1; have HO := Lib.hid l2; clear l2)   | (go_at_call 10; refine (I1 _).mono ?_; rintro e w' ⟨rfl, rfl⟩)   | (go_at_call 12; refine (R1 _).mono ?_; rintro e w1 ⟨rfl, hk1⟩; have l2 := HO.out.call hk1; clear HO hk1; have HO := Lib.hid l2; clear l2)   | (go_at_call 9; refine (awake_any _).mono ?_; rintro e w1 ⟨rfl, hk1⟩; have l2 := HO.out.call hk1; clear HO hk1; have HO := Lib.hid l2; clear l2))
            go_ret
            exact ⟨rfl, HO.out.k⟩
        · have hd : (Sn.and old rd == Sn.and other rd) = false := by simpa using fun e => he e.symm
          clear h T0 T3 T4 T5 ho h2 s2 he
          generalize Dp.pass fn (Sn.and ref rd) (Sn.and old rd) = B at *
          generalize Sn.and old rd = M at *
          generalize Sn.and other rd = N at *
          cases B
          all_goals
            go_enter Try.func3, Try.ntmps3
            go_upto_region 9 with (first   | go_skip   | ((with_reducible show wpList _ _ _ ({ dst := _, op := Op.load 23 _, type := _, pos := _, after := _, guard := _ } :: _) _ _); refine wpList_ldr ty_sten rfl _ rfl _ rfl _ rfl (HO.out.at 0 rfl) ?_)   | (go_at_call 6; (with_reducible refine (T1 _).mono ?_); rintro e w1 ⟨rfl, hk1⟩; have l2 := HO.out.call hk1; clear HO hk1; have HO := Lib.hid l2; clear l2)   | (go_at_call 6; (with_reducible refine (T2 _).mono ?_); rintro e w1 ⟨rfl, hk1⟩; have l2 := HO.out.call hk1; clear HO hk1; have HO := Lib.hid l2; clear l2)   | (go_at_call 7; refine (C1 _).mono ?_; rintro e w1 ⟨rfl, hk1⟩; have l2 := HO.out.call hk1; clear HO hk1; have HO := Lib.hid l2; clear l2)   | (go_at_call 8; refine (C2 _).mono ?_; rintro e w1 ⟨rfl, hk1⟩; have l2 := HO.out.call hk1; clear HO hk1; have HO := Lib.hid l2; clear l2)   | (go_at_call 10; refine (I1 _).mono ?_; rintro e w' ⟨rfl, rfl⟩)   | (go_at_call 12; refine (R1 _).mono ?_; rintro e w1 ⟨rfl, hk1⟩; have l2 := HO.out.call hk1; clear HO hk1; have HO := Lib.hid l2; clear l2)   | (go_at_call 9; refine (awake_any _).mono ?_; rintro e w1 ⟨rfl, hk1⟩; have l2 := HO.out.call hk1; clear HO hk1; have HO := Lib.hid l2; clear l2))
            have c2 := (HO.out.at 0 rfl).cell 2 rfl
            go_quiet (first
              | (go_at_call 10; exact Calls.quiet_of_same ((I2 _).mono fun _ _ h => ⟨h.1, h.2.symm⟩))
              | (go_at_call 11; with_reducible exact Calls.quiet_of_same ((A1 _).mono fun _ _ h => ⟨h.1, h.2.symm⟩))
              | (go_at_call 11; with_reducible exact Calls.quiet_of_same ((A2 _).mono fun _ _ h => ⟨h.1, h.2.symm⟩)))
            clear c2
            generalize hW2 : World.drewN _ _ = W2 at *
            have l3 := HO.out
            clear HO
            have HO := Lib.hid (show Ow w W2 [(w.heap.size, [.int .i64 fn, .int .i64 ref, .int .i64 rd, .int .i64 wr, .int .i64 f, .int .i64 z, .int .i64 p])] by rw [← hW2]; exact l3.drewN _)
            clear hW2 l3
            go_wp2_with (first   | go_skip   | ((with_reducible show wpList _ _ _ ({ dst := _, op := Op.load 23 _, type := _, pos := _, after := _, guard := _ } :: _) _ _); refine wpList_ldr ty_sten rfl _ rfl _ rfl _ rfl (HO.out.at 0 rfl) ?_)   | (go_at_call 6; (with_reducible refine (T1 _).mono ?_); rintro e w1 ⟨rfl, hk1⟩; have l2 := HO.out.call hk1; clear HO hk1; have HO := Lib.hid l2; clear l2)   | (go_at_call 6; (with_reducible refine (T2 _).mono ?_); rintro e w1 ⟨rfl, hk1⟩; have l2 := HO.out.call hk1; clear HO hk1; have HO := Lib.hid l2; clear l2)   | (go_at_call 7; refine (C1 _).mono ?_; rintro e w1 ⟨rfl, hk1⟩; have l2 := HO.out.call hk1; clear HO hk1; have HO := Lib.hid l2; clear l2)   | (go_at_call 8; refine (C2 _).mono ?_; rintro e w1 ⟨rfl, hk1⟩; have l2 := HO.out.call hk1; clear HO hk1; have HO := Lib.hid l2; clear l2)   | (go_at_call 10; refine (I1 _).mono ?_; rintro e w' ⟨rfl, rfl⟩)   | (go_at_call 12; refine (R1 _).mono ?_; rintro e w1 ⟨rfl, hk1⟩; have l2 := HO.out.call hk1; clear HO hk1; have HO := Lib.hid l2; clear l2)   | (go_at_call 9; refine (awake_any _).mono ?_; rintro e w1 ⟨rfl, hk1⟩; have l2 := HO.out.call hk1; clear HO hk1; have HO := Lib.hid l2; clear l2))
            go_ret
            exact ⟨rfl, HO.out.k⟩
  · have T1 := fun W => test_no1 fn ref rd wr f z p old W h
    have T2 := T1
    have R1 := T1
    have I1 := fun W => rsten_any old W
    have hd : (Sn.chk fn ref rd wr f z p != 0) = true := by simpa using h
    clear h
    generalize Sn.chk fn ref rd wr f z p = C at *
    go_enter Try.func3, Try.ntmps3
    go_wp2_with (first   | go_skip   | ((with_reducible show wpList _ _ _ ({ dst := _, op := Op.load 23 _, type := _, pos := _, after := _, guard := _ } :: _) _ _); refine wpList_ldr ty_sten rfl _ rfl _ rfl _ rfl (HO.out.at 0 rfl) ?_)   | (go_at_call 6; (with_reducible refine (T1 _).mono ?_); rintro e w1 ⟨rfl, hk1⟩; have l2 := HO.out.call hk1; clear HO hk1; have HO := Lib.hid l2; clear l2)   | (go_at_call 6; (with_reducible refine (T2 _).mono ?_); rintro e w1 ⟨rfl, hk1⟩; have l2 := HO.out.call hk1; clear HO hk1; have HO := Lib.hid l2; clear l2)   | (go_at_call 7; refine (C1 _).mono ?_; rintro e w1 ⟨rfl, hk1⟩; have l2 := HO.out.call hk1; clear HO hk1; have HO := Lib.hid l2; clear l2)   | (go_at_call 8; refine (C2 _).mono ?_; rintro e w1 ⟨rfl, hk1⟩; have l2 := HO.out.call hk1; clear HO hk1; have HO := Lib.hid l2; clear l2)   | (go_at_call 10; refine (I1 _).mono ?_; rintro e w' ⟨rfl, rfl⟩)   | (go_at_call 12; refine (R1 _).mono ?_; rintro e w1 ⟨rfl, hk1⟩; have l2 := HO.out.call hk1; clear HO hk1; have HO := Lib.hid l2; clear l2)   | (go_at_call 9; refine (awake_any _).mono ?_; rintro e w1 ⟨rfl, hk1⟩; have l2 := HO.out.call hk1; clear HO hk1; have HO := Lib.hid l2; clear l2))
    go_ret
    exact ⟨rfl, HO.out.k⟩
end Go.Proofs.Ytnfkbbecanhdbaa
