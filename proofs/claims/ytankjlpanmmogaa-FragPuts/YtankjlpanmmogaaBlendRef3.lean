/-
  The document's own answers for layer 7 (blend): Mix.
-/
import Derived.Test.YtankjlpanmmogaaBlendRef2
namespace Go.Proofs.Ytankjlpanmmogaa
set_option maxRecDepth 100000
open Go.RowKit

/-- the document's bits of a mask -/
theorem Bn.rbits {m : Int} (h : Bn.am 16 m = true) :
    (m % 2 == 1) = decide (m / 1 % 2 = 1) ∧ (m / 2 % 2 == 1) = decide (m / 2 % 2 = 1) ∧ (m / 4 % 2 == 1) = decide (m / 4 % 2 = 1) ∧ (m / 8 == 1) = decide (m / 8 % 2 = 1) := by
  have := Bn.am_iff.1 h
  obtain rfl | rfl | rfl | rfl | rfl | rfl | rfl | rfl | rfl | rfl | rfl | rfl | rfl | rfl | rfl | rfl : m = 0 ∨ m = 1 ∨ m = 2 ∨ m = 3 ∨ m = 4 ∨ m = 5 ∨ m = 6 ∨ m = 7 ∨ m = 8 ∨ m = 9 ∨ m = 10 ∨ m = 11 ∨ m = 12 ∨ m = 13 ∨ m = 14 ∨ m = 15 := by omega
  all_goals decide
set_option maxRecDepth 100000 in
set_option maxHeartbeats 4000000 in
theorem rmix_any (s d q m r g b a r' g' b' a' : Int) (w : World) (hc : (Bn.chk s d q m != 0) = false) (h : Tn.right r g b a = true) (h' : Tn.right r' g' b' a' = true) :
    Calls Try.prog 34 #[.agg #[.int .i64 s, .int .i64 d, .int .i64 q, .int .i64 m], .agg #[.int .i64 r, .int .i64 g, .int .i64 b, .int .i64 a], .agg #[.int .i64 (r'), .int .i64 (g'), .int .i64 (b'), .int .i64 (a')]] w fun e w' => e = .returned (.agg #[.int .i64 (Bn.wr m 1 (Bn.mx s d q r r' a a') r'), .int .i64 (Bn.wr m 2 (Bn.mx s d q g g' a a') g'), .int .i64 (Bn.wr m 4 (Bn.mx s d q b b' a a') b'), .int .i64 (Bn.wr m 8 (Bn.mx s d q a a' a a') a')]) ∧ Kp w.heap.size w w' := by
  have HS := Lib.hid (Bn.chk_yes hc)
  have HH := Lib.hid (Tn.chs2 h h')
  have HM := Lib.hid (Bn.rbits HS.out.2.2.2)
  obtain ⟨m1, m2⟩ := Bn.am_iff.1 HS.out.2.2.2
  clear hc h h'
  have HO := Lib.hid (((((Ow.refl w).newAt w.heap.size rfl (.int .i64 s) [.int .i64 d, .int .i64 q, .int .i64 m] 35).newAt (w.heap.size + 1) (by simp) (.int .i64 r) [.int .i64 g, .int .i64 b, .int .i64 a] 23).newAt (w.heap.size + 2) (by simp) (.int .i64 r') [.int .i64 g', .int .i64 b', .int .i64 a'] 23).newAt (w.heap.size + 3) (by simp) (.int .i64 0) [.int .i64 0, .int .i64 0, .int .i64 0] 23)
  have HO5 := Lib.hid (HO.out.newAt (w.heap.size + 4) (by simp) (.int .i64 r') [.int .i64 g', .int .i64 b', .int .i64 a'] 23)
  go_enter Try.func34, Try.ntmps34
  go_upto_region 2 with (first | ((with_reducible show wpList _ _ _ ({ dst := _, op := Op.load 23 _, type := _, pos := _, after := _, guard := _ } :: _) _ _); refine wpList_ldr ty_color rfl _ rfl _ rfl _ rfl (HO.out.at 1 rfl) ?_))
  clear HO
  have HO := HO5
  clear HO5
  generalize hW : ((((w.alloc _).alloc _).alloc _).alloc _).alloc _ = W at *
  clear hW
  have c3 := (HO.out.at 4 rfl).cell 3 rfl
  go_upto_if 12 with fail
  go_cut [] (fun wx => Ow w wx ((w.heap.size + 4, [.int .i64 (Bn.wr m 1 (Bn.mx s d q r r' a a') r'), .int .i64 g', .int .i64 b', .int .i64 a']) :: Xb w s d q m r g b a r' g' b' a'))
  case first =>
    have x0 := (HO.out.at 3 rfl).cell 0 rfl
    have x3 := (HO.out.at 3 rfl).cell 3 rfl
    have y0 := (HO.out.at 2 rfl).cell 0 rfl
    have y3 := (HO.out.at 2 rfl).cell 3 rfl
    cases hq : ((HMod.hMod m (2 : Int) : Int) == 1)
    · have HB := Lib.hid (show Bn.wr m 1 (Bn.mx s d q r r' a a') r' = r' by unfold Bn.wr; rw [if_neg (of_decide_eq_false (HM.out.1.symm.trans hq))])
      go_wp2_with fail
      go_meet
      rw [HB.out]
      exact HO.out
    · have HB := Lib.hid (show Bn.wr m 1 (Bn.mx s d q r r' a a') r' = Bn.mx s d q r r' a a' by unfold Bn.wr; rw [if_pos (of_decide_eq_true (HM.out.1.symm.trans hq))])
      go_wp2_with (first | ((with_reducible show wpList _ _ _ ({ dst := _, op := Op.load 35 _, type := _, pos := _, after := _, guard := _ } :: _) _ _); refine wpList_ldr ty_blend rfl _ rfl _ rfl _ rfl (HO.out.at 4 rfl) ?_) | (go_at_call 57; refine (rchannel_any s d q m r r' a a' _ HS.out.1 HS.out.2.1 HS.out.2.2.1 HH.out.1.1 HH.out.1.2 HH.out.2.2.2.1 HH.out.2.2.2.2).mono ?_; rintro e w1 ⟨rfl, hk⟩; have l2 := HO.out.call hk; clear HO hk; have HO := Lib.hid l2; clear l2; have e0 := (HO.out.at 0 rfl).cell 0 rfl; have f0 := (HO.out.at 0 rfl).froz 0 (by simp)))
      go_meet
      rw [HB.out]
      exact HO.out.put1 0 rfl 0 (by simp) _
  case rest =>
    have hcut2 := hcut
    clear HO hcut c3
    have HO := Lib.hid hcut2
    clear hcut2
    have c3 := (HO.out.at 4 rfl).cell 3 rfl
    go_upto_if 28 with fail
    go_cut [] (fun wx => Ow w wx ((w.heap.size + 4, [.int .i64 (Bn.wr m 1 (Bn.mx s d q r r' a a') r'), .int .i64 (Bn.wr m 2 (Bn.mx s d q g g' a a') g'), .int .i64 b', .int .i64 a']) :: Xb w s d q m r g b a r' g' b' a'))
    case first =>
      have x0 := (HO.out.at 3 rfl).cell 1 rfl
      have x3 := (HO.out.at 3 rfl).cell 3 rfl
      have y0 := (HO.out.at 2 rfl).cell 1 rfl
      have y3 := (HO.out.at 2 rfl).cell 3 rfl
      cases hq : ((HMod.hMod (m / 2) (2 : Int) : Int) == 1)
      · have HB := Lib.hid (show Bn.wr m 2 (Bn.mx s d q g g' a a') g' = g' by unfold Bn.wr; rw [if_neg (of_decide_eq_false (HM.out.2.1.symm.trans hq))])
        go_wp2_with fail
        go_meet
        rw [HB.out]
        exact HO.out
      · have HB := Lib.hid (show Bn.wr m 2 (Bn.mx s d q g g' a a') g' = Bn.mx s d q g g' a a' by unfold Bn.wr; rw [if_pos (of_decide_eq_true (HM.out.2.1.symm.trans hq))])
        go_wp2_with (first | ((with_reducible show wpList _ _ _ ({ dst := _, op := Op.load 35 _, type := _, pos := _, after := _, guard := _ } :: _) _ _); refine wpList_ldr ty_blend rfl _ rfl _ rfl _ rfl (HO.out.at 4 rfl) ?_) | (go_at_call 57; refine (rchannel_any s d q m g g' a a' _ HS.out.1 HS.out.2.1 HS.out.2.2.1 HH.out.2.1.1 HH.out.2.1.2 HH.out.2.2.2.1 HH.out.2.2.2.2).mono ?_; rintro e w1 ⟨rfl, hk⟩; have l2 := HO.out.call hk; clear HO hk; have HO := Lib.hid l2; clear l2; have e0 := (HO.out.at 0 rfl).cell 1 rfl; have f0 := (HO.out.at 0 rfl).froz 1 (by simp)))
        go_meet
        rw [HB.out]
        exact HO.out.put1 0 rfl 1 (by simp) _
    case rest =>
      have hcut2 := hcut
      clear HO hcut c3
      have HO := Lib.hid hcut2
      clear hcut2
      have c3 := (HO.out.at 4 rfl).cell 3 rfl
      go_upto_if 44 with fail
      go_cut [] (fun wx => Ow w wx ((w.heap.size + 4, [.int .i64 (Bn.wr m 1 (Bn.mx s d q r r' a a') r'), .int .i64 (Bn.wr m 2 (Bn.mx s d q g g' a a') g'), .int .i64 (Bn.wr m 4 (Bn.mx s d q b b' a a') b'), .int .i64 a']) :: Xb w s d q m r g b a r' g' b' a'))
      case first =>
        have x0 := (HO.out.at 3 rfl).cell 2 rfl
        have x3 := (HO.out.at 3 rfl).cell 3 rfl
        have y0 := (HO.out.at 2 rfl).cell 2 rfl
        have y3 := (HO.out.at 2 rfl).cell 3 rfl
        cases hq : ((HMod.hMod (m / 4) (2 : Int) : Int) == 1)
        · have HB := Lib.hid (show Bn.wr m 4 (Bn.mx s d q b b' a a') b' = b' by unfold Bn.wr; rw [if_neg (of_decide_eq_false (HM.out.2.2.1.symm.trans hq))])
          go_wp2_with fail
          go_meet
          rw [HB.out]
          exact HO.out
        · have HB := Lib.hid (show Bn.wr m 4 (Bn.mx s d q b b' a a') b' = Bn.mx s d q b b' a a' by unfold Bn.wr; rw [if_pos (of_decide_eq_true (HM.out.2.2.1.symm.trans hq))])
          go_wp2_with (first | ((with_reducible show wpList _ _ _ ({ dst := _, op := Op.load 35 _, type := _, pos := _, after := _, guard := _ } :: _) _ _); refine wpList_ldr ty_blend rfl _ rfl _ rfl _ rfl (HO.out.at 4 rfl) ?_) | (go_at_call 57; refine (rchannel_any s d q m b b' a a' _ HS.out.1 HS.out.2.1 HS.out.2.2.1 HH.out.2.2.1.1 HH.out.2.2.1.2 HH.out.2.2.2.1 HH.out.2.2.2.2).mono ?_; rintro e w1 ⟨rfl, hk⟩; have l2 := HO.out.call hk; clear HO hk; have HO := Lib.hid l2; clear l2; have e0 := (HO.out.at 0 rfl).cell 2 rfl; have f0 := (HO.out.at 0 rfl).froz 2 (by simp)))
          go_meet
          rw [HB.out]
          exact HO.out.put1 0 rfl 2 (by simp) _
      case rest =>
        have hcut2 := hcut
        clear HO hcut c3
        have HO := Lib.hid hcut2
        clear hcut2
        have c3 := (HO.out.at 4 rfl).cell 3 rfl
        go_upto_if 59 with fail
        go_cut [] (fun wx => Ow w wx ((w.heap.size + 4, [.int .i64 (Bn.wr m 1 (Bn.mx s d q r r' a a') r'), .int .i64 (Bn.wr m 2 (Bn.mx s d q g g' a a') g'), .int .i64 (Bn.wr m 4 (Bn.mx s d q b b' a a') b'), .int .i64 (Bn.wr m 8 (Bn.mx s d q a a' a a') a')]) :: Xb w s d q m r g b a r' g' b' a'))
        case first =>
          have x0 := (HO.out.at 3 rfl).cell 3 rfl
          have x3 := (HO.out.at 3 rfl).cell 3 rfl
          have y0 := (HO.out.at 2 rfl).cell 3 rfl
          have y3 := (HO.out.at 2 rfl).cell 3 rfl
          cases hq : (m / 8 == 1)
          · have HB := Lib.hid (show Bn.wr m 8 (Bn.mx s d q a a' a a') a' = a' by unfold Bn.wr; rw [if_neg (of_decide_eq_false (HM.out.2.2.2.symm.trans hq))])
            go_wp2_with fail
            go_meet
            rw [HB.out]
            exact HO.out
          · have HB := Lib.hid (show Bn.wr m 8 (Bn.mx s d q a a' a a') a' = Bn.mx s d q a a' a a' by unfold Bn.wr; rw [if_pos (of_decide_eq_true (HM.out.2.2.2.symm.trans hq))])
            go_wp2_with (first | ((with_reducible show wpList _ _ _ ({ dst := _, op := Op.load 35 _, type := _, pos := _, after := _, guard := _ } :: _) _ _); refine wpList_ldr ty_blend rfl _ rfl _ rfl _ rfl (HO.out.at 4 rfl) ?_) | (go_at_call 57; refine (rchannel_any s d q m a a' a a' _ HS.out.1 HS.out.2.1 HS.out.2.2.1 HH.out.2.2.2.1 HH.out.2.2.2.2 HH.out.2.2.2.1 HH.out.2.2.2.2).mono ?_; rintro e w1 ⟨rfl, hk⟩; have l2 := HO.out.call hk; clear HO hk; have HO := Lib.hid l2; clear l2; have e0 := (HO.out.at 0 rfl).cell 3 rfl; have f0 := (HO.out.at 0 rfl).froz 3 (by simp)))
            go_meet
            rw [HB.out]
            exact HO.out.put1 0 rfl 3 (by simp) _
        case rest =>
          have hcut2 := hcut
          clear HO hcut c3
          have HO := Lib.hid hcut2
          clear hcut2
          go_wp2_with (first | ((with_reducible show wpList _ _ _ ({ dst := _, op := Op.load 23 _, type := _, pos := _, after := _, guard := _ } :: _) _ _); refine wpList_ldr ty_color rfl _ rfl _ rfl _ rfl (HO.out.at 0 rfl) ?_) | ((with_reducible show wpList _ _ _ ({ dst := _, op := Op.store 23 _ _, type := _, pos := _, after := _, guard := _ } :: _) _ _); refine wpList_sto ty_color HO.out 1 [.int .i64 (Bn.wr m 1 (Bn.mx s d q r r' a a') r'), .int .i64 (Bn.wr m 2 (Bn.mx s d q g g' a a') g'), .int .i64 (Bn.wr m 4 (Bn.mx s d q b b' a a') b'), .int .i64 (Bn.wr m 8 (Bn.mx s d q a a' a a') a')] rfl _ _ rfl _ rfl rfl _ rfl rfl rfl rfl ?_; intro w2 l2; clear HO; have HO := Lib.hid l2; clear l2))
          exact bodyPost_ret (results_c ty_color rfl rfl rfl (HO.out.at 1 rfl)) rfl ⟨rfl, HO.out.k⟩
end Go.Proofs.Ytankjlpanmmogaa
