/-
  Contracts of layer 7 (blend): what a mask writes; Factor.
-/
import Derived.Test.YtankjlpanmmogaaGreatBlendSaid
namespace Go.Proofs.YtankjlpanmmogaaGreat
set_option maxRecDepth 100000
open Go.RowKit

/-- the blocks of written: the new colour, what is returned, the old one, the mixed one -/
def Wb (w : World) (c0 c1 c2 c3 r g b a r' g' b' a' : Int) : List (Nat × List Value) :=
  [(w.heap.size + 3, [.int .i64 c0, .int .i64 c1, .int .i64 c2, .int .i64 c3]), (w.heap.size + 2, [.int .i64 0, .int .i64 0, .int .i64 0, .int .i64 0]), (w.heap.size + 1, [.int .i64 r', .int .i64 g', .int .i64 b', .int .i64 a']), (w.heap.size, [.int .i64 r, .int .i64 g, .int .i64 b, .int .i64 a])]
set_option maxHeartbeats 4000000 in
theorem written_any (m r g b a r' g' b' a' : Int) (w : World) (hm : Bn.am 16 m = true) :
    Calls Tryz.prog 110 #[.int .i64 m, .agg #[.int .i64 r, .int .i64 g, .int .i64 b, .int .i64 a], .agg #[.int .i64 (r'), .int .i64 (g'), .int .i64 (b'), .int .i64 (a')]] w fun e w' => e = .returned (.agg #[.int .i64 (Bn.wr m 1 r r'), .int .i64 (Bn.wr m 2 g g'), .int .i64 (Bn.wr m 4 b b'), .int .i64 (Bn.wr m 8 a a')]) ∧ Kp w.heap.size w w' := by
  have HO := Lib.hid ((((Ow.refl w).newAt w.heap.size rfl (.int .i64 r) [.int .i64 g, .int .i64 b, .int .i64 a] 51).newAt (w.heap.size + 1) (by simp) (.int .i64 r') [.int .i64 g', .int .i64 b', .int .i64 a'] 51).newAt (w.heap.size + 2) (by simp) (.int .i64 0) [.int .i64 0, .int .i64 0, .int .i64 0] 51)
  have HO4 := Lib.hid (HO.out.newAt (w.heap.size + 3) (by simp) (.int .i64 r') [.int .i64 g', .int .i64 b', .int .i64 a'] 51)
  have HM := Lib.hid (Bn.bits m hm)
  clear hm
  go_enter Tryz.func110, Tryz.ntmps110
  go_upto_region 2 with (first | ((with_reducible show wpList _ _ _ ({ dst := _, op := Op.load 51 _, type := _, pos := _, after := _, guard := _ } :: _) _ _); refine wpList_ldr ty_color rfl _ rfl _ rfl _ rfl (HO.out.at 1 rfl) ?_))
  clear HO
  have HO := HO4
  clear HO4
  generalize hW : (((w.alloc _).alloc _).alloc _).alloc _ = W at *
  clear hW
  go_upto_if 11 with fail
  go_cut [] (fun wx => Ow w wx (Wb w (Bn.wr m 1 r r') g' b' a' r g b a r' g' b' a'))
  case first =>
    have c0 := (HO.out.at 3 rfl).cell 0 rfl
    have e0 := (HO.out.at 0 rfl).cell 0 rfl
    have f0 := (HO.out.at 0 rfl).froz 0 (by simp)
    cases hq : (bits .and .i64 m 1 != 0)
    · have HB := Lib.hid (show Bn.wr m 1 r r' = r' by unfold Bn.wr; rw [if_neg (of_decide_eq_false (HM.out.1.symm.trans hq))])
      go_wp2_with fail
      go_meet
      rw [HB.out]
      exact HO.out
    · have HB := Lib.hid (show Bn.wr m 1 r r' = r by unfold Bn.wr; rw [if_pos (of_decide_eq_true (HM.out.1.symm.trans hq))])
      go_wp2_with fail
      go_meet
      rw [HB.out]
      exact HO.out.put1 0 rfl 0 (by simp) _
  case rest =>
    have hcut2 := hcut
    clear HO hcut
    have HO := Lib.hid hcut2
    clear hcut2
    go_upto_if 17 with fail
    go_cut [] (fun wx => Ow w wx (Wb w (Bn.wr m 1 r r') (Bn.wr m 2 g g') b' a' r g b a r' g' b' a'))
    case first =>
      have c0 := (HO.out.at 3 rfl).cell 1 rfl
      have e0 := (HO.out.at 0 rfl).cell 1 rfl
      have f0 := (HO.out.at 0 rfl).froz 1 (by simp)
      cases hq : (bits .and .i64 m 2 != 0)
      · have HB := Lib.hid (show Bn.wr m 2 g g' = g' by unfold Bn.wr; rw [if_neg (of_decide_eq_false (HM.out.2.1.symm.trans hq))])
        go_wp2_with fail
        go_meet
        rw [HB.out]
        exact HO.out
      · have HB := Lib.hid (show Bn.wr m 2 g g' = g by unfold Bn.wr; rw [if_pos (of_decide_eq_true (HM.out.2.1.symm.trans hq))])
        go_wp2_with fail
        go_meet
        rw [HB.out]
        exact HO.out.put1 0 rfl 1 (by simp) _
    case rest =>
      have hcut2 := hcut
      clear HO hcut
      have HO := Lib.hid hcut2
      clear hcut2
      go_upto_if 23 with fail
      go_cut [] (fun wx => Ow w wx (Wb w (Bn.wr m 1 r r') (Bn.wr m 2 g g') (Bn.wr m 4 b b') a' r g b a r' g' b' a'))
      case first =>
        have c0 := (HO.out.at 3 rfl).cell 2 rfl
        have e0 := (HO.out.at 0 rfl).cell 2 rfl
        have f0 := (HO.out.at 0 rfl).froz 2 (by simp)
        cases hq : (bits .and .i64 m 4 != 0)
        · have HB := Lib.hid (show Bn.wr m 4 b b' = b' by unfold Bn.wr; rw [if_neg (of_decide_eq_false (HM.out.2.2.1.symm.trans hq))])
          go_wp2_with fail
          go_meet
          rw [HB.out]
          exact HO.out
        · have HB := Lib.hid (show Bn.wr m 4 b b' = b by unfold Bn.wr; rw [if_pos (of_decide_eq_true (HM.out.2.2.1.symm.trans hq))])
          go_wp2_with fail
          go_meet
          rw [HB.out]
          exact HO.out.put1 0 rfl 2 (by simp) _
      case rest =>
        have hcut2 := hcut
        clear HO hcut
        have HO := Lib.hid hcut2
        clear hcut2
        go_upto_if 29 with fail
        go_cut [] (fun wx => Ow w wx (Wb w (Bn.wr m 1 r r') (Bn.wr m 2 g g') (Bn.wr m 4 b b') (Bn.wr m 8 a a') r g b a r' g' b' a'))
        case first =>
          have c0 := (HO.out.at 3 rfl).cell 3 rfl
          have e0 := (HO.out.at 0 rfl).cell 3 rfl
          have f0 := (HO.out.at 0 rfl).froz 3 (by simp)
          cases hq : (bits .and .i64 m 8 != 0)
          · have HB := Lib.hid (show Bn.wr m 8 a a' = a' by unfold Bn.wr; rw [if_neg (of_decide_eq_false (HM.out.2.2.2.symm.trans hq))])
            go_wp2_with fail
            go_meet
            rw [HB.out]
            exact HO.out
          · have HB := Lib.hid (show Bn.wr m 8 a a' = a by unfold Bn.wr; rw [if_pos (of_decide_eq_true (HM.out.2.2.2.symm.trans hq))])
            go_wp2_with fail
            go_meet
            rw [HB.out]
            exact HO.out.put1 0 rfl 3 (by simp) _
        case rest =>
          have hcut2 := hcut
          clear HO hcut
          have HO := Lib.hid hcut2
          clear hcut2
          go_wp2_with (first | ((with_reducible show wpList _ _ _ ({ dst := _, op := Op.load 51 _, type := _, pos := _, after := _, guard := _ } :: _) _ _); refine wpList_ldr ty_color rfl _ rfl _ rfl _ rfl (HO.out.at 0 rfl) ?_) | ((with_reducible show wpList _ _ _ ({ dst := _, op := Op.store 51 _ _, type := _, pos := _, after := _, guard := _ } :: _) _ _); refine wpList_sto ty_color HO.out 1 [.int .i64 (Bn.wr m 1 r r'), .int .i64 (Bn.wr m 2 g g'), .int .i64 (Bn.wr m 4 b b'), .int .i64 (Bn.wr m 8 a a')] rfl _ _ rfl _ rfl rfl _ rfl rfl rfl rfl ?_; intro w2 l2; clear HO; have HO := Lib.hid l2; clear l2))
          exact bodyPost_ret (results_c ty_color rfl rfl rfl (HO.out.at 1 rfl)) rfl ⟨rfl, HO.out.k⟩
end Go.Proofs.YtankjlpanmmogaaGreat
