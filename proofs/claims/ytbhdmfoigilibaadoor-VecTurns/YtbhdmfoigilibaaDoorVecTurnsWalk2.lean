/-
  VecTurns: its Go text returns true, where the vector may be.
-/
import Derived.Test.YtbhdmfoigilibaaDoorVecTurnsWalk
namespace Go.Proofs.YtbhdmfoigilibaaDoor
open Go.RowKit

set_option maxRecDepth 100000 in
set_option maxHeartbeats 4000000 in
theorem turns_yes (ax r : Nat) (q : Int) (v : Nat → Int) (w : World) (ha : ax < 3) (hr : r < 4) (hq : q % 4 = r) (hq1 : -9223372036854775808 ≤ q) (hq2 : q ≤ 9223372036854775807) (hs : Sn w) (hv : Vc.wi 1073741824 v 4 = true) :
    Calls Tryd.prog 3 #[.int .i64 ax, .int .i64 q, .agg #[.int .i64 (v 0), .int .i64 (v 1), .int .i64 (v 2), .int .i64 (v 3)]] w fun e w' => e = .returned (.bool true) ∧ Kp w.heap.size w w' := by
  have HL := Lib.hid (Tn.new w v 23 hs)
  have HQ := Lib.hid hq
  have HV := Lib.hid (Vc.wi_all hv)
  have hE := run_eqV
  have hd1 : decide ((ax : Int) < 0) = false := decide_eq_false (by omega)
  have hd2 : decide ((2 : Int) < ax) = false := decide_eq_false (by omega)
  clear hs hq
  go_enter Tryd.func3, Tryd.ntmps3
  go_upto_region 5 with (first | go_skip | (go_at_call 4; refine (turn_yes ax r q _ ha hr HQ.out HL.out.s).mono ?_; rintro e w1 ⟨rfl, hk⟩; have l2 := HL.out.call hk; clear hk; clear HL; have HL := Lib.hid l2; clear l2) | ((with_reducible show wpList _ _ _ ({ dst := _, op := Op.store 25 _ _, type := _, pos := _, after := _, guard := _ } :: _) _ _); refine wpList_st rfl _ _ rfl _ rfl _ rfl (f := fun _ => 0) ?_ ?_; (exact Rw.zero16 w1 _ rfl); intro w2 hr2 hs2; have l2 := HL.out.putM hs2 hr2; clear hr2 hs2; clear HL; have HL := Lib.hid l2; clear l2) | ((with_reducible show wpList _ _ _ ({ dst := _, op := Op.load 25 _, type := _, pos := _, after := _, guard := _ } :: _) _ _); refine wpList_ldg rfl _ rfl _ rfl (Vc.turn ax r) ?_ ?_; (exact HL.out.m1)) | ((with_reducible show wpList _ _ _ ({ dst := _, op := Op.load 23 _, type := _, pos := _, after := _, guard := _ } :: _) _ _); refine wpList_ld4g four_vec rfl _ rfl _ rfl v ?_ ?_; (exact HL.out.v)) | (go_at_call 6; refine (apply_turn v _ ha hr hv).mono ?_; rintro e w4 ⟨rfl, hk⟩; have l2 := (HL.out.call hk).putV (Vc.trnN ax r v) 23; clear hk; clear HL; have HL := Lib.hid l2; clear l2))
  generalize hW : w4.alloc _ = W4 at *
  clear hW
  go_upto_region 8 with (first | go_skip | ((with_reducible show wpList _ _ _ ({ dst := _, op := Op.load 23 _, type := _, pos := _, after := _, guard := _ } :: _) _ _); refine wpList_ld4g four_vec rfl _ rfl _ rfl v ?_ ?_; (exact HL.out.v)) | (go_at_call 7; refine (rfits_any v _).mono ?_; rintro e w6 ⟨rfl, hk⟩; have l2 := HL.out.call hk; clear hk; clear HL; have HL := Lib.hid l2; clear l2))
  have n7 : w1.heap.size < w6.heap.size := HL.out.m1.lt (by omega)
  have n9 : w4.heap.size < w6.heap.size := HL.out.v1.lt (by omega)
  have nw : w.heap.size < w6.heap.size := HL.out.v.lt (by omega)
  have n0 : 0 < w6.heap.size := HL.out.s.lt
  have N7 := Lib.hid n7
  have N9 := Lib.hid n9
  have NW := Lib.hid nw
  have N0 := Lib.hid n0
  clear n7 n9 nw n0
  have l2 := HL.out.putV v 23
  clear HL; have HL := Lib.hid l2; clear l2
  generalize hW : w6.alloc _ = W6 at *
  clear hW
  have hf1 : -9223372036854775808 ≤ 4 * (q / 4) := by omega
  have hf2 : 4 * (q / 4) ≤ 9223372036854775807 := by omega
  have hf3 : -9223372036854775808 ≤ q - 4 * (q / 4) := by omega
  have hf4 : q - 4 * (q / 4) ≤ 9223372036854775807 := by omega
  go_wp2_with fail
  go_loopw [12] (fun i wr => ∃ k : Nat, k ≤ r ∧ i = .int .i64 k ∧ Tn w wr v [(w1.heap.size, Vc.turn ax r)] [(w6.heap.size, Vc.trnN ax k v), (w4.heap.size, Vc.trnN ax r v)]) (fun i _ => r - (intOf i).toNat)
  case atStart => exact ⟨0, by omega, rfl, HL.out⟩
  case round =>
    obtain ⟨k, hk, rfl, hT⟩ := hrel
    clear HL
    have HL := Lib.hid hT
    clear hT
    by_cases hlt : k < r
    · have hlt' : (k : Int) < q - 4 * (q / 4) := by have := HQ.out; omega
      have hdt : decide ((k : Int) < q - 4 * (q / 4)) = true := decide_eq_true hlt'
      go_wp2_with (first | (go_at_call 8; refine (rfloor_pos _ _ _ ?_ ?_).mono ?_; omega; omega; rintro e w' ⟨rfl, rfl⟩) | ((with_reducible show wpList _ _ _ ({ dst := _, op := Op.load 23 _, type := _, pos := _, after := _, guard := _ } :: _) _ _); refine wpList_ld4g four_vec rfl _ rfl _ rfl (Vc.trnN ax k v) ?_ ?_; (exact HL.out.v1)) | (go_at_call 9; refine (rturned_any ax (Vc.trnN ax k v) _ ha (Vc.trnN_bd HV.out k)).mono ?_; rintro e w7 ⟨rfl, hk7⟩; have l2 := HL.out.call hk7; clear hk7; clear HL; have HL := Lib.hid l2; clear l2) | ((with_reducible show wpList _ _ _ ({ dst := _, op := Op.store 23 _ _, type := _, pos := _, after := _, guard := _ } :: _) _ _); refine wpList_st4 four_vec rfl _ _ rfl _ rfl (Vc.trn ax (Vc.trnN ax k v)) rfl (f := Vc.trnN ax k v) ?_ ?_; (exact HL.out.v1); intro w8 hr8 hs8; have l2 := HL.out.stV hs8 hr8 N7.out N9.out NW.out N0.out; clear hr8 hs8; clear HL; have HL := Lib.hid l2; clear l2))
      go_roundw
      case rel => exact ⟨k + 1, by omega, by go_num, HL.out⟩
      case measure => simp [intOf]; omega
    · obtain rfl : k = r := by omega
      have hge : ¬ ((k : Int) < q - 4 * (q / 4)) := by have := HQ.out; omega
      have hdt : decide ((k : Int) < q - 4 * (q / 4)) = false := decide_eq_false hge
      go_wp2_with (first | go_skip | (go_at_call 8; refine (rfloor_pos _ _ _ ?_ ?_).mono ?_; omega; omega; rintro e w' ⟨rfl, rfl⟩) | ((with_reducible show wpList _ _ _ ({ dst := _, op := Op.load 23 _, type := _, pos := _, after := _, guard := _ } :: _) _ _); refine wpList_ld4g four_vec rfl _ rfl _ rfl (Vc.trnN ax k v) ?_ ?_; (first | exact HL.out.v1 | exact HL.out.v2)) | (go_at_call 5; refine (awake_any _).mono ?_; rintro e w9 ⟨rfl, hk9⟩; have l2 := HL.out.call hk9; clear hk9; clear HL; have HL := Lib.hid l2; clear l2))
      go_ret
      exact ⟨rfl, HL.out.k⟩

theorem turns_walk (ax q : Int) (v : Nat → Int) (w : World) (hq1 : -9223372036854775808 ≤ q) (hq2 : q ≤ 9223372036854775807) (hs : Sn w) :
    Calls Tryd.prog 3 #[.int .i64 ax, .int .i64 q, .agg #[.int .i64 (v 0), .int .i64 (v 1), .int .i64 (v 2), .int .i64 (v 3)]] w fun e w' => e = .returned (.bool true) ∧ Kp w.heap.size w w' := by
  by_cases h : ax < 0 ∨ 2 < ax
  · exact turns_no ax q v w h hs
  · obtain ⟨a, rfl⟩ : ∃ a : Nat, ax = a := ⟨ax.toNat, by omega⟩
    have hr : q % 4 = ((q % 4).toNat : Int) := by omega
    cases hv : Vc.wi 1073741824 v 4
    · exact turns_no2 a (q % 4).toNat q v w (by omega) (by omega) hr hs hv
    · exact turns_yes a (q % 4).toNat q v w (by omega) (by omega) hr hq1 hq2 hs hv
end Go.Proofs.YtbhdmfoigilibaaDoor
