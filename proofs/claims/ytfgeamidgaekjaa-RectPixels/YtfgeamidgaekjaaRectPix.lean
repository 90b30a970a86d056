/-
  Contracts of layer 10 (rect): the iterator of Pixels, gone through by what RectPixels asks of each pixel.
-/
import Derived.Test.YtfgeamidgaekjaaRectTurn
namespace Go.Proofs.Ytfgeamidgaekjaa
open Go.RowKit

/-- one that is not small has none -/
theorem px_no (x0 y0 x1 y1 : Int) (f : Value) (bp : Nat) (w0 w : World) (ms : List (Nat × List Value)) (i : Nat) (hi : ms[i]? = some (bp, [.int .i64 x0, .int .i64 y0, .int .i64 x1, .int .i64 y1])) (ho : Ow w0 w ms) (h : Rt.small x0 y0 x1 y1 = false) :
    Calls Try.prog 26 #[f, .pointer (some ⟨bp, 0, none⟩)] w fun e w' => e = .returned (.tuple #[]) ∧ Ow w0 w' ms := by
  have HO := Lib.hid ho
  clear ho
  go_enter Try.func26, Try.ntmps26
  go_wp2_with (first
    | go_skip
    | ((with_reducible show wpList _ _ _ ({ dst := _, op := Op.load 23 _, type := _, pos := _, after := _, guard := _ } :: _) _ _); refine wpList_ldr ty_rect rfl _ rfl _ rfl _ rfl (HO.out.at i hi) ?_)
    | (go_at_call 25; refine (small_any x0 y0 x1 y1 _).mono ?_; rintro e w1 ⟨rfl, hk1⟩; have l2 := HO.out.call hk1; clear HO hk1; have HO := Lib.hid l2; clear l2))
  first | refine bodyPost_ret (results_none rfl _ _ _) rfl ?_ | refine bodyPost_end (results_none rfl _ _ _) rfl ?_
  exact ⟨rfl, HO.out⟩

/-- so many were asked, behind the rows ahead of y, behind the columns ahead of x -/
def RI (w0 : World) (bo bi bn bw br bs bp : Nat) (x0 y0 x1 y1 n ww stop : Int) (y : Value) (wr : World) : Prop :=
  ∃ Y K : Int, y = .int .i64 Y ∧ Hid (y0 ≤ Y ∧ Y ≤ y1 ∧ K = (Y - y0) * ww ∧ K ≤ stop) ∧ Ow w0 wr (Pb bo bi bn bw br bs bp x0 y0 x1 y1 n ww stop K)
def CI (w0 : World) (bo bi bn bw br bs bp : Nat) (x0 y0 x1 y1 n ww stop Y : Int) (x : Value) (wr : World) : Prop :=
  ∃ X K : Int, x = .int .i64 X ∧ Hid (x0 ≤ X ∧ X ≤ x1 ∧ K = (Y - y0) * ww + (X - x0) ∧ K ≤ stop) ∧ Ow w0 wr (Pb bo bi bn bw br bs bp x0 y0 x1 y1 n ww stop K)
def msrZ (z : Int) (v : Value) : Nat := (z - intOf v).toNat
set_option linter.unusedSimpArgs false in
set_option maxHeartbeats 8000000 in
theorem px_yes (bo bi bn bw br bs bp : Nat) (x0 y0 x1 y1 stop : Int) (w0 w : World) (ho : Ow w0 w (Pb bo bi bn bw br bs bp x0 y0 x1 y1 (Rt.area x0 y0 x1 y1) (x1 - x0) stop 0)) (h : Rt.small x0 y0 x1 y1 = true) (hs : 0 ≤ stop ∧ stop ≤ 255) :
    Calls Try.prog 26 #[.func (Fn.func 21) #[] #[.pointer (some ⟨bo, 0, none⟩), .pointer (some ⟨bi, 0, none⟩), .pointer (some ⟨bn, 0, none⟩), .pointer (some ⟨br, 0, none⟩), .pointer (some ⟨bw, 0, none⟩), .pointer (some ⟨bs, 0, none⟩)], .pointer (some ⟨bp, 0, none⟩)] w
      fun e w' => e = .returned (.tuple #[]) ∧ Ow w0 w' (Pb bo bi bn bw br bs bp x0 y0 x1 y1 (Rt.area x0 y0 x1 y1) (x1 - x0) stop (Rt.mn (Rt.area x0 y0 x1 y1) (stop + 1))) := by
  cases h1 : Rt.emp x0 y0 x1 y1
  rotate_left
  · have HA := Lib.hid (show Rt.mn (Rt.area x0 y0 x1 y1) (stop + 1) = 0 by rw [show Rt.area x0 y0 x1 y1 = 0 by simp [Rt.area, h1]]; exact (Rt.mn_eq (.inl ⟨rfl, by omega⟩)).symm)
    have HO := Lib.hid ho
    clear ho
    go_enter Try.func26, Try.ntmps26
    go_wp2_with (first   | go_skip   | ((with_reducible show wpList _ _ _ ({ dst := _, op := Op.load 23 _, type := _, pos := _, after := _, guard := _ } :: _) _ _); refine wpList_ldr ty_rect rfl _ rfl _ rfl _ rfl (HO.out.at 6 rfl) ?_)   | (go_at_call 25; refine (small_any x0 y0 x1 y1 _).mono ?_; rintro e w1 ⟨rfl, hk1⟩; have l2 := HO.out.call hk1; clear HO hk1; have HO := Lib.hid l2; clear l2)   | (go_at_call 10; refine (empty_any x0 y0 x1 y1 _).mono ?_; rintro e w1 ⟨rfl, hk1⟩; have l2 := HO.out.call hk1; clear HO hk1; have HO := Lib.hid l2; clear l2))
    first | refine bodyPost_ret (results_none rfl _ _ _) rfl ?_ | refine bodyPost_end (results_none rfl _ _ _) rfl ?_
    exact ⟨rfl, by rw [HA.out]; exact HO.out⟩
  · have hA : Rt.area x0 y0 x1 y1 = (x1 - x0) * (y1 - y0) := by simp [Rt.area, h1]
    have HS := Lib.hid (Rt.sides h h1)
    have HB := Lib.hid (Rt.small_iff.1 h)
    generalize Rt.area x0 y0 x1 y1 = n at *
    generalize hww : x1 - x0 = ww at *
    have HN := Lib.hid hA
    have HX := Lib.hid hww
    have HT := Lib.hid hs
    have HO := Lib.hid ho
    clear hA hww hs ho
    go_enter Try.func26, Try.ntmps26
    go_upto_region 1 with (first   | go_skip   | ((with_reducible show wpList _ _ _ ({ dst := _, op := Op.load 23 _, type := _, pos := _, after := _, guard := _ } :: _) _ _); refine wpList_ldr ty_rect rfl _ rfl _ rfl _ rfl (HO.out.at 6 rfl) ?_)   | (go_at_call 25; refine (small_any x0 y0 x1 y1 _).mono ?_; rintro e w1 ⟨rfl, hk1⟩; have l2 := HO.out.call hk1; clear HO hk1; have HO := Lib.hid l2; clear l2)   | (go_at_call 10; refine (empty_any x0 y0 x1 y1 _).mono ?_; rintro e w1 ⟨rfl, hk1⟩; have l2 := HO.out.call hk1; clear HO hk1; have HO := Lib.hid l2; clear l2))
    have cy := (HO.out.at 6 rfl).cell 1 rfl
    go_wp2_with fail
    clear cy
    go_loopw [3] (fun y wr => RI w0 bo bi bn bw br bs bp x0 y0 x1 y1 n ww stop y wr) (fun y _ => msrZ y1 y)
    case atStart => exact ⟨y0, 0, rfl, Lib.hid ⟨by omega, by have := HS.out; omega, by simp, HT.out.1⟩, HO.out⟩
    case round =>
      obtain ⟨Y, K, rfl, HY, hr⟩ := hrel
      clear HO
      have HO := Lib.hid hr
      clear hr
      have cy := (HO.out.at 6 rfl).cell 3 rfl
      have cx := (HO.out.at 6 rfl).cell 0 rfl
      by_cases hlt : Y < y1
      · have hd : decide (Y < y1) = true := decide_eq_true hlt
        go_wp2_with fail
        clear cy cx
        go_loopw [4] (fun x wr => CI w0 bo bi bn bw br bs bp x0 y0 x1 y1 n ww stop Y x wr) (fun x _ => msrZ x1 x)
        case atStart => exact ⟨x0, K, rfl, Lib.hid ⟨by omega, by have := HS.out; have := HX.out; omega, by have := HY.out; rw [Int.sub_self, Int.add_zero]; exact this.2.2.1, HY.out.2.2.2⟩, HO.out⟩
        case round =>
          clear HO
          obtain ⟨X, K2, rfl, HZ, hr⟩ := hrel
          have HO := Lib.hid hr
          clear hr
          have cx := (HO.out.at 6 rfl).cell 2 rfl
          by_cases hlt2 : X < x1
          · have hd2 : decide (X < x1) = true := decide_eq_true hlt2
            have hY := HY.out
            have hZ := HZ.out
            have hX := HX.out
            have hB := HB.out
            have hS := HS.out
            have hT := HT.out
            have sp := Rt.spot (w := ww) (r := Y - y0) (c := X - x0) (K := K2) (by omega) (by omega) (by omega) hZ.2.2.1
            have sa := Rt.among (w := ww) (h := y1 - y0) (r := Y - y0) (c := X - x0) (K := K2) (by omega) (by omega) (by omega) hZ.2.2.1
            obtain ⟨k, rfl⟩ := Int.eq_ofNat_of_zero_le sp.1
            have hn : n ≤ 4398046511104 := by rw [HN.out]; exact hS.2.2.2
            have hkn : (k : Int) < n := by rw [HN.out]; exact sa
            have x1b : X ≤ 1048576 := by omega
            have x2b : -1048576 ≤ X := by omega
            cases hb : decide ((k : Int) + 1 ≤ stop)
            · have HC := Lib.hid (turn_any bo bi bn bw br bs bp x0 y0 x1 y1 n ww stop k X Y false w0 _ HO.out hkn hn (by omega) (by rw [sp.2.1]; omega) (by rw [sp.2.2]; omega) hB.1 hB.2.1 hT hb)
              have HE := Lib.hid (show (k : Int) + 1 = Rt.mn n (stop + 1) from Rt.mn_eq (by simp at hb; omega))
              clear hY hZ hX hB hS hT sp sa hn hkn hb HO
              go_wp2_with (go_at_call 21; refine HC.out.mono ?_; rintro e w1 ⟨rfl, l2⟩; have HO := Lib.hid l2; clear l2)
              first | refine bodyPost_ret (results_none rfl _ _ _) rfl ?_ | refine bodyPost_end (results_none rfl _ _ _) rfl ?_
              exact ⟨rfl, by rw [← HE.out]; exact HO.out⟩
            · have HC := Lib.hid (turn_any bo bi bn bw br bs bp x0 y0 x1 y1 n ww stop k X Y true w0 _ HO.out hkn hn (by omega) (by rw [sp.2.1]; omega) (by rw [sp.2.2]; omega) hB.1 hB.2.1 hT hb)
              have HE := Lib.hid (show (k : Int) + 1 ≤ stop by simpa using hb)
              have HK := Lib.hid (show (k : Int) + 1 = (Y - y0) * ww + (X + 1 - x0) by have := hZ.2.2.1; omega)
              clear hY hZ hX hB hS hT sp sa hn hkn hb HO
              go_wp2_with (go_at_call 21; refine HC.out.mono ?_; rintro e w1 ⟨rfl, l2⟩; have HO := Lib.hid l2; clear l2)
              go_roundw
              case rel => exact ⟨X + 1, (k : Int) + 1, by go_num, Lib.hid ⟨by have := HZ.out; omega, by omega, HK.out, HE.out⟩, HO.out⟩
              case measure => simp [msrZ, intOf]; omega
          · have hd2 : decide (X < x1) = false := decide_eq_false hlt2
            have hZ := HZ.out
            have hX := HX.out
            have hB := HB.out
            have y1b : Y ≤ 1048576 := by omega
            have y2b : -1048576 ≤ Y := by have := HY.out; omega
            obtain rfl : X = x1 := by omega
            have HK := Lib.hid (show K2 = (Y + 1 - y0) * ww by rw [show Y + 1 - y0 = (Y - y0) + 1 by omega]; exact Rt.row_next (by have := hZ.2.2.1; omega))
            clear hZ hX hB
            go_wp2_with fail
            go_roundw
            case rel => exact ⟨Y + 1, K2, by go_num, Lib.hid ⟨by have := HY.out; omega, by omega, HK.out, HZ.out.2.2.2⟩, HO.out⟩
            case measure => simp [msrZ, intOf]; omega
      · have hd : decide (Y < y1) = false := decide_eq_false hlt
        have HE := Lib.hid (show K = Rt.mn n (stop + 1) by
          have hY := HY.out
          have : Y = y1 := by omega
          subst this
          refine Rt.mn_eq (.inl ⟨?_, ?_⟩)
          · rw [HN.out, Int.mul_comm]; exact hY.2.2.1
          · have h9 : n = K := by rw [HN.out, Int.mul_comm]; exact hY.2.2.1.symm
            omega)
        go_wp2_with fail
        first | refine bodyPost_ret (results_none rfl _ _ _) rfl ?_ | refine bodyPost_end (results_none rfl _ _ _) rfl ?_
        exact ⟨rfl, by rw [← HE.out]; exact HO.out⟩
end Go.Proofs.Ytfgeamidgaekjaa
