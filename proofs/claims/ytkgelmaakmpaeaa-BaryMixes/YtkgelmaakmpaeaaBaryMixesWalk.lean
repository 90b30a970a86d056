/-
  BaryMixes: its Go text returns true.
-/
import Derived.Test.YtkgelmaakmpaeaaBaryRef
import Derived.BigGuard
namespace Go.Proofs.Ytkgelmaakmpaeaa
open Go.RowKit

/-- the less, the greater of two; the least and the greatest number so far -/
def By.mn (x y : Int) : Int := if x < y then x else y
def By.mx (x y : Int) : Int := if y < x then x else y
def By.lw (p l v : Int) : Int := if 0 < p then By.mn l v else l
def By.hg (p l v : Int) : Int := if 0 < p then By.mx l v else l
theorem By.lw_le (p l v : Int) : By.lw p l v ≤ l ∧ (0 < p → By.lw p l v ≤ v) := by unfold By.lw By.mn; split <;> (try split) <;> omega
theorem By.hg_le (p l v : Int) : l ≤ By.hg p l v ∧ (0 < p → v ≤ By.hg p l v) := by unfold By.hg By.mx; split <;> (try split) <;> omega
theorem By.lw_yes {p l v : Int} (h : decide (0 < p) = true) : By.mn l v = By.lw p l v := by unfold By.lw; rw [if_pos (by simpa using h)]
theorem By.hg_yes {p l v : Int} (h : decide (0 < p) = true) : By.mx l v = By.hg p l v := by unfold By.hg; rw [if_pos (by simpa using h)]
theorem By.lw_no {p l v : Int} (h : decide (0 < p) = false) : l = By.lw p l v := by unfold By.lw; rw [if_neg (by simpa using h)]
theorem By.hg_no {p l v : Int} (h : decide (0 < p) = false) : l = By.hg p l v := by unfold By.hg; rw [if_neg (by simpa using h)]
theorem By.ends {a b c x y z l h : Int} (ha : 0 ≤ a) (hb : 0 ≤ b) (hc : 0 ≤ c) (h0 : 0 < a + b + c) :
    By.lw c (By.lw b (By.lw a l x) y) z ≤ By.mix a b c x y z ∧ By.mix a b c x y z ≤ By.hg c (By.hg b (By.hg a h x) y) z := by
  have l1 := By.lw_le a l x
  have l2 := By.lw_le b (By.lw a l x) y
  have l3 := By.lw_le c (By.lw b (By.lw a l x) y) z
  have h1 := By.hg_le a h x
  have h2 := By.hg_le b (By.hg a h x) y
  have h3 := By.hg_le c (By.hg b (By.hg a h x) y) z
  exact By.between ha hb hc h0 (fun g => ⟨by have := l1.2 g; omega, by have := h1.2 g; omega⟩) (fun g => ⟨by have := l2.2 g; omega, by have := h2.2 g; omega⟩) (fun g => ⟨by have := l3.2 g; omega, by have := h3.2 g; omega⟩)
theorem rlow_any (x y : Int) (w : World) :
    Calls Try.prog 13 #[.int .i64 x, .int .i64 y] w fun e w' => e = .returned (.int .i64 (By.mn x y)) ∧ w = w' := by
  go_enter Try.func13, Try.ntmps13
  go_wp2
  all_goals
    go_ret
    exact ⟨ret_int (by unfold By.mn; split <;> omega), rfl⟩
theorem rhigh_any (x y : Int) (w : World) :
    Calls Try.prog 14 #[.int .i64 x, .int .i64 y] w fun e w' => e = .returned (.int .i64 (By.mx x y)) ∧ w = w' := by
  go_enter Try.func14, Try.ntmps14
  go_wp2
  all_goals
    go_ret
    exact ⟨ret_int (by unfold By.mx; split <;> omega), rfl⟩
set_option linter.unusedSimpArgs false in
set_option maxRecDepth 100000 in
set_option maxHeartbeats 8000000 in
theorem bmixes_no (w0 w1 w2 v0 v1 v2 : Int) (w : World) (h : By.ok w0 w1 w2 v0 v1 v2 = false) :
    Calls Try.prog 4 #[.agg #[.int .i64 w0, .int .i64 w1, .int .i64 w2], .agg #[.int .i64 v0, .int .i64 v1, .int .i64 v2]] w fun e w' => e = .returned (.bool true) ∧ Kp w.heap.size w w' := by
  have M1 : ∀ W, Calls Try.prog 11 #[.agg #[.int .i64 w0, .int .i64 w1, .int .i64 w2], .agg #[.int .i64 v0, .int .i64 v1, .int .i64 v2]] W fun e w' => e = .returned (.tuple #[.int .i64 0, .int .i64 3]) ∧ Kp W.heap.size W w' := fun W => by
    cases h1 : (By.in3 0 4398046511104 w0 w1 w2 && By.in3 (-1073741824) 1073741824 v0 v1 v2)
    · exact mix_no w0 w1 w2 v0 v1 v2 W h1
    · have h2 : ¬ 0 < w0 + w1 + w2 := by unfold By.ok at h; rw [h1] at h; simpa using h
      rw [Bool.and_eq_true] at h1
      exact mix_zero w0 w1 w2 v0 v1 v2 W h1.1 h1.2 h2
  have HO := Lib.hid (((Ow.refl w).newAt w.heap.size rfl (.int .i64 w0) [.int .i64 w1, .int .i64 w2] 25).newAt (w.heap.size + 1) (by simp) (.int .i64 v0) [.int .i64 v1, .int .i64 v2] 25)
  have Y1 := fun W => rmay3_any w0 w1 w2 v0 v1 v2 W
  rw [h] at Y1
  clear h
  go_enter Try.func4, Try.ntmps4
  go_wp2_with (first   | go_big_skip   | ((with_reducible show wpList _ _ _ ({ dst := _, op := Op.load 25 (Operand.tmp 2), type := _, pos := _, after := _, guard := _ } :: _) _ _); refine wpList_ldr ty_i3 rfl _ rfl _ rfl _ rfl (HO.out.at 1 rfl) ?_)   | ((with_reducible show wpList _ _ _ ({ dst := _, op := Op.load 25 (Operand.tmp 3), type := _, pos := _, after := _, guard := _ } :: _) _ _); refine wpList_ldr ty_i3 rfl _ rfl _ rfl _ rfl (HO.out.at 0 rfl) ?_)   | (go_at_call 11; (with_reducible refine (M1 _).mono ?_); rintro e wz ⟨rfl, hk1⟩; have l2 := HO.out.call hk1; clear HO hk1; have HO := Lib.hid l2; clear l2)   | (go_at_call 12; (with_reducible refine (Y1 _).mono ?_); rintro e wz ⟨rfl, hk1⟩; have l2 := HO.out.call hk1; clear HO hk1; have HO := Lib.hid l2; clear l2)   | (go_at_call 8; refine (awake_any _).mono ?_; rintro e wz ⟨rfl, hk1⟩; have l2 := HO.out.call hk1; clear HO hk1; have HO := Lib.hid l2; clear l2))
  go_ret
  exact ⟨rfl, HO.out.k⟩
set_option linter.unusedSimpArgs false in
set_option maxRecDepth 100000 in
set_option maxHeartbeats 8000000 in
theorem bmixes_yes (w0 w1 w2 v0 v1 v2 : Int) (w : World) (h : By.ok w0 w1 w2 v0 v1 v2 = true) :
    Calls Try.prog 4 #[.agg #[.int .i64 w0, .int .i64 w1, .int .i64 w2], .agg #[.int .i64 v0, .int .i64 v1, .int .i64 v2]] w fun e w' => e = .returned (.bool true) ∧ Kp w.heap.size w w' := by
  obtain ⟨hw, hv, hs⟩ := By.ok_iff.1 h
  have M1 := fun W => mix_yes w0 w1 w2 v0 v1 v2 W hw hv hs
  have M2 : ∀ W, Calls Try.prog 11 #[.agg #[.int .i64 w0, .int .i64 w1, .int .i64 w2], .agg #[.int .i64 v0, .int .i64 v0, .int .i64 v0]] W fun e w' => e = .returned (.tuple #[.int .i64 v0, .int .i64 0]) ∧ Kp W.heap.size W w' := fun W => by
    have k := mix_yes w0 w1 w2 v0 v0 v0 W hw (by have := By.in3_iff.1 hv; exact By.in3_iff.2 ⟨this.1, this.1, this.1⟩) hs
    rwa [By.same hs] at k
  have R1 := fun W => rmix_any w0 w1 w2 v0 v1 v2 W h
  have HB := Lib.hid (By.ends (x := v0) (y := v1) (z := v2) (l := 9223372036854775807) (h := -9223372036854775808) (By.in3_iff.1 hw).1.1 (By.in3_iff.1 hw).2.1.1 (By.in3_iff.1 hw).2.2.1 hs)
  have HO := Lib.hid (((Ow.refl w).newAt w.heap.size rfl (.int .i64 w0) [.int .i64 w1, .int .i64 w2] 25).newAt (w.heap.size + 1) (by simp) (.int .i64 v0) [.int .i64 v1, .int .i64 v2] 25)
  have Y1 := fun W => rmay3_any w0 w1 w2 v0 v1 v2 W
  rw [h] at Y1
  clear h hw hv hs
  generalize By.mix w0 w1 w2 v0 v1 v2 = m at *
  go_enter Try.func4, Try.ntmps4
  go_upto_region 5 with (first   | go_big_skip   | ((with_reducible show wpList _ _ _ ({ dst := _, op := Op.load 25 (Operand.tmp 2), type := _, pos := _, after := _, guard := _ } :: _) _ _); refine wpList_ldr ty_i3 rfl _ rfl _ rfl _ rfl (HO.out.at 1 rfl) ?_)   | ((with_reducible show wpList _ _ _ ({ dst := _, op := Op.load 25 (Operand.tmp 3), type := _, pos := _, after := _, guard := _ } :: _) _ _); refine wpList_ldr ty_i3 rfl _ rfl _ rfl _ rfl (HO.out.at 0 rfl) ?_)   | (go_at_call 11; (with_reducible refine (M1 _).mono ?_); rintro e wz ⟨rfl, hk1⟩; have l2 := HO.out.call hk1; clear HO hk1; have HO := Lib.hid l2; clear l2)   | (go_at_call 12; (with_reducible refine (Y1 _).mono ?_); rintro e wz ⟨rfl, hk1⟩; have l2 := HO.out.call hk1; clear HO hk1; have HO := Lib.hid l2; clear l2)   | (go_at_call 8; refine (awake_any _).mono ?_; rintro e wz ⟨rfl, hk1⟩; have l2 := HO.out.call hk1; clear HO hk1; have HO := Lib.hid l2; clear l2))
  have c0 := (HO.out.at 1 rfl).cell 0 rfl
  have c1 := (HO.out.at 1 rfl).cell 1 rfl
  have c2 := (HO.out.at 1 rfl).cell 2 rfl
  have d0 := (HO.out.at 0 rfl).cell 0 rfl
  have d1 := (HO.out.at 0 rfl).cell 1 rfl
  have d2 := (HO.out.at 0 rfl).cell 2 rfl
  go_wp2_with fail
  go_loop [9, 7, 8] (fun i l h => (i = .int .i64 0 ∧ l = .int .i64 9223372036854775807 ∧ h = .int .i64 (-9223372036854775808)) ∨ (i = .int .i64 1 ∧ l = .int .i64 (By.lw w0 9223372036854775807 v0) ∧ h = .int .i64 (By.hg w0 (-9223372036854775808) v0)) ∨ (i = .int .i64 2 ∧ l = .int .i64 (By.lw w1 (By.lw w0 9223372036854775807 v0) v1) ∧ h = .int .i64 (By.hg w1 (By.hg w0 (-9223372036854775808) v0) v1)) ∨ (i = .int .i64 3 ∧ l = .int .i64 (By.lw w2 (By.lw w1 (By.lw w0 9223372036854775807 v0) v1) v2) ∧ h = .int .i64 (By.hg w2 (By.hg w1 (By.hg w0 (-9223372036854775808) v0) v1) v2))) (fun i _ _ => msr3 i)
  case atStart => exact .inl ⟨rfl, rfl, rfl⟩
  case round =>
    rcases hrel with ⟨rfl, rfl, rfl⟩ | ⟨rfl, rfl, rfl⟩ | ⟨rfl, rfl, rfl⟩ | ⟨rfl, rfl, rfl⟩
    · cases hq : decide (0 < w0)
      · go_wp2_with fail
        go_round
        case rel => exact .inr (.inl ⟨by go_num, congrArg (Value.int .i64) (By.lw_no hq), congrArg (Value.int .i64) (By.hg_no hq)⟩)
        case measure => simp [msr3, intOf]
      · go_wp2_with (first | (go_at_call 13; (with_reducible refine (rlow_any _ _ _).mono ?_); rintro e w' ⟨rfl, rfl⟩) | (go_at_call 14; (with_reducible refine (rhigh_any _ _ _).mono ?_); rintro e w' ⟨rfl, rfl⟩))
        go_round
        case rel => exact .inr (.inl ⟨by go_num, congrArg (Value.int .i64) (By.lw_yes hq), congrArg (Value.int .i64) (By.hg_yes hq)⟩)
        case measure => simp [msr3, intOf]
    · cases hq : decide (0 < w1)
      · go_wp2_with fail
        go_round
        case rel => exact .inr (.inr (.inl ⟨by go_num, congrArg (Value.int .i64) (By.lw_no hq), congrArg (Value.int .i64) (By.hg_no hq)⟩))
        case measure => simp [msr3, intOf]
      · go_wp2_with (first | (go_at_call 13; (with_reducible refine (rlow_any _ _ _).mono ?_); rintro e w' ⟨rfl, rfl⟩) | (go_at_call 14; (with_reducible refine (rhigh_any _ _ _).mono ?_); rintro e w' ⟨rfl, rfl⟩))
        go_round
        case rel => exact .inr (.inr (.inl ⟨by go_num, congrArg (Value.int .i64) (By.lw_yes hq), congrArg (Value.int .i64) (By.hg_yes hq)⟩))
        case measure => simp [msr3, intOf]
    · cases hq : decide (0 < w2)
      · go_wp2_with fail
        go_round
        case rel => exact .inr (.inr (.inr (⟨by go_num, congrArg (Value.int .i64) (By.lw_no hq), congrArg (Value.int .i64) (By.hg_no hq)⟩)))
        case measure => simp [msr3, intOf]
      · go_wp2_with (first | (go_at_call 13; (with_reducible refine (rlow_any _ _ _).mono ?_); rintro e w' ⟨rfl, rfl⟩) | (go_at_call 14; (with_reducible refine (rhigh_any _ _ _).mono ?_); rintro e w' ⟨rfl, rfl⟩))
        go_round
        case rel => exact .inr (.inr (.inr (⟨by go_num, congrArg (Value.int .i64) (By.lw_yes hq), congrArg (Value.int .i64) (By.hg_yes hq)⟩)))
        case measure => simp [msr3, intOf]
    · clear c0 c1 c2 d1 d2
      obtain ⟨y1, y2⟩ := HB.out
      generalize By.lw w2 (By.lw w1 (By.lw w0 9223372036854775807 v0) v1) v2 = l at *
      generalize By.hg w2 (By.hg w1 (By.hg w0 (-9223372036854775808) v0) v1) v2 = h at *
      go_upto_region 12 with (first
        | ((with_reducible show wpList _ _ _ ({ dst := _, op := Op.load 25 (Operand.tmp 2), type := _, pos := _, after := _, guard := _ } :: _) _ _); refine wpList_ldr ty_i3 rfl _ rfl _ rfl _ rfl (HO.out.at 1 rfl) ?_)
        | (go_at_call 11; (with_reducible refine (M2 _).mono ?_); rintro e wz ⟨rfl, hk1⟩; have l2 := HO.out.call hk1; clear HO hk1; have HO := Lib.hid l2; clear l2))
      clear d0
      have d0 := (HO.out.at 0 rfl).cell 0 rfl
      go_wp2_with (first
        | go_big_skip
        | ((with_reducible show wpList _ _ _ ({ dst := _, op := Op.load 25 (Operand.tmp 2), type := _, pos := _, after := _, guard := _ } :: _) _ _); refine wpList_ldr ty_i3 rfl _ rfl _ rfl _ rfl (HO.out.at 1 rfl) ?_)
        | ((with_reducible show wpList _ _ _ ({ dst := _, op := Op.load 25 (Operand.tmp 3), type := _, pos := _, after := _, guard := _ } :: _) _ _); refine wpList_ldr ty_i3 rfl _ rfl _ rfl _ rfl (HO.out.at 0 rfl) ?_)
        | (go_at_call 15; (with_reducible refine (R1 _).mono ?_); clear d0; rintro e wz ⟨rfl, hk1⟩; have l2 := HO.out.call hk1; clear HO hk1; have HO := Lib.hid l2; clear l2; have d0 := (HO.out.at 0 rfl).cell 0 rfl)
        | (go_at_call 8; refine (awake_any _).mono ?_; rintro e wz ⟨rfl, hk1⟩; have l2 := HO.out.call hk1; clear HO hk1; have HO := Lib.hid l2; clear l2))
      go_ret
      exact ⟨rfl, HO.out.k⟩
theorem bmixes_walk (w0 w1 w2 v0 v1 v2 : Int) (w : World) :
    Calls Try.prog 4 #[.agg #[.int .i64 w0, .int .i64 w1, .int .i64 w2], .agg #[.int .i64 v0, .int .i64 v1, .int .i64 v2]] w fun e w' => e = .returned (.bool true) ∧ Kp w.heap.size w w' := by
  cases h : By.ok w0 w1 w2 v0 v1 v2
  · exact bmixes_no w0 w1 w2 v0 v1 v2 w h
  · exact bmixes_yes w0 w1 w2 v0 v1 v2 w h
end Go.Proofs.Ytkgelmaakmpaeaa
