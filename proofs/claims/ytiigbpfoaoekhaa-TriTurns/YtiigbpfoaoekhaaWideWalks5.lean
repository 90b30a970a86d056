/-
  Contracts of layer 2 (wide), fifth part: quotients cut downwards.
-/
import Derived.Test.YtiigbpfoaoekhaaWideWalks4
import Derived.Test.YtiigbpfoaoekhaaWidePlain4
namespace Go.Proofs.Ytiigbpfoaoekhaa
open Go.RowKit
set_option linter.unusedVariables false

theorem div64_kp (h l y : Int) (w : World) (h0 : 0 ≤ h) (h1 : h < y) (l0 : 0 ≤ l) (l1 : l ≤ 18446744073709551615) (y1 : y ≤ 18446744073709551615) :
    Calls Try.prog 59 #[.int .u64 h, .int .u64 l, .int .u64 y] w fun e w' => e = .returned (.tuple #[.int .u64 (Wd.dq h l y), .int .u64 (Wd.dr h l y)]) ∧ Kp w.heap.size w w' := by
  refine (div64_any h l y w h0 h1 l0 l1 y1).mono ?_
  rintro e w' ⟨rfl, n, rfl⟩
  exact ⟨rfl, (Kp.refl _ _).drewN n⟩

set_option maxHeartbeats 1000000 in
theorem below_no (q m : Int) (w : World) (q0 : 0 ≤ q) (q1 : q ≤ 18446744073709551615) (m0 : 0 ≤ m) (m1 : m ≤ 18446744073709551615) (h : 9223372036854775808 < q ∨ q = 9223372036854775808 ∧ m ≠ 0) :
    Calls Try.prog 60 #[.int .u64 q, .int .u64 m] w fun e w' => e = .returned (.tuple #[.int .i64 0, .int .i64 3]) ∧ w = w' := by
  rcases h with h | ⟨rfl, h⟩
  · go_enter Try.func60, Try.ntmps60
    go_wp2
    go_ret2
    exact ⟨rfl, rfl⟩
  · have hm : (m != 0) = true := by simpa using h
    clear h
    go_enter Try.func60, Try.ntmps60
    go_wp2
    go_ret2
    exact ⟨rfl, rfl⟩

set_option maxHeartbeats 1000000 in
theorem below_ok (q m : Int) (w : World) (q0 : 0 ≤ q) (m0 : 0 ≤ m) (m1 : m ≤ 18446744073709551615) (h : q < 9223372036854775808 ∨ q = 9223372036854775808 ∧ m = 0) :
    Calls Try.prog 60 #[.int .u64 q, .int .u64 m] w fun e w' => e = .returned (.tuple #[.int .i64 (-q - (if m = 0 then 0 else 1)), .int .i64 0]) ∧ w = w' := by
  rcases h with h | ⟨rfl, rfl⟩
  · have h' : ¬ 9223372036854775808 < q := by omega
    have hq : (q == 9223372036854775808) = false := by simp; omega
    by_cases hm : m = 0
    · subst hm
      rw [if_pos rfl]
      go_enter Try.func60, Try.ntmps60
      go_wp2
      go_ret2
      exact ⟨ret_two (by omega) rfl, rfl⟩
    · have hm : (m != 0) = true := by simpa using hm
      rw [if_neg (by simpa using hm)]
      go_enter Try.func60, Try.ntmps60
      go_wp2
      go_ret2
      exact ⟨ret_two rfl rfl, rfl⟩
  · rw [if_pos rfl]
    go_enter Try.func60, Try.ntmps60
    go_wp2
    go_ret2
    exact ⟨ret_two (by unfold wrap64; omega) rfl, rfl⟩

set_option maxHeartbeats 400000 in
theorem floor_zero (x : Int) (w : World) :
    Calls Try.prog 53 #[.agg #[.int .i64 (Wd.hi (x)), .int .u64 (Wd.lo (x))], .int .i64 0] w fun e w' => e = .returned (.tuple #[.int .i64 0, .int .i64 2]) ∧ Kp w.heap.size w w' := by
  go_enter Try.func53, Try.ntmps53
  go_wp2
  go_ret2
  exact ⟨rfl, (Kp.refl _ _).alloc (Nat.le_refl _) _ _⟩

set_option maxHeartbeats 1000000 in
theorem floor_any (x b : Int) (w : World) (hb : Wd.isInt b) (hb0 : b ≠ 0) :
    Calls Try.prog 53 #[.agg #[.int .i64 (Wd.hi (x)), .int .u64 (Wd.lo (x))], .int .i64 b] w fun e w' => e = .returned (.tuple #[.int .i64 (Wd.fq x b), .int .i64 (Wd.fe x b)]) ∧ Kp w.heap.size w w' := by
  obtain ⟨a1, a2⟩ := Wd.hi_bd x
  obtain ⟨A1, A2, A3, A4, _⟩ := Wd.a_bd x
  obtain ⟨B1, B2, B3, B4, _⟩ := Wd.a_bd b
  have hbb : (b == 0) = false := by simpa using hb0
  have B5 : 0 < Wd.alo b := by have := Wd.alo_int hb; split at this <;> omega
  by_cases hf : Wd.alo b ≤ Wd.ahi x
  · have HF := Lib.hid (Wd.fq_out (Wd.fl_far hb hb0 hf))
    go_enter Try.func53, Try.ntmps53
    go_wp2_with fail
    refine (amount_any _ _).mono ?_
    rintro e w1 ⟨rfl, hk1⟩
    have HK1 := Lib.hid hk1; clear hk1
    go_wp2_with fail
    refine (of_any _ _ hb).mono ?_
    rintro e w2 ⟨rfl, hk2⟩
    have HK2 := Lib.hid hk2; clear hk2
    go_wp2_with fail
    refine (amount_any _ _).mono ?_
    rintro e w3 ⟨rfl, hk3⟩
    have HK3 := Lib.hid hk3; clear hk3
    go_wp2
    go_ret2
    have z1 := HK1.out.size; have z2 := HK2.out.size; simp at z1
    exact ⟨ret_two HF.out.1.symm HF.out.2.symm, ((((Kp.refl _ _).alloc (Nat.le_refl _) _ _).trans (HK1.out.mono (by simp))).trans (HK2.out.mono (by omega))).trans (HK3.out.mono (by omega))⟩
  · obtain ⟨q0, q1, m0, m1⟩ := Wd.dq_bd (l := Wd.alo x) A1 (Int.not_le.1 hf) A3 A4
    have hcase : (Wd.hi x < 0 ↔ b < 0) ∧ 9223372036854775807 < Wd.dq (Wd.ahi x) (Wd.alo x) (Wd.alo b) ∧ Wd.fq x b = 0 ∧ Wd.fe x b = 3
        ∨ (Wd.hi x < 0 ↔ b < 0) ∧ ¬ 9223372036854775807 < Wd.dq (Wd.ahi x) (Wd.alo x) (Wd.alo b) ∧ Wd.fq x b = Wd.dq (Wd.ahi x) (Wd.alo x) (Wd.alo b) ∧ Wd.fe x b = 0
        ∨ ¬ (Wd.hi x < 0 ↔ b < 0) := by
      by_cases hs : Wd.hi x < 0 ↔ b < 0
      · have e := Wd.fl_same hb hb0 hs
        by_cases hq : 9223372036854775807 < Wd.dq (Wd.ahi x) (Wd.alo x) (Wd.alo b)
        · exact .inl ⟨hs, hq, Wd.fq_out (by rw [e]; unfold Wd.isInt; omega)⟩
        · have := Wd.fq_in (x := x) (b := b) (by rw [e]; unfold Wd.isInt; omega)
          rw [e] at this
          exact .inr (.inl ⟨hs, hq, this⟩)
      · exact .inr (.inr hs)
    rcases hcase with ⟨hs, hq, hF⟩ | ⟨hs, hq, hF⟩ | hs
    · have HF := Lib.hid hF
      clear hF
      rcases (show (Wd.hi x < 0 ∧ b < 0) ∨ (¬ Wd.hi x < 0 ∧ ¬ b < 0) by omega) with ⟨hx, hy⟩ | ⟨hx, hy⟩
      all_goals
        clear hs
        have hd1 : decide (Wd.hi x < 0) = decide (Wd.hi x < 0) := rfl
        have hd2 : decide (b < 0) = decide (b < 0) := rfl
        conv at hd1 => rhs; simp only [hx, decide_true, decide_false]
        conv at hd2 => rhs; simp only [hy, decide_true, decide_false]
        go_enter Try.func53, Try.ntmps53
        go_wp2_with fail
        refine (amount_any _ _).mono ?_
        rintro e w1 ⟨rfl, hk1⟩
        have h1 := hk1.cells; have z1 := hk1.size; simp at h1 z1; have HK1 := Lib.hid hk1; clear hk1
        go_wp2_with fail
        refine (of_any _ _ hb).mono ?_
        rintro e w2 ⟨rfl, hk2⟩
        have h2 := hk2.cells; have z2 := hk2.size; have HK2 := Lib.hid hk2; clear hk2
        go_wp2_with fail
        refine (amount_any _ _).mono ?_
        rintro e w3 ⟨rfl, hk3⟩
        have h3 := hk3.cells; have z3 := hk3.size; have HK3 := Lib.hid hk3; clear hk3
        go_wp2_with fail
        refine (div64_kp _ _ _ _ A1 (by omega) A3 A4 B4).mono ?_
        rintro e w4 ⟨rfl, hk4⟩
        have h4 := hk4.cells; have HK4 := Lib.hid hk4; clear hk4
        have l1 : w.heap.size < w1.heap.size := by omega
        have l2 : w.heap.size < w2.heap.size := by omega
        have l3 : w.heap.size < w3.heap.size := by omega
        go_wp2
        go_ret2
        exact ⟨ret_two HF.out.1.symm HF.out.2.symm, (((((Kp.refl _ _).alloc (Nat.le_refl _) _ _).trans (HK1.out.mono (by simp))).trans (HK2.out.mono (by omega))).trans (HK3.out.mono (by omega))).trans (HK4.out.mono (by omega))⟩
    · have HF := Lib.hid hF
      clear hF
      rcases (show (Wd.hi x < 0 ∧ b < 0) ∨ (¬ Wd.hi x < 0 ∧ ¬ b < 0) by omega) with ⟨hx, hy⟩ | ⟨hx, hy⟩
      all_goals
        clear hs
        have hd1 : decide (Wd.hi x < 0) = decide (Wd.hi x < 0) := rfl
        have hd2 : decide (b < 0) = decide (b < 0) := rfl
        conv at hd1 => rhs; simp only [hx, decide_true, decide_false]
        conv at hd2 => rhs; simp only [hy, decide_true, decide_false]
        go_enter Try.func53, Try.ntmps53
        go_wp2_with fail
        refine (amount_any _ _).mono ?_
        rintro e w1 ⟨rfl, hk1⟩
        have h1 := hk1.cells; have z1 := hk1.size; simp at h1 z1; have HK1 := Lib.hid hk1; clear hk1
        go_wp2_with fail
        refine (of_any _ _ hb).mono ?_
        rintro e w2 ⟨rfl, hk2⟩
        have h2 := hk2.cells; have z2 := hk2.size; have HK2 := Lib.hid hk2; clear hk2
        go_wp2_with fail
        refine (amount_any _ _).mono ?_
        rintro e w3 ⟨rfl, hk3⟩
        have h3 := hk3.cells; have z3 := hk3.size; have HK3 := Lib.hid hk3; clear hk3
        go_wp2_with fail
        refine (div64_kp _ _ _ _ A1 (by omega) A3 A4 B4).mono ?_
        rintro e w4 ⟨rfl, hk4⟩
        have h4 := hk4.cells; have HK4 := Lib.hid hk4; clear hk4
        have l1 : w.heap.size < w1.heap.size := by omega
        have l2 : w.heap.size < w2.heap.size := by omega
        have l3 : w.heap.size < w3.heap.size := by omega
        go_wp2
        go_ret2
        exact ⟨ret_two HF.out.1.symm HF.out.2.symm, (((((Kp.refl _ _).alloc (Nat.le_refl _) _ _).trans (HK1.out.mono (by simp))).trans (HK2.out.mono (by omega))).trans (HK3.out.mono (by omega))).trans (HK4.out.mono (by omega))⟩
    · have HO := Lib.hid (Wd.fl_other hb hb0 hs)
      by_cases hr : Wd.dq (Wd.ahi x) (Wd.alo x) (Wd.alo b) < 9223372036854775808 ∨ Wd.dq (Wd.ahi x) (Wd.alo x) (Wd.alo b) = 9223372036854775808 ∧ Wd.dr (Wd.ahi x) (Wd.alo x) (Wd.alo b) = 0
      · have HF := Lib.hid (Wd.fq_in (x := x) (b := b) (by rw [HO.out]; unfold Wd.isInt; split <;> omega))
        have HR := Lib.hid hr
        clear hr
        rcases (show (Wd.hi x < 0 ∧ ¬ b < 0) ∨ (¬ Wd.hi x < 0 ∧ b < 0) by omega) with ⟨hx, hy⟩ | ⟨hx, hy⟩
        all_goals
          clear hs
          have hd1 : decide (Wd.hi x < 0) = decide (Wd.hi x < 0) := rfl
          have hd2 : decide (b < 0) = decide (b < 0) := rfl
          conv at hd1 => rhs; simp only [hx, decide_true, decide_false]
          conv at hd2 => rhs; simp only [hy, decide_true, decide_false]
          go_enter Try.func53, Try.ntmps53
          go_wp2_with fail
          refine (amount_any _ _).mono ?_
          rintro e w1 ⟨rfl, hk1⟩
          have h1 := hk1.cells; have z1 := hk1.size; simp at h1 z1; have HK1 := Lib.hid hk1; clear hk1
          go_wp2_with fail
          refine (of_any _ _ hb).mono ?_
          rintro e w2 ⟨rfl, hk2⟩
          have h2 := hk2.cells; have z2 := hk2.size; have HK2 := Lib.hid hk2; clear hk2
          go_wp2_with fail
          refine (amount_any _ _).mono ?_
          rintro e w3 ⟨rfl, hk3⟩
          have h3 := hk3.cells; have z3 := hk3.size; have HK3 := Lib.hid hk3; clear hk3
          go_wp2_with fail
          refine (div64_kp _ _ _ _ A1 (by omega) A3 A4 B4).mono ?_
          rintro e w4 ⟨rfl, hk4⟩
          have h4 := hk4.cells; have HK4 := Lib.hid hk4; clear hk4
          have l1 : w.heap.size < w1.heap.size := by omega
          have l2 : w.heap.size < w2.heap.size := by omega
          have l3 : w.heap.size < w3.heap.size := by omega
          go_wp2_with fail
          refine (below_ok _ _ _ q0 m0 (by omega) HR.out).mono ?_
          rintro e w' ⟨rfl, rfl⟩
          rw [← HO.out]
          go_wp2
          go_ret2
          exact ⟨ret_two HF.out.1.symm HF.out.2.symm, (((((Kp.refl _ _).alloc (Nat.le_refl _) _ _).trans (HK1.out.mono (by simp))).trans (HK2.out.mono (by omega))).trans (HK3.out.mono (by omega))).trans (HK4.out.mono (by omega))⟩
      · have HF := Lib.hid (Wd.fq_out (x := x) (b := b) (by rw [HO.out]; unfold Wd.isInt; split <;> omega))
        have HR : Hid (9223372036854775808 < Wd.dq (Wd.ahi x) (Wd.alo x) (Wd.alo b) ∨ Wd.dq (Wd.ahi x) (Wd.alo x) (Wd.alo b) = 9223372036854775808 ∧ Wd.dr (Wd.ahi x) (Wd.alo x) (Wd.alo b) ≠ 0) := by show _ ∨ _; omega
        clear hr
        rcases (show (Wd.hi x < 0 ∧ ¬ b < 0) ∨ (¬ Wd.hi x < 0 ∧ b < 0) by omega) with ⟨hx, hy⟩ | ⟨hx, hy⟩
        all_goals
          clear hs
          have hd1 : decide (Wd.hi x < 0) = decide (Wd.hi x < 0) := rfl
          have hd2 : decide (b < 0) = decide (b < 0) := rfl
          conv at hd1 => rhs; simp only [hx, decide_true, decide_false]
          conv at hd2 => rhs; simp only [hy, decide_true, decide_false]
          go_enter Try.func53, Try.ntmps53
          go_wp2_with fail
          refine (amount_any _ _).mono ?_
          rintro e w1 ⟨rfl, hk1⟩
          have h1 := hk1.cells; have z1 := hk1.size; simp at h1 z1; have HK1 := Lib.hid hk1; clear hk1
          go_wp2_with fail
          refine (of_any _ _ hb).mono ?_
          rintro e w2 ⟨rfl, hk2⟩
          have h2 := hk2.cells; have z2 := hk2.size; have HK2 := Lib.hid hk2; clear hk2
          go_wp2_with fail
          refine (amount_any _ _).mono ?_
          rintro e w3 ⟨rfl, hk3⟩
          have h3 := hk3.cells; have z3 := hk3.size; have HK3 := Lib.hid hk3; clear hk3
          go_wp2_with fail
          refine (div64_kp _ _ _ _ A1 (by omega) A3 A4 B4).mono ?_
          rintro e w4 ⟨rfl, hk4⟩
          have h4 := hk4.cells; have HK4 := Lib.hid hk4; clear hk4
          have l1 : w.heap.size < w1.heap.size := by omega
          have l2 : w.heap.size < w2.heap.size := by omega
          have l3 : w.heap.size < w3.heap.size := by omega
          go_wp2_with fail
          refine (below_no _ _ _ q0 q1 m0 (by omega) HR.out).mono ?_
          rintro e w' ⟨rfl, rfl⟩
          go_wp2
          go_ret2
          exact ⟨ret_two HF.out.1.symm HF.out.2.symm, (((((Kp.refl _ _).alloc (Nat.le_refl _) _ _).trans (HK1.out.mono (by simp))).trans (HK2.out.mono (by omega))).trans (HK3.out.mono (by omega))).trans (HK4.out.mono (by omega))⟩

end Go.Proofs.Ytiigbpfoaoekhaa
