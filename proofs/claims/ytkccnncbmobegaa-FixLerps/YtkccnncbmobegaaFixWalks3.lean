/-
  Contracts of layer 1 (fix), third part: products, and going from one number to another one.
-/
import Derived.Test.YtkccnncbmobegaaFixWalks2
namespace Go.Proofs.Ytkccnncbmobegaa
open Go.RowKit

set_option maxHeartbeats 400000 in
theorem mul_any (a b : Int) (w : World) (ha : -9223372036854775808 ≤ a ∧ a ≤ 9223372036854775807) (hb : -9223372036854775808 ≤ b ∧ b ≤ 9223372036854775807) :
    Calls Try.prog 17 #[.int .i64 a, .int .i64 b] w fun e w' => e = .returned (.int .i64 (Fx.clamp (a * b))) ∧ w = w' := by
  by_cases h0 : b = 0
  · subst h0
    rw [Int.mul_zero]
    go_enter Try.func17, Try.ntmps17
    go_wp2
    go_ret
    exact ⟨rfl, rfl⟩
  · have hb0 : (b == 0) = false := by simpa using h0
    by_cases hin : -9223372036854775808 ≤ a * b ∧ a * b ≤ 9223372036854775807
    · rw [Fx.clamp_in hin]
      obtain ⟨hi1, hi2⟩ := hin
      have e1 : (a * b).tdiv b = a := Int.mul_tdiv_cancel a h0
      have hw : Fx.wrapsB a b = false := by
        rcases h : Fx.wrapsB a b with _ | _
        · rfl
        · obtain ⟨rfl, rfl⟩ := Fx.wrapsB_true h; omega
      have e2 : (a == a) = true := by simp
      go_enter Try.func17, Try.ntmps17
      go_wp2_with ((go_at_call 27; refine (wraps_any _ _ _).mono ?_; rintro e w' ⟨rfl, rfl⟩))
      go_ret
      exact ⟨rfl, rfl⟩
    · rcases hw : Fx.wrapsB a b with _ | _
      · have hl := Fx.left_ints ha hb h0 hin hw
        rcases Fx.clamp_out hin with ⟨h1, h2, e⟩ | ⟨h1, h2, e⟩ | ⟨h1, h2, e⟩ | ⟨h1, h2, e⟩
        all_goals
          rw [e]
          have hd1 : decide (a < 0) = decide (a < 0) := rfl
          have hd2 : decide (b < 0) = decide (b < 0) := rfl
          conv at hd1 => rhs; simp only [h1, decide_true, decide_false]
          conv at hd2 => rhs; simp only [h2, decide_true, decide_false]
          clear e hin
          go_enter Try.func17, Try.ntmps17
          go_wp2_with ((go_at_call 27; refine (wraps_any _ _ _).mono ?_; rintro e w' ⟨rfl, rfl⟩))
          go_ret
          exact ⟨rfl, rfl⟩
      · obtain ⟨rfl, rfl⟩ := Fx.wrapsB_true hw
        rw [show Fx.clamp (-9223372036854775808 * -1) = 9223372036854775807 by decide]
        clear hin ha hb h0
        go_enter Try.func17, Try.ntmps17
        go_wp2_with ((go_at_call 27; refine (wraps_any _ _ _).mono ?_; rintro e w' ⟨rfl, rfl⟩))
        all_goals go_ret
        all_goals exact ⟨rfl, rfl⟩

set_option maxHeartbeats 400000 in
theorem rmul_pos (a b : Int) (w : World) (ha : -9223372036854775808 ≤ a ∧ a ≤ 9223372036854775807) (hb : -9223372036854775808 ≤ b ∧ b ≤ 9223372036854775807) (h0 : 0 ≤ b) :
    Calls Try.prog 18 #[.int .i64 a, .int .i64 b] w fun e w' => e = .returned (.int .i64 (Fx.clamp (a * b))) ∧ w = w' := by
  obtain ⟨hb1, hb2⟩ := hb
  go_enter Try.func18, Try.ntmps18
  go_wp2
  go_loop [5, 7] (fun s i => ∃ k : Nat, k ≤ 63 ∧ i = .int .i64 ((k : Int) - 1) ∧ s = .int .i64 (Fx.clamp (a * (b / 2 ^ k)))) (fun _ i => (intOf i + 1).toNat)
  case atStart => exact ⟨63, by omega, rfl, by rw [Fx.small_div b 63 h0 (by omega) (by omega), Int.mul_zero]; rfl⟩
  case round =>
    obtain ⟨k, hk, rfl, rfl⟩ := hrel
    by_cases hlt : 1 ≤ k
    · obtain ⟨j, rfl⟩ : ∃ j, k = j + 1 := ⟨k - 1, by omega⟩
      have hcb := Fx.clamp_bd (a * (b / 2 ^ (j + 1)))
      have hcb2 := Fx.clamp_bd (Fx.clamp (a * (b / 2 ^ (j + 1))) + Fx.clamp (a * (b / 2 ^ (j + 1))))
      have hm0 : 0 ≤ b / 2 ^ (j + 1) := Int.ediv_nonneg h0 (Int.le_of_lt (Int.pow_pos (by omega)))
      have he := Fx.half_eq b j
      have hq0 : 0 ≤ b / 2 ^ j := Int.ediv_nonneg h0 (Int.le_of_lt (Int.pow_pos (by omega)))
      rcases (show b / 2 ^ j % 2 = 0 ∨ b / 2 ^ j % 2 = 1 by omega) with hbit | hbit
      · have hs := Fx.step_even a (b / 2 ^ (j + 1))
        rw [show 2 * (b / 2 ^ (j + 1)) = b / 2 ^ j by omega] at hs
        have HS := Lib.hid hs
        have hbb : (b / 2 ^ j % 2 == 1) = false := by rw [hbit]; rfl
        clear hs he hbit
        go_wp2_with ((go_at_call 14; refine (radd_any _ _ _ (by assumption) (by assumption)).mono ?_; rintro e w' ⟨rfl, rfl⟩))
        go_round
        case rel => exact ⟨j, by omega, by go_num, by rw [HS.out]⟩
        case measure => simp [intOf]
      · have hs := Fx.step_up a (b / 2 ^ (j + 1)) hm0
        rw [show 2 * (b / 2 ^ (j + 1)) + 1 = b / 2 ^ j by omega] at hs
        have HS := Lib.hid hs
        have hbb : (b / 2 ^ j % 2 == 1) = true := by rw [hbit]; rfl
        clear hs he hbit
        go_wp2_with ((go_at_call 14; refine (radd_any _ _ _ (by assumption) (by assumption)).mono ?_; rintro e w' ⟨rfl, rfl⟩))
        go_round
        case rel => exact ⟨j, by omega, by go_num, by rw [HS.out]⟩
        case measure => simp [intOf]
    · obtain rfl : k = 0 := by omega
      go_wp2
      go_ret
      exact ⟨ret_int (by simp), rfl⟩

set_option maxHeartbeats 400000 in
theorem rmul_neg (a b : Int) (w : World) (ha : -9223372036854775808 ≤ a ∧ a ≤ 9223372036854775807) (hb : -9223372036854775808 ≤ b ∧ b ≤ 9223372036854775807) (h0 : b < 0) :
    Calls Try.prog 18 #[.int .i64 a, .int .i64 b] w fun e w' => e = .returned (.int .i64 (Fx.clamp (a * b))) ∧ w = w' := by
  obtain ⟨hb1, hb2⟩ := hb
  obtain ⟨c, hc⟩ : ∃ c, c = -b - 1 := ⟨_, rfl⟩
  have hc0 : 0 ≤ c := by omega
  have hc1 : c < 9223372036854775808 := by omega
  have HC := Lib.hid hc
  clear hc
  go_enter Try.func18, Try.ntmps18
  go_wp2
  go_loop [5, 6] (fun s i => ∃ k : Nat, k ≤ 64 ∧ i = .int .i64 ((k : Int) - 1) ∧ s = .int .i64 (Fx.clamp (-(a * (c / 2 ^ k))))) (fun _ i => (intOf i + 1).toNat)
  case atStart => exact ⟨64, by omega, rfl, by rw [Fx.small_div c 64 hc0 (by omega) (by omega), Int.mul_zero]; rfl⟩
  case round =>
    obtain ⟨k, hk, rfl, rfl⟩ := hrel
    by_cases hlt : 1 ≤ k
    · obtain ⟨j, rfl⟩ : ∃ j, k = j + 1 := ⟨k - 1, by omega⟩
      have hcb := Fx.clamp_bd (-(a * (c / 2 ^ (j + 1))))
      have hcb2 := Fx.clamp_bd (Fx.clamp (-(a * (c / 2 ^ (j + 1)))) + Fx.clamp (-(a * (c / 2 ^ (j + 1)))))
      have hm0 : 0 ≤ c / 2 ^ (j + 1) := Int.ediv_nonneg hc0 (Int.le_of_lt (Int.pow_pos (by omega)))
      have he := Fx.half_eq c j
      have ht := Fx.turned c j (by omega)
      have hq0 : 0 ≤ (18446744073709551615 - c) / 2 ^ j := Int.ediv_nonneg (by omega) (Int.le_of_lt (Int.pow_pos (by omega)))
      have hu : IntKind.u64.wrap b = 18446744073709551615 - c := by rw [IntKind.wrap_u64, HC.out]; omega
      have htm : (IntKind.u64.wrap b / 2 ^ j).tmod 2 = 1 - c / 2 ^ j % 2 := by rw [hu, Int.tmod_eq_emod_of_nonneg hq0, ht]
      rcases (show c / 2 ^ j % 2 = 0 ∨ c / 2 ^ j % 2 = 1 by omega) with hbit | hbit
      · have hs := Fx.step_even' a (c / 2 ^ (j + 1))
        rw [show 2 * (c / 2 ^ (j + 1)) = c / 2 ^ j by omega] at hs
        have HS := Lib.hid hs
        have hbb : ((IntKind.u64.wrap b / 2 ^ j).tmod 2 == 0) = false := by rw [htm, hbit]; rfl
        clear hs he hbit ht hq0 hu htm
        go_wp2_with (first | (go_at_call 14; refine (radd_any _ _ _ (by assumption) (by assumption)).mono ?_; rintro e w' ⟨rfl, rfl⟩) | (go_at_call 16; refine (rsub_any _ _ _ (by assumption) (by assumption)).mono ?_; rintro e w' ⟨rfl, rfl⟩))
        go_round
        case rel => exact ⟨j, by omega, by go_num, by rw [HS.out]⟩
        case measure => simp [intOf]
      · have hs := Fx.step_down a (c / 2 ^ (j + 1)) hm0
        rw [show 2 * (c / 2 ^ (j + 1)) + 1 = c / 2 ^ j by omega] at hs
        have HS := Lib.hid hs
        have hbb : ((IntKind.u64.wrap b / 2 ^ j).tmod 2 == 0) = true := by rw [htm, hbit]; rfl
        clear hs he hbit ht hq0 hu htm
        go_wp2_with (first | (go_at_call 14; refine (radd_any _ _ _ (by assumption) (by assumption)).mono ?_; rintro e w' ⟨rfl, rfl⟩) | (go_at_call 16; refine (rsub_any _ _ _ (by assumption) (by assumption)).mono ?_; rintro e w' ⟨rfl, rfl⟩))
        go_round
        case rel => exact ⟨j, by omega, by go_num, by rw [HS.out]⟩
        case measure => simp [intOf]
    · obtain rfl : k = 0 := by omega
      have hcb := Fx.clamp_bd (-(a * c))
      go_wp2_with fail
      refine (rsub_any _ _ _ ?_ ha).mono ?_
      · exact hcb
      rintro e w' ⟨rfl, rfl⟩
      go_wp2
      go_ret
      exact ⟨ret_int (by have := Fx.last_down a c hc0; rw [show -c - 1 = b by rw [HC.out]; omega] at this; exact this), rfl⟩

theorem rmul_any (a b : Int) (w : World) (ha : -9223372036854775808 ≤ a ∧ a ≤ 9223372036854775807) (hb : -9223372036854775808 ≤ b ∧ b ≤ 9223372036854775807) :
    Calls Try.prog 18 #[.int .i64 a, .int .i64 b] w fun e w' => e = .returned (.int .i64 (Fx.clamp (a * b))) ∧ w = w' := by
  by_cases h0 : b < 0
  · exact rmul_neg a b w ha hb h0
  · exact rmul_pos a b w ha hb (by omega)

end Go.Proofs.Ytkccnncbmobegaa
