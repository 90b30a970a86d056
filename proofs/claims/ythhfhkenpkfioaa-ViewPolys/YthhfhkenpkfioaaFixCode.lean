/-
  Contracts of layer 1 (fix): what its functions return, for every input; the world stays as it was. (FixWalks beside Mem.)
-/
import Derived.Test.YthhfhkenpkfioaaMem
import Derived.Test.YthhfhkenpkfioaaFixPlain
namespace Go.Proofs.Ythhfhkenpkfioaa
open Go.RowKit

set_option maxHeartbeats 400000 in
theorem wraps_any (a b : Int) (w : World) :
    Calls Try.prog 32 #[.int .i64 a, .int .i64 b] w fun e w' => e = .returned (.bool (Fx.wrapsB a b)) ∧ w = w' := by
  go_enter Try.func32, Try.ntmps32
  go_wp2
  all_goals go_ret
  all_goals exact ⟨ret_bool (by rw [Bool.eq_iff_iff]; simp [Fx.wrapsB, *]), rfl⟩

set_option maxHeartbeats 400000 in
theorem sat_any (n lo hi : Int) (w : World) :
    Calls Try.prog 24 #[.int .i64 n, .int .i64 lo, .int .i64 hi] w fun e w' => e = .returned (.int .i64 (Fx.sat n lo hi)) ∧ w = w' := by
  go_enter Try.func24, Try.ntmps24
  go_wp2
  all_goals go_ret
  all_goals exact ⟨ret_int (by unfold Fx.sat; (repeat' split) <;> omega), rfl⟩

set_option maxHeartbeats 400000 in
theorem rsat_any (n lo hi : Int) (w : World) :
    Calls Try.prog 19 #[.int .i64 n, .int .i64 lo, .int .i64 hi] w fun e w' => e = .returned (.int .i64 (Fx.sat n lo hi)) ∧ w = w' := by
  go_enter Try.func19, Try.ntmps19
  go_wp2
  all_goals go_ret
  all_goals exact ⟨ret_int (by unfold Fx.sat; (repeat' split) <;> omega), rfl⟩

set_option maxHeartbeats 400000 in
theorem sub_any (a b : Int) (w : World) (ha : -9223372036854775808 ≤ a ∧ a ≤ 9223372036854775807) (hb : -9223372036854775808 ≤ b ∧ b ≤ 9223372036854775807) :
    Calls Try.prog 17 #[.int .i64 a, .int .i64 b] w fun e w' => e = .returned (.int .i64 (Fx.clamp (a - b))) ∧ w = w' := by
  obtain ⟨ha1, ha2⟩ := ha
  obtain ⟨hb1, hb2⟩ := hb
  go_enter Try.func17, Try.ntmps17
  go_wp2
  all_goals go_ret
  all_goals exact ⟨ret_int (by unfold Fx.clamp; (repeat' split) <;> omega), rfl⟩

theorem floor_zero (a : Int) (w : World) :
    Calls Try.prog 29 #[.int .i64 a, .int .i64 0] w fun e w' => e = .returned (.tuple #[.int .i64 0, .int .i64 2]) ∧ w = w' := by
  go_enter Try.func29, Try.ntmps29
  go_wp2
  go_ret2
  exact ⟨rfl, rfl⟩

theorem floor_cases {a b : Int} (hb : b ≠ 0) (hw : Fx.wrapsB a b = false) (hm : (a.tmod b != 0) = true) :
    (a < 0 ∧ b < 0 ∧ (Fx.floor a b) = a.tdiv b) ∨ (a < 0 ∧ ¬ b < 0 ∧ (Fx.floor a b) = a.tdiv b - 1)
    ∨ (¬ a < 0 ∧ b < 0 ∧ (Fx.floor a b) = a.tdiv b - 1) ∨ (¬ a < 0 ∧ ¬ b < 0 ∧ (Fx.floor a b) = a.tdiv b) := by
  rw [Fx.floor_eq hw]
  by_cases h1 : a < 0
  · by_cases h2 : b < 0
    · exact .inl ⟨h1, h2, Fx.fdiv_same (by simp [h1, h2])⟩
    · exact .inr (.inl ⟨h1, h2, Fx.fdiv_down hb hm (by simp [h1, h2])⟩)
  · by_cases h2 : b < 0
    · exact .inr (.inr (.inl ⟨h1, h2, Fx.fdiv_down hb hm (by simp [h1, h2])⟩))
    · exact .inr (.inr (.inr ⟨h1, h2, Fx.fdiv_same (by simp [h1, h2])⟩))

theorem floor_fits (a b : Int) (ha : -9223372036854775808 ≤ a ∧ a ≤ 9223372036854775807) (hb : b ≠ 0) (hw : Fx.wrapsB a b = false) : -9223372036854775808 ≤ (Fx.floor a b) ∧ (Fx.floor a b) ≤ 9223372036854775807 := by
  have ht := Fx.tdiv_bd ha (Fx.wrapsB_false hw)
  rcases hm : (a.tmod b != 0) with _ | _
  · rw [Fx.floor_eq hw, Fx.fdiv_whole hm]; exact ht
  · have hh := Fx.tdiv_half hm
    rcases floor_cases hb hw hm with ⟨_, _, e⟩ | ⟨_, _, e⟩ | ⟨_, _, e⟩ | ⟨_, _, e⟩ <;> rw [e] <;> omega

set_option maxHeartbeats 400000 in
theorem floor_ok (a b : Int) (w : World) (ha : -9223372036854775808 ≤ a ∧ a ≤ 9223372036854775807) (hb : b ≠ 0) :
    Calls Try.prog 29 #[.int .i64 a, .int .i64 b] w fun e w' => e = .returned (.tuple #[.int .i64 (Fx.floor a b), .int .i64 0]) ∧ w = w' := by
  have hb0 : (b == 0) = false := by simpa using hb
  rcases hw : Fx.wrapsB a b with _ | _
  · obtain ⟨ht1, ht2⟩ := Fx.tdiv_bd ha (Fx.wrapsB_false hw)
    obtain ⟨hf1, hf2⟩ := floor_fits a b ha hb hw
    rcases hm : (a.tmod b != 0) with _ | _
    · have e : (Fx.floor a b) = a.tdiv b := by rw [Fx.floor_eq hw, Fx.fdiv_whole hm]
      rw [e]
      clear e hf1 hf2
      go_enter Try.func29, Try.ntmps29
      go_wp2_with ((go_at_call 32; refine (wraps_any _ _ _).mono ?_; rintro e w' ⟨rfl, rfl⟩))
      go_ret2
      exact ⟨rfl, rfl⟩
    · rcases floor_cases hb hw hm with ⟨h1, h2, e⟩ | ⟨h1, h2, e⟩ | ⟨h1, h2, e⟩ | ⟨h1, h2, e⟩
      all_goals
        have hm2 : 0 ≤ a → (a % b != 0) = true := fun h => by rw [← Int.tmod_eq_emod_of_nonneg h]; exact hm
        first | (have hm3 := hm2 (by omega)) | skip
        clear hm2
        have hd1 : decide (a < 0) = decide (a < 0) := rfl
        have hd2 : decide (b < 0) = decide (b < 0) := rfl
        conv at hd1 => rhs; simp only [h1, decide_true, decide_false]
        conv at hd2 => rhs; simp only [h2, decide_true, decide_false]
        rw [e] at hf1 hf2 ⊢
        clear e
        go_enter Try.func29, Try.ntmps29
        go_wp2_with ((go_at_call 32; refine (wraps_any _ _ _).mono ?_; rintro e w' ⟨rfl, rfl⟩))
        go_ret2
        exact ⟨rfl, rfl⟩
  · rw [Fx.floor_wraps hw]
    go_enter Try.func29, Try.ntmps29
    go_wp2_with ((go_at_call 32; refine (wraps_any _ _ _).mono ?_; rintro e w' ⟨rfl, rfl⟩))
    go_ret2
    exact ⟨rfl, rfl⟩

theorem ceil_cases {a b : Int} (hb : b ≠ 0) (hw : Fx.wrapsB a b = false) (hm : (a.tmod b != 0) = true) :
    (a < 0 ∧ b < 0 ∧ (Fx.ceil a b) = a.tdiv b + 1) ∨ (a < 0 ∧ ¬ b < 0 ∧ (Fx.ceil a b) = a.tdiv b)
    ∨ (¬ a < 0 ∧ b < 0 ∧ (Fx.ceil a b) = a.tdiv b) ∨ (¬ a < 0 ∧ ¬ b < 0 ∧ (Fx.ceil a b) = a.tdiv b + 1) := by
  rw [Fx.ceil_eq hw]
  by_cases h1 : a < 0
  · by_cases h2 : b < 0
    · exact .inl ⟨h1, h2, Fx.cdiv_up hb hm (by simp [h1, h2])⟩
    · exact .inr (.inl ⟨h1, h2, Fx.cdiv_same (by simp [h1, h2])⟩)
  · by_cases h2 : b < 0
    · exact .inr (.inr (.inl ⟨h1, h2, Fx.cdiv_same (by simp [h1, h2])⟩))
    · exact .inr (.inr (.inr ⟨h1, h2, Fx.cdiv_up hb hm (by simp [h1, h2])⟩))

theorem ceil_fits (a b : Int) (ha : -9223372036854775808 ≤ a ∧ a ≤ 9223372036854775807) (hb : b ≠ 0) (hw : Fx.wrapsB a b = false) : -9223372036854775808 ≤ (Fx.ceil a b) ∧ (Fx.ceil a b) ≤ 9223372036854775807 := by
  have ht := Fx.tdiv_bd ha (Fx.wrapsB_false hw)
  rcases hm : (a.tmod b != 0) with _ | _
  · rw [Fx.ceil_eq hw, Fx.cdiv_whole hm]; exact ht
  · have hh := Fx.tdiv_half hm
    rcases ceil_cases hb hw hm with ⟨_, _, e⟩ | ⟨_, _, e⟩ | ⟨_, _, e⟩ | ⟨_, _, e⟩ <;> rw [e] <;> omega

set_option maxHeartbeats 400000 in
theorem rfloor_any (a b : Int) (w : World) (ha : -9223372036854775808 ≤ a ∧ a ≤ 9223372036854775807) (hb : b ≠ 0) :
    Calls Try.prog 20 #[.int .i64 a, .int .i64 b] w fun e w' => e = .returned (.int .i64 (Fx.floor a b)) ∧ w = w' := by
  have hb0 : (b == 0) = false := by simpa using hb
  rcases hw : Fx.wrapsB a b with _ | _
  · obtain ⟨ht1, ht2⟩ := Fx.tdiv_bd ha (Fx.wrapsB_false hw)
    obtain ⟨hf1, hf2⟩ := floor_fits a b ha hb hw
    obtain ⟨hp1, hp2⟩ := Fx.prod_bd a b
    have hr := Fx.tmod_tdiv a b
    have hn := Fx.wrapsB_false hw
    have hpb1 : -9223372036854775808 ≤ a.tdiv b * b := by omega
    have hpb2 : a.tdiv b * b ≤ 9223372036854775807 := by omega
    have hrb1 : -9223372036854775808 ≤ a - a.tdiv b * b := by omega
    have hrb2 : a - a.tdiv b * b ≤ 9223372036854775807 := by omega
    have hor : (a == -9223372036854775808) = false ∨ (a == -9223372036854775808) = true ∧ (b == -1) = false := by
      by_cases hx : a = -9223372036854775808
      · exact .inr ⟨by simpa using hx, by simp; intro hy; exact hn ⟨hx, hy⟩⟩
      · exact .inl (by simpa using hx)
    rcases hm : (a.tmod b != 0) with _ | _
    · have e : (Fx.floor a b) = a.tdiv b := by rw [Fx.floor_eq hw, Fx.fdiv_whole hm]
      have hz : a.tmod b = 0 := by simpa using hm
      have hz1 : 0 ≤ a - a.tdiv b * b := by omega
      have hz2 : a - a.tdiv b * b ≤ 0 := by omega
      rw [e]
      clear e hf1 hf2 hp1 hp2 hr hz hm hw hn
      rcases hor with hx | ⟨hx, hy⟩
      all_goals
        go_enter Try.func20, Try.ntmps20
        go_wp2
        go_ret
        exact ⟨rfl, rfl⟩
    · have hz : a.tmod b ≠ 0 := by simpa using hm
      have hs1 := @Fx.tmod_sign_nonneg a b
      have hs2 := @Fx.tmod_sign_nonpos a b
      rcases floor_cases hb hw hm with ⟨h1, h2, e⟩ | ⟨h1, h2, e⟩ | ⟨h1, h2, e⟩ | ⟨h1, h2, e⟩
      all_goals
        first
          | have hz1 : a - a.tdiv b * b < 0 := by omega
          | have hz1 : 0 < a - a.tdiv b * b := by omega
        rw [e] at hf1 hf2 ⊢
        clear e hp1 hp2 hr hz hm hw hs1 hs2 hn
        rcases hor with hx | ⟨hx, hy⟩
        all_goals
          go_enter Try.func20, Try.ntmps20
          go_wp2
          go_ret
          exact ⟨rfl, rfl⟩
  · obtain ⟨rfl, rfl⟩ := Fx.wrapsB_true hw
    rw [Fx.floor_wraps hw]
    clear hw ha hb
    go_enter Try.func20, Try.ntmps20
    go_wp2
    go_ret
    exact ⟨rfl, rfl⟩

end Go.Proofs.Ythhfhkenpkfioaa
