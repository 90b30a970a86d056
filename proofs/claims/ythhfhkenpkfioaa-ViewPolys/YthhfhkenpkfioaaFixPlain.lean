/-
  Plain facts on whole numbers for layer 1 (fix): what its functions answer, as functions on Int; no program in sight.
-/
import Derived.RowKit
import Derived.Laws.BitsLemmas
import Derived.Laws.Bits64
namespace Go.Proofs.Ythhfhkenpkfioaa.Fx
open Go.RowKit

def sat (n lo hi : Int) : Int := if n < lo then lo else if hi < n then hi else n
def clamp (n : Int) : Int := if 9223372036854775807 < n then 9223372036854775807 else if n < -9223372036854775808 then -9223372036854775808 else n
def wrapsB (a b : Int) : Bool := decide (a = -9223372036854775808 ∧ b = -1)
def floor (a b : Int) : Int := if wrapsB a b then 9223372036854775807 else a.fdiv b
def ceil (a b : Int) : Int := if wrapsB a b then 9223372036854775807 else -((-a).fdiv b)

theorem clamp_bd (n : Int) : -9223372036854775808 ≤ clamp n ∧ clamp n ≤ 9223372036854775807 := by
  unfold clamp; split <;> (try split) <;> omega
theorem clamp_in {n : Int} (h : -9223372036854775808 ≤ n ∧ n ≤ 9223372036854775807) : clamp n = n := by
  unfold clamp; rw [if_neg (by omega), if_neg (by omega)]
theorem wrapsB_true {a b : Int} (h : wrapsB a b = true) : a = -9223372036854775808 ∧ b = -1 := by simpa [wrapsB] using h
theorem wrapsB_false {a b : Int} (h : wrapsB a b = false) : ¬ (a = -9223372036854775808 ∧ b = -1) := by simpa [wrapsB] using h

/-- the amount of a quotient that is cut off is at most the dividend's -/
theorem tdiv_bd {a b : Int} (ha : -9223372036854775808 ≤ a ∧ a ≤ 9223372036854775807) (hw : ¬ (a = -9223372036854775808 ∧ b = -1)) :
    -9223372036854775808 ≤ a.tdiv b ∧ a.tdiv b ≤ 9223372036854775807 := by
  have h1 : (a.tdiv b).natAbs ≤ a.natAbs := by rw [Int.natAbs_tdiv]; exact Nat.div_le_self _ _
  rcases Int.le_total 0 a with h | h
  · omega
  · by_cases e : a = -9223372036854775808
    · by_cases e1 : b = -1
      · exact absurd ⟨e, e1⟩ hw
      · have h2 : (a.tdiv b).natAbs = a.natAbs / b.natAbs := Int.natAbs_tdiv _ _
        by_cases e2 : b = 1
        · subst e2; simp; omega
        · by_cases e0 : b = 0
          · subst e0; simp
          · have : 2 ≤ b.natAbs := by omega
            have h3 : a.natAbs / b.natAbs ≤ a.natAbs / 2 := Nat.div_le_div_left this (by omega)
            omega
    · omega

theorem tmod_tdiv (a b : Int) : a - a.tdiv b * b = a.tmod b := by
  have := Int.tmod_add_mul_tdiv a b; rw [Int.mul_comm] at this; omega

theorem tmod_sign_nonneg {a b : Int} (h : 0 ≤ a) : 0 ≤ a.tmod b := Int.tmod_nonneg b h
theorem tmod_sign_nonpos {a b : Int} (h : a ≤ 0) : a.tmod b ≤ 0 := by
  have := Int.tmod_nonneg b (a := -a) (by omega); rw [Int.neg_tmod] at this; omega

theorem dvd_tmod {a b : Int} : b ∣ a ↔ a.tmod b = 0 := Int.dvd_iff_tmod_eq_zero

/-- cut downwards, out of cut off -/
theorem fdiv_down {a b : Int} (_hb : b ≠ 0) (h : (a.tmod b != 0) = true) (hs : (decide (a < 0) != decide (b < 0)) = true) : a.fdiv b = a.tdiv b - 1 := by
  rw [Int.fdiv_eq_tdiv, if_neg (by rw [dvd_tmod]; simpa using h)]
  by_cases h1 : 0 ≤ a
  · by_cases h2 : 0 ≤ b
    · simp [show ¬ a < 0 by omega, show ¬ b < 0 by omega] at hs
    · rw [if_pos h1, if_neg h2]
  · by_cases h2 : 0 ≤ b
    · rw [if_neg h1, if_pos h2, Int.sign_eq_one_of_pos (by omega)]
    · simp [show a < 0 by omega, show b < 0 by omega] at hs
theorem fdiv_same {a b : Int} (hs : (decide (a < 0) != decide (b < 0)) = false) : a.fdiv b = a.tdiv b := by
  rw [Int.fdiv_eq_tdiv]
  by_cases h : b ∣ a
  · rw [if_pos h]; omega
  · rw [if_neg h]
    by_cases h1 : 0 ≤ a
    · by_cases h2 : 0 ≤ b
      · rw [if_pos h1, if_pos h2]; omega
      · simp [show ¬ a < 0 by omega, show b < 0 by omega] at hs
    · by_cases h2 : 0 ≤ b
      · simp [show a < 0 by omega, show ¬ b < 0 by omega] at hs
      · rw [if_neg h1, if_neg h2, Int.sign_eq_neg_one_of_neg (by omega)]; omega
theorem fdiv_whole {a b : Int} (h : (a.tmod b != 0) = false) : a.fdiv b = a.tdiv b := by
  rw [Int.fdiv_eq_tdiv, if_pos (by rw [dvd_tmod]; simpa using h)]; omega
/-- cut upwards, out of cut off -/
theorem cdiv_up {a b : Int} (hb : b ≠ 0) (h : (a.tmod b != 0) = true) (hs : (decide (a < 0) == decide (b < 0)) = true) : -((-a).fdiv b) = a.tdiv b + 1 := by
  have h0 : a ≠ 0 := by intro e; subst e; simp at h
  rw [fdiv_down hb (by rw [Int.neg_tmod]; simp at h ⊢; omega), Int.neg_tdiv]
  · omega
  · by_cases h1 : a < 0
    · by_cases h2 : b < 0
      · simp [h2]; omega
      · simp [h1, h2] at hs
    · by_cases h2 : b < 0
      · simp [h1, h2] at hs
      · simp [h2]; omega
theorem cdiv_same {a b : Int} (hs : (decide (a < 0) == decide (b < 0)) = false) : -((-a).fdiv b) = a.tdiv b := by
  by_cases h0 : a = 0
  · subst h0; simp
  · rw [fdiv_same, Int.neg_tdiv]
    · omega
    · by_cases h1 : a < 0
      · by_cases h2 : b < 0
        · simp [h1, h2] at hs
        · simp [h2]; omega
      · by_cases h2 : b < 0
        · simp [h2]; omega
        · simp [h1, h2] at hs
theorem cdiv_whole {a b : Int} (h : (a.tmod b != 0) = false) : -((-a).fdiv b) = a.tdiv b := by
  rw [fdiv_whole (by rw [Int.neg_tmod]; simp at h ⊢; omega), Int.neg_tdiv]; omega
theorem floor_eq {a b : Int} (h : wrapsB a b = false) : floor a b = a.fdiv b := by unfold floor; rw [h]; rfl
theorem ceil_eq {a b : Int} (h : wrapsB a b = false) : ceil a b = -((-a).fdiv b) := by unfold ceil; rw [h]; rfl
theorem floor_wraps {a b : Int} (h : wrapsB a b = true) : floor a b = 9223372036854775807 := by unfold floor; rw [h]; rfl
theorem ceil_wraps {a b : Int} (h : wrapsB a b = true) : ceil a b = 9223372036854775807 := by unfold ceil; rw [h]; rfl
theorem tmod_le (a b : Int) : (a.tmod b).natAbs ≤ a.natAbs := by rw [Int.natAbs_tmod]; exact Nat.mod_le _ _
theorem tmod_lt {a b : Int} (hb : b ≠ 0) : (a.tmod b).natAbs < b.natAbs := by rw [Int.natAbs_tmod]; exact Nat.mod_lt _ (by omega)
/-- where something is left, the quotient is at most half -/
theorem tdiv_half {a b : Int} (h : (a.tmod b != 0) = true) : (a.tdiv b).natAbs ≤ a.natAbs / 2 := by
  rw [Int.natAbs_tdiv]; show a.natAbs / b.natAbs ≤ a.natAbs / 2
  have h1 : a.natAbs % b.natAbs ≠ 0 := by
    rw [← Int.natAbs_tmod]; have : a.tmod b ≠ 0 := by simpa using h
    omega
  by_cases hb : 2 ≤ b.natAbs
  · exact Nat.div_le_div_left hb (by omega)
  · have : b.natAbs = 0 ∨ b.natAbs = 1 := by omega
    rcases this with e | e
    · rw [e, Nat.div_zero]; omega
    · rw [e] at h1; omega
theorem prod_bd (a b : Int) : (0 ≤ a → 0 ≤ a.tdiv b * b ∧ a.tdiv b * b ≤ a) ∧ (a ≤ 0 → a ≤ a.tdiv b * b ∧ a.tdiv b * b ≤ 0) := by
  have e := tmod_tdiv a b
  have l := tmod_le a b
  constructor
  · intro h; have := tmod_sign_nonneg (b := b) h; omega
  · intro h; have := tmod_sign_nonpos (b := b) h; omega
def low (a b : Int) : Int := if a < b then a else b
def high (a b : Int) : Int := if b < a then a else b
theorem pow_le (k m : Nat) (h : k ≤ m) : (2 : Int) ^ k ≤ 2 ^ m := by
  have := Nat.pow_le_pow_right (n := 2) (by omega) h
  have e1 : ((2 ^ k : Nat) : Int) = 2 ^ k := by simp
  have e2 : ((2 ^ m : Nat) : Int) = 2 ^ m := by simp
  omega

/-! ### products -/
theorem clamp_double (x : Int) : clamp (clamp x + clamp x) = clamp (2 * x) := by
  unfold clamp; (repeat' split) <;> omega
theorem clamp_add_same (x y : Int) (h : 0 ≤ x ∧ 0 ≤ y ∨ x ≤ 0 ∧ y ≤ 0) : clamp (clamp x + y) = clamp (x + y) := by
  unfold clamp; (repeat' split) <;> omega
theorem clamp_sub_same (x y : Int) (h : 0 ≤ x ∧ y ≤ 0 ∨ x ≤ 0 ∧ 0 ≤ y) : clamp (clamp x - y) = clamp (x - y) := by
  unfold clamp; (repeat' split) <;> omega
theorem sign_mul (a m : Int) (hm : 0 ≤ m) : (0 ≤ a → 0 ≤ a * m) ∧ (a ≤ 0 → a * m ≤ 0) := by
  constructor
  · intro h; exact Int.mul_nonneg h hm
  · intro h; exact Int.mul_nonpos_of_nonpos_of_nonneg h hm
theorem mul2 (a m : Int) : a * (2 * m) = 2 * (a * m) := by rw [← Int.mul_assoc, Int.mul_comm a 2, Int.mul_assoc]
theorem step_up (a m : Int) (hm : 0 ≤ m) : clamp (clamp (clamp (a * m) + clamp (a * m)) + a) = clamp (a * (2 * m + 1)) := by
  obtain ⟨h1, h2⟩ := sign_mul a m hm
  rw [clamp_double, clamp_add_same]
  · congr 1; rw [Int.mul_add, Int.mul_one, mul2]
  · rcases Int.le_total 0 a with h | h
    · have := h1 h; omega
    · have := h2 h; omega
theorem step_even (a m : Int) : clamp (clamp (a * m) + clamp (a * m)) = clamp (a * (2 * m)) := by
  rw [clamp_double]; congr 1; rw [mul2]
theorem step_down (a m : Int) (hm : 0 ≤ m) : clamp (clamp (clamp (-(a * m)) + clamp (-(a * m))) - a) = clamp (-(a * (2 * m + 1))) := by
  obtain ⟨h1, h2⟩ := sign_mul a m hm
  rw [clamp_double, clamp_sub_same]
  · congr 1; rw [Int.mul_add, Int.mul_one, mul2]; omega
  · rcases Int.le_total 0 a with h | h
    · have := h1 h; omega
    · have := h2 h; omega
theorem step_even' (a m : Int) : clamp (clamp (-(a * m)) + clamp (-(a * m))) = clamp (-(a * (2 * m))) := by
  rw [clamp_double]; congr 1; rw [mul2]; omega
theorem last_down (a c : Int) (hc : 0 ≤ c) : clamp (clamp (-(a * c)) - a) = clamp (a * (-c - 1)) := by
  obtain ⟨h1, h2⟩ := sign_mul a c hc
  rw [clamp_sub_same]
  · congr 1; rw [Int.mul_sub, Int.mul_one, Int.mul_neg]
  · rcases Int.le_total 0 a with h | h
    · have := h1 h; omega
    · have := h2 h; omega
/-- the next bit -/
theorem half (c : Int) (k : Nat) : c / 2 ^ (k + 1) = c / 2 ^ k / 2 := by
  rw [Int.pow_succ, Int.ediv_ediv_of_nonneg (Int.le_of_lt (Int.pow_pos (by omega)))]
theorem half_eq (c : Int) (k : Nat) : c / 2 ^ k = 2 * (c / 2 ^ (k + 1)) + c / 2 ^ k % 2 := by
  rw [half]; omega
/-- all bits turned: of 64 -/
theorem turned (c : Int) (k : Nat) (hk : k ≤ 63) : ((18446744073709551615 - c) / 2 ^ k) % 2 = 1 - c / 2 ^ k % 2 := by
  have hp : (0 : Int) < 2 ^ k := Int.pow_pos (by omega)
  have e1 := Int.mul_ediv_add_emod c (2 ^ k)
  have b1 := Int.emod_nonneg c (Int.ne_of_gt hp)
  have b2 := Int.emod_lt_of_pos c hp
  have e2 : (18446744073709551616 : Int) = 2 ^ k * (2 * 2 ^ (63 - k)) := by
    rw [← Int.mul_assoc, Int.mul_comm (2 ^ k) 2, Int.mul_assoc, ← Int.pow_add, show k + (63 - k) = 63 by omega]; decide
  have e3 : 18446744073709551615 - c = (2 ^ k - 1 - c % 2 ^ k) + 2 ^ k * (2 * 2 ^ (63 - k) - 1 - c / 2 ^ k) := by
    rw [Int.mul_sub, Int.mul_sub, ← e2, Int.mul_one]; omega
  have e4 : (18446744073709551615 - c) / 2 ^ k = 2 * 2 ^ (63 - k) - 1 - c / 2 ^ k := by
    rw [e3, Int.add_mul_ediv_left _ _ (Int.ne_of_gt hp), Int.ediv_eq_zero_of_lt (by omega) (by omega)]; omega
  rw [e4]; omega
theorem small_div (c : Int) (k : Nat) (h0 : 0 ≤ c) (h : c < 9223372036854775808) (hk : 63 ≤ k) : c / 2 ^ k = 0 := by
  apply Int.ediv_eq_zero_of_lt h0
  have := pow_le 63 k hk
  have e : (2 : Int) ^ 63 = 9223372036854775808 := by decide
  omega

/-- a product that left the ints does not lead back, but for the one whose quotient does so too -/
theorem left_ints {a b : Int} (ha : -9223372036854775808 ≤ a ∧ a ≤ 9223372036854775807) (hb : -9223372036854775808 ≤ b ∧ b ≤ 9223372036854775807) (hb0 : b ≠ 0)
    (ho : ¬ (-9223372036854775808 ≤ a * b ∧ a * b ≤ 9223372036854775807)) (hw : wrapsB a b = false) : (wrap64 ((wrap64 (a * b)).tdiv b) == a) = false := by
  have hn := wrapsB_false hw
  have hwb : -9223372036854775808 ≤ wrap64 (a * b) ∧ wrap64 (a * b) ≤ 9223372036854775807 := by unfold wrap64; omega
  rw [beq_eq_false_iff_ne]
  intro h
  by_cases hx : wrap64 (a * b) = -9223372036854775808 ∧ b = -1
  · obtain ⟨h1, rfl⟩ := hx
    unfold wrap64 at h1
    apply hn; constructor
    · omega
    · rfl
  · have ht := tdiv_bd hwb hx
    have e1 : wrap64 ((wrap64 (a * b)).tdiv b) = (wrap64 (a * b)).tdiv b := by
      generalize (wrap64 (a * b)).tdiv b = t at *
      unfold wrap64; omega
    rw [e1] at h
    have e2 := tmod_tdiv (wrap64 (a * b)) b
    have l := tmod_lt (a := wrap64 (a * b)) hb0
    rw [h] at e2
    generalize (wrap64 (a * b)).tmod b = r at *
    unfold wrap64 at e2
    omega

theorem clamp_out {a b : Int} (ho : ¬ (-9223372036854775808 ≤ a * b ∧ a * b ≤ 9223372036854775807)) :
    (a < 0 ∧ b < 0 ∧ clamp (a * b) = 9223372036854775807) ∨ (a < 0 ∧ ¬ b < 0 ∧ clamp (a * b) = -9223372036854775808)
    ∨ (¬ a < 0 ∧ b < 0 ∧ clamp (a * b) = -9223372036854775808) ∨ (¬ a < 0 ∧ ¬ b < 0 ∧ clamp (a * b) = 9223372036854775807) := by
  by_cases h1 : a < 0
  · by_cases h2 : b < 0
    · have : 0 ≤ a * b := Int.mul_nonneg_of_nonpos_of_nonpos (by omega) (by omega)
      exact .inl ⟨h1, h2, by unfold clamp; rw [if_pos (by omega)]⟩
    · have : a * b ≤ 0 := Int.mul_nonpos_of_nonpos_of_nonneg (by omega) (by omega)
      exact .inr (.inl ⟨h1, h2, by unfold clamp; rw [if_neg (by omega), if_pos (by omega)]⟩)
  · by_cases h2 : b < 0
    · have : a * b ≤ 0 := Int.mul_nonpos_of_nonneg_of_nonpos (by omega) (by omega)
      exact .inr (.inr (.inl ⟨h1, h2, by unfold clamp; rw [if_neg (by omega), if_pos (by omega)]⟩))
    · have : 0 ≤ a * b := Int.mul_nonneg (by omega) (by omega)
      exact .inr (.inr (.inr ⟨h1, h2, by unfold clamp; rw [if_pos (by omega)]⟩))

/-! ### rounding -/
def round (n b : Int) : Int := if b = 0 then n else (n + 2 ^ (b.toNat - 1)) / 2 ^ b.toNat
theorem bits_one (x : Int) : bits .and .i64 x 1 = x % 2 := by
  have e : bits .and .i64 x 1 = IntKind.i64.wrap (((BitVec.ofInt 64 x &&& BitVec.ofInt 64 1).toNat : Nat) : Int) := rfl
  rw [e, BitVec.toNat_and, show (BitVec.ofInt 64 1).toNat = 1 by decide, Nat.and_one_is_mod, BitVec.toNat_ofInt, IntKind.wrap_i64]
  omega
theorem round_bits (n b : Int) (h1 : 1 ≤ b) : round n b = n / 2 ^ b.toNat + n / 2 ^ (b.toNat - 1) % 2 := by
  obtain ⟨k, rfl⟩ : ∃ k : Nat, b = (k : Int) + 1 := ⟨(b - 1).toNat, by omega⟩
  have ek : ((k : Int) + 1).toNat = k + 1 := by omega
  unfold round
  rw [if_neg (by omega), ek, Nat.add_sub_cancel, half, half]
  have hp : (0 : Int) < 2 ^ k := Int.pow_pos (by omega)
  have : (n + 2 ^ k) / 2 ^ k = n / 2 ^ k + 1 := by
    have := Int.add_mul_ediv_left n 1 (Int.ne_of_gt hp); rwa [Int.mul_one] at this
  rw [this]; omega
theorem div_pow_bd (n : Int) (k : Nat) (hn : -9223372036854775808 ≤ n ∧ n ≤ 9223372036854775807) : -4611686018427387904 ≤ n / 2 ^ (k + 1) ∧ n / 2 ^ (k + 1) ≤ 4611686018427387903 := by
  have hp : (0 : Int) < 2 ^ k := Int.pow_pos (by omega)
  rw [Int.pow_succ, Int.mul_comm, ← Int.ediv_ediv_of_nonneg (by omega)]
  constructor
  · have h1 : -4611686018427387904 ≤ n / 2 := by omega
    have := Int.le_ediv_of_mul_le (a := -4611686018427387904) (b := n / 2) hp
    apply this
    have : (-4611686018427387904 : Int) * 2 ^ k ≤ -4611686018427387904 * 1 := Int.mul_le_mul_of_nonpos_left (by omega) (by omega)
    omega
  · have h1 : n / 2 ≤ 4611686018427387903 := by omega
    apply Int.ediv_le_of_le_mul hp
    have : (4611686018427387903 : Int) * 1 ≤ 4611686018427387903 * 2 ^ k := Int.mul_le_mul_of_nonneg_left (by omega) (by omega)
    omega
theorem round_ref (n : Int) (k : Nat) : (2 ^ (k + 1) / 2 ≤ n - n / 2 ^ (k + 1) * 2 ^ (k + 1) ↔ n / 2 ^ k % 2 = 1) ∧ 0 ≤ n - n / 2 ^ (k + 1) * 2 ^ (k + 1) ∧ n - n / 2 ^ (k + 1) * 2 ^ (k + 1) < 2 ^ (k + 1) := by
  have hp : (0 : Int) < 2 ^ k := Int.pow_pos (by omega)
  have e1 := Int.mul_ediv_add_emod n (2 ^ k)
  have b1 := Int.emod_nonneg n (Int.ne_of_gt hp)
  have b2 := Int.emod_lt_of_pos n hp
  have e0 : (2 : Int) ^ (k + 1) = 2 * 2 ^ k := by rw [Int.pow_succ, Int.mul_comm]
  have e2 : n / 2 ^ (k + 1) * 2 ^ (k + 1) = 2 ^ k * (2 * (n / 2 ^ (k + 1))) := by
    conv => lhs; rw [Int.pow_succ]
    rw [Int.pow_succ, Int.mul_comm, Int.mul_assoc]
  have e3 := half_eq n k
  have e4 : 2 ^ k * (n / 2 ^ k) = 2 ^ k * (2 * (n / 2 ^ (k + 1))) + 2 ^ k * (n / 2 ^ k % 2) := by
    conv => lhs; rw [e3]
    rw [Int.mul_add]
  rw [e2]
  generalize (2 : Int) ^ k * (2 * (n / 2 ^ (k + 1))) = X at *
  rw [e0]
  have hd : n / 2 ^ k % 2 = 0 ∨ n / 2 ^ k % 2 = 1 := by omega
  rcases hd with h | h
  · rw [h] at e4 ⊢; rw [Int.mul_zero] at e4; omega
  · rw [h] at e4 ⊢; rw [Int.mul_one] at e4; omega

theorem low_pow (n : Int) (k : Nat) (hk : k ≤ 63) (hn : -9223372036854775808 ≤ n) : -9223372036854775808 ≤ n / 2 ^ k * 2 ^ k := by
  have hp : (0 : Int) < 2 ^ k := Int.pow_pos (by omega)
  have e : (-9223372036854775808 : Int) = -(2 ^ (63 - k)) * 2 ^ k := by
    rw [Int.neg_mul, ← Int.pow_add, show 63 - k + k = 63 by omega]; decide
  rw [e] at hn ⊢
  exact Int.mul_le_mul_of_nonneg_right (Int.le_ediv_of_mul_le hp hn) (Int.le_of_lt hp)

/-! ### from one number to another one -/
def lerp (a b t : Int) : Int := a + (b - a) * sat t 0 65536 / 65536
theorem sat_bd (t lo hi : Int) (h : lo ≤ hi) : lo ≤ sat t lo hi ∧ sat t lo hi ≤ hi := by unfold sat; (repeat' split) <;> omega
theorem mul_between (x y : Int) (h0 : 0 ≤ y) (h1 : y ≤ 65536) : (0 ≤ x → 0 ≤ x * y ∧ x * y ≤ x * 65536) ∧ (x ≤ 0 → x * 65536 ≤ x * y ∧ x * y ≤ 0) := by
  constructor
  · intro h; exact ⟨Int.mul_nonneg h h0, Int.mul_le_mul_of_nonneg_left h1 h⟩
  · intro h; exact ⟨Int.mul_le_mul_of_nonpos_left h h1, Int.mul_nonpos_of_nonpos_of_nonneg h h0⟩
theorem floor_pos {a b : Int} (h : 0 < b) : floor a b = a / b := by
  rw [floor_eq (by simp [wrapsB]; omega), Int.fdiv_eq_ediv_of_nonneg _ (by omega)]
theorem ceil_pos {a b : Int} (h : 0 < b) : ceil a b = -(-a / b) := by
  rw [ceil_eq (by simp [wrapsB]; omega), Int.fdiv_eq_ediv_of_nonneg _ (by omega)]
theorem ceil_floor {a b : Int} (h : 0 < b) : ceil a b = if a % b = 0 then floor a b else floor a b + 1 := by
  rw [ceil_pos h, floor_pos h, Int.neg_ediv]
  have : b ∣ a ↔ a % b = 0 := Int.dvd_iff_emod_eq_zero
  by_cases e : a % b = 0
  · rw [if_pos (this.2 e), if_pos e]; omega
  · rw [if_neg (fun h => e (this.1 h)), if_neg e, Int.sign_eq_one_of_pos h]; omega
end Go.Proofs.Ythhfhkenpkfioaa.Fx
