/-
  Plain facts on whole numbers for layer 2 (wide), fourth part: quotients cut downwards, out of amounts.
-/
import Derived.Test.YtiigbpfoaoekhaaWidePlain3
namespace Go.Proofs.Ytiigbpfoaoekhaa.Wd
open Go.RowKit
set_option linter.unusedVariables false

/-- a quotient of two words by one, as words -/
def dq (h l y : Int) : Int := (h * 18446744073709551616 + l) / y
def dr (h l y : Int) : Int := (h * 18446744073709551616 + l) % y
/-- the quotient cut downwards; whether it is an int; what is answered -/
def fl (x b : Int) : Int := (sx x).fdiv b
def isInt (n : Int) : Prop := -9223372036854775808 ≤ n ∧ n ≤ 9223372036854775807
instance (n : Int) : Decidable (isInt n) := by unfold isInt; infer_instance
def fq (x b : Int) : Int := if isInt (fl x b) then fl x b else 0
def fe (x b : Int) : Int := if isInt (fl x b) then 0 else 3
theorem fq_in {x b : Int} (h : isInt (fl x b)) : fq x b = fl x b ∧ fe x b = 0 := by unfold fq fe; rw [if_pos h, if_pos h]; exact ⟨rfl, rfl⟩
theorem fq_out {x b : Int} (h : ¬ isInt (fl x b)) : fq x b = 0 ∧ fe x b = 3 := by unfold fq fe; rw [if_neg h, if_neg h]; exact ⟨rfl, rfl⟩

theorem am_bd (x : Int) : 0 ≤ am x ∧ am x ≤ 170141183460469231731687303715884105728 := by
  have := hi_bd x; have := lo_bd x
  unfold am sx; split <;> omega
theorem a_bd (x : Int) : 0 ≤ ahi x ∧ ahi x ≤ 18446744073709551615 ∧ 0 ≤ alo x ∧ alo x ≤ 18446744073709551615 ∧ am x = ahi x * 18446744073709551616 + alo x := by
  have := am_bd x
  unfold ahi alo; omega
theorem sx_int {b : Int} (hb : isInt b) : sx b = b := by unfold isInt at hb; unfold sx hi lo wrap64; omega
theorem alo_int {b : Int} (hb : isInt b) : alo b = if b < 0 then -b else b := by
  have e := sx_int hb
  unfold isInt at hb
  unfold alo am
  rw [e]
  have : hi b < 0 ↔ b < 0 := by unfold hi wrap64; omega
  by_cases h : b < 0
  · rw [if_pos h, if_pos (this.2 h)]; omega
  · rw [if_neg h, if_neg (fun k => h (this.1 k))]; omega
theorem fl_same {x b : Int} (hb : isInt b) (hb0 : b ≠ 0) (hs : hi x < 0 ↔ b < 0) : fl x b = dq (ahi x) (alo x) (alo b) := by
  have e := (a_bd x).2.2.2.2
  unfold fl dq
  rw [← e, alo_int hb]
  unfold am
  by_cases h : b < 0
  · rw [if_pos h, if_pos (hs.2 h), ← Int.fdiv_eq_ediv_of_nonneg _ (by omega), Int.neg_fdiv_neg]
  · rw [if_neg h, if_neg (fun k => h (hs.1 k)), ← Int.fdiv_eq_ediv_of_nonneg _ (by omega)]
theorem neg_down (A B : Int) (hB : 0 < B) : (-A).fdiv B = -(A / B) - (if A % B = 0 then 0 else 1) := by
  rw [Int.fdiv_eq_ediv_of_nonneg _ (by omega)]
  have e := Int.mul_ediv_add_emod A B
  have b1 := Int.emod_nonneg A (b := B) (by omega)
  have b2 := Int.emod_lt_of_pos A hB
  by_cases h : A % B = 0
  · rw [if_pos h]
    rw [h] at e
    rw [show -A = 0 + B * (-(A / B)) by grind, Int.add_mul_ediv_left _ _ (by omega), Int.zero_ediv]; omega
  · rw [if_neg h]
    rw [show -A = (B - A % B) + B * (-(A / B) - 1) by grind, Int.add_mul_ediv_left _ _ (by omega), Int.ediv_eq_zero_of_lt (by omega) (by omega)]; omega
theorem fl_other {x b : Int} (hb : isInt b) (hb0 : b ≠ 0) (hs : ¬ (hi x < 0 ↔ b < 0)) :
    fl x b = -(dq (ahi x) (alo x) (alo b)) - (if dr (ahi x) (alo x) (alo b) = 0 then 0 else 1) := by
  have e := (a_bd x).2.2.2.2
  unfold fl dq dr
  rw [← e, alo_int hb]
  unfold am
  by_cases h : b < 0
  · have hx : ¬ hi x < 0 := fun k => hs ⟨fun _ => h, fun _ => k⟩
    rw [if_pos h, if_neg hx, ← neg_down _ _ (by omega), Int.neg_fdiv_neg]
  · have hx : hi x < 0 := Classical.not_not.1 fun k => hs ⟨fun k' => absurd k' k, fun k' => absurd k' h⟩
    rw [if_neg h, if_pos hx, ← neg_down _ _ (by omega), Int.neg_neg]
/-- where the upper word is no less than the divisor the quotient is no int -/
theorem fl_far {x b : Int} (hb : isInt b) (hb0 : b ≠ 0) (h : alo b ≤ ahi x) : ¬ isInt (fl x b) := by
  have hA := a_bd x
  have hB : 0 < alo b := by rw [alo_int hb]; split <;> omega
  have hq : 18446744073709551616 ≤ dq (ahi x) (alo x) (alo b) := by
    unfold dq
    apply Int.le_ediv_of_mul_le hB
    have : 18446744073709551616 * alo b ≤ ahi x * 18446744073709551616 := by omega
    omega
  by_cases hs : hi x < 0 ↔ b < 0
  · rw [fl_same hb hb0 hs]; unfold isInt; omega
  · rw [fl_other hb hb0 hs]; unfold isInt; split <;> omega
theorem dq_bd {h l y : Int} (h0 : 0 ≤ h) (h1 : h < y) (l0 : 0 ≤ l) (l1 : l ≤ 18446744073709551615) : 0 ≤ dq h l y ∧ dq h l y ≤ 18446744073709551615 ∧ 0 ≤ dr h l y ∧ dr h l y < y := by
  unfold dq dr
  have : (h * 18446744073709551616 + l) / y < 18446744073709551616 := Int.ediv_lt_of_lt_mul (by omega) (by omega)
  exact ⟨Int.ediv_nonneg (by omega) (by omega), by omega, Int.emod_nonneg _ (by omega), Int.emod_lt_of_pos _ (by omega)⟩
theorem mul_bd {a b : Int} (ha : isInt a) (hb : isInt b) : -85070591730234615865843651857942052864 ≤ a * b ∧ a * b ≤ 85070591730234615865843651857942052864 := by
  have h1 : (a * b).natAbs ≤ 9223372036854775808 * 9223372036854775808 := by
    rw [Int.natAbs_mul]; unfold isInt at ha hb; exact Nat.mul_le_mul (by omega) (by omega)
  omega
theorem sx_mul {a b : Int} (ha : isInt a) (hb : isInt b) : sx (a * b) = a * b := by
  have := mul_bd ha hb
  generalize a * b = z at *
  unfold sx hi lo wrap64; omega
/-- what must come at any rate -/
theorem wake1 : hi (1099511627776 * 1099511627776) = 65536 ∧ lo (1099511627776 * 1099511627776) = 0 := by unfold hi lo wrap64; omega
theorem wake2 : fq (4611686018427387904 * 6) 8 = 3458764513820540928 ∧ fe (4611686018427387904 * 6) 8 = 0 := by
  have e : fl (4611686018427387904 * 6) 8 = 3458764513820540928 := by
    unfold fl; rw [sx_mul (by unfold isInt; omega) (by unfold isInt; omega)]; decide
  have := fq_in (x := 4611686018427387904 * 6) (b := 8) (by rw [e]; unfold isInt; omega)
  rwa [e] at this
theorem wake3 : fq (-1 * 1) 2 = -1 ∧ fe (-1 * 1) 2 = 0 := by
  have e : fl (-1 * 1) 2 = -1 := by
    unfold fl; rw [sx_mul (by unfold isInt; omega) (by unfold isInt; omega)]; decide
  have := fq_in (x := -1 * 1) (b := 2) (by rw [e]; unfold isInt; omega)
  rwa [e] at this
end Go.Proofs.Ytiigbpfoaoekhaa.Wd
