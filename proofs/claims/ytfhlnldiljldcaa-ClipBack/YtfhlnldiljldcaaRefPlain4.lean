/-
  Plain facts on whole numbers for layer 2: digits held against each other, single bits, a quotient bit by bit.
-/
import Derived.Test.YtfhlnldiljldcaaWidePlain4
namespace Go.Proofs.Ytfhlnldiljldcaa.Wd
open Go.RowKit
set_option linter.unusedVariables false

theorem top_digit (x : Int) : 32768 ≤ dg x 7 ↔ hi x < 0 := by
  unfold dg hi wrap64
  simp only [Int.pow_succ, Int.pow_zero]
  omega
/-- less, both without a sign -/
def ltD (x y : Int) : Bool := decide (x % 340282366920938463463374607431768211456 < y % 340282366920938463463374607431768211456)
/-- digits hang on the number modulo 2^128 alone -/
theorem dg_same {x y : Int} (h : x % 340282366920938463463374607431768211456 = y % 340282366920938463463374607431768211456) {j : Nat} (hj : j < 8) : dg x j = dg y j := by
  unfold dg
  rcases j with _ | _ | _ | _ | _ | _ | _ | _ | j
  all_goals first | omega | (simp only [Int.pow_succ, Int.pow_zero, Nat.reduceAdd]; omega)
/-- from digit k on they are the same -/
def Top (x y : Int) (k : Nat) : Prop := x % 340282366920938463463374607431768211456 / 65536 ^ k = y % 340282366920938463463374607431768211456 / 65536 ^ k
theorem dg_low (x : Int) {m : Nat} (hm : m < 8) : dg x m = x % 340282366920938463463374607431768211456 / 65536 ^ m % 65536 :=
  dg_same (y := x % 340282366920938463463374607431768211456) (by omega) hm
theorem next_digit (z : Int) (m : Nat) : z / 65536 ^ m = 65536 * (z / 65536 ^ (m + 1)) + z / 65536 ^ m % 65536 := by
  rw [Int.pow_succ, ← Int.ediv_ediv_of_nonneg (Int.le_of_lt (pw m))]; omega
theorem top_start (x y : Int) : Top x y 8 := by
  unfold Top
  have e : (65536 : Int) ^ 8 = 340282366920938463463374607431768211456 := by decide
  rw [e]; omega
theorem Top.down {x y : Int} {m : Nat} (hm : m < 8) (h : Top x y (m + 1)) (he : dg x m = dg y m) : Top x y m := by
  unfold Top at *
  rw [dg_low x hm, dg_low y hm] at he
  rw [next_digit (x % _) m, next_digit (y % _) m, h, he]
theorem ltD_at {x y : Int} {m : Nat} (hm : m < 8) (h : Top x y (m + 1)) (hne : dg x m ≠ dg y m) : decide (dg x m < dg y m) = ltD x y := by
  unfold ltD
  rw [decide_eq_decide]
  rw [dg_low x hm, dg_low y hm] at *
  unfold Top at h
  have e1 := next_digit (x % 340282366920938463463374607431768211456) m
  have e2 := next_digit (y % 340282366920938463463374607431768211456) m
  have hp := pw m
  generalize x % 340282366920938463463374607431768211456 = X at *
  generalize y % 340282366920938463463374607431768211456 = Y at *
  have g1 : X ≤ Y → X / 65536 ^ m ≤ Y / 65536 ^ m := fun k => Int.ediv_le_ediv hp k
  have g2 : Y ≤ X → Y / 65536 ^ m ≤ X / 65536 ^ m := fun k => Int.ediv_le_ediv hp k
  generalize X / 65536 ^ m = p at *
  generalize Y / 65536 ^ m = q at *
  omega
theorem ltD_none {x y : Int} (h : Top x y 0) : ltD x y = false := by
  unfold Top at h
  rw [Int.pow_zero, Int.ediv_one, Int.ediv_one] at h
  unfold ltD
  rw [decide_eq_false_iff_not]
  omega
theorem am_mod_neg {x : Int} (h : hi x < 0) : (-x) % 340282366920938463463374607431768211456 = am x % 340282366920938463463374607431768211456 := by
  unfold am; rw [if_pos h]; unfold sx hi lo wrap64 at *; omega
theorem am_mod_pos {x : Int} (h : ¬ hi x < 0) : x % 340282366920938463463374607431768211456 = am x % 340282366920938463463374607431768211456 := by
  unfold am; rw [if_neg h]; unfold sx hi lo wrap64 at *; omega

/-- one bit -/
def bt (x : Int) (k : Nat) : Int := x / 2 ^ k % 2
theorem bt_bd (x : Int) (k : Nat) : 0 ≤ bt x k ∧ bt x k ≤ 1 := by unfold bt; omega
theorem half_pow (n : Int) (i : Nat) : n / 2 ^ i / 2 = n / 2 ^ (i + 1) := by rw [Int.pow_succ, Int.ediv_ediv_of_nonneg (Int.le_of_lt (pow2 i))]
theorem dg_bit (x : Int) (k : Nat) : dg x (k / 16) / 2 ^ (k % 16) % 2 = bt x k := by
  have hk : k = 16 * (k / 16) + k % 16 := by omega
  have hc : k % 16 < 16 := Nat.mod_lt _ (by omega)
  unfold bt dg
  rw [show (2 : Int) ^ k = 65536 ^ (k / 16) * 2 ^ (k % 16) by
    conv => lhs; rw [hk, Int.pow_add, Int.pow_mul]
    rfl]
  rw [← Int.ediv_ediv_of_nonneg (Int.le_of_lt (pw (k / 16)))]
  generalize x / 65536 ^ (k / 16) = z
  generalize k % 16 = c at *
  rcases c with _ | _ | _ | _ | _ | _ | _ | _ | _ | _ | _ | _ | _ | _ | _ | _ | c
  all_goals first | omega | (simp only [Int.pow_succ, Int.pow_zero, Nat.reduceAdd]; omega)

/-- the quotient and what is left, behind the bits from k on -/
def lq (m B : Int) (k : Nat) : Int := m / 2 ^ k / B
def lr (m B : Int) (k : Nat) : Int := m / 2 ^ k % B
theorem long_step (m B : Int) (k : Nat) (hB : 0 < B) :
    (2 * lr m B (k + 1) + bt m k < B → lq m B k = 2 * lq m B (k + 1) ∧ lr m B k = 2 * lr m B (k + 1) + bt m k) ∧
    (B ≤ 2 * lr m B (k + 1) + bt m k → lq m B k = 2 * lq m B (k + 1) + 1 ∧ lr m B k = 2 * lr m B (k + 1) + bt m k - B) := by
  unfold lq lr bt
  rw [← half_pow]
  generalize m / 2 ^ k = z
  have e1 := Int.mul_ediv_add_emod (z / 2) B
  have b1 := Int.emod_nonneg (z / 2) (b := B) (by omega)
  have b2 := Int.emod_lt_of_pos (z / 2) hB
  have e2 : z = 2 * (z / 2) + z % 2 := by omega
  generalize z / 2 / B = q at *
  generalize z / 2 % B = r at *
  constructor
  · intro h
    have e : z = (2 * r + z % 2) + B * (2 * q) := by grind
    have d1 : z / B = 2 * q := by
      conv => lhs; rw [e]
      rw [Int.add_mul_ediv_left _ _ (by omega), Int.ediv_eq_zero_of_lt (by omega) h]; omega
    have d2 : z % B = 2 * r + z % 2 := by
      conv => lhs; rw [e]
      rw [Int.add_mul_emod_self_left, Int.emod_eq_of_lt (by omega) h]
    exact ⟨d1, d2⟩
  · intro h
    have e : z = (2 * r + z % 2 - B) + B * (2 * q + 1) := by grind
    have d1 : z / B = 2 * q + 1 := by
      conv => lhs; rw [e]
      rw [Int.add_mul_ediv_left _ _ (by omega), Int.ediv_eq_zero_of_lt (by omega) (by omega)]; omega
    have d2 : z % B = 2 * r + z % 2 - B := by
      conv => lhs; rw [e]
      rw [Int.add_mul_emod_self_left, Int.emod_eq_of_lt (by omega) (by omega)]
    exact ⟨d1, d2⟩
theorem long_start (m B : Int) (hm : 0 ≤ m) (hm1 : m ≤ 170141183460469231731687303715884105728) : lq m B 128 = 0 ∧ lr m B 128 = 0 := by
  have : m / 2 ^ 128 = 0 := Int.ediv_eq_zero_of_lt hm (by omega)
  unfold lq lr; rw [this]; simp
theorem long_end (m B : Int) : lq m B 0 = m / B ∧ lr m B 0 = m % B := by unfold lq lr; simp
theorem long_bd (m B : Int) (k : Nat) (hm : 0 ≤ m) (hB : 0 < B) : 0 ≤ lr m B k ∧ lr m B k < B ∧ 0 ≤ lq m B k ∧ lq m B k ≤ m := by
  unfold lq lr
  have h0 : 0 ≤ m / 2 ^ k := Int.ediv_nonneg hm (Int.le_of_lt (pow2 k))
  have h1 : m / 2 ^ k ≤ m := Int.ediv_le_self _ hm
  have h2 := Int.ediv_le_self B h0
  exact ⟨Int.emod_nonneg _ (by omega), Int.emod_lt_of_pos _ hB, Int.ediv_nonneg h0 (by omega), by omega⟩
end Go.Proofs.Ytfhlnldiljldcaa.Wd
