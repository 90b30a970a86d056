/-
  Plain facts on whole numbers for layer 2 (wide), second part: sums and products digit by digit.
-/
import Derived.Test.YtiigbpfoaoekhaaWidePlain
namespace Go.Proofs.Ytiigbpfoaoekhaa.Wd
open Go.RowKit

theorem dg_def (x : Int) (i : Nat) : dg x i = x / 65536 ^ i % 65536 := rfl
theorem pw (k : Nat) : (0 : Int) < 65536 ^ k := Int.pow_pos (by omega)
/-- the next digit -/
theorem mod_next (x M : Int) (hM : 0 < M) : x % (M * 65536) = x % M + M * (x / M % 65536) := by
  have e1 := Int.mul_ediv_add_emod x M
  have e2 := Int.mul_ediv_add_emod (x / M) 65536
  have b1 := Int.emod_nonneg x (Int.ne_of_gt hM)
  have b2 := Int.emod_lt_of_pos x hM
  have b3 : 0 ≤ x / M % 65536 := by omega
  have b4 : x / M % 65536 ≤ 65535 := by omega
  have b5 := Int.mul_le_mul_of_nonneg_left b4 (Int.le_of_lt hM)
  have b6 := Int.mul_nonneg (Int.le_of_lt hM) b3
  have e3 : x = (x % M + M * (x / M % 65536)) + (M * 65536) * (x / M / 65536) := by grind
  rw [show x % (M * 65536) = ((x % M + M * (x / M % 65536)) + (M * 65536) * (x / M / 65536)) % (M * 65536) by rw [← e3], Int.add_mul_emod_self_left, Int.emod_eq_of_lt] <;> omega

/-- what a sum carries into its digit k -/
def car (x y : Int) (k : Nat) : Int := (x % 65536 ^ k + y % 65536 ^ k) / 65536 ^ k
theorem car_zero (x y : Int) : car x y 0 = 0 := by simp [car]
theorem car_bd (x y : Int) (k : Nat) : 0 ≤ car x y k ∧ car x y k ≤ 1 := by
  have hp := pw k
  unfold car
  generalize (65536 : Int) ^ k = M at *
  have b1 := Int.emod_nonneg x (Int.ne_of_gt hp)
  have b2 := Int.emod_lt_of_pos x hp
  have b3 := Int.emod_nonneg y (Int.ne_of_gt hp)
  have b4 := Int.emod_lt_of_pos y hp
  refine ⟨Int.ediv_nonneg (by omega) (by omega), ?_⟩
  have : (x % M + y % M) / M < 2 := Int.ediv_lt_of_lt_mul hp (by omega)
  omega
theorem add_digit (x y : Int) (k : Nat) : (dg x k + dg y k + car x y k) % 65536 = dg (x + y) k ∧ (dg x k + dg y k + car x y k) / 65536 = car x y (k + 1) := by
  have hp := pw k
  unfold car dg
  rw [Int.pow_succ]
  generalize (65536 : Int) ^ k = M at *
  have e1 := Int.mul_ediv_add_emod x M
  have e2 := Int.mul_ediv_add_emod y M
  have hne := Int.ne_of_gt hp
  have e3 : (x + y) / M = x / M + y / M + (x % M + y % M) / M := by
    have : x + y = (x % M + y % M) + M * (x / M + y / M) := by grind
    rw [this, Int.add_mul_ediv_left _ _ hne]; omega
  constructor
  · rw [e3]; omega
  · rw [mod_next x M hp, mod_next y M hp, ← Int.ediv_ediv_of_nonneg (Int.le_of_lt hp)]
    have : x % M + M * (x / M % 65536) + (y % M + M * (y / M % 65536)) = (x % M + y % M) + M * (x / M % 65536 + y / M % 65536) := by grind
    rw [this, Int.add_mul_ediv_left _ _ hne]
    congr 1; omega

/-- all digits turned -/
theorem dg_not (x : Int) {k : Nat} (hk : k < 8) : 65535 - dg x k = dg (-x - 1) k := by
  unfold dg
  rcases k with _ | _ | _ | _ | _ | _ | _ | _ | k
  all_goals first | omega | (simp only [Int.pow_succ, Int.pow_zero, Nat.reduceAdd]; omega)

/-! ### two halves -/
def twoD (x : Int) (k j : Nat) : Int := if j < k ∨ (4 ≤ j ∧ j < 4 + k) then dg x j else 0
theorem lo_dg (x : Int) {k : Nat} (hk : k < 4) : ofU (lo x) k % 65536 = dg x k := by
  unfold ofU dg lo
  rcases k with _ | _ | _ | _ | k
  all_goals first | omega | (simp only [Int.pow_succ, Int.pow_zero, Nat.reduceAdd]; omega)
theorem hi_dg (x : Int) {k : Nat} (hk : k < 4) : ofU (hi x) k % 65536 = dg x (4 + k) := by
  unfold ofU dg hi wrap64
  rcases k with _ | _ | _ | _ | k
  all_goals first | omega | (simp only [Int.pow_succ, Int.pow_zero, Nat.reduceAdd]; omega)
theorem lo_start (x : Int) : lo x = ofU (lo x) 0 := by rw [ofU_zero]; unfold lo; omega
theorem twoD_set (x : Int) {k : Nat} (j : Nat) (hk : k < 4) : (if j = 4 + k then dg x (4 + k) else if j = k then dg x k else twoD x k j) = twoD x (k + 1) j := by
  unfold twoD
  by_cases e : j = 4 + k
  · subst e; rw [if_pos rfl, if_pos (by omega)]
  · by_cases e1 : j = k
    · subst e1; rw [if_neg e, if_pos rfl, if_pos (by omega)]
    · rw [if_neg e, if_neg e1]
      by_cases h : j < k ∨ (4 ≤ j ∧ j < 4 + k)
      · rw [if_pos h, if_pos (by omega)]
      · rw [if_neg h, if_neg (by omega)]
theorem twoD_all (x : Int) {j : Nat} (hj : j < 8) : twoD x 4 j = dg x j := by unfold twoD; rw [if_pos (by omega)]

/-! ### products -/
/-- what a product carries, behind i digits of x, into digit i + k -/
def mcar (x y : Int) (i k : Nat) : Int := ((x % 65536 ^ i * y) % 65536 ^ (i + k) + dg x i * (y % 65536 ^ k) * 65536 ^ i) / 65536 ^ (i + k)
/-- the digits behind i digits of x, and of the next one k more -/
def mulD (x y : Int) (i k j : Nat) : Int := if j < i + k then dg (x % 65536 ^ (i + 1) * y) j else dg (x % 65536 ^ i * y) j
theorem mcar_zero (x y : Int) (i : Nat) : mcar x y i 0 = 0 := by
  unfold mcar
  simp
  exact Int.ediv_eq_zero_of_lt (Int.emod_nonneg _ (Int.ne_of_gt (pw i))) (Int.emod_lt_of_pos _ (pw i))
theorem mcar_bd (x y : Int) (i k : Nat) : 0 ≤ mcar x y i k ∧ mcar x y i k ≤ 65535 := by
  have hi := pw i
  have hk := pw k
  have hd := dg_bd x i
  unfold mcar
  rw [Int.pow_add]
  generalize x % 65536 ^ i * y = p
  generalize dg x i = a at *
  generalize (65536 : Int) ^ i = I at *
  generalize (65536 : Int) ^ k = K at *
  have hp : 0 < I * K := Int.mul_pos hi hk
  have b1 := Int.emod_nonneg p (Int.ne_of_gt hp)
  have b2 := Int.emod_lt_of_pos p hp
  have b3 := Int.emod_nonneg y (Int.ne_of_gt hk)
  have b4 := Int.emod_lt_of_pos y hk
  have b5 : 0 ≤ a * (y % K) * I := Int.mul_nonneg (Int.mul_nonneg hd.1 b3) (Int.le_of_lt hi)
  have b6 : a * (y % K) * I ≤ 65535 * (I * K) := by
    have h1 : a * (y % K) ≤ 65535 * K := Int.mul_le_mul hd.2 (Int.le_of_lt b4) b3 (by omega)
    have h2 := Int.mul_le_mul_of_nonneg_right h1 (Int.le_of_lt hi)
    grind
  refine ⟨Int.ediv_nonneg (by omega) (Int.le_of_lt hp), ?_⟩
  have : (p % (I * K) + a * (y % K) * I) / (I * K) < 65536 := Int.ediv_lt_of_lt_mul hp (by omega)
  omega
theorem mul_digit (x y : Int) (i k : Nat) :
    (dg (x % 65536 ^ i * y) (i + k) + dg x i * dg y k + mcar x y i k) % 65536 = dg (x % 65536 ^ (i + 1) * y) (i + k) ∧
    (dg (x % 65536 ^ i * y) (i + k) + dg x i * dg y k + mcar x y i k) / 65536 = mcar x y i (k + 1) := by
  have hi := pw i
  have hk := pw k
  have ex : x % 65536 ^ (i + 1) * y = x % 65536 ^ i * y + 65536 ^ i * (dg x i * y) := by
    rw [Int.pow_succ, mod_next x _ hi]; unfold dg; grind
  unfold mcar
  rw [ex, show i + (k + 1) = (i + k) + 1 by omega, Int.pow_succ 65536 (i + k), Int.pow_succ 65536 k]
  rw [dg_def y k, dg_def (x % 65536 ^ i * y) (i + k), dg_def (x % 65536 ^ i * y + 65536 ^ i * (dg x i * y)) (i + k), Int.pow_add]
  generalize x % 65536 ^ i * y = p
  generalize dg x i = a
  generalize (65536 : Int) ^ i = I at *
  generalize (65536 : Int) ^ k = K at *
  have hp : 0 < I * K := Int.mul_pos hi hk
  have hne := Int.ne_of_gt hp
  have e1 := Int.mul_ediv_add_emod p (I * K)
  have e2 := Int.mul_ediv_add_emod y K
  have e3 := Int.mul_ediv_add_emod (y / K) 65536
  have key : p % (I * K * 65536) + a * (y % (K * 65536)) * I = (p % (I * K) + a * (y % K) * I) + (I * K) * (p / (I * K) % 65536 + a * (y / K % 65536)) := by
    rw [mod_next p _ hp, mod_next y _ hk]; grind
  constructor
  · have e4 : p + I * (a * y) = (p % (I * K) + a * (y % K) * I) + (I * K) * (p / (I * K) + a * (y / K)) := by grind
    rw [e4, Int.add_mul_ediv_left _ _ hne]
    have e5 : a * (y / K) = a * (y / K % 65536) + 65536 * (a * (y / K / 65536)) := by grind
    rw [e5]
    generalize (p % (I * K) + a * (y % K) * I) / (I * K) = c
    generalize a * (y / K % 65536) = d
    generalize a * (y / K / 65536) = e
    omega
  · rw [key, ← Int.ediv_ediv_of_nonneg (Int.le_of_lt hp), Int.add_mul_ediv_left _ _ hne]
    congr 1; omega
theorem mulD_start (x y : Int) (j : Nat) : mulD x y 0 0 j = 0 := by unfold mulD dg; simp
/-- one digit of x is done -/
theorem mulD_next (x y : Int) {i k j : Nat} (hik : 8 ≤ i + k) (hj : j < 8) : mulD x y i k j = mulD x y (i + 1) 0 j := by
  unfold mulD
  rw [if_pos (by omega)]
  by_cases h : j < i + 1 + 0
  · rw [if_pos h]
    -- of digits below those that the next one reaches
    have hi := pw (i + 1)
    have ex : x % 65536 ^ (i + 1 + 1) * y = x % 65536 ^ (i + 1) * y + 65536 ^ (i + 1) * (dg x (i + 1) * y) := by
      rw [Int.pow_succ 65536 (i + 1), mod_next x _ hi]; unfold dg; grind
    rw [ex]
    obtain ⟨d, hd⟩ : ∃ d : Nat, i + 1 = j + 1 + d := ⟨i - j, by omega⟩
    unfold dg
    rw [hd, Int.pow_add, Int.pow_succ]
    have hj0 := pw j
    generalize x % (65536 ^ j * 65536 * 65536 ^ d) * y = p
    generalize x / (65536 ^ j * 65536 * 65536 ^ d) % 65536 * y = q
    generalize (65536 : Int) ^ j = J at *
    generalize (65536 : Int) ^ d = E
    have : p + J * 65536 * E * q = p + J * (65536 * (E * q)) := by grind
    rw [this, Int.add_mul_ediv_left _ _ (Int.ne_of_gt hj0)]
    generalize E * q = z
    omega
  · rw [if_neg h]
theorem mulD_set (x y : Int) (i k j : Nat) : (if j = i + k then dg (x % 65536 ^ (i + 1) * y) (i + k) else mulD x y i k j) = mulD x y i (k + 1) j := by
  unfold mulD
  by_cases e : j = i + k
  · subst e; rw [if_pos rfl, if_pos (by omega)]
  · by_cases h : j < i + k
    · rw [if_neg e, if_pos h, if_pos (by omega)]
    · rw [if_neg e, if_neg h, if_neg (by omega)]
theorem mulD_at (x y : Int) (i k : Nat) : mulD x y i k (i + k) = dg (x % 65536 ^ i * y) (i + k) := by unfold mulD; rw [if_neg (by omega)]
theorem mulD_bd (x y : Int) (i k j : Nat) : 0 ≤ mulD x y i k j ∧ mulD x y i k j ≤ 65535 := by unfold mulD; split <;> exact dg_bd _ _
/-- digits are those of the number modulo 2^128 -/
theorem dg_mod (x y : Int) {j : Nat} (hj : j < 8) : mulD x y 8 0 j = dg (x * y) j := by
  unfold mulD
  rw [if_pos (by omega)]
  obtain ⟨d, hd⟩ : ∃ d : Nat, 8 + 1 = j + 1 + d := ⟨8 - j, by omega⟩
  unfold dg
  rw [hd, Int.pow_add, Int.pow_succ]
  have hj0 := pw j
  generalize (65536 : Int) ^ j = J at *
  generalize (65536 : Int) ^ d = E at *
  have e := Int.mul_ediv_add_emod x (J * 65536 * E)
  clear hd
  have : x * y = x % (J * 65536 * E) * y + J * (65536 * (E * (x / (J * 65536 * E) * y))) := by grind
  rw [this, Int.add_mul_ediv_left _ _ (Int.ne_of_gt hj0)]
  generalize E * (x / (J * 65536 * E) * y) = z
  omega
end Go.Proofs.Ytiigbpfoaoekhaa.Wd
