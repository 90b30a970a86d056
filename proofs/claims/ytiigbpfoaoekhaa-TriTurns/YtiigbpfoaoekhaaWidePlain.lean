/-
  Plain facts on whole numbers for layer 2 (wide): halves of 64 bits, digits of 16 bits; no program in sight.
-/
import Derived.RowKit
import Derived.Laws.BitsLemmas
import Derived.Laws.Bits64
import Derived.Lib.Mul64
namespace Go.Proofs.Ytiigbpfoaoekhaa.Wd
open Go.RowKit

/-- the upper half, with its sign, of a number modulo 2^128 -/
def hi (x : Int) : Int := wrap64 (x / 18446744073709551616)
/-- the lower half -/
def lo (x : Int) : Int := x % 18446744073709551616
/-- a digit to the base 2^16 -/
def dg (x : Int) (i : Nat) : Int := x / 65536 ^ i % 65536

theorem hi_bd (x : Int) : -9223372036854775808 ≤ hi x ∧ hi x ≤ 9223372036854775807 := by unfold hi wrap64; omega
theorem lo_bd (x : Int) : 0 ≤ lo x ∧ lo x ≤ 18446744073709551615 := by unfold lo; omega
theorem dg_bd (x : Int) (i : Nat) : 0 ≤ dg x i ∧ dg x i ≤ 65535 := by unfold dg; omega
/-- any two halves are those of a number -/
theorem halves {h l : Int} (hh : -9223372036854775808 ≤ h ∧ h ≤ 9223372036854775807) (hl : 0 ≤ l ∧ l ≤ 18446744073709551615) :
    hi (h * 18446744073709551616 + l) = h ∧ lo (h * 18446744073709551616 + l) = l := by unfold hi lo wrap64; omega
theorem hi_lo (x : Int) : ∃ k : Int, x = hi x * 18446744073709551616 + lo x + k * 340282366920938463463374607431768211456 := by
  refine ⟨(x / 18446744073709551616 + 9223372036854775808) / 18446744073709551616, ?_⟩
  unfold hi lo wrap64; omega

theorem of_neg {n : Int} (h0 : n < 0) (h1 : -9223372036854775808 ≤ n) : hi n = -1 ∧ lo n = n % 18446744073709551616 := by unfold hi lo wrap64; omega
theorem of_pos {n : Int} (h0 : ¬ n < 0) (h1 : n ≤ 9223372036854775807) : hi n = 0 ∧ lo n = n := by unfold hi lo wrap64; omega
theorem add_lo (x y : Int) : lo (x + y) = (lo x + lo y) % 18446744073709551616 := by unfold lo; omega
theorem add_hi (x y : Int) : hi (x + y) = wrap64 (wrap64 (hi x + hi y) + (lo x + lo y) / 18446744073709551616) := by unfold hi lo wrap64; omega
theorem not_neg (x : Int) : hi (-x - 1) = -1 - hi x ∧ lo (-x - 1) = 18446744073709551615 - lo x := by unfold hi lo wrap64; omega
theorem same_iff (x y : Int) : (hi x = hi y ∧ lo x = lo y) ↔ x % 340282366920938463463374607431768211456 = y % 340282366920938463463374607431768211456 := by unfold hi lo wrap64; omega
theorem not_hi (x : Int) : bits .xor .i64 (-1) (hi x) = hi (-x - 1) := by
  have hb := hi_bd x
  have e : bits .xor .i64 (-1) (hi x) = IntKind.i64.wrap (((BitVec.ofInt 64 (-1) ^^^ BitVec.ofInt 64 (hi x)).toNat : Nat) : Int) := rfl
  rw [e, show BitVec.ofInt 64 (-1) = BitVec.allOnes 64 by decide, BitVec.allOnes_xor, BitVec.toNat_not, BitVec.toNat_ofInt, IntKind.wrap_i64, (not_neg x).1]
  generalize hi x = h at *
  omega
theorem not_lo (x : Int) : bits .xor .u64 IntKind.u64.max (lo x) = lo (-x - 1) := by
  have hb := lo_bd x
  have e : bits .xor .u64 IntKind.u64.max (lo x) = IntKind.u64.wrap (((BitVec.ofInt 64 IntKind.u64.max ^^^ BitVec.ofInt 64 (lo x)).toNat : Nat) : Int) := rfl
  rw [e, show BitVec.ofInt 64 IntKind.u64.max = BitVec.allOnes 64 by decide, BitVec.allOnes_xor, BitVec.toNat_not, BitVec.toNat_ofInt, IntKind.wrap_u64, (not_neg x).2]
  generalize lo x = h at *
  omega
/-- the number that two halves stand for, and its amount -/
def sx (x : Int) : Int := hi x * 18446744073709551616 + lo x
def am (x : Int) : Int := if hi x < 0 then -(sx x) else sx x
def ahi (x : Int) : Int := am x / 18446744073709551616
def alo (x : Int) : Int := am x % 18446744073709551616
theorem am_neg {x : Int} (h : hi x < 0) : ahi x = (hi (-x)) % 18446744073709551616 ∧ alo x = lo (-x) := by
  unfold ahi alo am; rw [if_pos h]; unfold sx hi lo wrap64 at *; omega
theorem am_pos {x : Int} (h : ¬ hi x < 0) : ahi x = hi x ∧ alo x = lo x := by
  unfold ahi alo am; rw [if_neg h]; unfold sx hi lo wrap64 at *; omega
/-- a product of two words, its halves -/
def ph (p q : Int) : Int := p * q / 18446744073709551616
def pl (p q : Int) : Int := p * q % 18446744073709551616
theorem u_bd (a : Int) : 0 ≤ IntKind.u64.wrap a ∧ IntKind.u64.wrap a < 18446744073709551616 := by rw [IntKind.wrap_u64]; omega
theorem u_pos {a : Int} (h : 0 ≤ a) (h' : a ≤ 9223372036854775807) : IntKind.u64.wrap a = a := by rw [IntKind.wrap_u64]; omega
theorem mul_halves (a b : Int) (ha : -9223372036854775808 ≤ a ∧ a ≤ 9223372036854775807) (hb : -9223372036854775808 ≤ b ∧ b ≤ 9223372036854775807) :
    lo (a * b) = pl (IntKind.u64.wrap a) (IntKind.u64.wrap b) ∧
    hi (a * b) = wrap64 (ph (IntKind.u64.wrap a) (IntKind.u64.wrap b) - (if a < 0 then b else 0) - (if b < 0 then a else 0)) := by
  rw [IntKind.wrap_u64, IntKind.wrap_u64]
  have e : (a % 18446744073709551616) * (b % 18446744073709551616) = a * b + 18446744073709551616 * ((if a < 0 then b else 0) + (if b < 0 then a else 0)) + (if a < 0 ∧ b < 0 then 340282366920938463463374607431768211456 else 0) := by
    by_cases h0 : a < 0 <;> by_cases h1 : b < 0
    · rw [show a % 18446744073709551616 = a + 18446744073709551616 by omega, show b % 18446744073709551616 = b + 18446744073709551616 by omega, Int.add_mul, Int.mul_add, Int.mul_add, if_pos h0, if_pos h1, if_pos ⟨h0, h1⟩]; omega
    · rw [show a % 18446744073709551616 = a + 18446744073709551616 by omega, show b % 18446744073709551616 = b by omega, Int.add_mul, if_pos h0, if_neg h1, if_neg (fun h => h1 h.2)]; omega
    · rw [show a % 18446744073709551616 = a by omega, show b % 18446744073709551616 = b + 18446744073709551616 by omega, Int.mul_add, if_neg h0, if_pos h1, if_neg (fun h => h0 h.1)]; omega
    · rw [show a % 18446744073709551616 = a by omega, show b % 18446744073709551616 = b by omega, if_neg h0, if_neg h1, if_neg (fun h => h0 h.1)]; omega
  unfold lo hi pl ph wrap64
  rw [e]
  generalize a * b = z
  constructor
  · split <;> omega
  · split <;> split <;> split <;> omega
/-- digits behind k rounds, and what is left -/
def ofD (n : Int) (k j : Nat) : Int := if j < k then dg n j else 0
def ofU (n : Int) (k : Nat) : Int := (n % 18446744073709551616) / 65536 ^ k
theorem ofU_zero (n : Int) : ofU n 0 = n % 18446744073709551616 := by simp [ofU]
theorem ofU_bd (n : Int) (k : Nat) : 0 ≤ ofU n k ∧ ofU n k ≤ 18446744073709551615 := by
  have hp : (0 : Int) < 65536 ^ k := Int.pow_pos (by omega)
  have h0 : 0 ≤ n % 18446744073709551616 := by omega
  refine ⟨Int.ediv_nonneg h0 (by omega), ?_⟩
  have := Int.ediv_le_self (65536 ^ k) h0
  unfold ofU; omega
theorem ofU_succ (n : Int) (k : Nat) : ofU n (k + 1) = ofU n k / 65536 := by
  unfold ofU; rw [Int.pow_succ, Int.ediv_ediv_of_nonneg (Int.le_of_lt (Int.pow_pos (by omega)))]
theorem ofU_dg (n : Int) {k : Nat} (hk : k < 4) : ofU n k % 65536 = dg n k := by
  unfold ofU dg
  rcases k with _ | _ | _ | _ | k
  all_goals (simp only [Int.pow_succ, Int.pow_zero, Nat.reduceAdd]; omega)
theorem ofU_late (n : Int) {k : Nat} (hk : 4 ≤ k) : ofU n (k + 1) = ofU n k := by
  have h : ∀ m : Nat, ofU n (m + 4) = 0 := by
    intro m
    induction m with
    | zero => unfold ofU; simp; omega
    | succ m ih => rw [show m + 1 + 4 = (m + 4) + 1 by omega, ofU_succ, ih]; rfl
  have h1 := h (k - 4)
  have h2 := h (k + 1 - 4)
  rw [show k - 4 + 4 = k by omega] at h1
  rw [show k + 1 - 4 + 4 = k + 1 by omega] at h2
  rw [h1, h2]
theorem dg_neg {n : Int} (h0 : n < 0) (h1 : -9223372036854775808 ≤ n) {k : Nat} (hk : 4 ≤ k) (h8 : k < 8) : dg n k = 65535 := by
  unfold dg
  rcases k with _ | _ | _ | _ | _ | _ | _ | _ | k
  all_goals first | omega | (simp only [Int.pow_succ, Int.pow_zero, Nat.reduceAdd]; omega)
theorem dg_pos {n : Int} (h0 : 0 ≤ n) (h1 : n ≤ 9223372036854775807) {k : Nat} (hk : 4 ≤ k) (h8 : k < 8) : dg n k = 0 := by
  unfold dg
  rcases k with _ | _ | _ | _ | _ | _ | _ | _ | k
  all_goals first | omega | (simp only [Int.pow_succ, Int.pow_zero, Nat.reduceAdd]; omega)
theorem ofD_succ (n : Int) (k j : Nat) : (if j = k then dg n k else ofD n k j) = ofD n (k + 1) j := by
  unfold ofD
  by_cases e : j = k
  · subst e; simp
  · by_cases h : j < k
    · rw [if_neg e, if_pos h, if_pos (by omega)]
    · rw [if_neg e, if_neg h, if_neg (by omega)]
theorem ofD_all (n : Int) {j : Nat} (hj : j < 8) : ofD n 8 j = dg n j := by unfold ofD; rw [if_pos hj]
/-- -1, 0, 1: below, the same, above -/
def cmp (x y : Int) : Int := if hi x = hi y ∧ lo x = lo y then 0 else if hi x < hi y ∨ hi x = hi y ∧ lo x < lo y then -1 else 1
theorem cmp_eq (x y : Int) : cmp x y = if hi x = hi y ∧ lo x = lo y then 0 else if hi x < hi y ∨ hi x = hi y ∧ lo x < lo y then -1 else 1 := rfl

end Go.Proofs.Ytiigbpfoaoekhaa.Wd
