/-
  Plain facts on whole numbers for layer 2: what the document's own quotient answers.
-/
import Derived.Test.YtfhlnldiljldcaaRefPlain4
import Derived.Test.YtfhlnldiljldcaaRefEq
namespace Go.Proofs.Ytfhlnldiljldcaa.Wd
open Go.RowKit
set_option linter.unusedVariables false

/-- the document's own quotient: the number, and whether it is an int -/
def gi (x b : Int) : Bool := decide (isInt (fl x b))
def gn (x b : Int) : Int := if fl x b = 170141183460469231731687303715884105728 then 0 else wrap64 (fl x b)
theorem gn_in {x b : Int} (h : isInt (fl x b)) : gi x b = true ∧ gn x b = fl x b := by
  unfold gi gn
  refine ⟨decide_eq_true h, ?_⟩
  unfold isInt at h
  rw [if_neg (by omega)]; unfold wrap64; omega
theorem gn_out {x b : Int} (h : ¬ isInt (fl x b)) : gi x b = false := by unfold gi; exact decide_eq_false h

/-- what the upper digits of a word make -/
def up (F : Int) (k : Nat) : Int := wrap64 (F % 18446744073709551616 / 65536 ^ k)
theorem up_start (F : Int) : up F 4 = 0 := by
  unfold up wrap64
  rw [show (65536 : Int) ^ 4 = 18446744073709551616 by decide]; omega
theorem up_end (F : Int) : up F 0 = wrap64 F := by unfold up wrap64; simp
theorem up_step (F : Int) {k : Nat} (hk : k < 4) : wrap64 (wrap64 (up F (k + 1) * 65536) + dg F k) = up F k := by
  unfold up dg wrap64
  rcases k with _ | _ | _ | _ | k
  all_goals first | omega | (simp only [Int.pow_succ, Int.pow_zero, Nat.reduceAdd]; omega)
theorem up_bd (F : Int) (k : Nat) : -9223372036854775808 ≤ up F k ∧ up F k ≤ 9223372036854775807 := by unfold up wrap64; omega
/-- a number of 128 bits is an int just if its lower word says so -/
theorem is_int (F : Int) (h0 : -170141183460469231731687303715884105728 ≤ F) (h1 : F < 170141183460469231731687303715884105728) : eqD (wrap64 F) F = decide (isInt F) := by
  unfold eqD
  rw [decide_eq_decide]
  unfold isInt wrap64
  omega
theorem neg_word {q : Int} (h0 : 0 ≤ q) (h1 : q ≤ 170141183460469231731687303715884105728) : hi q < 0 ↔ q = 170141183460469231731687303715884105728 := by
  unfold hi wrap64; omega
theorem eqD_zero {r : Int} (h0 : 0 ≤ r) (h1 : r < 340282366920938463463374607431768211456) : eqD r 0 = decide (r = 0) := by
  unfold eqD; rw [decide_eq_decide]; omega
theorem ltD_small {r B : Int} (h0 : 0 ≤ r) (h1 : r < 340282366920938463463374607431768211456) (h2 : 0 ≤ B) (h3 : B < 340282366920938463463374607431768211456) : ltD r B = decide (r < B) := by
  unfold ltD; rw [decide_eq_decide]; omega
theorem am_int {b : Int} (hb : isInt b) (hb0 : b ≠ 0) : 0 < am b ∧ am b ≤ 9223372036854775808 ∧ am b = alo b := by
  have e := alo_int hb
  have h := a_bd b
  have hm := am_bd b
  have : am b ≤ 9223372036854775808 := by
    unfold am; rw [sx_int hb]; unfold isInt at hb; split <;> omega
  have e2 : alo b = am b := by unfold alo; omega
  refine ⟨?_, this, e2.symm⟩
  rw [← e2, e]; split <;> omega
theorem dq_am (x b : Int) (hb : isInt b) (hb0 : b ≠ 0) : dq (ahi x) (alo x) (alo b) = am x / am b ∧ dr (ahi x) (alo x) (alo b) = am x % am b := by
  have e := (a_bd x).2.2.2.2
  unfold dq dr
  rw [← e, (am_int hb hb0).2.2]; exact ⟨rfl, rfl⟩
theorem fl_same' {x b : Int} (hb : isInt b) (hb0 : b ≠ 0) (hs : hi x < 0 ↔ b < 0) : fl x b = am x / am b := by
  rw [fl_same hb hb0 hs, (dq_am x b hb hb0).1]
theorem fl_other' {x b : Int} (hb : isInt b) (hb0 : b ≠ 0) (hs : ¬ (hi x < 0 ↔ b < 0)) : fl x b = -(am x / am b) - (if am x % am b = 0 then 0 else 1) := by
  rw [fl_other hb hb0 hs, (dq_am x b hb hb0).1, (dq_am x b hb hb0).2]
theorem q_bd {x b : Int} (hb : isInt b) (hb0 : b ≠ 0) : 0 ≤ am x / am b ∧ am x / am b ≤ 170141183460469231731687303715884105728 := by
  have h := am_bd x
  have k := am_int hb hb0
  have := Int.ediv_le_self (am b) h.1
  exact ⟨Int.ediv_nonneg h.1 (by omega), by omega⟩
/-- where something is left, it is no more than half -/
theorem q_half {x b : Int} (hb : isInt b) (hb0 : b ≠ 0) (hr : am x % am b ≠ 0) : am x / am b ≤ 85070591730234615865843651857942052864 := by
  have h := am_bd x
  have k := am_int hb hb0
  have e := Int.mul_ediv_add_emod (am x) (am b)
  have q0 := (q_bd (x := x) hb hb0).1
  have h2 : am b ≠ 1 := by intro h1; rw [h1] at hr; omega
  have : 2 * (am x / am b) ≤ am b * (am x / am b) := Int.mul_le_mul_of_nonneg_right (by omega) q0
  have r0 := Int.emod_nonneg (am x) (b := am b) (by omega)
  omega
end Go.Proofs.Ytfhlnldiljldcaa.Wd
