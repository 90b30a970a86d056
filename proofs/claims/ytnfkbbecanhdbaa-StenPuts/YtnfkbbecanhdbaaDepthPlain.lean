/-
  Plain facts of layer 8 (depth): tests of two numbers; no program in sight.
-/
import Derived.RowKit
import Derived.Laws.BitsLemmas
import Derived.Laws.Bits64
namespace Go.Proofs.Ytnfkbbecanhdbaa
open Go.RowKit

/-- is there such a test? -/
def Dp.is (k : Int) : Bool := decide (0 ≤ k ∧ k < 8)
/-- what a is to b -/
def Dp.rel (a b : Int) : Int := if a < b then 1 else if b < a then 4 else 2
/-- does a test pass? -/
def Dp.pass (k a b : Int) : Bool :=
  if k = 1 then decide (a < b) else if k = 2 then a == b else if k = 3 then decide (a ≤ b) else if k = 4 then decide (b < a)
  else if k = 5 then a != b else if k = 6 then decide (b ≤ a) else if k = 7 then true else false
/-- the test the other way round -/
def Dp.swap (k : Int) : Int := k / 2 % 2 * 2 + k % 2 * 4 + k / 4 % 2
/-- what stands there -/
def Dp.put (k : Int) (p : Bool) (z old : Int) : Int := if Dp.pass k z old && p then z else old
def Dp.low (x y : Int) : Int := if x < y then x else y

theorem Dp.is_iff {k : Int} : Dp.is k = true ↔ 0 ≤ k ∧ k < 8 := by simp [Dp.is]
theorem Dp.is_no {k : Int} : Dp.is k = false ↔ k < 0 ∨ 8 ≤ k := by
  rw [← Bool.not_eq_true, Dp.is_iff]; omega
theorem Dp.all {k : Int} (h : Dp.is k = true) : k = 0 ∨ k = 1 ∨ k = 2 ∨ k = 3 ∨ k = 4 ∨ k = 5 ∨ k = 6 ∨ k = 7 := by
  have := Dp.is_iff.1 h; omega
theorem Dp.rel_all (a b : Int) : a < b ∧ Dp.rel a b = 1 ∨ a = b ∧ Dp.rel a b = 2 ∨ b < a ∧ Dp.rel a b = 4 := by
  unfold Dp.rel; split
  · exact .inl ⟨‹_›, rfl⟩
  · split
    · exact .inr (.inr ⟨‹_›, rfl⟩)
    · exact .inr (.inl ⟨by omega, rfl⟩)
theorem Dp.bits {k : Int} (a b : Int) (h : Dp.is k = true) : (bits .and .i64 k (Dp.rel a b) != 0) = Dp.pass k a b := by
  rcases Dp.rel_all a b with ⟨h1, e⟩ | ⟨h1, e⟩ | ⟨h1, e⟩ <;> rw [e] <;> rcases Dp.all h with rfl | rfl | rfl | rfl | rfl | rfl | rfl | rfl
  all_goals
    rw [Bool.eq_iff_iff]
    first
      | (refine iff_of_true (by decide) ?_; simp [Dp.pass]; done)
      | (refine iff_of_true (by decide) ?_; simp [Dp.pass]; omega)
      | (refine iff_of_false (by decide) ?_; simp [Dp.pass]; done)
      | (refine iff_of_false (by decide) ?_; simp [Dp.pass]; omega)
theorem Dp.not_is {k : Int} (h : Dp.is k = true) : Dp.is (7 - k) = true := by
  have := Dp.is_iff.1 h; exact Dp.is_iff.2 (by omega)
theorem Dp.swap_is (k : Int) : Dp.is (Dp.swap k) = true := by
  refine Dp.is_iff.2 ?_; unfold Dp.swap; omega
theorem Dp.pass_not {k : Int} (a b : Int) (h : Dp.is k = true) : Dp.pass (7 - k) a b = !Dp.pass k a b := by
  rcases Dp.all h with rfl | rfl | rfl | rfl | rfl | rfl | rfl | rfl
  all_goals
    simp only [Dp.pass, Int.reduceSub, Int.reduceEq, if_true, if_false, Bool.not_true, Bool.not_false]
    try (rw [Bool.eq_iff_iff]; simp; done)
    try (rw [Bool.eq_iff_iff]; simp; omega)
theorem Dp.pass_swap {k : Int} (a b : Int) (h : Dp.is k = true) : Dp.pass (Dp.swap k) b a = Dp.pass k a b := by
  rcases Dp.all h with rfl | rfl | rfl | rfl | rfl | rfl | rfl | rfl
  all_goals
    simp only [Dp.swap, Dp.pass, Int.reduceDiv, Int.reduceMod, Int.reduceMul, Int.reduceAdd, Int.reduceEq, if_true, if_false]
    try (rw [Bool.eq_iff_iff]; simp; done)
    try (rw [Bool.eq_iff_iff]; simp; omega)
theorem Dp.put_low (z old : Int) : Dp.put 1 true z old = Dp.low old z := by
  unfold Dp.put Dp.low Dp.pass; simp; split <;> split <;> omega
end Go.Proofs.Ytnfkbbecanhdbaa
