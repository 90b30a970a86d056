/-
  Plain facts of layer 12 (edge): sides of points, who owns a line, which pixels a triangle has; no program in sight.
-/
import Derived.Test.YtiigbpfoaoekhaaMem
namespace Go.Proofs.Ytiigbpfoaoekhaa
open Go.RowKit

/-- the side of p of the edge from a to b -/
def Eg.side (a1 a2 b1 b2 p1 p2 : Int) : Int := (b1 - a1) * (p2 - a2) - (b2 - a2) * (p1 - a1)
/-- does the edge own its line? -/
def Eg.owns (a1 a2 b1 b2 : Int) : Bool := if a2 = b2 then decide (a1 < b1) else decide (b2 < a2)
/-- does the edge have a point? -/
def Eg.on (a1 a2 b1 b2 p1 p2 : Int) : Bool := decide (0 < Eg.side a1 a2 b1 b2 p1 p2) || (decide (Eg.side a1 a2 b1 b2 p1 p2 = 0) && Eg.owns a1 a2 b1 b2)
/-- does the triangle have a point? -/
def Eg.has (a1 a2 b1 b2 c1 c2 p1 p2 : Int) : Bool := decide (0 < Eg.side a1 a2 b1 b2 c1 c2) && Eg.on a1 a2 b1 b2 p1 p2 && Eg.on b1 b2 c1 c2 p1 p2 && Eg.on c1 c2 a1 a2 p1 p2
/-- may a point be? -/
def Eg.may (a1 a2 : Int) : Bool := decide (-524288 ≤ a1) && decide (a1 ≤ 524288) && decide (-524288 ≤ a2) && decide (a2 ≤ 524288)
/-- may there be such a pixel? -/
def Eg.fits (x y : Int) : Bool := decide (-32768 ≤ x) && decide (x ≤ 32767) && decide (-32768 ≤ y) && decide (y ≤ 32767)
theorem Eg.may_iff {a1 a2 : Int} : Eg.may a1 a2 = true ↔ (-524288 ≤ a1 ∧ a1 ≤ 524288) ∧ (-524288 ≤ a2 ∧ a2 ≤ 524288) := by simp [Eg.may, and_assoc]
theorem Eg.fits_iff {x y : Int} : Eg.fits x y = true ↔ (-32768 ≤ x ∧ x ≤ 32767) ∧ (-32768 ≤ y ∧ y ≤ 32767) := by simp [Eg.fits, and_assoc]
/-- a pixel's middle may be just if there may be such a pixel -/
theorem Eg.middle_may (x y : Int) : Eg.may (16 * x + 8) (16 * y + 8) = Eg.fits x y := by
  rw [Bool.eq_iff_iff, Eg.may_iff, Eg.fits_iff]; omega

/-- a product of two numbers up to 2^20 in amount -/
theorem Eg.mul_le {a b : Int} (h1 : -1048576 ≤ a) (h2 : a ≤ 1048576) (h3 : -1048576 ≤ b) (h4 : b ≤ 1048576) : -1099511627776 ≤ a * b ∧ a * b ≤ 1099511627776 := by
  have k : (a * b).natAbs ≤ 1048576 * 1048576 := by rw [Int.natAbs_mul]; exact Nat.mul_le_mul (by omega) (by omega)
  omega
/-- bounds of a side of points that may be -/
theorem Eg.side_le {a1 a2 b1 b2 p1 p2 : Int} (ha : Eg.may a1 a2 = true) (hb : Eg.may b1 b2 = true) (hp : Eg.may p1 p2 = true) :
    (-1099511627776 ≤ (b1 - a1) * (p2 - a2) ∧ (b1 - a1) * (p2 - a2) ≤ 1099511627776) ∧ (-1099511627776 ≤ (b2 - a2) * (p1 - a1) ∧ (b2 - a2) * (p1 - a1) ≤ 1099511627776) := by
  have ha := Eg.may_iff.1 ha; have hb := Eg.may_iff.1 hb; have hp := Eg.may_iff.1 hp
  exact ⟨Eg.mul_le (by omega) (by omega) (by omega) (by omega), Eg.mul_le (by omega) (by omega) (by omega) (by omega)⟩
theorem Eg.side_turn (a1 a2 b1 b2 p1 p2 : Int) : Eg.side b1 b2 p1 p2 a1 a2 = Eg.side a1 a2 b1 b2 p1 p2 := by unfold Eg.side; grind
theorem Eg.side_back (a1 a2 b1 b2 p1 p2 : Int) : Eg.side b1 b2 a1 a2 p1 p2 = -Eg.side a1 a2 b1 b2 p1 p2 := by unfold Eg.side; grind
theorem Eg.side_sum (a1 a2 b1 b2 c1 c2 q1 q2 : Int) : Eg.side a1 a2 b1 b2 q1 q2 + Eg.side b1 b2 c1 c2 q1 q2 + Eg.side c1 c2 a1 a2 q1 q2 = Eg.side a1 a2 b1 b2 c1 c2 := by unfold Eg.side; grind
/-- an edge, or the one back, owns the line -/
theorem Eg.owns_back {a1 a2 b1 b2 : Int} (h : ¬(a1 = b1 ∧ a2 = b2)) : Eg.owns b1 b2 a1 a2 = !Eg.owns a1 a2 b1 b2 := by
  unfold Eg.owns
  by_cases e : a2 = b2
  · rw [if_pos e, if_pos e.symm, Bool.eq_iff_iff]; simp; omega
  · rw [if_neg e, if_neg (Ne.symm e), Bool.eq_iff_iff]; simp; omega

/-- the side of a point that was moved a little to the right, and much less downwards: its amount is above 0 -/
def Eg.S (a1 a2 b1 b2 q1 q2 : Int) : Int := Eg.side a1 a2 b1 b2 q1 q2 * 17592186044416 + (a2 - b2) * 4194304 + (b1 - a1)
theorem Eg.on_iff {a1 a2 b1 b2 q1 q2 : Int} (ha : Eg.may a1 a2 = true) (hb : Eg.may b1 b2 = true) : Eg.on a1 a2 b1 b2 q1 q2 = true ↔ 0 < Eg.S a1 a2 b1 b2 q1 q2 := by
  have ha := Eg.may_iff.1 ha; have hb := Eg.may_iff.1 hb
  unfold Eg.on Eg.S Eg.owns
  generalize Eg.side a1 a2 b1 b2 q1 q2 = s
  by_cases e : a2 = b2
  · rw [if_pos e]; simp; omega
  · rw [if_neg e]; simp; omega
theorem Eg.S_zero {a1 a2 b1 b2 q1 q2 : Int} (ha : Eg.may a1 a2 = true) (hb : Eg.may b1 b2 = true) (h : Eg.S a1 a2 b1 b2 q1 q2 = 0) : a1 = b1 ∧ a2 = b2 := by
  have ha := Eg.may_iff.1 ha; have hb := Eg.may_iff.1 hb
  unfold Eg.S at h
  generalize Eg.side a1 a2 b1 b2 q1 q2 = s at h
  omega
theorem Eg.S_back (a1 a2 b1 b2 q1 q2 : Int) : Eg.S b1 b2 a1 a2 q1 q2 = -Eg.S a1 a2 b1 b2 q1 q2 := by
  unfold Eg.S; rw [Eg.side_back]; omega
theorem Eg.S_sum (a1 a2 b1 b2 c1 c2 q1 q2 : Int) : Eg.S a1 a2 b1 b2 q1 q2 + Eg.S b1 b2 c1 c2 q1 q2 + Eg.S c1 c2 a1 a2 q1 q2 = Eg.side a1 a2 b1 b2 c1 c2 * 17592186044416 := by
  rw [← Eg.side_sum a1 a2 b1 b2 c1 c2 q1 q2]; unfold Eg.S; omega
/-- weights of a point within a triangle -/
theorem Eg.S_bary (a1 a2 b1 b2 c1 c2 p1 p2 q1 q2 : Int) :
    Eg.side b1 b2 c1 c2 p1 p2 * Eg.S a1 a2 p1 p2 q1 q2 + Eg.side c1 c2 a1 a2 p1 p2 * Eg.S b1 b2 p1 p2 q1 q2 + Eg.side a1 a2 b1 b2 p1 p2 * Eg.S c1 c2 p1 p2 q1 q2 = 0 := by
  unfold Eg.S Eg.side; grind
/-- one way round: q lies, seen from p, between a and b -/
theorem Eg.fan_one {A1 A2 A3 x y z α β γ : Int} (h1 : 0 < A1) (h2 : 0 < A2) (h3 : 0 < A3) (e1 : α + y - x = A1 * 17592186044416) (e2 : β + z - y = A2 * 17592186044416) (e3 : γ + x - z = A3 * 17592186044416)
    (e4 : A2 * x + A3 * y + A1 * z = 0) (hx : x < 0) (hy : 0 < y) (hα : 0 < α) : 0 < β ∧ 0 < γ := by
  have k1 : β * A1 = y * (A1 + A2 + A3) + α * A2 := by grind
  have k2 : γ * A1 = -x * (A1 + A2 + A3) + α * A3 := by grind
  have l1 : 0 < y * (A1 + A2 + A3) := Int.mul_pos hy (by omega)
  have l2 : 0 < -x * (A1 + A2 + A3) := Int.mul_pos (by omega) (by omega)
  have l3 : 0 < α * A2 := Int.mul_pos hα h2
  have l4 : 0 < α * A3 := Int.mul_pos hα h3
  have pos : ∀ u : Int, 0 < u * A1 → 0 < u := fun u hu => by
    by_cases h : 0 < u
    · exact h
    · have := Int.mul_nonneg (by omega : 0 ≤ -u) (by omega : 0 ≤ A1)
      rw [Int.neg_mul] at this
      omega
  exact ⟨pos β (by omega), pos γ (by omega)⟩
/-- not all three are of one sign -/
theorem Eg.not_all {A1 A2 A3 x y z : Int} (h1 : 0 < A1) (h2 : 0 < A2) (h3 : 0 < A3) (e4 : A2 * x + A3 * y + A1 * z = 0) : ¬(0 < x ∧ 0 < y ∧ 0 < z) ∧ ¬(x < 0 ∧ y < 0 ∧ z < 0) := by
  constructor
  · rintro ⟨a, b, c⟩
    have := Int.mul_pos h2 a; have := Int.mul_pos h3 b; have := Int.mul_pos h1 c
    omega
  · rintro ⟨a, b, c⟩
    have := Int.mul_neg_of_pos_of_neg h2 a; have := Int.mul_neg_of_pos_of_neg h3 b; have := Int.mul_neg_of_pos_of_neg h1 c
    omega
/-- a bool, as a number -/
def Eg.n (b : Bool) : Int := if b then 1 else 0
theorem Eg.n_le (b : Bool) : 0 ≤ Eg.n b ∧ Eg.n b ≤ 1 := by cases b <;> decide
theorem Eg.has_iff {a1 a2 b1 b2 c1 c2 q1 q2 : Int} (ha : Eg.may a1 a2 = true) (hb : Eg.may b1 b2 = true) (hc : Eg.may c1 c2 = true) (hs : 0 < Eg.side a1 a2 b1 b2 c1 c2) :
    Eg.has a1 a2 b1 b2 c1 c2 q1 q2 = true ↔ 0 < Eg.S a1 a2 b1 b2 q1 q2 ∧ 0 < Eg.S b1 b2 c1 c2 q1 q2 ∧ 0 < Eg.S c1 c2 a1 a2 q1 q2 := by
  unfold Eg.has
  rw [Bool.and_eq_true, Bool.and_eq_true, Bool.and_eq_true, Eg.on_iff ha hb, Eg.on_iff hb hc, Eg.on_iff hc ha, decide_eq_true_iff]
  exact ⟨fun h => ⟨h.1.1.2, h.1.2, h.2⟩, fun h => ⟨⟨⟨hs, h.1⟩, h.2.1⟩, h.2.2⟩⟩
theorem Eg.n_of {b : Bool} {P : Prop} [Decidable P] (h : b = true ↔ P) : Eg.n b = if P then 1 else 0 := by
  unfold Eg.n
  by_cases hp : P
  · rw [if_pos hp, if_pos (h.2 hp)]
  · rw [if_neg hp, if_neg (fun e => hp (h.1 e))]
/-- of the parts of a triangle just one has a pixel that the whole one has -/
theorem Eg.fan {a1 a2 b1 b2 c1 c2 p1 p2 q1 q2 : Int} (ha : Eg.may a1 a2 = true) (hb : Eg.may b1 b2 = true) (hc : Eg.may c1 c2 = true) (hp : Eg.may p1 p2 = true)
    (h1 : 0 < Eg.side a1 a2 b1 b2 p1 p2) (h2 : 0 < Eg.side b1 b2 c1 c2 p1 p2) (h3 : 0 < Eg.side c1 c2 a1 a2 p1 p2) :
    Eg.n (Eg.has a1 a2 b1 b2 p1 p2 q1 q2) + Eg.n (Eg.has b1 b2 c1 c2 p1 p2 q1 q2) + Eg.n (Eg.has c1 c2 a1 a2 p1 p2 q1 q2) = Eg.n (Eg.has a1 a2 b1 b2 c1 c2 q1 q2) := by
  have h0 : 0 < Eg.side a1 a2 b1 b2 c1 c2 := by have := Eg.side_sum a1 a2 b1 b2 c1 c2 p1 p2; omega
  rw [Eg.n_of (Eg.has_iff ha hb hp h1), Eg.n_of (Eg.has_iff hb hc hp h2), Eg.n_of (Eg.has_iff hc ha hp h3), Eg.n_of (Eg.has_iff ha hb hc h0)]
  have e1 := Eg.S_sum a1 a2 b1 b2 p1 p2 q1 q2
  have e2 := Eg.S_sum b1 b2 c1 c2 p1 p2 q1 q2
  have e3 := Eg.S_sum c1 c2 a1 a2 p1 p2 q1 q2
  have e4 := Eg.S_bary a1 a2 b1 b2 c1 c2 p1 p2 q1 q2
  have z1 : Eg.S a1 a2 p1 p2 q1 q2 ≠ 0 := fun e => by
    obtain ⟨rfl, rfl⟩ := Eg.S_zero ha hp e
    unfold Eg.side at h1; simp at h1
  have z2 : Eg.S b1 b2 p1 p2 q1 q2 ≠ 0 := fun e => by
    obtain ⟨rfl, rfl⟩ := Eg.S_zero hb hp e
    unfold Eg.side at h2; simp at h2
  have z3 : Eg.S c1 c2 p1 p2 q1 q2 ≠ 0 := fun e => by
    obtain ⟨rfl, rfl⟩ := Eg.S_zero hc hp e
    unfold Eg.side at h3; simp at h3
  rw [Eg.S_back a1 a2 p1 p2] at e1 ⊢
  rw [Eg.S_back b1 b2 p1 p2] at e2 ⊢
  rw [Eg.S_back c1 c2 p1 p2] at e3 ⊢
  generalize Eg.S a1 a2 p1 p2 q1 q2 = x at *
  generalize Eg.S b1 b2 p1 p2 q1 q2 = y at *
  generalize Eg.S c1 c2 p1 p2 q1 q2 = z at *
  generalize Eg.S a1 a2 b1 b2 q1 q2 = α at *
  generalize Eg.S b1 b2 c1 c2 q1 q2 = β at *
  generalize Eg.S c1 c2 a1 a2 q1 q2 = γ at *
  generalize Eg.side a1 a2 b1 b2 p1 p2 = A1 at *
  generalize Eg.side b1 b2 c1 c2 p1 p2 = A2 at *
  generalize Eg.side c1 c2 a1 a2 p1 p2 = A3 at *
  have n := Eg.not_all h1 h2 h3 e4
  have f1 := fun g1 g2 g3 => Eg.fan_one h1 h2 h3 (α := α) (β := β) (γ := γ) (by omega) (by omega) (by omega) e4 g1 g2 g3
  have f2 := fun g1 g2 g3 => Eg.fan_one h2 h3 h1 (x := y) (y := z) (z := x) (α := β) (β := γ) (γ := α) (by omega) (by omega) (by omega) (by omega) g1 g2 g3
  have f3 := fun g1 g2 g3 => Eg.fan_one h3 h1 h2 (x := z) (y := x) (z := y) (α := γ) (β := α) (γ := β) (by omega) (by omega) (by omega) (by omega) g1 g2 g3
  clear e1 e2 e3 e4
  by_cases gx : 0 < x <;> by_cases gy : 0 < y <;> by_cases gz : 0 < z
  · omega
  all_goals
    first
    | (exfalso; omega)
    | skip
  all_goals
    by_cases gα : 0 < α <;> by_cases gβ : 0 < β <;> by_cases gγ : 0 < γ <;> simp [gα, gβ, gγ] <;> omega
/-- of two triangles on both sides of an edge at most one has a pixel -/
theorem Eg.shared {a1 a2 b1 b2 c1 c2 d1 d2 q1 q2 : Int} (ha : Eg.may a1 a2 = true) (hb : Eg.may b1 b2 = true) :
    Eg.n (Eg.has a1 a2 b1 b2 c1 c2 q1 q2) + Eg.n (Eg.has b1 b2 a1 a2 d1 d2 q1 q2) ≤ 1 := by
  cases h : Eg.has a1 a2 b1 b2 c1 c2 q1 q2
  · have := Eg.n_le (Eg.has b1 b2 a1 a2 d1 d2 q1 q2); unfold Eg.n at *; simp at *; omega
  · cases h' : Eg.has b1 b2 a1 a2 d1 d2 q1 q2
    · decide
    · exfalso
      unfold Eg.has at h h'
      simp only [Bool.and_eq_true] at h h'
      have k1 := (Eg.on_iff ha hb).1 h.1.1.2
      have k2 := (Eg.on_iff hb ha).1 h'.1.1.2
      rw [Eg.S_back] at k2
      omega
/-- who stands on the edge between its ends is one's -/
theorem Eg.between {a1 a2 b1 b2 c1 c2 d1 d2 q1 q2 : Int} (h1 : 0 < Eg.side a1 a2 b1 b2 c1 c2) (h2 : 0 < Eg.side b1 b2 a1 a2 d1 d2) (h0 : Eg.side a1 a2 b1 b2 q1 q2 = 0)
    (g1 : 0 < Eg.side b1 b2 c1 c2 q1 q2) (g2 : 0 < Eg.side c1 c2 a1 a2 q1 q2) (g3 : 0 < Eg.side a1 a2 d1 d2 q1 q2) (g4 : 0 < Eg.side d1 d2 b1 b2 q1 q2) :
    Eg.n (Eg.has a1 a2 b1 b2 c1 c2 q1 q2) + Eg.n (Eg.has b1 b2 a1 a2 d1 d2 q1 q2) = 1 := by
  have hne : ¬(a1 = b1 ∧ a2 = b2) := fun e => by
    obtain ⟨rfl, rfl⟩ := e
    unfold Eg.side at h1; simp at h1
  have hb := Eg.owns_back hne
  have h3 := Eg.side_back a1 a2 b1 b2 q1 q2
  rw [h0] at h3
  unfold Eg.has Eg.on
  simp only [h1, h2, g1, g2, g3, g4, h0, h3, hb]
  cases Eg.owns a1 a2 b1 b2 <;> simp [Eg.n]
end Go.Proofs.Ytiigbpfoaoekhaa
