/-
  Plain facts of layer 13 (bary): what is mixed, and between what it lies; no program in sight.
-/
import Derived.Test.YtiigbpfoaoekhaaEdgePlain
import Derived.Test.YtiigbpfoaoekhaaWidePlain4
namespace Go.Proofs.Ytiigbpfoaoekhaa
open Go.RowKit

/-- from lo to hi? all three? -/
def By.in1 (lo hi a : Int) : Bool := decide (lo ≤ a) && decide (a ≤ hi)
def By.in3 (lo hi a b c : Int) : Bool := By.in1 lo hi a && By.in1 lo hi b && By.in1 lo hi c
theorem By.in1_iff {lo hi a : Int} : By.in1 lo hi a = true ↔ lo ≤ a ∧ a ≤ hi := by simp [By.in1]
theorem By.in1_no {lo hi a : Int} : By.in1 lo hi a = false ↔ a < lo ∨ hi < a := by
  rw [← Bool.not_eq_true, By.in1_iff]; omega
theorem By.in3_iff {lo hi a b c : Int} : By.in3 lo hi a b c = true ↔ (lo ≤ a ∧ a ≤ hi) ∧ (lo ≤ b ∧ b ≤ hi) ∧ (lo ≤ c ∧ c ≤ hi) := by
  simp [By.in3, By.in1, and_assoc]
/-- the sum of weights times numbers, as it grows -/
def By.s1 (a x : Int) : Int := 0 + a * x
def By.s2 (a b x y : Int) : Int := By.s1 a x + b * y
def By.s3 (a b c x y z : Int) : Int := By.s2 a b x y + c * z
def By.mix (a b c x y z : Int) : Int := By.s3 a b c x y z / (a + b + c)
/-- may these be mixed? -/
def By.ok (a b c x y z : Int) : Bool := By.in3 0 4398046511104 a b c && By.in3 (-1073741824) 1073741824 x y z && decide (0 < a + b + c)

section
variable {a b c x y z lo hi : Int}
/-- a product, of a weight and of a number between two -/
theorem By.one (ha : 0 ≤ a) (h : 0 < a → lo ≤ x ∧ x ≤ hi) : a * lo ≤ a * x ∧ a * x ≤ a * hi := by
  by_cases h0 : 0 < a
  · exact ⟨Int.mul_le_mul_of_nonneg_left (h h0).1 ha, Int.mul_le_mul_of_nonneg_left (h h0).2 ha⟩
  · obtain rfl : a = 0 := by omega
    simp
/-- what is mixed lies between the least and the greatest one that has a weight -/
theorem By.between (ha : 0 ≤ a) (hb : 0 ≤ b) (hc : 0 ≤ c) (h0 : 0 < a + b + c) (h1 : 0 < a → lo ≤ x ∧ x ≤ hi) (h2 : 0 < b → lo ≤ y ∧ y ≤ hi) (h3 : 0 < c → lo ≤ z ∧ z ≤ hi) :
    lo ≤ By.mix a b c x y z ∧ By.mix a b c x y z ≤ hi := by
  have k1 := By.one ha h1
  have k2 := By.one hb h2
  have k3 := By.one hc h3
  unfold By.mix By.s3 By.s2 By.s1
  constructor
  · apply Int.le_ediv_of_mul_le h0
    have : lo * (a + b + c) = a * lo + b * lo + c * lo := by grind
    omega
  · have h4 : 0 + a * x + b * y + c * z < (hi + 1) * (a + b + c) := by
      have : (hi + 1) * (a + b + c) = a * hi + b * hi + c * hi + (a + b + c) := by grind
      omega
    have := Int.ediv_lt_of_lt_mul h0 h4
    omega
theorem By.same (h0 : 0 < a + b + c) : By.mix a b c x x x = x := by
  unfold By.mix By.s3 By.s2 By.s1
  rw [show 0 + a * x + b * x + c * x = x * (a + b + c) by grind]
  exact Int.mul_ediv_cancel _ (by omega)
theorem By.alone1 (h : 0 < a) : By.mix a 0 0 x y z = x := by
  unfold By.mix By.s3 By.s2 By.s1
  rw [show 0 + a * x + 0 * y + 0 * z = x * (a + 0 + 0) by grind]
  exact Int.mul_ediv_cancel _ (by omega)
theorem By.alone2 (h : 0 < a) : By.mix 0 a 0 x y z = y := by
  unfold By.mix By.s3 By.s2 By.s1
  rw [show 0 + 0 * x + a * y + 0 * z = y * (0 + a + 0) by grind]
  exact Int.mul_ediv_cancel _ (by omega)
theorem By.alone3 (h : 0 < a) : By.mix 0 0 a x y z = z := by
  unfold By.mix By.s3 By.s2 By.s1
  rw [show 0 + 0 * x + 0 * y + a * z = z * (0 + 0 + a) by grind]
  exact Int.mul_ediv_cancel _ (by omega)
theorem By.mul_le {n m : Int} (h1 : 0 ≤ n) (h2 : n ≤ 4398046511104) (h3 : -1073741824 ≤ m) (h4 : m ≤ 1073741824) : -4722366482869645213696 ≤ n * m ∧ n * m ≤ 4722366482869645213696 := by
  have k : (n * m).natAbs ≤ 4398046511104 * 1073741824 := by rw [Int.natAbs_mul]; exact Nat.mul_le_mul (by omega) (by omega)
  omega
/-- the quotient is an int -/
theorem By.floor (hw : By.in3 0 4398046511104 a b c = true) (hv : By.in3 (-1073741824) 1073741824 x y z = true) (h0 : 0 < a + b + c) :
    Wd.fq (By.s3 a b c x y z) (a + b + c) = By.mix a b c x y z ∧ Wd.fe (By.s3 a b c x y z) (a + b + c) = 0 := by
  obtain ⟨w1, w2, w3⟩ := By.in3_iff.1 hw
  obtain ⟨v1, v2, v3⟩ := By.in3_iff.1 hv
  have hs : Wd.sx (By.s3 a b c x y z) = By.s3 a b c x y z := by
    have k1 := By.mul_le w1.1 w1.2 v1.1 v1.2
    have k2 := By.mul_le w2.1 w2.2 v2.1 v2.2
    have k3 := By.mul_le w3.1 w3.2 v3.1 v3.2
    unfold By.s3 By.s2 By.s1
    generalize a * x = p at *
    generalize b * y = q at *
    generalize c * z = r at *
    unfold Wd.sx Wd.hi Wd.lo wrap64; omega
  have hf : Wd.fl (By.s3 a b c x y z) (a + b + c) = By.mix a b c x y z := by
    unfold Wd.fl By.mix; rw [hs, Int.fdiv_eq_ediv_of_nonneg _ (by omega)]
  have hb := By.between (lo := -1073741824) (hi := 1073741824) w1.1 w2.1 w3.1 h0 (fun _ => v1) (fun _ => v2) (fun _ => v3)
  have hi : Wd.isInt (Wd.fl (By.s3 a b c x y z) (a + b + c)) := by rw [hf]; unfold Wd.isInt; omega
  have := Wd.fq_in hi
  rwa [hf] at this
/-- two digits, the upper one first -/
theorem By.digits (h0 : 0 < a + b + c) :
    (a * (x / 32768) + b * (y / 32768) + c * (z / 32768)) / (a + b + c) * 32768 + (((a * (x / 32768) + b * (y / 32768) + c * (z / 32768)) - (a * (x / 32768) + b * (y / 32768) + c * (z / 32768)) / (a + b + c) * (a + b + c)) * 32768 + (a * (x - 32768 * (x / 32768)) + b * (y - 32768 * (y / 32768)) + c * (z - 32768 * (z / 32768)))) / (a + b + c) = By.mix a b c x y z := by
  unfold By.mix By.s3 By.s2 By.s1
  have e1 : 0 + a * x + b * y + c * z = (a * (x / 32768) + b * (y / 32768) + c * (z / 32768)) * 32768 + (a * (x - 32768 * (x / 32768)) + b * (y - 32768 * (y / 32768)) + c * (z - 32768 * (z / 32768))) := by grind
  rw [e1]
  generalize a * (x / 32768) + b * (y / 32768) + c * (z / 32768) = H
  generalize a * (x - 32768 * (x / 32768)) + b * (y - 32768 * (y / 32768)) + c * (z - 32768 * (z / 32768)) = L
  generalize a + b + c = n at *
  rw [show H * 32768 + L = ((H - H / n * n) * 32768 + L) + n * (H / n * 32768) by grind, Int.add_mul_ediv_left _ _ (by omega)]
  omega
/-- weights of a corner -/
theorem By.corners (a1 a2 b1 b2 c1 c2 : Int) :
    (Eg.side b1 b2 c1 c2 a1 a2 = Eg.side a1 a2 b1 b2 c1 c2 ∧ Eg.side c1 c2 a1 a2 a1 a2 = 0 ∧ Eg.side a1 a2 b1 b2 a1 a2 = 0) ∧
    (Eg.side b1 b2 c1 c2 b1 b2 = 0 ∧ Eg.side c1 c2 a1 a2 b1 b2 = Eg.side a1 a2 b1 b2 c1 c2 ∧ Eg.side a1 a2 b1 b2 b1 b2 = 0) ∧
    (Eg.side b1 b2 c1 c2 c1 c2 = 0 ∧ Eg.side c1 c2 a1 a2 c1 c2 = 0) := by
  unfold Eg.side
  refine ⟨⟨?_, ?_, ?_⟩, ⟨?_, ?_, ?_⟩, ?_, ?_⟩ <;> grind
theorem By.side_bd {a1 a2 b1 b2 p1 p2 : Int} (ha : Eg.may a1 a2 = true) (hb : Eg.may b1 b2 = true) (hp : Eg.may p1 p2 = true) : -2199023255552 ≤ Eg.side a1 a2 b1 b2 p1 p2 ∧ Eg.side a1 a2 b1 b2 p1 p2 ≤ 2199023255552 := by
  have := Eg.side_le ha hb hp
  unfold Eg.side; omega
end
end Go.Proofs.Ytiigbpfoaoekhaa
