/-
  Plain facts of layer 7 (blend): factors, equations, masks; no program in sight.
-/
import Derived.Test.YtneomplhikenfaaTintPlain
namespace Go.Proofs.Ytneomplhikenfaa
open Go.RowKit

/-- what a factor says of one channel: the new and the old channel, and both A -/
def Bn.fac (k x y xa ya : Int) : Int :=
  if k = 1 then 255 else if k = 2 then x else if k = 3 then 255 - x else if k = 4 then y else if k = 5 then 255 - y
  else if k = 6 then xa else if k = 7 then 255 - xa else if k = 8 then ya else if k = 9 then 255 - ya else 0
/-- is a number one of so many? -/
def Bn.am (c n : Int) : Bool := decide (0 ≤ n ∧ n < c)
/-- may a blend be? -/
def Bn.chk (s d e m : Int) : Int := if Bn.am 10 s && Bn.am 10 d && Bn.am 5 e then (if Bn.am 16 m then 0 else 3) else 9
def Bn.high (x y : Int) : Int := if y < x then x else y
/-- both channels times their factors, weighed -/
def Bn.sum (p q x y f g : Int) : Int := p * x * f + q * y * g
/-- .. and 127, together, by 255, cut downwards, held -/
def Bn.near (n : Int) : Int := Tn.ch ((n + 127) / 255)
/-- one channel's equation -/
def Bn.eqn (e x y f g : Int) : Int :=
  if e = 3 then Tn.low x y else if e = 4 then Bn.high x y
  else Bn.near (if e = 1 then x * f - y * g else if e = 2 then y * g - x * f else x * f + y * g)
/-- what a mask writes -/
def Bn.wr (m d x y : Int) : Int := if m / d % 2 = 1 then x else y
/-- one channel of what is mixed -/
def Bn.mx (s d e x y xa ya : Int) : Int := Bn.eqn e x y (Bn.fac s x y xa ya) (Bn.fac d x y xa ya)

theorem Bn.am_iff {c n : Int} : Bn.am c n = true ↔ 0 ≤ n ∧ n < c := by simp [Bn.am]
theorem Bn.am_no {c n : Int} : Bn.am c n = false ↔ n < 0 ∨ c ≤ n := by
  rw [← Bool.not_eq_true, Bn.am_iff]; omega
theorem Bn.fac_bd {k x y xa ya : Int} (hx : 0 ≤ x ∧ x ≤ 255) (hy : 0 ≤ y ∧ y ≤ 255) (hxa : 0 ≤ xa ∧ xa ≤ 255) (hya : 0 ≤ ya ∧ ya ≤ 255) : 0 ≤ Bn.fac k x y xa ya ∧ Bn.fac k x y xa ya ≤ 255 := by
  unfold Bn.fac; (repeat' split) <;> omega
theorem Bn.prod_bd {x f : Int} (hx : 0 ≤ x ∧ x ≤ 255) (hf : 0 ≤ f ∧ f ≤ 255) : 0 ≤ x * f ∧ x * f ≤ 65025 := by
  have := Tn.mul_bd hx hf; omega
theorem Bn.eqn_bd {e x y f g : Int} (hx : 0 ≤ x ∧ x ≤ 255) (hy : 0 ≤ y ∧ y ≤ 255) : 0 ≤ Bn.eqn e x y f g ∧ Bn.eqn e x y f g ≤ 255 := by
  unfold Bn.eqn Bn.near
  split
  · unfold Tn.low; split <;> omega
  · split
    · unfold Bn.high; split <;> omega
    · exact Tn.ch_bd _
theorem Bn.wr_bd {m d x y : Int} (hx : 0 ≤ x ∧ x ≤ 255) (hy : 0 ≤ y ∧ y ≤ 255) : 0 ≤ Bn.wr m d x y ∧ Bn.wr m d x y ≤ 255 := by
  unfold Bn.wr; split <;> omega
theorem Bn.wr_zero (d x y : Int) : Bn.wr 0 d x y = y := by unfold Bn.wr; simp
theorem Bn.fac_all (k x y xa ya : Int) (h : Bn.am 10 k = true) :
    k = 0 ∧ Bn.fac k x y xa ya = 0 ∨ k = 1 ∧ Bn.fac k x y xa ya = 255 ∨ k = 2 ∧ Bn.fac k x y xa ya = x ∨ k = 3 ∧ Bn.fac k x y xa ya = 255 - x ∨ k = 4 ∧ Bn.fac k x y xa ya = y ∨ k = 5 ∧ Bn.fac k x y xa ya = 255 - y
      ∨ k = 6 ∧ Bn.fac k x y xa ya = xa ∨ k = 7 ∧ Bn.fac k x y xa ya = 255 - xa ∨ k = 8 ∧ Bn.fac k x y xa ya = ya ∨ k = 9 ∧ Bn.fac k x y xa ya = 255 - ya := by
  have := Bn.am_iff.1 h
  obtain rfl | rfl | rfl | rfl | rfl | rfl | rfl | rfl | rfl | rfl : k = 0 ∨ k = 1 ∨ k = 2 ∨ k = 3 ∨ k = 4 ∨ k = 5 ∨ k = 6 ∨ k = 7 ∨ k = 8 ∨ k = 9 := by omega
  all_goals simp [Bn.fac]
/-- which bits a mask has -/
theorem Bn.bits (m : Int) (h : Bn.am 16 m = true) :
    (bits .and .i64 m 1 != 0) = decide (m / 1 % 2 = 1) ∧ (bits .and .i64 m 2 != 0) = decide (m / 2 % 2 = 1) ∧ (bits .and .i64 m 4 != 0) = decide (m / 4 % 2 = 1) ∧ (bits .and .i64 m 8 != 0) = decide (m / 8 % 2 = 1) := by
  have := Bn.am_iff.1 h
  obtain rfl | rfl | rfl | rfl | rfl | rfl | rfl | rfl | rfl | rfl | rfl | rfl | rfl | rfl | rfl | rfl : m = 0 ∨ m = 1 ∨ m = 2 ∨ m = 3 ∨ m = 4 ∨ m = 5 ∨ m = 6 ∨ m = 7 ∨ m = 8 ∨ m = 9 ∨ m = 10 ∨ m = 11 ∨ m = 12 ∨ m = 13 ∨ m = 14 ∨ m = 15 := by omega
  all_goals decide
/-- the weights of the first three equations -/
theorem Bn.sum_eqn (e x y f g : Int) (h : e ≠ 3) (h' : e ≠ 4) : Bn.near (Bn.sum (if e = 2 then -1 else 1) (if e = 1 then -1 else 1) x y f g) = Bn.eqn e x y f g := by
  unfold Bn.eqn Bn.sum
  rw [if_neg h, if_neg h']
  by_cases h1 : e = 1
  · subst h1; simp [Int.neg_mul, Int.sub_eq_add_neg]
  · by_cases h2 : e = 2
    · subst h2; simp only [show ¬ (2 : Int) = 1 by omega, if_false, if_true]
      congr 1; simp only [Int.neg_mul, Int.one_mul]; omega
    · simp only [h1, h2, if_false, Int.one_mul]
/-- by the plain blend what is new stands -/
theorem Bn.near_whole {x : Int} (h : 0 ≤ x ∧ x ≤ 255) : Bn.near (x * 255) = x := by
  unfold Bn.near Tn.ch Tn.sat
  rw [if_neg (by omega), if_neg (by omega)]; omega
theorem Bn.mx_plain {x y xa ya : Int} (h : 0 ≤ x ∧ x ≤ 255) : Bn.mx 1 0 0 x y xa ya = x := by
  unfold Bn.mx Bn.eqn Bn.fac; simp; exact Bn.near_whole h
/-- .. a colour that is all there stands; one that is not there leaves what was -/
theorem Bn.mx_full {x y ya : Int} (h : 0 ≤ x ∧ x ≤ 255) : Bn.mx 6 7 0 x y 255 ya = x := by
  unfold Bn.mx Bn.eqn Bn.fac; simp; exact Bn.near_whole h
theorem Bn.mx_none {x y ya : Int} (h : 0 ≤ y ∧ y ≤ 255) : Bn.mx 6 7 0 x y 0 ya = y := by
  unfold Bn.mx Bn.eqn Bn.fac; simp; exact Bn.near_whole h
end Go.Proofs.Ytneomplhikenfaa
