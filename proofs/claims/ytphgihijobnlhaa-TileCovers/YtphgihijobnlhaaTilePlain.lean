/-
  Plain facts of layer 11 (tile): tiles by numbers; no program in sight.
-/
import Derived.Test.YtphgihijobnlhaaRectWalks3
namespace Go.Proofs.Ytphgihijobnlhaa
open Go.RowKit

/-- may it be a picture's side? -/
def Tl.side (n : Int) : Bool := decide (1 ≤ n) && decide (n ≤ 256)
/-- may there be such a picture? -/
def Tl.is (n m : Int) : Bool := Tl.side n && Tl.side m
/-- how many tiles begin ahead of a place -/
def Tl.bg (n : Int) : Int := (n + 15) / 16
theorem Tl.side_iff {n : Int} : Tl.side n = true ↔ 1 ≤ n ∧ n ≤ 256 := by simp [Tl.side]
theorem Tl.is_iff {n m : Int} : Tl.is n m = true ↔ (1 ≤ n ∧ n ≤ 256) ∧ (1 ≤ m ∧ m ≤ 256) := by simp [Tl.is, Tl.side]
theorem Tl.bg_le {n : Int} (h : 0 ≤ n) (h' : n ≤ 256) : 0 ≤ Tl.bg n ∧ Tl.bg n ≤ 16 := by unfold Tl.bg; omega
theorem Tl.bg_pos {n : Int} (h : 1 ≤ n) : 1 ≤ Tl.bg n := by unfold Tl.bg; omega
theorem Tl.bg_lt {n k : Int} (h : k < Tl.bg n) : k * 16 < n := by unfold Tl.bg at h; omega
/-- a product of numbers up to 16 -/
theorem Tl.mul_le {a b : Int} (h1 : 0 ≤ a) (h2 : a ≤ 16) (h3 : 0 ≤ b) (h4 : b ≤ 16) : 0 ≤ a * b ∧ a * b ≤ 256 := by
  have k1 : 0 ≤ a * b := Int.mul_nonneg h1 h3
  have k2 : a * b ≤ 16 * 16 := Int.mul_le_mul h2 h4 h3 (by omega)
  omega
/-- a tile's column and row -/
structure Tl.At (n m k c r : Int) : Prop where
  c0 : 0 ≤ c
  c1 : c < Tl.bg n
  r0 : 0 ≤ r
  r1 : r < Tl.bg m
  k : k = r * Tl.bg n + c
theorem Tl.at_of {n m k : Int} (hn : 1 ≤ n) (h0 : 0 ≤ k) (h1 : k < Tl.bg n * Tl.bg m) : Tl.At n m k (k % Tl.bg n) (k / Tl.bg n) := by
  have hp := Tl.bg_pos hn
  refine ⟨Int.emod_nonneg _ (by omega), Int.emod_lt_of_pos _ (by omega), Int.ediv_nonneg h0 (by omega), ?_, ?_⟩
  · exact Int.ediv_lt_of_lt_mul (by omega) (by rw [Int.mul_comm]; exact h1)
  · have := Int.emod_add_mul_ediv k (Tl.bg n)
    rw [Int.mul_comm] at this
    omega
theorem Tl.At.lt {n m k c r : Int} (h : Tl.At n m k c r) : 0 ≤ k ∧ k < Tl.bg n * Tl.bg m := by
  have h1 : 0 ≤ r * Tl.bg n := Int.mul_nonneg h.r0 (by have := h.c0; have := h.c1; omega)
  have h2 : (r + 1) * Tl.bg n ≤ Tl.bg m * Tl.bg n := Int.mul_le_mul_of_nonneg_right (by have := h.r1; omega) (by have := h.c0; have := h.c1; omega)
  rw [Int.add_mul, Int.one_mul, Int.mul_comm (Tl.bg m)] at h2
  have := h.c0; have := h.c1; have := h.k
  omega
theorem Tl.At.col {n m k c r : Int} (h : Tl.At n m k c r) : k % Tl.bg n = c ∧ k / Tl.bg n = r := by
  have hp : 0 < Tl.bg n := by have := h.c0; have := h.c1; omega
  constructor
  · rw [h.k, Int.add_comm, Int.add_mul_emod_self_right]
    exact Int.emod_eq_of_lt h.c0 h.c1
  · rw [h.k, Int.add_comm, Int.add_mul_ediv_right _ _ (by omega), Int.ediv_eq_zero_of_lt h.c0 h.c1, Int.zero_add]
/-- a pixel's tile -/
theorem Tl.at_pixel {n m x y : Int} (h : Rt.has 0 0 n m x y = true) : Tl.At n m (y / 16 * Tl.bg n + x / 16) (x / 16) (y / 16) := by
  have h1 := Rt.has_iff.1 h
  exact ⟨by omega, by unfold Tl.bg; omega, by omega, by unfold Tl.bg; omega, rfl⟩
/-- a tile's pixels -/
theorem Tl.box {n m k c r : Int} (h : Tl.At n m k c r) : Rt.And (c * 16) (r * 16) (c * 16 + 16) (r * 16 + 16) 0 0 n m (c * 16) (r * 16) (Rt.mn (c * 16 + 16) n) (Rt.mn (r * 16 + 16) m) := by
  have h0 := h.c0; have h1 := Tl.bg_lt h.c1; have h2 := h.r0; have h3 := Tl.bg_lt h.r1
  have m0 := Rt.mx_is (c * 16) 0; have m1 := Rt.mx_is (r * 16) 0; have m2 := Rt.mn_is (c * 16 + 16) n; have m3 := Rt.mn_is (r * 16 + 16) m
  exact .inr ⟨Rt.emp_no.2 (by omega), by omega, by omega, rfl, rfl⟩
theorem Tl.box_some {n m k c r : Int} (h : Tl.At n m k c r) : Rt.emp (c * 16) (r * 16) (Rt.mn (c * 16 + 16) n) (Rt.mn (r * 16 + 16) m) = false := by
  have h1 := Tl.bg_lt h.c1; have h3 := Tl.bg_lt h.r1
  have m2 := Rt.mn_is (c * 16 + 16) n; have m3 := Rt.mn_is (r * 16 + 16) m
  exact Rt.emp_no.2 (by omega)
theorem Tl.mn_le (a b : Int) : Rt.mn a b ≤ b := by have := Rt.mn_is a b; omega
/-- each pixel is in just one tile -/
theorem Tl.once {n m k c r x y : Int} (h : Tl.At n m k c r) (hp : Rt.has 0 0 n m x y = true) :
    Rt.has (c * 16) (r * 16) (Rt.mn (c * 16 + 16) n) (Rt.mn (r * 16 + 16) m) x y = (k == y / 16 * Tl.bg n + x / 16) := by
  have h9 := Rt.has_iff.1 hp
  have m2 := Rt.mn_is (c * 16 + 16) n; have m3 := Rt.mn_is (r * 16 + 16) m
  rw [Bool.eq_iff_iff, Rt.has_iff, beq_iff_eq]
  constructor
  · intro g
    have e1 : c = x / 16 := by omega
    have e2 : r = y / 16 := by omega
    rw [h.k, e1, e2]
  · intro g
    have k1 := h.col
    have k2 := (Tl.at_pixel hp).col
    rw [← g] at k2
    have e1 : c = x / 16 := k1.1.symm.trans k2.1
    have e2 : r = y / 16 := k1.2.symm.trans k2.2
    omega
end Go.Proofs.Ytphgihijobnlhaa
