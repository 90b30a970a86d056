/-
  Plain facts of layer 16 (view): a corner's spot on the screen; no program in sight.
-/
import Derived.Test.YthhfhkenpkfioaaClipPlain
namespace Go.Proofs.Ythhfhkenpkfioaa
open Go.RowKit

/-- may there be such a viewport? -/
def Vw.is (x0 y0 x1 y1 : Int) : Bool := decide ((-4096 ≤ x0 ∧ x0 ≤ 4096) ∧ (-4096 ≤ y0 ∧ y0 ≤ 4096) ∧ (x0 ≤ x1 ∧ x1 ≤ x0 + 4096) ∧ (y0 ≤ y1 ∧ y1 ≤ y0 + 4096))
theorem Vw.is_iff {x0 y0 x1 y1 : Int} : Vw.is x0 y0 x1 y1 = true ↔ (-4096 ≤ x0 ∧ x0 ≤ 4096) ∧ (-4096 ≤ y0 ∧ y0 ≤ 4096) ∧ (x0 ≤ x1 ∧ x1 ≤ x0 + 4096) ∧ (y0 ≤ y1 ∧ y1 ≤ y0 + 4096) := by simp [Vw.is]
/-- held between two -/
def Vw.sat (n lo hi : Int) : Int := if n < lo then lo else if hi < n then hi else n
theorem Vw.sat_bd {n lo hi : Int} (h : lo ≤ hi) : lo ≤ Vw.sat n lo hi ∧ Vw.sat n lo hi ≤ hi := by
  unfold Vw.sat; split
  · omega
  · split <;> omega
theorem Vw.sat_mono {n m lo hi : Int} (h : lo ≤ hi) (hn : n ≤ m) : Vw.sat n lo hi ≤ Vw.sat m lo hi := by
  unfold Vw.sat; split <;> split <;> (try split) <;> (try split) <;> omega
theorem Vw.sat_in {n lo hi : Int} (h1 : lo ≤ n) (h2 : n ≤ hi) : Vw.sat n lo hi = n := by
  unfold Vw.sat; rw [if_neg (by omega), if_neg (by omega)]
/-- the three numbers of a spot: a side's share s = 8 * side -/
def Vw.x (c : Cn) (x0 x1 : Int) : Int := Vw.sat (16 * x0 + (c 0 + c 3) * 8 * (x1 - x0) / c 3) (-524288) 524288
def Vw.y (c : Cn) (y0 y1 : Int) : Int := Vw.sat (16 * y0 + (c 3 - c 1) * 8 * (y1 - y0) / c 3) (-524288) 524288
def Vw.z (c : Cn) : Int := Vw.sat ((c 2 + c 3) * 65535 / (2 * c 3)) 0 65535
/-- what a side's share is at most -/
theorem Vw.mul_bd {a s M : Int} (h : -M ≤ a ∧ a ≤ M) (hs : 0 ≤ s ∧ s ≤ 4096) (hM : 0 ≤ M) : -(M * 4096) ≤ a * s ∧ a * s ≤ M * 4096 := by
  have h1 : 0 ≤ (M - a) * s := Int.mul_nonneg (by omega) hs.1
  have h2 : 0 ≤ (M + a) * s := Int.mul_nonneg (by omega) hs.1
  have h3 : 0 ≤ M * (4096 - s) := Int.mul_nonneg hM (by omega)
  rw [Int.sub_mul] at h1
  rw [Int.add_mul] at h2
  rw [Int.mul_sub] at h3
  omega
/-- a quotient by one above 0 is no farther from 0 than what is cut -/
theorem Vw.div_bd {n d M : Int} (hd : 1 ≤ d) (h : -M ≤ n ∧ n ≤ M) (hM : 0 ≤ M) : -M ≤ n / d ∧ n / d ≤ M := by
  constructor
  · rw [Int.le_ediv_iff_mul_le (by omega)]
    have h1 : 0 ≤ M * (d - 1) := Int.mul_nonneg hM (by omega)
    rw [Int.mul_sub] at h1
    rw [Int.neg_mul]
    omega
  · have h1 : n / d < M + 1 := by
      rw [Int.ediv_lt_iff_lt_mul (by omega)]
      have h1 : 0 ≤ M * (d - 1) := Int.mul_nonneg hM (by omega)
      rw [Int.mul_sub] at h1
      rw [Int.add_mul]
      omega
    omega
/-- the numbers on the way stay far within 64 bits -/
theorem Vw.x_bd {c : Cn} {x0 x1 : Int} (h : Cl.May c) (hw : 1 ≤ c 3) (hv : 0 ≤ x1 - x0 ∧ x1 - x0 ≤ 4096) :
    (-2147483648 ≤ c 0 + c 3 ∧ c 0 + c 3 ≤ 2147483648) ∧ (-70368744177664 ≤ (c 0 + c 3) * 8 * (x1 - x0) ∧ (c 0 + c 3) * 8 * (x1 - x0) ≤ 70368744177664) ∧
      (-70368744177664 ≤ (c 0 + c 3) * 8 * (x1 - x0) / c 3 ∧ (c 0 + c 3) * 8 * (x1 - x0) / c 3 ≤ 70368744177664) := by
  have h0 := h.1 0 (by omega)
  have h3 := h.1 3 (by omega)
  have h4 : -2147483648 ≤ c 0 + c 3 ∧ c 0 + c 3 ≤ 2147483648 := by omega
  have h5 := Vw.mul_bd (a := (c 0 + c 3) * 8) (s := x1 - x0) (M := 17179869184) (by omega) hv (by omega)
  exact ⟨h4, by omega, Vw.div_bd hw (by omega) (by omega)⟩
theorem Vw.y_bd {c : Cn} {y0 y1 : Int} (h : Cl.May c) (hw : 1 ≤ c 3) (hv : 0 ≤ y1 - y0 ∧ y1 - y0 ≤ 4096) :
    (-2147483648 ≤ c 3 - c 1 ∧ c 3 - c 1 ≤ 2147483648) ∧ (-70368744177664 ≤ (c 3 - c 1) * 8 * (y1 - y0) ∧ (c 3 - c 1) * 8 * (y1 - y0) ≤ 70368744177664) ∧
      (-70368744177664 ≤ (c 3 - c 1) * 8 * (y1 - y0) / c 3 ∧ (c 3 - c 1) * 8 * (y1 - y0) / c 3 ≤ 70368744177664) := by
  have h0 := h.1 1 (by omega)
  have h3 := h.1 3 (by omega)
  have h4 : -2147483648 ≤ c 3 - c 1 ∧ c 3 - c 1 ≤ 2147483648 := by omega
  have h5 := Vw.mul_bd (a := (c 3 - c 1) * 8) (s := y1 - y0) (M := 17179869184) (by omega) hv (by omega)
  exact ⟨h4, by omega, Vw.div_bd hw (by omega) (by omega)⟩
theorem Vw.z_bd {c : Cn} (h : Cl.May c) (hw : 1 ≤ c 3) :
    (-2147483648 ≤ c 2 + c 3 ∧ c 2 + c 3 ≤ 2147483648) ∧ (-140735340871680 ≤ (c 2 + c 3) * 65535 ∧ (c 2 + c 3) * 65535 ≤ 140735340871680) ∧
      (-140735340871680 ≤ (c 2 + c 3) * 65535 / (2 * c 3) ∧ (c 2 + c 3) * 65535 / (2 * c 3) ≤ 140735340871680) := by
  have h0 := h.1 2 (by omega)
  have h3 := h.1 3 (by omega)
  have h4 : -2147483648 ≤ c 2 + c 3 ∧ c 2 + c 3 ≤ 2147483648 := by omega
  exact ⟨h4, by omega, Vw.div_bd (by omega) (by omega) (by omega)⟩

/-! ### in order -/
theorem Vw.cut_mono {a b s d : Int} (hd : 1 ≤ d) (hs : 0 ≤ s) (h : a ≤ b) : a * 8 * s / d ≤ b * 8 * s / d :=
  Int.ediv_le_ediv (by omega) (Int.mul_le_mul_of_nonneg_right (by omega) hs)
theorem Vw.x_mono {c d : Cn} {x0 x1 : Int} (hw : 1 ≤ c 3) (hd : d 3 = c 3) (hv : x0 ≤ x1) (h : c 0 ≤ d 0) : Vw.x c x0 x1 ≤ Vw.x d x0 x1 := by
  unfold Vw.x
  rw [hd]
  refine Vw.sat_mono (by omega) ?_
  have := Vw.cut_mono (a := c 0 + c 3) (b := d 0 + c 3) (s := x1 - x0) hw (by omega) (by omega)
  omega
theorem Vw.y_mono {c d : Cn} {y0 y1 : Int} (hw : 1 ≤ c 3) (hd : d 3 = c 3) (hv : y0 ≤ y1) (h : c 1 ≤ d 1) : Vw.y d y0 y1 ≤ Vw.y c y0 y1 := by
  unfold Vw.y
  rw [hd]
  refine Vw.sat_mono (by omega) ?_
  have := Vw.cut_mono (a := c 3 - d 1) (b := c 3 - c 1) (s := y1 - y0) hw (by omega) (by omega)
  omega
theorem Vw.z_mono {c d : Cn} (hw : 1 ≤ c 3) (hd : d 3 = c 3) (h : c 2 ≤ d 2) : Vw.z c ≤ Vw.z d := by
  unfold Vw.z
  rw [hd]
  exact Vw.sat_mono (by omega) (Int.ediv_le_ediv (by omega) (by omega))

/-! ### what is within lies about the viewport -/
theorem Vw.cut_in {a s d : Int} (hd : 1 ≤ d) (hs : 0 ≤ s) (h : 0 ≤ a ∧ a ≤ 2 * d) : 0 ≤ a * 8 * s / d ∧ a * 8 * s / d ≤ 16 * s := by
  have h0 : 0 ≤ a * 8 * s := Int.mul_nonneg (by omega) hs
  refine ⟨Int.ediv_nonneg h0 (by omega), ?_⟩
  have h1 : 0 ≤ (2 * d - a) * s := Int.mul_nonneg (by omega) hs
  have h2 : a * 8 * s / d < 16 * s + 1 := by
    rw [Int.ediv_lt_iff_lt_mul (by omega)]
    have e1 : a * 8 * s = 8 * (a * s) := by rw [Int.mul_right_comm, Int.mul_comm]
    have e2 : (16 * s + 1) * d = 16 * (d * s) + d := by rw [Int.add_mul, Int.mul_assoc, Int.mul_comm s d, Int.one_mul]
    rw [e1, e2]
    rw [Int.sub_mul, Int.mul_assoc] at h1
    omega
  omega
theorem Vw.x_in {c : Cn} {x0 x1 : Int} (hw : 1 ≤ c 3) (hx : -4096 ≤ x0 ∧ x0 ≤ 4096) (hv : x0 ≤ x1 ∧ x1 ≤ x0 + 4096) (h : -(c 3) ≤ c 0 ∧ c 0 ≤ c 3) : 16 * x0 ≤ Vw.x c x0 x1 ∧ Vw.x c x0 x1 ≤ 16 * x1 := by
  have := Vw.cut_in (a := c 0 + c 3) (s := x1 - x0) hw (by omega) (by omega)
  unfold Vw.x
  rw [Vw.sat_in (by omega) (by omega)]
  omega
theorem Vw.y_in {c : Cn} {y0 y1 : Int} (hw : 1 ≤ c 3) (hy : -4096 ≤ y0 ∧ y0 ≤ 4096) (hv : y0 ≤ y1 ∧ y1 ≤ y0 + 4096) (h : -(c 3) ≤ c 1 ∧ c 1 ≤ c 3) : 16 * y0 ≤ Vw.y c y0 y1 ∧ Vw.y c y0 y1 ≤ 16 * y1 := by
  have := Vw.cut_in (a := c 3 - c 1) (s := y1 - y0) hw (by omega) (by omega)
  unfold Vw.y
  rw [Vw.sat_in (by omega) (by omega)]
  omega
end Go.Proofs.Ythhfhkenpkfioaa
