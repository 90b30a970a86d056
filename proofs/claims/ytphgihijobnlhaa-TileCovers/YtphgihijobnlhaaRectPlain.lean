/-
  Plain facts of layer 10 (rect): rectangles by their four numbers; no program in sight.
-/
import Derived.Test.YtphgihijobnlhaaMem
namespace Go.Proofs.Ytphgihijobnlhaa
open Go.RowKit

/-- the greater, the lesser of two -/
def Rt.mx (a b : Int) : Int := if a < b then b else a
def Rt.mn (a b : Int) : Int := if b < a then b else a
/-- is it empty? -/
def Rt.emp (x0 y0 x1 y1 : Int) : Bool := decide (x1 ≤ x0) || decide (y1 ≤ y0)
/-- does it have a pixel? -/
def Rt.has (x0 y0 x1 y1 x y : Int) : Bool := decide (x0 ≤ x) && decide (x < x1) && decide (y0 ≤ y) && decide (y < y1)
/-- are all from one number to another one? -/
def Rt.wi (lo hi : Int) (l : List Int) : Bool := l.all fun n => decide (lo ≤ n) && decide (n ≤ hi)
/-- is it small? -/
def Rt.small (x0 y0 x1 y1 : Int) : Bool := Rt.wi (-1048576) 1048576 [x0, y0, x1, y1]
/-- may it be viewed? -/
def Rt.view (x y w h : Int) : Bool := Rt.wi (-4096) 4096 [x, y] && Rt.wi 0 4096 [w, h]
/-- how many pixels it has -/
def Rt.area (x0 y0 x1 y1 : Int) : Int := if Rt.emp x0 y0 x1 y1 then 0 else (x1 - x0) * (y1 - y0)
/-- what two have -/
def Rt.And (a0 a1 a2 a3 b0 b1 b2 b3 c0 c1 c2 c3 : Int) : Prop :=
  (Rt.emp (Rt.mx a0 b0) (Rt.mx a1 b1) (Rt.mn a2 b2) (Rt.mn a3 b3) = true ∧ c0 = 0 ∧ c1 = 0 ∧ c2 = 0 ∧ c3 = 0) ∨
  (Rt.emp (Rt.mx a0 b0) (Rt.mx a1 b1) (Rt.mn a2 b2) (Rt.mn a3 b3) = false ∧ c0 = Rt.mx a0 b0 ∧ c1 = Rt.mx a1 b1 ∧ c2 = Rt.mn a2 b2 ∧ c3 = Rt.mn a3 b3)
/-- what is around two -/
def Rt.Around (a0 a1 a2 a3 b0 b1 b2 b3 c0 c1 c2 c3 : Int) : Prop :=
  (Rt.emp a0 a1 a2 a3 = true ∧ Rt.emp b0 b1 b2 b3 = true ∧ c0 = 0 ∧ c1 = 0 ∧ c2 = 0 ∧ c3 = 0) ∨
  (Rt.emp a0 a1 a2 a3 = true ∧ Rt.emp b0 b1 b2 b3 = false ∧ c0 = b0 ∧ c1 = b1 ∧ c2 = b2 ∧ c3 = b3) ∨
  (Rt.emp a0 a1 a2 a3 = false ∧ Rt.emp b0 b1 b2 b3 = true ∧ c0 = a0 ∧ c1 = a1 ∧ c2 = a2 ∧ c3 = a3) ∨
  (Rt.emp a0 a1 a2 a3 = false ∧ Rt.emp b0 b1 b2 b3 = false ∧ c0 = Rt.mn a0 b0 ∧ c1 = Rt.mn a1 b1 ∧ c2 = Rt.mx a2 b2 ∧ c3 = Rt.mx a3 b3)

theorem Rt.mx_comm (a b : Int) : Rt.mx a b = Rt.mx b a := by unfold Rt.mx; split <;> split <;> omega
theorem Rt.mn_comm (a b : Int) : Rt.mn a b = Rt.mn b a := by unfold Rt.mn; split <;> split <;> omega
theorem Rt.mx_is (a b : Int) : (a ≤ b ∧ Rt.mx a b = b) ∨ (b ≤ a ∧ Rt.mx a b = a) := by unfold Rt.mx; split <;> omega
theorem Rt.mn_is (a b : Int) : (b ≤ a ∧ Rt.mn a b = b) ∨ (a ≤ b ∧ Rt.mn a b = a) := by unfold Rt.mn; split <;> omega
theorem Rt.emp_iff {x0 y0 x1 y1 : Int} : Rt.emp x0 y0 x1 y1 = true ↔ x1 ≤ x0 ∨ y1 ≤ y0 := by simp [Rt.emp]
theorem Rt.emp_no {x0 y0 x1 y1 : Int} : Rt.emp x0 y0 x1 y1 = false ↔ x0 < x1 ∧ y0 < y1 := by simp [Rt.emp]
theorem Rt.has_iff {x0 y0 x1 y1 x y : Int} : Rt.has x0 y0 x1 y1 x y = true ↔ (x0 ≤ x ∧ x < x1) ∧ (y0 ≤ y ∧ y < y1) := by simp [Rt.has, and_assoc]
theorem Rt.and_some (a0 a1 a2 a3 b0 b1 b2 b3 : Int) : ∃ c0 c1 c2 c3, Rt.And a0 a1 a2 a3 b0 b1 b2 b3 c0 c1 c2 c3 := by
  cases h : Rt.emp (Rt.mx a0 b0) (Rt.mx a1 b1) (Rt.mn a2 b2) (Rt.mn a3 b3)
  · exact ⟨_, _, _, _, .inr ⟨h, rfl, rfl, rfl, rfl⟩⟩
  · exact ⟨_, _, _, _, .inl ⟨h, rfl, rfl, rfl, rfl⟩⟩
theorem Rt.And.symm {a0 a1 a2 a3 b0 b1 b2 b3 c0 c1 c2 c3 : Int} (h : Rt.And a0 a1 a2 a3 b0 b1 b2 b3 c0 c1 c2 c3) : Rt.And b0 b1 b2 b3 a0 a1 a2 a3 c0 c1 c2 c3 := by
  unfold Rt.And at *
  rw [Rt.mx_comm a0, Rt.mx_comm a1, Rt.mn_comm a2, Rt.mn_comm a3] at h
  exact h
theorem Rt.around_some (a0 a1 a2 a3 b0 b1 b2 b3 : Int) : ∃ c0 c1 c2 c3, Rt.Around a0 a1 a2 a3 b0 b1 b2 b3 c0 c1 c2 c3 := by
  cases h : Rt.emp a0 a1 a2 a3 <;> cases h' : Rt.emp b0 b1 b2 b3
  · exact ⟨_, _, _, _, .inr (.inr (.inr ⟨h, h', rfl, rfl, rfl, rfl⟩))⟩
  · exact ⟨_, _, _, _, .inr (.inr (.inl ⟨h, h', rfl, rfl, rfl, rfl⟩))⟩
  · exact ⟨_, _, _, _, .inr (.inl ⟨h, h', rfl, rfl, rfl, rfl⟩)⟩
  · exact ⟨_, _, _, _, .inl ⟨h, h', rfl, rfl, rfl, rfl⟩⟩
theorem Rt.Around.symm {a0 a1 a2 a3 b0 b1 b2 b3 c0 c1 c2 c3 : Int} (h : Rt.Around a0 a1 a2 a3 b0 b1 b2 b3 c0 c1 c2 c3) : Rt.Around b0 b1 b2 b3 a0 a1 a2 a3 c0 c1 c2 c3 := by
  unfold Rt.Around at *
  rw [Rt.mn_comm a0, Rt.mn_comm a1, Rt.mx_comm a2, Rt.mx_comm a3] at h
  rcases h with ⟨h, h', k⟩ | ⟨h, h', k⟩ | ⟨h, h', k⟩ | ⟨h, h', k⟩
  · exact .inl ⟨h', h, k⟩
  · exact .inr (.inr (.inl ⟨h', h, k⟩))
  · exact .inr (.inl ⟨h', h, k⟩)
  · exact .inr (.inr (.inr ⟨h', h, k⟩))
/-- it has what both have -/
theorem Rt.And.has {a0 a1 a2 a3 b0 b1 b2 b3 c0 c1 c2 c3 : Int} (h : Rt.And a0 a1 a2 a3 b0 b1 b2 b3 c0 c1 c2 c3) (x y : Int) :
    Rt.has c0 c1 c2 c3 x y = (Rt.has a0 a1 a2 a3 x y && Rt.has b0 b1 b2 b3 x y) := by
  rw [Bool.eq_iff_iff, Bool.and_eq_true, Rt.has_iff, Rt.has_iff, Rt.has_iff]
  have m0 := Rt.mx_is a0 b0; have m1 := Rt.mx_is a1 b1; have m2 := Rt.mn_is a2 b2; have m3 := Rt.mn_is a3 b3
  rcases h with ⟨h, rfl, rfl, rfl, rfl⟩ | ⟨h, rfl, rfl, rfl, rfl⟩
  · rw [Rt.emp_iff] at h; omega
  · omega
/-- it has all of both -/
theorem Rt.Around.has {a0 a1 a2 a3 b0 b1 b2 b3 c0 c1 c2 c3 : Int} (h : Rt.Around a0 a1 a2 a3 b0 b1 b2 b3 c0 c1 c2 c3) (x y : Int) (k : Rt.has a0 a1 a2 a3 x y = true ∨ Rt.has b0 b1 b2 b3 x y = true) :
    Rt.has c0 c1 c2 c3 x y = true := by
  rw [Rt.has_iff, Rt.has_iff] at k
  rw [Rt.has_iff]
  have m0 := Rt.mn_is a0 b0; have m1 := Rt.mn_is a1 b1; have m2 := Rt.mx_is a2 b2; have m3 := Rt.mx_is a3 b3
  rcases h with ⟨h, h', rfl, rfl, rfl, rfl⟩ | ⟨h, h', rfl, rfl, rfl, rfl⟩ | ⟨h, h', rfl, rfl, rfl, rfl⟩ | ⟨h, h', rfl, rfl, rfl, rfl⟩
  · rw [Rt.emp_iff] at h h'; omega
  · rw [Rt.emp_iff] at h; omega
  · rw [Rt.emp_iff] at h'; omega
  · omega
theorem Rt.Around.zero {a0 a1 a2 a3 b0 b1 b2 b3 c0 c1 c2 c3 : Int} (h : Rt.Around a0 a1 a2 a3 b0 b1 b2 b3 c0 c1 c2 c3) (h1 : Rt.emp a0 a1 a2 a3 = true) (h2 : Rt.emp b0 b1 b2 b3 = true) : c0 = 0 ∧ c1 = 0 ∧ c2 = 0 ∧ c3 = 0 := by
  rcases h with ⟨_, _, k⟩ | ⟨_, h', _⟩ | ⟨h, _, _⟩ | ⟨h, _, _⟩
  · exact k
  · rw [h'] at h2; cases h2
  · rw [h] at h1; cases h1
  · rw [h] at h1; cases h1
theorem Rt.Around.second {a0 a1 a2 a3 b0 b1 b2 b3 c0 c1 c2 c3 : Int} (h : Rt.Around a0 a1 a2 a3 b0 b1 b2 b3 c0 c1 c2 c3) (h1 : Rt.emp a0 a1 a2 a3 = true) (h2 : Rt.emp b0 b1 b2 b3 = false) : c0 = b0 ∧ c1 = b1 ∧ c2 = b2 ∧ c3 = b3 := by
  rcases h with ⟨_, h', _⟩ | ⟨_, _, k⟩ | ⟨h, _, _⟩ | ⟨h, _, _⟩
  · rw [h'] at h2; cases h2
  · exact k
  · rw [h] at h1; cases h1
  · rw [h] at h1; cases h1
/-- the first lies within what is around both -/
theorem Rt.Around.within {a0 a1 a2 a3 b0 b1 b2 b3 c0 c1 c2 c3 : Int} (h : Rt.Around a0 a1 a2 a3 b0 b1 b2 b3 c0 c1 c2 c3) (h1 : Rt.emp a0 a1 a2 a3 = false) : Rt.And a0 a1 a2 a3 c0 c1 c2 c3 a0 a1 a2 a3 := by
  have m0 := Rt.mn_is a0 b0; have m1 := Rt.mn_is a1 b1; have m2 := Rt.mx_is a2 b2; have m3 := Rt.mx_is a3 b3
  have h9 := Rt.emp_no.1 h1
  have key : c0 ≤ a0 ∧ c1 ≤ a1 ∧ a2 ≤ c2 ∧ a3 ≤ c3 := by
    rcases h with ⟨h, _⟩ | ⟨h, _⟩ | ⟨_, _, rfl, rfl, rfl, rfl⟩ | ⟨_, _, rfl, rfl, rfl, rfl⟩
    · rw [h] at h1; cases h1
    · rw [h] at h1; cases h1
    · omega
    · omega
  have n0 := Rt.mx_is a0 c0; have n1 := Rt.mx_is a1 c1; have n2 := Rt.mn_is a2 c2; have n3 := Rt.mn_is a3 c3
  exact .inr ⟨Rt.emp_no.2 (by omega), by omega, by omega, by omega, by omega⟩
theorem Rt.small_iff {x0 y0 x1 y1 : Int} : Rt.small x0 y0 x1 y1 = true ↔ (-1048576 ≤ x0 ∧ x0 ≤ 1048576) ∧ (-1048576 ≤ y0 ∧ y0 ≤ 1048576) ∧ (-1048576 ≤ x1 ∧ x1 ≤ 1048576) ∧ (-1048576 ≤ y1 ∧ y1 ≤ 1048576) := by
  simp [Rt.small, Rt.wi, and_assoc]
theorem Rt.view_iff {x y w h : Int} : Rt.view x y w h = true ↔ (-4096 ≤ x ∧ x ≤ 4096) ∧ (-4096 ≤ y ∧ y ≤ 4096) ∧ (0 ≤ w ∧ w ≤ 4096) ∧ (0 ≤ h ∧ h ≤ 4096) := by
  simp [Rt.view, Rt.wi, and_assoc]
/-- sides, and their product -/
theorem Rt.sides {x0 y0 x1 y1 : Int} (h : Rt.small x0 y0 x1 y1 = true) (h' : Rt.emp x0 y0 x1 y1 = false) : (1 ≤ x1 - x0 ∧ x1 - x0 ≤ 2097152) ∧ (1 ≤ y1 - y0 ∧ y1 - y0 ≤ 2097152) ∧ 1 ≤ (x1 - x0) * (y1 - y0) ∧ (x1 - x0) * (y1 - y0) ≤ 4398046511104 := by
  have h1 := Rt.small_iff.1 h
  have h2 := Rt.emp_no.1 h'
  have k1 : 1 ≤ x1 - x0 ∧ x1 - x0 ≤ 2097152 := by omega
  have k2 : 1 ≤ y1 - y0 ∧ y1 - y0 ≤ 2097152 := by omega
  have k3 : 1 * 1 ≤ (x1 - x0) * (y1 - y0) := Int.mul_le_mul k1.1 k2.1 (by omega) (by omega)
  have k4 : (x1 - x0) * (y1 - y0) ≤ 2097152 * 2097152 := Int.mul_le_mul k1.2 k2.2 (by omega) (by omega)
  exact ⟨k1, k2, by omega, by omega⟩
end Go.Proofs.Ytphgihijobnlhaa
