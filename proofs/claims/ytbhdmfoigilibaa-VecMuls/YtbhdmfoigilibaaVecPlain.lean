/-
  Plain facts of layer 5 (vec): numbers within bounds, sums of products by 2^16, matrices as functions of the place.
-/
namespace Go.Proofs.Ytbhdmfoigilibaa

/-- the first n numbers are from -most to most -/
def Vc.wi (most : Int) (f : Nat → Int) (n : Nat) : Bool := (List.range n).all fun j => decide (-most ≤ f j ∧ f j ≤ most)
theorem Vc.wi_true {most : Int} {f : Nat → Int} {n : Nat} (h : ∀ j, j < n → -most ≤ f j ∧ f j ≤ most) : Vc.wi most f n = true := by
  unfold Vc.wi
  simp only [List.all_eq_true, List.mem_range, decide_eq_true_eq]
  exact h
theorem Vc.wi_false {most : Int} {f : Nat → Int} {n k : Nat} (hk : k < n) (h : ¬ (-most ≤ f k ∧ f k ≤ most)) : Vc.wi most f n = false := by
  unfold Vc.wi
  rw [List.all_eq_false]
  exact ⟨k, by simp [hk], by simpa using h⟩
theorem Vc.wi_all {most : Int} {f : Nat → Int} {n : Nat} (h : Vc.wi most f n = true) : ∀ j, j < n → -most ≤ f j ∧ f j ≤ most := by
  unfold Vc.wi at h
  simpa only [List.all_eq_true, List.mem_range, decide_eq_true_eq] using h
theorem Vc.wi_congr {most : Int} {f g : Nat → Int} {n : Nat} (h : ∀ j, j < n → f j = g j) : Vc.wi most f n = Vc.wi most g n := by
  unfold Vc.wi
  rw [Bool.eq_iff_iff]
  simp only [List.all_eq_true, List.mem_range, decide_eq_true_eq]
  exact ⟨fun k j hj => h j hj ▸ k j hj, fun k j hj => (h j hj).symm ▸ k j hj⟩

/-- a row times a column, by 2^16, cut downwards -/
def Vc.ps (a b : Nat → Int) : Nat → Int
  | 0 => 0
  | k + 1 => Vc.ps a b k + a k * b k
def Vc.prod (a b : Nat → Int) : Int := Vc.ps a b 4 / 65536
/-- a row, a column of a matrix -/
def Vc.row (m : Nat → Int) (i j : Nat) : Int := m (4 * i + j)
def Vc.col (m : Nat → Int) (i j : Nat) : Int := m (4 * j + i)
/-- the matrix with these numbers where row and column are the same -/
def Vc.diag (l : Nat → Int) (j : Nat) : Int := if j % 5 = 0 then l (j / 5) else 0
/-- a vector that is moved, a product -/
def Vc.app (m v : Nat → Int) (i : Nat) : Int := Vc.prod (Vc.row m i) v
def Vc.mul (a b : Nat → Int) (j : Nat) : Int := Vc.prod (Vc.row a (j / 4)) (Vc.col b (j % 4))
/-- numbers by their places -/
def Vc.v4 (x y z u : Int) : Nat → Int
  | 0 => x | 1 => y | 2 => z | _ => u

/-- a diagonal, laid up to row k -/
def Vc.dk (l : Nat → Int) (k j : Nat) : Int := if j % 5 = 0 ∧ j / 5 < k then l (j / 5) else 0
theorem Vc.dk_all (l : Nat → Int) {j : Nat} (hj : j < 16) : Vc.dk l 4 j = Vc.diag l j := by
  unfold Vc.dk Vc.diag
  by_cases h : j % 5 = 0
  · rw [if_pos ⟨h, by omega⟩, if_pos h]
  · rw [if_neg (fun c => h c.1), if_neg h]
theorem Vc.dk_succ (l : Nat → Int) {k j : Nat} : (if j = 5 * k then l k else Vc.dk l k j) = Vc.dk l (k + 1) j := by
  unfold Vc.dk
  by_cases h : j = 5 * k
  · subst h
    have e : 5 * k / 5 = k := by omega
    rw [if_pos rfl, if_pos ⟨by omega, by omega⟩, e]
  · rw [if_neg h]
    by_cases c : j % 5 = 0 ∧ j / 5 < k
    · rw [if_pos c, if_pos ⟨c.1, by omega⟩]
    · rw [if_neg c, if_neg (fun d => c ⟨d.1, by omega⟩)]
/-- the matrix that moves nothing -/
def Vc.one : Nat → Int := Vc.diag fun _ => 65536
/-- one that moves, laid up to row k -/
def Vc.mk (x y z : Int) (k j : Nat) : Int := if j % 4 = 3 ∧ j / 4 < k then 256 * Vc.v4 x y z 0 (j / 4) else Vc.one j
def Vc.mov (x y z : Int) : Nat → Int := Vc.mk x y z 3
theorem Vc.mk_zero (x y z : Int) (j : Nat) : Vc.mk x y z 0 j = Vc.one j := by unfold Vc.mk; rw [if_neg (by omega)]
theorem Vc.mk_succ (x y z : Int) {k j : Nat} : (if j = 4 * k + 3 then 256 * Vc.v4 x y z 0 k else Vc.mk x y z k j) = Vc.mk x y z (k + 1) j := by
  unfold Vc.mk
  by_cases h : j = 4 * k + 3
  · subst h
    have e : (4 * k + 3) / 4 = k := by omega
    rw [if_pos rfl, if_pos ⟨by omega, by omega⟩, e]
  · rw [if_neg h]
    by_cases c : j % 4 = 3 ∧ j / 4 < k
    · rw [if_pos c, if_pos ⟨c.1, by omega⟩]
    · rw [if_neg c, if_neg (fun d => c ⟨d.1, by omega⟩)]

theorem Vc.mul_bd {x y p q : Int} (hx : -p ≤ x ∧ x ≤ p) (hy : -q ≤ y ∧ y ≤ q) : -(p * q) ≤ x * y ∧ x * y ≤ p * q := by
  have hp : 0 ≤ p := by omega
  have hq : 0 ≤ q := by omega
  have h : (x * y).natAbs ≤ (p * q).natAbs := by
    rw [Int.natAbs_mul, Int.natAbs_mul]
    exact Nat.mul_le_mul (by omega) (by omega)
  have h2 : 0 ≤ p * q := Int.mul_nonneg hp hq
  omega
theorem Vc.ps_bd {a b : Nat → Int} (ha : ∀ j, j < 4 → -16777216 ≤ a j ∧ a j ≤ 16777216) (hb : ∀ j, j < 4 → -1073741824 ≤ b j ∧ b j ≤ 1073741824) :
    ∀ k, k ≤ 4 → -(18014398509481984 * k) ≤ Vc.ps a b k ∧ Vc.ps a b k ≤ 18014398509481984 * k
  | 0, _ => by simp [Vc.ps]
  | k + 1, hk => by
    have ih := Vc.ps_bd ha hb k (by omega)
    have := Vc.mul_bd (ha k (by omega)) (hb k (by omega))
    simp only [Vc.ps]
    omega
theorem Vc.prod_bd {a b : Nat → Int} (ha : ∀ j, j < 4 → -16777216 ≤ a j ∧ a j ≤ 16777216) (hb : ∀ j, j < 4 → -1073741824 ≤ b j ∧ b j ≤ 1073741824) :
    -1099511627776 ≤ Vc.prod a b ∧ Vc.prod a b ≤ 1099511627776 := by
  have := Vc.ps_bd ha hb 4 (by omega)
  unfold Vc.prod
  omega
end Go.Proofs.Ytbhdmfoigilibaa
