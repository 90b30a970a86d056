/-
  Plain facts of layer 11 (tile), further: the tiles of a rectangle, gone through row by row, and picked out of all.
-/
import Derived.Test.YtphgihijobnlhaaTilePlain
namespace Go.Proofs.Ytphgihijobnlhaa
open Go.RowKit

/-- the first tiles of one row -/
def Tl.line (a l t : Int) (i q : Nat) : List Int := (List.range q).map fun j : Nat => (t + (i : Int)) * a + (l + (j : Int))
/-- the first rows -/
def Tl.cov (a l t : Int) (k q : Nat) : List Int := (List.range k).flatMap fun i => Tl.line a l t i q
theorem Tl.line_next (a l t : Int) (i q : Nat) : Tl.line a l t i (q + 1) = Tl.line a l t i q ++ [(t + (i : Int)) * a + (l + (q : Int))] := by simp [Tl.line, List.range_succ]
theorem Tl.cov_next (a l t : Int) (k q : Nat) : Tl.cov a l t (k + 1) q = Tl.cov a l t k q ++ Tl.line a l t k q := by simp [Tl.cov, List.range_succ]
theorem Tl.cov_zero (a l t : Int) (q : Nat) : Tl.cov a l t 0 q = [] := rfl
theorem Tl.line_zero (a l t : Int) (i : Nat) : Tl.line a l t i 0 = [] := rfl
theorem Tl.line_len (a l t : Int) (i q : Nat) : (Tl.line a l t i q).length = q := by simp [Tl.line]
theorem Tl.cov_len (a l t : Int) (k q : Nat) : (Tl.cov a l t k q).length = k * q := by
  induction k with
  | zero => simp [Tl.cov]
  | succ k ih => rw [Tl.cov_next, List.length_append, ih, Tl.line_len, Nat.succ_mul]
/-- the first numbers that are picked -/
def Tl.sel (p : Int → Bool) (k : Nat) : List Int := ((List.range k).filter fun i : Nat => p (i : Int)).map fun i : Nat => (i : Int)
theorem Tl.sel_zero (p : Int → Bool) : Tl.sel p 0 = [] := rfl
theorem Tl.sel_yes {p : Int → Bool} {k : Nat} (h : p (k : Int) = true) : Tl.sel p (k + 1) = Tl.sel p k ++ [(k : Int)] := by simp [Tl.sel, List.range_succ, List.filter_append, h]
theorem Tl.sel_no {p : Int → Bool} {k : Nat} (h : p (k : Int) = false) : Tl.sel p (k + 1) = Tl.sel p k := by simp [Tl.sel, List.range_succ, List.filter_append, h]
theorem Tl.sel_len (p : Int → Bool) (k : Nat) : (Tl.sel p k).length ≤ k := by
  unfold Tl.sel
  rw [List.length_map]
  exact Nat.le_trans (List.length_filter_le _ _) (by simp)
/-- rows that rise and have the same members are the same -/
theorem Tl.rising : ∀ (l m : List Int), l.Pairwise (· < ·) → m.Pairwise (· < ·) → (∀ x, x ∈ l ↔ x ∈ m) → l = m
  | [], [], _, _, _ => rfl
  | [], b :: m, _, _, h => by have := (h b).2 (by simp); simp at this
  | a :: l, [], _, _, h => by have := (h a).1 (by simp); simp at this
  | a :: l, b :: m, hl, hm, h => by
    obtain ⟨l1, l2⟩ := List.pairwise_cons.1 hl
    obtain ⟨m1, m2⟩ := List.pairwise_cons.1 hm
    have e : a = b := by
      rcases List.mem_cons.1 ((h a).1 (by simp)) with e | e
      · exact e
      · rcases List.mem_cons.1 ((h b).2 (by simp)) with e' | e'
        · exact e'.symm
        · have := m1 a e; have := l1 b e'; omega
    subst e
    rw [Tl.rising l m l2 m2 fun x => ?_]
    constructor
    · intro hx
      rcases List.mem_cons.1 ((h x).1 (List.mem_cons_of_mem _ hx)) with e | e
      · have := l1 x hx; omega
      · exact e
    · intro hx
      rcases List.mem_cons.1 ((h x).2 (List.mem_cons_of_mem _ hx)) with e | e
      · have := m1 x hx; omega
      · exact e
theorem Tl.sel_rises (p : Int → Bool) (k : Nat) : (Tl.sel p k).Pairwise (· < ·) := by
  unfold Tl.sel
  rw [List.pairwise_map]
  exact (List.pairwise_lt_range.filter _).imp (by intro a b h; omega)
theorem Tl.cov_rises (a l t : Int) (k q : Nat) (h : 0 ≤ l) (h' : l + (q : Int) ≤ a) : (Tl.cov a l t k q).Pairwise (· < ·) := by
  unfold Tl.cov
  rw [List.pairwise_flatMap]
  constructor
  · intro i _
    unfold Tl.line
    rw [List.pairwise_map]
    exact List.pairwise_lt_range.imp (by intro a b h; omega)
  · refine List.pairwise_lt_range.imp ?_
    intro i j hij x hx y hy
    unfold Tl.line at hx hy
    obtain ⟨c, hc, rfl⟩ := List.mem_map.1 hx
    obtain ⟨d, hd, rfl⟩ := List.mem_map.1 hy
    rw [List.mem_range] at hc hd
    have h1 : (t + (i : Int) + 1) * a ≤ (t + (j : Int)) * a := Int.mul_le_mul_of_nonneg_right (by omega) (by omega)
    rw [Int.add_mul (t + (i : Int)) 1, Int.one_mul] at h1
    omega
theorem Tl.mem_cov {a l t : Int} {k q : Nat} {x : Int} : x ∈ Tl.cov a l t k q ↔ ∃ i j : Nat, i < k ∧ j < q ∧ x = (t + (i : Int)) * a + (l + (j : Int)) := by
  unfold Tl.cov Tl.line
  simp only [List.mem_flatMap, List.mem_map, List.mem_range]
  constructor
  · rintro ⟨i, hi, j, hj, rfl⟩; exact ⟨i, j, hi, hj, rfl⟩
  · rintro ⟨i, j, hi, hj, rfl⟩; exact ⟨i, hi, j, hj, rfl⟩
theorem Tl.mem_sel {p : Int → Bool} {k : Nat} {x : Int} : x ∈ Tl.sel p k ↔ ∃ i : Nat, i < k ∧ p (i : Int) = true ∧ x = (i : Int) := by
  unfold Tl.sel
  simp only [List.mem_map, List.mem_filter, List.mem_range]
  constructor
  · rintro ⟨i, ⟨hi, hp⟩, rfl⟩; exact ⟨i, hi, hp, rfl⟩
  · rintro ⟨i, hi, hp, rfl⟩; exact ⟨i, ⟨hi, hp⟩, rfl⟩
/-- has a tile, by its column and row, a pixel of a rectangle? -/
def Tl.cut (n m a0 a1 a2 a3 c r : Int) : Bool := !Rt.emp (Rt.mx (c * 16) a0) (Rt.mx (r * 16) a1) (Rt.mn (Rt.mn (c * 16 + 16) n) a2) (Rt.mn (Rt.mn (r * 16 + 16) m) a3)
def Tl.hit (n m a0 a1 a2 a3 k : Int) : Bool := Tl.cut n m a0 a1 a2 a3 (k % Tl.bg n) (k / Tl.bg n)
theorem Rt.And.emp {a0 a1 a2 a3 b0 b1 b2 b3 c0 c1 c2 c3 : Int} (h : Rt.And a0 a1 a2 a3 b0 b1 b2 b3 c0 c1 c2 c3) : Rt.emp c0 c1 c2 c3 = Rt.emp (Rt.mx a0 b0) (Rt.mx a1 b1) (Rt.mn a2 b2) (Rt.mn a3 b3) := by
  rcases h with ⟨h, rfl, rfl, rfl, rfl⟩ | ⟨h, rfl, rfl, rfl, rfl⟩
  · rw [h]; rfl
  · rfl
/-- along one side -/
theorem Tl.along {n a b c : Int} (hc : 0 ≤ c) (h : Rt.mx a 0 < Rt.mn b n) (hn : c * 16 < n) :
    Rt.mx (c * 16) a < Rt.mn (Rt.mn (c * 16 + 16) n) b ↔ Rt.mx a 0 / 16 ≤ c ∧ c < Tl.bg (Rt.mn b n) := by
  have m0 := Rt.mx_is a 0; have m1 := Rt.mn_is b n; have m2 := Rt.mx_is (c * 16) a; have m3 := Rt.mn_is (c * 16 + 16) n
  have m4 := Rt.mn_is (Rt.mn (c * 16 + 16) n) b
  unfold Tl.bg
  constructor
  · intro g; omega
  · intro g; omega
theorem Tl.beside {n a b c : Int} (hc : 0 ≤ c) (h : Rt.mn b n ≤ Rt.mx a 0) : Rt.mn (Rt.mn (c * 16 + 16) n) b ≤ Rt.mx (c * 16) a := by
  have m0 := Rt.mx_is a 0; have m1 := Rt.mn_is b n; have m2 := Rt.mx_is (c * 16) a; have m3 := Rt.mn_is (c * 16 + 16) n
  have m4 := Rt.mn_is (Rt.mn (c * 16 + 16) n) b
  omega
/-- what is seen of a rectangle -/
structure Tl.Seen (n m s0 s1 s2 s3 : Int) : Prop where
  x0 : 0 ≤ s0
  x1 : s0 ≤ s2
  x2 : s2 ≤ n
  y0 : 0 ≤ s1
  y1 : s1 ≤ s3
  y2 : s3 ≤ m
theorem Tl.seen {n m a0 a1 a2 a3 s0 s1 s2 s3 : Int} (hn : 1 ≤ n) (hm : 1 ≤ m) (h : Rt.And a0 a1 a2 a3 0 0 n m s0 s1 s2 s3) : Tl.Seen n m s0 s1 s2 s3 := by
  rcases h with ⟨h, rfl, rfl, rfl, rfl⟩ | ⟨h, rfl, rfl, rfl, rfl⟩
  · exact ⟨by omega, by omega, by omega, by omega, by omega, by omega⟩
  · have h1 := Rt.emp_no.1 h
    have m0 := Rt.mx_is a0 0; have m1 := Rt.mx_is a1 0; have m2 := Rt.mn_is a2 n; have m3 := Rt.mn_is a3 m
    exact ⟨by omega, by omega, by omega, by omega, by omega, by omega⟩
/-- the tiles of what is seen are those that have a pixel of the rectangle -/
theorem Tl.covers {n m a0 a1 a2 a3 s0 s1 s2 s3 : Int} {k q z : Nat} (hn : 1 ≤ n) (hm : 1 ≤ m) (h : Rt.And a0 a1 a2 a3 0 0 n m s0 s1 s2 s3)
    (hk : Tl.bg s3 - s1 / 16 = (k : Int)) (hq : Tl.bg s2 - s0 / 16 = (q : Int)) (hz : Tl.bg n * Tl.bg m = (z : Int)) :
    Tl.cov (Tl.bg n) (s0 / 16) (s1 / 16) k q = Tl.sel (Tl.hit n m a0 a1 a2 a3) z := by
  have hs := Tl.seen hn hm h
  have s1' := hs.x0; have s2' := hs.x1; have s3' := hs.x2; have s4' := hs.y0; have s5' := hs.y1; have s6' := hs.y2
  have hle : s0 / 16 + (q : Int) ≤ Tl.bg n := by unfold Tl.bg at *; omega
  have hle2 : s1 / 16 + (k : Int) ≤ Tl.bg m := by unfold Tl.bg at *; omega
  refine Tl.rising _ _ (Tl.cov_rises _ _ _ _ _ (by omega) hle) (Tl.sel_rises _ _) fun x => ?_
  rw [Tl.mem_cov, Tl.mem_sel]
  have key : ∀ c r : Int, 0 ≤ c → c < Tl.bg n → 0 ≤ r → r < Tl.bg m → (Tl.cut n m a0 a1 a2 a3 c r = true ↔ (s0 / 16 ≤ c ∧ c < s0 / 16 + (q : Int)) ∧ (s1 / 16 ≤ r ∧ r < s1 / 16 + (k : Int))) := by
    intro c r g0 g1 g2 g3
    have g4 := Tl.bg_lt g1
    have g5 := Tl.bg_lt g3
    unfold Tl.cut
    rw [Bool.not_eq_true', Rt.emp_no]
    rcases h with ⟨h, rfl, rfl, rfl, rfl⟩ | ⟨h, rfl, rfl, rfl, rfl⟩
    · have e1 : Tl.bg 0 = 0 := rfl
      rw [e1] at hk hq
      constructor
      · intro g
        rcases Rt.emp_iff.1 h with h | h
        · have := Tl.beside g0 h; omega
        · have := Tl.beside g2 h; omega
      · intro g; omega
    · obtain ⟨h1, h2⟩ := Rt.emp_no.1 h
      rw [Tl.along g0 h1 g4, Tl.along g2 h2 g5]
      constructor
      · intro g; omega
      · intro g; omega
  constructor
  · rintro ⟨i, j, hi, hj, rfl⟩
    have hA : Tl.At n m ((s1 / 16 + (i : Int)) * Tl.bg n + (s0 / 16 + (j : Int))) (s0 / 16 + (j : Int)) (s1 / 16 + (i : Int)) := ⟨by omega, by omega, by omega, by omega, rfl⟩
    obtain ⟨l1, l2⟩ := hA.lt
    obtain ⟨d1, d2⟩ := hA.col
    refine ⟨((s1 / 16 + (i : Int)) * Tl.bg n + (s0 / 16 + (j : Int))).toNat, by omega, ?_, by omega⟩
    rw [Int.toNat_of_nonneg l1]
    unfold Tl.hit
    rw [d1, d2]
    exact (key _ _ hA.c0 hA.c1 hA.r0 hA.r1).2 (by omega)
  · rintro ⟨i, hi, hp, rfl⟩
    have hA := Tl.at_of (n := n) (m := m) (k := (i : Int)) hn (by omega) (by omega)
    unfold Tl.hit at hp
    have h9 := (key _ _ hA.c0 hA.c1 hA.r0 hA.r1).1 hp
    refine ⟨((i : Int) / Tl.bg n - s1 / 16).toNat, ((i : Int) % Tl.bg n - s0 / 16).toNat, by omega, by omega, ?_⟩
    rw [show s1 / 16 + ((((i : Int) / Tl.bg n - s1 / 16).toNat : Nat) : Int) = (i : Int) / Tl.bg n by omega, show s0 / 16 + ((((i : Int) % Tl.bg n - s0 / 16).toNat : Nat) : Int) = (i : Int) % Tl.bg n by omega]
    exact hA.k
end Go.Proofs.Ytphgihijobnlhaa
