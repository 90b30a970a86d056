/-
  Plain facts of layer 17 (tri): triangles that are set up, their boxes, what they have at a pixel; no program in sight. A spot is a function of the place: 0, 1 its point, 2 its depth, 3 to 8 its A.
-/
import Derived.Test.YtiigbpfoaoekhaaEdgePlain
import Derived.Test.YtiigbpfoaoekhaaBaryPlain
namespace Go.Proofs.Ytiigbpfoaoekhaa
open Go.RowKit

/-! ### the least and the greatest one of three -/
def Tr.lo (a b : Int) : Int := if a < b then a else b
def Tr.hi (a b : Int) : Int := if b < a then a else b
def Tr.lo3 (a b c : Int) : Int := Tr.lo (Tr.lo a b) c
def Tr.hi3 (a b c : Int) : Int := Tr.hi (Tr.hi a b) c
theorem Tr.lo3_spec (a b c : Int) : (Tr.lo3 a b c ≤ a ∧ Tr.lo3 a b c ≤ b ∧ Tr.lo3 a b c ≤ c) ∧ (Tr.lo3 a b c = a ∨ Tr.lo3 a b c = b ∨ Tr.lo3 a b c = c) := by
  unfold Tr.lo3 Tr.lo; (repeat' split) <;> omega
theorem Tr.hi3_spec (a b c : Int) : (a ≤ Tr.hi3 a b c ∧ b ≤ Tr.hi3 a b c ∧ c ≤ Tr.hi3 a b c) ∧ (Tr.hi3 a b c = a ∨ Tr.hi3 a b c = b ∨ Tr.hi3 a b c = c) := by
  unfold Tr.hi3 Tr.hi; (repeat' split) <;> omega
theorem Tr.lo3_turn (a b c : Int) : Tr.lo3 b c a = Tr.lo3 a b c := by
  have := Tr.lo3_spec a b c; have := Tr.lo3_spec b c a; omega
theorem Tr.hi3_turn (a b c : Int) : Tr.hi3 b c a = Tr.hi3 a b c := by
  have := Tr.hi3_spec a b c; have := Tr.hi3_spec b c a; omega
theorem Tr.lo3_swap (a b c : Int) : Tr.lo3 a c b = Tr.lo3 a b c := by
  have := Tr.lo3_spec a b c; have := Tr.lo3_spec a c b; omega
theorem Tr.hi3_swap (a b c : Int) : Tr.hi3 a c b = Tr.hi3 a b c := by
  have := Tr.hi3_spec a b c; have := Tr.hi3_spec a c b; omega

/-! ### spots, and triangles that are set up -/
abbrev Sn := Nat → Int
/-- may a spot be? -/
def Tr.small (s : Sn) (j : Nat) : Bool := (List.range j).all fun i => decide (-1048576 ≤ s (3 + i) ∧ s (3 + i) ≤ 1048576)
def Tr.mayB (s : Sn) : Bool := Eg.may (s 0) (s 1) && decide (0 ≤ s 2 ∧ s 2 ≤ 65535) && Tr.small s 6
def Tr.May (s : Sn) : Prop := Eg.may (s 0) (s 1) = true ∧ (0 ≤ s 2 ∧ s 2 ≤ 65535) ∧ ∀ i, i < 6 → -1048576 ≤ s (3 + i) ∧ s (3 + i) ≤ 1048576
theorem Tr.may_iff {s : Sn} : Tr.mayB s = true ↔ Tr.May s := by
  unfold Tr.mayB Tr.May Tr.small
  simp only [Bool.and_eq_true, decide_eq_true_eq, List.all_eq_true, List.mem_range, and_assoc]
theorem Tr.small_next (s : Sn) (j : Nat) : Tr.small s (j + 1) = (Tr.small s j && decide (-1048576 ≤ s (3 + j) ∧ s (3 + j) ≤ 1048576)) := by unfold Tr.small; rw [List.range_succ, List.all_append]; simp
theorem Tr.small_no {s : Sn} {j : Nat} (hj : j < 6) (h : decide (-1048576 ≤ s (3 + j) ∧ s (3 + j) ≤ 1048576) = false) : Tr.small s 6 = false := by
  rw [← Bool.not_eq_true, Tr.small, List.all_eq_true]
  intro h2
  have := h2 j (List.mem_range.2 hj)
  rw [h] at this; cases this
/-- the side of the third one of the first to the second -/
def Tr.area (a b c : Sn) : Int := Eg.side (a 0) (a 1) (b 0) (b 1) (c 0) (c 1)
/-- is it dropped? -/
def Tr.drop (n cull : Int) : Bool := decide (n = 0) || (decide (n < 0) && decide (cull = 1)) || (decide (0 < n) && decide (cull = 2))
theorem Tr.area_turn (a b c : Sn) : Tr.area b c a = Tr.area a b c := Eg.side_turn _ _ _ _ _ _
theorem Tr.area_swap (a b c : Sn) : Tr.area a c b = -Tr.area a b c := by unfold Tr.area Eg.side; grind
theorem Tr.area_first (a b c : Sn) : Tr.area b a c = -Tr.area a b c := Eg.side_back _ _ _ _ _ _
theorem Tr.area_bd {a b c : Sn} (ha : Tr.May a) (hb : Tr.May b) (hc : Tr.May c) : -2199023255552 ≤ Tr.area a b c ∧ Tr.area a b c ≤ 2199023255552 := By.side_bd ha.1 hb.1 hc.1
/-- the first number of a box, from the least one of its spots; its last one, from the greatest one -/
def Tr.from (m : Int) : Int := -(-(m - 8) / 16)
def Tr.to (m : Int) : Int := (m - 8) / 16 + 1
/-- a box's four numbers -/
def Tr.box (a b c : Sn) : Nat → Int
  | 0 => Tr.from (Tr.lo3 (a 0) (b 0) (c 0))
  | 1 => Tr.from (Tr.lo3 (a 1) (b 1) (c 1))
  | 2 => Tr.to (Tr.hi3 (a 0) (b 0) (c 0))
  | _ => Tr.to (Tr.hi3 (a 1) (b 1) (c 1))
theorem Tr.box_turn (a b c : Sn) : Tr.box b c a = Tr.box a b c := by
  funext i
  unfold Tr.box
  split <;> simp only [Tr.lo3_turn, Tr.hi3_turn]
theorem Tr.box_swap (a b c : Sn) : Tr.box a c b = Tr.box a b c := by
  funext i
  unfold Tr.box
  split <;> first | rw [Tr.lo3_swap] | rw [Tr.hi3_swap]

/-! ### pixels -/
/-- does the triangle have the pixel? -/
def Tr.has (a b c : Sn) (x y : Int) : Bool := Eg.fits x y && Eg.has (a 0) (a 1) (b 0) (b 1) (c 0) (c 1) (16 * x + 8) (16 * y + 8)
/-- what it has there, of the number i of its spots -/
def Tr.at (a b c : Sn) (x y : Int) (i : Nat) : Int :=
  By.mix (Eg.side (b 0) (b 1) (c 0) (c 1) (16 * x + 8) (16 * y + 8)) (Eg.side (c 0) (c 1) (a 0) (a 1) (16 * x + 8) (16 * y + 8)) (Eg.side (a 0) (a 1) (b 0) (b 1) (16 * x + 8) (16 * y + 8)) (a i) (b i) (c i)
theorem Tr.on_le {a1 a2 b1 b2 p1 p2 : Int} (h : Eg.on a1 a2 b1 b2 p1 p2 = true) : 0 ≤ Eg.side a1 a2 b1 b2 p1 p2 := by
  unfold Eg.on at h
  simp only [Bool.or_eq_true, Bool.and_eq_true, decide_eq_true_eq] at h
  omega
/-- the weights of a pixel that it has -/
theorem Tr.weights {a b c : Sn} {x y : Int} (h : Tr.has a b c x y = true) : 0 < Tr.area a b c ∧
    0 ≤ Eg.side (b 0) (b 1) (c 0) (c 1) (16 * x + 8) (16 * y + 8) ∧ 0 ≤ Eg.side (c 0) (c 1) (a 0) (a 1) (16 * x + 8) (16 * y + 8) ∧ 0 ≤ Eg.side (a 0) (a 1) (b 0) (b 1) (16 * x + 8) (16 * y + 8) ∧
    Eg.side (b 0) (b 1) (c 0) (c 1) (16 * x + 8) (16 * y + 8) + Eg.side (c 0) (c 1) (a 0) (a 1) (16 * x + 8) (16 * y + 8) + Eg.side (a 0) (a 1) (b 0) (b 1) (16 * x + 8) (16 * y + 8) = Tr.area a b c := by
  unfold Tr.has Eg.has at h
  simp only [Bool.and_eq_true, decide_eq_true_eq] at h
  obtain ⟨-, ⟨⟨h0, h1⟩, h2⟩, h3⟩ := h
  have := Eg.side_sum (a 0) (a 1) (b 0) (b 1) (c 0) (c 1) (16 * x + 8) (16 * y + 8)
  exact ⟨h0, Tr.on_le h2, Tr.on_le h3, Tr.on_le h1, by unfold Tr.area; omega⟩
theorem Tr.has_turn (a b c : Sn) (x y : Int) : Tr.has b c a x y = Tr.has a b c x y := by
  unfold Tr.has Eg.has
  rw [Eg.side_turn (a 0) (a 1) (b 0) (b 1) (c 0) (c 1)]
  generalize Eg.on (a 0) (a 1) (b 0) (b 1) (16 * x + 8) (16 * y + 8) = p
  generalize Eg.on (b 0) (b 1) (c 0) (c 1) (16 * x + 8) (16 * y + 8) = q
  generalize Eg.on (c 0) (c 1) (a 0) (a 1) (16 * x + 8) (16 * y + 8) = r
  cases p <;> cases q <;> cases r <;> simp
theorem Tr.mix_turn (u v w x y z : Int) : By.mix v w u y z x = By.mix u v w x y z := by
  unfold By.mix By.s3 By.s2 By.s1
  rw [show v + w + u = u + v + w by omega, show 0 + v * y + w * z + u * x = 0 + u * x + v * y + w * z by omega]
theorem Tr.at_turn (a b c : Sn) (x y : Int) (i : Nat) : Tr.at b c a x y i = Tr.at a b c x y i := by
  unfold Tr.at
  exact Tr.mix_turn _ _ _ _ _ _
/-- between what its spots have -/
theorem Tr.at_between {a b c : Sn} {x y : Int} (h : Tr.has a b c x y = true) (i : Nat) : Tr.lo3 (a i) (b i) (c i) ≤ Tr.at a b c x y i ∧ Tr.at a b c x y i ≤ Tr.hi3 (a i) (b i) (c i) := by
  obtain ⟨h0, h1, h2, h3, hs⟩ := Tr.weights h
  have l := (Tr.lo3_spec (a i) (b i) (c i)).1
  have u := (Tr.hi3_spec (a i) (b i) (c i)).1
  exact By.between h1 h2 h3 (by omega) (fun _ => ⟨l.1, u.1⟩) (fun _ => ⟨l.2.1, u.2.1⟩) (fun _ => ⟨l.2.2, u.2.2⟩)
theorem Tr.at_depth {a b c : Sn} {x y : Int} (ha : Tr.May a) (hb : Tr.May b) (hc : Tr.May c) (h : Tr.has a b c x y = true) : 0 ≤ Tr.at a b c x y 2 ∧ Tr.at a b c x y 2 ≤ 65535 := by
  have k := Tr.at_between h 2
  have l := (Tr.lo3_spec (a 2) (b 2) (c 2)).2
  have u := (Tr.hi3_spec (a 2) (b 2) (c 2)).2
  have := ha.2.1; have := hb.2.1; have := hc.2.1
  omega
/-- a point that is weighed lies between: one of its two numbers -/
theorem Tr.lies {A p u v w x y z lo hi : Int} (hA : 0 < A) (hu : 0 ≤ u) (hv : 0 ≤ v) (hw : 0 ≤ w) (hs : u + v + w = A) (he : A * p = u * x + v * y + w * z)
    (hx : lo ≤ x ∧ x ≤ hi) (hy : lo ≤ y ∧ y ≤ hi) (hz : lo ≤ z ∧ z ≤ hi) : lo ≤ p ∧ p ≤ hi := by
  have k1 := By.one hu (fun _ => hx)
  have k2 := By.one hv (fun _ => hy)
  have k3 := By.one hw (fun _ => hz)
  have e1 : A * lo = u * lo + v * lo + w * lo := by rw [← hs]; grind
  have e2 : A * hi = u * hi + v * hi + w * hi := by rw [← hs]; grind
  exact ⟨Int.le_of_mul_le_mul_left (by omega) hA, Int.le_of_mul_le_mul_left (by omega) hA⟩
theorem Tr.bary (a1 a2 b1 b2 c1 c2 p1 p2 : Int) :
    Eg.side a1 a2 b1 b2 c1 c2 * p1 = Eg.side b1 b2 c1 c2 p1 p2 * a1 + Eg.side c1 c2 a1 a2 p1 p2 * b1 + Eg.side a1 a2 b1 b2 p1 p2 * c1 ∧
    Eg.side a1 a2 b1 b2 c1 c2 * p2 = Eg.side b1 b2 c1 c2 p1 p2 * a2 + Eg.side c1 c2 a1 a2 p1 p2 * b2 + Eg.side a1 a2 b1 b2 p1 p2 * c2 := by
  unfold Eg.side; constructor <;> grind
/-- a pixel that it has lies in its box -/
theorem Tr.in_box {a b c : Sn} {x y : Int} (h : Tr.has a b c x y = true) : Tr.box a b c 0 ≤ x ∧ x < Tr.box a b c 2 ∧ Tr.box a b c 1 ≤ y ∧ y < Tr.box a b c 3 := by
  obtain ⟨h0, h1, h2, h3, hs⟩ := Tr.weights h
  obtain ⟨e1, e2⟩ := Tr.bary (a 0) (a 1) (b 0) (b 1) (c 0) (c 1) (16 * x + 8) (16 * y + 8)
  have l0 := (Tr.lo3_spec (a 0) (b 0) (c 0)).1
  have u0 := (Tr.hi3_spec (a 0) (b 0) (c 0)).1
  have l1 := (Tr.lo3_spec (a 1) (b 1) (c 1)).1
  have u1 := (Tr.hi3_spec (a 1) (b 1) (c 1)).1
  have k0 := Tr.lies h0 h1 h2 h3 hs e1 ⟨l0.1, u0.1⟩ ⟨l0.2.1, u0.2.1⟩ ⟨l0.2.2, u0.2.2⟩
  have k1 := Tr.lies h0 h1 h2 h3 hs e2 ⟨l1.1, u1.1⟩ ⟨l1.2.1, u1.2.1⟩ ⟨l1.2.2, u1.2.2⟩
  show Tr.from (Tr.lo3 (a 0) (b 0) (c 0)) ≤ x ∧ x < Tr.to (Tr.hi3 (a 0) (b 0) (c 0)) ∧ Tr.from (Tr.lo3 (a 1) (b 1) (c 1)) ≤ y ∧ y < Tr.to (Tr.hi3 (a 1) (b 1) (c 1))
  unfold Tr.from Tr.to
  omega
/-- its weights and numbers may be mixed -/
theorem Tr.ok {a b c : Sn} {x y : Int} (ha : Tr.May a) (hb : Tr.May b) (hc : Tr.May c) (h : Tr.has a b c x y = true) (i : Nat) (hi : 2 ≤ i) (hi8 : i ≤ 8) :
    By.ok (Eg.side (b 0) (b 1) (c 0) (c 1) (16 * x + 8) (16 * y + 8)) (Eg.side (c 0) (c 1) (a 0) (a 1) (16 * x + 8) (16 * y + 8)) (Eg.side (a 0) (a 1) (b 0) (b 1) (16 * x + 8) (16 * y + 8)) (a i) (b i) (c i) = true := by
  obtain ⟨h0, h1, h2, h3, hs⟩ := Tr.weights h
  have hf : Eg.fits x y = true := by unfold Tr.has at h; exact (Bool.and_eq_true_iff.1 h).1
  have hp : Eg.may (16 * x + 8) (16 * y + 8) = true := by rw [Eg.middle_may]; exact hf
  have s1 := By.side_bd hb.1 hc.1 hp
  have s2 := By.side_bd hc.1 ha.1 hp
  have s3 := By.side_bd ha.1 hb.1 hp
  have num : ∀ s : Sn, Tr.May s → -1073741824 ≤ s i ∧ s i ≤ 1073741824 := fun s hm => by
    rcases Nat.lt_or_ge i 3 with h9 | h9
    · obtain rfl : i = 2 := by omega
      have := hm.2.1; omega
    · have := hm.2.2 (i - 3) (by omega)
      rw [show 3 + (i - 3) = i by omega] at this
      omega
  unfold By.ok
  rw [Bool.and_eq_true, Bool.and_eq_true, By.in3_iff, By.in3_iff, decide_eq_true_iff]
  exact ⟨⟨⟨⟨h1, by omega⟩, ⟨h2, by omega⟩, ⟨h3, by omega⟩⟩, num a ha, num b hb, num c hc⟩, by omega⟩
end Go.Proofs.Ytiigbpfoaoekhaa
