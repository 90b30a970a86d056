/-
  Plain facts of layer 14 (texel): textures, wrapped places, samples; no program in sight.
-/
import Derived.Test.YtbhpjklomnjkfaaTintPlain
namespace Go.Proofs.Ytbhpjklomnjkfaa
open Go.RowKit

/-- may a number be a texture's side? -/
def Tx.side (n : Int) : Bool := decide (1 ≤ n ∧ n ≤ 64)
/-- is there such a kind? -/
def Tx.is (k : Int) : Bool := decide (0 ≤ k ∧ k ≤ 2)
/-- from -m to m -/
def Tx.within (m n : Int) : Bool := decide (-m ≤ n ∧ n ≤ m)
/-- is a number a packed colour? -/
def Tx.good (x : Int) : Bool := decide (0 ≤ x ∧ x ≤ 4294967295)
/-- Check -/
def Tx.chk (W H : Int) (l : List Int) : Int := if Tx.side W && Tx.side H then (if (l.length : Int) = W * H then (if l.all Tx.good then 0 else 3) else 6) else 3
/-- a wrapped place -/
def Tx.mirror (n s : Int) : Int := if n % (2 * s) < s then n % (2 * s) else 2 * s - 1 - n % (2 * s)
def Tx.wrap (k n s : Int) : Int := if k = 0 then Tn.sat n 0 (s - 1) else if k = 1 then n % s else Tx.mirror n s
/-- a texel's place among all, and its number -/
def Tx.spot (W H x y k : Int) : Int := Tx.wrap k y H * W + Tx.wrap k x W
def Tx.px (W H : Int) (l : List Int) (x y k : Int) : Int := l.getD (Tx.spot W H x y k).toNat 0
/-- one channel of four texels -/
def Tx.lin (a b c d fx fy : Int) : Int := (a * ((256 - fx) * (256 - fy)) + b * (fx * (256 - fy)) + c * ((256 - fx) * fy) + d * (fx * fy) + 32768) / 65536
/-- a hard sample's number, a soft sample's channel -/
def Tx.hard (W H : Int) (l : List Int) (u v k : Int) : Int := Tx.px W H l (u / 256) (v / 256) k
def Tx.soft (W H : Int) (l : List Int) (u v k : Int) (i : Nat) : Int :=
  Tx.lin (Tn.part (Tx.px W H l ((u - 128) / 256) ((v - 128) / 256) k) i) (Tn.part (Tx.px W H l ((u - 128) / 256 + 1) ((v - 128) / 256) k) i)
    (Tn.part (Tx.px W H l ((u - 128) / 256) ((v - 128) / 256 + 1) k) i) (Tn.part (Tx.px W H l ((u - 128) / 256 + 1) ((v - 128) / 256 + 1) k) i) ((u - 128) % 256) ((v - 128) % 256)
/-- a sample's channel -/
def Tx.smp (W H : Int) (l : List Int) (u v k : Int) (soft : Bool) (i : Nat) : Int := if soft then Tx.soft W H l u v k i else Tn.part (Tx.hard W H l u v k) i

theorem Tx.side_iff {n : Int} : Tx.side n = true ↔ 1 ≤ n ∧ n ≤ 64 := by simp [Tx.side]
theorem Tx.side_no {n : Int} : Tx.side n = false ↔ n < 1 ∨ 64 < n := by rw [← Bool.not_eq_true, Tx.side_iff]; omega
theorem Tx.is_iff {k : Int} : Tx.is k = true ↔ 0 ≤ k ∧ k ≤ 2 := by simp [Tx.is]
theorem Tx.is_no {k : Int} : Tx.is k = false ↔ k < 0 ∨ 2 < k := by rw [← Bool.not_eq_true, Tx.is_iff]; omega
theorem Tx.within_iff {m n : Int} : Tx.within m n = true ↔ -m ≤ n ∧ n ≤ m := by simp [Tx.within]
theorem Tx.within_no {m n : Int} : Tx.within m n = false ↔ n < -m ∨ m < n := by rw [← Bool.not_eq_true, Tx.within_iff]; omega
theorem Tx.good_iff {x : Int} : Tx.good x = true ↔ 0 ≤ x ∧ x ≤ 4294967295 := by simp [Tx.good]
theorem Tx.kinds {k : Int} (h : Tx.is k = true) : k = 0 ∨ k = 1 ∨ k = 2 := by have := Tx.is_iff.1 h; omega

theorem Tx.mirror_bd {n s : Int} (h : 1 ≤ s) : 0 ≤ Tx.mirror n s ∧ Tx.mirror n s < s := by
  have h1 := Int.emod_nonneg n (b := 2 * s) (by omega)
  have h2 := Int.emod_lt_of_pos n (b := 2 * s) (by omega)
  unfold Tx.mirror; split <;> omega
theorem Tx.wrap_bd {k n s : Int} (h : 1 ≤ s) : 0 ≤ Tx.wrap k n s ∧ Tx.wrap k n s < s := by
  have h1 := Int.emod_nonneg n (b := s) (by omega)
  have h2 := Int.emod_lt_of_pos n (b := s) (by omega)
  have h3 := Tx.mirror_bd (n := n) h
  unfold Tx.wrap Tn.sat; (repeat' split) <;> omega
theorem Tx.wrap0 (n s : Int) : Tx.wrap 0 n s = Tn.sat n 0 (s - 1) := by unfold Tx.wrap; rw [if_pos rfl]
theorem Tx.wrap1 (n s : Int) : Tx.wrap 1 n s = n % s := by unfold Tx.wrap; rw [if_neg (by decide), if_pos rfl]
theorem Tx.wrap2 (n s : Int) : Tx.wrap 2 n s = Tx.mirror n s := by unfold Tx.wrap; rw [if_neg (by decide), if_neg (by decide)]
/-- by turning a place comes again -/
theorem Tx.wrap_again {k n s : Int} (hk : k = 1 ∨ k = 2) : Tx.wrap k (n + k * s) s = Tx.wrap k n s := by
  rcases hk with rfl | rfl
  · rw [Tx.wrap1, Tx.wrap1, Int.one_mul, Int.add_emod_right]
  · rw [Tx.wrap2, Tx.wrap2]
    unfold Tx.mirror; rw [Int.add_emod_right]
/-- the document's way -/
theorem Tx.rem_eq (n s : Int) : n - s * (n / s) = n % s := by rw [Int.emod_def]
theorem Tx.spot_bd {W H x y k : Int} (hW : 1 ≤ W) (hH : 1 ≤ H) : 0 ≤ Tx.spot W H x y k ∧ Tx.spot W H x y k < W * H := by
  have h1 := Tx.wrap_bd (k := k) (n := x) hW
  have h2 := Tx.wrap_bd (k := k) (n := y) hH
  have h3 : 0 ≤ Tx.wrap k y H * W := Int.mul_nonneg h2.1 (by omega)
  have h4 : Tx.wrap k y H * W ≤ (H - 1) * W := Int.mul_le_mul_of_nonneg_right (by omega) (by omega)
  rw [Int.sub_mul, Int.one_mul, Int.mul_comm H W] at h4
  unfold Tx.spot; omega
theorem Tx.area_bd {W H : Int} (hW : 1 ≤ W ∧ W ≤ 64) (hH : 1 ≤ H ∧ H ≤ 64) : 1 ≤ W * H ∧ W * H ≤ 4096 := by
  have h1 : W * 1 ≤ W * H := Int.mul_le_mul_of_nonneg_left hH.1 (by omega)
  have h2 : W * H ≤ W * 64 := Int.mul_le_mul_of_nonneg_left hH.2 (by omega)
  omega

theorem Tx.chk_ok {W H : Int} {l : List Int} : Tx.chk W H l = 0 ↔ (1 ≤ W ∧ W ≤ 64) ∧ (1 ≤ H ∧ H ≤ 64) ∧ (l.length : Int) = W * H ∧ l.all Tx.good = true := by
  unfold Tx.chk
  rw [← Tx.side_iff, ← Tx.side_iff]
  cases Tx.side W <;> cases Tx.side H <;> simp
  by_cases h : (l.length : Int) = W * H
  · simp only [h]; split <;> simp_all
  · simp only [h]; simp
theorem Tx.chk_cases (W H : Int) (l : List Int) : Tx.chk W H l = 0 ∨ Tx.chk W H l = 3 ∨ Tx.chk W H l = 6 := by
  unfold Tx.chk; (repeat' split) <;> omega
theorem Tx.px_at {W H : Int} {l : List Int} {x y k : Int} (h : Tx.chk W H l = 0) : ∃ j : Nat, (j : Int) = Tx.spot W H x y k ∧ ∃ hj : j < l.length, l[j] = Tx.px W H l x y k ∧ 0 ≤ l[j] ∧ l[j] ≤ 4294967295 := by
  obtain ⟨h1, h2, h3, h4⟩ := Tx.chk_ok.1 h
  have h5 := Tx.spot_bd (x := x) (y := y) (k := k) h1.1 h2.1
  refine ⟨(Tx.spot W H x y k).toNat, by omega, by omega, ?_, ?_⟩
  · unfold Tx.px; rw [List.getD_eq_getElem?_getD, List.getElem?_eq_getElem (by omega), Option.getD_some]
  · have := List.all_eq_true.1 h4 _ (List.getElem_mem (l := l) (n := (Tx.spot W H x y k).toNat) (by omega))
    exact Tx.good_iff.1 this
theorem Tx.px_good {W H : Int} {l : List Int} {x y k : Int} (h : Tx.chk W H l = 0) : 0 ≤ Tx.px W H l x y k ∧ Tx.px W H l x y k ≤ 4294967295 := by
  obtain ⟨j, _, _, h1, h2⟩ := Tx.px_at (x := x) (y := y) (k := k) h
  rw [← h1]; exact h2
theorem Tx.part_bd (n : Int) (i : Nat) : 0 ≤ Tn.part n i ∧ Tn.part n i ≤ 255 := by unfold Tn.part; omega

/-- four weights, together 2^16 -/
theorem Tx.weights {fx fy : Int} (hx : 0 ≤ fx ∧ fx ≤ 255) (hy : 0 ≤ fy ∧ fy ≤ 255) :
    (0 ≤ (256 - fx) * (256 - fy) ∧ (256 - fx) * (256 - fy) ≤ 65536) ∧ (0 ≤ fx * (256 - fy) ∧ fx * (256 - fy) ≤ 65536) ∧ (0 ≤ (256 - fx) * fy ∧ (256 - fx) * fy ≤ 65536) ∧ (0 ≤ fx * fy ∧ fx * fy ≤ 65536) ∧
    (256 - fx) * (256 - fy) + fx * (256 - fy) + (256 - fx) * fy + fx * fy = 65536 := by
  have b : ∀ p q : Int, 0 ≤ p → p ≤ 256 → 0 ≤ q → q ≤ 256 → 0 ≤ p * q ∧ p * q ≤ 65536 := fun p q h1 h2 h3 h4 => by
    have := Int.mul_nonneg h1 h3
    have h5 : p * q ≤ p * 256 := Int.mul_le_mul_of_nonneg_left h4 h1
    omega
  refine ⟨b _ _ (by omega) (by omega) (by omega) (by omega), b _ _ (by omega) (by omega) (by omega) (by omega), b _ _ (by omega) (by omega) (by omega) (by omega), b _ _ (by omega) (by omega) (by omega) (by omega), ?_⟩
  grind
theorem Tx.part_mul {a p : Int} (ha : 0 ≤ a ∧ a ≤ 255) (hp : 0 ≤ p ∧ p ≤ 65536) : 0 ≤ a * p ∧ a * p ≤ 255 * p ∧ a * p ≤ 16711680 := by
  have h1 := Int.mul_nonneg ha.1 hp.1
  have h2 : a * p ≤ 255 * p := Int.mul_le_mul_of_nonneg_right ha.2 hp.1
  exact ⟨h1, h2, by omega⟩
theorem Tx.lin_bd {a b c d fx fy : Int} (ha : 0 ≤ a ∧ a ≤ 255) (hb : 0 ≤ b ∧ b ≤ 255) (hc : 0 ≤ c ∧ c ≤ 255) (hd : 0 ≤ d ∧ d ≤ 255) (hx : 0 ≤ fx ∧ fx ≤ 255) (hy : 0 ≤ fy ∧ fy ≤ 255) : 0 ≤ Tx.lin a b c d fx fy ∧ Tx.lin a b c d fx fy ≤ 255 := by
  obtain ⟨p0, p1, p2, p3, hs⟩ := Tx.weights hx hy
  unfold Tx.lin
  generalize (256 - fx) * (256 - fy) = q0 at *
  generalize fx * (256 - fy) = q1 at *
  generalize (256 - fx) * fy = q2 at *
  generalize fx * fy = q3 at *
  have h0 := Tx.part_mul ha p0
  have h1 := Tx.part_mul hb p1
  have h2 := Tx.part_mul hc p2
  have h3 := Tx.part_mul hd p3
  omega
theorem Tx.lin_same (a fx fy : Int) : Tx.lin a a a a fx fy = a := by
  unfold Tx.lin
  rw [show a * ((256 - fx) * (256 - fy)) + a * (fx * (256 - fy)) + a * ((256 - fx) * fy) + a * (fx * fy) = a * 65536 by grind]
  omega
theorem Tx.lin_first (a b c d : Int) : Tx.lin a b c d 0 0 = a := by unfold Tx.lin; omega
/-- the document's way -/
theorem Tx.lin_ref (a b c d fx fy : Int) : (a * (256 - fx) * (256 - fy) + b * fx * (256 - fy) + c * (256 - fx) * fy + d * fx * fy + 32768) / 65536 = Tx.lin a b c d fx fy := by
  unfold Tx.lin
  rw [Int.mul_assoc a, Int.mul_assoc b, Int.mul_assoc c, Int.mul_assoc d]
theorem Tx.smp_bd (W H : Int) (l : List Int) (u v k : Int) (soft : Bool) (i : Nat) : 0 ≤ Tx.smp W H l u v k soft i ∧ Tx.smp W H l u v k soft i ≤ 255 := by
  unfold Tx.smp
  cases soft
  · exact Tx.part_bd _ _
  · exact Tx.lin_bd (Tx.part_bd _ _) (Tx.part_bd _ _) (Tx.part_bd _ _) (Tx.part_bd _ _) (by omega) (by omega)
theorem Tx.smp_right (W H : Int) (l : List Int) (u v k : Int) (soft : Bool) : Tn.right (Tx.smp W H l u v k soft 0) (Tx.smp W H l u v k soft 1) (Tx.smp W H l u v k soft 2) (Tx.smp W H l u v k soft 3) = true :=
  Tn.right_iff.2 ⟨Tx.smp_bd _ _ _ _ _ _ _ _, Tx.smp_bd _ _ _ _ _ _ _ _, Tx.smp_bd _ _ _ _ _ _ _ _, Tx.smp_bd _ _ _ _ _ _ _ _⟩
/-- a soft sample in a texel's middle is a hard one -/
theorem Tx.middle (W H : Int) (l : List Int) (p q k : Int) (i : Nat) : Tx.smp W H l (256 * p + 128) (256 * q + 128) k true i = Tx.smp W H l (256 * p + 128) (256 * q + 128) k false i := by
  show Tx.soft _ _ _ _ _ _ _ = Tn.part (Tx.hard _ _ _ _ _ _) _
  unfold Tx.soft Tx.hard
  rw [show (256 * p + 128 - 128) / 256 = p by omega, show (256 * q + 128 - 128) / 256 = q by omega, show (256 * p + 128 - 128) % 256 = 0 by omega, show (256 * q + 128 - 128) % 256 = 0 by omega,
    show (256 * p + 128) / 256 = p by omega, show (256 * q + 128) / 256 = q by omega, Tx.lin_first]
/-- of a texture of one colour each sample is that colour -/
theorem Tx.px_same {W H n : Int} {c : Nat} {x y k : Int} (h : Tx.chk W H (List.replicate c n) = 0) : Tx.px W H (List.replicate c n) x y k = n := by
  obtain ⟨j, _, hj, h1, _⟩ := Tx.px_at (x := x) (y := y) (k := k) h
  rw [← h1, List.getElem_replicate]
theorem Tx.smp_same {W H n : Int} {c : Nat} {u v k : Int} (soft : Bool) (i : Nat) (h : Tx.chk W H (List.replicate c n) = 0) : Tx.smp W H (List.replicate c n) u v k soft i = Tn.part n i := by
  unfold Tx.smp
  cases soft
  · show Tn.part (Tx.hard _ _ _ _ _ _) _ = _; unfold Tx.hard; rw [Tx.px_same h]
  · show Tx.soft _ _ _ _ _ _ _ = _; unfold Tx.soft; rw [Tx.px_same h, Tx.px_same h, Tx.px_same h, Tx.px_same h, Tx.lin_same]
theorem Tx.chk_same {W H n : Int} {l : List Int} (h : Tx.chk W H l = 0) (hn : 0 ≤ n ∧ n ≤ 4294967295) : Tx.chk W H (List.replicate l.length n) = 0 := by
  obtain ⟨h1, h2, h3, h4⟩ := Tx.chk_ok.1 h
  refine Tx.chk_ok.2 ⟨h1, h2, by rw [List.length_replicate]; exact h3, ?_⟩
  rw [List.all_eq_true]
  intro x hx
  rw [List.eq_of_mem_replicate hx]
  exact Tx.good_iff.2 hn

/-- to the nearest, by 2^16 -/
theorem Tx.near (n : Int) : n / 65536 + n / 32768 % 2 = (n + 32768) / 65536 := by omega
/-- what all numbers have together is a packed colour just if each of them is -/
theorem Tx.bits_or {x y : Int} (hx : -9223372036854775808 ≤ x ∧ x ≤ 9223372036854775807) (hy : -9223372036854775808 ≤ y ∧ y ≤ 9223372036854775807) :
    (-9223372036854775808 ≤ bits .or .i64 x y ∧ bits .or .i64 x y ≤ 9223372036854775807) ∧ Tx.good (bits .or .i64 x y) = (Tx.good x && Tx.good y) := by
  have e : bits .or .i64 x y = IntKind.i64.wrap (((BitVec.ofInt 64 x ||| BitVec.ofInt 64 y).toNat : Nat) : Int) := rfl
  rw [e, BitVec.toNat_or, BitVec.toNat_ofInt, BitVec.toNat_ofInt, IntKind.wrap_i64]
  obtain ⟨p, hp⟩ : ∃ p : Nat, (x % ((2 ^ 64 : Nat) : Int)).toNat = p := ⟨_, rfl⟩
  obtain ⟨q, hq⟩ : ∃ q : Nat, (y % ((2 ^ 64 : Nat) : Int)).toNat = q := ⟨_, rfl⟩
  rw [hp, hq]
  have gp : Tx.good x = decide (p < 4294967296) := by rw [Bool.eq_iff_iff, Tx.good_iff, decide_eq_true_iff]; omega
  have gq : Tx.good y = decide (q < 4294967296) := by rw [Bool.eq_iff_iff, Tx.good_iff, decide_eq_true_iff]; omega
  have p64 : p < 2 ^ 64 := by omega
  have q64 : q < 2 ^ 64 := by omega
  have o64 : p ||| q < 2 ^ 64 := Nat.or_lt_two_pow p64 q64
  have l1 : p ≤ p ||| q := Nat.left_le_or
  have l2 : q ≤ p ||| q := Nat.right_le_or
  have g32 : (p ||| q < 4294967296) ↔ (p < 4294967296 ∧ q < 4294967296) :=
    ⟨fun h => ⟨by omega, by omega⟩, fun h => Nat.or_lt_two_pow (n := 32) h.1 h.2⟩
  rw [gp, gq]
  generalize p ||| q = o at *
  refine ⟨by omega, ?_⟩
  rw [Bool.eq_iff_iff, Tx.good_iff, Bool.and_eq_true, decide_eq_true_iff, decide_eq_true_iff, ← g32]
  omega
end Go.Proofs.Ytbhpjklomnjkfaa
