/-
  Plain facts of layer 14 (texel): textures, wrapped places, samples; no program in sight.
-/
import Derived.Test.YtankjlpanmmogaaGreatJViewIs
import Derived.Test.YtankjlpanmmogaaGreatJFragCode
import Derived.Test.YtankjlpanmmogaaGreatJVecPlain
import Derived.Test.YtankjlpanmmogaaGreatJRegionOw
import Derived.BigGuard
namespace Go.Proofs.YtankjlpanmmogaaGreat
set_option maxRecDepth 100000
open Go.RowKit

/-- may a number be a texture's side? -/
def Tx.side (n : Int) : Bool := decide (1 ≤ n ∧ n ≤ 64)
/-- is there such a kind? -/
def Tx.is (k : Int) : Bool := decide (0 ≤ k ∧ k ≤ 2)
/-- from -m to m -/
def Tx.within (m n : Int) : Bool := decide (-m ≤ n ∧ n ≤ m)
/-- is a number a packed colour? -/
def Tx.good (x : Int) : Bool := decide (0 ≤ x ∧ x ≤ 4294967295)
/-- Check -/
def Tx.chk (W H : Int) (l : List Int) : Int := if Tx.side W && Tx.side H then (if (l.length : Int) = W * H then (if l.all Tx.good then 0 else 3) else 6) else 3
/-- a wrapped place -/
def Tx.mirror (n s : Int) : Int := if n % (2 * s) < s then n % (2 * s) else 2 * s - 1 - n % (2 * s)
def Tx.wrap (k n s : Int) : Int := if k = 0 then Tn.sat n 0 (s - 1) else if k = 1 then n % s else Tx.mirror n s
/-- a texel's place among all, and its number -/
def Tx.spot (W H x y k : Int) : Int := Tx.wrap k y H * W + Tx.wrap k x W
def Tx.px (W H : Int) (l : List Int) (x y k : Int) : Int := l.getD (Tx.spot W H x y k).toNat 0
/-- one channel of four texels -/
def Tx.lin (a b c d fx fy : Int) : Int := (a * ((256 - fx) * (256 - fy)) + b * (fx * (256 - fy)) + c * ((256 - fx) * fy) + d * (fx * fy) + 32768) / 65536
/-- a hard sample's number, a soft sample's channel -/
def Tx.hard (W H : Int) (l : List Int) (u v k : Int) : Int := Tx.px W H l (u / 256) (v / 256) k
def Tx.soft (W H : Int) (l : List Int) (u v k : Int) (i : Nat) : Int :=
  Tx.lin (Tn.part (Tx.px W H l ((u - 128) / 256) ((v - 128) / 256) k) i) (Tn.part (Tx.px W H l ((u - 128) / 256 + 1) ((v - 128) / 256) k) i)
    (Tn.part (Tx.px W H l ((u - 128) / 256) ((v - 128) / 256 + 1) k) i) (Tn.part (Tx.px W H l ((u - 128) / 256 + 1) ((v - 128) / 256 + 1) k) i) ((u - 128) % 256) ((v - 128) % 256)
/-- a sample's channel -/
def Tx.smp (W H : Int) (l : List Int) (u v k : Int) (soft : Bool) (i : Nat) : Int := if soft then Tx.soft W H l u v k i else Tn.part (Tx.hard W H l u v k) i

theorem Tx.side_iff {n : Int} : Tx.side n = true ↔ 1 ≤ n ∧ n ≤ 64 := by simp [Tx.side]
theorem Tx.side_no {n : Int} : Tx.side n = false ↔ n < 1 ∨ 64 < n := by rw [← Bool.not_eq_true, Tx.side_iff]; omega
theorem Tx.is_iff {k : Int} : Tx.is k = true ↔ 0 ≤ k ∧ k ≤ 2 := by simp [Tx.is]
theorem Tx.is_no {k : Int} : Tx.is k = false ↔ k < 0 ∨ 2 < k := by rw [← Bool.not_eq_true, Tx.is_iff]; omega
theorem Tx.within_iff {m n : Int} : Tx.within m n = true ↔ -m ≤ n ∧ n ≤ m := by simp [Tx.within]
theorem Tx.within_no {m n : Int} : Tx.within m n = false ↔ n < -m ∨ m < n := by rw [← Bool.not_eq_true, Tx.within_iff]; omega
theorem Tx.good_iff {x : Int} : Tx.good x = true ↔ 0 ≤ x ∧ x ≤ 4294967295 := by simp [Tx.good]
theorem Tx.kinds {k : Int} (h : Tx.is k = true) : k = 0 ∨ k = 1 ∨ k = 2 := by have := Tx.is_iff.1 h; omega

theorem Tx.mirror_bd {n s : Int} (h : 1 ≤ s) : 0 ≤ Tx.mirror n s ∧ Tx.mirror n s < s := by
  have h1 := Int.emod_nonneg n (b := 2 * s) (by omega)
  have h2 := Int.emod_lt_of_pos n (b := 2 * s) (by omega)
  unfold Tx.mirror; split <;> omega
theorem Tx.wrap_bd {k n s : Int} (h : 1 ≤ s) : 0 ≤ Tx.wrap k n s ∧ Tx.wrap k n s < s := by
  have h1 := Int.emod_nonneg n (b := s) (by omega)
  have h2 := Int.emod_lt_of_pos n (b := s) (by omega)
  have h3 := Tx.mirror_bd (n := n) h
  unfold Tx.wrap Tn.sat; (repeat' split) <;> omega
theorem Tx.wrap0 (n s : Int) : Tx.wrap 0 n s = Tn.sat n 0 (s - 1) := by unfold Tx.wrap; rw [if_pos rfl]
theorem Tx.wrap1 (n s : Int) : Tx.wrap 1 n s = n % s := by unfold Tx.wrap; rw [if_neg (by decide), if_pos rfl]
theorem Tx.wrap2 (n s : Int) : Tx.wrap 2 n s = Tx.mirror n s := by unfold Tx.wrap; rw [if_neg (by decide), if_neg (by decide)]
/-- by turning a place comes again -/
theorem Tx.wrap_again {k n s : Int} (hk : k = 1 ∨ k = 2) : Tx.wrap k (n + k * s) s = Tx.wrap k n s := by
  rcases hk with rfl | rfl
  · rw [Tx.wrap1, Tx.wrap1, Int.one_mul, Int.add_emod_right]
  · rw [Tx.wrap2, Tx.wrap2]
    unfold Tx.mirror; rw [Int.add_emod_right]
/-- the document's way -/
theorem Tx.rem_eq (n s : Int) : n - s * (n / s) = n % s := by rw [Int.emod_def]
theorem Tx.spot_bd {W H x y k : Int} (hW : 1 ≤ W) (hH : 1 ≤ H) : 0 ≤ Tx.spot W H x y k ∧ Tx.spot W H x y k < W * H := by
  have h1 := Tx.wrap_bd (k := k) (n := x) hW
  have h2 := Tx.wrap_bd (k := k) (n := y) hH
  have h3 : 0 ≤ Tx.wrap k y H * W := Int.mul_nonneg h2.1 (by omega)
  have h4 : Tx.wrap k y H * W ≤ (H - 1) * W := Int.mul_le_mul_of_nonneg_right (by omega) (by omega)
  rw [Int.sub_mul, Int.one_mul, Int.mul_comm H W] at h4
  unfold Tx.spot; omega
theorem Tx.area_bd {W H : Int} (hW : 1 ≤ W ∧ W ≤ 64) (hH : 1 ≤ H ∧ H ≤ 64) : 1 ≤ W * H ∧ W * H ≤ 4096 := by
  have h1 : W * 1 ≤ W * H := Int.mul_le_mul_of_nonneg_left hH.1 (by omega)
  have h2 : W * H ≤ W * 64 := Int.mul_le_mul_of_nonneg_left hH.2 (by omega)
  omega

theorem Tx.chk_ok {W H : Int} {l : List Int} : Tx.chk W H l = 0 ↔ (1 ≤ W ∧ W ≤ 64) ∧ (1 ≤ H ∧ H ≤ 64) ∧ (l.length : Int) = W * H ∧ l.all Tx.good = true := by
  unfold Tx.chk
  rw [← Tx.side_iff, ← Tx.side_iff]
  cases Tx.side W <;> cases Tx.side H <;> simp
  by_cases h : (l.length : Int) = W * H
  · simp only [h]; split <;> simp_all
  · simp only [h]; simp
theorem Tx.chk_cases (W H : Int) (l : List Int) : Tx.chk W H l = 0 ∨ Tx.chk W H l = 3 ∨ Tx.chk W H l = 6 := by
  unfold Tx.chk; (repeat' split) <;> omega
theorem Tx.px_at {W H : Int} {l : List Int} {x y k : Int} (h : Tx.chk W H l = 0) : ∃ j : Nat, (j : Int) = Tx.spot W H x y k ∧ ∃ hj : j < l.length, l[j] = Tx.px W H l x y k ∧ 0 ≤ l[j] ∧ l[j] ≤ 4294967295 := by
  obtain ⟨h1, h2, h3, h4⟩ := Tx.chk_ok.1 h
  have h5 := Tx.spot_bd (x := x) (y := y) (k := k) h1.1 h2.1
  refine ⟨(Tx.spot W H x y k).toNat, by omega, by omega, ?_, ?_⟩
  · unfold Tx.px; rw [List.getD_eq_getElem?_getD, List.getElem?_eq_getElem (by omega), Option.getD_some]
  · have := List.all_eq_true.1 h4 _ (List.getElem_mem (l := l) (n := (Tx.spot W H x y k).toNat) (by omega))
    exact Tx.good_iff.1 this
theorem Tx.px_good {W H : Int} {l : List Int} {x y k : Int} (h : Tx.chk W H l = 0) : 0 ≤ Tx.px W H l x y k ∧ Tx.px W H l x y k ≤ 4294967295 := by
  obtain ⟨j, _, _, h1, h2⟩ := Tx.px_at (x := x) (y := y) (k := k) h
  rw [← h1]; exact h2
theorem Tx.part_bd (n : Int) (i : Nat) : 0 ≤ Tn.part n i ∧ Tn.part n i ≤ 255 := by unfold Tn.part; omega

/-- four weights, together 2^16 -/
theorem Tx.weights {fx fy : Int} (hx : 0 ≤ fx ∧ fx ≤ 255) (hy : 0 ≤ fy ∧ fy ≤ 255) :
    (0 ≤ (256 - fx) * (256 - fy) ∧ (256 - fx) * (256 - fy) ≤ 65536) ∧ (0 ≤ fx * (256 - fy) ∧ fx * (256 - fy) ≤ 65536) ∧ (0 ≤ (256 - fx) * fy ∧ (256 - fx) * fy ≤ 65536) ∧ (0 ≤ fx * fy ∧ fx * fy ≤ 65536) ∧
    (256 - fx) * (256 - fy) + fx * (256 - fy) + (256 - fx) * fy + fx * fy = 65536 := by
  have b : ∀ p q : Int, 0 ≤ p → p ≤ 256 → 0 ≤ q → q ≤ 256 → 0 ≤ p * q ∧ p * q ≤ 65536 := fun p q h1 h2 h3 h4 => by
    have := Int.mul_nonneg h1 h3
    have h5 : p * q ≤ p * 256 := Int.mul_le_mul_of_nonneg_left h4 h1
    omega
  refine ⟨b _ _ (by omega) (by omega) (by omega) (by omega), b _ _ (by omega) (by omega) (by omega) (by omega), b _ _ (by omega) (by omega) (by omega) (by omega), b _ _ (by omega) (by omega) (by omega) (by omega), ?_⟩
  grind
theorem Tx.part_mul {a p : Int} (ha : 0 ≤ a ∧ a ≤ 255) (hp : 0 ≤ p ∧ p ≤ 65536) : 0 ≤ a * p ∧ a * p ≤ 255 * p ∧ a * p ≤ 16711680 := by
  have h1 := Int.mul_nonneg ha.1 hp.1
  have h2 : a * p ≤ 255 * p := Int.mul_le_mul_of_nonneg_right ha.2 hp.1
  exact ⟨h1, h2, by omega⟩
theorem Tx.lin_bd {a b c d fx fy : Int} (ha : 0 ≤ a ∧ a ≤ 255) (hb : 0 ≤ b ∧ b ≤ 255) (hc : 0 ≤ c ∧ c ≤ 255) (hd : 0 ≤ d ∧ d ≤ 255) (hx : 0 ≤ fx ∧ fx ≤ 255) (hy : 0 ≤ fy ∧ fy ≤ 255) : 0 ≤ Tx.lin a b c d fx fy ∧ Tx.lin a b c d fx fy ≤ 255 := by
  obtain ⟨p0, p1, p2, p3, hs⟩ := Tx.weights hx hy
  unfold Tx.lin
  generalize (256 - fx) * (256 - fy) = q0 at *
  generalize fx * (256 - fy) = q1 at *
  generalize (256 - fx) * fy = q2 at *
  generalize fx * fy = q3 at *
  have h0 := Tx.part_mul ha p0
  have h1 := Tx.part_mul hb p1
  have h2 := Tx.part_mul hc p2
  have h3 := Tx.part_mul hd p3
  omega
theorem Tx.lin_same (a fx fy : Int) : Tx.lin a a a a fx fy = a := by
  unfold Tx.lin
  rw [show a * ((256 - fx) * (256 - fy)) + a * (fx * (256 - fy)) + a * ((256 - fx) * fy) + a * (fx * fy) = a * 65536 by grind]
  omega
theorem Tx.lin_first (a b c d : Int) : Tx.lin a b c d 0 0 = a := by unfold Tx.lin; omega
/-- the document's way -/
theorem Tx.lin_ref (a b c d fx fy : Int) : (a * (256 - fx) * (256 - fy) + b * fx * (256 - fy) + c * (256 - fx) * fy + d * fx * fy + 32768) / 65536 = Tx.lin a b c d fx fy := by
  unfold Tx.lin
  rw [Int.mul_assoc a, Int.mul_assoc b, Int.mul_assoc c, Int.mul_assoc d]
theorem Tx.smp_bd (W H : Int) (l : List Int) (u v k : Int) (soft : Bool) (i : Nat) : 0 ≤ Tx.smp W H l u v k soft i ∧ Tx.smp W H l u v k soft i ≤ 255 := by
  unfold Tx.smp
  cases soft
  · exact Tx.part_bd _ _
  · exact Tx.lin_bd (Tx.part_bd _ _) (Tx.part_bd _ _) (Tx.part_bd _ _) (Tx.part_bd _ _) (by omega) (by omega)
theorem Tx.smp_right (W H : Int) (l : List Int) (u v k : Int) (soft : Bool) : Tn.right (Tx.smp W H l u v k soft 0) (Tx.smp W H l u v k soft 1) (Tx.smp W H l u v k soft 2) (Tx.smp W H l u v k soft 3) = true :=
  Tn.right_iff.2 ⟨Tx.smp_bd _ _ _ _ _ _ _ _, Tx.smp_bd _ _ _ _ _ _ _ _, Tx.smp_bd _ _ _ _ _ _ _ _, Tx.smp_bd _ _ _ _ _ _ _ _⟩
/-- a soft sample in a texel's middle is a hard one -/
theorem Tx.middle (W H : Int) (l : List Int) (p q k : Int) (i : Nat) : Tx.smp W H l (256 * p + 128) (256 * q + 128) k true i = Tx.smp W H l (256 * p + 128) (256 * q + 128) k false i := by
  show Tx.soft _ _ _ _ _ _ _ = Tn.part (Tx.hard _ _ _ _ _ _) _
  unfold Tx.soft Tx.hard
  rw [show (256 * p + 128 - 128) / 256 = p by omega, show (256 * q + 128 - 128) / 256 = q by omega, show (256 * p + 128 - 128) % 256 = 0 by omega, show (256 * q + 128 - 128) % 256 = 0 by omega,
    show (256 * p + 128) / 256 = p by omega, show (256 * q + 128) / 256 = q by omega, Tx.lin_first]
/-- of a texture of one colour each sample is that colour -/
theorem Tx.px_same {W H n : Int} {c : Nat} {x y k : Int} (h : Tx.chk W H (List.replicate c n) = 0) : Tx.px W H (List.replicate c n) x y k = n := by
  obtain ⟨j, _, hj, h1, _⟩ := Tx.px_at (x := x) (y := y) (k := k) h
  rw [← h1, List.getElem_replicate]
theorem Tx.smp_same {W H n : Int} {c : Nat} {u v k : Int} (soft : Bool) (i : Nat) (h : Tx.chk W H (List.replicate c n) = 0) : Tx.smp W H (List.replicate c n) u v k soft i = Tn.part n i := by
  unfold Tx.smp
  cases soft
  · show Tn.part (Tx.hard _ _ _ _ _ _) _ = _; unfold Tx.hard; rw [Tx.px_same h]
  · show Tx.soft _ _ _ _ _ _ _ = _; unfold Tx.soft; rw [Tx.px_same h, Tx.px_same h, Tx.px_same h, Tx.px_same h, Tx.lin_same]
theorem Tx.chk_same {W H n : Int} {l : List Int} (h : Tx.chk W H l = 0) (hn : 0 ≤ n ∧ n ≤ 4294967295) : Tx.chk W H (List.replicate l.length n) = 0 := by
  obtain ⟨h1, h2, h3, h4⟩ := Tx.chk_ok.1 h
  refine Tx.chk_ok.2 ⟨h1, h2, by rw [List.length_replicate]; exact h3, ?_⟩
  rw [List.all_eq_true]
  intro x hx
  rw [List.eq_of_mem_replicate hx]
  exact Tx.good_iff.2 hn

/-- to the nearest, by 2^16 -/
theorem Tx.near (n : Int) : n / 65536 + n / 32768 % 2 = (n + 32768) / 65536 := by omega
/-- what all numbers have together is a packed colour just if each of them is -/
theorem Tx.bits_or {x y : Int} (hx : -9223372036854775808 ≤ x ∧ x ≤ 9223372036854775807) (hy : -9223372036854775808 ≤ y ∧ y ≤ 9223372036854775807) :
    (-9223372036854775808 ≤ bits .or .i64 x y ∧ bits .or .i64 x y ≤ 9223372036854775807) ∧ Tx.good (bits .or .i64 x y) = (Tx.good x && Tx.good y) := by
  have e : bits .or .i64 x y = IntKind.i64.wrap (((BitVec.ofInt 64 x ||| BitVec.ofInt 64 y).toNat : Nat) : Int) := rfl
  rw [e, BitVec.toNat_or, BitVec.toNat_ofInt, BitVec.toNat_ofInt, IntKind.wrap_i64]
  obtain ⟨p, hp⟩ : ∃ p : Nat, (x % ((2 ^ 64 : Nat) : Int)).toNat = p := ⟨_, rfl⟩
  obtain ⟨q, hq⟩ : ∃ q : Nat, (y % ((2 ^ 64 : Nat) : Int)).toNat = q := ⟨_, rfl⟩
  rw [hp, hq]
  have gp : Tx.good x = decide (p < 4294967296) := by rw [Bool.eq_iff_iff, Tx.good_iff, decide_eq_true_iff]; omega
  have gq : Tx.good y = decide (q < 4294967296) := by rw [Bool.eq_iff_iff, Tx.good_iff, decide_eq_true_iff]; omega
  have p64 : p < 2 ^ 64 := by omega
  have q64 : q < 2 ^ 64 := by omega
  have o64 : p ||| q < 2 ^ 64 := Nat.or_lt_two_pow p64 q64
  have l1 : p ≤ p ||| q := Nat.left_le_or
  have l2 : q ≤ p ||| q := Nat.right_le_or
  have g32 : (p ||| q < 4294967296) ↔ (p < 4294967296 ∧ q < 4294967296) :=
    ⟨fun h => ⟨by omega, by omega⟩, fun h => Nat.or_lt_two_pow (n := 32) h.1 h.2⟩
  rw [gp, gq]
  generalize p ||| q = o at *
  refine ⟨by omega, ?_⟩
  rw [Bool.eq_iff_iff, Tx.good_iff, Bool.and_eq_true, decide_eq_true_iff, decide_eq_true_iff, ← g32]
  omega
end Go.Proofs.YtankjlpanmmogaaGreat

/-
  Plain facts of layer 19 (frag): what a triangle has at a pixel, with its texture; no program in sight. (The statement FragOf is another text.)
-/
namespace Go.Proofs.YtankjlpanmmogaaGreat
set_option maxRecDepth 100000
open Go.RowKit

/-- a triangle's colour at a pixel, ahead of its texture -/
def Fr.tint (a b c : Sn) (x y : Int) (i : Nat) : Int := Tn.ch (Tr.at a b c x y (3 + i))
/-- a place on a texture, held -/
def Fr.held (n : Int) : Int := Fx.sat n (-65536) 65536
theorem Fr.held_bd (n : Int) : -65536 ≤ Fr.held n ∧ Fr.held n ≤ 65536 := by
  unfold Fr.held Fx.sat
  (repeat' split) <;> omega
/-- is the texture asked? -/
def Fr.asks (tex wrap n m : Int) (l : List Int) : Bool := decide (0 < tex) && (Tx.chk n m l == 0) && Tx.is wrap
theorem Fr.asks_iff {tex wrap n m : Int} {l : List Int} : Fr.asks tex wrap n m l = true ↔ 0 < tex ∧ Tx.chk n m l = 0 ∧ Tx.is wrap = true := by
  unfold Fr.asks; rw [Bool.and_eq_true, Bool.and_eq_true, decide_eq_true_eq, beq_iff_eq, and_assoc]
/-- what a triangle has at a pixel: its colour (0 to 3), its depth (4) -/
def Fr.of (a b c : Sn) (x y tex wrap : Int) (soft : Bool) (n m : Int) (l : List Int) : Nat → Int := fun i =>
  if i < 4 then (if Fr.asks tex wrap n m l then Tn.tm (Fr.tint a b c x y i) (Tx.smp n m l (Fr.held (Tr.at a b c x y 7)) (Fr.held (Tr.at a b c x y 8)) wrap soft i) else Fr.tint a b c x y i) else Tr.at a b c x y 2
theorem Fr.of_ch (a b c : Sn) (x y tex wrap : Int) (soft : Bool) (n m : Int) (l : List Int) {i : Nat} (hi : i < 4) : 0 ≤ Fr.of a b c x y tex wrap soft n m l i ∧ Fr.of a b c x y tex wrap soft n m l i ≤ 255 := by
  have h1 : 0 ≤ Fr.tint a b c x y i ∧ Fr.tint a b c x y i ≤ 255 := Tn.ch_bd _
  unfold Fr.of
  rw [if_pos hi]
  split
  · have h2 := Tx.smp_bd n m l (Fr.held (Tr.at a b c x y 7)) (Fr.held (Tr.at a b c x y 8)) wrap soft i
    have h3 := Tn.tm_bd h1 h2
    omega
  · exact h1
theorem Fr.of_may {a b c : Sn} {x y tex wrap : Int} {soft : Bool} {n m : Int} {l : List Int} (ha : Tr.May a) (hb : Tr.May b) (hc : Tr.May c) (h : Tr.has a b c x y = true) : Fr.may (Fr.of a b c x y tex wrap soft n m l) = true :=
  Fr.may_iff.2 ⟨Tn.right_iff.2 ⟨Fr.of_ch a b c x y tex wrap soft n m l (by omega), Fr.of_ch a b c x y tex wrap soft n m l (by omega), Fr.of_ch a b c x y tex wrap soft n m l (by omega), Fr.of_ch a b c x y tex wrap soft n m l (by omega)⟩, Tr.at_depth ha hb hc h⟩
end Go.Proofs.YtankjlpanmmogaaGreat

/-
  Contracts of layer 1 (fix), as far as layer 14 calls it: Rem, Floor by 256, Round by 16 bits.
-/
namespace Go.Proofs.YtankjlpanmmogaaGreat
set_option maxRecDepth 100000
open Go.RowKit

theorem xtup2 {a b : Int} {v : Value} (h : a = b) : Ending.returned (.tuple #[.int .i64 a, v]) = .returned (.tuple #[.int .i64 b, v]) := by rw [h]
theorem tup3 {a b c d : Int} (h : a = b) (k : c = d) : Ending.returned (.tuple #[.int .i64 a, .int .i64 c]) = .returned (.tuple #[.int .i64 b, .int .i64 d]) := by rw [h, k]
theorem Tx.tmod_pos {a b : Int} (hb : 1 ≤ b) (h0 : a < 0) : (a.tmod b < 0 ∧ a % b = a.tmod b + b) ∨ (a.tmod b = 0 ∧ a % b = 0) := by
  have hs : a.tmod b ≤ 0 := by have := Int.tmod_nonneg b (a := -a) (by omega); rw [Int.neg_tmod] at this; omega
  have e := Int.tmod_eq_emod (a := a) (b := b)
  by_cases hd : b ∣ a
  · right; exact ⟨Int.dvd_iff_tmod_eq_zero.1 hd, Int.dvd_iff_emod_eq_zero.1 hd⟩
  · left
    have : a.tmod b ≠ 0 := fun h => hd (Int.dvd_iff_tmod_eq_zero.2 h)
    rw [if_neg (by omega)] at e
    have : (b.natAbs : Int) = b := by omega
    omega
set_option maxHeartbeats 400000 in
theorem rem_ok (a b : Int) (w : World) (hb : 1 ≤ b) (hb2 : b ≤ 9223372036854775807) :
    Calls Tryz.prog 121 #[.int .i64 a, .int .i64 b] w fun e w' => e = .returned (.tuple #[.int .i64 (a % b), .int .i64 0]) ∧ w = w' := by
  have hl : (a.tmod b).natAbs < b.natAbs := by rw [Int.natAbs_tmod]; exact Nat.mod_lt _ (by omega)
  have hlb1 : -b < a.tmod b := by omega
  have hlb2 : a.tmod b < b := by omega
  have hb0 : (b == 0) = false := by simp; omega
  clear hl
  by_cases h0 : 0 ≤ a
  · have hm := Int.emod_nonneg a (b := b) (by omega)
    go_enter Tryz.func121, Tryz.ntmps121
    go_wp2
    go_ret2
    exact ⟨rfl, rfl⟩
  · rcases Tx.tmod_pos hb (Int.not_le.1 h0) with ⟨h1, h2⟩ | ⟨h1, h2⟩
    all_goals
      rw [h2]
      clear h2
      go_enter Tryz.func121, Tryz.ntmps121
      go_wp2
      go_ret2
      exact ⟨rfl, rfl⟩
theorem wraps_256 (n : Int) (w : World) (h : -9223372036854775808 < n) :
    Calls Tryz.prog 143 #[.int .i64 n, .int .i64 256] w fun e w' => e = .returned (.bool false) ∧ w = w' := by
  have hd : (n == -9223372036854775808) = false := by simpa using (by omega : n ≠ -9223372036854775808)
  go_enter Tryz.func143, Tryz.ntmps143
  go_wp2
  go_ret
  exact ⟨rfl, rfl⟩
theorem Tx.cut_up {n : Int} (h : n ≤ 0) : n.tdiv 256 = -((-n) / 256) ∧ n.tmod 256 = -((-n) % 256) := by
  have h1 : n.tdiv 256 = -((-n) / 256) := by
    have := Int.neg_tdiv (-n) 256
    rw [Int.neg_neg, Int.tdiv_eq_ediv_of_nonneg (a := -n) (by omega)] at this; exact this
  refine ⟨h1, ?_⟩
  have h2 := Int.tmod_add_mul_tdiv n 256
  rw [h1] at h2; omega
set_option maxHeartbeats 1000000 in
theorem floor_256 (n : Int) (w : World) (h1 : -2097152 ≤ n) (h2 : n ≤ 2097152) :
    Calls Tryz.prog 120 #[.int .i64 n, .int .i64 256] w fun e w' => e = .returned (.tuple #[.int .i64 (n / 256), .int .i64 0]) ∧ w = w' := by
  by_cases hn : 0 ≤ n
  · have hd : decide (n < 0) = false := decide_eq_false (by omega)
    have ht1 : 0 ≤ n / 256 := by omega
    have ht2 : n / 256 ≤ 2097152 := by omega
    rcases hm : (n % 256 != 0) with _ | _
    all_goals
      go_enter Tryz.func120, Tryz.ntmps120
      go_wp2_with ((go_at_call 143; refine (wraps_256 n _ (by omega)).mono ?_; rintro e w' ⟨rfl, rfl⟩))
      go_ret2
      exact ⟨rfl, rfl⟩
  · have hd : decide (n < 0) = true := decide_eq_true (by omega)
    obtain ⟨e1, e2⟩ := Tx.cut_up (n := n) (by omega)
    have ht1 : -2097152 ≤ n.tdiv 256 := by omega
    have ht2 : n.tdiv 256 ≤ 0 := by omega
    rcases hm : (n.tmod 256 != 0) with _ | _
    · have h9 : n.tmod 256 = 0 := by simpa using hm
      have HQ := Lib.hid (show n.tdiv 256 = n / 256 by omega)
      clear h9 e1 e2
      go_enter Tryz.func120, Tryz.ntmps120
      go_wp2_with ((go_at_call 143; refine (wraps_256 n _ (by omega)).mono ?_; rintro e w' ⟨rfl, rfl⟩))
      go_ret2
      exact ⟨xtup2 HQ.out, rfl⟩
    · have h9 : n.tmod 256 ≠ 0 := by simpa using hm
      have HQ := Lib.hid (show n.tdiv 256 - 1 = n / 256 by omega)
      clear h9 e1 e2
      go_enter Tryz.func120, Tryz.ntmps120
      go_wp2_with ((go_at_call 143; refine (wraps_256 n _ (by omega)).mono ?_; rintro e w' ⟨rfl, rfl⟩))
      go_ret2
      exact ⟨xtup2 HQ.out, rfl⟩
theorem Tx.bits_one (x : Int) : bits .and .i64 x 1 = x % 2 := by
  have e : bits .and .i64 x 1 = IntKind.i64.wrap (((BitVec.ofInt 64 x &&& BitVec.ofInt 64 1).toNat : Nat) : Int) := rfl
  rw [e, BitVec.toNat_and, show (BitVec.ofInt 64 1).toNat = 1 by decide, Nat.and_one_is_mod, BitVec.toNat_ofInt, IntKind.wrap_i64]
  omega
set_option maxHeartbeats 1000000 in
theorem round_16 (n : Int) (w : World) (h1 : 0 ≤ n) (h2 : n ≤ 67108864) :
    Calls Tryz.prog 151 #[.int .i64 n, .int .i64 16] w fun e w' => e = .returned (.tuple #[.int .i64 ((n + 32768) / 65536), .int .i64 0]) ∧ w = w' := by
  have e1 := Tx.bits_one (n / 32768)
  have m1 : 0 ≤ n / 32768 % 2 := by omega
  have m2 : n / 32768 % 2 < 2 := by omega
  have m3 : 0 ≤ n / 65536 := by omega
  have m4 : n / 65536 ≤ 67108864 := by omega
  go_enter Tryz.func151, Tryz.ntmps151
  go_wp2
  go_ret2
  exact ⟨xtup2 (by omega), rfl⟩
end Go.Proofs.YtankjlpanmmogaaGreat

/-
  The document's own Floor (layer 1) by a divisor above 0.
-/
namespace Go.Proofs.YtankjlpanmmogaaGreat
set_option maxRecDepth 100000
open Go.RowKit

theorem Fq.up {a b : Int} (hb : 0 < b) (c : 0 ≤ a ∨ b ∣ a) : a.tdiv b = a / b ∧ 0 ≤ a - a.tdiv b * b ∧ a - a.tdiv b * b < b := by
  have h1 := Int.tdiv_eq_ediv (a := a) (b := b)
  rw [if_pos c, Int.add_zero] at h1
  have h2 := Int.emod_add_mul_ediv a b
  have h3 := Int.emod_nonneg a (Int.ne_of_gt hb)
  have h4 := Int.emod_lt_of_pos a hb
  rw [h1, Int.mul_comm (a / b) b]
  exact ⟨rfl, by omega, by omega⟩
theorem Fq.dn {a b : Int} (hb : 0 < b) (c : ¬ (0 ≤ a ∨ b ∣ a)) : a.tdiv b - 1 = a / b ∧ a - a.tdiv b * b < 0 ∧ -b ≤ a - a.tdiv b * b := by
  have h1 := Int.tdiv_eq_ediv (a := a) (b := b)
  rw [if_neg c, Int.sign_eq_one_of_pos hb] at h1
  have h2 := Int.emod_add_mul_ediv a b
  have h3 := Int.emod_nonneg a (Int.ne_of_gt hb)
  have h4 := Int.emod_lt_of_pos a hb
  have h5 : (a / b + 1) * b = b * (a / b) + b := by rw [Int.add_mul, Int.one_mul, Int.mul_comm]
  rw [h1, h5]
  exact ⟨by omega, by omega, by omega⟩

set_option maxHeartbeats 1000000 in
theorem rfloor_pos (a b : Int) (w : World) (ha : -9223372036854775808 ≤ a ∧ a ≤ 9223372036854775807) (hb : 1 ≤ b ∧ b ≤ 9223372036854775807) :
    Calls Tryz.prog 60 #[.int .i64 a, .int .i64 b] w fun e w' => e = .returned (.int .i64 (a / b)) ∧ w = w' := by
  obtain ⟨ha1, ha2⟩ := ha
  obtain ⟨hb1, hb2⟩ := hb
  have hb0 : b ≠ 0 := by omega
  have hb3 : (b == -1) = false := by simp; omega
  have ht : (a.tdiv b).natAbs ≤ a.natAbs := by rw [Int.natAbs_tdiv]; exact Nat.div_le_self _ _
  have hp : (a.tdiv b * b).natAbs ≤ a.natAbs := by rw [Int.natAbs_mul, Int.natAbs_tdiv]; exact Nat.div_mul_le_self _ _
  have hl : -9223372036854775808 ≤ a / b := Int.le_ediv_of_mul_le (by omega) (by omega)
  have hx9 : ¬ (a = -9223372036854775808 ∧ a.tdiv b = 9223372036854775808) := fun h => by
    have := Int.tdiv_nonneg (a := -a) (b := b) (by omega) (by omega)
    rw [Int.neg_tdiv] at this
    omega
  have ht1 : -9223372036854775808 ≤ a.tdiv b := by omega
  have ht2 : a.tdiv b ≤ 9223372036854775807 := by omega
  have HP := Lib.hid hp
  have HL := Lib.hid hl
  clear ht hp hl hx9
  cases hx : (a == -9223372036854775808)
  all_goals
    by_cases c : 0 ≤ a ∨ b ∣ a
    · obtain ⟨h1, h2, h3⟩ := Fq.up (b := b) (by omega) c
      have HE := Lib.hid h1
      have hq1 : -9223372036854775808 ≤ a.tdiv b * b := by have := HP.out; omega
      have hq2 : a.tdiv b * b ≤ 9223372036854775807 := by omega
      clear h1 c
      go_enter Tryz.func60, Tryz.ntmps60
      go_wp2
      all_goals go_ret
      all_goals exact ⟨ret_int HE.out, rfl⟩
    · obtain ⟨h1, h2, h3⟩ := Fq.dn (b := b) (by omega) c
      have HE := Lib.hid h1
      have hq1 : -9223372036854775808 ≤ a.tdiv b * b := by omega
      have hq2 : a.tdiv b * b ≤ 9223372036854775807 := by have := HP.out; omega
      have hq3 : -9223372036854775808 ≤ a.tdiv b - 1 := by have := HL.out; omega
      clear h1 c
      go_enter Tryz.func60, Tryz.ntmps60
      go_wp2
      go_ret
      exact ⟨ret_int HE.out, rfl⟩
end Go.Proofs.YtankjlpanmmogaaGreat

/-
  Contracts of layer 14 (texel), the small functions: sides, kinds, wrapped places; the document's own Wrap.
-/
namespace Go.Proofs.YtankjlpanmmogaaGreat
set_option maxRecDepth 100000
open Go.RowKit

theorem xside_any (n : Int) (w : World) :
    Calls Tryz.prog 117 #[.int .i64 n] w fun e w' => e = .returned (.bool (Tx.side n)) ∧ w = w' := by
  cases h : decide (1 ≤ n)
  all_goals
    go_enter Tryz.func117, Tryz.ntmps117
    go_wp2
    go_ret
    exact ⟨ret_bool (by simp at h; rw [Bool.eq_iff_iff, Tx.side_iff]; simp; try omega), rfl⟩
theorem kind_any (n : Int) (w : World) :
    Calls Tryz.prog 86 #[.int .i64 n] w fun e w' => e = .returned (.bool (Tx.is n)) ∧ w = w' := by
  cases h : decide (0 ≤ n)
  all_goals
    go_enter Tryz.func86, Tryz.ntmps86
    go_wp2
    go_ret
    exact ⟨ret_bool (by simp at h; rw [Bool.eq_iff_iff, Tx.is_iff]; simp; try omega), rfl⟩
theorem xwithin_any (m n : Int) (w : World) (hm : 0 ≤ m ∧ m ≤ 9223372036854775807) :
    Calls Tryz.prog 87 #[.int .i64 m, .int .i64 n] w fun e w' => e = .returned (.bool (Tx.within m n)) ∧ w = w' := by
  obtain ⟨m1, m2⟩ := hm
  cases h : decide (-m ≤ n)
  all_goals
    go_enter Tryz.func87, Tryz.ntmps87
    go_wp2
    go_ret
    exact ⟨ret_bool (by simp at h; rw [Bool.eq_iff_iff, Tx.within_iff]; simp; try omega), rfl⟩
theorem mirrored_any (n s : Int) (w : World) (h : 1 ≤ s ∧ s ≤ 64) :
    Calls Tryz.prog 144 #[.int .i64 n, .int .i64 s] w fun e w' => e = .returned (.int .i64 (Tx.mirror n s)) ∧ w = w' := by
  have R1 := fun W => rem_ok n (2 * s) W (by omega) (by omega)
  have h1 := Int.emod_nonneg n (b := 2 * s) (by omega)
  have h2 := Int.emod_lt_of_pos n (b := 2 * s) (by omega)
  obtain ⟨s1, s2⟩ := h
  have HM : Hid (Tx.mirror n s = if n % (2 * s) < s then n % (2 * s) else 2 * s - 1 - n % (2 * s)) := Lib.hid rfl
  generalize Tx.mirror n s = r at *
  generalize n % (2 * s) = m at *
  cases hc : decide (m < s)
  all_goals
    go_enter Tryz.func144, Tryz.ntmps144
    go_wp2_with (go_at_call 121; refine (R1 _).mono ?_; rintro e w' ⟨rfl, rfl⟩)
    go_ret
    exact ⟨ret_int (by rw [HM.out]; simp at hc; split <;> omega), rfl⟩
theorem wrap_no1 (k n s : Int) (w : World) (h : Tx.is k = false) :
    Calls Tryz.prog 122 #[.int .i64 k, .int .i64 n, .int .i64 s] w fun e w' => e = .returned (.tuple #[.int .i64 0, .int .i64 9]) ∧ w = w' := by
  have K1 := fun W => kind_any k W
  rw [h] at K1
  go_enter Tryz.func122, Tryz.ntmps122
  go_wp2_with (go_at_call 86; refine (K1 _).mono ?_; rintro e w' ⟨rfl, rfl⟩)
  go_ret2
  exact ⟨rfl, rfl⟩
theorem wrap_no2 (k n s : Int) (w : World) (hk : Tx.is k = true) (h : (Tx.side s && Tx.within 1048576 n) = false) :
    Calls Tryz.prog 122 #[.int .i64 k, .int .i64 n, .int .i64 s] w fun e w' => e = .returned (.tuple #[.int .i64 0, .int .i64 3]) ∧ w = w' := by
  have K1 := fun W => kind_any k W
  have S1 := fun W => xside_any s W
  have W1 := fun W => xwithin_any 1048576 n W (by omega)
  rw [hk] at K1
  cases h1 : Tx.side s
  · rw [h1] at S1
    go_enter Tryz.func122, Tryz.ntmps122
    go_wp2_with (first | go_big_skip | (go_at_call 86; refine (K1 _).mono ?_; rintro e w' ⟨rfl, rfl⟩) | (go_at_call 117; refine (S1 _).mono ?_; rintro e w' ⟨rfl, rfl⟩))
    go_ret2
    exact ⟨rfl, rfl⟩
  · rw [h1] at S1 h
    rw [Bool.true_and] at h
    rw [h] at W1
    go_enter Tryz.func122, Tryz.ntmps122
    go_wp2_with (first | go_big_skip | (go_at_call 86; refine (K1 _).mono ?_; rintro e w' ⟨rfl, rfl⟩) | (go_at_call 117; refine (S1 _).mono ?_; rintro e w' ⟨rfl, rfl⟩) | (go_at_call 87; refine (W1 _).mono ?_; rintro e w' ⟨rfl, rfl⟩))
    go_ret2
    exact ⟨rfl, rfl⟩
set_option maxHeartbeats 400000 in
theorem wrap_yes (k n s : Int) (w : World) (hk : Tx.is k = true) (hs : 1 ≤ s ∧ s ≤ 64) (hn : -1048576 ≤ n ∧ n ≤ 1048576) :
    Calls Tryz.prog 122 #[.int .i64 k, .int .i64 n, .int .i64 s] w fun e w' => e = .returned (.tuple #[.int .i64 (Tx.wrap k n s), .int .i64 0]) ∧ w = w' := by
  have K1 := fun W => kind_any k W
  have S1 := fun W => xside_any s W
  have W1 := fun W => xwithin_any 1048576 n W (by omega)
  rw [hk] at K1
  rw [Tx.side_iff.2 hs] at S1
  rw [Tx.within_iff.2 hn] at W1
  have R1 := fun W => rem_ok n s W (by omega) (by omega)
  have M1 := fun W => mirrored_any n s W hs
  have T1 := fun W => tsat_any n 0 (s - 1) W
  obtain ⟨s1, s2⟩ := hs
  rcases Tx.kinds hk with rfl | rfl | rfl
  · rw [Tx.wrap0]
    generalize Tn.sat n 0 (s - 1) = r at *
    go_enter Tryz.func122, Tryz.ntmps122
    go_wp2_with (first | go_big_skip | (go_at_call 86; refine (K1 _).mono ?_; rintro e w' ⟨rfl, rfl⟩) | (go_at_call 117; refine (S1 _).mono ?_; rintro e w' ⟨rfl, rfl⟩) | (go_at_call 87; refine (W1 _).mono ?_; rintro e w' ⟨rfl, rfl⟩) | (go_at_call 49; refine (T1 _).mono ?_; rintro e w' ⟨rfl, rfl⟩))
    go_ret2
    exact ⟨rfl, rfl⟩
  · rw [Tx.wrap1]
    generalize n % s = r at *
    go_enter Tryz.func122, Tryz.ntmps122
    go_wp2_with (first | go_big_skip | (go_at_call 86; refine (K1 _).mono ?_; rintro e w' ⟨rfl, rfl⟩) | (go_at_call 117; refine (S1 _).mono ?_; rintro e w' ⟨rfl, rfl⟩) | (go_at_call 87; refine (W1 _).mono ?_; rintro e w' ⟨rfl, rfl⟩) | (go_at_call 121; refine (R1 _).mono ?_; rintro e w' ⟨rfl, rfl⟩))
    go_ret2
    exact ⟨rfl, rfl⟩
  · rw [Tx.wrap2]
    generalize Tx.mirror n s = r at *
    go_enter Tryz.func122, Tryz.ntmps122
    go_wp2_with (first | go_big_skip | (go_at_call 86; refine (K1 _).mono ?_; rintro e w' ⟨rfl, rfl⟩) | (go_at_call 117; refine (S1 _).mono ?_; rintro e w' ⟨rfl, rfl⟩) | (go_at_call 87; refine (W1 _).mono ?_; rintro e w' ⟨rfl, rfl⟩) | (go_at_call 144; refine (M1 _).mono ?_; rintro e w' ⟨rfl, rfl⟩))
    go_ret2
    exact ⟨rfl, rfl⟩
/-- a place that is wrapped or not, and the error -/
def Tx.wrapE (k n s : Int) : Int := if Tx.is k then (if Tx.side s && Tx.within 1048576 n then 0 else 3) else 9
theorem wrap_no (k n s : Int) (w : World) (h : Tx.wrapE k n s ≠ 0) :
    Calls Tryz.prog 122 #[.int .i64 k, .int .i64 n, .int .i64 s] w fun e w' => e = .returned (.tuple #[.int .i64 0, .int .i64 (Tx.wrapE k n s)]) ∧ w = w' := by
  unfold Tx.wrapE at *
  cases hk : Tx.is k
  · exact wrap_no1 k n s w hk
  · rw [hk] at h
    cases hs : (Tx.side s && Tx.within 1048576 n)
    · exact wrap_no2 k n s w hk hs
    · rw [hs] at h; exact absurd rfl h
theorem split_any (n : Int) (w : World) (h1 : -2097152 ≤ n) (h2 : n ≤ 2097152) :
    Calls Tryz.prog 89 #[.int .i64 n] w fun e w' => e = .returned (.tuple #[.int .i64 (n / 256), .int .i64 (n % 256)]) ∧ w = w' := by
  have F1 := fun W => floor_256 n W h1 h2
  have R1 := fun W => rem_ok n 256 W (by omega) (by omega)
  generalize n / 256 = q at *
  generalize n % 256 = r at *
  go_enter Tryz.func89, Tryz.ntmps89
  go_wp2_with (first | (go_at_call 120; refine (F1 _).mono ?_; rintro e w' ⟨rfl, rfl⟩) | (go_at_call 121; refine (R1 _).mono ?_; rintro e w' ⟨rfl, rfl⟩))
  go_ret2
  exact ⟨rfl, rfl⟩
theorem xnearest_any (n : Int) (w : World) (h1 : 0 ≤ n) (h2 : n ≤ 67108864) :
    Calls Tryz.prog 142 #[.int .i64 n] w fun e w' => e = .returned (.int .i64 ((n + 32768) / 65536)) ∧ w = w' := by
  have F1 := fun W => round_16 n W h1 h2
  generalize (n + 32768) / 65536 = q at *
  go_enter Tryz.func142, Tryz.ntmps142
  go_wp2_with (go_at_call 151; refine (F1 _).mono ?_; rintro e w' ⟨rfl, rfl⟩)
  go_ret
  exact ⟨rfl, rfl⟩
set_option maxHeartbeats 400000 in
theorem rwrap_any (k n s : Int) (w : World) (hk : Tx.is k = true) (hs : 1 ≤ s ∧ s ≤ 64) (hn : -1048576 ≤ n ∧ n ≤ 1048576) :
    Calls Tryz.prog 97 #[.int .i64 k, .int .i64 n, .int .i64 s] w fun e w' => e = .returned (.int .i64 (Tx.wrap k n s)) ∧ w = w' := by
  obtain ⟨s1, s2⟩ := hs
  obtain ⟨n1, n2⟩ := hn
  rcases Tx.kinds hk with rfl | rfl | rfl
  · have T1 := fun W => trsat_any n 0 (s - 1) W
    rw [Tx.wrap0]
    generalize Tn.sat n 0 (s - 1) = r at *
    go_enter Tryz.func97, Tryz.ntmps97
    go_wp2_with (go_at_call 26; refine (T1 _).mono ?_; rintro e w' ⟨rfl, rfl⟩)
    go_ret
    exact ⟨rfl, rfl⟩
  · have F1 := fun W => rfloor_pos n s W (by omega) (by omega)
    have HE := Lib.hid (Tx.rem_eq n s)
    have b1 := Int.emod_nonneg n (b := s) (by omega)
    have b2 := Int.emod_lt_of_pos n (b := s) (by omega)
    have HE2 := HE.out
    rw [Tx.wrap1]
    generalize n % s = r at *
    generalize n / s = q at *
    have m1 : -2000000 ≤ s * q := by omega
    have m2 : s * q ≤ 2000000 := by omega
    clear HE2
    go_enter Tryz.func97, Tryz.ntmps97
    go_wp2_with (go_at_call 60; refine (F1 _).mono ?_; rintro e w' ⟨rfl, rfl⟩)
    go_ret
    exact ⟨ret_int HE.out, rfl⟩
  · have F1 := fun W => rfloor_pos n (2 * s) W (by omega) (by omega)
    have HE := Lib.hid (Tx.rem_eq n (2 * s))
    have HM : Hid (Tx.mirror n s = if n % (2 * s) < s then n % (2 * s) else 2 * s - 1 - n % (2 * s)) := Lib.hid rfl
    have b1 := Int.emod_nonneg n (b := 2 * s) (by omega)
    have b2 := Int.emod_lt_of_pos n (b := 2 * s) (by omega)
    have HE2 := HE.out
    rw [Tx.wrap2]
    generalize Tx.mirror n s = r at *
    generalize n % (2 * s) = m at *
    generalize n / (2 * s) = q at *
    have m1 : -2000000 ≤ 2 * s * q := by omega
    have m2 : 2 * s * q ≤ 2000000 := by omega
    have m3 : 0 ≤ n - 2 * s * q := by omega
    have m4 : n - 2 * s * q ≤ 128 := by omega
    cases hc : decide (n - 2 * s * q < s)
    all_goals
      have HC := Lib.hid hc
      clear HE2
      go_enter Tryz.func97, Tryz.ntmps97
      go_wp2_with (go_at_call 60; refine (F1 _).mono ?_; rintro e w' ⟨rfl, rfl⟩)
      go_ret
      exact ⟨ret_int (by have k1 := HC.out; simp at k1; rw [HE.out] at k1; rw [HM.out]; try rw [HE.out]; split <;> omega), rfl⟩
end Go.Proofs.YtankjlpanmmogaaGreat

/-
  Contracts of layer 6 (tint): Unpack, where nothing else of that layer is called.
-/
namespace Go.Proofs.YtankjlpanmmogaaGreat
set_option maxRecDepth 100000
open Go.RowKit

/-- the channels of a packed colour -/
theorem unpack1_any (n k : Int) (i : Nat) (hk : k = i) (hi : i < 4) (bx : Nat) (w : World) (hR : Rc w bx [.int .i64 n]) (hn : 0 ≤ n ∧ n ≤ 4294967295) :
    Calls Tryz.prog 139 #[.int .i64 k, .pointer (some ⟨bx, 0, none⟩)] w fun e w' => e = .returned (.int .i64 (Tn.part n i)) ∧ w = w' := by
  have c0 := hR.cell 0 rfl
  have hb := bits_255
  obtain ⟨h1, h2⟩ := hn
  clear hR
  obtain ⟨rfl, rfl⟩ | ⟨rfl, rfl⟩ | ⟨rfl, rfl⟩ | ⟨rfl, rfl⟩ : i = 0 ∧ k = 0 ∨ i = 1 ∧ k = 1 ∨ i = 2 ∧ k = 2 ∨ i = 3 ∧ k = 3 := by omega
  all_goals
    clear hk hi
    go_enter Tryz.func139, Tryz.ntmps139
    go_wp2
    go_ret
    exact ⟨ret_int (by first | rw [Tn.part0] | rw [Tn.part1] | rw [Tn.part2] | rw [Tn.part3]), rfl⟩
set_option maxHeartbeats 1000000 in
theorem made_unpack (n : Int) (bx : Nat) (w : World) (hR : Rc w bx [.int .i64 n]) (hn : 0 ≤ n ∧ n ≤ 4294967295) :
    Calls Tryz.prog 47 #[.func (Fn.func 139) #[] #[.pointer (some ⟨bx, 0, none⟩)]] w fun e w' => e = .returned (.agg #[.int .i64 (Tn.part n 0), .int .i64 (Tn.part n 1), .int .i64 (Tn.part n 2), .int .i64 (Tn.part n 3)]) ∧ Kp w.heap.size w w' := by
  have HR := Lib.hid (hR.kp (Kp.new w #[.int .i64 0, .int .i64 0, .int .i64 0, .int .i64 0] 51) (hR.lt (by simp)))
  clear hR
  go_enter Tryz.func47, Tryz.ntmps47
  go_wp2_with (go_at_call 139; (first | with_reducible refine (unpack1_any n 0 0 rfl (by omega) bx _ HR.out hn).mono ?_ | with_reducible refine (unpack1_any n 1 1 rfl (by omega) bx _ HR.out hn).mono ?_ | with_reducible refine (unpack1_any n 2 2 rfl (by omega) bx _ HR.out hn).mono ?_ | with_reducible refine (unpack1_any n 3 3 rfl (by omega) bx _ HR.out hn).mono ?_); rintro e w' ⟨rfl, rfl⟩)
  exact bodyPost_ret (results_c ty_color rfl rfl rfl (Rc.new w [.int .i64 _, .int .i64 _, .int .i64 _, .int .i64 _] _ rfl)) rfl ⟨rfl, Kp.new _ _ _⟩

set_option maxHeartbeats 1000000 in
theorem unpack_no (n : Int) (w : World) (h : n < 0 ∨ 4294967295 < n) :
    Calls Tryz.prog 118 #[.int .i64 n] w fun e w' => e = .returned (.tuple #[.agg #[.int .i64 0, .int .i64 0, .int .i64 0, .int .i64 0], .int .i64 3]) ∧ Kp w.heap.size w w' := by
  have HO := Lib.hid (((Ow.refl w).newAt w.heap.size rfl (.int .i64 n) [] 3).newAt (w.heap.size + 1) (by simp) (.int .i64 0) [.int .i64 0, .int .i64 0, .int .i64 0] 51)
  by_cases h1 : n < 0
  · go_enter Tryz.func118, Tryz.ntmps118
    go_wp2_with (first | go_skip | ((with_reducible show wpList _ _ _ ({ dst := _, op := Op.store 51 _ _, type := _, pos := _, after := _, guard := _ } :: _) _ _); refine wpList_sto ty_color HO.out 0 [.int .i64 0, .int .i64 0, .int .i64 0, .int .i64 0] rfl _ _ rfl _ rfl rfl _ rfl rfl rfl rfl ?_; intro w2 l2; clear HO; have HO := Lib.hid l2; clear l2))
    exact bodyPost_ret (results_c2 ty_color rfl rfl rfl rfl (HO.out.at 0 rfl)) rfl ⟨rfl, HO.out.k⟩
  · have hd : decide (n < 0) = false := decide_eq_false h1
    have h2 : 4294967295 < n := by omega
    go_enter Tryz.func118, Tryz.ntmps118
    go_wp2_with (first | go_skip | ((with_reducible show wpList _ _ _ ({ dst := _, op := Op.store 51 _ _, type := _, pos := _, after := _, guard := _ } :: _) _ _); refine wpList_sto ty_color HO.out 0 [.int .i64 0, .int .i64 0, .int .i64 0, .int .i64 0] rfl _ _ rfl _ rfl rfl _ rfl rfl rfl rfl ?_; intro w2 l2; clear HO; have HO := Lib.hid l2; clear l2))
    exact bodyPost_ret (results_c2 ty_color rfl rfl rfl rfl (HO.out.at 0 rfl)) rfl ⟨rfl, HO.out.k⟩
set_option maxHeartbeats 1000000 in
theorem unpack_yes (n : Int) (w : World) (h : 0 ≤ n ∧ n ≤ 4294967295) :
    Calls Tryz.prog 118 #[.int .i64 n] w fun e w' => e = .returned (.tuple #[.agg #[.int .i64 (Tn.part n 0), .int .i64 (Tn.part n 1), .int .i64 (Tn.part n 2), .int .i64 (Tn.part n 3)], .int .i64 0]) ∧ Kp w.heap.size w w' := by
  have HO := Lib.hid (((Ow.refl w).newAt w.heap.size rfl (.int .i64 n) [] 3).newAt (w.heap.size + 1) (by simp) (.int .i64 0) [.int .i64 0, .int .i64 0, .int .i64 0] 51)
  obtain ⟨h1, h2⟩ := h
  have hd : decide (n < 0) = false := decide_eq_false (by omega)
  have hd2 : decide (4294967295 < n) = false := decide_eq_false (by omega)
  go_enter Tryz.func118, Tryz.ntmps118
  go_wp2_with (first | go_skip | (go_at_call 47; refine (made_unpack n w.heap.size _ (HO.out.at 1 rfl) ⟨h1, h2⟩).mono ?_; rintro e w1 ⟨rfl, hk⟩; have l2 := HO.out.call hk; clear HO hk; have HO := Lib.hid l2; clear l2) | ((with_reducible show wpList _ _ _ ({ dst := _, op := Op.store 51 _ _, type := _, pos := _, after := _, guard := _ } :: _) _ _); refine wpList_sto ty_color HO.out 0 [.int .i64 (Tn.part n 0), .int .i64 (Tn.part n 1), .int .i64 (Tn.part n 2), .int .i64 (Tn.part n 3)] rfl _ _ rfl _ rfl rfl _ rfl rfl rfl rfl ?_; intro w2 l2; clear HO; have HO := Lib.hid l2; clear l2))
  exact bodyPost_ret (results_c2 ty_color rfl rfl rfl rfl (HO.out.at 0 rfl)) rfl ⟨rfl, HO.out.k⟩

end Go.Proofs.YtankjlpanmmogaaGreat

/-
  Contracts of layer 14 (texel): Check, and the document's own Check.
-/
namespace Go.Proofs.YtankjlpanmmogaaGreat
set_option maxRecDepth 100000
open Go.RowKit

theorem ty_tex : Ty 30 3 := ⟨by kernel_rfl, _, Tryz.underlying30, rfl⟩
/-- a slice, and its cells in every world in which what stood stands -/
theorem Sl.parts {w : World} {v : Value} {xs : List Value} (h : Sl w v xs) : ∃ a c, v = .slice a xs.length c ∧ xs.length ≤ c ∧
    ∀ wr, Kp w.heap.size w wr → ∀ j x, xs[j]? = some x → ∃ b o, a = some ⟨b, o, none⟩ ∧ wr.cell? ⟨b, o + j, none⟩ = some x := by
  obtain ⟨a, c, h1, h2, h3⟩ := h
  refine ⟨a, c, h1, h2, fun wr hk j x hj => ?_⟩
  obtain ⟨b, o, e1, e2, e3⟩ := h3 j x hj
  exact ⟨b, o, e1, (hk.below.cell (p := ⟨b, o + j, none⟩) e2).trans e3⟩
/-- whole numbers of 64 bits -/
def Tx.ints (l : List Int) : Prop := ∀ x ∈ l, -9223372036854775808 ≤ x ∧ x ≤ 9223372036854775807
theorem Tx.all_next {l : List Int} {k : Nat} (h : k < l.length) (f : Int → Bool) : (l.take (k + 1)).all f = ((l.take k).all f && f l[k]) := by
  rw [List.take_succ_eq_append_getElem h, List.all_append]; simp
def msrX (n : Nat) (i : Value) : Nat := n - (intOf i).toNat
theorem Tx.chk_side {W H : Int} {l : List Int} (h : (Tx.side W && Tx.side H) = false) : Tx.chk W H l = 3 := by unfold Tx.chk; rw [h]; rfl
theorem Tx.chk_form {W H : Int} {l : List Int} (h : (Tx.side W && Tx.side H) = true) (h2 : (l.length : Int) ≠ W * H) : Tx.chk W H l = 6 := by unfold Tx.chk; rw [h, if_pos rfl, if_neg h2]
theorem Tx.chk_in {W H : Int} {l : List Int} (h : (Tx.side W && Tx.side H) = true) (h2 : (l.length : Int) = W * H) : ∃ r, Tx.chk W H l = r ∧ (l.all Tx.good = true → r = 0) ∧ (l.all Tx.good = false → r = 3) :=
  ⟨_, rfl, fun h3 => by unfold Tx.chk; rw [h, if_pos rfl, if_pos h2, if_pos h3], fun h3 => by unfold Tx.chk; rw [h, if_pos rfl, if_pos h2, h3]; rfl⟩

set_option maxHeartbeats 2000000 in
theorem xcheck_any (W H : Int) (l : List Int) (v : Value) (w : World) (hS : Sl w v (iv l)) (hi : Tx.ints l) :
    Calls Tryz.prog 85 #[.agg #[.int .i64 W, .int .i64 H, v]] w fun e w' => e = .returned (.int .i64 (Tx.chk W H l)) ∧ Kp w.heap.size w w' := by
  obtain ⟨a, c, rfl, hac, hu⟩ := hS.parts
  rw [iv_len] at hac ⊢
  clear hS
  have S1 := fun w => xside_any W w
  have S2 := fun w => xside_any H w
  cases hs : (Tx.side W && Tx.side H)
  · rw [Tx.chk_side hs]
    clear hu hi
    have HO := Lib.hid ((Ow.refl w).newAt w.heap.size rfl (.int .i64 W) [.int .i64 H, .slice a l.length c] 30)
    have c0 := (HO.out.at 0 rfl).cell 0 rfl
    have c1 := (HO.out.at 0 rfl).cell 1 rfl
    have c2 := (HO.out.at 0 rfl).cell 2 rfl
    cases h1 : Tx.side W
    · rw [h1] at S1
      go_enter Tryz.func85, Tryz.ntmps85
      go_wp2_with (first | go_big_skip | (go_at_call 117; (first | (with_reducible refine (S1 _).mono ?_) | (with_reducible refine (S2 _).mono ?_)); rintro e w' ⟨rfl, rfl⟩))
      go_ret
      exact ⟨rfl, HO.out.k⟩
    · rw [h1] at hs S1
      rw [Bool.true_and] at hs
      rw [hs] at S2
      go_enter Tryz.func85, Tryz.ntmps85
      go_wp2_with (first | go_big_skip | (go_at_call 117; (first | (with_reducible refine (S1 _).mono ?_) | (with_reducible refine (S2 _).mono ?_)); rintro e w' ⟨rfl, rfl⟩))
      go_ret
      exact ⟨rfl, HO.out.k⟩
  · have hs2 := hs
    rw [Bool.and_eq_true] at hs2
    rw [hs2.1] at S1
    rw [hs2.2] at S2
    have ha := Tx.area_bd (Tx.side_iff.1 hs2.1) (Tx.side_iff.1 hs2.2)
    obtain ⟨ha1, ha2⟩ := ha
    clear hs2
    by_cases hf : (l.length : Int) = W * H
    · obtain ⟨r, hr, hr2⟩ := Tx.chk_in hs hf
      rw [hr]
      have HR := Lib.hid hr2
      clear hs hr hr2
      have hfd : ((l.length : Int) == W * H) = true := by simpa using hf
      have HF := Lib.hid hf
      have hl2 : (l.length : Int) ≤ 4096 := by omega
      have HU := Lib.hid hu
      have HI := Lib.hid hi
      clear hf hu hi
      have HO := Lib.hid ((Ow.refl w).newAt w.heap.size rfl (.int .i64 W) [.int .i64 H, .slice a l.length c] 30)
      have c0 := (HO.out.at 0 rfl).cell 0 rfl
      have c1 := (HO.out.at 0 rfl).cell 1 rfl
      have c2 := (HO.out.at 0 rfl).cell 2 rfl
      go_enter Tryz.func85, Tryz.ntmps85
      go_wp2_with (first | go_big_skip | (go_at_call 117; (first | (with_reducible refine (S1 _).mono ?_) | (with_reducible refine (S2 _).mono ?_)); rintro e w' ⟨rfl, rfl⟩))
      go_loopw [30, 5, 3] (fun i _ t wr => ∃ (k : Nat) (n : Int), k ≤ l.length ∧ i = .int .i64 k ∧ t = .int .i64 n ∧ (-9223372036854775808 ≤ n ∧ n ≤ 9223372036854775807) ∧ Tx.good n = (l.take k).all Tx.good ∧ Ow w wr [(w.heap.size, [.int .i64 W, .int .i64 H, .slice a l.length c])]) (fun i _ _ _ => msrX l.length i)
      case atStart => exact ⟨0, 0, Nat.zero_le _, rfl, rfl, by omega, rfl, HO.out⟩
      case round =>
        clear HO c0 c1 c2
        obtain ⟨k, n, hk, rfl, rfl, hn, hg, ho⟩ := hrel
        have HO := Lib.hid ho
        clear ho
        by_cases hlt : k < l.length
        · have z1 : (k : Int) < (l.length : Int) := by omega
          obtain ⟨b1, o1, e1, x1⟩ := HU.out _ HO.out.k k _ (iv_get hlt)
          have hb := Tx.bits_or hn (HI.out _ (List.getElem_mem hlt))
          have HB := Lib.hid hb
          have HG := Lib.hid (show (l.take (k + 1)).all Tx.good = (Tx.good n && Tx.good l[k]) by rw [Tx.all_next hlt, hg])
          clear hb hg hn
          generalize l[k] = y at *
          subst e1
          go_wp2
          go_roundw
          case rel => exact ⟨k + 1, _, by omega, by go_num, rfl, HB.out.1, by rw [HB.out.2, HG.out], HO.out⟩
          case measure => simp [msrX, intOf]; omega
        · obtain rfl : k = l.length := by omega
          rw [List.take_length] at hg
          cases hgn : Tx.good n
          · have U1 := fun W => unpack_no n W (by rw [← Bool.not_eq_true, Tx.good_iff] at hgn; omega)
            obtain rfl := HR.out.2 (by rw [← hg, hgn])
            clear hgn hg hn HR
            go_wp2_with (go_at_call 118; refine (U1 _).mono ?_; rintro e w1 ⟨rfl, hk1⟩; have l2 := HO.out.call hk1; clear HO hk1; have HO := Lib.hid l2; clear l2)
            go_ret
            exact ⟨rfl, HO.out.k.next (Kp.new _ _ _)⟩
          · have U1 := fun W => unpack_yes n W (Tx.good_iff.1 hgn)
            obtain rfl := HR.out.1 (by rw [← hg, hgn])
            clear hgn hg hn HR
            go_wp2_with (go_at_call 118; refine (U1 _).mono ?_; rintro e w1 ⟨rfl, hk1⟩; have l2 := HO.out.call hk1; clear HO hk1; have HO := Lib.hid l2; clear l2)
            go_ret
            exact ⟨rfl, HO.out.k.next (Kp.new _ _ _)⟩
    · rw [Tx.chk_form hs hf]
      have hfd : ((l.length : Int) == W * H) = false := by simpa using hf
      clear hs hf hu hi
      have HO := Lib.hid ((Ow.refl w).newAt w.heap.size rfl (.int .i64 W) [.int .i64 H, .slice a l.length c] 30)
      have c0 := (HO.out.at 0 rfl).cell 0 rfl
      have c1 := (HO.out.at 0 rfl).cell 1 rfl
      have c2 := (HO.out.at 0 rfl).cell 2 rfl
      go_enter Tryz.func85, Tryz.ntmps85
      go_wp2_with (first | go_big_skip | (go_at_call 117; (first | (with_reducible refine (S1 _).mono ?_) | (with_reducible refine (S2 _).mono ?_)); rintro e w' ⟨rfl, rfl⟩))
      go_ret
      exact ⟨rfl, HO.out.k⟩
set_option maxHeartbeats 2000000 in
theorem xrcheck_any (W H : Int) (l : List Int) (v : Value) (w : World) (hS : Sl w v (iv l)) :
    Calls Tryz.prog 23 #[.agg #[.int .i64 W, .int .i64 H, v]] w fun e w' => e = .returned (.int .i64 (Tx.chk W H l)) ∧ Kp w.heap.size w w' := by
  obtain ⟨a, c, rfl, hac, hu⟩ := hS.parts
  rw [iv_len] at hac ⊢
  clear hS
  cases hs : (Tx.side W && Tx.side H)
  · rw [Tx.chk_side hs]
    clear hu
    have hx : W < 1 ∨ ¬ W < 1 ∧ 64 < W ∨ ¬ W < 1 ∧ ¬ 64 < W ∧ H < 1 ∨ ¬ W < 1 ∧ ¬ 64 < W ∧ ¬ H < 1 ∧ 64 < H := by
      rw [Bool.and_eq_false_iff, Tx.side_no, Tx.side_no] at hs; omega
    clear hs
    have HO := Lib.hid ((Ow.refl w).newAt w.heap.size rfl (.int .i64 W) [.int .i64 H, .slice a l.length c] 30)
    have c0 := (HO.out.at 0 rfl).cell 0 rfl
    have c1 := (HO.out.at 0 rfl).cell 1 rfl
    have c2 := (HO.out.at 0 rfl).cell 2 rfl
    rcases hx with h1 | ⟨h1, h2⟩ | ⟨h1, h2, h3⟩ | ⟨h1, h2, h3, h4⟩
    · have g1 : decide (W < 1) = true := decide_eq_true h1
      go_enter Tryz.func23, Tryz.ntmps23
      go_wp2_with go_big_skip
      go_ret
      exact ⟨rfl, HO.out.k⟩
    · have g1 : decide (W < 1) = false := decide_eq_false h1
      have g2 : decide (64 < W) = true := decide_eq_true h2
      go_enter Tryz.func23, Tryz.ntmps23
      go_wp2_with go_big_skip
      go_ret
      exact ⟨rfl, HO.out.k⟩
    · have g1 : decide (W < 1) = false := decide_eq_false h1
      have g2 : decide (64 < W) = false := decide_eq_false h2
      have g3 : decide (H < 1) = true := decide_eq_true h3
      go_enter Tryz.func23, Tryz.ntmps23
      go_wp2_with go_big_skip
      go_ret
      exact ⟨rfl, HO.out.k⟩
    · have g1 : decide (W < 1) = false := decide_eq_false h1
      have g2 : decide (64 < W) = false := decide_eq_false h2
      have g3 : decide (H < 1) = false := decide_eq_false h3
      have g4 : decide (64 < H) = true := decide_eq_true h4
      go_enter Tryz.func23, Tryz.ntmps23
      go_wp2_with go_big_skip
      go_ret
      exact ⟨rfl, HO.out.k⟩
  · have hs2 := hs
    rw [Bool.and_eq_true, Tx.side_iff, Tx.side_iff] at hs2
    obtain ⟨ha1, ha2⟩ := Tx.area_bd hs2.1 hs2.2
    have g1 : decide (W < 1) = false := decide_eq_false (by omega)
    have g2 : decide (64 < W) = false := decide_eq_false (by omega)
    have g3 : decide (H < 1) = false := decide_eq_false (by omega)
    have g4 : decide (64 < H) = false := decide_eq_false (by omega)
    clear hs2
    by_cases hf : (l.length : Int) = W * H
    · obtain ⟨r, hr, hr2⟩ := Tx.chk_in hs hf
      rw [hr]
      have HR := Lib.hid hr2
      clear hs hr hr2
      have hfd : ((l.length : Int) == W * H) = true := by simpa using hf
      have hl2 : (l.length : Int) ≤ 4096 := by omega
      have HU := Lib.hid hu
      clear hf hu
      have HO := Lib.hid ((Ow.refl w).newAt w.heap.size rfl (.int .i64 W) [.int .i64 H, .slice a l.length c] 30)
      have c0 := (HO.out.at 0 rfl).cell 0 rfl
      have c1 := (HO.out.at 0 rfl).cell 1 rfl
      have c2 := (HO.out.at 0 rfl).cell 2 rfl
      go_enter Tryz.func23, Tryz.ntmps23
      go_wp2_with go_big_skip
      clear g1 g2 g3 g4 ha1 ha2 hfd
      go_loopw [3] (fun i wr => ∃ k : Nat, k ≤ l.length ∧ i = .int .i64 k ∧ (l.take k).all Tx.good = true ∧ Ow w wr [(w.heap.size, [.int .i64 W, .int .i64 H, .slice a l.length c])]) (fun i _ => msrX l.length i)
      case atStart => exact ⟨0, Nat.zero_le _, rfl, rfl, HO.out⟩
      case round =>
        clear HO c0 c1 c2
        obtain ⟨k, hk, rfl, hg, ho⟩ := hrel
        have c2 := (ho.at 0 rfl).cell 2 rfl
        have HO := Lib.hid ho
        clear ho
        by_cases hlt : k < l.length
        · have z1 : decide ((k : Int) < (l.length : Int)) = true := decide_eq_true (by omega)
          have z2 : (k : Int) < (l.length : Int) := by omega
          obtain ⟨b1, o1, e1, x1⟩ := HU.out _ HO.out.k k _ (iv_get hlt)
          have HG := Lib.hid (Tx.all_next hlt Tx.good)
          have HA : Hid (Tx.good l[k] = false → l.all Tx.good = false) := Lib.hid fun h => by
            rw [← Bool.not_eq_true, List.all_eq_true]; intro h2; rw [h2 _ (List.getElem_mem hlt)] at h; cases h
          have hg0 := Lib.hid hg
          clear hg
          generalize l[k] = y at *
          subst e1
          by_cases h1 : y < 0
          · have q1 : decide (y < 0) = true := decide_eq_true h1
            obtain rfl := HR.out.2 (HA.out (by rw [← Bool.not_eq_true, Tx.good_iff]; omega))
            clear HA HG HR
            go_wp2_with go_big_skip
            go_ret
            exact ⟨rfl, HO.out.k⟩
          · have q1 : decide (y < 0) = false := decide_eq_false h1
            by_cases h2 : 4294967295 < y
            · have q2 : decide (4294967295 < y) = true := decide_eq_true h2
              obtain rfl := HR.out.2 (HA.out (by rw [← Bool.not_eq_true, Tx.good_iff]; omega))
              clear HA HG HR
              go_wp2_with go_big_skip
              go_ret
              exact ⟨rfl, HO.out.k⟩
            · have q2 : decide (4294967295 < y) = false := decide_eq_false h2
              have HN := Lib.hid (show Tx.good y = true by rw [Tx.good_iff]; omega)
              clear HA
              go_wp2_with go_big_skip
              go_roundw
              case rel => exact ⟨k + 1, by omega, by go_num, by rw [HG.out, hg0.out, HN.out]; rfl, HO.out⟩
              case measure => simp [msrX, intOf]; omega
        · have z1 : decide ((k : Int) < (l.length : Int)) = false := decide_eq_false (by omega)
          obtain rfl : k = l.length := by omega
          rw [List.take_length] at hg
          obtain rfl := HR.out.1 hg
          clear hg HR
          go_wp2
          go_ret
          exact ⟨rfl, HO.out.k⟩
    · rw [Tx.chk_form hs hf]
      have hfd : ((l.length : Int) == W * H) = false := by simpa using hf
      clear hs hf hu
      have HO := Lib.hid ((Ow.refl w).newAt w.heap.size rfl (.int .i64 W) [.int .i64 H, .slice a l.length c] 30)
      have c0 := (HO.out.at 0 rfl).cell 0 rfl
      have c1 := (HO.out.at 0 rfl).cell 1 rfl
      have c2 := (HO.out.at 0 rfl).cell 2 rfl
      go_enter Tryz.func23, Tryz.ntmps23
      go_wp2_with go_big_skip
      go_ret
      exact ⟨rfl, HO.out.k⟩
end Go.Proofs.YtankjlpanmmogaaGreat

/-
  Contracts of layer 14 (texel): a texel of a right texture; At.
-/
namespace Go.Proofs.YtankjlpanmmogaaGreat
set_option maxRecDepth 100000
open Go.RowKit

/-- the error of a place in a right texture -/
def Tx.readE (k x y : Int) : Int := if Tx.is k then (if Tx.within 1048576 x && Tx.within 1048576 y then 0 else 3) else 9
theorem Tx.wrapE_ok {k n s : Int} (hk : Tx.is k = true) (hs : Tx.side s = true) (hn : Tx.within 1048576 n = true) : Tx.wrapE k n s = 0 := by unfold Tx.wrapE; rw [hk, hs, hn]; rfl
theorem Tx.wrapE_kind {k n s : Int} (hk : Tx.is k = false) : Tx.wrapE k n s = 9 := by unfold Tx.wrapE; rw [hk]; rfl
theorem Tx.wrapE_out {k n s : Int} (hk : Tx.is k = true) (hs : Tx.side s = true) (hn : Tx.within 1048576 n = false) : Tx.wrapE k n s = 3 := by unfold Tx.wrapE; rw [hk, hs, hn]; rfl
theorem Tx.readE_kind {k x y : Int} (hk : Tx.is k = false) : Tx.readE k x y = 9 := by unfold Tx.readE; rw [hk]; rfl
theorem Tx.readE_out {k x y : Int} (hk : Tx.is k = true) (hn : (Tx.within 1048576 x && Tx.within 1048576 y) = false) : Tx.readE k x y = 3 := by unfold Tx.readE; rw [hk, hn]; rfl
theorem Tx.readE_ok {k x y : Int} (hk : Tx.is k = true) (hx : Tx.within 1048576 x = true) (hy : Tx.within 1048576 y = true) : Tx.readE k x y = 0 := by unfold Tx.readE; rw [hk, hx, hy]; rfl
set_option maxHeartbeats 1000000 in
theorem read_no (W H x y k : Int) (v : Value) (w : World) (hW : Tx.side W = true) (hH : Tx.side H = true) (h : Tx.readE k x y ≠ 0) :
    Calls Tryz.prog 90 #[.agg #[.int .i64 W, .int .i64 H, v], .int .i64 x, .int .i64 y, .int .i64 k] w fun e w' => e = .returned (.tuple #[.agg #[.int .i64 0, .int .i64 0, .int .i64 0, .int .i64 0], .int .i64 (Tx.readE k x y)]) ∧ Kp w.heap.size w w' := by
  cases hk : Tx.is k
  · have A1 := fun U => wrap_no k x W U (by rw [Tx.wrapE_kind hk]; decide)
    rw [Tx.wrapE_kind hk] at A1
    rw [Tx.readE_kind hk]
    clear h hk hW hH
    have HO := Lib.hid (((Ow.refl w).newAt w.heap.size rfl (.int .i64 W) [.int .i64 H, v] 30).newAt (w.heap.size + 1) (by simp) (.int .i64 0) [.int .i64 0, .int .i64 0, .int .i64 0] 51)
    have c0 := (HO.out.at 1 rfl).cell 0 rfl
    go_enter Tryz.func90, Tryz.ntmps90
    go_wp2_with (first | (go_at_call 122; refine (A1 _).mono ?_; rintro e w' ⟨rfl, rfl⟩) | ((with_reducible show wpList _ _ _ ({ dst := _, op := Op.store 51 _ _, type := _, pos := _, after := _, guard := _ } :: _) _ _); refine wpList_sto ty_color HO.out 0 [.int .i64 0, .int .i64 0, .int .i64 0, .int .i64 0] rfl _ _ rfl _ rfl rfl _ rfl rfl rfl rfl ?_; intro w2 l2; clear HO; have HO := Lib.hid l2; clear l2))
    exact bodyPost_ret (results_c2 ty_color rfl rfl rfl rfl (HO.out.at 0 rfl)) rfl ⟨rfl, HO.out.k⟩
  cases hx : Tx.within 1048576 x
  · have A1 := fun U => wrap_no k x W U (by rw [Tx.wrapE_out hk hW hx]; decide)
    rw [Tx.wrapE_out hk hW hx] at A1
    rw [Tx.readE_out hk (by rw [hx]; rfl)]
    clear h hk hW hH hx
    have HO := Lib.hid (((Ow.refl w).newAt w.heap.size rfl (.int .i64 W) [.int .i64 H, v] 30).newAt (w.heap.size + 1) (by simp) (.int .i64 0) [.int .i64 0, .int .i64 0, .int .i64 0] 51)
    have c0 := (HO.out.at 1 rfl).cell 0 rfl
    go_enter Tryz.func90, Tryz.ntmps90
    go_wp2_with (first | (go_at_call 122; refine (A1 _).mono ?_; rintro e w' ⟨rfl, rfl⟩) | ((with_reducible show wpList _ _ _ ({ dst := _, op := Op.store 51 _ _, type := _, pos := _, after := _, guard := _ } :: _) _ _); refine wpList_sto ty_color HO.out 0 [.int .i64 0, .int .i64 0, .int .i64 0, .int .i64 0] rfl _ _ rfl _ rfl rfl _ rfl rfl rfl rfl ?_; intro w2 l2; clear HO; have HO := Lib.hid l2; clear l2))
    exact bodyPost_ret (results_c2 ty_color rfl rfl rfl rfl (HO.out.at 0 rfl)) rfl ⟨rfl, HO.out.k⟩
  cases hy : Tx.within 1048576 y
  · have A1 := fun U => wrap_yes k x W U hk (Tx.side_iff.1 hW) (Tx.within_iff.1 hx)
    have A2 := fun U => wrap_no k y H U (by rw [Tx.wrapE_out hk hH hy]; decide)
    rw [Tx.wrapE_out hk hH hy] at A2
    rw [Tx.readE_out hk (by rw [hx, hy]; rfl)]
    generalize Tx.wrap k x W = cc at *
    clear h hk hW hH hx hy
    have HO := Lib.hid (((Ow.refl w).newAt w.heap.size rfl (.int .i64 W) [.int .i64 H, v] 30).newAt (w.heap.size + 1) (by simp) (.int .i64 0) [.int .i64 0, .int .i64 0, .int .i64 0] 51)
    have c0 := (HO.out.at 1 rfl).cell 0 rfl
    have c1 := (HO.out.at 1 rfl).cell 1 rfl
    go_enter Tryz.func90, Tryz.ntmps90
    go_wp2_with (first | (go_at_call 122; (first | (with_reducible refine (A1 _).mono ?_) | (with_reducible refine (A2 _).mono ?_)); rintro e w' ⟨rfl, rfl⟩) | ((with_reducible show wpList _ _ _ ({ dst := _, op := Op.store 51 _ _, type := _, pos := _, after := _, guard := _ } :: _) _ _); refine wpList_sto ty_color HO.out 0 [.int .i64 0, .int .i64 0, .int .i64 0, .int .i64 0] rfl _ _ rfl _ rfl rfl _ rfl rfl rfl rfl ?_; intro w2 l2; clear HO; have HO := Lib.hid l2; clear l2))
    exact bodyPost_ret (results_c2 ty_color rfl rfl rfl rfl (HO.out.at 0 rfl)) rfl ⟨rfl, HO.out.k⟩
  · exact absurd (Tx.readE_ok hk hx hy) h
set_option maxHeartbeats 1000000 in
theorem read_yes (W H x y k : Int) (l : List Int) (v : Value) (w : World) (hS : Sl w v (iv l)) (hc : Tx.chk W H l = 0) (hk : Tx.is k = true) (hx : -1048576 ≤ x ∧ x ≤ 1048576) (hy : -1048576 ≤ y ∧ y ≤ 1048576) :
    Calls Tryz.prog 90 #[.agg #[.int .i64 W, .int .i64 H, v], .int .i64 x, .int .i64 y, .int .i64 k] w fun e w' => e = .returned (.tuple #[.agg #[.int .i64 (Tn.part (Tx.px W H l x y k) 0), .int .i64 (Tn.part (Tx.px W H l x y k) 1), .int .i64 (Tn.part (Tx.px W H l x y k) 2), .int .i64 (Tn.part (Tx.px W H l x y k) 3)], .int .i64 0]) ∧ Kp w.heap.size w w' := by
  obtain ⟨q1, q2, q3, q4⟩ := Tx.chk_ok.1 hc
  have A1 := fun U => wrap_yes k x W U hk q1 hx
  have A2 := fun U => wrap_yes k y H U hk q2 hy
  obtain ⟨a1, a2⟩ := Tx.area_bd q1 q2
  obtain ⟨b1, b2⟩ := Tx.wrap_bd (k := k) (n := x) q1.1
  obtain ⟨b3, b4⟩ := Tx.wrap_bd (k := k) (n := y) q2.1
  obtain ⟨j, hj, hjl, hpx, hg⟩ := Tx.px_at (x := x) (y := y) (k := k) hc
  have U1 := fun U => unpack_yes (Tx.px W H l x y k) U (by rw [← hpx]; exact hg)
  obtain ⟨a, c, rfl, hac, hu⟩ := hS.parts
  have hcell := hu _ (Kp.refl _ _ |>.alloc (Nat.le_refl _) #[.int .i64 W, .int .i64 H, .slice a (iv l).length c] 30 |>.alloc (by simp) #[.int .i64 0, .int .i64 0, .int .i64 0, .int .i64 0] 51) j _ (iv_get hjl)
  rw [iv_len] at hac hcell ⊢
  rw [hpx] at hcell
  obtain ⟨p, o, rfl, hcell⟩ := hcell
  unfold Tx.spot at hj
  have m1 : 0 ≤ Tx.wrap k y H * W := Int.mul_nonneg b3 (by omega)
  have m2 : Tx.wrap k y H * W ≤ 4096 := by omega
  have j1 : (j : Int) < (l.length : Int) := by omega
  have j2 : (l.length : Int) ≤ 4096 := by omega
  generalize Tx.px W H l x y k = px at *
  generalize Tx.wrap k x W = cc at *
  generalize Tx.wrap k y H = rr at *
  have hj' := hj.symm
  clear hj hS hc hk hx hy hu hpx hg q1 q2 q3 q4 a1 a2 b1 b2 b3 b4
  have HO := Lib.hid (((Ow.refl w).newAt w.heap.size rfl (.int .i64 W) [.int .i64 H, .slice (some ⟨p, o, none⟩) l.length c] 30).newAt (w.heap.size + 1) (by simp) (.int .i64 0) [.int .i64 0, .int .i64 0, .int .i64 0] 51)
  have c0 := (HO.out.at 1 rfl).cell 0 rfl
  have c1 := (HO.out.at 1 rfl).cell 1 rfl
  have c2 := (HO.out.at 1 rfl).cell 2 rfl
  go_enter Tryz.func90, Tryz.ntmps90
  go_wp2_with (first | (go_at_call 122; (first | (with_reducible refine (A1 _).mono ?_) | (with_reducible refine (A2 _).mono ?_)); rintro e w' ⟨rfl, rfl⟩) | (go_at_call 118; refine (U1 _).mono ?_; rintro e w1 ⟨rfl, hk1⟩; have l2 := HO.out.call hk1; clear HO hk1; have HO := Lib.hid l2; clear l2) | ((with_reducible show wpList _ _ _ ({ dst := _, op := Op.store 51 _ _, type := _, pos := _, after := _, guard := _ } :: _) _ _); refine wpList_sto ty_color HO.out 0 [.int .i64 (Tn.part px 0), .int .i64 (Tn.part px 1), .int .i64 (Tn.part px 2), .int .i64 (Tn.part px 3)] rfl _ _ rfl _ rfl rfl _ rfl rfl rfl rfl ?_; intro w2 l2; clear HO; have HO := Lib.hid l2; clear l2))
  exact bodyPost_ret (results_c2 ty_color rfl rfl rfl rfl (HO.out.at 0 rfl)) rfl ⟨rfl, HO.out.k⟩

/-- the error of At -/
def Tx.atE (W H : Int) (l : List Int) (k x y : Int) : Int := if Tx.chk W H l = 0 then Tx.readE k x y else Tx.chk W H l
end Go.Proofs.YtankjlpanmmogaaGreat
