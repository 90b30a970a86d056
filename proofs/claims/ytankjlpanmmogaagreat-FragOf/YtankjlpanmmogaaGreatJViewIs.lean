/-
  Viewports that may be (layer 16): what view.Check answers, what the document's own Is says.
-/
import Derived.Test.YtankjlpanmmogaaGreatJVecPlain
import Derived.BigGuard
import Derived.RowKit
import Derived.Laws.BitsLemmas
import Derived.Laws.Bits64
namespace Go.Proofs.YtankjlpanmmogaaGreat
set_option maxRecDepth 100000
open Go.RowKit

/-- may there be such a viewport? -/
def Vw.is (x0 y0 x1 y1 : Int) : Bool := decide ((-4096 ≤ x0 ∧ x0 ≤ 4096) ∧ (-4096 ≤ y0 ∧ y0 ≤ 4096) ∧ (x0 ≤ x1 ∧ x1 ≤ x0 + 4096) ∧ (y0 ≤ y1 ∧ y1 ≤ y0 + 4096))
theorem Vw.is_iff {x0 y0 x1 y1 : Int} : Vw.is x0 y0 x1 y1 = true ↔ (-4096 ≤ x0 ∧ x0 ≤ 4096) ∧ (-4096 ≤ y0 ∧ y0 ≤ 4096) ∧ (x0 ≤ x1 ∧ x1 ≤ x0 + 4096) ∧ (y0 ≤ y1 ∧ y1 ≤ y0 + 4096) := by simp [Vw.is]
/-- a number from lo to 4096 -/
def Vw.wi (lo n : Int) : Bool := decide (lo ≤ n ∧ n ≤ 4096)
theorem Vw.wi_iff {lo n : Int} : Vw.wi lo n = true ↔ lo ≤ n ∧ n ≤ 4096 := by simp [Vw.wi]
/-- what Check answers -/
def Vw.chk (x y z u : Int) : Int := if Vw.is x y z u then 0 else 12
theorem Vw.chk_yes {x y z u : Int} (h : Vw.is x y z u = true) : Vw.chk x y z u = 0 := by unfold Vw.chk; rw [h]; rfl
theorem Vw.chk_no {x y z u : Int} (h : Vw.is x y z u = false) : Vw.chk x y z u = 12 := by unfold Vw.chk; rw [h]; rfl
theorem Vw.chk_parts (x y z u : Int) : Vw.chk x y z u = if Vw.wi (-4096) x && Vw.wi (-4096) y && Vw.wi 0 (Fx.clamp (z - x)) && Vw.wi 0 (Fx.clamp (u - y)) then 0 else 12 := by
  unfold Vw.chk
  congr 1
  have h : Vw.is x y z u = (Vw.wi (-4096) x && Vw.wi (-4096) y && Vw.wi 0 (Fx.clamp (z - x)) && Vw.wi 0 (Fx.clamp (u - y))) := by
    rw [Bool.eq_iff_iff, Vw.is_iff]
    simp only [Bool.and_eq_true, Vw.wi_iff]
    unfold Fx.clamp
    (repeat' split) <;> omega
  rw [h]
theorem vwithin_any (lo n : Int) (w : World) (_hl : lo ≤ 4096) :
    Calls Tryz.prog 99 #[.int .i64 lo, .int .i64 n] w fun e w' => e = .returned (.bool (Vw.wi lo n)) ∧ w = w' := by
  have S1 := fun W => sat_any n lo 4096 W
  have HE : Hid ((n == Fx.sat n lo 4096) = Vw.wi lo n) := Lib.hid (by
    rw [Bool.eq_iff_iff, Vw.wi_iff, beq_iff_eq]
    unfold Fx.sat
    (repeat' split) <;> omega)
  generalize Fx.sat n lo 4096 = r at *
  go_enter Tryz.func99, Tryz.ntmps99
  go_wp2_with (go_at_call 49; refine (S1 _).mono ?_; rintro e w' ⟨rfl, rfl⟩)
  go_ret
  exact ⟨ret_bool HE.out, rfl⟩
set_option maxHeartbeats 1000000 in
theorem vcheck_any (x y z u : Int) (w : World) (hx : -9223372036854775808 ≤ x ∧ x ≤ 9223372036854775807) (hy : -9223372036854775808 ≤ y ∧ y ≤ 9223372036854775807) (hz : -9223372036854775808 ≤ z ∧ z ≤ 9223372036854775807) (hu : -9223372036854775808 ≤ u ∧ u ≤ 9223372036854775807) :
    Calls Tryz.prog 66 #[.agg #[.int .i64 x, .int .i64 y, .int .i64 z, .int .i64 u]] w fun e w' => e = .returned (.int .i64 (Vw.chk x y z u)) ∧ Kp w.heap.size w w' := by
  have S1 := fun W => sub_any z x W hz hx
  have S2 := fun W => sub_any u y W hu hy
  have W1 := fun W => vwithin_any (-4096) x W (by omega)
  have W2 := fun W => vwithin_any (-4096) y W (by omega)
  have W3 := fun W => vwithin_any 0 (Fx.clamp (z - x)) W (by omega)
  have W4 := fun W => vwithin_any 0 (Fx.clamp (u - y)) W (by omega)
  have HR : Hid (Vw.chk x y z u = if Vw.wi (-4096) x && Vw.wi (-4096) y && Vw.wi 0 (Fx.clamp (z - x)) && Vw.wi 0 (Fx.clamp (u - y)) then 0 else 12) := Lib.hid (Vw.chk_parts x y z u)
  generalize Vw.chk x y z u = r at *
  generalize Fx.clamp (z - x) = p at *
  generalize Fx.clamp (u - y) = q at *
  clear hx hy hz hu
  cases h1 : Vw.wi (-4096) x
  · rw [h1] at W1
    obtain rfl : r = 12 := by rw [HR.out, h1]; rfl
    clear HR
    go_enter Tryz.func66, Tryz.ntmps66
    go_wp2_with (first | go_big_skip | (go_at_call 99; (first | (with_reducible refine (W1 _).mono ?_) | (with_reducible refine (W2 _).mono ?_) | (with_reducible refine (W3 _).mono ?_) | (with_reducible refine (W4 _).mono ?_)); rintro e w' ⟨rfl, rfl⟩) | (go_at_call 100; (first | (with_reducible refine (S1 _).mono ?_) | (with_reducible refine (S2 _).mono ?_)); rintro e w' ⟨rfl, rfl⟩))
    go_ret
    exact ⟨rfl, Kp.new _ _ _⟩
  cases h2 : Vw.wi (-4096) y
  · rw [h1] at W1
    rw [h2] at W2
    obtain rfl : r = 12 := by rw [HR.out, h1, h2]; rfl
    clear HR
    go_enter Tryz.func66, Tryz.ntmps66
    go_wp2_with (first | go_big_skip | (go_at_call 99; (first | (with_reducible refine (W1 _).mono ?_) | (with_reducible refine (W2 _).mono ?_) | (with_reducible refine (W3 _).mono ?_) | (with_reducible refine (W4 _).mono ?_)); rintro e w' ⟨rfl, rfl⟩) | (go_at_call 100; (first | (with_reducible refine (S1 _).mono ?_) | (with_reducible refine (S2 _).mono ?_)); rintro e w' ⟨rfl, rfl⟩))
    go_ret
    exact ⟨rfl, Kp.new _ _ _⟩
  cases h3 : Vw.wi 0 p
  · rw [h1] at W1
    rw [h2] at W2
    rw [h3] at W3
    obtain rfl : r = 12 := by rw [HR.out, h1, h2, h3]; rfl
    clear HR
    go_enter Tryz.func66, Tryz.ntmps66
    go_wp2_with (first | go_big_skip | (go_at_call 99; (first | (with_reducible refine (W1 _).mono ?_) | (with_reducible refine (W2 _).mono ?_) | (with_reducible refine (W3 _).mono ?_) | (with_reducible refine (W4 _).mono ?_)); rintro e w' ⟨rfl, rfl⟩) | (go_at_call 100; (first | (with_reducible refine (S1 _).mono ?_) | (with_reducible refine (S2 _).mono ?_)); rintro e w' ⟨rfl, rfl⟩))
    go_ret
    exact ⟨rfl, Kp.new _ _ _⟩
  cases h4 : Vw.wi 0 q
  · rw [h1] at W1
    rw [h2] at W2
    rw [h3] at W3
    rw [h4] at W4
    obtain rfl : r = 12 := by rw [HR.out, h1, h2, h3, h4]; rfl
    clear HR
    go_enter Tryz.func66, Tryz.ntmps66
    go_wp2_with (first | go_big_skip | (go_at_call 99; (first | (with_reducible refine (W1 _).mono ?_) | (with_reducible refine (W2 _).mono ?_) | (with_reducible refine (W3 _).mono ?_) | (with_reducible refine (W4 _).mono ?_)); rintro e w' ⟨rfl, rfl⟩) | (go_at_call 100; (first | (with_reducible refine (S1 _).mono ?_) | (with_reducible refine (S2 _).mono ?_)); rintro e w' ⟨rfl, rfl⟩))
    go_ret
    exact ⟨rfl, Kp.new _ _ _⟩
  · rw [h1] at W1
    rw [h2] at W2
    rw [h3] at W3
    rw [h4] at W4
    obtain rfl : r = 0 := by rw [HR.out, h1, h2, h3, h4]; rfl
    clear HR
    go_enter Tryz.func66, Tryz.ntmps66
    go_wp2_with (first | go_big_skip | (go_at_call 99; (first | (with_reducible refine (W1 _).mono ?_) | (with_reducible refine (W2 _).mono ?_) | (with_reducible refine (W3 _).mono ?_) | (with_reducible refine (W4 _).mono ?_)); rintro e w' ⟨rfl, rfl⟩) | (go_at_call 100; (first | (with_reducible refine (S1 _).mono ?_) | (with_reducible refine (S2 _).mono ?_)); rintro e w' ⟨rfl, rfl⟩))
    go_ret
    exact ⟨rfl, Kp.new _ _ _⟩
end Go.Proofs.YtankjlpanmmogaaGreat

/-
  Plain facts of layer 8 (depth): tests of two numbers; no program in sight.
-/
namespace Go.Proofs.YtankjlpanmmogaaGreat
set_option maxRecDepth 100000
open Go.RowKit

/-- is there such a test? -/
def Dp.is (k : Int) : Bool := decide (0 ≤ k ∧ k < 8)
/-- what a is to b -/
def Dp.rel (a b : Int) : Int := if a < b then 1 else if b < a then 4 else 2
/-- does a test pass? -/
def Dp.pass (k a b : Int) : Bool :=
  if k = 1 then decide (a < b) else if k = 2 then a == b else if k = 3 then decide (a ≤ b) else if k = 4 then decide (b < a)
  else if k = 5 then a != b else if k = 6 then decide (b ≤ a) else if k = 7 then true else false
/-- the test the other way round -/
def Dp.swap (k : Int) : Int := k / 2 % 2 * 2 + k % 2 * 4 + k / 4 % 2
/-- what stands there -/
def Dp.put (k : Int) (p : Bool) (z old : Int) : Int := if Dp.pass k z old && p then z else old
def Dp.low (x y : Int) : Int := if x < y then x else y

theorem Dp.is_iff {k : Int} : Dp.is k = true ↔ 0 ≤ k ∧ k < 8 := by simp [Dp.is]
theorem Dp.is_no {k : Int} : Dp.is k = false ↔ k < 0 ∨ 8 ≤ k := by
  rw [← Bool.not_eq_true, Dp.is_iff]; omega
theorem Dp.all {k : Int} (h : Dp.is k = true) : k = 0 ∨ k = 1 ∨ k = 2 ∨ k = 3 ∨ k = 4 ∨ k = 5 ∨ k = 6 ∨ k = 7 := by
  have := Dp.is_iff.1 h; omega
theorem Dp.rel_all (a b : Int) : a < b ∧ Dp.rel a b = 1 ∨ a = b ∧ Dp.rel a b = 2 ∨ b < a ∧ Dp.rel a b = 4 := by
  unfold Dp.rel; split
  · exact .inl ⟨‹_›, rfl⟩
  · split
    · exact .inr (.inr ⟨‹_›, rfl⟩)
    · exact .inr (.inl ⟨by omega, rfl⟩)
theorem Dp.bits {k : Int} (a b : Int) (h : Dp.is k = true) : (bits .and .i64 k (Dp.rel a b) != 0) = Dp.pass k a b := by
  rcases Dp.rel_all a b with ⟨h1, e⟩ | ⟨h1, e⟩ | ⟨h1, e⟩ <;> rw [e] <;> rcases Dp.all h with rfl | rfl | rfl | rfl | rfl | rfl | rfl | rfl
  all_goals
    rw [Bool.eq_iff_iff]
    first
      | (refine iff_of_true (by decide) ?_; simp [Dp.pass]; done)
      | (refine iff_of_true (by decide) ?_; simp [Dp.pass]; omega)
      | (refine iff_of_false (by decide) ?_; simp [Dp.pass]; done)
      | (refine iff_of_false (by decide) ?_; simp [Dp.pass]; omega)
theorem Dp.not_is {k : Int} (h : Dp.is k = true) : Dp.is (7 - k) = true := by
  have := Dp.is_iff.1 h; exact Dp.is_iff.2 (by omega)
theorem Dp.swap_is (k : Int) : Dp.is (Dp.swap k) = true := by
  refine Dp.is_iff.2 ?_; unfold Dp.swap; omega
theorem Dp.pass_not {k : Int} (a b : Int) (h : Dp.is k = true) : Dp.pass (7 - k) a b = !Dp.pass k a b := by
  rcases Dp.all h with rfl | rfl | rfl | rfl | rfl | rfl | rfl | rfl
  all_goals
    simp only [Dp.pass, Int.reduceSub, Int.reduceEq, if_true, if_false, Bool.not_true, Bool.not_false]
    try (rw [Bool.eq_iff_iff]; simp; done)
    try (rw [Bool.eq_iff_iff]; simp; omega)
theorem Dp.pass_swap {k : Int} (a b : Int) (h : Dp.is k = true) : Dp.pass (Dp.swap k) b a = Dp.pass k a b := by
  rcases Dp.all h with rfl | rfl | rfl | rfl | rfl | rfl | rfl | rfl
  all_goals
    simp only [Dp.swap, Dp.pass, Int.reduceDiv, Int.reduceMod, Int.reduceMul, Int.reduceAdd, Int.reduceEq, if_true, if_false]
    try (rw [Bool.eq_iff_iff]; simp; done)
    try (rw [Bool.eq_iff_iff]; simp; omega)
theorem Dp.put_low (z old : Int) : Dp.put 1 true z old = Dp.low old z := by
  unfold Dp.put Dp.low Dp.pass; simp; split <;> split <;> omega
end Go.Proofs.YtankjlpanmmogaaGreat

/-
  Plain facts of layer 9 (sten): stencils, deeds, bits that are read and written; no program in sight.
-/
namespace Go.Proofs.YtankjlpanmmogaaGreat
set_option maxRecDepth 100000
open Go.RowKit

/-- may a number be a stencil? -/
def Sn.is (n : Int) : Bool := decide (0 ≤ n ∧ n ≤ 255)
/-- the bits that both have -/
def Sn.and (a b : Int) : Int := ((a.toNat &&& b.toNat : Nat) : Int)
/-- Check -/
def Sn.chk (fn ref rd wr f z p : Int) : Int :=
  if Dp.is fn && Dp.is f && Dp.is z && Dp.is p then (if Sn.is ref && Sn.is rd && Sn.is wr then 0 else 3) else 9
/-- what a deed makes -/
def Sn.made (k old ref : Int) : Int :=
  if k = 1 then 0 else if k = 2 then ref else if k = 3 then (if old = 255 then 255 else old + 1) else if k = 4 then (if old = 0 then 0 else old - 1)
  else if k = 5 then 255 - old else if k = 6 then (old + 1) % 256 else if k = 7 then (old + 255) % 256 else old
/-- which deed is done -/
def Sn.deed (f z p : Int) : Nat → Int
  | 0 => f | 1 => z | _ => p
/-- what stands there then -/
def Sn.put (k old ref wr : Int) : Int := Sn.and (Sn.made k old ref) wr + Sn.and old (255 - wr)

theorem Sn.is_iff {n : Int} : Sn.is n = true ↔ 0 ≤ n ∧ n ≤ 255 := by simp [Sn.is]
theorem Sn.is_no {n : Int} : Sn.is n = false ↔ n < 0 ∨ 255 < n := by
  rw [← Bool.not_eq_true, Sn.is_iff]; omega
theorem Sn.wraps_i64 (n : Int) (h₀ : 0 ≤ n) (h₁ : n < 2 ^ 63) : IntKind.i64.wrap n = n := by rw [IntKind.wrap_i64]; omega
theorem Sn.nat_and (a b : Nat) (ha : a < 256) (hb : b < 256) : bits .and .i64 (a : Int) (b : Int) = ((a &&& b : Nat) : Int) :=
  (bits_nat .i64 63 (by decide) Sn.wraps_i64 a b (by omega) (by omega)).1
theorem Sn.nat_or (a b : Nat) (ha : a < 256) (hb : b < 256) : bits .or .i64 (a : Int) (b : Int) = ((a ||| b : Nat) : Int) :=
  (bits_nat .i64 63 (by decide) Sn.wraps_i64 a b (by omega) (by omega)).2
theorem Sn.bit_not (b i : Nat) (hb : b < 256) : (255 - b).testBit i = (decide (i < 8) && !b.testBit i) := by
  have := Nat.testBit_two_pow_sub_succ (n := 8) (x := b) hb i
  rwa [show 2 ^ 8 - (b + 1) = 255 - b by omega] at this
theorem Sn.bit_high (a i : Nat) (ha : a < 256) (hi : ¬ i < 8) : a.testBit i = false :=
  Nat.testBit_lt_two_pow (Nat.lt_of_lt_of_le (show a < 2 ^ 8 from ha) (Nat.pow_le_pow_right (by decide) (by omega)))
theorem Sn.nat_andNot (a b : Nat) (ha : a < 256) (hb : b < 256) : bits .andNot .i64 (a : Int) (b : Int) = ((a &&& (255 - b) : Nat) : Int) := by
  have hx : a &&& (255 - b) < 2 ^ 8 := Nat.and_lt_two_pow _ (by omega)
  show IntKind.i64.wrap ((BitVec.ofInt 64 (a : Int) &&& ~~~BitVec.ofInt 64 (b : Int)).toNat : Int) = _
  have e1 : (BitVec.ofInt 64 (a : Int)).toNat = a := by rw [BitVec.ofInt_natCast, BitVec.toNat_ofNat, Nat.mod_eq_of_lt (by omega)]
  have e2 : (BitVec.ofInt 64 (b : Int)).toNat = b := by rw [BitVec.ofInt_natCast, BitVec.toNat_ofNat, Nat.mod_eq_of_lt (by omega)]
  have e3 : a &&& (2 ^ 64 - 1 - b) = a &&& (255 - b) := by
    refine Nat.eq_of_testBit_eq fun i => ?_
    have h1 := Nat.testBit_two_pow_sub_succ (n := 64) (x := b) (by omega) i
    rw [show 2 ^ 64 - (b + 1) = 2 ^ 64 - 1 - b by omega] at h1
    rw [Nat.testBit_and, Nat.testBit_and, h1, Sn.bit_not b i hb]
    by_cases hi : i < 8
    · simp [hi, show i < 64 by omega]
    · simp [Sn.bit_high a i ha hi]
  rw [BitVec.toNat_and, BitVec.toNat_not, e1, e2, e3]
  exact Sn.wraps_i64 _ (by omega) (by omega)
theorem Sn.nat_join (f o w : Nat) (hw : w < 256) : (f &&& w) ||| (o &&& (255 - w)) = (f &&& w) + (o &&& (255 - w)) := by
  have hf : f &&& w < 256 := Nat.lt_of_le_of_lt Nat.and_le_right hw
  have ho : o &&& (255 - w) < 256 := Nat.lt_of_le_of_lt Nat.and_le_right (by omega)
  have h0 : (f &&& w) &&& (o &&& (255 - w)) = 0 := by
    refine Nat.eq_of_testBit_eq fun i => ?_
    simp only [Nat.testBit_and, Sn.bit_not w i hw, Nat.zero_testBit]
    cases w.testBit i <;> simp
  have h1 := BitVec.add_eq_or_of_and_eq_zero (BitVec.ofNat 64 (f &&& w)) (BitVec.ofNat 64 (o &&& (255 - w))) (by
    apply BitVec.eq_of_toNat_eq
    rw [BitVec.toNat_and, BitVec.toNat_ofNat, BitVec.toNat_ofNat, Nat.mod_eq_of_lt (by omega), Nat.mod_eq_of_lt (by omega), h0]
    rfl)
  have h2 := congrArg BitVec.toNat h1
  rw [BitVec.toNat_add, BitVec.toNat_or, BitVec.toNat_ofNat, BitVec.toNat_ofNat, Nat.mod_eq_of_lt (a := f &&& w) (by omega), Nat.mod_eq_of_lt (a := o &&& (255 - w)) (by omega), Nat.mod_eq_of_lt (by omega)] at h2
  exact h2.symm
theorem Sn.nat_keep (f o w : Nat) (hw : w < 256) : ((f &&& w) + (o &&& (255 - w))) &&& (255 - w) = o &&& (255 - w) := by
  rw [← Sn.nat_join f o w hw]
  refine Nat.eq_of_testBit_eq fun i => ?_
  simp only [Nat.testBit_and, Nat.testBit_or, Sn.bit_not w i hw]
  cases w.testBit i <;> simp

section
variable {a b : Int} (ha : Sn.is a = true) (hb : Sn.is b = true)
include ha hb
theorem Sn.bits_and : bits .and .i64 a b = Sn.and a b := by
  have h1 := Sn.is_iff.1 ha; have h2 := Sn.is_iff.1 hb
  obtain ⟨A, rfl⟩ := Int.eq_ofNat_of_zero_le h1.1
  obtain ⟨B, rfl⟩ := Int.eq_ofNat_of_zero_le h2.1
  simpa [Sn.and] using Sn.nat_and A B (by omega) (by omega)
theorem Sn.bits_andNot : bits .andNot .i64 a b = Sn.and a (255 - b) := by
  have h1 := Sn.is_iff.1 ha; have h2 := Sn.is_iff.1 hb
  obtain ⟨A, rfl⟩ := Int.eq_ofNat_of_zero_le h1.1
  obtain ⟨B, rfl⟩ := Int.eq_ofNat_of_zero_le h2.1
  unfold Sn.and
  rw [show (255 - (B : Int)).toNat = 255 - B by omega, Int.toNat_natCast]
  exact Sn.nat_andNot A B (by omega) (by omega)
end
theorem Sn.not_is {b : Int} (hb : Sn.is b = true) : Sn.is (255 - b) = true := by
  have := Sn.is_iff.1 hb; exact Sn.is_iff.2 (by omega)
theorem Sn.and_is (a : Int) {b : Int} (hb : Sn.is b = true) : Sn.is (Sn.and a b) = true := by
  have h2 := Sn.is_iff.1 hb
  have h3 : a.toNat &&& b.toNat ≤ b.toNat := Nat.and_le_right
  exact Sn.is_iff.2 (by unfold Sn.and; omega)
theorem Sn.bits_or (f o : Int) {w : Int} (hw : Sn.is w = true) : bits .or .i64 (Sn.and f w) (Sn.and o (255 - w)) = Sn.and f w + Sn.and o (255 - w) := by
  have h2 := Sn.is_iff.1 hw
  obtain ⟨W, rfl⟩ := Int.eq_ofNat_of_zero_le h2.1
  unfold Sn.and
  rw [show (255 - (W : Int)).toNat = 255 - W by omega, Int.toNat_natCast]
  have h3 : f.toNat &&& W ≤ W := Nat.and_le_right
  have h4 : o.toNat &&& (255 - W) ≤ 255 - W := Nat.and_le_right
  rw [Sn.nat_or _ _ (by omega) (by omega), Sn.nat_join _ _ W (by omega)]
  simp
theorem Sn.sum_is (f o : Int) {w : Int} (hw : Sn.is w = true) : Sn.is (Sn.and f w + Sn.and o (255 - w)) = true := by
  have h2 := Sn.is_iff.1 hw
  have h3 : f.toNat &&& w.toNat ≤ w.toNat := Nat.and_le_right
  have h4 : o.toNat &&& (255 - w).toNat ≤ (255 - w).toNat := Nat.and_le_right
  exact Sn.is_iff.2 (by unfold Sn.and; omega)
theorem Sn.keep (f o : Int) {w : Int} (hw : Sn.is w = true) : Sn.and (Sn.and f w + Sn.and o (255 - w)) (255 - w) = Sn.and o (255 - w) := by
  have h2 := Sn.is_iff.1 hw
  obtain ⟨W, rfl⟩ := Int.eq_ofNat_of_zero_le h2.1
  unfold Sn.and
  rw [show (255 - (W : Int)).toNat = 255 - W by omega, Int.toNat_natCast, show ((f.toNat &&& W : Nat) : Int) + ((o.toNat &&& (255 - W) : Nat) : Int) = (((f.toNat &&& W) + (o.toNat &&& (255 - W)) : Nat) : Int) by simp, Int.toNat_natCast, Sn.nat_keep _ _ W (by omega)]
theorem Sn.bits_255 (x : Int) : bits .and .i64 x 255 = x % 256 := by
  have e : bits .and .i64 x 255 = IntKind.i64.wrap (((BitVec.ofInt 64 x &&& BitVec.ofInt 64 255).toNat : Nat) : Int) := rfl
  have h3 : ∀ n : Nat, n &&& 255 = n % 256 := fun n => Nat.and_two_pow_sub_one_eq_mod n 8
  rw [e, BitVec.toNat_and, show (BitVec.ofInt 64 255).toNat = 255 by decide, h3, BitVec.toNat_ofInt, IntKind.wrap_i64]
  omega
theorem Sn.made_is {old ref : Int} (k : Int) (ho : Sn.is old = true) (hr : Sn.is ref = true) : Sn.is (Sn.made k old ref) = true := by
  have h1 := Sn.is_iff.1 ho; have h2 := Sn.is_iff.1 hr
  refine Sn.is_iff.2 ?_
  unfold Sn.made
  (repeat' split) <;> omega
theorem Sn.round {old : Int} (ref : Int) (ho : Sn.is old = true) : Sn.made 7 (Sn.made 6 old ref) ref = old := by
  have h1 := Sn.is_iff.1 ho
  simp only [Sn.made, Int.reduceEq, if_true, if_false]
  omega
theorem Sn.twice (old ref : Int) : Sn.made 5 (Sn.made 5 old ref) ref = old := by
  simp only [Sn.made, Int.reduceEq, if_true, if_false]
  omega

/-- so much of the bits that both have -/
def Sn.low (a b : Int) (k : Nat) : Int := ((a.toNat &&& b.toNat) % 2 ^ k : Nat)
theorem Sn.low_all {a b : Int} (hb : Sn.is b = true) : Sn.low a b 8 = Sn.and a b := by
  have h2 := Sn.is_iff.1 hb
  have h3 : a.toNat &&& b.toNat ≤ b.toNat := Nat.and_le_right
  unfold Sn.low Sn.and
  rw [Nat.mod_eq_of_lt (by omega)]
theorem Sn.low_bd (a b : Int) (k : Nat) : 0 ≤ Sn.low a b k ∧ Sn.low a b k < 2 ^ k := by
  unfold Sn.low
  have := Nat.mod_lt (a.toNat &&& b.toNat) (Nat.two_pow_pos k)
  refine ⟨by omega, ?_⟩
  exact_mod_cast this
theorem Sn.bit (n : Nat) (k : Nat) : (((n : Int) / 2 ^ k % 2 == 1) : Bool) = n.testBit k := by
  rw [Nat.testBit_eq_decide_div_mod_eq, Bool.eq_iff_iff]
  have e : (n : Int) / 2 ^ k % 2 = ((n / 2 ^ k % 2 : Nat) : Int) := by simp
  rw [e]
  simp
  omega
theorem Sn.low_next {a b : Int} (ha : 0 ≤ a) (hb : 0 ≤ b) (k : Nat) : Sn.low a b (k + 1) = if (a / 2 ^ k % 2 == 1) && (b / 2 ^ k % 2 == 1) then Sn.low a b k + 2 ^ k else Sn.low a b k := by
  obtain ⟨A, rfl⟩ := Int.eq_ofNat_of_zero_le ha
  obtain ⟨B, rfl⟩ := Int.eq_ofNat_of_zero_le hb
  rw [Sn.bit, Sn.bit, ← Nat.testBit_and]
  unfold Sn.low
  rw [Int.toNat_natCast, Int.toNat_natCast, Nat.mod_pow_succ, Nat.testBit_eq_decide_div_mod_eq]
  rcases Nat.mod_two_eq_zero_or_one ((A &&& B) / 2 ^ k) with e | e <;> rw [e] <;> simp
end Go.Proofs.YtankjlpanmmogaaGreat

/-
  Plain facts of layer 6 (tint): channels, packed colours, products of channels; no program in sight.
-/
namespace Go.Proofs.YtankjlpanmmogaaGreat
set_option maxRecDepth 100000
open Go.RowKit

/-- may a number be a channel? -/
def Tn.is (x : Int) : Bool := decide (0 ≤ x ∧ x ≤ 255)
def Tn.right (r g b a : Int) : Bool := Tn.is r && Tn.is g && Tn.is b && Tn.is a
/-- a number, held from lo to hi -/
def Tn.sat (n lo hi : Int) : Int := if n < lo then lo else if hi < n then hi else n
/-- a number, held as a channel -/
def Tn.ch (x : Int) : Int := Tn.sat x 0 255
def Tn.pack (r g b a : Int) : Int := ((r * 256 + g) * 256 + b) * 256 + a
/-- a channel of a packed colour, from 0 to 3 -/
def Tn.part (n : Int) (i : Nat) : Int := n / 256 ^ (3 - i) % 256
/-- one channel times another one -/
def Tn.tm (x y : Int) : Int := (x * y + 127) / 255
/-- how light -/
def Tn.gray (r g b : Int) : Int := (77 * r + 150 * g + 29 * b + 128) / 256
def Tn.low (x y : Int) : Int := if x < y then x else y

theorem Tn.is_iff {x : Int} : Tn.is x = true ↔ 0 ≤ x ∧ x ≤ 255 := by simp [Tn.is]
theorem Tn.right_iff {r g b a : Int} : Tn.right r g b a = true ↔ (0 ≤ r ∧ r ≤ 255) ∧ (0 ≤ g ∧ g ≤ 255) ∧ (0 ≤ b ∧ b ≤ 255) ∧ (0 ≤ a ∧ a ≤ 255) := by
  simp only [Tn.right, Bool.and_eq_true, Tn.is_iff]
  constructor
  · rintro ⟨⟨⟨h1, h2⟩, h3⟩, h4⟩; exact ⟨h1, h2, h3, h4⟩
  · rintro ⟨h1, h2, h3, h4⟩; exact ⟨⟨⟨h1, h2⟩, h3⟩, h4⟩
theorem Tn.ch_bd (x : Int) : 0 ≤ Tn.ch x ∧ Tn.ch x ≤ 255 := by unfold Tn.ch Tn.sat; split <;> (try split) <;> omega
theorem Tn.ch_is (x : Int) : (x == Tn.ch x) = Tn.is x := by
  rw [Bool.eq_iff_iff, beq_iff_eq, Tn.is_iff]
  unfold Tn.ch Tn.sat
  split <;> (try split) <;> omega
theorem Tn.ch_right (x y z u : Int) : Tn.right (Tn.ch x) (Tn.ch y) (Tn.ch z) (Tn.ch u) = true := Tn.right_iff.2 ⟨Tn.ch_bd _, Tn.ch_bd _, Tn.ch_bd _, Tn.ch_bd _⟩
theorem Tn.part0 (n : Int) : Tn.part n 0 = n / 16777216 % 256 := rfl
theorem Tn.part1 (n : Int) : Tn.part n 1 = n / 65536 % 256 := rfl
theorem Tn.part2 (n : Int) : Tn.part n 2 = n / 256 % 256 := rfl
theorem Tn.part3 (n : Int) : Tn.part n 3 = n % 256 := by show n / 1 % 256 = _; rw [Int.ediv_one]
theorem Tn.pack_bd {r g b a : Int} (h : Tn.right r g b a = true) : 0 ≤ Tn.pack r g b a ∧ Tn.pack r g b a ≤ 4294967295 := by
  have := Tn.right_iff.1 h; unfold Tn.pack; omega
theorem Tn.pack_back {r g b a : Int} (h : Tn.right r g b a = true) : Tn.part (Tn.pack r g b a) 0 = r ∧ Tn.part (Tn.pack r g b a) 1 = g ∧ Tn.part (Tn.pack r g b a) 2 = b ∧ Tn.part (Tn.pack r g b a) 3 = a := by
  have := Tn.right_iff.1 h
  rw [Tn.part0, Tn.part1, Tn.part2, Tn.part3]
  unfold Tn.pack; omega
theorem Tn.mul_bd {x y : Int} (hx : 0 ≤ x ∧ x ≤ 255) (hy : 0 ≤ y ∧ y ≤ 255) : 0 ≤ x * y ∧ x * y ≤ 255 * x ∧ x * y ≤ 255 * y := by
  refine ⟨Int.mul_nonneg hx.1 hy.1, ?_, Int.mul_le_mul_of_nonneg_right hx.2 hy.1⟩
  have := Int.mul_le_mul_of_nonneg_left hy.2 hx.1
  rwa [Int.mul_comm x 255] at this
theorem Tn.tm_bd {x y : Int} (hx : 0 ≤ x ∧ x ≤ 255) (hy : 0 ≤ y ∧ y ≤ 255) : 0 ≤ Tn.tm x y ∧ Tn.tm x y ≤ x ∧ Tn.tm x y ≤ y := by
  have := Tn.mul_bd hx hy
  unfold Tn.tm; omega
theorem Tn.tm_low {x y : Int} (hx : 0 ≤ x ∧ x ≤ 255) (hy : 0 ≤ y ∧ y ≤ 255) : Tn.tm x y ≤ Tn.low x y := by
  have := Tn.tm_bd hx hy
  unfold Tn.low; split <;> omega
theorem Tn.tm_white (x : Int) : Tn.tm x 255 = x := by unfold Tn.tm; omega
theorem Tn.tm_black (x : Int) : Tn.tm x 0 = 0 := by unfold Tn.tm; omega
theorem Tn.gray_bd {r g b a : Int} (h : Tn.right r g b a = true) : 0 ≤ Tn.gray r g b ∧ Tn.gray r g b ≤ 255 := by
  have := Tn.right_iff.1 h; unfold Tn.gray; omega

theorem bits_255 (x : Int) : bits .and .i64 x 255 = x % 256 := by
  have e : bits .and .i64 x 255 = IntKind.i64.wrap (((BitVec.ofInt 64 x &&& BitVec.ofInt 64 255).toNat : Nat) : Int) := rfl
  have h3 : ∀ n : Nat, n &&& 255 = n % 256 := fun n => Nat.and_two_pow_sub_one_eq_mod n 8
  rw [e, BitVec.toNat_and, show (BitVec.ofInt 64 255).toNat = 255 by decide, h3, BitVec.toNat_ofInt, IntKind.wrap_i64]
  omega
theorem wraps_i64 (n : Int) (h₀ : 0 ≤ n) (h₁ : n < 2 ^ 63) : IntKind.i64.wrap n = n := by rw [IntKind.wrap_i64]; omega
theorem bits_or8 {x y : Int} (hx₀ : 0 ≤ x) (hx₁ : x < 36028797018963968) (h₀ : 0 ≤ y) (h₁ : y ≤ 255) : bits .or .i64 (x * 256) y = x * 256 + y :=
  bits_join .i64 63 (by decide) wraps_i64 8 (x * 256) y (by omega) (by show x * 256 % 256 = 0; omega) (by show x * 256 < 9223372036854775808; omega) h₀ (by show y < 256; omega) (by show y < 9223372036854775808; omega)
end Go.Proofs.YtankjlpanmmogaaGreat

/-
  Plain facts of layer 7 (blend): factors, equations, masks; no program in sight.
-/
namespace Go.Proofs.YtankjlpanmmogaaGreat
set_option maxRecDepth 100000
open Go.RowKit

/-- what a factor says of one channel: the new and the old channel, and both A -/
def Bn.fac (k x y xa ya : Int) : Int :=
  if k = 1 then 255 else if k = 2 then x else if k = 3 then 255 - x else if k = 4 then y else if k = 5 then 255 - y
  else if k = 6 then xa else if k = 7 then 255 - xa else if k = 8 then ya else if k = 9 then 255 - ya else 0
/-- is a number one of so many? -/
def Bn.am (c n : Int) : Bool := decide (0 ≤ n ∧ n < c)
/-- may a blend be? -/
def Bn.chk (s d e m : Int) : Int := if Bn.am 10 s && Bn.am 10 d && Bn.am 5 e then (if Bn.am 16 m then 0 else 3) else 9
def Bn.high (x y : Int) : Int := if y < x then x else y
/-- both channels times their factors, weighed -/
def Bn.sum (p q x y f g : Int) : Int := p * x * f + q * y * g
/-- .. and 127, together, by 255, cut downwards, held -/
def Bn.near (n : Int) : Int := Tn.ch ((n + 127) / 255)
/-- one channel's equation -/
def Bn.eqn (e x y f g : Int) : Int :=
  if e = 3 then Tn.low x y else if e = 4 then Bn.high x y
  else Bn.near (if e = 1 then x * f - y * g else if e = 2 then y * g - x * f else x * f + y * g)
/-- what a mask writes -/
def Bn.wr (m d x y : Int) : Int := if m / d % 2 = 1 then x else y
/-- one channel of what is mixed -/
def Bn.mx (s d e x y xa ya : Int) : Int := Bn.eqn e x y (Bn.fac s x y xa ya) (Bn.fac d x y xa ya)

theorem Bn.am_iff {c n : Int} : Bn.am c n = true ↔ 0 ≤ n ∧ n < c := by simp [Bn.am]
theorem Bn.am_no {c n : Int} : Bn.am c n = false ↔ n < 0 ∨ c ≤ n := by
  rw [← Bool.not_eq_true, Bn.am_iff]; omega
theorem Bn.fac_bd {k x y xa ya : Int} (hx : 0 ≤ x ∧ x ≤ 255) (hy : 0 ≤ y ∧ y ≤ 255) (hxa : 0 ≤ xa ∧ xa ≤ 255) (hya : 0 ≤ ya ∧ ya ≤ 255) : 0 ≤ Bn.fac k x y xa ya ∧ Bn.fac k x y xa ya ≤ 255 := by
  unfold Bn.fac; (repeat' split) <;> omega
theorem Bn.prod_bd {x f : Int} (hx : 0 ≤ x ∧ x ≤ 255) (hf : 0 ≤ f ∧ f ≤ 255) : 0 ≤ x * f ∧ x * f ≤ 65025 := by
  have := Tn.mul_bd hx hf; omega
theorem Bn.eqn_bd {e x y f g : Int} (hx : 0 ≤ x ∧ x ≤ 255) (hy : 0 ≤ y ∧ y ≤ 255) : 0 ≤ Bn.eqn e x y f g ∧ Bn.eqn e x y f g ≤ 255 := by
  unfold Bn.eqn Bn.near
  split
  · unfold Tn.low; split <;> omega
  · split
    · unfold Bn.high; split <;> omega
    · exact Tn.ch_bd _
theorem Bn.wr_bd {m d x y : Int} (hx : 0 ≤ x ∧ x ≤ 255) (hy : 0 ≤ y ∧ y ≤ 255) : 0 ≤ Bn.wr m d x y ∧ Bn.wr m d x y ≤ 255 := by
  unfold Bn.wr; split <;> omega
theorem Bn.wr_zero (d x y : Int) : Bn.wr 0 d x y = y := by unfold Bn.wr; simp
theorem Bn.fac_all (k x y xa ya : Int) (h : Bn.am 10 k = true) :
    k = 0 ∧ Bn.fac k x y xa ya = 0 ∨ k = 1 ∧ Bn.fac k x y xa ya = 255 ∨ k = 2 ∧ Bn.fac k x y xa ya = x ∨ k = 3 ∧ Bn.fac k x y xa ya = 255 - x ∨ k = 4 ∧ Bn.fac k x y xa ya = y ∨ k = 5 ∧ Bn.fac k x y xa ya = 255 - y
      ∨ k = 6 ∧ Bn.fac k x y xa ya = xa ∨ k = 7 ∧ Bn.fac k x y xa ya = 255 - xa ∨ k = 8 ∧ Bn.fac k x y xa ya = ya ∨ k = 9 ∧ Bn.fac k x y xa ya = 255 - ya := by
  have := Bn.am_iff.1 h
  obtain rfl | rfl | rfl | rfl | rfl | rfl | rfl | rfl | rfl | rfl : k = 0 ∨ k = 1 ∨ k = 2 ∨ k = 3 ∨ k = 4 ∨ k = 5 ∨ k = 6 ∨ k = 7 ∨ k = 8 ∨ k = 9 := by omega
  all_goals simp [Bn.fac]
/-- which bits a mask has -/
theorem Bn.bits (m : Int) (h : Bn.am 16 m = true) :
    (bits .and .i64 m 1 != 0) = decide (m / 1 % 2 = 1) ∧ (bits .and .i64 m 2 != 0) = decide (m / 2 % 2 = 1) ∧ (bits .and .i64 m 4 != 0) = decide (m / 4 % 2 = 1) ∧ (bits .and .i64 m 8 != 0) = decide (m / 8 % 2 = 1) := by
  have := Bn.am_iff.1 h
  obtain rfl | rfl | rfl | rfl | rfl | rfl | rfl | rfl | rfl | rfl | rfl | rfl | rfl | rfl | rfl | rfl : m = 0 ∨ m = 1 ∨ m = 2 ∨ m = 3 ∨ m = 4 ∨ m = 5 ∨ m = 6 ∨ m = 7 ∨ m = 8 ∨ m = 9 ∨ m = 10 ∨ m = 11 ∨ m = 12 ∨ m = 13 ∨ m = 14 ∨ m = 15 := by omega
  all_goals decide
/-- the weights of the first three equations -/
theorem Bn.sum_eqn (e x y f g : Int) (h : e ≠ 3) (h' : e ≠ 4) : Bn.near (Bn.sum (if e = 2 then -1 else 1) (if e = 1 then -1 else 1) x y f g) = Bn.eqn e x y f g := by
  unfold Bn.eqn Bn.sum
  rw [if_neg h, if_neg h']
  by_cases h1 : e = 1
  · subst h1; simp [Int.neg_mul, Int.sub_eq_add_neg]
  · by_cases h2 : e = 2
    · subst h2; simp only [show ¬ (2 : Int) = 1 by omega, if_false, if_true]
      congr 1; simp only [Int.neg_mul, Int.one_mul]; omega
    · simp only [h1, h2, if_false, Int.one_mul]
/-- by the plain blend what is new stands -/
theorem Bn.near_whole {x : Int} (h : 0 ≤ x ∧ x ≤ 255) : Bn.near (x * 255) = x := by
  unfold Bn.near Tn.ch Tn.sat
  rw [if_neg (by omega), if_neg (by omega)]; omega
theorem Bn.mx_plain {x y xa ya : Int} (h : 0 ≤ x ∧ x ≤ 255) : Bn.mx 1 0 0 x y xa ya = x := by
  unfold Bn.mx Bn.eqn Bn.fac; simp; exact Bn.near_whole h
/-- .. a colour that is all there stands; one that is not there leaves what was -/
theorem Bn.mx_full {x y ya : Int} (h : 0 ≤ x ∧ x ≤ 255) : Bn.mx 6 7 0 x y 255 ya = x := by
  unfold Bn.mx Bn.eqn Bn.fac; simp; exact Bn.near_whole h
theorem Bn.mx_none {x y ya : Int} (h : 0 ≤ y ∧ y ≤ 255) : Bn.mx 6 7 0 x y 0 ya = y := by
  unfold Bn.mx Bn.eqn Bn.fac; simp; exact Bn.near_whole h
end Go.Proofs.YtankjlpanmmogaaGreat

/-
  Plain facts of layer 10 (rect): rectangles by their four numbers; no program in sight.
-/
namespace Go.Proofs.YtankjlpanmmogaaGreat
set_option maxRecDepth 100000
open Go.RowKit

/-- the greater, the lesser of two -/
def Rt.mx (a b : Int) : Int := if a < b then b else a
def Rt.mn (a b : Int) : Int := if b < a then b else a
/-- is it empty? -/
def Rt.emp (x0 y0 x1 y1 : Int) : Bool := decide (x1 ≤ x0) || decide (y1 ≤ y0)
/-- does it have a pixel? -/
def Rt.has (x0 y0 x1 y1 x y : Int) : Bool := decide (x0 ≤ x) && decide (x < x1) && decide (y0 ≤ y) && decide (y < y1)
/-- are all from one number to another one? -/
def Rt.wi (lo hi : Int) (l : List Int) : Bool := l.all fun n => decide (lo ≤ n) && decide (n ≤ hi)
/-- is it small? -/
def Rt.small (x0 y0 x1 y1 : Int) : Bool := Rt.wi (-1048576) 1048576 [x0, y0, x1, y1]
/-- may it be viewed? -/
def Rt.view (x y w h : Int) : Bool := Rt.wi (-4096) 4096 [x, y] && Rt.wi 0 4096 [w, h]
/-- how many pixels it has -/
def Rt.area (x0 y0 x1 y1 : Int) : Int := if Rt.emp x0 y0 x1 y1 then 0 else (x1 - x0) * (y1 - y0)
/-- what two have -/
def Rt.And (a0 a1 a2 a3 b0 b1 b2 b3 c0 c1 c2 c3 : Int) : Prop :=
  (Rt.emp (Rt.mx a0 b0) (Rt.mx a1 b1) (Rt.mn a2 b2) (Rt.mn a3 b3) = true ∧ c0 = 0 ∧ c1 = 0 ∧ c2 = 0 ∧ c3 = 0) ∨
  (Rt.emp (Rt.mx a0 b0) (Rt.mx a1 b1) (Rt.mn a2 b2) (Rt.mn a3 b3) = false ∧ c0 = Rt.mx a0 b0 ∧ c1 = Rt.mx a1 b1 ∧ c2 = Rt.mn a2 b2 ∧ c3 = Rt.mn a3 b3)
/-- what is around two -/
def Rt.Around (a0 a1 a2 a3 b0 b1 b2 b3 c0 c1 c2 c3 : Int) : Prop :=
  (Rt.emp a0 a1 a2 a3 = true ∧ Rt.emp b0 b1 b2 b3 = true ∧ c0 = 0 ∧ c1 = 0 ∧ c2 = 0 ∧ c3 = 0) ∨
  (Rt.emp a0 a1 a2 a3 = true ∧ Rt.emp b0 b1 b2 b3 = false ∧ c0 = b0 ∧ c1 = b1 ∧ c2 = b2 ∧ c3 = b3) ∨
  (Rt.emp a0 a1 a2 a3 = false ∧ Rt.emp b0 b1 b2 b3 = true ∧ c0 = a0 ∧ c1 = a1 ∧ c2 = a2 ∧ c3 = a3) ∨
  (Rt.emp a0 a1 a2 a3 = false ∧ Rt.emp b0 b1 b2 b3 = false ∧ c0 = Rt.mn a0 b0 ∧ c1 = Rt.mn a1 b1 ∧ c2 = Rt.mx a2 b2 ∧ c3 = Rt.mx a3 b3)

theorem Rt.mx_comm (a b : Int) : Rt.mx a b = Rt.mx b a := by unfold Rt.mx; split <;> split <;> omega
theorem Rt.mn_comm (a b : Int) : Rt.mn a b = Rt.mn b a := by unfold Rt.mn; split <;> split <;> omega
theorem Rt.mx_is (a b : Int) : (a ≤ b ∧ Rt.mx a b = b) ∨ (b ≤ a ∧ Rt.mx a b = a) := by unfold Rt.mx; split <;> omega
theorem Rt.mn_is (a b : Int) : (b ≤ a ∧ Rt.mn a b = b) ∨ (a ≤ b ∧ Rt.mn a b = a) := by unfold Rt.mn; split <;> omega
theorem Rt.emp_iff {x0 y0 x1 y1 : Int} : Rt.emp x0 y0 x1 y1 = true ↔ x1 ≤ x0 ∨ y1 ≤ y0 := by simp [Rt.emp]
theorem Rt.emp_no {x0 y0 x1 y1 : Int} : Rt.emp x0 y0 x1 y1 = false ↔ x0 < x1 ∧ y0 < y1 := by simp [Rt.emp]
theorem Rt.has_iff {x0 y0 x1 y1 x y : Int} : Rt.has x0 y0 x1 y1 x y = true ↔ (x0 ≤ x ∧ x < x1) ∧ (y0 ≤ y ∧ y < y1) := by simp [Rt.has, and_assoc]
theorem Rt.and_some (a0 a1 a2 a3 b0 b1 b2 b3 : Int) : ∃ c0 c1 c2 c3, Rt.And a0 a1 a2 a3 b0 b1 b2 b3 c0 c1 c2 c3 := by
  cases h : Rt.emp (Rt.mx a0 b0) (Rt.mx a1 b1) (Rt.mn a2 b2) (Rt.mn a3 b3)
  · exact ⟨_, _, _, _, .inr ⟨h, rfl, rfl, rfl, rfl⟩⟩
  · exact ⟨_, _, _, _, .inl ⟨h, rfl, rfl, rfl, rfl⟩⟩
theorem Rt.And.symm {a0 a1 a2 a3 b0 b1 b2 b3 c0 c1 c2 c3 : Int} (h : Rt.And a0 a1 a2 a3 b0 b1 b2 b3 c0 c1 c2 c3) : Rt.And b0 b1 b2 b3 a0 a1 a2 a3 c0 c1 c2 c3 := by
  unfold Rt.And at *
  rw [Rt.mx_comm a0, Rt.mx_comm a1, Rt.mn_comm a2, Rt.mn_comm a3] at h
  exact h
theorem Rt.around_some (a0 a1 a2 a3 b0 b1 b2 b3 : Int) : ∃ c0 c1 c2 c3, Rt.Around a0 a1 a2 a3 b0 b1 b2 b3 c0 c1 c2 c3 := by
  cases h : Rt.emp a0 a1 a2 a3 <;> cases h' : Rt.emp b0 b1 b2 b3
  · exact ⟨_, _, _, _, .inr (.inr (.inr ⟨h, h', rfl, rfl, rfl, rfl⟩))⟩
  · exact ⟨_, _, _, _, .inr (.inr (.inl ⟨h, h', rfl, rfl, rfl, rfl⟩))⟩
  · exact ⟨_, _, _, _, .inr (.inl ⟨h, h', rfl, rfl, rfl, rfl⟩)⟩
  · exact ⟨_, _, _, _, .inl ⟨h, h', rfl, rfl, rfl, rfl⟩⟩
theorem Rt.Around.symm {a0 a1 a2 a3 b0 b1 b2 b3 c0 c1 c2 c3 : Int} (h : Rt.Around a0 a1 a2 a3 b0 b1 b2 b3 c0 c1 c2 c3) : Rt.Around b0 b1 b2 b3 a0 a1 a2 a3 c0 c1 c2 c3 := by
  unfold Rt.Around at *
  rw [Rt.mn_comm a0, Rt.mn_comm a1, Rt.mx_comm a2, Rt.mx_comm a3] at h
  rcases h with ⟨h, h', k⟩ | ⟨h, h', k⟩ | ⟨h, h', k⟩ | ⟨h, h', k⟩
  · exact .inl ⟨h', h, k⟩
  · exact .inr (.inr (.inl ⟨h', h, k⟩))
  · exact .inr (.inl ⟨h', h, k⟩)
  · exact .inr (.inr (.inr ⟨h', h, k⟩))
/-- it has what both have -/
theorem Rt.And.has {a0 a1 a2 a3 b0 b1 b2 b3 c0 c1 c2 c3 : Int} (h : Rt.And a0 a1 a2 a3 b0 b1 b2 b3 c0 c1 c2 c3) (x y : Int) :
    Rt.has c0 c1 c2 c3 x y = (Rt.has a0 a1 a2 a3 x y && Rt.has b0 b1 b2 b3 x y) := by
  rw [Bool.eq_iff_iff, Bool.and_eq_true, Rt.has_iff, Rt.has_iff, Rt.has_iff]
  have m0 := Rt.mx_is a0 b0; have m1 := Rt.mx_is a1 b1; have m2 := Rt.mn_is a2 b2; have m3 := Rt.mn_is a3 b3
  rcases h with ⟨h, rfl, rfl, rfl, rfl⟩ | ⟨h, rfl, rfl, rfl, rfl⟩
  · rw [Rt.emp_iff] at h; omega
  · omega
/-- it has all of both -/
theorem Rt.Around.has {a0 a1 a2 a3 b0 b1 b2 b3 c0 c1 c2 c3 : Int} (h : Rt.Around a0 a1 a2 a3 b0 b1 b2 b3 c0 c1 c2 c3) (x y : Int) (k : Rt.has a0 a1 a2 a3 x y = true ∨ Rt.has b0 b1 b2 b3 x y = true) :
    Rt.has c0 c1 c2 c3 x y = true := by
  rw [Rt.has_iff, Rt.has_iff] at k
  rw [Rt.has_iff]
  have m0 := Rt.mn_is a0 b0; have m1 := Rt.mn_is a1 b1; have m2 := Rt.mx_is a2 b2; have m3 := Rt.mx_is a3 b3
  rcases h with ⟨h, h', rfl, rfl, rfl, rfl⟩ | ⟨h, h', rfl, rfl, rfl, rfl⟩ | ⟨h, h', rfl, rfl, rfl, rfl⟩ | ⟨h, h', rfl, rfl, rfl, rfl⟩
  · rw [Rt.emp_iff] at h h'; omega
  · rw [Rt.emp_iff] at h; omega
  · rw [Rt.emp_iff] at h'; omega
  · omega
theorem Rt.Around.zero {a0 a1 a2 a3 b0 b1 b2 b3 c0 c1 c2 c3 : Int} (h : Rt.Around a0 a1 a2 a3 b0 b1 b2 b3 c0 c1 c2 c3) (h1 : Rt.emp a0 a1 a2 a3 = true) (h2 : Rt.emp b0 b1 b2 b3 = true) : c0 = 0 ∧ c1 = 0 ∧ c2 = 0 ∧ c3 = 0 := by
  rcases h with ⟨_, _, k⟩ | ⟨_, h', _⟩ | ⟨h, _, _⟩ | ⟨h, _, _⟩
  · exact k
  · rw [h'] at h2; cases h2
  · rw [h] at h1; cases h1
  · rw [h] at h1; cases h1
theorem Rt.Around.second {a0 a1 a2 a3 b0 b1 b2 b3 c0 c1 c2 c3 : Int} (h : Rt.Around a0 a1 a2 a3 b0 b1 b2 b3 c0 c1 c2 c3) (h1 : Rt.emp a0 a1 a2 a3 = true) (h2 : Rt.emp b0 b1 b2 b3 = false) : c0 = b0 ∧ c1 = b1 ∧ c2 = b2 ∧ c3 = b3 := by
  rcases h with ⟨_, h', _⟩ | ⟨_, _, k⟩ | ⟨h, _, _⟩ | ⟨h, _, _⟩
  · rw [h'] at h2; cases h2
  · exact k
  · rw [h] at h1; cases h1
  · rw [h] at h1; cases h1
/-- the first lies within what is around both -/
theorem Rt.Around.within {a0 a1 a2 a3 b0 b1 b2 b3 c0 c1 c2 c3 : Int} (h : Rt.Around a0 a1 a2 a3 b0 b1 b2 b3 c0 c1 c2 c3) (h1 : Rt.emp a0 a1 a2 a3 = false) : Rt.And a0 a1 a2 a3 c0 c1 c2 c3 a0 a1 a2 a3 := by
  have m0 := Rt.mn_is a0 b0; have m1 := Rt.mn_is a1 b1; have m2 := Rt.mx_is a2 b2; have m3 := Rt.mx_is a3 b3
  have h9 := Rt.emp_no.1 h1
  have key : c0 ≤ a0 ∧ c1 ≤ a1 ∧ a2 ≤ c2 ∧ a3 ≤ c3 := by
    rcases h with ⟨h, _⟩ | ⟨h, _⟩ | ⟨_, _, rfl, rfl, rfl, rfl⟩ | ⟨_, _, rfl, rfl, rfl, rfl⟩
    · rw [h] at h1; cases h1
    · rw [h] at h1; cases h1
    · omega
    · omega
  have n0 := Rt.mx_is a0 c0; have n1 := Rt.mx_is a1 c1; have n2 := Rt.mn_is a2 c2; have n3 := Rt.mn_is a3 c3
  exact .inr ⟨Rt.emp_no.2 (by omega), by omega, by omega, by omega, by omega⟩
theorem Rt.small_iff {x0 y0 x1 y1 : Int} : Rt.small x0 y0 x1 y1 = true ↔ (-1048576 ≤ x0 ∧ x0 ≤ 1048576) ∧ (-1048576 ≤ y0 ∧ y0 ≤ 1048576) ∧ (-1048576 ≤ x1 ∧ x1 ≤ 1048576) ∧ (-1048576 ≤ y1 ∧ y1 ≤ 1048576) := by
  simp [Rt.small, Rt.wi, and_assoc]
theorem Rt.view_iff {x y w h : Int} : Rt.view x y w h = true ↔ (-4096 ≤ x ∧ x ≤ 4096) ∧ (-4096 ≤ y ∧ y ≤ 4096) ∧ (0 ≤ w ∧ w ≤ 4096) ∧ (0 ≤ h ∧ h ≤ 4096) := by
  simp [Rt.view, Rt.wi, and_assoc]
/-- sides, and their product -/
theorem Rt.sides {x0 y0 x1 y1 : Int} (h : Rt.small x0 y0 x1 y1 = true) (h' : Rt.emp x0 y0 x1 y1 = false) : (1 ≤ x1 - x0 ∧ x1 - x0 ≤ 2097152) ∧ (1 ≤ y1 - y0 ∧ y1 - y0 ≤ 2097152) ∧ 1 ≤ (x1 - x0) * (y1 - y0) ∧ (x1 - x0) * (y1 - y0) ≤ 4398046511104 := by
  have h1 := Rt.small_iff.1 h
  have h2 := Rt.emp_no.1 h'
  have k1 : 1 ≤ x1 - x0 ∧ x1 - x0 ≤ 2097152 := by omega
  have k2 : 1 ≤ y1 - y0 ∧ y1 - y0 ≤ 2097152 := by omega
  have k3 : 1 * 1 ≤ (x1 - x0) * (y1 - y0) := Int.mul_le_mul k1.1 k2.1 (by omega) (by omega)
  have k4 : (x1 - x0) * (y1 - y0) ≤ 2097152 * 2097152 := Int.mul_le_mul k1.2 k2.2 (by omega) (by omega)
  exact ⟨k1, k2, by omega, by omega⟩
end Go.Proofs.YtankjlpanmmogaaGreat

/-
  Contracts of layer 10 (rect), the small functions; the document's own.
-/
namespace Go.Proofs.YtankjlpanmmogaaGreat
set_option maxRecDepth 100000
open Go.RowKit

theorem ty_rect : Ty 36 4 := ⟨by kernel_rfl, _, Tryz.underlying36, rfl⟩
theorem run_eqR (r g b a r' g' b' a' : Int) (w : World) : (Op.equalIn 10000 36 (.agg #[.int .i64 r, .int .i64 g, .int .i64 b, .int .i64 a]) (.agg #[.int .i64 (r'), .int .i64 (g'), .int .i64 (b'), .int .i64 (a')])).run Tryz.prog w = .ok (r == r' && g == g' && b == b' && a == a') w := by
  rw [run_equalIn_struct w 9999 36 _ _ (by kernel_rfl) (by kernel_rfl)]
  simp only [Program.fieldsOf, Tryz.underlying36]
  rw [show (r == r' && g == g' && b == b' && a == a') = (r == r' && (g == g' && (b == b' && (a == a' && true)))) by simp [Bool.and_assoc]]
  refine eqStep (by decide) (eqInt r r' rfl rfl) (eqStep (by decide) (eqInt g g' rfl rfl) (eqStep (by decide) (eqInt b b' rfl rfl) (eqStep (by decide) (eqInt a a' rfl rfl) (by simp [Op.eqFields]))))
theorem run_eqR_same (r g b a : Int) (w : World) : (Op.equalIn 10000 36 (.agg #[.int .i64 r, .int .i64 g, .int .i64 b, .int .i64 a]) (.agg #[.int .i64 r, .int .i64 g, .int .i64 b, .int .i64 a])).run Tryz.prog w = .ok true w := by
  rw [run_eqR]; simp

set_option linter.unusedSimpArgs false in
theorem has_any (x0 y0 x1 y1 x y : Int) (w : World) :
    Calls Tryz.prog 36 #[.agg #[.int .i64 x0, .int .i64 y0, .int .i64 x1, .int .i64 y1], .int .i64 x, .int .i64 y] w fun e w' => e = .returned (.bool (Rt.has x0 y0 x1 y1 x y)) ∧ Kp w.heap.size w w' := by
  cases h1 : decide (x0 ≤ x)
  · skip
    go_enter Tryz.func36, Tryz.ntmps36
    go_wp2_with go_skip
    go_ret
    exact ⟨ret_bool (by simp only [Rt.has, h1, Bool.true_and, Bool.false_and]), Kp.new _ _ _⟩
  cases h2 : decide (x < x1)
  · skip
    go_enter Tryz.func36, Tryz.ntmps36
    go_wp2_with go_skip
    go_ret
    exact ⟨ret_bool (by simp only [Rt.has, h1, h2, Bool.true_and, Bool.false_and]), Kp.new _ _ _⟩
  cases h3 : decide (y0 ≤ y)
  · skip
    go_enter Tryz.func36, Tryz.ntmps36
    go_wp2_with go_skip
    go_ret
    exact ⟨ret_bool (by simp only [Rt.has, h1, h2, h3, Bool.true_and, Bool.false_and]), Kp.new _ _ _⟩
  · skip
    go_enter Tryz.func36, Tryz.ntmps36
    go_wp2_with go_skip
    go_ret
    exact ⟨ret_bool (by simp only [Rt.has, h1, h2, h3, Bool.true_and, Bool.false_and]), Kp.new _ _ _⟩
/-- ints, as cells -/
def Rt.iv (l : List Int) : List Value := l.map (Value.int .i64)
theorem Rt.iv_get {l : List Int} {k : Nat} (h : k < l.length) : (Rt.iv l)[k]? = some (.int .i64 l[k]) := by unfold Rt.iv; rw [List.getElem?_map, List.getElem?_eq_getElem h]; rfl
def msrN (n : Nat) (i : Value) : Nat := n - (intOf i).toNat
theorem Rt.wi_no {lo hi : Int} {l : List Int} {k : Nat} (h : k < l.length) (hn : l[k] < lo ∨ hi < l[k]) : Rt.wi lo hi l = false := by
  unfold Rt.wi
  rw [List.all_eq_false]
  exact ⟨l[k], List.getElem_mem h, by simp; omega⟩
theorem Rt.wi_yes {lo hi : Int} {l : List Int} (h : ∀ j (hj : j < l.length), lo ≤ l[j] ∧ l[j] ≤ hi) : Rt.wi lo hi l = true := by
  unfold Rt.wi
  rw [List.all_eq_true]
  intro x hx
  obtain ⟨j, hj, rfl⟩ := List.getElem_of_mem hx
  have := h j hj
  simp [this]



end Go.Proofs.YtankjlpanmmogaaGreat

/-
  Contracts of layer 10 (rect): Area, Of, And, Around, Pixels; the document's own; what must come at any rate.
-/
namespace Go.Proofs.YtankjlpanmmogaaGreat
set_option maxRecDepth 100000
open Go.RowKit





end Go.Proofs.YtankjlpanmmogaaGreat

/-
  Contracts of layer 10 (rect): And, Around, Pixels; the document's own; what must come at any rate.
-/
namespace Go.Proofs.YtankjlpanmmogaaGreat
set_option maxRecDepth 100000
open Go.RowKit

theorem makes_rect {w : World} {ms : List (Nat × List Value)} (a : Act) (o : Oper) (ho : o.op = .alloc 36) (bs : List Nat) (W : World) (hI : Mk w [.int .i64 0, .int .i64 0, .int .i64 0, .int .i64 0] ms bs W) :
    ∃ w1, (execOp a.eval o).run Tryz.prog W = .ok (.value (.pointer (some ⟨W.heap.size, 0, none⟩))) w1 ∧ Mk w [.int .i64 0, .int .i64 0, .int .i64 0, .int .i64 0] ms (W.heap.size :: bs) w1 ∧ W.heap.size ∉ bs := by
  refine ⟨W.alloc (.cells #[.int .i64 0, .int .i64 0, .int .i64 0, .int .i64 0] 36), ?_, (hI.make 36).1, (hI.make 36).2⟩
  simp [execOp, ho, go_sem]
/-- the blocks of Both -/
def Bb (w : World) (a0 a1 a2 a3 b0 b1 b2 b3 : Int) : List (Nat × List Value) :=
  [(w.heap.size + 2, [.int .i64 0, .int .i64 0, .int .i64 0, .int .i64 0]), (w.heap.size + 1, [.int .i64 b0, .int .i64 b1, .int .i64 b2, .int .i64 b3]), (w.heap.size, [.int .i64 a0, .int .i64 a1, .int .i64 a2, .int .i64 a3])]
end Go.Proofs.YtankjlpanmmogaaGreat

/-
  Plain facts of layer 11 (tile): tiles by numbers; no program in sight.
-/
namespace Go.Proofs.YtankjlpanmmogaaGreat
set_option maxRecDepth 100000
open Go.RowKit

/-- may it be a picture's side? -/
def Tl.side (n : Int) : Bool := decide (1 ≤ n) && decide (n ≤ 256)
/-- may there be such a picture? -/
def Tl.is (n m : Int) : Bool := Tl.side n && Tl.side m
/-- how many tiles begin ahead of a place -/
def Tl.bg (n : Int) : Int := (n + 15) / 16
theorem Tl.side_iff {n : Int} : Tl.side n = true ↔ 1 ≤ n ∧ n ≤ 256 := by simp [Tl.side]
theorem Tl.is_iff {n m : Int} : Tl.is n m = true ↔ (1 ≤ n ∧ n ≤ 256) ∧ (1 ≤ m ∧ m ≤ 256) := by simp [Tl.is, Tl.side]
theorem Tl.bg_le {n : Int} (h : 0 ≤ n) (h' : n ≤ 256) : 0 ≤ Tl.bg n ∧ Tl.bg n ≤ 16 := by unfold Tl.bg; omega
theorem Tl.bg_pos {n : Int} (h : 1 ≤ n) : 1 ≤ Tl.bg n := by unfold Tl.bg; omega
theorem Tl.bg_lt {n k : Int} (h : k < Tl.bg n) : k * 16 < n := by unfold Tl.bg at h; omega
/-- a product of numbers up to 16 -/
theorem Tl.mul_le {a b : Int} (h1 : 0 ≤ a) (h2 : a ≤ 16) (h3 : 0 ≤ b) (h4 : b ≤ 16) : 0 ≤ a * b ∧ a * b ≤ 256 := by
  have k1 : 0 ≤ a * b := Int.mul_nonneg h1 h3
  have k2 : a * b ≤ 16 * 16 := Int.mul_le_mul h2 h4 h3 (by omega)
  omega
/-- a tile's column and row -/
structure Tl.At (n m k c r : Int) : Prop where
  c0 : 0 ≤ c
  c1 : c < Tl.bg n
  r0 : 0 ≤ r
  r1 : r < Tl.bg m
  k : k = r * Tl.bg n + c
theorem Tl.at_of {n m k : Int} (hn : 1 ≤ n) (h0 : 0 ≤ k) (h1 : k < Tl.bg n * Tl.bg m) : Tl.At n m k (k % Tl.bg n) (k / Tl.bg n) := by
  have hp := Tl.bg_pos hn
  refine ⟨Int.emod_nonneg _ (by omega), Int.emod_lt_of_pos _ (by omega), Int.ediv_nonneg h0 (by omega), ?_, ?_⟩
  · exact Int.ediv_lt_of_lt_mul (by omega) (by rw [Int.mul_comm]; exact h1)
  · have := Int.emod_add_mul_ediv k (Tl.bg n)
    rw [Int.mul_comm] at this
    omega
theorem Tl.At.lt {n m k c r : Int} (h : Tl.At n m k c r) : 0 ≤ k ∧ k < Tl.bg n * Tl.bg m := by
  have h1 : 0 ≤ r * Tl.bg n := Int.mul_nonneg h.r0 (by have := h.c0; have := h.c1; omega)
  have h2 : (r + 1) * Tl.bg n ≤ Tl.bg m * Tl.bg n := Int.mul_le_mul_of_nonneg_right (by have := h.r1; omega) (by have := h.c0; have := h.c1; omega)
  rw [Int.add_mul, Int.one_mul, Int.mul_comm (Tl.bg m)] at h2
  have := h.c0; have := h.c1; have := h.k
  omega
theorem Tl.At.col {n m k c r : Int} (h : Tl.At n m k c r) : k % Tl.bg n = c ∧ k / Tl.bg n = r := by
  have hp : 0 < Tl.bg n := by have := h.c0; have := h.c1; omega
  constructor
  · rw [h.k, Int.add_comm, Int.add_mul_emod_self_right]
    exact Int.emod_eq_of_lt h.c0 h.c1
  · rw [h.k, Int.add_comm, Int.add_mul_ediv_right _ _ (by omega), Int.ediv_eq_zero_of_lt h.c0 h.c1, Int.zero_add]
/-- a pixel's tile -/
theorem Tl.at_pixel {n m x y : Int} (h : Rt.has 0 0 n m x y = true) : Tl.At n m (y / 16 * Tl.bg n + x / 16) (x / 16) (y / 16) := by
  have h1 := Rt.has_iff.1 h
  exact ⟨by omega, by unfold Tl.bg; omega, by omega, by unfold Tl.bg; omega, rfl⟩
/-- a tile's pixels -/
theorem Tl.box {n m k c r : Int} (h : Tl.At n m k c r) : Rt.And (c * 16) (r * 16) (c * 16 + 16) (r * 16 + 16) 0 0 n m (c * 16) (r * 16) (Rt.mn (c * 16 + 16) n) (Rt.mn (r * 16 + 16) m) := by
  have h0 := h.c0; have h1 := Tl.bg_lt h.c1; have h2 := h.r0; have h3 := Tl.bg_lt h.r1
  have m0 := Rt.mx_is (c * 16) 0; have m1 := Rt.mx_is (r * 16) 0; have m2 := Rt.mn_is (c * 16 + 16) n; have m3 := Rt.mn_is (r * 16 + 16) m
  exact .inr ⟨Rt.emp_no.2 (by omega), by omega, by omega, rfl, rfl⟩
theorem Tl.box_some {n m k c r : Int} (h : Tl.At n m k c r) : Rt.emp (c * 16) (r * 16) (Rt.mn (c * 16 + 16) n) (Rt.mn (r * 16 + 16) m) = false := by
  have h1 := Tl.bg_lt h.c1; have h3 := Tl.bg_lt h.r1
  have m2 := Rt.mn_is (c * 16 + 16) n; have m3 := Rt.mn_is (r * 16 + 16) m
  exact Rt.emp_no.2 (by omega)
theorem Tl.mn_le (a b : Int) : Rt.mn a b ≤ b := by have := Rt.mn_is a b; omega
/-- each pixel is in just one tile -/
theorem Tl.once {n m k c r x y : Int} (h : Tl.At n m k c r) (hp : Rt.has 0 0 n m x y = true) :
    Rt.has (c * 16) (r * 16) (Rt.mn (c * 16 + 16) n) (Rt.mn (r * 16 + 16) m) x y = (k == y / 16 * Tl.bg n + x / 16) := by
  have h9 := Rt.has_iff.1 hp
  have m2 := Rt.mn_is (c * 16 + 16) n; have m3 := Rt.mn_is (r * 16 + 16) m
  rw [Bool.eq_iff_iff, Rt.has_iff, beq_iff_eq]
  constructor
  · intro g
    have e1 : c = x / 16 := by omega
    have e2 : r = y / 16 := by omega
    rw [h.k, e1, e2]
  · intro g
    have k1 := h.col
    have k2 := (Tl.at_pixel hp).col
    rw [← g] at k2
    have e1 : c = x / 16 := k1.1.symm.trans k2.1
    have e2 : r = y / 16 := k1.2.symm.trans k2.2
    omega
end Go.Proofs.YtankjlpanmmogaaGreat

/-
  Plain facts of layer 18 (state): what may be, what commands set; no program in sight.
-/
namespace Go.Proofs.YtankjlpanmmogaaGreat
set_option maxRecDepth 100000
open Go.RowKit

abbrev Sf := Nat → Int
/-- is a number from lo to hi? -/
def Sx.wi (lo hi n : Int) : Bool := decide (lo ≤ n) && decide (n ≤ hi)
theorem Sx.wi_iff {lo hi n : Int} : Sx.wi lo hi n = true ↔ lo ≤ n ∧ n ≤ hi := by simp [Sx.wi]
/-- the first that is no zero -/
def Sx.fst : List Int → Int
  | [] => 0
  | a :: l => if a = 0 then Sx.fst l else a
theorem Sx.fst_zero {l : List Int} : Sx.fst l = 0 ↔ ∀ x ∈ l, x = 0 := by
  induction l with
  | nil => simp [Sx.fst]
  | cons a l ih =>
    unfold Sx.fst
    split
    · rename_i h; simp [h, ih]
    · rename_i h; simp [h]
/-- the errors of parts -/
def Sx.cell (m : Sf) : Int := if Vc.wi 16777216 m 16 then 0 else 11
def Sx.test (k : Int) : Int := if Dp.is k then 0 else 9
def Sx.kind (n : Int) : Int := if Sx.wi 0 2 n then 0 else 9
def Sx.hand (n : Int) : Int := if Sx.wi 0 64 n then 0 else 7
def Sx.flag (n : Int) : Int := if Sx.wi 0 1 n then 0 else 2
def Sx.len (n m : Int) : Int := if n = m then 0 else 6
/-- a state's error -/
def Sx.list (s : Sf) : List Int := [Sx.cell s, Vw.chk (s 16) (s 17) (s 18) (s 19), Vw.chk (s 20) (s 21) (s 22) (s 23), Sx.test (s 24), Sn.chk (s 26) (s 27) (s 28) (s 29) (s 30) (s 31) (s 32), Bn.chk (s 33) (s 34) (s 35) (s 36), Sx.kind (s 37), Sx.hand (s 38), Sx.kind (s 39)]
def Sx.chk (s : Sf) : Int := Sx.fst (Sx.list s)
/-- what the commands set -/
def Sx.num (l : List Int) : Sf := fun i => l.getD i 0
def Sx.mat (s : Sf) (l : List Int) : Sf := fun i => if i < 16 ∧ i < l.length then l.getD i 0 else s i
def Sx.rect (o : Nat) (s : Sf) (x y z u : Int) : Sf := fun i => if i = o then x else if i = o + 1 then y else if i = o + 2 then z else if i = o + 3 then u else s i
def Sx.dep (s : Sf) (a : Int) : Sf := fun i => if i = 24 then a else s i
def Sx.sten (s : Sf) (l : List Int) : Sf := fun i => if 26 ≤ i ∧ i < 33 then l.getD (i - 26) 0 else s i
def Sx.blend (s : Sf) (a b c d : Int) : Sf := fun i => if i = 33 then a else if i = 34 then b else if i = 35 then c else if i = 36 then d else s i
def Sx.cull (s : Sf) (a : Int) : Sf := fun i => if i = 37 then a else s i
def Sx.bind (s : Sf) (h a : Int) : Sf := fun i => if i = 38 then h else if i = 39 then a else s i
/-- their errors -/
def Sx.eMat (l : List Int) : Int := if l.length = 16 then Sx.cell (Sx.num l) else 6
def Sx.eView (c : Sf) : Int := if Rt.view (c 2) (c 3) (c 4) (c 5) then 0 else 12
def Sx.eDep (c : Sf) : Int := Sx.fst [Sx.test (c 2), Sx.flag (c 3)]
def Sx.eSten (l : List Int) : Int := if l.length = 7 then Sn.chk (Sx.num l 0) (Sx.num l 1) (Sx.num l 2) (Sx.num l 3) (Sx.num l 4) (Sx.num l 5) (Sx.num l 6) else 6
def Sx.eBlend (c : Sf) : Int := Bn.chk (c 2) (c 3) (c 4) (c 5)
def Sx.eCull (c : Sf) : Int := Sx.kind (c 2)
def Sx.eBind (c : Sf) : Int := Sx.fst [Sx.hand (c 1), Sx.kind (c 2), Sx.flag (c 3)]
def Sx.err (c : Sf) (l : List Int) : Int :=
  if c 0 = 5 then Sx.eMat l else if c 0 = 6 then Sx.eView c else if c 0 = 7 then Sx.eView c else if c 0 = 8 then Sx.eDep c else if c 0 = 9 then Sx.eSten l else if c 0 = 10 then Sx.eBlend c else if c 0 = 11 then Sx.eCull c else if c 0 = 12 then Sx.eBind c else 9
def Sx.new (s c : Sf) (l : List Int) : Sf :=
  if c 0 = 5 then Sx.mat s l else if c 0 = 6 then Sx.rect 16 s (c 2) (c 3) (c 2 + c 4) (c 3 + c 5) else if c 0 = 7 then Sx.rect 20 s (c 2) (c 3) (c 2 + c 4) (c 3 + c 5) else if c 0 = 8 then Sx.dep s (c 2) else if c 0 = 9 then Sx.sten s l else
  if c 0 = 10 then Sx.blend s (c 2) (c 3) (c 4) (c 5) else if c 0 = 11 then Sx.cull s (c 2) else if c 0 = 12 then Sx.bind s (c 1) (c 2) else s
def Sx.np (p : Bool) (c : Sf) : Bool := if c 0 = 8 then c 3 == 1 else p
def Sx.nq (q : Bool) (c : Sf) : Bool := if c 0 = 12 then c 3 == 1 else q
def Sx.zero : Sf := fun _ => 0
/-- what Set answers -/
def Sx.ans (s c : Sf) (l : List Int) : Sf := if Sx.err c l = 0 then Sx.new s c l else Sx.zero
def Sx.ap (p : Bool) (c : Sf) (l : List Int) : Bool := if Sx.err c l = 0 then Sx.np p c else false
def Sx.aq (q : Bool) (c : Sf) (l : List Int) : Bool := if Sx.err c l = 0 then Sx.nq q c else false
/-- the beginning -/
def Sx.idn : Sf := fun i => if i % 5 = 0 then 65536 else 0
def Sx.beg (w h : Int) : Sf := fun i => if i < 16 then Sx.idn i else if i = 18 then w else if i = 19 then h else if i = 22 then w else if i = 23 then h else if i = 24 then 7 else if i = 26 then 7 else if i = 28 then 255 else if i = 29 then 255 else if i = 33 then 1 else if i = 36 then 15 else 0
/-- the viewports' numbers are of 64 bits -/
def Sx.bd (s : Sf) : Prop := ∀ i, 16 ≤ i → i < 24 → -9223372036854775808 ≤ s i ∧ s i ≤ 9223372036854775807
theorem Sx.cell_congr {s t : Sf} (h : ∀ j, j < 16 → s j = t j) : Sx.cell s = Sx.cell t := by unfold Sx.cell; rw [Vc.wi_congr h]
theorem Sx.view_is {x y n m : Int} (h : Rt.view x y n m = true) : Vw.is x y (x + n) (y + m) = true := by
  have := Rt.view_iff.1 h
  rw [Vw.is_iff]; omega
theorem Sx.chk_zero {s : Sf} : Sx.chk s = 0 ↔ Sx.cell s = 0 ∧ Vw.chk (s 16) (s 17) (s 18) (s 19) = 0 ∧ Vw.chk (s 20) (s 21) (s 22) (s 23) = 0 ∧ Sx.test (s 24) = 0 ∧ Sn.chk (s 26) (s 27) (s 28) (s 29) (s 30) (s 31) (s 32) = 0 ∧ Bn.chk (s 33) (s 34) (s 35) (s 36) = 0 ∧ Sx.kind (s 37) = 0 ∧ Sx.hand (s 38) = 0 ∧ Sx.kind (s 39) = 0 := by
  unfold Sx.chk
  rw [Sx.fst_zero]
  unfold Sx.list
  simp only [List.mem_cons, List.not_mem_nil, or_false]
  constructor
  · intro h; exact ⟨h _ (by simp), h _ (by simp), h _ (by simp), h _ (by simp), h _ (by simp), h _ (by simp), h _ (by simp), h _ (by simp), h _ (by simp)⟩
  · rintro ⟨h1, h2, h3, h4, h5, h6, h7, h8, h9⟩ x (rfl | rfl | rfl | rfl | rfl | rfl | rfl | rfl | rfl) <;> assumption
/-- a state that may be, may be after every command -/
theorem Sx.stays {s c : Sf} {l : List Int} (h : Sx.chk s = 0) (he : Sx.err c l = 0) : Sx.chk (Sx.new s c l) = 0 := by
  rw [Sx.chk_zero] at h ⊢
  obtain ⟨h1, h2, h3, h4, h5, h6, h7, h8, h9⟩ := h
  unfold Sx.err at he
  unfold Sx.new
  split at he
  · rename_i e; rw [if_pos e]
    unfold Sx.eMat at he
    split at he
    · rename_i e16
      refine ⟨?_, h2, h3, h4, h5, h6, h7, h8, h9⟩
      rw [← he]
      exact Sx.cell_congr fun j hj => by unfold Sx.mat Sx.num; rw [if_pos ⟨hj, by omega⟩]
    · cases he
  rename_i e5; rw [if_neg e5]
  split at he
  · rename_i e; rw [if_pos e]
    unfold Sx.eView at he
    split at he
    · rename_i ev
      refine ⟨(Sx.cell_congr fun j hj => ?_).trans h1, Vw.chk_yes (Sx.view_is ev), h3, h4, h5, h6, h7, h8, h9⟩
      unfold Sx.rect; rw [if_neg (by omega), if_neg (by omega), if_neg (by omega), if_neg (by omega)]
    · cases he
  rename_i e6; rw [if_neg e6]
  split at he
  · rename_i e; rw [if_pos e]
    unfold Sx.eView at he
    split at he
    · rename_i ev
      refine ⟨(Sx.cell_congr fun j hj => ?_).trans h1, h2, Vw.chk_yes (Sx.view_is ev), h4, h5, h6, h7, h8, h9⟩
      unfold Sx.rect; rw [if_neg (by omega), if_neg (by omega), if_neg (by omega), if_neg (by omega)]
    · cases he
  rename_i e7; rw [if_neg e7]
  split at he
  · rename_i e; rw [if_pos e]
    unfold Sx.eDep at he
    rw [Sx.fst_zero] at he
    refine ⟨(Sx.cell_congr fun j hj => ?_).trans h1, h2, h3, he _ (by simp [Sx.dep]), h5, h6, h7, h8, h9⟩
    unfold Sx.dep; rw [if_neg (by omega)]
  rename_i e8; rw [if_neg e8]
  split at he
  · rename_i e; rw [if_pos e]
    unfold Sx.eSten at he
    split at he
    · refine ⟨(Sx.cell_congr fun j hj => ?_).trans h1, h2, h3, h4, he, h6, h7, h8, h9⟩
      unfold Sx.sten; rw [if_neg (by omega)]
    · cases he
  rename_i e9; rw [if_neg e9]
  split at he
  · rename_i e; rw [if_pos e]
    refine ⟨(Sx.cell_congr fun j hj => ?_).trans h1, h2, h3, h4, h5, he, h7, h8, h9⟩
    unfold Sx.blend; rw [if_neg (by omega), if_neg (by omega), if_neg (by omega), if_neg (by omega)]
  rename_i e10; rw [if_neg e10]
  split at he
  · rename_i e; rw [if_pos e]
    refine ⟨(Sx.cell_congr fun j hj => ?_).trans h1, h2, h3, h4, h5, h6, he, h8, h9⟩
    unfold Sx.cull; rw [if_neg (by omega)]
  rename_i e11; rw [if_neg e11]
  split at he
  · rename_i e; rw [if_pos e]
    unfold Sx.eBind at he
    rw [Sx.fst_zero] at he
    refine ⟨(Sx.cell_congr fun j hj => ?_).trans h1, h2, h3, h4, h5, h6, h7, he _ (by simp [Sx.bind]), he _ (by simp [Sx.bind])⟩
    unfold Sx.bind; rw [if_neg (by omega), if_neg (by omega)]
  · cases he
/-- .. and its viewports' numbers are of 64 bits -/
theorem Sx.bd_new {s c : Sf} {l : List Int} (h : Sx.bd s) (he : Sx.err c l = 0) : Sx.bd (Sx.new s c l) := by
  intro i h1 h2
  have hs := h i h1 h2
  unfold Sx.err at he
  unfold Sx.new
  split
  · unfold Sx.mat; rw [if_neg (by omega)]; exact hs
  rename_i e5; rw [if_neg e5] at he
  split
  · rename_i e6; rw [if_pos e6] at he
    unfold Sx.eView at he
    split at he
    · rename_i ev
      have := Rt.view_iff.1 ev
      unfold Sx.rect
      (repeat' split) <;> omega
    · cases he
  rename_i e6; rw [if_neg e6] at he
  split
  · rename_i e7; rw [if_pos e7] at he
    unfold Sx.eView at he
    split at he
    · rename_i ev
      have := Rt.view_iff.1 ev
      unfold Sx.rect
      (repeat' split) <;> omega
    · cases he
  split
  · unfold Sx.dep; rw [if_neg (by omega)]; exact hs
  split
  · unfold Sx.sten; rw [if_neg (by omega)]; exact hs
  split
  · unfold Sx.blend; rw [if_neg (by omega), if_neg (by omega), if_neg (by omega), if_neg (by omega)]; exact hs
  split
  · unfold Sx.cull; rw [if_neg (by omega)]; exact hs
  split
  · unfold Sx.bind; rw [if_neg (by omega), if_neg (by omega)]; exact hs
  · exact hs
theorem Sx.beg_bd {w h : Int} (hw : Tl.is w h = true) : Sx.bd (Sx.beg w h) := by
  intro i h1 h2
  have := Tl.is_iff.1 hw
  unfold Sx.beg
  rw [if_neg (by omega)]
  (repeat' split) <;> omega
theorem Sx.beg_chk {w h : Int} (hw : Tl.is w h = true) : Sx.chk (Sx.beg w h) = 0 := by
  have := Tl.is_iff.1 hw
  rw [Sx.chk_zero]
  refine ⟨?_, Vw.chk_yes (Vw.is_iff.2 ?_), Vw.chk_yes (Vw.is_iff.2 ?_), by rfl, by rfl, by rfl, by rfl, by rfl, by rfl⟩
  · unfold Sx.cell
    rw [Vc.wi_true (fun j hj => ?_), if_pos rfl]
    unfold Sx.beg Sx.idn
    rw [if_pos hj]
    split <;> omega
  · simp [Sx.beg]; omega
  · simp [Sx.beg]; omega
end Go.Proofs.YtankjlpanmmogaaGreat

/-
  Plain facts of layer 19 (frag): a pixel, what is put on it, what is cleared; no program in sight.
-/
namespace Go.Proofs.YtankjlpanmmogaaGreat
set_option maxRecDepth 100000
open Go.RowKit

/-- a depth -/
def Fr.deep (z : Int) : Bool := decide (0 ≤ z) && decide (z ≤ 65535)
theorem Fr.deep_iff {z : Int} : Fr.deep z = true ↔ 0 ≤ z ∧ z ≤ 65535 := by simp [Fr.deep]
/-- is a pixel right? (p 0 to p 3 its colour, p 4 its depth, p 5 its stencil) -/
def Fr.right (p : Sf) : Bool := Tn.right (p 0) (p 1) (p 2) (p 3) && Fr.deep (p 4) && Sn.is (p 5)
/-- is a fragment right? (f 0 to f 3 its colour, f 4 its depth) -/
def Fr.may (f : Sf) : Bool := Tn.right (f 0) (f 1) (f 2) (f 3) && Fr.deep (f 4)
theorem Fr.right_iff {p : Sf} : Fr.right p = true ↔ Tn.right (p 0) (p 1) (p 2) (p 3) = true ∧ (0 ≤ p 4 ∧ p 4 ≤ 65535) ∧ Sn.is (p 5) = true := by
  unfold Fr.right; rw [Bool.and_eq_true, Bool.and_eq_true, Fr.deep_iff, and_assoc]
theorem Fr.may_iff {f : Sf} : Fr.may f = true ↔ Tn.right (f 0) (f 1) (f 2) (f 3) = true ∧ (0 ≤ f 4 ∧ f 4 ≤ 65535) := by
  unfold Fr.may; rw [Bool.and_eq_true, Fr.deep_iff]
/-- what the stencil is then; does its test pass? the depth's? the depth then; a channel then -/
def Fr.sten (s p : Sf) (k : Nat) : Int := Sn.put (Sn.deed (s 30) (s 31) (s 32) k) (p 5) (s 27) (s 29)
def Fr.spass (s p : Sf) : Bool := Dp.pass (s 26) (Sn.and (s 27) (s 28)) (Sn.and (p 5) (s 28))
def Fr.dpass (s f p : Sf) : Bool := Dp.pass (s 24) (f 4) (p 4)
def Fr.z (s : Sf) (d : Bool) (f p : Sf) : Int := Dp.put (s 24) d (f 4) (p 4)
def Fr.bit : Nat → Int
  | 0 => 1 | 1 => 2 | 2 => 4 | _ => 8
def Fr.col (s f p : Sf) (i : Nat) : Int := Bn.wr (s 36) (Fr.bit i) (Bn.mx (s 33) (s 34) (s 35) (f i) (p i) (f 3) (p 3)) (p i)
/-- the pixel then, where its stencil alone changes -/
def Fr.only (p : Sf) (n : Int) : Sf := fun i => if i = 5 then n else p i
def Fr.all (s : Sf) (d : Bool) (f p : Sf) : Sf := fun i => if i < 4 then Fr.col s f p i else if i = 4 then Fr.z s d f p else Fr.sten s p 2
/-- the pixel then -/
def Fr.put (s : Sf) (d : Bool) (f p : Sf) (x y : Int) : Sf :=
  if Rt.has (s 20) (s 21) (s 22) (s 23) x y then (if Fr.spass s p then (if Fr.dpass s f p then Fr.all s d f p else Fr.only p (Fr.sten s p 1)) else Fr.only p (Fr.sten s p 0)) else p
/-- what is cleared -/
def Fr.clear (p : Sf) (n : Int) (t : Sf) : Sf := fun i => if i < 4 then (if n % 2 = 1 then t i else p i) else if i = 4 then (if n / 2 % 2 = 1 then t i else p i) else (if n / 4 % 2 = 1 then t i else p i)

/-- the parts of a state that may be -/
theorem Fr.parts {s : Sf} (h : Sx.chk s = 0) : (Dp.is (s 24) = true) ∧ Sn.chk (s 26) (s 27) (s 28) (s 29) (s 30) (s 31) (s 32) = 0 ∧ Bn.chk (s 33) (s 34) (s 35) (s 36) = 0 := by
  have := Sx.chk_zero.1 h
  refine ⟨?_, this.2.2.2.2.1, this.2.2.2.2.2.1⟩
  have ht := this.2.2.2.1
  unfold Sx.test at ht
  split at ht
  · assumption
  · cases ht
theorem Fr.sten_parts {a b c d e f g : Int} (h : Sn.chk a b c d e f g = 0) : Sn.is b = true ∧ Sn.is c = true ∧ Sn.is d = true := by
  unfold Sn.chk at h
  split at h
  · split at h
    · rename_i h2
      simp only [Bool.and_eq_true] at h2
      exact ⟨h2.1.1, h2.1.2, h2.2⟩
    · cases h
  · cases h
theorem Fr.sten_is {s p : Sf} (k : Nat) (h : Sx.chk s = 0) (_hp : Sn.is (p 5) = true) : Sn.is (Fr.sten s p k) = true := by
  have h2 := Fr.sten_parts (Fr.parts h).2.1
  unfold Fr.sten Sn.put
  exact Sn.sum_is _ _ h2.2.2
theorem Fr.col_bd {s f p : Sf} (hf : Tn.right (f 0) (f 1) (f 2) (f 3) = true) (hp : Tn.right (p 0) (p 1) (p 2) (p 3) = true) {i : Nat} (hi : i < 4) : 0 ≤ Fr.col s f p i ∧ Fr.col s f p i ≤ 255 := by
  have h1 := Tn.right_iff.1 hf
  have h2 := Tn.right_iff.1 hp
  have hfi : 0 ≤ f i ∧ f i ≤ 255 := by
    rcases i with _ | _ | _ | _ | i
    · exact h1.1
    · exact h1.2.1
    · exact h1.2.2.1
    · exact h1.2.2.2
    · omega
  have hpi : 0 ≤ p i ∧ p i ≤ 255 := by
    rcases i with _ | _ | _ | _ | i
    · exact h2.1
    · exact h2.2.1
    · exact h2.2.2.1
    · exact h2.2.2.2
    · omega
  exact Bn.wr_bd (Bn.eqn_bd hfi hpi) hpi
theorem Fr.only_right {p : Sf} {n : Int} (hp : Fr.right p = true) (hn : Sn.is n = true) : Fr.right (Fr.only p n) = true := by
  have := Fr.right_iff.1 hp
  exact Fr.right_iff.2 ⟨this.1, this.2.1, hn⟩
/-- a right pixel stays right -/
theorem Fr.put_right {s f p : Sf} {d : Bool} (x y : Int) (h : Sx.chk s = 0) (hf : Fr.may f = true) (hp : Fr.right p = true) : Fr.right (Fr.put s d f p x y) = true := by
  have h1 := Fr.right_iff.1 hp
  have h2 := Fr.may_iff.1 hf
  unfold Fr.put
  split
  · split
    · split
      · refine Fr.right_iff.2 ⟨?_, ?_, Fr.sten_is 2 h h1.2.2⟩
        · exact Tn.right_iff.2 ⟨Fr.col_bd h2.1 h1.1 (by omega), Fr.col_bd h2.1 h1.1 (by omega), Fr.col_bd h2.1 h1.1 (by omega), Fr.col_bd h2.1 h1.1 (by omega)⟩
        · show 0 ≤ Fr.z s d f p ∧ Fr.z s d f p ≤ 65535
          unfold Fr.z Dp.put
          split <;> omega
      · exact Fr.only_right hp (Fr.sten_is 1 h h1.2.2)
    · exact Fr.only_right hp (Fr.sten_is 0 h h1.2.2)
  · exact hp
/-- the test 0 passes nothing: colour and depth stay -/
theorem Fr.never {s f p : Sf} {d : Bool} (x y : Int) (h : s 24 = 0) {i : Nat} (hi : i < 5) : Fr.put s d f p x y i = p i := by
  have e : Fr.dpass s f p = false := by unfold Fr.dpass; rw [h]; rfl
  unfold Fr.put
  rw [e]
  split
  · split
    · show Fr.only p _ i = p i
      unfold Fr.only; rw [if_neg (by omega)]
    · unfold Fr.only; rw [if_neg (by omega)]
  · rfl
/-- in no scissor nothing changes -/
theorem Fr.none {s f p : Sf} {d : Bool} (x y : Int) (h : s 20 = 0 ∧ s 21 = 0 ∧ s 22 = 0 ∧ s 23 = 0) : Fr.put s d f p x y = p := by
  have e : Rt.has (s 20) (s 21) (s 22) (s 23) x y = false := by
    rw [h.1, h.2.1, h.2.2.1, h.2.2.2, ← Bool.not_eq_true, Rt.has_iff]; omega
  unfold Fr.put; rw [e]; rfl
theorem Fr.sten_blind {s p : Sf} (k : Nat) (h : s 29 = 0) (hp : Sn.is (p 5) = true) : Fr.sten s p k = p 5 := by
  have h2 := Sn.is_iff.1 hp
  unfold Fr.sten Sn.put
  rw [h]
  have e0 : ∀ a : Int, Sn.and a 0 = 0 := fun a => by unfold Sn.and; simp
  have e1 : Sn.and (p 5) 255 = p 5 := by
    unfold Sn.and
    rw [show (255 : Int).toNat = 2 ^ 8 - 1 by rfl, Nat.and_two_pow_sub_one_eq_mod, Nat.mod_eq_of_lt (by omega)]
    omega
  rw [e0, show (255 : Int) - 0 = 255 by rfl, e1, Int.zero_add]
/-- what writes nothing changes nothing -/
theorem Fr.blind {s f p : Sf} (x y : Int) (hm : s 36 = 0) (hw : s 29 = 0) (hp : Fr.right p = true) {i : Nat} (hi : i < 6) : Fr.put s false f p x y i = p i := by
  have h1 := Fr.right_iff.1 hp
  have only : ∀ k, Fr.only p (Fr.sten s p k) i = p i := fun k => by
    unfold Fr.only
    split
    · rename_i e; subst e; exact Fr.sten_blind k hw h1.2.2
    · rfl
  unfold Fr.put
  split
  · split
    · split
      · show Fr.all s false f p i = p i
        unfold Fr.all
        split
        · unfold Fr.col; rw [hm, Bn.wr_zero]
        · split
          · rename_i e; subst e
            unfold Fr.z Dp.put
            simp
          · rw [Fr.sten_blind 2 hw h1.2.2, show i = 5 by omega]
      · exact only 1
    · exact only 0
  · rfl
theorem Fr.clear_right {p t : Sf} (n : Int) (hp : Fr.right p = true) (ht : Fr.right t = true) : Fr.right (Fr.clear p n t) = true := by
  have h1 := Fr.right_iff.1 hp
  have h2 := Fr.right_iff.1 ht
  refine Fr.right_iff.2 ⟨?_, ?_, ?_⟩
  · unfold Fr.clear
    simp only [show (0 : Nat) < 4 by omega, show (1 : Nat) < 4 by omega, show (2 : Nat) < 4 by omega, show (3 : Nat) < 4 by omega, if_true]
    split
    · exact h2.1
    · exact h1.1
  · unfold Fr.clear
    simp only [show ¬ (4 : Nat) < 4 by omega, if_true, if_false]
    split
    · exact h2.2.1
    · exact h1.2.1
  · unfold Fr.clear
    simp only [show ¬ (5 : Nat) < 4 by omega, show ¬ (5 : Nat) = 4 by omega, if_false]
    split
    · exact h2.2.2
    · exact h1.2.2
theorem Fr.clear_again (p t : Sf) (n : Int) : Fr.clear (Fr.clear p n t) n t = Fr.clear p n t := by
  funext i
  unfold Fr.clear
  (repeat' split) <;> first | rfl | omega
theorem Fr.clear_all (p t : Sf) : Fr.clear p 7 t = t := by
  funext i
  unfold Fr.clear
  (repeat' split) <;> first | rfl | omega
end Go.Proofs.YtankjlpanmmogaaGreat

/-
  What stands in memory, further: one cell of a call's own block is written.
-/
namespace Go.Proofs.YtankjlpanmmogaaGreat
set_option maxRecDepth 100000
open Go.RowKit

theorem St.setCell {w : World} {b j : Nat} (v : Value) : St b w (w.setCell ⟨b, j, none⟩ v) :=
  ⟨fun _ _ hc => World.cell?_setCell_far _ _ _ _ (Ne.symm hc), fun _ => World.frozen?_setCell _ _ _ _, World.size_setCell _ _ _, fun B hB => (Below.refl B w).setCell (p := ⟨b, j, none⟩) hB v⟩
theorem Rc.store1 {W : World} {b j : Nat} {vs : List Value} (h : Rc W b vs) (hj : j < vs.length) (v : Value) : Rc (W.setCell ⟨b, j, none⟩ v) b (vs.set j v) := by
  intro k u hu
  have hk : k < vs.length := by have := (List.getElem?_eq_some_iff.1 hu).1; simpa using this
  refine ⟨?_, ((St.setCell v).frozen _).trans (h.froz k hk)⟩
  rw [List.getElem?_set] at hu
  by_cases e : j = k
  · subst e
    rw [if_pos rfl, if_pos hj, Option.some.injEq] at hu
    subst hu
    exact World.cell?_setCell_same _ _ _ (h.cell j (List.getElem?_eq_getElem hj))
  · rw [if_neg e] at hu
    rw [World.cell?_setCell_other _ _ _ _ (by intro c; cases c; exact e rfl)]
    exact h.cell k hu
theorem Ow.put1 {w W : World} {ms : List (Nat × List Value)} (h : Ow w W ms) (i : Nat) {b : Nat} {vs : List Value} (hi : ms[i]? = some (b, vs)) (j : Nat) (hj : j < vs.length) (v : Value) :
    Ow w (W.setCell ⟨b, j, none⟩ v) (ms.set i (b, vs.set j v)) := by
  have hR := h.at i hi
  have hn : i < ms.length := (List.getElem?_eq_some_iff.1 hi).1
  have he : ms[i] = (b, vs) := (List.getElem?_eq_some_iff.1 hi).2
  have hus : vs.set j v ≠ [] := fun e => by
    have := congrArg List.length e
    simp at this; subst this; simp at hj
  refine ⟨(St.setCell v).kp h.k (h.mine i hi), fun q hq => ?_, ?_⟩
  · obtain ⟨k, hk, rfl⟩ := List.getElem_of_mem hq
    rw [List.length_set] at hk
    rw [List.getElem_set]
    split
    · exact ⟨hR.store1 hj v, hus, h.mine i hi⟩
    · rename_i hne
      have h9 := h.all ms[k] (List.getElem_mem hk)
      refine ⟨h9.1.st (St.setCell v) ?_, h9.2⟩
      have hp := List.pairwise_iff_getElem.1 h.nd
      rcases Nat.lt_or_gt_of_ne hne with hlt | hlt
      · have := hp i k hn hk hlt; rw [he] at this; exact Ne.symm this
      · have := hp k i hk hn hlt; rw [he] at this; exact this
  · refine List.pairwise_iff_getElem.2 fun x y hx hy hxy => ?_
    rw [List.length_set] at hx hy
    have hp := List.pairwise_iff_getElem.1 h.nd x y hx hy hxy
    simp only [List.getElem_set]
    split
    · rename_i e1; subst e1
      rw [if_neg (by omega)]; rw [he] at hp; exact hp
    · split
      · rename_i e1 e2; subst e2
        rw [he] at hp; exact hp
      · exact hp
end Go.Proofs.YtankjlpanmmogaaGreat
