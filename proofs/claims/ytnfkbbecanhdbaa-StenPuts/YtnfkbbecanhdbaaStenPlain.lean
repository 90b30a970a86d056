/-
  Plain facts of layer 9 (sten): stencils, deeds, bits that are read and written; no program in sight.
-/
import Derived.Test.YtnfkbbecanhdbaaDepthPlain
namespace Go.Proofs.Ytnfkbbecanhdbaa
open Go.RowKit

/-- may a number be a stencil? -/
def Sn.is (n : Int) : Bool := decide (0 ≤ n ∧ n ≤ 255)
/-- the bits that both have -/
def Sn.and (a b : Int) : Int := ((a.toNat &&& b.toNat : Nat) : Int)
/-- Check -/
def Sn.chk (fn ref rd wr f z p : Int) : Int :=
  if Dp.is fn && Dp.is f && Dp.is z && Dp.is p then (if Sn.is ref && Sn.is rd && Sn.is wr then 0 else 3) else 9
/-- what a deed makes -/
def Sn.made (k old ref : Int) : Int :=
  if k = 1 then 0 else if k = 2 then ref else if k = 3 then (if old = 255 then 255 else old + 1) else if k = 4 then (if old = 0 then 0 else old - 1)
  else if k = 5 then 255 - old else if k = 6 then (old + 1) % 256 else if k = 7 then (old + 255) % 256 else old
/-- which deed is done -/
def Sn.deed (f z p : Int) : Nat → Int
  | 0 => f | 1 => z | _ => p
/-- what stands there then -/
def Sn.put (k old ref wr : Int) : Int := Sn.and (Sn.made k old ref) wr + Sn.and old (255 - wr)

theorem Sn.is_iff {n : Int} : Sn.is n = true ↔ 0 ≤ n ∧ n ≤ 255 := by simp [Sn.is]
theorem Sn.is_no {n : Int} : Sn.is n = false ↔ n < 0 ∨ 255 < n := by
  rw [← Bool.not_eq_true, Sn.is_iff]; omega
theorem Sn.wraps_i64 (n : Int) (h₀ : 0 ≤ n) (h₁ : n < 2 ^ 63) : IntKind.i64.wrap n = n := by rw [IntKind.wrap_i64]; omega
theorem Sn.nat_and (a b : Nat) (ha : a < 256) (hb : b < 256) : bits .and .i64 (a : Int) (b : Int) = ((a &&& b : Nat) : Int) :=
  (bits_nat .i64 63 (by decide) Sn.wraps_i64 a b (by omega) (by omega)).1
theorem Sn.nat_or (a b : Nat) (ha : a < 256) (hb : b < 256) : bits .or .i64 (a : Int) (b : Int) = ((a ||| b : Nat) : Int) :=
  (bits_nat .i64 63 (by decide) Sn.wraps_i64 a b (by omega) (by omega)).2
theorem Sn.bit_not (b i : Nat) (hb : b < 256) : (255 - b).testBit i = (decide (i < 8) && !b.testBit i) := by
  have := Nat.testBit_two_pow_sub_succ (n := 8) (x := b) hb i
  rwa [show 2 ^ 8 - (b + 1) = 255 - b by omega] at this
theorem Sn.bit_high (a i : Nat) (ha : a < 256) (hi : ¬ i < 8) : a.testBit i = false :=
  Nat.testBit_lt_two_pow (Nat.lt_of_lt_of_le (show a < 2 ^ 8 from ha) (Nat.pow_le_pow_right (by decide) (by omega)))
theorem Sn.nat_andNot (a b : Nat) (ha : a < 256) (hb : b < 256) : bits .andNot .i64 (a : Int) (b : Int) = ((a &&& (255 - b) : Nat) : Int) := by
  have hx : a &&& (255 - b) < 2 ^ 8 := Nat.and_lt_two_pow _ (by omega)
  show IntKind.i64.wrap ((BitVec.ofInt 64 (a : Int) &&& ~~~BitVec.ofInt 64 (b : Int)).toNat : Int) = _
  have e1 : (BitVec.ofInt 64 (a : Int)).toNat = a := by rw [BitVec.ofInt_natCast, BitVec.toNat_ofNat, Nat.mod_eq_of_lt (by omega)]
  have e2 : (BitVec.ofInt 64 (b : Int)).toNat = b := by rw [BitVec.ofInt_natCast, BitVec.toNat_ofNat, Nat.mod_eq_of_lt (by omega)]
  have e3 : a &&& (2 ^ 64 - 1 - b) = a &&& (255 - b) := by
    refine Nat.eq_of_testBit_eq fun i => ?_
    have h1 := Nat.testBit_two_pow_sub_succ (n := 64) (x := b) (by omega) i
    rw [show 2 ^ 64 - (b + 1) = 2 ^ 64 - 1 - b by omega] at h1
    rw [Nat.testBit_and, Nat.testBit_and, h1, Sn.bit_not b i hb]
    by_cases hi : i < 8
    · simp [hi, show i < 64 by omega]
    · simp [Sn.bit_high a i ha hi]
  rw [BitVec.toNat_and, BitVec.toNat_not, e1, e2, e3]
  exact Sn.wraps_i64 _ (by omega) (by omega)
theorem Sn.nat_join (f o w : Nat) (hw : w < 256) : (f &&& w) ||| (o &&& (255 - w)) = (f &&& w) + (o &&& (255 - w)) := by
  have hf : f &&& w < 256 := Nat.lt_of_le_of_lt Nat.and_le_right hw
  have ho : o &&& (255 - w) < 256 := Nat.lt_of_le_of_lt Nat.and_le_right (by omega)
  have h0 : (f &&& w) &&& (o &&& (255 - w)) = 0 := by
    refine Nat.eq_of_testBit_eq fun i => ?_
    simp only [Nat.testBit_and, Sn.bit_not w i hw, Nat.zero_testBit]
    cases w.testBit i <;> simp
  have h1 := BitVec.add_eq_or_of_and_eq_zero (BitVec.ofNat 64 (f &&& w)) (BitVec.ofNat 64 (o &&& (255 - w))) (by
    apply BitVec.eq_of_toNat_eq
    rw [BitVec.toNat_and, BitVec.toNat_ofNat, BitVec.toNat_ofNat, Nat.mod_eq_of_lt (by omega), Nat.mod_eq_of_lt (by omega), h0]
    rfl)
  have h2 := congrArg BitVec.toNat h1
  rw [BitVec.toNat_add, BitVec.toNat_or, BitVec.toNat_ofNat, BitVec.toNat_ofNat, Nat.mod_eq_of_lt (a := f &&& w) (by omega), Nat.mod_eq_of_lt (a := o &&& (255 - w)) (by omega), Nat.mod_eq_of_lt (by omega)] at h2
  exact h2.symm
theorem Sn.nat_keep (f o w : Nat) (hw : w < 256) : ((f &&& w) + (o &&& (255 - w))) &&& (255 - w) = o &&& (255 - w) := by
  rw [← Sn.nat_join f o w hw]
  refine Nat.eq_of_testBit_eq fun i => ?_
  simp only [Nat.testBit_and, Nat.testBit_or, Sn.bit_not w i hw]
  cases w.testBit i <;> simp

section
variable {a b : Int} (ha : Sn.is a = true) (hb : Sn.is b = true)
include ha hb
theorem Sn.bits_and : bits .and .i64 a b = Sn.and a b := by
  have h1 := Sn.is_iff.1 ha; have h2 := Sn.is_iff.1 hb
  obtain ⟨A, rfl⟩ := Int.eq_ofNat_of_zero_le h1.1
  obtain ⟨B, rfl⟩ := Int.eq_ofNat_of_zero_le h2.1
  simpa [Sn.and] using Sn.nat_and A B (by omega) (by omega)
theorem Sn.bits_andNot : bits .andNot .i64 a b = Sn.and a (255 - b) := by
  have h1 := Sn.is_iff.1 ha; have h2 := Sn.is_iff.1 hb
  obtain ⟨A, rfl⟩ := Int.eq_ofNat_of_zero_le h1.1
  obtain ⟨B, rfl⟩ := Int.eq_ofNat_of_zero_le h2.1
  unfold Sn.and
  rw [show (255 - (B : Int)).toNat = 255 - B by omega, Int.toNat_natCast]
  exact Sn.nat_andNot A B (by omega) (by omega)
end
theorem Sn.not_is {b : Int} (hb : Sn.is b = true) : Sn.is (255 - b) = true := by
  have := Sn.is_iff.1 hb; exact Sn.is_iff.2 (by omega)
theorem Sn.and_is (a : Int) {b : Int} (hb : Sn.is b = true) : Sn.is (Sn.and a b) = true := by
  have h2 := Sn.is_iff.1 hb
  have h3 : a.toNat &&& b.toNat ≤ b.toNat := Nat.and_le_right
  exact Sn.is_iff.2 (by unfold Sn.and; omega)
theorem Sn.bits_or (f o : Int) {w : Int} (hw : Sn.is w = true) : bits .or .i64 (Sn.and f w) (Sn.and o (255 - w)) = Sn.and f w + Sn.and o (255 - w) := by
  have h2 := Sn.is_iff.1 hw
  obtain ⟨W, rfl⟩ := Int.eq_ofNat_of_zero_le h2.1
  unfold Sn.and
  rw [show (255 - (W : Int)).toNat = 255 - W by omega, Int.toNat_natCast]
  have h3 : f.toNat &&& W ≤ W := Nat.and_le_right
  have h4 : o.toNat &&& (255 - W) ≤ 255 - W := Nat.and_le_right
  rw [Sn.nat_or _ _ (by omega) (by omega), Sn.nat_join _ _ W (by omega)]
  simp
theorem Sn.sum_is (f o : Int) {w : Int} (hw : Sn.is w = true) : Sn.is (Sn.and f w + Sn.and o (255 - w)) = true := by
  have h2 := Sn.is_iff.1 hw
  have h3 : f.toNat &&& w.toNat ≤ w.toNat := Nat.and_le_right
  have h4 : o.toNat &&& (255 - w).toNat ≤ (255 - w).toNat := Nat.and_le_right
  exact Sn.is_iff.2 (by unfold Sn.and; omega)
theorem Sn.keep (f o : Int) {w : Int} (hw : Sn.is w = true) : Sn.and (Sn.and f w + Sn.and o (255 - w)) (255 - w) = Sn.and o (255 - w) := by
  have h2 := Sn.is_iff.1 hw
  obtain ⟨W, rfl⟩ := Int.eq_ofNat_of_zero_le h2.1
  unfold Sn.and
  rw [show (255 - (W : Int)).toNat = 255 - W by omega, Int.toNat_natCast, show ((f.toNat &&& W : Nat) : Int) + ((o.toNat &&& (255 - W) : Nat) : Int) = (((f.toNat &&& W) + (o.toNat &&& (255 - W)) : Nat) : Int) by simp, Int.toNat_natCast, Sn.nat_keep _ _ W (by omega)]
theorem Sn.bits_255 (x : Int) : bits .and .i64 x 255 = x % 256 := by
  have e : bits .and .i64 x 255 = IntKind.i64.wrap (((BitVec.ofInt 64 x &&& BitVec.ofInt 64 255).toNat : Nat) : Int) := rfl
  have h3 : ∀ n : Nat, n &&& 255 = n % 256 := fun n => Nat.and_two_pow_sub_one_eq_mod n 8
  rw [e, BitVec.toNat_and, show (BitVec.ofInt 64 255).toNat = 255 by decide, h3, BitVec.toNat_ofInt, IntKind.wrap_i64]
  omega
theorem Sn.made_is {old ref : Int} (k : Int) (ho : Sn.is old = true) (hr : Sn.is ref = true) : Sn.is (Sn.made k old ref) = true := by
  have h1 := Sn.is_iff.1 ho; have h2 := Sn.is_iff.1 hr
  refine Sn.is_iff.2 ?_
  unfold Sn.made
  (repeat' split) <;> omega
theorem Sn.round {old : Int} (ref : Int) (ho : Sn.is old = true) : Sn.made 7 (Sn.made 6 old ref) ref = old := by
  have h1 := Sn.is_iff.1 ho
  simp only [Sn.made, Int.reduceEq, if_true, if_false]
  omega
theorem Sn.twice (old ref : Int) : Sn.made 5 (Sn.made 5 old ref) ref = old := by
  simp only [Sn.made, Int.reduceEq, if_true, if_false]
  omega

/-- so much of the bits that both have -/
def Sn.low (a b : Int) (k : Nat) : Int := ((a.toNat &&& b.toNat) % 2 ^ k : Nat)
theorem Sn.low_all {a b : Int} (hb : Sn.is b = true) : Sn.low a b 8 = Sn.and a b := by
  have h2 := Sn.is_iff.1 hb
  have h3 : a.toNat &&& b.toNat ≤ b.toNat := Nat.and_le_right
  unfold Sn.low Sn.and
  rw [Nat.mod_eq_of_lt (by omega)]
theorem Sn.low_bd (a b : Int) (k : Nat) : 0 ≤ Sn.low a b k ∧ Sn.low a b k < 2 ^ k := by
  unfold Sn.low
  have := Nat.mod_lt (a.toNat &&& b.toNat) (Nat.two_pow_pos k)
  refine ⟨by omega, ?_⟩
  exact_mod_cast this
theorem Sn.bit (n : Nat) (k : Nat) : (((n : Int) / 2 ^ k % 2 == 1) : Bool) = n.testBit k := by
  rw [Nat.testBit_eq_decide_div_mod_eq, Bool.eq_iff_iff]
  have e : (n : Int) / 2 ^ k % 2 = ((n / 2 ^ k % 2 : Nat) : Int) := by simp
  rw [e]
  simp
  omega
theorem Sn.low_next {a b : Int} (ha : 0 ≤ a) (hb : 0 ≤ b) (k : Nat) : Sn.low a b (k + 1) = if (a / 2 ^ k % 2 == 1) && (b / 2 ^ k % 2 == 1) then Sn.low a b k + 2 ^ k else Sn.low a b k := by
  obtain ⟨A, rfl⟩ := Int.eq_ofNat_of_zero_le ha
  obtain ⟨B, rfl⟩ := Int.eq_ofNat_of_zero_le hb
  rw [Sn.bit, Sn.bit, ← Nat.testBit_and]
  unfold Sn.low
  rw [Int.toNat_natCast, Int.toNat_natCast, Nat.mod_pow_succ, Nat.testBit_eq_decide_div_mod_eq]
  rcases Nat.mod_two_eq_zero_or_one ((A &&& B) / 2 ^ k) with e | e <;> rw [e] <;> simp
end Go.Proofs.Ytnfkbbecanhdbaa
