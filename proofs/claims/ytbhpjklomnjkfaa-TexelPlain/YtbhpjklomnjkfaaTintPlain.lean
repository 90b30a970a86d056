/-
  Plain facts of layer 6 (tint): channels, packed colours, products of channels; no program in sight.
-/
import Derived.RowKit
import Derived.Laws.BitsLemmas
import Derived.Laws.Bits64
namespace Go.Proofs.Ytbhpjklomnjkfaa
open Go.RowKit

/-- may a number be a channel? -/
def Tn.is (x : Int) : Bool := decide (0 ≤ x ∧ x ≤ 255)
def Tn.right (r g b a : Int) : Bool := Tn.is r && Tn.is g && Tn.is b && Tn.is a
/-- a number, held from lo to hi -/
def Tn.sat (n lo hi : Int) : Int := if n < lo then lo else if hi < n then hi else n
/-- a number, held as a channel -/
def Tn.ch (x : Int) : Int := Tn.sat x 0 255
def Tn.pack (r g b a : Int) : Int := ((r * 256 + g) * 256 + b) * 256 + a
/-- a channel of a packed colour, from 0 to 3 -/
def Tn.part (n : Int) (i : Nat) : Int := n / 256 ^ (3 - i) % 256
/-- one channel times another one -/
def Tn.tm (x y : Int) : Int := (x * y + 127) / 255
/-- how light -/
def Tn.gray (r g b : Int) : Int := (77 * r + 150 * g + 29 * b + 128) / 256
def Tn.low (x y : Int) : Int := if x < y then x else y

theorem Tn.is_iff {x : Int} : Tn.is x = true ↔ 0 ≤ x ∧ x ≤ 255 := by simp [Tn.is]
theorem Tn.right_iff {r g b a : Int} : Tn.right r g b a = true ↔ (0 ≤ r ∧ r ≤ 255) ∧ (0 ≤ g ∧ g ≤ 255) ∧ (0 ≤ b ∧ b ≤ 255) ∧ (0 ≤ a ∧ a ≤ 255) := by
  simp only [Tn.right, Bool.and_eq_true, Tn.is_iff]
  constructor
  · rintro ⟨⟨⟨h1, h2⟩, h3⟩, h4⟩; exact ⟨h1, h2, h3, h4⟩
  · rintro ⟨h1, h2, h3, h4⟩; exact ⟨⟨⟨h1, h2⟩, h3⟩, h4⟩
theorem Tn.ch_bd (x : Int) : 0 ≤ Tn.ch x ∧ Tn.ch x ≤ 255 := by unfold Tn.ch Tn.sat; split <;> (try split) <;> omega
theorem Tn.ch_is (x : Int) : (x == Tn.ch x) = Tn.is x := by
  rw [Bool.eq_iff_iff, beq_iff_eq, Tn.is_iff]
  unfold Tn.ch Tn.sat
  split <;> (try split) <;> omega
theorem Tn.ch_right (x y z u : Int) : Tn.right (Tn.ch x) (Tn.ch y) (Tn.ch z) (Tn.ch u) = true := Tn.right_iff.2 ⟨Tn.ch_bd _, Tn.ch_bd _, Tn.ch_bd _, Tn.ch_bd _⟩
theorem Tn.part0 (n : Int) : Tn.part n 0 = n / 16777216 % 256 := rfl
theorem Tn.part1 (n : Int) : Tn.part n 1 = n / 65536 % 256 := rfl
theorem Tn.part2 (n : Int) : Tn.part n 2 = n / 256 % 256 := rfl
theorem Tn.part3 (n : Int) : Tn.part n 3 = n % 256 := by show n / 1 % 256 = _; rw [Int.ediv_one]
theorem Tn.pack_bd {r g b a : Int} (h : Tn.right r g b a = true) : 0 ≤ Tn.pack r g b a ∧ Tn.pack r g b a ≤ 4294967295 := by
  have := Tn.right_iff.1 h; unfold Tn.pack; omega
theorem Tn.pack_back {r g b a : Int} (h : Tn.right r g b a = true) : Tn.part (Tn.pack r g b a) 0 = r ∧ Tn.part (Tn.pack r g b a) 1 = g ∧ Tn.part (Tn.pack r g b a) 2 = b ∧ Tn.part (Tn.pack r g b a) 3 = a := by
  have := Tn.right_iff.1 h
  rw [Tn.part0, Tn.part1, Tn.part2, Tn.part3]
  unfold Tn.pack; omega
theorem Tn.mul_bd {x y : Int} (hx : 0 ≤ x ∧ x ≤ 255) (hy : 0 ≤ y ∧ y ≤ 255) : 0 ≤ x * y ∧ x * y ≤ 255 * x ∧ x * y ≤ 255 * y := by
  refine ⟨Int.mul_nonneg hx.1 hy.1, ?_, Int.mul_le_mul_of_nonneg_right hx.2 hy.1⟩
  have := Int.mul_le_mul_of_nonneg_left hy.2 hx.1
  rwa [Int.mul_comm x 255] at this
theorem Tn.tm_bd {x y : Int} (hx : 0 ≤ x ∧ x ≤ 255) (hy : 0 ≤ y ∧ y ≤ 255) : 0 ≤ Tn.tm x y ∧ Tn.tm x y ≤ x ∧ Tn.tm x y ≤ y := by
  have := Tn.mul_bd hx hy
  unfold Tn.tm; omega
theorem Tn.tm_low {x y : Int} (hx : 0 ≤ x ∧ x ≤ 255) (hy : 0 ≤ y ∧ y ≤ 255) : Tn.tm x y ≤ Tn.low x y := by
  have := Tn.tm_bd hx hy
  unfold Tn.low; split <;> omega
theorem Tn.tm_white (x : Int) : Tn.tm x 255 = x := by unfold Tn.tm; omega
theorem Tn.tm_black (x : Int) : Tn.tm x 0 = 0 := by unfold Tn.tm; omega
theorem Tn.gray_bd {r g b a : Int} (h : Tn.right r g b a = true) : 0 ≤ Tn.gray r g b ∧ Tn.gray r g b ≤ 255 := by
  have := Tn.right_iff.1 h; unfold Tn.gray; omega

theorem bits_255 (x : Int) : bits .and .i64 x 255 = x % 256 := by
  have e : bits .and .i64 x 255 = IntKind.i64.wrap (((BitVec.ofInt 64 x &&& BitVec.ofInt 64 255).toNat : Nat) : Int) := rfl
  have h3 : ∀ n : Nat, n &&& 255 = n % 256 := fun n => Nat.and_two_pow_sub_one_eq_mod n 8
  rw [e, BitVec.toNat_and, show (BitVec.ofInt 64 255).toNat = 255 by decide, h3, BitVec.toNat_ofInt, IntKind.wrap_i64]
  omega
theorem wraps_i64 (n : Int) (h₀ : 0 ≤ n) (h₁ : n < 2 ^ 63) : IntKind.i64.wrap n = n := by rw [IntKind.wrap_i64]; omega
theorem bits_or8 {x y : Int} (hx₀ : 0 ≤ x) (hx₁ : x < 36028797018963968) (h₀ : 0 ≤ y) (h₁ : y ≤ 255) : bits .or .i64 (x * 256) y = x * 256 + y :=
  bits_join .i64 63 (by decide) wraps_i64 8 (x * 256) y (by omega) (by show x * 256 % 256 = 0; omega) (by show x * 256 < 9223372036854775808; omega) h₀ (by show y < 256; omega) (by show y < 9223372036854775808; omega)
end Go.Proofs.Ytbhpjklomnjkfaa
