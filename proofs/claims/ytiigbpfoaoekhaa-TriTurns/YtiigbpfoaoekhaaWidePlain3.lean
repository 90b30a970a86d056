/-
  Plain facts on whole numbers for layer 2 (wide), third part: a quotient of two words by one, half a word at a time.
-/
import Derived.Test.YtiigbpfoaoekhaaWidePlain2
namespace Go.Proofs.Ytiigbpfoaoekhaa.Wd
open Go.RowKit
set_option linter.unusedVariables false

section
variable {U Y y1 y0 u q r : Int}
/-- the next half of the quotient -/
def nq (U u Y : Int) : Int := (U * 4294967296 + u) / Y
def nr (U u Y : Int) : Int := (U * 4294967296 + u) % Y
theorem nq_bd (hU : 0 ≤ U) (hUY : U < Y) (hu : 0 ≤ u) (hu1 : u < 4294967296) : 0 ≤ nq U u Y ∧ nq U u Y < 4294967296 := by
  unfold nq
  refine ⟨Int.ediv_nonneg (by omega) (by omega), Int.ediv_lt_of_lt_mul (by omega) ?_⟩
  omega
theorem nr_bd (hU : 0 ≤ U) (hUY : U < Y) : 0 ≤ nr U u Y ∧ nr U u Y < Y :=
  ⟨Int.emod_nonneg _ (by omega), Int.emod_lt_of_pos _ (by omega)⟩
theorem nq_nr (U u Y : Int) : U * 4294967296 + u = nq U u Y * Y + nr U u Y := by
  unfold nq nr; have := Int.mul_ediv_add_emod (U * 4294967296 + u) Y; rw [Int.mul_comm] at this; omega
/-- the first guess -/
theorem guess (hY : Y = y1 * 4294967296 + y0) (h1 : 2147483648 ≤ y1) (h0 : 0 ≤ y0) (h0' : y0 < 4294967296) (hU : 0 ≤ U) (hUY : U < Y) (hu1 : u < 4294967296) :
    0 ≤ U / y1 ∧ U / y1 ≤ 4294967297 ∧ 0 ≤ U - U / y1 * y1 ∧ U - U / y1 * y1 < y1 ∧ nq U u Y ≤ U / y1 := by
  have e := Int.mul_ediv_add_emod U y1
  have b1 := Int.emod_nonneg U (b := y1) (by omega)
  have b2 := Int.emod_lt_of_pos U (b := y1) (by omega)
  rw [Int.mul_comm] at e
  refine ⟨Int.ediv_nonneg hU (by omega), ?_, by omega, by omega, ?_⟩
  · have : U / y1 < 4294967298 := Int.ediv_lt_of_lt_mul (by omega) (by omega)
    omega
  · apply Int.le_ediv_of_mul_le (by omega)
    have k := Int.ediv_mul_le (U * 4294967296 + u) (b := Y) (by omega)
    have hq : 0 ≤ nq U u Y ∨ nq U u Y < 0 := by omega
    change nq U u Y * Y ≤ _ at k
    rcases hq with hq | hq
    · have k2 : nq U u Y * y1 * 4294967296 ≤ U * 4294967296 + u := by
        have : nq U u Y * Y = nq U u Y * y1 * 4294967296 + nq U u Y * y0 := by rw [hY]; grind
        have := Int.mul_nonneg hq h0
        omega
      generalize nq U u Y * y1 = t at *
      omega
    · have : nq U u Y * y1 ≤ 0 := Int.mul_nonpos_of_nonpos_of_nonneg (by omega) (by omega)
      omega
/-- where the test holds the guess is too great -/
theorem too_great (hY : Y = y1 * 4294967296 + y0) (hYp : 0 < Y) (hUq : U = q * y1 + r) (h : 4294967296 * r + u < q * y0) : nq U u Y ≤ q - 1 := by
  have : nq U u Y < q := by
    unfold nq
    apply Int.ediv_lt_of_lt_mul hYp
    rw [hUq, hY]; grind
  omega
theorem too_great' (hU : 0 ≤ U) (hUY : U < Y) (hu : 0 ≤ u) (hu1 : u < 4294967296) (h : 4294967296 ≤ q) : nq U u Y ≤ q - 1 := by
  have := nq_bd hU hUY hu hu1; omega
/-- where it does not, it is the quotient -/
theorem found (hY : Y = y1 * 4294967296 + y0) (hYp : 0 < Y) (hUq : U = q * y1 + r) (hq : nq U u Y ≤ q) (h : q * y0 ≤ 4294967296 * r + u) : q = nq U u Y := by
  have : q ≤ nq U u Y := by
    unfold nq
    apply Int.le_ediv_of_mul_le hYp
    rw [hUq, hY]; grind
  omega
theorem found' (hY : Y = y1 * 4294967296 + y0) (hYp : 0 < Y) (hUq : U = q * y1 + r) (hq : nq U u Y ≤ q) (hu : 0 ≤ u) (h0 : 0 ≤ y0) (h0' : y0 < 4294967296) (hq0 : 0 ≤ q) (hqb : q ≤ 4294967296) (hr : 4294967296 ≤ r) : q = nq U u Y := by
  apply found hY hYp hUq hq
  have : q * y0 ≤ 4294967296 * 4294967296 := Int.mul_le_mul hqb (by omega) h0 (by omega)
  omega
/-- what is left, as words -/
theorem left_word (hU : 0 ≤ U) (hUY : U < Y) (hYw : Y ≤ 18446744073709551615) :
    IntKind.u64.wrap (IntKind.u64.wrap (IntKind.u64.wrap (U * 4294967296) + u) - IntKind.u64.wrap (nq U u Y * Y)) = nr U u Y := by
  have e := nq_nr U u Y
  have b := nr_bd (u := u) hU hUY
  rw [IntKind.wrap_u64, IntKind.wrap_u64, IntKind.wrap_u64, IntKind.wrap_u64]
  generalize nq U u Y * Y = t at *
  generalize nr U u Y = n at *
  omega
end

/-- two halves make the quotient, and what is left -/
theorem two_steps (U V Y : Int) (hU : 0 ≤ U) (hUY : U < Y) (hV : 0 ≤ V) (hV1 : V ≤ 18446744073709551615) :
    (U * 18446744073709551616 + V) / Y = nq U (V / 4294967296) Y * 4294967296 + nq (nr U (V / 4294967296) Y) (V % 4294967296) Y ∧
    (U * 18446744073709551616 + V) % Y = nr (nr U (V / 4294967296) Y) (V % 4294967296) Y := by
  have e1 := nq_nr U (V / 4294967296) Y
  have e2 := nq_nr (nr U (V / 4294967296) Y) (V % 4294967296) Y
  have b1 := nr_bd (u := V / 4294967296) hU hUY
  have b2 := nr_bd (u := V % 4294967296) b1.1 b1.2
  generalize nq U (V / 4294967296) Y = q1 at *
  generalize nr U (V / 4294967296) Y = r1 at *
  generalize nq r1 (V % 4294967296) Y = q0 at *
  generalize nr r1 (V % 4294967296) Y = r0 at *
  have e : U * 18446744073709551616 + V = r0 + Y * (q1 * 4294967296 + q0) := by
    have h1 : q1 * Y * 4294967296 + q0 * Y = Y * (q1 * 4294967296 + q0) := by grind
    rw [← h1]
    generalize q1 * Y = s at *
    generalize q0 * Y = t at *
    omega
  rw [e, Int.add_mul_ediv_left _ _ (by omega), Int.add_mul_emod_self_left, Int.ediv_eq_zero_of_lt b2.1 b2.2, Int.emod_eq_of_lt b2.1 b2.2]
  omega
theorem pow2 (s : Nat) : (0 : Int) < 2 ^ s := Int.pow_pos (by omega)
/-- shifted up -/
theorem scaled (h l y : Int) (s : Nat) (hs : s ≤ 63) (h0 : 0 ≤ h) (hl : 0 ≤ l) (hl1 : l ≤ 18446744073709551615) (hy : y * 2 ^ s ≤ 18446744073709551615) (hhy : h < y) :
    bits .or .u64 (IntKind.u64.wrap (h * 2 ^ s)) (l / 2 ^ (64 - s)) = h * 2 ^ s + l / 2 ^ (64 - s) ∧
    0 ≤ h * 2 ^ s + l / 2 ^ (64 - s) ∧ h * 2 ^ s + l / 2 ^ (64 - s) < y * 2 ^ s ∧
    (h * 2 ^ s + l / 2 ^ (64 - s)) * 18446744073709551616 + IntKind.u64.wrap (l * 2 ^ s) = (h * 18446744073709551616 + l) * 2 ^ s := by
  have e64 : (2 : Int) ^ (64 - s) * 2 ^ s = 18446744073709551616 := by rw [← Int.pow_add, show 64 - s + s = 64 by omega]; decide
  have hS := pow2 s
  have hT := pow2 (64 - s)
  have b0 : 0 ≤ h * 2 ^ s := Int.mul_nonneg h0 (Int.le_of_lt hS)
  have b1 : h * 2 ^ s + 2 ^ s ≤ y * 2 ^ s := by
    have : (h + 1) * 2 ^ s ≤ y * 2 ^ s := Int.mul_le_mul_of_nonneg_right (by omega) (Int.le_of_lt hS)
    grind
  have b2 : 0 ≤ l / 2 ^ (64 - s) := Int.ediv_nonneg hl (Int.le_of_lt hT)
  have b3 : l / 2 ^ (64 - s) < 2 ^ s := by
    apply Int.ediv_lt_of_lt_mul hT
    rw [Int.mul_comm, e64]; omega
  have hw : IntKind.u64.wrap (h * 2 ^ s) = h * 2 ^ s := by rw [IntKind.wrap_u64]; omega
  refine ⟨?_, by omega, by omega, ?_⟩
  · rw [hw]
    refine bits_join .u64 64 (by decide) (fun n p p' => by rw [IntKind.wrap_u64]; omega) s _ _ b0 (Int.mul_emod_left _ _) (by omega) b2 b3 (by omega)
  · have e := Int.mul_ediv_add_emod l (2 ^ (64 - s))
    have m1 := Int.emod_nonneg l (Int.ne_of_gt hT)
    have m2 := Int.emod_lt_of_pos l hT
    have key : l * 2 ^ s = l / 2 ^ (64 - s) * 18446744073709551616 + (l % 2 ^ (64 - s)) * 2 ^ s := by
      rw [← e64]; grind
    have m3 : 0 ≤ (l % 2 ^ (64 - s)) * 2 ^ s := Int.mul_nonneg m1 (Int.le_of_lt hS)
    have m4 : (l % 2 ^ (64 - s)) * 2 ^ s < 18446744073709551616 := by rw [← e64]; exact Int.mul_lt_mul_of_pos_right m2 hS
    rw [show (h * 18446744073709551616 + l) * 2 ^ s = (h * 2 ^ s) * 18446744073709551616 + l * 2 ^ s by grind, IntKind.wrap_u64, key]
    generalize (l % 2 ^ (64 - s)) * 2 ^ s = t at *
    generalize h * 2 ^ s = p at *
    omega
theorem unscaled (N y : Int) (s : Nat) : (N * 2 ^ s) / (y * 2 ^ s) = N / y ∧ (N * 2 ^ s) % (y * 2 ^ s) / 2 ^ s = N % y := by
  have hS := pow2 s
  rw [Int.mul_comm N, Int.mul_comm y, Int.mul_ediv_mul_of_pos _ _ hS, Int.mul_emod_mul_of_pos _ _ hS, Int.mul_ediv_cancel_left _ (Int.ne_of_gt hS)]
  exact ⟨rfl, rfl⟩
end Go.Proofs.Ytiigbpfoaoekhaa.Wd
