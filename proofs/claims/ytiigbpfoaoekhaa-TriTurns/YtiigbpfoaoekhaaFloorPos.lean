/-
  The document's own Floor (layer 1) by a divisor above 0.
-/
import Derived.Test.YtiigbpfoaoekhaaMem
namespace Go.Proofs.Ytiigbpfoaoekhaa
open Go.RowKit

theorem Fq.up {a b : Int} (hb : 0 < b) (c : 0 ≤ a ∨ b ∣ a) : a.tdiv b = a / b ∧ 0 ≤ a - a.tdiv b * b ∧ a - a.tdiv b * b < b := by
  have h1 := Int.tdiv_eq_ediv (a := a) (b := b)
  rw [if_pos c, Int.add_zero] at h1
  have h2 := Int.emod_add_mul_ediv a b
  have h3 := Int.emod_nonneg a (Int.ne_of_gt hb)
  have h4 := Int.emod_lt_of_pos a hb
  rw [h1, Int.mul_comm (a / b) b]
  exact ⟨rfl, by omega, by omega⟩
theorem Fq.dn {a b : Int} (hb : 0 < b) (c : ¬ (0 ≤ a ∨ b ∣ a)) : a.tdiv b - 1 = a / b ∧ a - a.tdiv b * b < 0 ∧ -b ≤ a - a.tdiv b * b := by
  have h1 := Int.tdiv_eq_ediv (a := a) (b := b)
  rw [if_neg c, Int.sign_eq_one_of_pos hb] at h1
  have h2 := Int.emod_add_mul_ediv a b
  have h3 := Int.emod_nonneg a (Int.ne_of_gt hb)
  have h4 := Int.emod_lt_of_pos a hb
  have h5 : (a / b + 1) * b = b * (a / b) + b := by rw [Int.add_mul, Int.one_mul, Int.mul_comm]
  rw [h1, h5]
  exact ⟨by omega, by omega, by omega⟩

set_option maxHeartbeats 1000000 in
theorem rfloor_pos (a b : Int) (w : World) (ha : -9223372036854775808 ≤ a ∧ a ≤ 9223372036854775807) (hb : 1 ≤ b ∧ b ≤ 9223372036854775807) :
    Calls Try.prog 41 #[.int .i64 a, .int .i64 b] w fun e w' => e = .returned (.int .i64 (a / b)) ∧ w = w' := by
  obtain ⟨ha1, ha2⟩ := ha
  obtain ⟨hb1, hb2⟩ := hb
  have hb0 : b ≠ 0 := by omega
  have hb3 : (b == -1) = false := by simp; omega
  have ht : (a.tdiv b).natAbs ≤ a.natAbs := by rw [Int.natAbs_tdiv]; exact Nat.div_le_self _ _
  have hp : (a.tdiv b * b).natAbs ≤ a.natAbs := by rw [Int.natAbs_mul, Int.natAbs_tdiv]; exact Nat.div_mul_le_self _ _
  have hl : -9223372036854775808 ≤ a / b := Int.le_ediv_of_mul_le (by omega) (by omega)
  have hx9 : ¬ (a = -9223372036854775808 ∧ a.tdiv b = 9223372036854775808) := fun h => by
    have := Int.tdiv_nonneg (a := -a) (b := b) (by omega) (by omega)
    rw [Int.neg_tdiv] at this
    omega
  have ht1 : -9223372036854775808 ≤ a.tdiv b := by omega
  have ht2 : a.tdiv b ≤ 9223372036854775807 := by omega
  have HP := Lib.hid hp
  have HL := Lib.hid hl
  clear ht hp hl hx9
  cases hx : (a == -9223372036854775808)
  all_goals
    by_cases c : 0 ≤ a ∨ b ∣ a
    · obtain ⟨h1, h2, h3⟩ := Fq.up (b := b) (by omega) c
      have HE := Lib.hid h1
      have hq1 : -9223372036854775808 ≤ a.tdiv b * b := by have := HP.out; omega
      have hq2 : a.tdiv b * b ≤ 9223372036854775807 := by omega
      clear h1 c
      go_enter Try.func41, Try.ntmps41
      go_wp2
      all_goals go_ret
      all_goals exact ⟨ret_int HE.out, rfl⟩
    · obtain ⟨h1, h2, h3⟩ := Fq.dn (b := b) (by omega) c
      have HE := Lib.hid h1
      have hq1 : -9223372036854775808 ≤ a.tdiv b * b := by omega
      have hq2 : a.tdiv b * b ≤ 9223372036854775807 := by have := HP.out; omega
      have hq3 : -9223372036854775808 ≤ a.tdiv b - 1 := by have := HL.out; omega
      clear h1 c
      go_enter Try.func41, Try.ntmps41
      go_wp2
      go_ret
      exact ⟨ret_int HE.out, rfl⟩
end Go.Proofs.Ytiigbpfoaoekhaa
