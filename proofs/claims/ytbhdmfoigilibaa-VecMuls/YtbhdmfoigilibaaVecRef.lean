/-
  Contracts of the document's own answers for layer 5: what may be, rows, the matrix that moves nothing.
-/
import Derived.Test.YtbhdmfoigilibaaVecRows
namespace Go.Proofs.Ytbhdmfoigilibaa
open Go.RowKit

/-- from -most to most -/
def Vc.inb (most n : Int) : Bool := decide (-most ≤ n ∧ n ≤ most)
theorem Vc.inb_true {most n : Int} : Vc.inb most n = true ↔ -most ≤ n ∧ n ≤ most := by unfold Vc.inb; exact decide_eq_true_iff
theorem Vc.inb_false {most n : Int} : Vc.inb most n = false ↔ ¬ (-most ≤ n ∧ n ≤ most) := by unfold Vc.inb; exact decide_eq_false_iff_not
theorem Vc.wi_inb (most : Int) (f : Nat → Int) : Vc.wi most f 4 = (Vc.inb most (f 0) && Vc.inb most (f 1) && Vc.inb most (f 2) && Vc.inb most (f 3)) := by
  unfold Vc.wi Vc.inb
  simp [show List.range 4 = [0, 1, 2, 3] from rfl, Bool.and_assoc]
theorem Vc.wi_inb3 (most : Int) (f : Nat → Int) : Vc.wi most f 3 = (Vc.inb most (f 0) && Vc.inb most (f 1) && Vc.inb most (f 2)) := by
  unfold Vc.wi Vc.inb
  simp [show List.range 3 = [0, 1, 2] from rfl, Bool.and_assoc]

set_option maxHeartbeats 400000 in
theorem rwithin_any (n most : Int) (w : World) (hm : 0 ≤ most ∧ most ≤ 1073741824) :
    Calls Try.prog 18 #[.int .i64 n, .int .i64 most] w fun e w' => e = .returned (.bool (Vc.inb most n)) ∧ w = w' := by
  obtain ⟨hm1, hm2⟩ := hm
  go_enter Try.func18, Try.ntmps18
  go_wp2
  all_goals go_ret
  all_goals exact ⟨ret_bool (by unfold Vc.inb; simp; omega), rfl⟩

set_option maxHeartbeats 1000000 in
theorem rmay_any (m : Nat → Int) (w : World) :
    Calls Try.prog 7 #[.agg (Vc.ar (m))] w fun e w' => e = .returned (.bool (Vc.wi 16777216 m 16)) ∧ Kp w.heap.size w w' := by
  have HR := Lib.hid (Rw.new16 w m 23 rfl)
  go_enter Try.func7, Try.ntmps7
  go_wp2
  go_loop [3] (fun i => ∃ k : Nat, k ≤ 16 ∧ i = .int .i64 k ∧ ∀ j, j < k → -16777216 ≤ m j ∧ m j ≤ 16777216) (fun i => 16 - (intOf i).toNat)
  case atStart => exact ⟨0, by omega, rfl, fun j hj => by omega⟩
  case round =>
    obtain ⟨k, hk, rfl, hall⟩ := hrel
    have HA := Lib.hid hall
    clear hall
    by_cases hlt : k < 16
    · have hcell := HR.out.cell k hlt
      cases h1 : Vc.inb 16777216 (m k)
      · go_wp2_with ((go_at_call 18; refine (rwithin_any _ _ _ ?_).mono ?_; omega; rintro e w' ⟨rfl, rfl⟩))
        go_ret
        exact ⟨ret_bool (Vc.wi_false hlt (Vc.inb_false.1 h1)).symm, (Kp.refl _ _).alloc (Nat.le_refl _) _ _⟩
      · go_wp2_with ((go_at_call 18; refine (rwithin_any _ _ _ ?_).mono ?_; omega; rintro e w' ⟨rfl, rfl⟩))
        go_round
        case rel =>
          refine ⟨k + 1, by omega, by go_num, fun j hj => ?_⟩
          by_cases e : j = k
          · subst e; exact Vc.inb_true.1 h1
          · exact HA.out j (by omega)
        case measure => simp [intOf]; omega
    · obtain rfl : k = 16 := by omega
      go_wp2
      go_ret
      exact ⟨ret_bool (Vc.wi_true HA.out).symm, (Kp.refl _ _).alloc (Nat.le_refl _) _ _⟩

set_option maxHeartbeats 1000000 in
theorem rfits_any (v : Nat → Int) (w : World) :
    Calls Try.prog 8 #[.agg #[.int .i64 (v 0), .int .i64 (v 1), .int .i64 (v 2), .int .i64 (v 3)]] w fun e w' => e = .returned (.bool (Vc.wi 1073741824 v 4)) ∧ Kp w.heap.size w w' := by
  have HE := Lib.hid (Vc.wi_inb 1073741824 v)
  cases h0 : Vc.inb 1073741824 (v 0) <;> cases h1 : Vc.inb 1073741824 (v 1) <;> cases h2 : Vc.inb 1073741824 (v 2) <;> cases h3 : Vc.inb 1073741824 (v 3)
  all_goals
    go_enter Try.func8, Try.ntmps8
    go_wp2_with (first | go_skip | (go_at_call 18; refine (rwithin_any _ _ _ ?_).mono ?_; omega; rintro e w' ⟨rfl, rfl⟩))
    go_ret
    exact ⟨ret_bool (by rw [HE.out]; simp [h0, h1, h2, h3]), (Kp.refl _ _).alloc (Nat.le_refl _) _ _⟩

theorem floor_up {a b : Int} (hb : 0 < b) (c : 0 ≤ a ∨ b ∣ a) : a.tdiv b = a / b ∧ 0 ≤ a - a.tdiv b * b ∧ a - a.tdiv b * b < b := by
  have h1 := Int.tdiv_eq_ediv (a := a) (b := b)
  rw [if_pos c, Int.add_zero] at h1
  have h2 := Int.emod_add_mul_ediv a b
  have h3 := Int.emod_nonneg a (Int.ne_of_gt hb)
  have h4 := Int.emod_lt_of_pos a hb
  rw [h1, Int.mul_comm (a / b) b]
  exact ⟨rfl, by omega, by omega⟩
theorem floor_dn {a b : Int} (hb : 0 < b) (c : ¬ (0 ≤ a ∨ b ∣ a)) : a.tdiv b - 1 = a / b ∧ a - a.tdiv b * b < 0 ∧ -b ≤ a - a.tdiv b * b := by
  have h1 := Int.tdiv_eq_ediv (a := a) (b := b)
  rw [if_neg c, Int.sign_eq_one_of_pos hb] at h1
  have h2 := Int.emod_add_mul_ediv a b
  have h3 := Int.emod_nonneg a (Int.ne_of_gt hb)
  have h4 := Int.emod_lt_of_pos a hb
  have h5 : (a / b + 1) * b = b * (a / b) + b := by rw [Int.add_mul, Int.one_mul, Int.mul_comm]
  rw [h1, h5]
  exact ⟨by omega, by omega, by omega⟩

set_option maxHeartbeats 1000000 in
theorem rfloor_pos (a b : Int) (w : World) (ha : -9223372036854775808 ≤ a ∧ a ≤ 9223372036854775807) (hb : 1 ≤ b ∧ b ≤ 65536) :
    Calls Try.prog 27 #[.int .i64 a, .int .i64 b] w fun e w' => e = .returned (.int .i64 (a / b)) ∧ w = w' := by
  obtain ⟨ha1, ha2⟩ := ha
  obtain ⟨hb1, hb2⟩ := hb
  have hb0 : b ≠ 0 := by omega
  have hb3 : (b == -1) = false := by simp; omega
  have ht : (a.tdiv b).natAbs ≤ a.natAbs := by rw [Int.natAbs_tdiv]; exact Nat.div_le_self _ _
  have hp : (a.tdiv b * b).natAbs ≤ a.natAbs := by rw [Int.natAbs_mul, Int.natAbs_tdiv]; exact Nat.div_mul_le_self _ _
  have hl : -9223372036854775808 ≤ a / b := Int.le_ediv_of_mul_le (by omega) (by omega)
  have hx9 : ¬ (a = -9223372036854775808 ∧ a.tdiv b = 9223372036854775808) := fun h => by
    have := Int.tdiv_nonneg (a := -a) (b := b) (by omega) (by omega)
    rw [Int.neg_tdiv] at this
    omega
  have ht1 : -9223372036854775808 ≤ a.tdiv b := by omega
  have ht2 : a.tdiv b ≤ 9223372036854775807 := by omega
  have HP := Lib.hid hp
  have HL := Lib.hid hl
  clear ht hp hl hx9
  cases hx : (a == -9223372036854775808)
  all_goals
    by_cases c : 0 ≤ a ∨ b ∣ a
    · obtain ⟨h1, h2, h3⟩ := floor_up (b := b) (by omega) c
      have HE := Lib.hid h1
      have hq1 : -9223372036854775808 ≤ a.tdiv b * b := by have := HP.out; omega
      have hq2 : a.tdiv b * b ≤ 9223372036854775807 := by omega
      clear h1 c
      go_enter Try.func27, Try.ntmps27
      go_wp2
      all_goals go_ret
      all_goals exact ⟨ret_int HE.out, rfl⟩
    · obtain ⟨h1, h2, h3⟩ := floor_dn (b := b) (by omega) c
      have HE := Lib.hid h1
      have hq1 : -9223372036854775808 ≤ a.tdiv b * b := by omega
      have hq2 : a.tdiv b * b ≤ 9223372036854775807 := by have := HP.out; omega
      have hq3 : -9223372036854775808 ≤ a.tdiv b - 1 := by have := HL.out; omega
      clear h1 c
      go_enter Try.func27, Try.ntmps27
      go_wp2
      go_ret
      exact ⟨ret_int HE.out, rfl⟩
end Go.Proofs.Ytbhdmfoigilibaa
