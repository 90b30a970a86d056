/-
  Contracts of layer 2 (wide), second part: products of 128 bits, amounts.
-/
import Derived.Test.YtiigbpfoaoekhaaWideWalks
namespace Go.Proofs.Ytiigbpfoaoekhaa
open Go.RowKit

theorem Wd.mask32 (a : Nat) (ha : a < 18446744073709551616) : bits .and .u64 (a : Int) 4294967295 = ((a % 4294967296 : Nat) : Int) := by
  have h := bits_and_u64_nat a 4294967295 ha (by omega)
  rw [show a &&& 4294967295 = a % 4294967296 from Nat.and_two_pow_sub_one_eq_mod a 32] at h
  exact h

theorem ret_two {k l : IntKind} {a b c d : Int} (h : a = c) (h' : b = d) : Ending.returned (.tuple #[.int k a, .int l b]) = .returned (.tuple #[.int k c, .int l d]) := by rw [h, h']
theorem Wd.up_div (a : Nat) : (a : Int) / 4294967296 = ((a / 4294967296 : Nat) : Int) := by omega
theorem Wd.up_mul (a b : Nat) : (a : Int) * (b : Int) = ((a * b : Nat) : Int) := (Int.natCast_mul a b).symm
theorem Wd.up_add (a b : Nat) : (a : Int) + (b : Int) = ((a + b : Nat) : Int) := (Int.natCast_add a b).symm
theorem Wd.up_wrap (a : Nat) (ha : a < 18446744073709551616) : IntKind.u64.wrap (a : Int) = (a : Int) := by rw [IntKind.wrap_u64]; omega
theorem Wd.up_mod (a : Nat) : IntKind.u64.wrap (a : Int) = ((a % 18446744073709551616 : Nat) : Int) := by rw [IntKind.wrap_u64]; omega

set_option maxHeartbeats 1000000 in
theorem mul64_any (x y : Nat) (hx : x < 18446744073709551616) (hy : y < 18446744073709551616) (w : World) :
    Calls Try.prog 62 #[.int .u64 x, .int .u64 y] w fun e w' => e = .returned (.tuple #[.int .u64 ((x * y / 18446744073709551616 : Nat) : Int), .int .u64 ((x * y % 18446744073709551616 : Nat) : Int)]) ∧ w = w' := by
  go_enter Try.func62, Try.ntmps62
  go_wp2
  go_ret2
  obtain ⟨p1, p2, p3, p4⟩ := Lib.mul64_hi x y hx hy
  have q1 := Lib.half_mul_le (a := x / 4294967296) (b := y / 4294967296) (by omega) (by omega)
  have q2 := Lib.half_mul_le (a := x / 4294967296) (b := y % 4294967296) (by omega) (by omega)
  have q3 := Lib.half_mul_le (a := x % 4294967296) (b := y / 4294967296) (by omega) (by omega)
  refine ⟨ret_two ?_ ?_, rfl⟩
  · simp only [Wd.mask32 x hx, Wd.mask32 y hy, Wd.up_div, Wd.up_mul]
    rw [Wd.up_wrap (x / 4294967296 * (y / 4294967296)) (by omega), Wd.up_wrap (x / 4294967296 * (y % 4294967296)) (by omega), Wd.up_wrap (x % 4294967296 * (y % 4294967296)) p1, Wd.up_wrap (x % 4294967296 * (y / 4294967296)) (by omega)]
    simp only [Wd.up_div, Wd.up_add]
    rw [Wd.up_wrap _ p2, Wd.mask32 _ p2]
    simp only [Wd.up_div, Wd.up_add]
    rw [Wd.up_wrap _ p3]
    simp only [Wd.up_div]
    rw [Wd.up_wrap (x / 4294967296 * (y / 4294967296) + _) (by omega)]
    simp only [Wd.up_add]
    rw [Wd.up_wrap _ (by omega), p4]
  · rw [Wd.up_mul, Wd.up_mod]


set_option maxHeartbeats 400000 in
theorem amount_any (x : Int) (w : World) :
    Calls Try.prog 57 #[.agg #[.int .i64 (Wd.hi (x)), .int .u64 (Wd.lo (x))]] w fun e w' => e = .returned (.tuple #[.int .u64 (Wd.ahi x), .int .u64 (Wd.alo x)]) ∧ Kp w.heap.size w w' := by
  obtain ⟨a1, a2⟩ := Wd.hi_bd x
  obtain ⟨b1, b2⟩ := Wd.lo_bd x
  by_cases h0 : Wd.hi x < 0
  · have HE := Lib.hid (Wd.am_neg h0)
    go_enter Try.func57, Try.ntmps57
    go_wp2_with fail
    refine (neg_any _ _).mono ?_
    rintro e w1 ⟨rfl, hk1⟩
    have hc1 := hk1.cells; have hf1 := hk1.frozen; have hz1 := hk1.size; have HK1 := Lib.hid hk1; clear hk1; simp at hc1 hf1 hz1
    go_wp2_with fail
    go_quiet (fail)
    go_wp2
    go_ret2
    exact ⟨ret_two (by rw [IntKind.wrap_u64]; exact HE.out.1.symm) HE.out.2.symm, (((((Kp.refl _ _).alloc (Nat.le_refl _) _ _).trans (HK1.out.mono (by simp))).setCell (Nat.le_refl _) _).setCell (Nat.le_refl _) _).drewN _⟩
  · have HE := Lib.hid (Wd.am_pos h0)
    go_enter Try.func57, Try.ntmps57
    go_wp2_with fail
    go_quiet (fail)
    go_wp2
    go_ret2
    exact ⟨ret_two HE.out.1.symm HE.out.2.symm, ((Kp.refl _ _).alloc (Nat.le_refl _) _ _).drewN _⟩

theorem mul64_int (p q : Int) (w : World) (hp : 0 ≤ p ∧ p < 18446744073709551616) (hq : 0 ≤ q ∧ q < 18446744073709551616) :
    Calls Try.prog 62 #[.int .u64 p, .int .u64 q] w fun e w' => e = .returned (.tuple #[.int .u64 (Wd.ph p q), .int .u64 (Wd.pl p q)]) ∧ w = w' := by
  obtain ⟨x, rfl⟩ := Int.eq_ofNat_of_zero_le hp.1
  obtain ⟨y, rfl⟩ := Int.eq_ofNat_of_zero_le hq.1
  refine (mul64_any x y (by omega) (by omega) w).mono ?_
  rintro e w' ⟨rfl, rfl⟩
  refine ⟨ret_two ?_ ?_, rfl⟩
  · unfold Wd.ph; rw [Wd.up_mul]; omega
  · unfold Wd.pl; rw [Wd.up_mul]; omega

set_option maxHeartbeats 1000000 in
theorem mul_any (a b : Int) (w : World) (ha : -9223372036854775808 ≤ a ∧ a ≤ 9223372036854775807) (hb : -9223372036854775808 ≤ b ∧ b ≤ 9223372036854775807) :
    Calls Try.prog 56 #[.int .i64 a, .int .i64 b] w fun e w' => e = .returned (.agg #[.int .i64 (Wd.hi (a * b)), .int .u64 (Wd.lo (a * b))]) ∧ Kp w.heap.size w w' := by
  obtain ⟨a1, a2⟩ := ha
  obtain ⟨b1, b2⟩ := hb
  have u1 := Wd.u_bd a
  have u2 := Wd.u_bd b
  have HP := Lib.hid (Wd.mul_halves a b ⟨a1, a2⟩ ⟨b1, b2⟩)
  have HA := Lib.hid (fun h => Wd.u_pos (a := a) h a2)
  have HB := Lib.hid (fun h => Wd.u_pos (a := b) h b2)
  by_cases h0 : a < 0 <;> by_cases h1 : b < 0
  all_goals
    go_enter Try.func56, Try.ntmps56
    go_wp2_with fail
    refine (mul64_int _ _ _ (by omega) (by omega)).mono ?_
    rintro e w' ⟨rfl, rfl⟩
    go_wp2
    refine bodyPost_ret (by simp [results, Try.results56, go_sem]; exact ⟨rfl, rfl⟩) rfl ⟨ret_w ?_ ?_, ((Kp.refl _ _).alloc (Nat.le_refl _) _ _).alloc (by simp) _ _⟩
    · rw [HP.out.2]; (try rw [HA.out (by omega)]); (try rw [HB.out (by omega)]); (repeat' split) <;> (unfold wrap64; omega)
    · rw [HP.out.1]; (try rw [HA.out (by omega)]); (try rw [HB.out (by omega)])
end Go.Proofs.Ytiigbpfoaoekhaa
