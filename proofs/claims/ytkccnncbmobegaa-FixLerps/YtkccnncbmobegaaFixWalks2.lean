/-
  Contracts of layer 1 (fix), second part: Rem, Low, High, Power, the loop of the reference's product, rounding, going from one number to another.
-/
import Derived.Test.YtkccnncbmobegaaFixWalks
import Derived.Lib.Hide
namespace Go.Proofs.Ytkccnncbmobegaa
open Go.RowKit

set_option maxHeartbeats 400000 in
theorem low_any (a b : Int) (w : World) :
    Calls Try.prog 25 #[.int .i64 a, .int .i64 b] w fun e w' => e = .returned (.int .i64 (Fx.low a b)) ∧ w = w' := by
  go_enter Try.func25, Try.ntmps25
  go_wp2
  all_goals go_ret
  all_goals exact ⟨ret_int (by unfold Fx.low; (repeat' split) <;> omega), rfl⟩

set_option maxHeartbeats 400000 in
theorem high_any (a b : Int) (w : World) :
    Calls Try.prog 26 #[.int .i64 a, .int .i64 b] w fun e w' => e = .returned (.int .i64 (Fx.high a b)) ∧ w = w' := by
  go_enter Try.func26, Try.ntmps26
  go_wp2
  all_goals go_ret
  all_goals exact ⟨ret_int (by unfold Fx.high; (repeat' split) <;> omega), rfl⟩

set_option maxHeartbeats 400000 in
theorem rem_none (a b : Int) (w : World) (hb : b < 1) :
    Calls Try.prog 9 #[.int .i64 a, .int .i64 b] w fun e w' => e = .returned (.tuple #[.int .i64 0, .int .i64 2]) ∧ w = w' := by
  go_enter Try.func9, Try.ntmps9
  go_wp2
  go_ret2
  exact ⟨rfl, rfl⟩

theorem Fx.tmod_pos {a b : Int} (hb : 1 ≤ b) (h0 : a < 0) : (a.tmod b < 0 ∧ a % b = a.tmod b + b) ∨ (a.tmod b = 0 ∧ a % b = 0) := by
  have hs := Fx.tmod_sign_nonpos (b := b) (Int.le_of_lt h0)
  have e := Int.tmod_eq_emod (a := a) (b := b)
  by_cases hd : b ∣ a
  · right; exact ⟨Fx.dvd_tmod.1 hd, Int.dvd_iff_emod_eq_zero.1 hd⟩
  · left
    have : a.tmod b ≠ 0 := fun h => hd (Fx.dvd_tmod.2 h)
    rw [if_neg (by omega)] at e
    have : (b.natAbs : Int) = b := by omega
    omega

set_option maxHeartbeats 400000 in
theorem rem_ok (a b : Int) (w : World) (hb : 1 ≤ b) (hb2 : b ≤ 9223372036854775807) :
    Calls Try.prog 9 #[.int .i64 a, .int .i64 b] w fun e w' => e = .returned (.tuple #[.int .i64 (a % b), .int .i64 0]) ∧ w = w' := by
  have hl := Fx.tmod_lt (a := a) (b := b) (by omega)
  have hlb1 : -b < a.tmod b := by omega
  have hlb2 : a.tmod b < b := by omega
  have hb0 : (b == 0) = false := by simp; omega
  clear hl
  by_cases h0 : 0 ≤ a
  · have hm := Int.emod_nonneg a (b := b) (by omega)
    go_enter Try.func9, Try.ntmps9
    go_wp2
    go_ret2
    exact ⟨rfl, rfl⟩
  · rcases Fx.tmod_pos hb (Int.not_le.1 h0) with ⟨h1, h2⟩ | ⟨h1, h2⟩
    · rw [h2]
      clear h2
      go_enter Try.func9, Try.ntmps9
      go_wp2
      go_ret2
      exact ⟨rfl, rfl⟩
    · rw [h2]
      clear h2
      go_enter Try.func9, Try.ntmps9
      go_wp2
      go_ret2
      exact ⟨rfl, rfl⟩

set_option maxHeartbeats 400000 in
theorem power_any (n : Int) (w : World) (h1 : 0 ≤ n) (h2 : n ≤ 62) :
    Calls Try.prog 28 #[.int .i64 n] w fun e w' => e = .returned (.int .i64 (2 ^ n.toNat)) ∧ w = w' := by
  go_enter Try.func28, Try.ntmps28
  go_wp2
  go_loop [3, 4] (fun p i => ∃ k : Nat, (k : Int) ≤ n ∧ i = .int .i64 k ∧ p = .int .i64 (2 ^ k)) (fun _ i => n.toNat - (intOf i).toNat)
  case atStart => exact ⟨0, by omega, rfl, rfl⟩
  case round =>
    obtain ⟨k, hk, rfl, rfl⟩ := hrel
    by_cases hlt : (k : Int) < n
    · have hb1 : (0 : Int) < 2 ^ k := Int.pow_pos (by omega)
      have hb2 : (2 : Int) ^ k ≤ 2 ^ 61 := Fx.pow_le k 61 (by omega)
      have hb3 : (2 : Int) ^ k ≤ 2305843009213693952 := hb2
      clear hb2
      go_wp2
      go_round
      case rel => exact ⟨k + 1, by omega, by go_num, by rw [Int.pow_succ]; go_num⟩
      case measure => simp [intOf]; omega
    · go_wp2
      go_ret
      exact ⟨ret_int (by rw [show n.toNat = k by omega]), rfl⟩

set_option maxHeartbeats 400000 in
theorem round_none (n b : Int) (w : World) (h : b < 0 ∨ 62 < b) :
    Calls Try.prog 21 #[.int .i64 n, .int .i64 b] w fun e w' => e = .returned (.tuple #[.int .i64 0, .int .i64 2]) ∧ w = w' := by
  rcases h with h | h
  · go_enter Try.func21, Try.ntmps21
    go_wp2
    go_ret2
    exact ⟨rfl, rfl⟩
  · have h' : ¬ b < 0 := by omega
    go_enter Try.func21, Try.ntmps21
    go_wp2
    go_ret2
    exact ⟨rfl, rfl⟩

set_option maxHeartbeats 400000 in
theorem round_ok (n b : Int) (w : World) (hn : -9223372036854775808 ≤ n ∧ n ≤ 9223372036854775807) (h1 : 0 ≤ b) (h2 : b ≤ 62) :
    Calls Try.prog 21 #[.int .i64 n, .int .i64 b] w fun e w' => e = .returned (.tuple #[.int .i64 (Fx.round n b), .int .i64 0]) ∧ w = w' := by
  by_cases h0 : b = 0
  · subst h0
    go_enter Try.func21, Try.ntmps21
    go_wp2
    go_ret2
    exact ⟨rfl, rfl⟩
  · rw [Fx.round_bits n b (by omega)]
    have hb0 : (b == 0) = false := by simpa using h0
    have e1 := Fx.bits_one (n / 2 ^ (b.toNat - 1))
    have hd := Fx.div_pow_bd n (b.toNat - 1) hn
    rw [show b.toNat - 1 + 1 = b.toNat by omega] at hd
    obtain ⟨hd1, hd2⟩ := hd
    have hm1 : 0 ≤ n / 2 ^ (b.toNat - 1) % 2 := by omega
    have hm2 : n / 2 ^ (b.toNat - 1) % 2 < 2 := by omega
    have h1' : 1 ≤ b := by omega
    clear h0 h1
    go_enter Try.func21, Try.ntmps21
    go_wp2
    go_ret2
    exact ⟨rfl, rfl⟩

set_option maxHeartbeats 400000 in
theorem rround_any (n b : Int) (w : World) (hn : -9223372036854775808 ≤ n ∧ n ≤ 9223372036854775807) (h1 : 0 ≤ b) (h2 : b ≤ 62) :
    Calls Try.prog 22 #[.int .i64 n, .int .i64 b] w fun e w' => e = .returned (.int .i64 (Fx.round n b)) ∧ w = w' := by
  by_cases h0 : b = 0
  · subst h0
    go_enter Try.func22, Try.ntmps22
    go_wp2
    go_ret
    exact ⟨rfl, rfl⟩
  · rw [Fx.round_bits n b (by omega)]
    have hb0 : (b == 0) = false := by simpa using h0
    obtain ⟨k, hk⟩ : ∃ k : Nat, b.toNat = k + 1 := ⟨b.toNat - 1, by omega⟩
    have hd := Fx.div_pow_bd n k hn
    have hr := Fx.round_ref n k
    have hpk : (0 : Int) < 2 ^ (k + 1) := Int.pow_pos (by omega)
    have hpl := Fx.pow_le (k + 1) 62 (by omega)
    have hpl2 : (2 : Int) ^ (k + 1) ≤ 4611686018427387904 := hpl
    have hpn : (2 : Int) ^ (k + 1) ≠ 0 := Int.ne_of_gt hpk
    have ef : Fx.floor n (2 ^ (k + 1)) = n / 2 ^ (k + 1) := Fx.floor_pos hpk
    rw [hk, Nat.add_sub_cancel]
    obtain ⟨hd1, hd2⟩ := hd
    obtain ⟨hr1, hr2, hr3⟩ := hr
    have hor : (2 ^ (k + 1) / 2 ≤ n - n / 2 ^ (k + 1) * 2 ^ (k + 1) ∧ n / 2 ^ k % 2 = 1) ∨ (n - n / 2 ^ (k + 1) * 2 ^ (k + 1) < 2 ^ (k + 1) / 2 ∧ n / 2 ^ k % 2 = 0) := by
      by_cases h : n / 2 ^ k % 2 = 1
      · exact .inl ⟨hr1.2 h, h⟩
      · have : ¬ (2 ^ (k + 1) / 2 ≤ n - n / 2 ^ (k + 1) * 2 ^ (k + 1)) := fun h' => h (hr1.1 h')
        exact .inr ⟨by omega, by omega⟩
    clear hr1 hpl
    have hfl := Fx.low_pow n (k + 1) (by omega) hn.1
    have hp0 := hpk
    generalize hp : (2 : Int) ^ (k + 1) = p at *
    generalize hqq : n / p = q at *
    have HK := Lib.hid hk
    have HP := Lib.hid hp
    have HQ := Lib.hid hqq
    have HF := Lib.hid ef
    clear hk hp hqq ef h0
    rcases hor with ⟨hc, hv⟩ | ⟨hc, hv⟩
    all_goals
      rw [hv]
      clear hv
      go_enter Try.func22, Try.ntmps22
      go_wp2_with fail
      refine (power_any _ _ h1 h2).mono ?_
      rintro e w' ⟨rfl, rfl⟩
      rw [HK.out, HP.out]
      go_wp2_with fail
      refine (rfloor_any _ _ _ hn hpn).mono ?_
      rintro e w' ⟨rfl, rfl⟩
      rw [HF.out]
      go_wp2
      go_ret
      exact ⟨ret_int (by omega), rfl⟩

end Go.Proofs.Ytkccnncbmobegaa
