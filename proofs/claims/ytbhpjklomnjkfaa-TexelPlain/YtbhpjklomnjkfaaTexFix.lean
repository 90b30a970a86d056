/-
  Contracts of layer 1 (fix), as far as layer 14 calls it: Rem, Floor by 256, Round by 16 bits.
-/
import Derived.Test.YtbhpjklomnjkfaaMem
namespace Go.Proofs.Ytbhpjklomnjkfaa
open Go.RowKit

theorem tup2 {a b : Int} {v : Value} (h : a = b) : Ending.returned (.tuple #[.int .i64 a, v]) = .returned (.tuple #[.int .i64 b, v]) := by rw [h]
theorem tup3 {a b c d : Int} (h : a = b) (k : c = d) : Ending.returned (.tuple #[.int .i64 a, .int .i64 c]) = .returned (.tuple #[.int .i64 b, .int .i64 d]) := by rw [h, k]
theorem Tx.tmod_pos {a b : Int} (hb : 1 ≤ b) (h0 : a < 0) : (a.tmod b < 0 ∧ a % b = a.tmod b + b) ∨ (a.tmod b = 0 ∧ a % b = 0) := by
  have hs : a.tmod b ≤ 0 := by have := Int.tmod_nonneg b (a := -a) (by omega); rw [Int.neg_tmod] at this; omega
  have e := Int.tmod_eq_emod (a := a) (b := b)
  by_cases hd : b ∣ a
  · right; exact ⟨Int.dvd_iff_tmod_eq_zero.1 hd, Int.dvd_iff_emod_eq_zero.1 hd⟩
  · left
    have : a.tmod b ≠ 0 := fun h => hd (Int.dvd_iff_tmod_eq_zero.2 h)
    rw [if_neg (by omega)] at e
    have : (b.natAbs : Int) = b := by omega
    omega
set_option maxHeartbeats 400000 in
theorem rem_ok (a b : Int) (w : World) (hb : 1 ≤ b) (hb2 : b ≤ 9223372036854775807) :
    Calls Try.prog 27 #[.int .i64 a, .int .i64 b] w fun e w' => e = .returned (.tuple #[.int .i64 (a % b), .int .i64 0]) ∧ w = w' := by
  have hl : (a.tmod b).natAbs < b.natAbs := by rw [Int.natAbs_tmod]; exact Nat.mod_lt _ (by omega)
  have hlb1 : -b < a.tmod b := by omega
  have hlb2 : a.tmod b < b := by omega
  have hb0 : (b == 0) = false := by simp; omega
  clear hl
  by_cases h0 : 0 ≤ a
  · have hm := Int.emod_nonneg a (b := b) (by omega)
    go_enter Try.func27, Try.ntmps27
    go_wp2
    go_ret2
    exact ⟨rfl, rfl⟩
  · rcases Tx.tmod_pos hb (Int.not_le.1 h0) with ⟨h1, h2⟩ | ⟨h1, h2⟩
    all_goals
      rw [h2]
      clear h2
      go_enter Try.func27, Try.ntmps27
      go_wp2
      go_ret2
      exact ⟨rfl, rfl⟩
theorem wraps_256 (n : Int) (w : World) (h : -9223372036854775808 < n) :
    Calls Try.prog 38 #[.int .i64 n, .int .i64 256] w fun e w' => e = .returned (.bool false) ∧ w = w' := by
  have hd : (n == -9223372036854775808) = false := by simpa using (by omega : n ≠ -9223372036854775808)
  go_enter Try.func38, Try.ntmps38
  go_wp2
  go_ret
  exact ⟨rfl, rfl⟩
theorem Tx.cut_up {n : Int} (h : n ≤ 0) : n.tdiv 256 = -((-n) / 256) ∧ n.tmod 256 = -((-n) % 256) := by
  have h1 : n.tdiv 256 = -((-n) / 256) := by
    have := Int.neg_tdiv (-n) 256
    rw [Int.neg_neg, Int.tdiv_eq_ediv_of_nonneg (a := -n) (by omega)] at this; exact this
  refine ⟨h1, ?_⟩
  have h2 := Int.tmod_add_mul_tdiv n 256
  rw [h1] at h2; omega
set_option maxHeartbeats 1000000 in
theorem floor_256 (n : Int) (w : World) (h1 : -2097152 ≤ n) (h2 : n ≤ 2097152) :
    Calls Try.prog 32 #[.int .i64 n, .int .i64 256] w fun e w' => e = .returned (.tuple #[.int .i64 (n / 256), .int .i64 0]) ∧ w = w' := by
  by_cases hn : 0 ≤ n
  · have hd : decide (n < 0) = false := decide_eq_false (by omega)
    have ht1 : 0 ≤ n / 256 := by omega
    have ht2 : n / 256 ≤ 2097152 := by omega
    rcases hm : (n % 256 != 0) with _ | _
    all_goals
      go_enter Try.func32, Try.ntmps32
      go_wp2_with ((go_at_call 38; refine (wraps_256 n _ (by omega)).mono ?_; rintro e w' ⟨rfl, rfl⟩))
      go_ret2
      exact ⟨rfl, rfl⟩
  · have hd : decide (n < 0) = true := decide_eq_true (by omega)
    obtain ⟨e1, e2⟩ := Tx.cut_up (n := n) (by omega)
    have ht1 : -2097152 ≤ n.tdiv 256 := by omega
    have ht2 : n.tdiv 256 ≤ 0 := by omega
    rcases hm : (n.tmod 256 != 0) with _ | _
    · have h9 : n.tmod 256 = 0 := by simpa using hm
      have HQ := Lib.hid (show n.tdiv 256 = n / 256 by omega)
      clear h9 e1 e2
      go_enter Try.func32, Try.ntmps32
      go_wp2_with ((go_at_call 38; refine (wraps_256 n _ (by omega)).mono ?_; rintro e w' ⟨rfl, rfl⟩))
      go_ret2
      exact ⟨tup2 HQ.out, rfl⟩
    · have h9 : n.tmod 256 ≠ 0 := by simpa using hm
      have HQ := Lib.hid (show n.tdiv 256 - 1 = n / 256 by omega)
      clear h9 e1 e2
      go_enter Try.func32, Try.ntmps32
      go_wp2_with ((go_at_call 38; refine (wraps_256 n _ (by omega)).mono ?_; rintro e w' ⟨rfl, rfl⟩))
      go_ret2
      exact ⟨tup2 HQ.out, rfl⟩
theorem Tx.bits_one (x : Int) : bits .and .i64 x 1 = x % 2 := by
  have e : bits .and .i64 x 1 = IntKind.i64.wrap (((BitVec.ofInt 64 x &&& BitVec.ofInt 64 1).toNat : Nat) : Int) := rfl
  rw [e, BitVec.toNat_and, show (BitVec.ofInt 64 1).toNat = 1 by decide, Nat.and_one_is_mod, BitVec.toNat_ofInt, IntKind.wrap_i64]
  omega
set_option maxHeartbeats 1000000 in
theorem round_16 (n : Int) (w : World) (h1 : 0 ≤ n) (h2 : n ≤ 67108864) :
    Calls Try.prog 39 #[.int .i64 n, .int .i64 16] w fun e w' => e = .returned (.tuple #[.int .i64 ((n + 32768) / 65536), .int .i64 0]) ∧ w = w' := by
  have e1 := Tx.bits_one (n / 32768)
  have m1 : 0 ≤ n / 32768 % 2 := by omega
  have m2 : n / 32768 % 2 < 2 := by omega
  have m3 : 0 ≤ n / 65536 := by omega
  have m4 : n / 65536 ≤ 67108864 := by omega
  go_enter Try.func39, Try.ntmps39
  go_wp2
  go_ret2
  exact ⟨tup2 (by omega), rfl⟩
end Go.Proofs.Ytbhpjklomnjkfaa
