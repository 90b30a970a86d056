/-
  Contracts of layer 14 (texel), the small functions: sides, kinds, wrapped places; the document's own Wrap.
-/
import Derived.Test.YtbhpjklomnjkfaaTexFix
import Derived.Test.YtbhpjklomnjkfaaTexPlain
import Derived.Test.YtbhpjklomnjkfaaTintWalks
import Derived.Test.YtbhpjklomnjkfaaFloorPos
import Derived.BigGuard
namespace Go.Proofs.Ytbhpjklomnjkfaa
open Go.RowKit

theorem side_any (n : Int) (w : World) :
    Calls Try.prog 23 #[.int .i64 n] w fun e w' => e = .returned (.bool (Tx.side n)) ∧ w = w' := by
  cases h : decide (1 ≤ n)
  all_goals
    go_enter Try.func23, Try.ntmps23
    go_wp2
    go_ret
    exact ⟨ret_bool (by simp at h; rw [Bool.eq_iff_iff, Tx.side_iff]; simp; try omega), rfl⟩
theorem kind_any (n : Int) (w : World) :
    Calls Try.prog 18 #[.int .i64 n] w fun e w' => e = .returned (.bool (Tx.is n)) ∧ w = w' := by
  cases h : decide (0 ≤ n)
  all_goals
    go_enter Try.func18, Try.ntmps18
    go_wp2
    go_ret
    exact ⟨ret_bool (by simp at h; rw [Bool.eq_iff_iff, Tx.is_iff]; simp; try omega), rfl⟩
theorem within_any (m n : Int) (w : World) (hm : 0 ≤ m ∧ m ≤ 9223372036854775807) :
    Calls Try.prog 19 #[.int .i64 m, .int .i64 n] w fun e w' => e = .returned (.bool (Tx.within m n)) ∧ w = w' := by
  obtain ⟨m1, m2⟩ := hm
  cases h : decide (-m ≤ n)
  all_goals
    go_enter Try.func19, Try.ntmps19
    go_wp2
    go_ret
    exact ⟨ret_bool (by simp at h; rw [Bool.eq_iff_iff, Tx.within_iff]; simp; try omega), rfl⟩
theorem mirrored_any (n s : Int) (w : World) (h : 1 ≤ s ∧ s ≤ 64) :
    Calls Try.prog 28 #[.int .i64 n, .int .i64 s] w fun e w' => e = .returned (.int .i64 (Tx.mirror n s)) ∧ w = w' := by
  have R1 := fun W => rem_ok n (2 * s) W (by omega) (by omega)
  have h1 := Int.emod_nonneg n (b := 2 * s) (by omega)
  have h2 := Int.emod_lt_of_pos n (b := 2 * s) (by omega)
  obtain ⟨s1, s2⟩ := h
  have HM : Hid (Tx.mirror n s = if n % (2 * s) < s then n % (2 * s) else 2 * s - 1 - n % (2 * s)) := Lib.hid rfl
  generalize Tx.mirror n s = r at *
  generalize n % (2 * s) = m at *
  cases hc : decide (m < s)
  all_goals
    go_enter Try.func28, Try.ntmps28
    go_wp2_with (go_at_call 27; refine (R1 _).mono ?_; rintro e w' ⟨rfl, rfl⟩)
    go_ret
    exact ⟨ret_int (by rw [HM.out]; simp at hc; split <;> omega), rfl⟩
theorem wrap_no1 (k n s : Int) (w : World) (h : Tx.is k = false) :
    Calls Try.prog 16 #[.int .i64 k, .int .i64 n, .int .i64 s] w fun e w' => e = .returned (.tuple #[.int .i64 0, .int .i64 9]) ∧ w = w' := by
  have K1 := fun W => kind_any k W
  rw [h] at K1
  go_enter Try.func16, Try.ntmps16
  go_wp2_with (go_at_call 18; refine (K1 _).mono ?_; rintro e w' ⟨rfl, rfl⟩)
  go_ret2
  exact ⟨rfl, rfl⟩
theorem wrap_no2 (k n s : Int) (w : World) (hk : Tx.is k = true) (h : (Tx.side s && Tx.within 1048576 n) = false) :
    Calls Try.prog 16 #[.int .i64 k, .int .i64 n, .int .i64 s] w fun e w' => e = .returned (.tuple #[.int .i64 0, .int .i64 3]) ∧ w = w' := by
  have K1 := fun W => kind_any k W
  have S1 := fun W => side_any s W
  have W1 := fun W => within_any 1048576 n W (by omega)
  rw [hk] at K1
  cases h1 : Tx.side s
  · rw [h1] at S1
    go_enter Try.func16, Try.ntmps16
    go_wp2_with (first | go_big_skip | (go_at_call 18; refine (K1 _).mono ?_; rintro e w' ⟨rfl, rfl⟩) | (go_at_call 23; refine (S1 _).mono ?_; rintro e w' ⟨rfl, rfl⟩))
    go_ret2
    exact ⟨rfl, rfl⟩
  · rw [h1] at S1 h
    rw [Bool.true_and] at h
    rw [h] at W1
    go_enter Try.func16, Try.ntmps16
    go_wp2_with (first | go_big_skip | (go_at_call 18; refine (K1 _).mono ?_; rintro e w' ⟨rfl, rfl⟩) | (go_at_call 23; refine (S1 _).mono ?_; rintro e w' ⟨rfl, rfl⟩) | (go_at_call 19; refine (W1 _).mono ?_; rintro e w' ⟨rfl, rfl⟩))
    go_ret2
    exact ⟨rfl, rfl⟩
set_option maxHeartbeats 400000 in
theorem wrap_yes (k n s : Int) (w : World) (hk : Tx.is k = true) (hs : 1 ≤ s ∧ s ≤ 64) (hn : -1048576 ≤ n ∧ n ≤ 1048576) :
    Calls Try.prog 16 #[.int .i64 k, .int .i64 n, .int .i64 s] w fun e w' => e = .returned (.tuple #[.int .i64 (Tx.wrap k n s), .int .i64 0]) ∧ w = w' := by
  have K1 := fun W => kind_any k W
  have S1 := fun W => side_any s W
  have W1 := fun W => within_any 1048576 n W (by omega)
  rw [hk] at K1
  rw [Tx.side_iff.2 hs] at S1
  rw [Tx.within_iff.2 hn] at W1
  have R1 := fun W => rem_ok n s W (by omega) (by omega)
  have M1 := fun W => mirrored_any n s W hs
  have T1 := fun W => sat_any n 0 (s - 1) W
  obtain ⟨s1, s2⟩ := hs
  rcases Tx.kinds hk with rfl | rfl | rfl
  · rw [Tx.wrap0]
    generalize Tn.sat n 0 (s - 1) = r at *
    go_enter Try.func16, Try.ntmps16
    go_wp2_with (first | go_big_skip | (go_at_call 18; refine (K1 _).mono ?_; rintro e w' ⟨rfl, rfl⟩) | (go_at_call 23; refine (S1 _).mono ?_; rintro e w' ⟨rfl, rfl⟩) | (go_at_call 19; refine (W1 _).mono ?_; rintro e w' ⟨rfl, rfl⟩) | (go_at_call 29; refine (T1 _).mono ?_; rintro e w' ⟨rfl, rfl⟩))
    go_ret2
    exact ⟨rfl, rfl⟩
  · rw [Tx.wrap1]
    generalize n % s = r at *
    go_enter Try.func16, Try.ntmps16
    go_wp2_with (first | go_big_skip | (go_at_call 18; refine (K1 _).mono ?_; rintro e w' ⟨rfl, rfl⟩) | (go_at_call 23; refine (S1 _).mono ?_; rintro e w' ⟨rfl, rfl⟩) | (go_at_call 19; refine (W1 _).mono ?_; rintro e w' ⟨rfl, rfl⟩) | (go_at_call 27; refine (R1 _).mono ?_; rintro e w' ⟨rfl, rfl⟩))
    go_ret2
    exact ⟨rfl, rfl⟩
  · rw [Tx.wrap2]
    generalize Tx.mirror n s = r at *
    go_enter Try.func16, Try.ntmps16
    go_wp2_with (first | go_big_skip | (go_at_call 18; refine (K1 _).mono ?_; rintro e w' ⟨rfl, rfl⟩) | (go_at_call 23; refine (S1 _).mono ?_; rintro e w' ⟨rfl, rfl⟩) | (go_at_call 19; refine (W1 _).mono ?_; rintro e w' ⟨rfl, rfl⟩) | (go_at_call 28; refine (M1 _).mono ?_; rintro e w' ⟨rfl, rfl⟩))
    go_ret2
    exact ⟨rfl, rfl⟩
/-- a place that is wrapped or not, and the error -/
def Tx.wrapE (k n s : Int) : Int := if Tx.is k then (if Tx.side s && Tx.within 1048576 n then 0 else 3) else 9
theorem wrap_no (k n s : Int) (w : World) (h : Tx.wrapE k n s ≠ 0) :
    Calls Try.prog 16 #[.int .i64 k, .int .i64 n, .int .i64 s] w fun e w' => e = .returned (.tuple #[.int .i64 0, .int .i64 (Tx.wrapE k n s)]) ∧ w = w' := by
  unfold Tx.wrapE at *
  cases hk : Tx.is k
  · exact wrap_no1 k n s w hk
  · rw [hk] at h
    cases hs : (Tx.side s && Tx.within 1048576 n)
    · exact wrap_no2 k n s w hk hs
    · rw [hs] at h; exact absurd rfl h
theorem split_any (n : Int) (w : World) (h1 : -2097152 ≤ n) (h2 : n ≤ 2097152) :
    Calls Try.prog 21 #[.int .i64 n] w fun e w' => e = .returned (.tuple #[.int .i64 (n / 256), .int .i64 (n % 256)]) ∧ w = w' := by
  have F1 := fun W => floor_256 n W h1 h2
  have R1 := fun W => rem_ok n 256 W (by omega) (by omega)
  generalize n / 256 = q at *
  generalize n % 256 = r at *
  go_enter Try.func21, Try.ntmps21
  go_wp2_with (first | (go_at_call 32; refine (F1 _).mono ?_; rintro e w' ⟨rfl, rfl⟩) | (go_at_call 27; refine (R1 _).mono ?_; rintro e w' ⟨rfl, rfl⟩))
  go_ret2
  exact ⟨rfl, rfl⟩
theorem nearest_any (n : Int) (w : World) (h1 : 0 ≤ n) (h2 : n ≤ 67108864) :
    Calls Try.prog 37 #[.int .i64 n] w fun e w' => e = .returned (.int .i64 ((n + 32768) / 65536)) ∧ w = w' := by
  have F1 := fun W => round_16 n W h1 h2
  generalize (n + 32768) / 65536 = q at *
  go_enter Try.func37, Try.ntmps37
  go_wp2_with (go_at_call 39; refine (F1 _).mono ?_; rintro e w' ⟨rfl, rfl⟩)
  go_ret
  exact ⟨rfl, rfl⟩
set_option maxHeartbeats 400000 in
theorem rwrap_any (k n s : Int) (w : World) (hk : Tx.is k = true) (hs : 1 ≤ s ∧ s ≤ 64) (hn : -1048576 ≤ n ∧ n ≤ 1048576) :
    Calls Try.prog 17 #[.int .i64 k, .int .i64 n, .int .i64 s] w fun e w' => e = .returned (.int .i64 (Tx.wrap k n s)) ∧ w = w' := by
  obtain ⟨s1, s2⟩ := hs
  obtain ⟨n1, n2⟩ := hn
  rcases Tx.kinds hk with rfl | rfl | rfl
  · have T1 := fun W => rsat_any n 0 (s - 1) W
    rw [Tx.wrap0]
    generalize Tn.sat n 0 (s - 1) = r at *
    go_enter Try.func17, Try.ntmps17
    go_wp2_with (go_at_call 30; refine (T1 _).mono ?_; rintro e w' ⟨rfl, rfl⟩)
    go_ret
    exact ⟨rfl, rfl⟩
  · have F1 := fun W => rfloor_pos n s W (by omega) (by omega)
    have HE := Lib.hid (Tx.rem_eq n s)
    have b1 := Int.emod_nonneg n (b := s) (by omega)
    have b2 := Int.emod_lt_of_pos n (b := s) (by omega)
    have HE2 := HE.out
    rw [Tx.wrap1]
    generalize n % s = r at *
    generalize n / s = q at *
    have m1 : -2000000 ≤ s * q := by omega
    have m2 : s * q ≤ 2000000 := by omega
    clear HE2
    go_enter Try.func17, Try.ntmps17
    go_wp2_with (go_at_call 14; refine (F1 _).mono ?_; rintro e w' ⟨rfl, rfl⟩)
    go_ret
    exact ⟨ret_int HE.out, rfl⟩
  · have F1 := fun W => rfloor_pos n (2 * s) W (by omega) (by omega)
    have HE := Lib.hid (Tx.rem_eq n (2 * s))
    have HM : Hid (Tx.mirror n s = if n % (2 * s) < s then n % (2 * s) else 2 * s - 1 - n % (2 * s)) := Lib.hid rfl
    have b1 := Int.emod_nonneg n (b := 2 * s) (by omega)
    have b2 := Int.emod_lt_of_pos n (b := 2 * s) (by omega)
    have HE2 := HE.out
    rw [Tx.wrap2]
    generalize Tx.mirror n s = r at *
    generalize n % (2 * s) = m at *
    generalize n / (2 * s) = q at *
    have m1 : -2000000 ≤ 2 * s * q := by omega
    have m2 : 2 * s * q ≤ 2000000 := by omega
    have m3 : 0 ≤ n - 2 * s * q := by omega
    have m4 : n - 2 * s * q ≤ 128 := by omega
    cases hc : decide (n - 2 * s * q < s)
    all_goals
      have HC := Lib.hid hc
      clear HE2
      go_enter Try.func17, Try.ntmps17
      go_wp2_with (go_at_call 14; refine (F1 _).mono ?_; rintro e w' ⟨rfl, rfl⟩)
      go_ret
      exact ⟨ret_int (by have k1 := HC.out; simp at k1; rw [HE.out] at k1; rw [HM.out]; try rw [HE.out]; split <;> omega), rfl⟩
theorem awake_any (w : World) :
    Calls Try.prog 6 #[] w fun e w' => e = .returned (.bool true) ∧ w = w' := by
  have W0 : ∀ W, Calls Try.prog 16 #[.int .i64 0, .int .i64 (-1), .int .i64 4] W fun e w' => e = .returned (.tuple #[.int .i64 0, .int .i64 0]) ∧ W = w' := fun W => wrap_yes 0 (-1) 4 W rfl (by omega) (by omega)
  have W1 : ∀ W, Calls Try.prog 16 #[.int .i64 1, .int .i64 (-1), .int .i64 4] W fun e w' => e = .returned (.tuple #[.int .i64 3, .int .i64 0]) ∧ W = w' := fun W => wrap_yes 1 (-1) 4 W rfl (by omega) (by omega)
  have W2 : ∀ W, Calls Try.prog 16 #[.int .i64 2, .int .i64 (-1), .int .i64 4] W fun e w' => e = .returned (.tuple #[.int .i64 0, .int .i64 0]) ∧ W = w' := fun W => wrap_yes 2 (-1) 4 W rfl (by omega) (by omega)
  go_enter Try.func6, Try.ntmps6
  go_wp2_with (go_at_call 16; (first | (with_reducible refine (W0 _).mono ?_) | (with_reducible refine (W1 _).mono ?_) | (with_reducible refine (W2 _).mono ?_)); rintro e w' ⟨rfl, rfl⟩)
  go_ret
  exact ⟨rfl, rfl⟩
end Go.Proofs.Ytbhpjklomnjkfaa
