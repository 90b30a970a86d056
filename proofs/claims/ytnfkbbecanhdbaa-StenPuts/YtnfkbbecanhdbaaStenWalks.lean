/-
  Contracts of layer 9 (sten): stencils, deeds; the document's own, and the bits that two numbers have.
-/
import Derived.Test.YtnfkbbecanhdbaaDepthWalks
import Derived.Test.YtnfkbbecanhdbaaStenPlain
namespace Go.Proofs.Ytnfkbbecanhdbaa
open Go.RowKit

theorem isDeed_any (k : Int) (w : World) :
    Calls Try.prog 21 #[.int .i64 k] w fun e w' => e = .returned (.bool (Dp.is k)) ∧ w = w' := by
  by_cases h : 0 ≤ k
  · go_enter Try.func21, Try.ntmps21
    go_wp2
    go_ret
    exact ⟨ret_bool (by rw [Bool.eq_iff_iff]; simp [Dp.is, h]), rfl⟩
  · have hd : decide (0 ≤ k) = false := decide_eq_false h
    go_enter Try.func21, Try.ntmps21
    go_wp2
    go_ret
    exact ⟨ret_bool (by simp [Dp.is]; omega), rfl⟩
theorem isSten_any (k : Int) (w : World) :
    Calls Try.prog 17 #[.int .i64 k] w fun e w' => e = .returned (.bool (Sn.is k)) ∧ w = w' := by
  by_cases h : 0 ≤ k
  · go_enter Try.func17, Try.ntmps17
    go_wp2
    go_ret
    exact ⟨ret_bool (by rw [Bool.eq_iff_iff]; simp [Sn.is, h]), rfl⟩
  · have hd : decide (0 ≤ k) = false := decide_eq_false h
    go_enter Try.func17, Try.ntmps17
    go_wp2
    go_ret
    exact ⟨ret_bool (by simp [Sn.is]; omega), rfl⟩
theorem rsten_any (k : Int) (w : World) :
    Calls Try.prog 10 #[.int .i64 k] w fun e w' => e = .returned (.bool (Sn.is k)) ∧ w = w' := by
  by_cases h : 0 ≤ k
  · go_enter Try.func10, Try.ntmps10
    go_wp2
    go_ret
    exact ⟨ret_bool (by rw [Bool.eq_iff_iff]; simp [Sn.is, h]), rfl⟩
  · have hd : decide (0 ≤ k) = false := decide_eq_false h
    go_enter Try.func10, Try.ntmps10
    go_wp2
    go_ret
    exact ⟨ret_bool (by simp [Sn.is]; omega), rfl⟩

set_option maxHeartbeats 1000000 in
theorem made_any (k old ref : Int) (w : World) (hk : Dp.is k = true) (ho : Sn.is old = true) (hr : Sn.is ref = true) :
    Calls Try.prog 24 #[.int .i64 k, .int .i64 old, .int .i64 ref] w fun e w' => e = .returned (.int .i64 (Sn.made k old ref)) ∧ w = w' := by
  obtain ⟨o1, o2⟩ := Sn.is_iff.1 ho
  obtain ⟨r1, r2⟩ := Sn.is_iff.1 hr
  rcases Dp.all hk with rfl | rfl | rfl | rfl | rfl | rfl | rfl | rfl
  all_goals
    clear hk ho hr
    go_enter Try.func24, Try.ntmps24
    go_wp2
    all_goals
      go_ret
      exact ⟨ret_int (by simp only [Sn.made, Sn.bits_255, Int.reduceEq, if_true, if_false]; first | done | omega | ((repeat' split) <;> omega)), rfl⟩
set_option maxHeartbeats 1000000 in
theorem rdeed_any (k old ref : Int) (w : World) (hk : Dp.is k = true) (ho : Sn.is old = true) (hr : Sn.is ref = true) :
    Calls Try.prog 16 #[.int .i64 k, .int .i64 old, .int .i64 ref] w fun e w' => e = .returned (.int .i64 (Sn.made k old ref)) ∧ w = w' := by
  obtain ⟨o1, o2⟩ := Sn.is_iff.1 ho
  obtain ⟨r1, r2⟩ := Sn.is_iff.1 hr
  rcases Dp.all hk with rfl | rfl | rfl | rfl | rfl | rfl | rfl | rfl
  all_goals
    clear hk ho hr
    go_enter Try.func16, Try.ntmps16
    go_wp2
    all_goals
      go_ret
      exact ⟨ret_int (by simp only [Sn.made, Int.reduceEq, if_true, if_false]; first | done | omega | ((repeat' split) <;> simp_all)), rfl⟩

def msr8 (i : Value) : Nat := 8 - (intOf i).toNat
/-- so much has been added up -/
def AI (a b : Int) (n p i : Value) : Prop := ∃ k : Nat, k ≤ 8 ∧ i = .int .i64 k ∧ p = .int .i64 (2 ^ k) ∧ n = .int .i64 (Sn.low a b k)
set_option maxHeartbeats 1000000 in
theorem rand_any (a b : Int) (w : World) (ha : Sn.is a = true) (hb : Sn.is b = true) :
    Calls Try.prog 11 #[.int .i64 a, .int .i64 b] w fun e w' => e = .returned (.int .i64 (Sn.and a b)) ∧ w = w' := by
  have HL := Lib.hid (Sn.low_all (a := a) hb)
  obtain ⟨a1, a2⟩ := Sn.is_iff.1 ha
  obtain ⟨b1, b2⟩ := Sn.is_iff.1 hb
  clear ha hb
  go_enter Try.func11, Try.ntmps11
  go_wp2
  go_loop [5, 6, 7] (fun n p i => AI a b n p i) (fun _ _ i => msr8 i)
  case atStart => exact ⟨0, by omega, rfl, rfl, by unfold Sn.low; simp [Nat.mod_one]⟩
  case round =>
    obtain ⟨k, hk, rfl, rfl, rfl⟩ := hrel
    by_cases hlt : k < 8
    · have hn := Sn.low_next a1 b1 k
      have HN := Lib.hid hn
      obtain ⟨l1, l2⟩ := Sn.low_bd a b k
      have p1 : (0 : Int) < 2 ^ k := Int.pow_pos (by omega)
      have p2 : (2 : Int) ^ k ≤ 128 := by
        obtain rfl | rfl | rfl | rfl | rfl | rfl | rfl | rfl : k = 0 ∨ k = 1 ∨ k = 2 ∨ k = 3 ∨ k = 4 ∨ k = 5 ∨ k = 6 ∨ k = 7 := by omega
        all_goals decide
      have p3 : (2 : Int) ^ k ≠ 0 := by omega
      have q1 : 0 ≤ a / 2 ^ k := Int.ediv_nonneg a1 (by omega)
      have q2 : a / 2 ^ k ≤ a := Int.ediv_le_self _ a1
      have q3 : 0 ≤ b / 2 ^ k := Int.ediv_nonneg b1 (by omega)
      have q4 : b / 2 ^ k ≤ b := Int.ediv_le_self _ b1
      clear hn
      cases h1 : (a / 2 ^ k % 2 == 1) <;> cases h2 : (b / 2 ^ k % 2 == 1) <;> rw [h1, h2] at HN
      all_goals
        simp only [Bool.and_self, Bool.and_false, Bool.and_true, if_true, Bool.false_eq_true, if_false] at HN
        go_wp2
        go_round
        case rel => exact ⟨k + 1, by omega, by go_num, by rw [Int.pow_succ]; go_num, by rw [HN.out]⟩
        case measure => simp [msr8, intOf]; omega
    · obtain rfl : k = 8 := by omega
      go_wp2
      go_ret
      exact ⟨ret_int HL.out, rfl⟩
end Go.Proofs.Ytnfkbbecanhdbaa
