/-
  Contracts of layer 8 (depth): what its functions return, for every input; the world stays as it was.
-/
import Derived.Test.YtnfkbbecanhdbaaMem
import Derived.Test.YtnfkbbecanhdbaaDepthPlain
namespace Go.Proofs.Ytnfkbbecanhdbaa
open Go.RowKit

theorem may_any (k : Int) (w : World) :
    Calls Try.prog 25 #[.int .i64 k] w fun e w' => e = .returned (.bool (Dp.is k)) ∧ w = w' := by
  by_cases h : 0 ≤ k
  · go_enter Try.func25, Try.ntmps25
    go_wp2
    go_ret
    exact ⟨ret_bool (by simp [Dp.is, h]), rfl⟩
  · have hd : decide (0 ≤ k) = false := decide_eq_false h
    go_enter Try.func25, Try.ntmps25
    go_wp2
    go_ret
    exact ⟨ret_bool (by simp [Dp.is]; omega), rfl⟩
theorem ris_any (k : Int) (w : World) :
    Calls Try.prog 19 #[.int .i64 k] w fun e w' => e = .returned (.bool (Dp.is k)) ∧ w = w' := by
  by_cases h : 0 ≤ k
  · go_enter Try.func19, Try.ntmps19
    go_wp2
    go_ret
    exact ⟨ret_bool (by rw [Bool.eq_iff_iff]; simp [Dp.is, h]; omega), rfl⟩
  · have hd : decide (0 ≤ k) = false := decide_eq_false h
    go_enter Try.func19, Try.ntmps19
    go_wp2
    go_ret
    exact ⟨ret_bool (by simp [Dp.is]; omega), rfl⟩
theorem rel_any (a b : Int) (w : World) :
    Calls Try.prog 26 #[.int .i64 a, .int .i64 b] w fun e w' => e = .returned (.int .i64 (Dp.rel a b)) ∧ w = w' := by
  go_enter Try.func26, Try.ntmps26
  go_wp2
  all_goals
    go_ret
    exact ⟨ret_int (by unfold Dp.rel; (repeat' split) <;> omega), rfl⟩

theorem passes_no (k a b : Int) (w : World) (h : Dp.is k = false) :
    Calls Try.prog 18 #[.int .i64 k, .int .i64 a, .int .i64 b] w fun e w' => e = .returned (.tuple #[.bool false, .int .i64 9]) ∧ w = w' := by
  have M1 : ∀ W, Calls Try.prog 25 #[.int .i64 k] W fun e w' => e = .returned (.bool false) ∧ W = w' := fun W => by have := may_any k W; rwa [h] at this
  clear h
  go_enter Try.func18, Try.ntmps18
  go_wp2_with (go_at_call 25; refine (M1 _).mono ?_; rintro e w' ⟨rfl, rfl⟩)
  go_ret2
  exact ⟨rfl, rfl⟩
theorem passes_yes (k a b : Int) (w : World) (h : Dp.is k = true) :
    Calls Try.prog 18 #[.int .i64 k, .int .i64 a, .int .i64 b] w fun e w' => e = .returned (.tuple #[.bool (Dp.pass k a b), .int .i64 0]) ∧ w = w' := by
  have M1 : ∀ W, Calls Try.prog 25 #[.int .i64 k] W fun e w' => e = .returned (.bool true) ∧ W = w' := fun W => by have := may_any k W; rwa [h] at this
  have HB := Lib.hid (Dp.bits a b h)
  clear h
  go_enter Try.func18, Try.ntmps18
  go_wp2_with (first | (go_at_call 25; refine (M1 _).mono ?_; rintro e w' ⟨rfl, rfl⟩) | (go_at_call 26; refine (rel_any a b _).mono ?_; rintro e w' ⟨rfl, rfl⟩))
  go_ret2
  exact ⟨by rw [← HB.out]; rfl, rfl⟩
set_option maxHeartbeats 1000000 in
theorem rpasses_any (k a b : Int) (w : World) (h : Dp.is k = true) :
    Calls Try.prog 23 #[.int .i64 k, .int .i64 a, .int .i64 b] w fun e w' => e = .returned (.bool (Dp.pass k a b)) ∧ w = w' := by
  rcases Dp.all h with rfl | rfl | rfl | rfl | rfl | rfl | rfl | rfl
  all_goals
    clear h
    go_enter Try.func23, Try.ntmps23
    go_wp2
    go_ret
    exact ⟨ret_bool (by simp [Dp.pass]), rfl⟩


end Go.Proofs.Ytnfkbbecanhdbaa
