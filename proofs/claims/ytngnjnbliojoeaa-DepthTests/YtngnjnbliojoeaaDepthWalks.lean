/-
  Contracts of layer 8 (depth): what its functions return, for every input; the world stays as it was.
-/
import Derived.Test.YtngnjnbliojoeaaMem
import Derived.Test.YtngnjnbliojoeaaDepthPlain
namespace Go.Proofs.Ytngnjnbliojoeaa
open Go.RowKit

theorem may_any (k : Int) (w : World) :
    Calls Try.prog 14 #[.int .i64 k] w fun e w' => e = .returned (.bool (Dp.is k)) ∧ w = w' := by
  by_cases h : 0 ≤ k
  · go_enter Try.func14, Try.ntmps14
    go_wp2
    go_ret
    exact ⟨ret_bool (by simp [Dp.is, h]), rfl⟩
  · have hd : decide (0 ≤ k) = false := decide_eq_false h
    go_enter Try.func14, Try.ntmps14
    go_wp2
    go_ret
    exact ⟨ret_bool (by simp [Dp.is]; omega), rfl⟩
theorem ris_any (k : Int) (w : World) :
    Calls Try.prog 9 #[.int .i64 k] w fun e w' => e = .returned (.bool (Dp.is k)) ∧ w = w' := by
  by_cases h : 0 ≤ k
  · go_enter Try.func9, Try.ntmps9
    go_wp2
    go_ret
    exact ⟨ret_bool (by rw [Bool.eq_iff_iff]; simp [Dp.is, h]; omega), rfl⟩
  · have hd : decide (0 ≤ k) = false := decide_eq_false h
    go_enter Try.func9, Try.ntmps9
    go_wp2
    go_ret
    exact ⟨ret_bool (by simp [Dp.is]; omega), rfl⟩
theorem rel_any (a b : Int) (w : World) :
    Calls Try.prog 15 #[.int .i64 a, .int .i64 b] w fun e w' => e = .returned (.int .i64 (Dp.rel a b)) ∧ w = w' := by
  go_enter Try.func15, Try.ntmps15
  go_wp2
  all_goals
    go_ret
    exact ⟨ret_int (by unfold Dp.rel; (repeat' split) <;> omega), rfl⟩
theorem rlow_any (x y : Int) (w : World) :
    Calls Try.prog 13 #[.int .i64 x, .int .i64 y] w fun e w' => e = .returned (.int .i64 (Dp.low x y)) ∧ w = w' := by
  go_enter Try.func13, Try.ntmps13
  go_wp2
  all_goals
    go_ret
    exact ⟨ret_int (by unfold Dp.low; split <;> omega), rfl⟩

theorem passes_no (k a b : Int) (w : World) (h : Dp.is k = false) :
    Calls Try.prog 6 #[.int .i64 k, .int .i64 a, .int .i64 b] w fun e w' => e = .returned (.tuple #[.bool false, .int .i64 9]) ∧ w = w' := by
  have M1 : ∀ W, Calls Try.prog 14 #[.int .i64 k] W fun e w' => e = .returned (.bool false) ∧ W = w' := fun W => by have := may_any k W; rwa [h] at this
  clear h
  go_enter Try.func6, Try.ntmps6
  go_wp2_with (go_at_call 14; refine (M1 _).mono ?_; rintro e w' ⟨rfl, rfl⟩)
  go_ret2
  exact ⟨rfl, rfl⟩
theorem passes_yes (k a b : Int) (w : World) (h : Dp.is k = true) :
    Calls Try.prog 6 #[.int .i64 k, .int .i64 a, .int .i64 b] w fun e w' => e = .returned (.tuple #[.bool (Dp.pass k a b), .int .i64 0]) ∧ w = w' := by
  have M1 : ∀ W, Calls Try.prog 14 #[.int .i64 k] W fun e w' => e = .returned (.bool true) ∧ W = w' := fun W => by have := may_any k W; rwa [h] at this
  have HB := Lib.hid (Dp.bits a b h)
  clear h
  go_enter Try.func6, Try.ntmps6
  go_wp2_with (first | (go_at_call 14; refine (M1 _).mono ?_; rintro e w' ⟨rfl, rfl⟩) | (go_at_call 15; refine (rel_any a b _).mono ?_; rintro e w' ⟨rfl, rfl⟩))
  go_ret2
  exact ⟨by rw [← HB.out]; rfl, rfl⟩
theorem not_no (k : Int) (w : World) (h : Dp.is k = false) :
    Calls Try.prog 7 #[.int .i64 k] w fun e w' => e = .returned (.tuple #[.int .i64 0, .int .i64 9]) ∧ w = w' := by
  have M1 : ∀ W, Calls Try.prog 14 #[.int .i64 k] W fun e w' => e = .returned (.bool false) ∧ W = w' := fun W => by have := may_any k W; rwa [h] at this
  clear h
  go_enter Try.func7, Try.ntmps7
  go_wp2_with (go_at_call 14; refine (M1 _).mono ?_; rintro e w' ⟨rfl, rfl⟩)
  go_ret2
  exact ⟨rfl, rfl⟩
theorem not_yes (k : Int) (w : World) (h : Dp.is k = true) :
    Calls Try.prog 7 #[.int .i64 k] w fun e w' => e = .returned (.tuple #[.int .i64 (7 - k), .int .i64 0]) ∧ w = w' := by
  have M1 : ∀ W, Calls Try.prog 14 #[.int .i64 k] W fun e w' => e = .returned (.bool true) ∧ W = w' := fun W => by have := may_any k W; rwa [h] at this
  obtain ⟨h1, h2⟩ := Dp.is_iff.1 h
  clear h
  go_enter Try.func7, Try.ntmps7
  go_wp2_with (go_at_call 14; refine (M1 _).mono ?_; rintro e w' ⟨rfl, rfl⟩)
  go_ret2
  exact ⟨rfl, rfl⟩
theorem swap_no (k : Int) (w : World) (h : Dp.is k = false) :
    Calls Try.prog 8 #[.int .i64 k] w fun e w' => e = .returned (.tuple #[.int .i64 0, .int .i64 9]) ∧ w = w' := by
  have M1 : ∀ W, Calls Try.prog 14 #[.int .i64 k] W fun e w' => e = .returned (.bool false) ∧ W = w' := fun W => by have := may_any k W; rwa [h] at this
  clear h
  go_enter Try.func8, Try.ntmps8
  go_wp2_with (go_at_call 14; refine (M1 _).mono ?_; rintro e w' ⟨rfl, rfl⟩)
  go_ret2
  exact ⟨rfl, rfl⟩
set_option maxHeartbeats 1000000 in
theorem swap_yes (k : Int) (w : World) (h : Dp.is k = true) :
    Calls Try.prog 8 #[.int .i64 k] w fun e w' => e = .returned (.tuple #[.int .i64 (Dp.swap k), .int .i64 0]) ∧ w = w' := by
  have M1 : ∀ W, Calls Try.prog 14 #[.int .i64 k] W fun e w' => e = .returned (.bool true) ∧ W = w' := fun W => by have := may_any k W; rwa [h] at this
  rcases Dp.all h with rfl | rfl | rfl | rfl | rfl | rfl | rfl | rfl
  all_goals
    clear h
    go_enter Try.func8, Try.ntmps8
    go_wp2_with (go_at_call 14; refine (M1 _).mono ?_; rintro e w' ⟨rfl, rfl⟩)
    go_ret2
    exact ⟨by kernel_rfl, rfl⟩
set_option maxHeartbeats 1000000 in
theorem rpasses_any (k a b : Int) (w : World) (h : Dp.is k = true) :
    Calls Try.prog 11 #[.int .i64 k, .int .i64 a, .int .i64 b] w fun e w' => e = .returned (.bool (Dp.pass k a b)) ∧ w = w' := by
  rcases Dp.all h with rfl | rfl | rfl | rfl | rfl | rfl | rfl | rfl
  all_goals
    clear h
    go_enter Try.func11, Try.ntmps11
    go_wp2
    go_ret
    exact ⟨ret_bool (by simp [Dp.pass]), rfl⟩

theorem test_no (k : Int) (p : Bool) (z old : Int) (w : World) (h : Dp.is k = false) :
    Calls Try.prog 12 #[.int .i64 k, .bool p, .int .i64 z, .int .i64 old] w fun e w' => e = .returned (.tuple #[.bool false, .int .i64 0, .int .i64 9]) ∧ w = w' := by
  go_enter Try.func12, Try.ntmps12
  go_wp2_with (go_at_call 6; refine (passes_no k z old _ h).mono ?_; rintro e w' ⟨rfl, rfl⟩)
  go_ret3
  exact ⟨rfl, rfl⟩
theorem test_yes (k : Int) (p : Bool) (z old : Int) (w : World) (h : Dp.is k = true) :
    Calls Try.prog 12 #[.int .i64 k, .bool p, .int .i64 z, .int .i64 old] w fun e w' => e = .returned (.tuple #[.bool (Dp.pass k z old), .int .i64 (Dp.put k p z old), .int .i64 0]) ∧ w = w' := by
  have M1 := fun W => passes_yes k z old W h
  have HP : Hid (Dp.put k p z old = if Dp.pass k z old && p then z else old) := Lib.hid rfl
  clear h
  generalize Dp.put k p z old = P at *
  cases hp : Dp.pass k z old <;> rw [hp] at HP <;> simp only [hp] at M1 <;> clear hp <;> cases p
  all_goals
    go_enter Try.func12, Try.ntmps12
    go_wp2_with (go_at_call 6; refine (M1 _).mono ?_; rintro e w' ⟨rfl, rfl⟩)
    go_ret3
    exact ⟨by rw [HP.out]; rfl, rfl⟩

theorem awake_any (w : World) :
    Calls Try.prog 10 #[] w fun e w' => e = .returned (.bool true) ∧ w = w' := by
  go_enter Try.func10, Try.ntmps10
  go_wp2_with (first
    | (go_at_call 7; refine (not_yes 1 _ rfl).mono ?_; rintro e w' ⟨rfl, rfl⟩)
    | (go_at_call 8; refine (swap_yes 1 _ rfl).mono ?_; rintro e w' ⟨rfl, rfl⟩)
    | (go_at_call 6; refine (passes_yes 3 4 4 _ rfl).mono ?_; rintro e w' ⟨rfl, rfl⟩))
  go_ret
  exact ⟨rfl, rfl⟩
end Go.Proofs.Ytngnjnbliojoeaa
