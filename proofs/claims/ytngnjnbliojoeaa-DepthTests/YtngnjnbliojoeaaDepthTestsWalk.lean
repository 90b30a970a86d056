/-
  DepthTests: its Go text returns true.
-/
import Derived.Test.YtngnjnbliojoeaaDepthWalks
namespace Go.Proofs.Ytngnjnbliojoeaa
open Go.RowKit

set_option maxHeartbeats 2000000 in
theorem tests_walk (k : Int) (p : Bool) (z old : Int) (w : World) :
    Calls Try.prog 4 #[.int .i64 k, .bool p, .agg #[.int .i64 z, .int .i64 old]] w fun e w' => e = .returned (.bool true) ∧ Kp w.heap.size w w' := by
  have HO := Lib.hid ((Ow.refl w).new (.int .i64 z) [.int .i64 old] 30)
  have c0 := (HO.out.at 0 rfl).cell 0 rfl
  have c1 := (HO.out.at 0 rfl).cell 1 rfl
  have I1 := fun W => ris_any k W
  cases h : Dp.is k
  · have T1 := fun W => test_no k p z old W h
    have P1 := T1
    rw [h] at I1
    clear h
    go_enter Try.func4, Try.ntmps4
    go_wp2_with fail
    go_quiet (fail)
    go_wp2_with (first
      | go_skip
      | (go_at_call 12; refine (T1 _).mono ?_; rintro e w' ⟨rfl, rfl⟩)
      | (go_at_call 9; refine (I1 _).mono ?_; rintro e w' ⟨rfl, rfl⟩)
      | (go_at_call 11; refine (P1 _).mono ?_; rintro e w' ⟨rfl, rfl⟩)
      | (go_at_call 10; refine (awake_any _).mono ?_; rintro e w' ⟨rfl, rfl⟩))
    go_ret
    exact ⟨rfl, (Kp.new _ _ _).drewN _⟩
  · have T1 := fun W => test_yes k p z old W h
    have P1 := fun W => rpasses_any k z old W h
    rw [h] at I1
    have HP : Dp.put k p z old = if Dp.pass k z old && p then z else old := rfl
    rw [HP] at T1
    clear h HP
    generalize Dp.pass k z old = b at *
    cases b <;> cases p
    all_goals
      simp only [Bool.and_self, Bool.and_false, Bool.and_true, if_true, if_false, Bool.false_eq_true] at T1
      go_enter Try.func4, Try.ntmps4
      go_wp2_with fail
      go_quiet (fail)
      go_wp2_with (first
        | go_skip
        | (go_at_call 12; refine (T1 _).mono ?_; rintro e w' ⟨rfl, rfl⟩)
        | (go_at_call 9; refine (I1 _).mono ?_; rintro e w' ⟨rfl, rfl⟩)
        | (go_at_call 11; refine (P1 _).mono ?_; rintro e w' ⟨rfl, rfl⟩)
        | (go_at_call 10; refine (awake_any _).mono ?_; rintro e w' ⟨rfl, rfl⟩))
      go_ret
      exact ⟨rfl, (Kp.new _ _ _).drewN _⟩
end Go.Proofs.Ytngnjnbliojoeaa
