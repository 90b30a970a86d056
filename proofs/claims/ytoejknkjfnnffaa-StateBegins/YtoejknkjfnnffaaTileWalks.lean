/-
  Contracts of layer 11 (tile): the small functions, Count, At; the document's own.
-/
import Derived.Test.YtoejknkjfnnffaaJDepthPlain
import Derived.BigGuard
namespace Go.Proofs.Ytoejknkjfnnffaa
open Go.RowKit

theorem r11is_any (n m : Int) (w : World) :
    Calls Try.prog 13 #[.int .i64 n, .int .i64 m] w fun e w' => e = .returned (.bool (Tl.is n m)) ∧ w = w' := by
  cases h1 : decide (1 ≤ n) <;> cases h2 : decide (n ≤ 256) <;> cases h3 : decide (1 ≤ m)
  all_goals
    go_enter Try.func13, Try.ntmps13
    go_wp2_with go_big_skip
    go_ret
    exact ⟨ret_bool (by simp [Tl.is, Tl.side, h1, h2, h3]), rfl⟩
end Go.Proofs.Ytoejknkjfnnffaa
