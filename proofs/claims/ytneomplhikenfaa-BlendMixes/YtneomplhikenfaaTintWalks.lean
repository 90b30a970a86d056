/-
  Contracts of layer 6 (tint), the small functions: what they return, for every input; what stood in memory stands.
-/
import Derived.Test.YtneomplhikenfaaMem
import Derived.Test.YtneomplhikenfaaTintPlain
import Derived.ChangeKeysEq
import Derived.Laws.StructEq
namespace Go.Proofs.Ytneomplhikenfaa
open Go.RowKit

theorem ty_color : Ty 25 4 := ⟨by kernel_rfl, _, Try.underlying25, rfl⟩
theorem ty_six : Ty 50 6 := ⟨by kernel_rfl, _, Try.underlying50, rfl⟩

theorem sat_any (n lo hi : Int) (w : World) :
    Calls Try.prog 34 #[.int .i64 n, .int .i64 lo, .int .i64 hi] w fun e w' => e = .returned (.int .i64 (Tn.sat n lo hi)) ∧ w = w' := by
  go_enter Try.func34, Try.ntmps34
  go_wp2
  all_goals
    go_ret
    exact ⟨ret_int (by unfold Tn.sat; split <;> (try split) <;> omega), rfl⟩
theorem rsat_any (n lo hi : Int) (w : World) :
    Calls Try.prog 30 #[.int .i64 n, .int .i64 lo, .int .i64 hi] w fun e w' => e = .returned (.int .i64 (Tn.sat n lo hi)) ∧ w = w' := by
  go_enter Try.func30, Try.ntmps30
  go_wp2
  all_goals
    go_ret
    exact ⟨ret_int (by unfold Tn.sat; split <;> (try split) <;> omega), rfl⟩
theorem rlow_any (x y : Int) (w : World) :
    Calls Try.prog 28 #[.int .i64 x, .int .i64 y] w fun e w' => e = .returned (.int .i64 (Tn.low x y)) ∧ w = w' := by
  go_enter Try.func28, Try.ntmps28
  go_wp2
  all_goals
    go_ret
    exact ⟨ret_int (by unfold Tn.low; split <;> omega), rfl⟩
theorem ris_any (x : Int) (w : World) :
    Calls Try.prog 20 #[.int .i64 x] w fun e w' => e = .returned (.bool (Tn.is x)) ∧ w = w' := by
  by_cases h : 0 ≤ x
  · go_enter Try.func20, Try.ntmps20
    go_wp2
    go_ret
    exact ⟨ret_bool (by simp [Tn.is, h]), rfl⟩
  · have hd : decide (0 ≤ x) = false := decide_eq_false h
    go_enter Try.func20, Try.ntmps20
    go_wp2
    go_ret
    exact ⟨ret_bool (by simp [Tn.is]; omega), rfl⟩
theorem ret_color2 {r g b a r' g' b' a' : Int} {v : Value} (h0 : r = r') (h1 : g = g') (h2 : b = b') (h3 : a = a') :
    Ending.returned (.tuple #[.agg #[.int .i64 r, .int .i64 g, .int .i64 b, .int .i64 a], v]) = .returned (.tuple #[.agg #[.int .i64 (r'), .int .i64 (g'), .int .i64 (b'), .int .i64 (a')], v]) := by subst h0 h1 h2 h3; rfl
end Go.Proofs.Ytneomplhikenfaa
