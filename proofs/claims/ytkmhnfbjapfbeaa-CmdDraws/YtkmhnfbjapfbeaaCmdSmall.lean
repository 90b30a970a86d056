/-
  Contracts of layer 20 (cmd): which kinds a type has; what its Op is; is a command light?
-/
import Derived.Test.YtkmhnfbjapfbeaaCmdPlain
import Derived.BigGuard
namespace Go.Proofs.Ytkmhnfbjapfbeaa
open Go.RowKit

def Cm.makes (o : Int) : Bool := decide (1 ≤ o) && decide (o ≤ 4)
def Cm.sets (o : Int) : Bool := decide (5 ≤ o) && decide (o ≤ 12)
def Cm.marks (o : Int) : Bool := (o == 15) || (o == 16) || (o == 17) || (o == 19)
set_option linter.unusedSimpArgs false in
set_option maxRecDepth 100000 in
set_option maxHeartbeats 8000000 in
theorem light_any (o h a b c d : Int) (a1 a2 : Option Addr) (n1 c1 n2 c2 : Nat) (w : World) :
    Calls Try.prog 6 #[.agg #[.int .i64 o, .int .i64 h, .int .i64 a, .int .i64 b, .int .i64 c, .int .i64 d, .slice a1 n1 c1, .slice a2 n2 c2]] w fun e w' => e = .returned (.bool (decide ((n1 : Int) ≤ 5000) && decide ((n2 : Int) ≤ 1100))) ∧ Kp w.heap.size w w' := by
  cases h1 : decide ((n1 : Int) ≤ 5000)
  all_goals
    go_enter Try.func6, Try.ntmps6
    go_wp2_with go_big_skip
    go_ret
    exact ⟨ret_bool (by simp), Kp.new _ _ _⟩
set_option linter.unusedSimpArgs false in
set_option maxRecDepth 100000 in
set_option maxHeartbeats 8000000 in
theorem makes_any (o : Int) (w : World) :
    Calls Try.prog 17 #[.int .i64 o] w fun e w' => e = .returned (.bool (Cm.makes o)) ∧ w = w' := by
  cases h1 : decide (1 ≤ o)
  all_goals
    go_enter Try.func17, Try.ntmps17
    go_wp2_with go_big_skip
    go_ret
    exact ⟨ret_bool (by simp [Cm.makes, h1]), rfl⟩
set_option linter.unusedSimpArgs false in
set_option maxRecDepth 100000 in
set_option maxHeartbeats 8000000 in
theorem sets_any (o : Int) (w : World) :
    Calls Try.prog 18 #[.int .i64 o] w fun e w' => e = .returned (.bool (Cm.sets o)) ∧ w = w' := by
  cases h1 : decide (5 ≤ o)
  all_goals
    go_enter Try.func18, Try.ntmps18
    go_wp2_with go_big_skip
    go_ret
    exact ⟨ret_bool (by simp [Cm.sets, h1]), rfl⟩
set_option linter.unusedSimpArgs false in
set_option maxRecDepth 100000 in
set_option maxHeartbeats 8000000 in
theorem marks_any (o : Int) (w : World) :
    Calls Try.prog 19 #[.int .i64 o] w fun e w' => e = .returned (.bool (Cm.marks o)) ∧ w = w' := by
  cases h1 : (o == 15) <;> cases h2 : (o == 16) <;> cases h3 : (o == 17) <;> cases h4 : (o == 19)
  all_goals
    go_enter Try.func19, Try.ntmps19
    go_wp2_with go_big_skip
    go_ret
    exact ⟨ret_bool (by simp [Cm.marks, h1, h2, h3, h4]), rfl⟩
set_option linter.unusedSimpArgs false in
set_option maxRecDepth 100000 in
set_option maxHeartbeats 8000000 in
set_option linter.unusedVariables false in
theorem op_Make (o h a b c d : Int) (v u : Value) (w : World) :
    Calls Try.prog 41 #[.agg #[.int .i64 o, .int .i64 h, .int .i64 a, .int .i64 b, v, u]] w fun e w' => e = .returned (.int .i64 o) ∧ Kp w.heap.size w w' := by
  go_enter Try.func41, Try.ntmps41
  go_wp2
  go_ret
  exact ⟨rfl, Kp.new _ _ _⟩
set_option linter.unusedSimpArgs false in
set_option maxRecDepth 100000 in
set_option maxHeartbeats 8000000 in
set_option linter.unusedVariables false in
theorem op_Mark (o h a b c d : Int) (v u : Value) (w : World) :
    Calls Try.prog 42 #[.agg #[.int .i64 o, .int .i64 a]] w fun e w' => e = .returned (.int .i64 o) ∧ Kp w.heap.size w w' := by
  go_enter Try.func42, Try.ntmps42
  go_wp2
  go_ret
  exact ⟨rfl, Kp.new _ _ _⟩
set_option linter.unusedSimpArgs false in
set_option maxRecDepth 100000 in
set_option maxHeartbeats 8000000 in
set_option linter.unusedVariables false in
theorem op_Set (o h a b c d : Int) (v u : Value) (w : World) :
    Calls Try.prog 43 #[.agg #[.int .i64 o, .int .i64 h, .int .i64 a, .int .i64 b, .int .i64 c, .int .i64 d, v, u]] w fun e w' => e = .returned (.int .i64 o) ∧ Kp w.heap.size w w' := by
  go_enter Try.func43, Try.ntmps43
  go_wp2
  go_ret
  exact ⟨rfl, Kp.new _ _ _⟩
set_option linter.unusedSimpArgs false in
set_option maxRecDepth 100000 in
set_option maxHeartbeats 8000000 in
set_option linter.unusedVariables false in
theorem op_Draw (o h a b c d : Int) (v u : Value) (w : World) :
    Calls Try.prog 44 #[.agg #[.int .i64 h, .int .i64 a, .int .i64 b, .int .i64 c]] w fun e w' => e = .returned (.int .i64 14) ∧ Kp w.heap.size w w' := by
  go_enter Try.func44, Try.ntmps44
  go_wp2
  go_ret
  exact ⟨rfl, Kp.new _ _ _⟩
set_option linter.unusedSimpArgs false in
set_option maxRecDepth 100000 in
set_option maxHeartbeats 8000000 in
set_option linter.unusedVariables false in
theorem op_Wipe (o h a b c d : Int) (v u : Value) (w : World) :
    Calls Try.prog 45 #[.agg #[.int .i64 a, .int .i64 b, .int .i64 c, .int .i64 d]] w fun e w' => e = .returned (.int .i64 13) ∧ Kp w.heap.size w w' := by
  go_enter Try.func45, Try.ntmps45
  go_wp2
  go_ret
  exact ⟨rfl, Kp.new _ _ _⟩
set_option linter.unusedSimpArgs false in
set_option maxRecDepth 100000 in
set_option maxHeartbeats 8000000 in
set_option linter.unusedVariables false in
theorem op_Look (o h a b c d : Int) (v u : Value) (w : World) :
    Calls Try.prog 46 #[.agg #[.int .i64 h, .int .i64 a, .int .i64 b, .int .i64 c, .int .i64 d]] w fun e w' => e = .returned (.int .i64 18) ∧ Kp w.heap.size w w' := by
  go_enter Try.func46, Try.ntmps46
  go_wp2
  go_ret
  exact ⟨rfl, Kp.new _ _ _⟩
end Go.Proofs.Ytkmhnfbjapfbeaa
