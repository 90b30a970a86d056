/-
  Contracts of the document's answers for layer 20 (cmd): the letters of a kind's own fields; a number that is picked.
-/
import Derived.Test.YtkmhnfbjapfbeaaCmdHas
import Derived.BigGuard
namespace Go.Proofs.Ytkmhnfbjapfbeaa
open Go.RowKit

set_option linter.unusedSimpArgs false in
set_option maxRecDepth 100000 in
set_option maxHeartbeats 8000000 in
theorem fields_1 (w : World) : Calls Try.prog 20 #[.int .i64 1] w fun e w' => e = .returned (.string { data := #[72, 86] }) ∧ Kp w.heap.size w w' := by
  go_enter Try.func20, Try.ntmps20
  go_wp2
  go_ret
  exact ⟨rfl, Kp.new w _ _⟩
set_option linter.unusedSimpArgs false in
set_option maxRecDepth 100000 in
set_option maxHeartbeats 8000000 in
theorem fields_2 (w : World) : Calls Try.prog 20 #[.int .i64 2] w fun e w' => e = .returned (.string { data := #[72, 76] }) ∧ Kp w.heap.size w w' := by
  go_enter Try.func20, Try.ntmps20
  go_wp2
  go_ret
  exact ⟨rfl, Kp.new w _ _⟩
set_option linter.unusedSimpArgs false in
set_option maxRecDepth 100000 in
set_option maxHeartbeats 8000000 in
theorem fields_3 (w : World) : Calls Try.prog 20 #[.int .i64 3] w fun e w' => e = .returned (.string { data := #[72, 65, 66, 76] }) ∧ Kp w.heap.size w w' := by
  go_enter Try.func20, Try.ntmps20
  go_wp2
  go_ret
  exact ⟨rfl, Kp.new w _ _⟩
set_option linter.unusedSimpArgs false in
set_option maxRecDepth 100000 in
set_option maxHeartbeats 8000000 in
theorem fields_4 (w : World) : Calls Try.prog 20 #[.int .i64 4] w fun e w' => e = .returned (.string { data := #[72] }) ∧ Kp w.heap.size w w' := by
  go_enter Try.func20, Try.ntmps20
  go_wp2
  go_ret
  exact ⟨rfl, Kp.new w _ _⟩
set_option linter.unusedSimpArgs false in
set_option maxRecDepth 100000 in
set_option maxHeartbeats 8000000 in
theorem fields_5 (w : World) : Calls Try.prog 20 #[.int .i64 5] w fun e w' => e = .returned (.string { data := #[76] }) ∧ Kp w.heap.size w w' := by
  go_enter Try.func20, Try.ntmps20
  go_wp2
  go_ret
  exact ⟨rfl, Kp.new w _ _⟩
set_option linter.unusedSimpArgs false in
set_option maxRecDepth 100000 in
set_option maxHeartbeats 8000000 in
theorem fields_6 (w : World) : Calls Try.prog 20 #[.int .i64 6] w fun e w' => e = .returned (.string { data := #[65, 66, 67, 68] }) ∧ Kp w.heap.size w w' := by
  go_enter Try.func20, Try.ntmps20
  go_wp2
  go_ret
  exact ⟨rfl, Kp.new w _ _⟩
set_option linter.unusedSimpArgs false in
set_option maxRecDepth 100000 in
set_option maxHeartbeats 8000000 in
theorem fields_7 (w : World) : Calls Try.prog 20 #[.int .i64 7] w fun e w' => e = .returned (.string { data := #[65, 66, 67, 68] }) ∧ Kp w.heap.size w w' := by
  go_enter Try.func20, Try.ntmps20
  go_wp2
  go_ret
  exact ⟨rfl, Kp.new w _ _⟩
set_option linter.unusedSimpArgs false in
set_option maxRecDepth 100000 in
set_option maxHeartbeats 8000000 in
theorem fields_8 (w : World) : Calls Try.prog 20 #[.int .i64 8] w fun e w' => e = .returned (.string { data := #[65, 66] }) ∧ Kp w.heap.size w w' := by
  go_enter Try.func20, Try.ntmps20
  go_wp2
  go_ret
  exact ⟨rfl, Kp.new w _ _⟩
set_option linter.unusedSimpArgs false in
set_option maxRecDepth 100000 in
set_option maxHeartbeats 8000000 in
theorem fields_9 (w : World) : Calls Try.prog 20 #[.int .i64 9] w fun e w' => e = .returned (.string { data := #[76] }) ∧ Kp w.heap.size w w' := by
  go_enter Try.func20, Try.ntmps20
  go_wp2
  go_ret
  exact ⟨rfl, Kp.new w _ _⟩
set_option linter.unusedSimpArgs false in
set_option maxRecDepth 100000 in
set_option maxHeartbeats 8000000 in
theorem fields_10 (w : World) : Calls Try.prog 20 #[.int .i64 10] w fun e w' => e = .returned (.string { data := #[65, 66, 67, 68] }) ∧ Kp w.heap.size w w' := by
  go_enter Try.func20, Try.ntmps20
  go_wp2
  go_ret
  exact ⟨rfl, Kp.new w _ _⟩
set_option linter.unusedSimpArgs false in
set_option maxRecDepth 100000 in
set_option maxHeartbeats 8000000 in
theorem fields_11 (w : World) : Calls Try.prog 20 #[.int .i64 11] w fun e w' => e = .returned (.string { data := #[65] }) ∧ Kp w.heap.size w w' := by
  go_enter Try.func20, Try.ntmps20
  go_wp2
  go_ret
  exact ⟨rfl, Kp.new w _ _⟩
set_option linter.unusedSimpArgs false in
set_option maxRecDepth 100000 in
set_option maxHeartbeats 8000000 in
theorem fields_12 (w : World) : Calls Try.prog 20 #[.int .i64 12] w fun e w' => e = .returned (.string { data := #[72, 65, 66] }) ∧ Kp w.heap.size w w' := by
  go_enter Try.func20, Try.ntmps20
  go_wp2
  go_ret
  exact ⟨rfl, Kp.new w _ _⟩
set_option linter.unusedSimpArgs false in
set_option maxRecDepth 100000 in
set_option maxHeartbeats 8000000 in
theorem fields_13 (w : World) : Calls Try.prog 20 #[.int .i64 13] w fun e w' => e = .returned (.string { data := #[65, 66, 67, 68] }) ∧ Kp w.heap.size w w' := by
  go_enter Try.func20, Try.ntmps20
  go_wp2
  go_ret
  exact ⟨rfl, Kp.new w _ _⟩
set_option linter.unusedSimpArgs false in
set_option maxRecDepth 100000 in
set_option maxHeartbeats 8000000 in
theorem fields_14 (w : World) : Calls Try.prog 20 #[.int .i64 14] w fun e w' => e = .returned (.string { data := #[72, 65, 66, 67] }) ∧ Kp w.heap.size w w' := by
  go_enter Try.func20, Try.ntmps20
  go_wp2
  go_ret
  exact ⟨rfl, Kp.new w _ _⟩
set_option linter.unusedSimpArgs false in
set_option maxRecDepth 100000 in
set_option maxHeartbeats 8000000 in
theorem fields_15 (w : World) : Calls Try.prog 20 #[.int .i64 15] w fun e w' => e = .returned (.string { data := #[] }) ∧ Kp w.heap.size w w' := by
  go_enter Try.func20, Try.ntmps20
  go_wp2
  go_ret
  exact ⟨rfl, Kp.new w _ _⟩
set_option linter.unusedSimpArgs false in
set_option maxRecDepth 100000 in
set_option maxHeartbeats 8000000 in
theorem fields_16 (w : World) : Calls Try.prog 20 #[.int .i64 16] w fun e w' => e = .returned (.string { data := #[65] }) ∧ Kp w.heap.size w w' := by
  go_enter Try.func20, Try.ntmps20
  go_wp2
  go_ret
  exact ⟨rfl, Kp.new w _ _⟩
set_option linter.unusedSimpArgs false in
set_option maxRecDepth 100000 in
set_option maxHeartbeats 8000000 in
theorem fields_17 (w : World) : Calls Try.prog 20 #[.int .i64 17] w fun e w' => e = .returned (.string { data := #[65] }) ∧ Kp w.heap.size w w' := by
  go_enter Try.func20, Try.ntmps20
  go_wp2
  go_ret
  exact ⟨rfl, Kp.new w _ _⟩
set_option linter.unusedSimpArgs false in
set_option maxRecDepth 100000 in
set_option maxHeartbeats 8000000 in
theorem fields_18 (w : World) : Calls Try.prog 20 #[.int .i64 18] w fun e w' => e = .returned (.string { data := #[72, 65, 66, 67, 68] }) ∧ Kp w.heap.size w w' := by
  go_enter Try.func20, Try.ntmps20
  go_wp2
  go_ret
  exact ⟨rfl, Kp.new w _ _⟩
set_option linter.unusedSimpArgs false in
set_option maxRecDepth 100000 in
set_option maxHeartbeats 8000000 in
theorem fields_19 (w : World) : Calls Try.prog 20 #[.int .i64 19] w fun e w' => e = .returned (.string { data := #[] }) ∧ Kp w.heap.size w w' := by
  go_enter Try.func20, Try.ntmps20
  go_wp2
  go_ret
  exact ⟨rfl, Kp.new w _ _⟩
set_option linter.unusedSimpArgs false in
set_option maxRecDepth 100000 in
set_option maxHeartbeats 8000000 in
theorem pick_any (s : ByteArray) (c n : Int) (x : Bool) (w : World) (P1 : ∀ W, Calls Try.prog 22 #[.string s, .int .u8 c] W fun e w' => e = .returned (.bool x) ∧ W = w') :
    Calls Try.prog 21 #[.string s, .int .u8 c, .int .i64 n] w fun e w' => e = .returned (.int .i64 (Cm.pk x n)) ∧ w = w' := by
  cases x
  all_goals
    go_enter Try.func21, Try.ntmps21
    go_wp2_with (go_at_call 22; refine (P1 _).mono ?_; rintro e w' ⟨rfl, rfl⟩)
    go_ret
    exact ⟨rfl, rfl⟩
end Go.Proofs.Ytkmhnfbjapfbeaa
