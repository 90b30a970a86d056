/-
  Contracts of the document's answers for layer 20 (cmd): which letters are in a text.
-/
import Derived.Test.YtkmhnfbjapfbeaaCmdPlain
import Derived.Handy
import Derived.BigGuard
namespace Go.Proofs.Ytkmhnfbjapfbeaa
open Go.RowKit

theorem has_no_H (w : World) : Calls Try.prog 22 #[.string { data := #[] }, .int .u8 72] w fun e w' => e = .returned (.bool false) ∧ w = w' := by
  go_enter Try.func22, Try.ntmps22
  go_wp2
  go_rounds 2
  all_goals (go_ret; exact ⟨rfl, rfl⟩)
theorem has_no_A (w : World) : Calls Try.prog 22 #[.string { data := #[] }, .int .u8 65] w fun e w' => e = .returned (.bool false) ∧ w = w' := by
  go_enter Try.func22, Try.ntmps22
  go_wp2
  go_rounds 2
  all_goals (go_ret; exact ⟨rfl, rfl⟩)
theorem has_no_B (w : World) : Calls Try.prog 22 #[.string { data := #[] }, .int .u8 66] w fun e w' => e = .returned (.bool false) ∧ w = w' := by
  go_enter Try.func22, Try.ntmps22
  go_wp2
  go_rounds 2
  all_goals (go_ret; exact ⟨rfl, rfl⟩)
theorem has_no_C (w : World) : Calls Try.prog 22 #[.string { data := #[] }, .int .u8 67] w fun e w' => e = .returned (.bool false) ∧ w = w' := by
  go_enter Try.func22, Try.ntmps22
  go_wp2
  go_rounds 2
  all_goals (go_ret; exact ⟨rfl, rfl⟩)
theorem has_no_D (w : World) : Calls Try.prog 22 #[.string { data := #[] }, .int .u8 68] w fun e w' => e = .returned (.bool false) ∧ w = w' := by
  go_enter Try.func22, Try.ntmps22
  go_wp2
  go_rounds 2
  all_goals (go_ret; exact ⟨rfl, rfl⟩)
theorem has_no_L (w : World) : Calls Try.prog 22 #[.string { data := #[] }, .int .u8 76] w fun e w' => e = .returned (.bool false) ∧ w = w' := by
  go_enter Try.func22, Try.ntmps22
  go_wp2
  go_rounds 2
  all_goals (go_ret; exact ⟨rfl, rfl⟩)
theorem has_no_V (w : World) : Calls Try.prog 22 #[.string { data := #[] }, .int .u8 86] w fun e w' => e = .returned (.bool false) ∧ w = w' := by
  go_enter Try.func22, Try.ntmps22
  go_wp2
  go_rounds 2
  all_goals (go_ret; exact ⟨rfl, rfl⟩)
theorem has_A_H (w : World) : Calls Try.prog 22 #[.string { data := #[65] }, .int .u8 72] w fun e w' => e = .returned (.bool false) ∧ w = w' := by
  go_enter Try.func22, Try.ntmps22
  go_wp2
  go_rounds 3
  all_goals (go_ret; exact ⟨rfl, rfl⟩)
theorem has_A_A (w : World) : Calls Try.prog 22 #[.string { data := #[65] }, .int .u8 65] w fun e w' => e = .returned (.bool true) ∧ w = w' := by
  go_enter Try.func22, Try.ntmps22
  go_wp2
  go_rounds 3
  all_goals (go_ret; exact ⟨rfl, rfl⟩)
theorem has_A_B (w : World) : Calls Try.prog 22 #[.string { data := #[65] }, .int .u8 66] w fun e w' => e = .returned (.bool false) ∧ w = w' := by
  go_enter Try.func22, Try.ntmps22
  go_wp2
  go_rounds 3
  all_goals (go_ret; exact ⟨rfl, rfl⟩)
theorem has_A_C (w : World) : Calls Try.prog 22 #[.string { data := #[65] }, .int .u8 67] w fun e w' => e = .returned (.bool false) ∧ w = w' := by
  go_enter Try.func22, Try.ntmps22
  go_wp2
  go_rounds 3
  all_goals (go_ret; exact ⟨rfl, rfl⟩)
theorem has_A_D (w : World) : Calls Try.prog 22 #[.string { data := #[65] }, .int .u8 68] w fun e w' => e = .returned (.bool false) ∧ w = w' := by
  go_enter Try.func22, Try.ntmps22
  go_wp2
  go_rounds 3
  all_goals (go_ret; exact ⟨rfl, rfl⟩)
theorem has_A_L (w : World) : Calls Try.prog 22 #[.string { data := #[65] }, .int .u8 76] w fun e w' => e = .returned (.bool false) ∧ w = w' := by
  go_enter Try.func22, Try.ntmps22
  go_wp2
  go_rounds 3
  all_goals (go_ret; exact ⟨rfl, rfl⟩)
theorem has_A_V (w : World) : Calls Try.prog 22 #[.string { data := #[65] }, .int .u8 86] w fun e w' => e = .returned (.bool false) ∧ w = w' := by
  go_enter Try.func22, Try.ntmps22
  go_wp2
  go_rounds 3
  all_goals (go_ret; exact ⟨rfl, rfl⟩)
theorem has_AB_H (w : World) : Calls Try.prog 22 #[.string { data := #[65, 66] }, .int .u8 72] w fun e w' => e = .returned (.bool false) ∧ w = w' := by
  go_enter Try.func22, Try.ntmps22
  go_wp2
  go_rounds 4
  all_goals (go_ret; exact ⟨rfl, rfl⟩)
theorem has_AB_A (w : World) : Calls Try.prog 22 #[.string { data := #[65, 66] }, .int .u8 65] w fun e w' => e = .returned (.bool true) ∧ w = w' := by
  go_enter Try.func22, Try.ntmps22
  go_wp2
  go_rounds 4
  all_goals (go_ret; exact ⟨rfl, rfl⟩)
theorem has_AB_B (w : World) : Calls Try.prog 22 #[.string { data := #[65, 66] }, .int .u8 66] w fun e w' => e = .returned (.bool true) ∧ w = w' := by
  go_enter Try.func22, Try.ntmps22
  go_wp2
  go_rounds 4
  all_goals (go_ret; exact ⟨rfl, rfl⟩)
theorem has_AB_C (w : World) : Calls Try.prog 22 #[.string { data := #[65, 66] }, .int .u8 67] w fun e w' => e = .returned (.bool false) ∧ w = w' := by
  go_enter Try.func22, Try.ntmps22
  go_wp2
  go_rounds 4
  all_goals (go_ret; exact ⟨rfl, rfl⟩)
theorem has_AB_D (w : World) : Calls Try.prog 22 #[.string { data := #[65, 66] }, .int .u8 68] w fun e w' => e = .returned (.bool false) ∧ w = w' := by
  go_enter Try.func22, Try.ntmps22
  go_wp2
  go_rounds 4
  all_goals (go_ret; exact ⟨rfl, rfl⟩)
theorem has_AB_L (w : World) : Calls Try.prog 22 #[.string { data := #[65, 66] }, .int .u8 76] w fun e w' => e = .returned (.bool false) ∧ w = w' := by
  go_enter Try.func22, Try.ntmps22
  go_wp2
  go_rounds 4
  all_goals (go_ret; exact ⟨rfl, rfl⟩)
theorem has_AB_V (w : World) : Calls Try.prog 22 #[.string { data := #[65, 66] }, .int .u8 86] w fun e w' => e = .returned (.bool false) ∧ w = w' := by
  go_enter Try.func22, Try.ntmps22
  go_wp2
  go_rounds 4
  all_goals (go_ret; exact ⟨rfl, rfl⟩)
theorem has_ABCD_H (w : World) : Calls Try.prog 22 #[.string { data := #[65, 66, 67, 68] }, .int .u8 72] w fun e w' => e = .returned (.bool false) ∧ w = w' := by
  go_enter Try.func22, Try.ntmps22
  go_wp2
  go_rounds 6
  all_goals (go_ret; exact ⟨rfl, rfl⟩)
theorem has_ABCD_A (w : World) : Calls Try.prog 22 #[.string { data := #[65, 66, 67, 68] }, .int .u8 65] w fun e w' => e = .returned (.bool true) ∧ w = w' := by
  go_enter Try.func22, Try.ntmps22
  go_wp2
  go_rounds 6
  all_goals (go_ret; exact ⟨rfl, rfl⟩)
theorem has_ABCD_B (w : World) : Calls Try.prog 22 #[.string { data := #[65, 66, 67, 68] }, .int .u8 66] w fun e w' => e = .returned (.bool true) ∧ w = w' := by
  go_enter Try.func22, Try.ntmps22
  go_wp2
  go_rounds 6
  all_goals (go_ret; exact ⟨rfl, rfl⟩)
theorem has_ABCD_C (w : World) : Calls Try.prog 22 #[.string { data := #[65, 66, 67, 68] }, .int .u8 67] w fun e w' => e = .returned (.bool true) ∧ w = w' := by
  go_enter Try.func22, Try.ntmps22
  go_wp2
  go_rounds 6
  all_goals (go_ret; exact ⟨rfl, rfl⟩)
theorem has_ABCD_D (w : World) : Calls Try.prog 22 #[.string { data := #[65, 66, 67, 68] }, .int .u8 68] w fun e w' => e = .returned (.bool true) ∧ w = w' := by
  go_enter Try.func22, Try.ntmps22
  go_wp2
  go_rounds 6
  all_goals (go_ret; exact ⟨rfl, rfl⟩)
theorem has_ABCD_L (w : World) : Calls Try.prog 22 #[.string { data := #[65, 66, 67, 68] }, .int .u8 76] w fun e w' => e = .returned (.bool false) ∧ w = w' := by
  go_enter Try.func22, Try.ntmps22
  go_wp2
  go_rounds 6
  all_goals (go_ret; exact ⟨rfl, rfl⟩)
theorem has_ABCD_V (w : World) : Calls Try.prog 22 #[.string { data := #[65, 66, 67, 68] }, .int .u8 86] w fun e w' => e = .returned (.bool false) ∧ w = w' := by
  go_enter Try.func22, Try.ntmps22
  go_wp2
  go_rounds 6
  all_goals (go_ret; exact ⟨rfl, rfl⟩)
theorem has_H_H (w : World) : Calls Try.prog 22 #[.string { data := #[72] }, .int .u8 72] w fun e w' => e = .returned (.bool true) ∧ w = w' := by
  go_enter Try.func22, Try.ntmps22
  go_wp2
  go_rounds 3
  all_goals (go_ret; exact ⟨rfl, rfl⟩)
theorem has_H_A (w : World) : Calls Try.prog 22 #[.string { data := #[72] }, .int .u8 65] w fun e w' => e = .returned (.bool false) ∧ w = w' := by
  go_enter Try.func22, Try.ntmps22
  go_wp2
  go_rounds 3
  all_goals (go_ret; exact ⟨rfl, rfl⟩)
theorem has_H_B (w : World) : Calls Try.prog 22 #[.string { data := #[72] }, .int .u8 66] w fun e w' => e = .returned (.bool false) ∧ w = w' := by
  go_enter Try.func22, Try.ntmps22
  go_wp2
  go_rounds 3
  all_goals (go_ret; exact ⟨rfl, rfl⟩)
theorem has_H_C (w : World) : Calls Try.prog 22 #[.string { data := #[72] }, .int .u8 67] w fun e w' => e = .returned (.bool false) ∧ w = w' := by
  go_enter Try.func22, Try.ntmps22
  go_wp2
  go_rounds 3
  all_goals (go_ret; exact ⟨rfl, rfl⟩)
theorem has_H_D (w : World) : Calls Try.prog 22 #[.string { data := #[72] }, .int .u8 68] w fun e w' => e = .returned (.bool false) ∧ w = w' := by
  go_enter Try.func22, Try.ntmps22
  go_wp2
  go_rounds 3
  all_goals (go_ret; exact ⟨rfl, rfl⟩)
theorem has_H_L (w : World) : Calls Try.prog 22 #[.string { data := #[72] }, .int .u8 76] w fun e w' => e = .returned (.bool false) ∧ w = w' := by
  go_enter Try.func22, Try.ntmps22
  go_wp2
  go_rounds 3
  all_goals (go_ret; exact ⟨rfl, rfl⟩)
theorem has_H_V (w : World) : Calls Try.prog 22 #[.string { data := #[72] }, .int .u8 86] w fun e w' => e = .returned (.bool false) ∧ w = w' := by
  go_enter Try.func22, Try.ntmps22
  go_wp2
  go_rounds 3
  all_goals (go_ret; exact ⟨rfl, rfl⟩)
theorem has_HAB_H (w : World) : Calls Try.prog 22 #[.string { data := #[72, 65, 66] }, .int .u8 72] w fun e w' => e = .returned (.bool true) ∧ w = w' := by
  go_enter Try.func22, Try.ntmps22
  go_wp2
  go_rounds 5
  all_goals (go_ret; exact ⟨rfl, rfl⟩)
theorem has_HAB_A (w : World) : Calls Try.prog 22 #[.string { data := #[72, 65, 66] }, .int .u8 65] w fun e w' => e = .returned (.bool true) ∧ w = w' := by
  go_enter Try.func22, Try.ntmps22
  go_wp2
  go_rounds 5
  all_goals (go_ret; exact ⟨rfl, rfl⟩)
theorem has_HAB_B (w : World) : Calls Try.prog 22 #[.string { data := #[72, 65, 66] }, .int .u8 66] w fun e w' => e = .returned (.bool true) ∧ w = w' := by
  go_enter Try.func22, Try.ntmps22
  go_wp2
  go_rounds 5
  all_goals (go_ret; exact ⟨rfl, rfl⟩)
theorem has_HAB_C (w : World) : Calls Try.prog 22 #[.string { data := #[72, 65, 66] }, .int .u8 67] w fun e w' => e = .returned (.bool false) ∧ w = w' := by
  go_enter Try.func22, Try.ntmps22
  go_wp2
  go_rounds 5
  all_goals (go_ret; exact ⟨rfl, rfl⟩)
theorem has_HAB_D (w : World) : Calls Try.prog 22 #[.string { data := #[72, 65, 66] }, .int .u8 68] w fun e w' => e = .returned (.bool false) ∧ w = w' := by
  go_enter Try.func22, Try.ntmps22
  go_wp2
  go_rounds 5
  all_goals (go_ret; exact ⟨rfl, rfl⟩)
theorem has_HAB_L (w : World) : Calls Try.prog 22 #[.string { data := #[72, 65, 66] }, .int .u8 76] w fun e w' => e = .returned (.bool false) ∧ w = w' := by
  go_enter Try.func22, Try.ntmps22
  go_wp2
  go_rounds 5
  all_goals (go_ret; exact ⟨rfl, rfl⟩)
theorem has_HAB_V (w : World) : Calls Try.prog 22 #[.string { data := #[72, 65, 66] }, .int .u8 86] w fun e w' => e = .returned (.bool false) ∧ w = w' := by
  go_enter Try.func22, Try.ntmps22
  go_wp2
  go_rounds 5
  all_goals (go_ret; exact ⟨rfl, rfl⟩)
theorem has_HABC_H (w : World) : Calls Try.prog 22 #[.string { data := #[72, 65, 66, 67] }, .int .u8 72] w fun e w' => e = .returned (.bool true) ∧ w = w' := by
  go_enter Try.func22, Try.ntmps22
  go_wp2
  go_rounds 6
  all_goals (go_ret; exact ⟨rfl, rfl⟩)
theorem has_HABC_A (w : World) : Calls Try.prog 22 #[.string { data := #[72, 65, 66, 67] }, .int .u8 65] w fun e w' => e = .returned (.bool true) ∧ w = w' := by
  go_enter Try.func22, Try.ntmps22
  go_wp2
  go_rounds 6
  all_goals (go_ret; exact ⟨rfl, rfl⟩)
theorem has_HABC_B (w : World) : Calls Try.prog 22 #[.string { data := #[72, 65, 66, 67] }, .int .u8 66] w fun e w' => e = .returned (.bool true) ∧ w = w' := by
  go_enter Try.func22, Try.ntmps22
  go_wp2
  go_rounds 6
  all_goals (go_ret; exact ⟨rfl, rfl⟩)
theorem has_HABC_C (w : World) : Calls Try.prog 22 #[.string { data := #[72, 65, 66, 67] }, .int .u8 67] w fun e w' => e = .returned (.bool true) ∧ w = w' := by
  go_enter Try.func22, Try.ntmps22
  go_wp2
  go_rounds 6
  all_goals (go_ret; exact ⟨rfl, rfl⟩)
theorem has_HABC_D (w : World) : Calls Try.prog 22 #[.string { data := #[72, 65, 66, 67] }, .int .u8 68] w fun e w' => e = .returned (.bool false) ∧ w = w' := by
  go_enter Try.func22, Try.ntmps22
  go_wp2
  go_rounds 6
  all_goals (go_ret; exact ⟨rfl, rfl⟩)
theorem has_HABC_L (w : World) : Calls Try.prog 22 #[.string { data := #[72, 65, 66, 67] }, .int .u8 76] w fun e w' => e = .returned (.bool false) ∧ w = w' := by
  go_enter Try.func22, Try.ntmps22
  go_wp2
  go_rounds 6
  all_goals (go_ret; exact ⟨rfl, rfl⟩)
theorem has_HABC_V (w : World) : Calls Try.prog 22 #[.string { data := #[72, 65, 66, 67] }, .int .u8 86] w fun e w' => e = .returned (.bool false) ∧ w = w' := by
  go_enter Try.func22, Try.ntmps22
  go_wp2
  go_rounds 6
  all_goals (go_ret; exact ⟨rfl, rfl⟩)
theorem has_HABCD_H (w : World) : Calls Try.prog 22 #[.string { data := #[72, 65, 66, 67, 68] }, .int .u8 72] w fun e w' => e = .returned (.bool true) ∧ w = w' := by
  go_enter Try.func22, Try.ntmps22
  go_wp2
  go_rounds 7
  all_goals (go_ret; exact ⟨rfl, rfl⟩)
theorem has_HABCD_A (w : World) : Calls Try.prog 22 #[.string { data := #[72, 65, 66, 67, 68] }, .int .u8 65] w fun e w' => e = .returned (.bool true) ∧ w = w' := by
  go_enter Try.func22, Try.ntmps22
  go_wp2
  go_rounds 7
  all_goals (go_ret; exact ⟨rfl, rfl⟩)
theorem has_HABCD_B (w : World) : Calls Try.prog 22 #[.string { data := #[72, 65, 66, 67, 68] }, .int .u8 66] w fun e w' => e = .returned (.bool true) ∧ w = w' := by
  go_enter Try.func22, Try.ntmps22
  go_wp2
  go_rounds 7
  all_goals (go_ret; exact ⟨rfl, rfl⟩)
theorem has_HABCD_C (w : World) : Calls Try.prog 22 #[.string { data := #[72, 65, 66, 67, 68] }, .int .u8 67] w fun e w' => e = .returned (.bool true) ∧ w = w' := by
  go_enter Try.func22, Try.ntmps22
  go_wp2
  go_rounds 7
  all_goals (go_ret; exact ⟨rfl, rfl⟩)
theorem has_HABCD_D (w : World) : Calls Try.prog 22 #[.string { data := #[72, 65, 66, 67, 68] }, .int .u8 68] w fun e w' => e = .returned (.bool true) ∧ w = w' := by
  go_enter Try.func22, Try.ntmps22
  go_wp2
  go_rounds 7
  all_goals (go_ret; exact ⟨rfl, rfl⟩)
theorem has_HABCD_L (w : World) : Calls Try.prog 22 #[.string { data := #[72, 65, 66, 67, 68] }, .int .u8 76] w fun e w' => e = .returned (.bool false) ∧ w = w' := by
  go_enter Try.func22, Try.ntmps22
  go_wp2
  go_rounds 7
  all_goals (go_ret; exact ⟨rfl, rfl⟩)
theorem has_HABCD_V (w : World) : Calls Try.prog 22 #[.string { data := #[72, 65, 66, 67, 68] }, .int .u8 86] w fun e w' => e = .returned (.bool false) ∧ w = w' := by
  go_enter Try.func22, Try.ntmps22
  go_wp2
  go_rounds 7
  all_goals (go_ret; exact ⟨rfl, rfl⟩)
theorem has_HABL_H (w : World) : Calls Try.prog 22 #[.string { data := #[72, 65, 66, 76] }, .int .u8 72] w fun e w' => e = .returned (.bool true) ∧ w = w' := by
  go_enter Try.func22, Try.ntmps22
  go_wp2
  go_rounds 6
  all_goals (go_ret; exact ⟨rfl, rfl⟩)
theorem has_HABL_A (w : World) : Calls Try.prog 22 #[.string { data := #[72, 65, 66, 76] }, .int .u8 65] w fun e w' => e = .returned (.bool true) ∧ w = w' := by
  go_enter Try.func22, Try.ntmps22
  go_wp2
  go_rounds 6
  all_goals (go_ret; exact ⟨rfl, rfl⟩)
theorem has_HABL_B (w : World) : Calls Try.prog 22 #[.string { data := #[72, 65, 66, 76] }, .int .u8 66] w fun e w' => e = .returned (.bool true) ∧ w = w' := by
  go_enter Try.func22, Try.ntmps22
  go_wp2
  go_rounds 6
  all_goals (go_ret; exact ⟨rfl, rfl⟩)
theorem has_HABL_C (w : World) : Calls Try.prog 22 #[.string { data := #[72, 65, 66, 76] }, .int .u8 67] w fun e w' => e = .returned (.bool false) ∧ w = w' := by
  go_enter Try.func22, Try.ntmps22
  go_wp2
  go_rounds 6
  all_goals (go_ret; exact ⟨rfl, rfl⟩)
theorem has_HABL_D (w : World) : Calls Try.prog 22 #[.string { data := #[72, 65, 66, 76] }, .int .u8 68] w fun e w' => e = .returned (.bool false) ∧ w = w' := by
  go_enter Try.func22, Try.ntmps22
  go_wp2
  go_rounds 6
  all_goals (go_ret; exact ⟨rfl, rfl⟩)
theorem has_HABL_L (w : World) : Calls Try.prog 22 #[.string { data := #[72, 65, 66, 76] }, .int .u8 76] w fun e w' => e = .returned (.bool true) ∧ w = w' := by
  go_enter Try.func22, Try.ntmps22
  go_wp2
  go_rounds 6
  all_goals (go_ret; exact ⟨rfl, rfl⟩)
theorem has_HABL_V (w : World) : Calls Try.prog 22 #[.string { data := #[72, 65, 66, 76] }, .int .u8 86] w fun e w' => e = .returned (.bool false) ∧ w = w' := by
  go_enter Try.func22, Try.ntmps22
  go_wp2
  go_rounds 6
  all_goals (go_ret; exact ⟨rfl, rfl⟩)
theorem has_HL_H (w : World) : Calls Try.prog 22 #[.string { data := #[72, 76] }, .int .u8 72] w fun e w' => e = .returned (.bool true) ∧ w = w' := by
  go_enter Try.func22, Try.ntmps22
  go_wp2
  go_rounds 4
  all_goals (go_ret; exact ⟨rfl, rfl⟩)
theorem has_HL_A (w : World) : Calls Try.prog 22 #[.string { data := #[72, 76] }, .int .u8 65] w fun e w' => e = .returned (.bool false) ∧ w = w' := by
  go_enter Try.func22, Try.ntmps22
  go_wp2
  go_rounds 4
  all_goals (go_ret; exact ⟨rfl, rfl⟩)
theorem has_HL_B (w : World) : Calls Try.prog 22 #[.string { data := #[72, 76] }, .int .u8 66] w fun e w' => e = .returned (.bool false) ∧ w = w' := by
  go_enter Try.func22, Try.ntmps22
  go_wp2
  go_rounds 4
  all_goals (go_ret; exact ⟨rfl, rfl⟩)
theorem has_HL_C (w : World) : Calls Try.prog 22 #[.string { data := #[72, 76] }, .int .u8 67] w fun e w' => e = .returned (.bool false) ∧ w = w' := by
  go_enter Try.func22, Try.ntmps22
  go_wp2
  go_rounds 4
  all_goals (go_ret; exact ⟨rfl, rfl⟩)
theorem has_HL_D (w : World) : Calls Try.prog 22 #[.string { data := #[72, 76] }, .int .u8 68] w fun e w' => e = .returned (.bool false) ∧ w = w' := by
  go_enter Try.func22, Try.ntmps22
  go_wp2
  go_rounds 4
  all_goals (go_ret; exact ⟨rfl, rfl⟩)
theorem has_HL_L (w : World) : Calls Try.prog 22 #[.string { data := #[72, 76] }, .int .u8 76] w fun e w' => e = .returned (.bool true) ∧ w = w' := by
  go_enter Try.func22, Try.ntmps22
  go_wp2
  go_rounds 4
  all_goals (go_ret; exact ⟨rfl, rfl⟩)
theorem has_HL_V (w : World) : Calls Try.prog 22 #[.string { data := #[72, 76] }, .int .u8 86] w fun e w' => e = .returned (.bool false) ∧ w = w' := by
  go_enter Try.func22, Try.ntmps22
  go_wp2
  go_rounds 4
  all_goals (go_ret; exact ⟨rfl, rfl⟩)
theorem has_HV_H (w : World) : Calls Try.prog 22 #[.string { data := #[72, 86] }, .int .u8 72] w fun e w' => e = .returned (.bool true) ∧ w = w' := by
  go_enter Try.func22, Try.ntmps22
  go_wp2
  go_rounds 4
  all_goals (go_ret; exact ⟨rfl, rfl⟩)
theorem has_HV_A (w : World) : Calls Try.prog 22 #[.string { data := #[72, 86] }, .int .u8 65] w fun e w' => e = .returned (.bool false) ∧ w = w' := by
  go_enter Try.func22, Try.ntmps22
  go_wp2
  go_rounds 4
  all_goals (go_ret; exact ⟨rfl, rfl⟩)
theorem has_HV_B (w : World) : Calls Try.prog 22 #[.string { data := #[72, 86] }, .int .u8 66] w fun e w' => e = .returned (.bool false) ∧ w = w' := by
  go_enter Try.func22, Try.ntmps22
  go_wp2
  go_rounds 4
  all_goals (go_ret; exact ⟨rfl, rfl⟩)
theorem has_HV_C (w : World) : Calls Try.prog 22 #[.string { data := #[72, 86] }, .int .u8 67] w fun e w' => e = .returned (.bool false) ∧ w = w' := by
  go_enter Try.func22, Try.ntmps22
  go_wp2
  go_rounds 4
  all_goals (go_ret; exact ⟨rfl, rfl⟩)
theorem has_HV_D (w : World) : Calls Try.prog 22 #[.string { data := #[72, 86] }, .int .u8 68] w fun e w' => e = .returned (.bool false) ∧ w = w' := by
  go_enter Try.func22, Try.ntmps22
  go_wp2
  go_rounds 4
  all_goals (go_ret; exact ⟨rfl, rfl⟩)
theorem has_HV_L (w : World) : Calls Try.prog 22 #[.string { data := #[72, 86] }, .int .u8 76] w fun e w' => e = .returned (.bool false) ∧ w = w' := by
  go_enter Try.func22, Try.ntmps22
  go_wp2
  go_rounds 4
  all_goals (go_ret; exact ⟨rfl, rfl⟩)
theorem has_HV_V (w : World) : Calls Try.prog 22 #[.string { data := #[72, 86] }, .int .u8 86] w fun e w' => e = .returned (.bool true) ∧ w = w' := by
  go_enter Try.func22, Try.ntmps22
  go_wp2
  go_rounds 4
  all_goals (go_ret; exact ⟨rfl, rfl⟩)
theorem has_L_H (w : World) : Calls Try.prog 22 #[.string { data := #[76] }, .int .u8 72] w fun e w' => e = .returned (.bool false) ∧ w = w' := by
  go_enter Try.func22, Try.ntmps22
  go_wp2
  go_rounds 3
  all_goals (go_ret; exact ⟨rfl, rfl⟩)
theorem has_L_A (w : World) : Calls Try.prog 22 #[.string { data := #[76] }, .int .u8 65] w fun e w' => e = .returned (.bool false) ∧ w = w' := by
  go_enter Try.func22, Try.ntmps22
  go_wp2
  go_rounds 3
  all_goals (go_ret; exact ⟨rfl, rfl⟩)
theorem has_L_B (w : World) : Calls Try.prog 22 #[.string { data := #[76] }, .int .u8 66] w fun e w' => e = .returned (.bool false) ∧ w = w' := by
  go_enter Try.func22, Try.ntmps22
  go_wp2
  go_rounds 3
  all_goals (go_ret; exact ⟨rfl, rfl⟩)
theorem has_L_C (w : World) : Calls Try.prog 22 #[.string { data := #[76] }, .int .u8 67] w fun e w' => e = .returned (.bool false) ∧ w = w' := by
  go_enter Try.func22, Try.ntmps22
  go_wp2
  go_rounds 3
  all_goals (go_ret; exact ⟨rfl, rfl⟩)
theorem has_L_D (w : World) : Calls Try.prog 22 #[.string { data := #[76] }, .int .u8 68] w fun e w' => e = .returned (.bool false) ∧ w = w' := by
  go_enter Try.func22, Try.ntmps22
  go_wp2
  go_rounds 3
  all_goals (go_ret; exact ⟨rfl, rfl⟩)
theorem has_L_L (w : World) : Calls Try.prog 22 #[.string { data := #[76] }, .int .u8 76] w fun e w' => e = .returned (.bool true) ∧ w = w' := by
  go_enter Try.func22, Try.ntmps22
  go_wp2
  go_rounds 3
  all_goals (go_ret; exact ⟨rfl, rfl⟩)
theorem has_L_V (w : World) : Calls Try.prog 22 #[.string { data := #[76] }, .int .u8 86] w fun e w' => e = .returned (.bool false) ∧ w = w' := by
  go_enter Try.func22, Try.ntmps22
  go_wp2
  go_rounds 3
  all_goals (go_ret; exact ⟨rfl, rfl⟩)
end Go.Proofs.Ytkmhnfbjapfbeaa
