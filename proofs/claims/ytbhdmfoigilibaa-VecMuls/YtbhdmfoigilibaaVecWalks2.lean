/-
  Contracts of layer 5 (vec): whether a matrix may be, rows, columns, products of rows.
-/
import Derived.Test.YtbhdmfoigilibaaVecWalks
import Derived.StillTailTactics
namespace Go.Proofs.Ytbhdmfoigilibaa
open Go.RowKit

set_option maxHeartbeats 1000000 in
theorem mayBe_any (m : Nat → Int) (w : World) :
    Calls Try.prog 19 #[.agg (Vc.ar (m))] w fun e w' => e = .returned (.bool (Vc.wi 16777216 m 16)) ∧ Kp w.heap.size w w' := by
  have HR := Lib.hid (Rw.new16 w m 23 rfl)
  go_enter Try.func19, Try.ntmps19
  go_wp2_with ((go_at_call 20; refine (within_any 16777216 m 16 16 w.heap.size _ ?_ ?_ HR.out.cell).mono ?_; omega; omega; rintro e w' ⟨rfl, rfl⟩))
  go_ret
  exact ⟨rfl, (Kp.refl _ _).alloc (Nat.le_refl _) _ _⟩

theorem index4 (a : Nat → Int) (k : Nat) (hk : k < 4) (w : World) : (Instr.index 51 (.agg #[.int .i64 (a 0), .int .i64 (a 1), .int .i64 (a 2), .int .i64 (a 3)]) (.int .i64 k)).run Try.prog w = .ok (.int .i64 (a k)) w := by
  rcases k with _ | _ | _ | _ | k
  all_goals first | omega | kernel_rfl

theorem list4 (b : Nat → Int) (k : Nat) (h : k < ([.int .i64 (b 0), .int .i64 (b 1), .int .i64 (b 2), .int .i64 (b 3)] : List Value).length) : ([.int .i64 (b 0), .int .i64 (b 1), .int .i64 (b 2), .int .i64 (b 3)] : List Value)[k]'h = .int .i64 (b k) := by
  rcases k with _ | _ | _ | _ | k
  all_goals first | rfl | (simp at h; omega)

set_option maxHeartbeats 1000000 in
theorem product_any (a b : Nat → Int) (w : World) (ha : ∀ j, j < 4 → -16777216 ≤ a j ∧ a j ≤ 16777216) (hb : ∀ j, j < 4 → -1073741824 ≤ b j ∧ b j ≤ 1073741824) :
    Calls Try.prog 21 #[.agg #[.int .i64 (a 0), .int .i64 (a 1), .int .i64 (a 2), .int .i64 (a 3)], .agg #[.int .i64 (b 0), .int .i64 (b 1), .int .i64 (b 2), .int .i64 (b 3)]] w fun e w' => e = .returned (.int .i64 (Vc.prod a b)) ∧ Kp w.heap.size w w' := by
  have HP := Lib.hid (Vc.ps_bd ha hb)
  have HM := Lib.hid (fun j hj => Vc.mul_bd (ha j hj) (hb j hj))
  have HR := Lib.hid (Rw.new4 (w.alloc (.cells #[.int .i64 (a 0), .int .i64 (a 1), .int .i64 (a 2), .int .i64 (a 3)] 51)) b 51 rfl)
  clear ha hb
  go_enter Try.func21, Try.ntmps21
  go_wp2
  go_loop [5, 9] (fun s i => ∃ k : Nat, k ≤ 4 ∧ i = .int .i64 k ∧ s = .int .i64 (Vc.ps a b k)) (fun _ i => 4 - (intOf i).toNat)
  case atStart => exact ⟨0, by omega, rfl, rfl⟩
  case round =>
    obtain ⟨k, hk, rfl, rfl⟩ := hrel
    obtain ⟨p1, p2⟩ := HP.out k hk
    by_cases hlt : k < 4
    · have hi := index4 a k hlt
      have hcell := list4 b k
      obtain ⟨m1, m2⟩ := HM.out k hlt
      simp at m1 m2
      go_wp2
      go_round
      case rel => exact ⟨k + 1, by omega, by go_num, rfl⟩
      case measure => simp [intOf]; omega
    · obtain rfl : k = 4 := by omega
      go_wp2
      go_ret
      exact ⟨rfl, ((Kp.refl _ _).alloc (Nat.le_refl _) _ _).alloc (by simp) _ _⟩
end Go.Proofs.Ytbhdmfoigilibaa
