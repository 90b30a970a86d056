/-
  '==' of a state with itself (layer 18).
-/
import Derived.Test.YtoejknkjfnnffaaTriEq
import Derived.BigGuard
namespace Go.Proofs.Ytoejknkjfnnffaa
open Go.RowKit

theorem eqB (d : Nat) {xs : Array Value} {o : Nat} (x : Bool) {w : World} (h : xs[o]? = some (.bool x)) :
    ∃ va vb, (part 4 xs o).run Try.prog w = .ok va w ∧ (part 4 xs o).run Try.prog w = .ok vb w ∧ (Op.equalIn (d + 1) 4 va vb).run Try.prog w = .ok true w :=
  eqSame _ _ _ (run_part_plain w (by kernel_rfl) h) (by
    have h := run_equalIn_bool (P := Try.prog) w d 4 x x Try.underlying4
    rwa [show (x == x) = true by simp] at h)
theorem eqMat (d : Nat) (m : Nat → Int) (w : World) : eqRun (d + 2) 23 (.agg #[.int .i64 (m 0), .int .i64 (m 1), .int .i64 (m 2), .int .i64 (m 3), .int .i64 (m 4), .int .i64 (m 5), .int .i64 (m 6), .int .i64 (m 7), .int .i64 (m 8), .int .i64 (m 9), .int .i64 (m 10), .int .i64 (m 11), .int .i64 (m 12), .int .i64 (m 13), .int .i64 (m 14), .int .i64 (m 15)]) (.agg #[.int .i64 (m 0), .int .i64 (m 1), .int .i64 (m 2), .int .i64 (m 3), .int .i64 (m 4), .int .i64 (m 5), .int .i64 (m 6), .int .i64 (m 7), .int .i64 (m 8), .int .i64 (m 9), .int .i64 (m 10), .int .i64 (m 11), .int .i64 (m 12), .int .i64 (m 13), .int .i64 (m 14), .int .i64 (m 15)]) w := by
  obtain ⟨i, hi⟩ : ∃ i, Try.prog.info? 3 = some i := Option.isSome_iff_exists.1 (by kernel_rfl)
  unfold eqRun
  rw [run_equalIn_array w (d + 1) _ _ Try.underlying23 hi, show Try.prog.cellsOf 3 = 1 by kernel_rfl]
  apply eqItems_same
  intro j hj
  have : j < 16 := List.mem_range.1 hj
  refine ⟨.int .i64 (m j), run_part_plain w (by kernel_rfl) ?_, eqI d (m j) w⟩
  rcases j with _ | _ | _ | _ | _ | _ | _ | _ | _ | _ | _ | _ | _ | _ | _ | _ | j
  all_goals first | omega | rfl
theorem eqSten (d : Nat) (n : Nat → Int) (w : World) : eqRun (d + 2) 27 (.agg #[.int .i64 (n 0), .int .i64 (n 1), .int .i64 (n 2), .int .i64 (n 3), .int .i64 (n 4), .int .i64 (n 5), .int .i64 (n 6)]) (.agg #[.int .i64 (n 0), .int .i64 (n 1), .int .i64 (n 2), .int .i64 (n 3), .int .i64 (n 4), .int .i64 (n 5), .int .i64 (n 6)]) w := by
  unfold eqRun
  rw [run_equalIn_struct w (d + 1) 27 _ _ (by kernel_rfl) (by kernel_rfl)]
  simp only [Program.fieldsOf, Try.underlying27]
  exact eqStep (r := true) (s := true) (by decide) (eqIs d (n 0) rfl) (eqStep (r := true) (s := true) (by decide) (eqIs d (n 1) rfl) (eqStep (r := true) (s := true) (by decide) (eqIs d (n 2) rfl) (eqStep (r := true) (s := true) (by decide) (eqIs d (n 3) rfl) (eqStep (r := true) (s := true) (by decide) (eqIs d (n 4) rfl) (eqStep (r := true) (s := true) (by decide) (eqIs d (n 5) rfl) (eqStep (r := true) (s := true) (by decide) (eqIs d (n 6) rfl) (by simp [Op.eqFields])))))))
theorem eqBlend (d : Nat) (n : Nat → Int) (w : World) : eqRun (d + 2) 29 (.agg #[.int .i64 (n 0), .int .i64 (n 1), .int .i64 (n 2), .int .i64 (n 3)]) (.agg #[.int .i64 (n 0), .int .i64 (n 1), .int .i64 (n 2), .int .i64 (n 3)]) w := by
  unfold eqRun
  rw [run_equalIn_struct w (d + 1) 29 _ _ (by kernel_rfl) (by kernel_rfl)]
  simp only [Program.fieldsOf, Try.underlying29]
  exact eqStep (r := true) (s := true) (by decide) (eqIs d (n 0) rfl) (eqStep (r := true) (s := true) (by decide) (eqIs d (n 1) rfl) (eqStep (r := true) (s := true) (by decide) (eqIs d (n 2) rfl) (eqStep (r := true) (s := true) (by decide) (eqIs d (n 3) rfl) (by simp [Op.eqFields]))))
set_option linter.unusedSimpArgs false in
set_option maxRecDepth 100000 in
set_option maxHeartbeats 8000000 in
theorem run_eqState (s : Nat → Int) (p q : Bool) (w : World) : (Op.equalIn 10000 31 (.agg #[.int .i64 (s 0), .int .i64 (s 1), .int .i64 (s 2), .int .i64 (s 3), .int .i64 (s 4), .int .i64 (s 5), .int .i64 (s 6), .int .i64 (s 7), .int .i64 (s 8), .int .i64 (s 9), .int .i64 (s 10), .int .i64 (s 11), .int .i64 (s 12), .int .i64 (s 13), .int .i64 (s 14), .int .i64 (s 15), .int .i64 (s 16), .int .i64 (s 17), .int .i64 (s 18), .int .i64 (s 19), .int .i64 (s 20), .int .i64 (s 21), .int .i64 (s 22), .int .i64 (s 23), .int .i64 (s 24), .bool p, .int .i64 (s 26), .int .i64 (s 27), .int .i64 (s 28), .int .i64 (s 29), .int .i64 (s 30), .int .i64 (s 31), .int .i64 (s 32), .int .i64 (s 33), .int .i64 (s 34), .int .i64 (s 35), .int .i64 (s 36), .int .i64 (s 37), .int .i64 (s 38), .int .i64 (s 39), .bool q]) (.agg #[.int .i64 (s 0), .int .i64 (s 1), .int .i64 (s 2), .int .i64 (s 3), .int .i64 (s 4), .int .i64 (s 5), .int .i64 (s 6), .int .i64 (s 7), .int .i64 (s 8), .int .i64 (s 9), .int .i64 (s 10), .int .i64 (s 11), .int .i64 (s 12), .int .i64 (s 13), .int .i64 (s 14), .int .i64 (s 15), .int .i64 (s 16), .int .i64 (s 17), .int .i64 (s 18), .int .i64 (s 19), .int .i64 (s 20), .int .i64 (s 21), .int .i64 (s 22), .int .i64 (s 23), .int .i64 (s 24), .bool p, .int .i64 (s 26), .int .i64 (s 27), .int .i64 (s 28), .int .i64 (s 29), .int .i64 (s 30), .int .i64 (s 31), .int .i64 (s 32), .int .i64 (s 33), .int .i64 (s 34), .int .i64 (s 35), .int .i64 (s 36), .int .i64 (s 37), .int .i64 (s 38), .int .i64 (s 39), .bool q])).run Try.prog w = .ok true w := by
  rw [run_equalIn_struct w 9999 31 _ _ (by kernel_rfl) (by kernel_rfl)]
  simp only [Program.fieldsOf, Try.underlying31]
  exact eqStep (r := true) (s := true) (by decide) (eqSame _ _ (.agg #[.int .i64 (s 0), .int .i64 (s 1), .int .i64 (s 2), .int .i64 (s 3), .int .i64 (s 4), .int .i64 (s 5), .int .i64 (s 6), .int .i64 (s 7), .int .i64 (s 8), .int .i64 (s 9), .int .i64 (s 10), .int .i64 (s 11), .int .i64 (s 12), .int .i64 (s 13), .int .i64 (s 14), .int .i64 (s 15)]) (by kernel_rfl) (eqMat 9997 s w)) (eqStep (r := true) (s := true) (by decide) (eqSame _ _ (.agg #[.int .i64 (s 16), .int .i64 (s 17), .int .i64 (s 18), .int .i64 (s 19)]) (by kernel_rfl) (eqRect 9997 _ _ _ _ w)) (eqStep (r := true) (s := true) (by decide) (eqSame _ _ (.agg #[.int .i64 (s 20), .int .i64 (s 21), .int .i64 (s 22), .int .i64 (s 23)]) (by kernel_rfl) (eqRect 9997 _ _ _ _ w)) (eqStep (r := true) (s := true) (by decide) (eqIs 9998 (s 24) rfl) (eqStep (r := true) (s := true) (by decide) (eqB 9998 p rfl) (eqStep (r := true) (s := true) (by decide) (eqSame _ _ (.agg #[.int .i64 (s 26), .int .i64 (s 27), .int .i64 (s 28), .int .i64 (s 29), .int .i64 (s 30), .int .i64 (s 31), .int .i64 (s 32)]) (by kernel_rfl) (eqSten 9997 (fun i => s (26 + i)) w)) (eqStep (r := true) (s := true) (by decide) (eqSame _ _ (.agg #[.int .i64 (s 33), .int .i64 (s 34), .int .i64 (s 35), .int .i64 (s 36)]) (by kernel_rfl) (eqBlend 9997 (fun i => s (33 + i)) w)) (eqStep (r := true) (s := true) (by decide) (eqIs 9998 (s 37) rfl) (eqStep (r := true) (s := true) (by decide) (eqIs 9998 (s 38) rfl) (eqStep (r := true) (s := true) (by decide) (eqIs 9998 (s 39) rfl) (eqStep (r := true) (s := true) (by decide) (eqB 9998 q rfl) (by simp [Op.eqFields])))))))))))
end Go.Proofs.Ytoejknkjfnnffaa
