/-
  '==' of pixels and fragments with themselves (layer 19).
-/
import Derived.Test.YtankjlpanmmogaaGreatTriEq
import Derived.BigGuard
namespace Go.Proofs.YtankjlpanmmogaaGreat
set_option maxRecDepth 100000
open Go.RowKit

theorem eqCol (d : Nat) (n0 n1 n2 n3 : Int) (w : World) : eqRun (d + 2) 51 (.agg #[.int .i64 n0, .int .i64 n1, .int .i64 n2, .int .i64 n3]) (.agg #[.int .i64 n0, .int .i64 n1, .int .i64 n2, .int .i64 n3]) w := by
  unfold eqRun
  rw [run_equalIn_struct w (d + 1) 51 _ _ (by kernel_rfl) (by kernel_rfl)]
  simp only [Program.fieldsOf, Tryz.underlying51]
  exact eqStep (r := true) (s := true) (by decide) (eqIs d n0 rfl) (eqStep (r := true) (s := true) (by decide) (eqIs d n1 rfl) (eqStep (r := true) (s := true) (by decide) (eqIs d n2 rfl) (eqStep (r := true) (s := true) (by decide) (eqIs d n3 rfl) (by simp [Op.eqFields]))))
set_option linter.unusedSimpArgs false in
set_option maxRecDepth 100000 in
set_option maxHeartbeats 8000000 in
theorem run_eqPx (n0 n1 n2 n3 n4 n5 : Int) (w : World) : (Op.equalIn 10000 62 (.agg #[.int .i64 n0, .int .i64 n1, .int .i64 n2, .int .i64 n3, .int .i64 n4, .int .i64 n5]) (.agg #[.int .i64 n0, .int .i64 n1, .int .i64 n2, .int .i64 n3, .int .i64 n4, .int .i64 n5])).run Tryz.prog w = .ok true w := by
  rw [run_equalIn_struct w 9999 62 _ _ (by kernel_rfl) (by kernel_rfl)]
  simp only [Program.fieldsOf, Tryz.underlying62]
  exact eqStep (r := true) (s := true) (by decide) (eqSame _ _ (.agg #[.int .i64 n0, .int .i64 n1, .int .i64 n2, .int .i64 n3]) (by kernel_rfl) (eqCol 9997 n0 n1 n2 n3 w)) (eqStep (r := true) (s := true) (by decide) (eqIs 9998 n4 rfl) (eqStep (r := true) (s := true) (by decide) (eqIs 9998 n5 rfl) (by simp [Op.eqFields])))
set_option linter.unusedSimpArgs false in
set_option maxRecDepth 100000 in
set_option maxHeartbeats 8000000 in
theorem run_eqFrag (n0 n1 n2 n3 n4 : Int) (w : World) : (Op.equalIn 10000 53 (.agg #[.int .i64 n0, .int .i64 n1, .int .i64 n2, .int .i64 n3, .int .i64 n4]) (.agg #[.int .i64 n0, .int .i64 n1, .int .i64 n2, .int .i64 n3, .int .i64 n4])).run Tryz.prog w = .ok true w := by
  rw [run_equalIn_struct w 9999 53 _ _ (by kernel_rfl) (by kernel_rfl)]
  simp only [Program.fieldsOf, Tryz.underlying53]
  exact eqStep (r := true) (s := true) (by decide) (eqSame _ _ (.agg #[.int .i64 n0, .int .i64 n1, .int .i64 n2, .int .i64 n3]) (by kernel_rfl) (eqCol 9997 n0 n1 n2 n3 w)) (eqStep (r := true) (s := true) (by decide) (eqIs 9998 n4 rfl) (by simp [Op.eqFields]))
end Go.Proofs.YtankjlpanmmogaaGreat
