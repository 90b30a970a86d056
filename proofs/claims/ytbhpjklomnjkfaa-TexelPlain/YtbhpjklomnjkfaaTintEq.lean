/-
  Colours held against each other. Of no layer (a text that has TintWalks3 has these already).
-/
import Derived.Test.YtbhpjklomnjkfaaTintWalks
import Derived.ChangeKeysEq
import Derived.Laws.StructEq
namespace Go.Proofs.Ytbhpjklomnjkfaa
open Go.RowKit

theorem run_eqC (r g b a r' g' b' a' : Int) (w : World) : (Op.equalIn 10000 29 (.agg #[.int .i64 r, .int .i64 g, .int .i64 b, .int .i64 a]) (.agg #[.int .i64 (r'), .int .i64 (g'), .int .i64 (b'), .int .i64 (a')])).run Try.prog w = .ok (r == r' && g == g' && b == b' && a == a') w := by
  rw [run_equalIn_struct w 9999 29 _ _ (by kernel_rfl) (by kernel_rfl)]
  simp only [Program.fieldsOf, Try.underlying29]
  rw [show (r == r' && g == g' && b == b' && a == a') = (r == r' && (g == g' && (b == b' && (a == a' && true)))) by simp [Bool.and_assoc]]
  refine eqStep (by decide) (eqInt r r' rfl rfl) (eqStep (by decide) (eqInt g g' rfl rfl) (eqStep (by decide) (eqInt b b' rfl rfl) (eqStep (by decide) (eqInt a a' rfl rfl) (by simp [Op.eqFields]))))
theorem run_eqC_same (r g b a : Int) (w : World) : (Op.equalIn 10000 29 (.agg #[.int .i64 r, .int .i64 g, .int .i64 b, .int .i64 a]) (.agg #[.int .i64 r, .int .i64 g, .int .i64 b, .int .i64 a])).run Try.prog w = .ok true w := by
  rw [run_eqC]; simp
end Go.Proofs.Ytbhpjklomnjkfaa
