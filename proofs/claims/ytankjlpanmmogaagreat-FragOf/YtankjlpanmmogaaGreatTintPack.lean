/-
  Contracts of layer 6 (tint): Pack of a right colour.
-/
import Derived.Test.YtankjlpanmmogaaGreatJTexMix
namespace Go.Proofs.YtankjlpanmmogaaGreat
set_option maxRecDepth 100000
open Go.RowKit

/-- packed up to channel k -/
def Tn.pk (r g b a : Int) : Nat → Int
  | 0 => 0 | 1 => r | 2 => r * 256 + g | 3 => (r * 256 + g) * 256 + b | _ => Tn.pack r g b a
def Tn.fourth (r g b a : Int) : Nat → Int
  | 0 => r | 1 => g | 2 => b | _ => a
theorem Tn.pk_step {r g b a : Int} (h : Tn.right r g b a = true) (k : Nat) (hk : k < 4) : 0 ≤ Tn.pk r g b a k ∧ Tn.pk r g b a k < 16777216 ∧ 0 ≤ Tn.fourth r g b a k ∧ Tn.fourth r g b a k ≤ 255 ∧ Tn.pk r g b a k * 256 + Tn.fourth r g b a k = Tn.pk r g b a (k + 1) := by
  have := Tn.right_iff.1 h
  obtain rfl | rfl | rfl | rfl : k = 0 ∨ k = 1 ∨ k = 2 ∨ k = 3 := by omega
  all_goals (refine ⟨?_, ?_, ?_, ?_, ?_⟩ <;> first | rfl | (simp only [Tn.pk, Tn.fourth]; omega))
theorem index_four (r g b a : Int) (k : Nat) (hk : k < 4) (w : World) : (Instr.index 110 (.agg #[.int .i64 r, .int .i64 g, .int .i64 b, .int .i64 a]) (.int .i64 k)).run Tryz.prog w = .ok (.int .i64 (Tn.fourth r g b a k)) w := by
  rcases k with _ | _ | _ | _ | k
  all_goals first | omega | kernel_rfl

end Go.Proofs.YtankjlpanmmogaaGreat
