/-
  The document's own answers for layer 7 (blend): a factor, a channel.
-/
import Derived.Test.YtankjlpanmmogaaBlendMixC
namespace Go.Proofs.Ytankjlpanmmogaa
set_option maxRecDepth 100000
open Go.RowKit

set_option maxHeartbeats 4000000 in
theorem rfactor_any (k x y xa ya : Int) (w : World) (hk : Bn.am 10 k = true) (hx : 0 ≤ x ∧ x ≤ 255) (hy : 0 ≤ y ∧ y ≤ 255) (hxa : 0 ≤ xa ∧ xa ≤ 255) (hya : 0 ≤ ya ∧ ya ≤ 255) :
    Calls Try.prog 74 #[.int .i64 k, .int .i64 x, .int .i64 y, .int .i64 xa, .int .i64 ya] w fun e w' => e = .returned (.int .i64 (Bn.fac k x y xa ya)) ∧ Kp w.heap.size w w' := by
  have h9 := Bn.am_iff.1 hk
  have hc : k = 0 ∨ k = 1 ∨ k = 2 ∨ k = 3 ∨ k = 4 ∨ k = 5 ∨ k = 6 ∨ k = 7 ∨ k = 8 ∨ k = 9 := by omega
  obtain ⟨x1, x2⟩ := hx
  obtain ⟨x3, x4⟩ := hy
  obtain ⟨x5, x6⟩ := hxa
  obtain ⟨x7, x8⟩ := hya
  clear hk h9
  rcases hc with rfl | rfl | rfl | rfl | rfl | rfl | rfl | rfl | rfl | rfl
  all_goals
    go_enter Try.func74, Try.ntmps74
    go_wp2
    go_ret
    exact ⟨rfl, Kp.new _ _ _⟩
end Go.Proofs.Ytankjlpanmmogaa
