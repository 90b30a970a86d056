/-
  Contracts of layer 7 (blend): Mix of right colours by any blend that may be; awake.
-/
import Derived.Test.YtankjlpanmmogaaGreatBlendMixSum
import Derived.Test.YtankjlpanmmogaaGreatBlendMixLeast
import Derived.Test.YtankjlpanmmogaaGreatBlendMixMost
namespace Go.Proofs.YtankjlpanmmogaaGreat
set_option maxRecDepth 100000
open Go.RowKit

theorem mix_yes (s d q m r g b a r' g' b' a' : Int) (w : World) (hc : (Bn.chk s d q m != 0) = false) (h : Tn.right r g b a = true) (h' : Tn.right r' g' b' a' = true) :
    Calls Tryz.prog 78 #[.agg #[.int .i64 s, .int .i64 d, .int .i64 q, .int .i64 m], .agg #[.int .i64 r, .int .i64 g, .int .i64 b, .int .i64 a], .agg #[.int .i64 (r'), .int .i64 (g'), .int .i64 (b'), .int .i64 (a')]] w fun e w' => e = .returned (.tuple #[.agg #[.int .i64 (Bn.wr m 1 (Bn.mx s d q r r' a a') r'), .int .i64 (Bn.wr m 2 (Bn.mx s d q g g' a a') g'), .int .i64 (Bn.wr m 4 (Bn.mx s d q b b' a a') b'), .int .i64 (Bn.wr m 8 (Bn.mx s d q a a' a a') a')], .int .i64 0]) ∧ Kp w.heap.size w w' := by
  by_cases h3 : q = 3
  · exact mix_least s d q m r g b a r' g' b' a' w hc h3 h h'
  · by_cases h4 : q = 4
    · exact mix_most s d q m r g b a r' g' b' a' w hc h4 h h'
    · exact mix_sum s d q m r g b a r' g' b' a' w hc h3 h4 h h'

theorem awake_mix (w : World) :
    Calls Tryz.prog 78 #[.agg #[.int .i64 6, .int .i64 7, .int .i64 0, .int .i64 7], .agg #[.int .i64 255, .int .i64 0, .int .i64 0, .int .i64 128], .agg #[.int .i64 255, .int .i64 255, .int .i64 255, .int .i64 9]] w fun e w' => e = .returned (.tuple #[.agg #[.int .i64 255, .int .i64 127, .int .i64 127, .int .i64 9], .int .i64 0]) ∧ Kp w.heap.size w w' :=
  (mix_yes 6 7 0 7 255 0 0 128 255 255 255 9 w (by decide) (by decide) (by decide)).mono fun _ _ h => ⟨h.1, h.2⟩
end Go.Proofs.YtankjlpanmmogaaGreat
