/-
  VecMoves: its Go text returns true.
-/
import Derived.Test.YtbhdmfoigilibaaVecMovesWalk1
import Derived.Test.YtbhdmfoigilibaaVecMovesWalk2
import Derived.Test.YtbhdmfoigilibaaVecMovesWalk3
import Derived.Test.YtbhdmfoigilibaaVecMovesWalk4
namespace Go.Proofs.Ytbhdmfoigilibaa
open Go.RowKit

theorem moves_walk (a b c x y z : Int) (c0 c1 c2 c3 c4 c5 : Value) (w : World) :
    Calls Try.prog 5 #[.agg #[.int .i64 a, .int .i64 b, .int .i64 c], .agg #[.int .i64 x, .int .i64 y, .int .i64 z, c0, c1, c2, c3, c4, c5]] w fun e w' => e = .returned (.bool true) ∧ Kp w.heap.size w w' := by
  cases h16 : Vc.wi 65536 (Vc.v4 a b c 0) 3
  · cases h24 : Vc.wi 16777216 (Vc.v4 a b c 0) 3
    · exact moves_1 a b c x y z c0 c1 c2 c3 c4 c5 w h24 h16
    · exact moves_2 a b c x y z c0 c1 c2 c3 c4 c5 w h24 h16
  · have h24 : Vc.wi 16777216 (Vc.v4 a b c 0) 3 = true := Vc.wi_true fun j hj => by have := Vc.wi_all h16 j hj; omega
    cases hp : Vc.wi 1073741824 (Vc.v4 x y z 256) 4
    · exact moves_3 a b c x y z c0 c1 c2 c3 c4 c5 w h24 h16 hp
    · exact moves_4 a b c x y z c0 c1 c2 c3 c4 c5 w h24 h16 hp
end Go.Proofs.Ytbhdmfoigilibaa
