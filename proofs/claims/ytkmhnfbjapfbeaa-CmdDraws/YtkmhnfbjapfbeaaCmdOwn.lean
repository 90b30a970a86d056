/-
  Contracts of layer 20 (cmd): a command's own fields.
-/
import Derived.Test.YtkmhnfbjapfbeaaCmdOwnB
import Derived.Test.YtkmhnfbjapfbeaaCmdOwnC
import Derived.Test.YtkmhnfbjapfbeaaCmdOwnD
import Derived.Test.YtkmhnfbjapfbeaaCmdOwnE
import Derived.Test.YtkmhnfbjapfbeaaCmdOwnF
import Derived.Test.YtkmhnfbjapfbeaaCmdOwnG
import Derived.Test.YtkmhnfbjapfbeaaCmdOwnH
import Derived.BigGuard
namespace Go.Proofs.Ytkmhnfbjapfbeaa
open Go.RowKit

theorem own_any (o h a b c d : Int) (v u : Value) (l : List Int) (vs : List (Nat → Int)) (w : World) (hS : Sl w v (iv l)) (hV : Ro.Sp Cm.vt 9 w u vs) (hl : l.length ≤ 5000) (hn : vs.length ≤ 5000) : Cm.OwnSays o h a b c d v u l vs w := by
  by_cases hk : 1 ≤ o ∧ o ≤ 19
  · rcases Cm.kinds hk with rfl | rfl | rfl | rfl | rfl | rfl | rfl | rfl | rfl | rfl | rfl | rfl | rfl | rfl | rfl | rfl | rfl | rfl | rfl
    · exact own_1 h a b c d v u l vs w hS hV hl hn
    · exact own_2 h a b c d v u l vs w hS hV hl hn
    · exact own_3 h a b c d v u l vs w hS hV hl hn
    · exact own_4 h a b c d v u l vs w hS hV hl hn
    · exact own_5 h a b c d v u l vs w hS hV hl hn
    · exact own_6 h a b c d v u l vs w hS hV hl hn
    · exact own_7 h a b c d v u l vs w hS hV hl hn
    · exact own_8 h a b c d v u l vs w hS hV hl hn
    · exact own_9 h a b c d v u l vs w hS hV hl hn
    · exact own_10 h a b c d v u l vs w hS hV hl hn
    · exact own_11 h a b c d v u l vs w hS hV hl hn
    · exact own_12 h a b c d v u l vs w hS hV hl hn
    · exact own_13 h a b c d v u l vs w hS hV hl hn
    · exact own_14 h a b c d v u l vs w hS hV hl hn
    · exact own_15 h a b c d v u l vs w hS hV hl hn
    · exact own_16 h a b c d v u l vs w hS hV hl hn
    · exact own_17 h a b c d v u l vs w hS hV hl hn
    · exact own_18 h a b c d v u l vs w hS hV hl hn
    · exact own_19 h a b c d v u l vs w hS hV hl hn
  · exact own_no o h a b c d v u l vs w hk
end Go.Proofs.Ytkmhnfbjapfbeaa
