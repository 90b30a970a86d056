/-
  What stands in memory, further, of no layer: one cell is read.
-/
import Derived.Test.YtkmhnfbjapfbeaaMem4
import Derived.BigGuard
namespace Go.Proofs.Ytkmhnfbjapfbeaa
open Go.RowKit

/-- one cell is read -/
theorem wpList_ld1 {ops : Array Oper} {rest : List Oper} {op : Oper} {a : Act} {w : World} {Q : Exit → Act → World → Prop} (hgd : Region.wanted op (yielded ops a.tmps) = true) {b : Nat} {vs : List Value} (j : Nat) (v : Value) (hR : Rc w b vs) (hv : vs[j]? = some v)
    (hrun : w.cell? ⟨b, j, none⟩ = some v → ∀ K : Act → World → Prop, K (a.put op.dst v) w → op.wp Try.prog a w K Q)
    (h : wpList Try.prog ops Q rest (a.put op.dst v) w) : wpList Try.prog ops Q (op :: rest) a w :=
  wpList_of_wp hgd fun K hK => hrun (hR.cell j hv) K (hK _ _ h)
end Go.Proofs.Ytkmhnfbjapfbeaa
