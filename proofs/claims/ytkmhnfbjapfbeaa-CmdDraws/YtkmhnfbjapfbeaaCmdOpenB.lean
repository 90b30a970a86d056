/-
  An argument that is a row of commands reads as it did (layer 20).
-/
import Derived.Test.YtkmhnfbjapfbeaaCmdOpen
import Derived.Test.YtkmhnfbjapfbeaaSlRow
namespace Go.Proofs.Ytkmhnfbjapfbeaa
open Go.RowKit

theorem shut_keptB {H : Type} {enc : TypeId × Value → H} {W W' : World} {v : Value} {d : DataW H} {ps before : List MemPlace} {t : TypeId} {sp : Nat → Bool} (h : DataW.Trod enc Try.prog W 0 (fun _ => true) true t v d ps)
    (hr : Try.prog.readableRec t = true) (ht : t < Try.prog.types.size) (hk : Below W.heap.size W W') (hlt : ∀ x ∈ ps, x.block < W.heap.size) (hs : ∀ p ∈ before, sp p.block = true) (hsub : ∀ x ∈ ps, x ∈ before) :
    DataW.Trod enc Try.prog W' 0 sp true t v d ps :=
  WideElems.Trod_stays laidOut hr ht h (fun x hx => hk.same (hlt x hx)) (fun x hx => hs x (hsub x hx))
end Go.Proofs.Ytkmhnfbjapfbeaa
