/-
  More on memory, of no layer: a block is forgotten; new variables of any cells in a region that draws its order.
-/
import Derived.Test.YtkmhnfbjapfbeaaRegionOw
namespace Go.Proofs.Ytkmhnfbjapfbeaa
open Go.RowKit

/-- the newest block is forgotten -/
theorem Ow.drop1 {w W : World} {q : Nat × List Value} {ms : List (Nat × List Value)} (h : Ow w W (q :: ms)) : Ow w W ms :=
  ⟨h.k, fun p hp => h.all p (List.mem_cons_of_mem _ hp), (List.pairwise_cons.1 h.nd).2⟩

/-- a callee's own blocks ahead of the caller's -/
theorem Ow.join {w W W' : World} {ms ns : List (Nat × List Value)} (h : Ow w W ms) (k : Ow W W' ns) : Ow w W' (ns ++ ms) := by
  refine ⟨(h.call k.k).k, fun q hq => ?_, List.pairwise_append.2 ⟨k.nd, h.nd, fun p hp q hq => ?_⟩⟩
  · rcases List.mem_append.1 hq with hq | hq
    · exact ⟨(k.all q hq).1, (k.all q hq).2.1, Nat.le_trans h.k.size (k.all q hq).2.2⟩
    · exact (h.call k.k).all q hq
  · have h1 := (k.all p hp).2.2
    have h2 := h.lt hq
    omega
theorem Ow.perm {w W : World} {ms ns : List (Nat × List Value)} (h : Ow w W ms) (p : ms.Perm ns) : Ow w W ns :=
  ⟨h.k, fun q hq => h.all q (p.mem_iff.2 hq), (p.pairwise_iff (fun h => Ne.symm h)).1 h.nd⟩

/-- a new variable of cells v :: r is made, in a region that draws its order -/
theorem Rg2.makes_of {ty : TypeId} {w : World} {ms : List (Nat × List Value)} {ops : Array Oper} {o : Oper} (v : Value) (r : List Value) (hgd : ∀ a : Act, Region.wanted o (yielded ops a.tmps) = true)
    (hrun : ∀ (a : Act) (W : World), (execOp a.eval o).run Try.prog W = .ok (.value (.pointer (some ⟨W.heap.size, 0, none⟩))) (W.alloc (.cells (v :: r).toArray ty))) :
    Makes Try.prog ops (Io w ms) (fun b s => (b, v :: r) :: s) o :=
  fun a => ⟨hgd a, fun _ W hI => ⟨_, hrun a W, Ow.new hI v r ty⟩⟩
end Go.Proofs.Ytkmhnfbjapfbeaa
