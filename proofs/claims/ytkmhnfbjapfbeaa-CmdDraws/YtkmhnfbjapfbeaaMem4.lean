/-
  What stands in memory, further: a part of a call's own block is written; one cell is written at a region's end.
-/
import Derived.Test.YtkmhnfbjapfbeaaMem2
import Derived.Test.YtkmhnfbjapfbeaaMem3
namespace Go.Proofs.Ytkmhnfbjapfbeaa
open Go.RowKit

/-- a row of cells with a part of it written anew -/
def setsAt (vs : List Value) : Nat → List Value → List Value
  | _, [] => vs
  | o, v :: us => setsAt (vs.set o v) (o + 1) us
theorem setsAt_len (us : List Value) : ∀ (vs : List Value) (o : Nat), (setsAt vs o us).length = vs.length := by
  induction us with
  | nil => intro vs o; rfl
  | cons v us ih => intro vs o; show (setsAt (vs.set o v) (o + 1) us).length = _; rw [ih, List.length_set]
theorem Ow.putM {w W : World} {ms : List (Nat × List Value)} (h : Ow w W ms) (i : Nat) {b : Nat} {vs : List Value} (hi : ms[i]? = some (b, vs)) (o : Nat) (us : List Value) (hl : o + us.length ≤ vs.length) :
    Ow w (W.setCells b o us) (ms.set i (b, setsAt vs o us)) := by
  induction us generalizing W ms vs o with
  | nil =>
    have hn : i < ms.length := (List.getElem?_eq_some_iff.1 hi).1
    have he : ms[i] = (b, vs) := (List.getElem?_eq_some_iff.1 hi).2
    show Ow w W (ms.set i (b, vs))
    rw [← he, List.set_getElem_self]; exact h
  | cons v us ih =>
    have hn : i < ms.length := (List.getElem?_eq_some_iff.1 hi).1
    simp only [List.length_cons] at hl
    have h1 := h.put1 i hi o (by omega) v
    have h2 := ih h1 (vs := vs.set o v) (by rw [List.getElem?_set_self hn]) (o + 1) (by rw [List.length_set]; omega)
    rw [List.set_set] at h2
    exact h2
theorem Rc.thereM {W : World} {b : Nat} {vs : List Value} (h : Rc W b vs) {o n : Nat} (hl : o + n ≤ vs.length) : W.there b o n := fun j hj => by
  have h1 := h (o + j) _ (List.getElem?_eq_getElem (by omega))
  exact ⟨by rw [h1.1]; rfl, h1.2⟩
section
variable {ty : TypeId} {n : Nat}
/-- a part of one of the call's own blocks is written -/
theorem wpList_stm (ht : Ty ty n) {ops : Array Oper} {rest : List Oper} {op : Oper} {a : Act} {w0 w : World} {Q : Exit → Act → World → Prop} {ms : List (Nat × List Value)} (HO : Ow w0 w ms) (i : Nat) (us : List Value)
    (hgd : Region.wanted op (yielded ops a.tmps) = true) (x y : Operand) (ho : op.op = .store ty x y) (b o : Nat) (hx : a.eval x = .pointer (some ⟨b, o, none⟩)) (hy : a.eval y = .agg us.toArray)
    (vs : List Value) (hi : ms[i]? = some (b, vs)) (hl : o + n ≤ vs.length) (hu : us.length = n) (h1 : us.all (·.oneCell') = true)
    (h : ∀ w', Ow w0 w' (ms.set i (b, setsAt vs o us)) → wpList Try.prog ops Q rest (a.put op.dst undef) w') : wpList Try.prog ops Q (op :: rest) a w :=
  wpList_of_wp hgd fun K hK => wp_store_mid ty x y ho b o us.toArray hx hy (by simpa using (HO.at i hi).thereM (o := o) (n := us.length) (by omega)) (by simpa [hu] using ht.size) (by simpa using h1) (hK _ _ (h _ (HO.putM i hi o us (by omega))))
end
/-- one cell of one of the call's own blocks is written -/
theorem wpList_put1 {ops : Array Oper} {rest : List Oper} {op : Oper} {a : Act} {w0 w : World} {Q : Exit → Act → World → Prop} {ms : List (Nat × List Value)} (HO : Ow w0 w ms) (i : Nat)
    (hgd : Region.wanted op (yielded ops a.tmps) = true) {b : Nat} {vs : List Value} (j : Nat) (hj : j < vs.length) (v : Value) (hi : ms[i]? = some (b, vs))
    (hrun : w.cell? ⟨b, j, none⟩ = vs[j]? → w.frozen? ⟨b, j, none⟩ = false → ∀ K : Act → World → Prop, K (a.put op.dst undef) (w.setCell ⟨b, j, none⟩ v) → op.wp Try.prog a w K Q)
    (h : ∀ w', Ow w0 w' (ms.set i (b, vs.set j v)) → wpList Try.prog ops Q rest (a.put op.dst undef) w') : wpList Try.prog ops Q (op :: rest) a w :=
  wpList_of_wp hgd fun K hK => hrun (by rw [List.getElem?_eq_getElem hj]; exact (HO.at i hi).cell j (List.getElem?_eq_getElem hj)) ((HO.at i hi).froz j hj) K (hK _ _ (h _ (HO.put1 i hi j hj v)))
/-- .. in a region that draws its order, where nothing else is left to come up -/
theorem wpAny_put1 {ops : Array Oper} {listed : Array Bool} {fuel : Nat} {op : Oper} {a : Act} {w0 w : World} {Q : Exit → Act → World → Prop} {ms : List (Nat × List Value)} (z : Nat) (hr : Region.ready .any ops listed = [z]) (hz : ops[z]? = some op) (HO : Ow w0 w ms) (i : Nat)
    (hgd : Region.wanted op (yielded ops a.tmps) = true) {b : Nat} {vs : List Value} (j : Nat) (hj : j < vs.length) (v : Value) (hi : ms[i]? = some (b, vs))
    (hrun : w.cell? ⟨b, j, none⟩ = vs[j]? → w.frozen? ⟨b, j, none⟩ = false → ∀ K : Act → World → Prop, K (a.put op.dst undef) (w.setCell ⟨b, j, none⟩ v) → op.wp Try.prog a w K Q)
    (h : ∀ w', Ow w0 w' (ms.set i (b, vs.set j v)) → wpAny Try.prog .any ops Q fuel (listed.setIfInBounds z true) (a.put op.dst undef) w') : wpAny Try.prog .any ops Q (fuel + 1) listed a w := by
  refine wpAny_ready hr (by simp) (AllReady.cons hz (fun K hK => ?_) AllReady.nil)
  rw [if_pos hgd]
  exact hrun (by rw [List.getElem?_eq_getElem hj]; exact (HO.at i hi).cell j (List.getElem?_eq_getElem hj)) ((HO.at i hi).froz j hj) _ (hK _ _ (h _ (HO.put1 i hi j hj v)))
theorem Ow.drop2 {w W : World} {p q : Nat × List Value} {ms : List (Nat × List Value)} (h : Ow w W (p :: q :: ms)) : Ow w W (p :: ms) := h.swap.drop1
end Go.Proofs.Ytkmhnfbjapfbeaa
