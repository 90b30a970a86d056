/-
  Rows of structs in memory, further, of no layer: a row that was made with room.
-/
import Derived.Test.YtkmhnfbjapfbeaaRowsOf
import Derived.OwnWalk
namespace Go.Proofs.Ytkmhnfbjapfbeaa.Ro
open Go.RowKit

/-- 'make([]T, 0, n)': behind wpList_make_own -/
theorem Rp.made {α : Type} {T : TypeId} {cs : α → List Value} {n cap : Nat} {w W W' : World} {ms : List (Nat × List Value)} (h : Ow w W ms)
    (h1 : W'.ownsRow w.heap.size T n (.slice (some ⟨W.heap.size, 0, none⟩) 0 cap) 0 []) (h2 : W.grownBy W' none) : Rp T cs n w W' (.slice (some ⟨W.heap.size, 0, none⟩) 0 cap) [] ms := by
  have hb : Below W.heap.size W W' := ⟨h2.os, h2.tape, h2.output, h2.size, fun j hj => h2.block j hj (by simp)⟩
  have h3 := (Rp.start (T := T) (cs := cs) (n := n) h).next hb
  refine ⟨h1, h3.bl, fun q hq => ⟨(h3.all q hq).1, (h3.all q hq).2.1, ?_⟩⟩
  show some W.heap.size ≠ some q.1
  intro e
  injection e with e
  have := h.lt hq
  omega
/-- a row to which is appended, of what lies in a block already -/
theorem Rp.put0 {α : Type} {T : TypeId} {cs : α → List Value} {n g cap m : Nat} {w W W' : World} {v : Value} {l : List α} {ms : List (Nat × List Value)} {c : α} (h : Rp T cs n w W v l ms) (hm : m = l.length)
    (h1 : W'.ownsRow w.heap.size T n (.slice (some ⟨g, 0, none⟩) (m + 1) cap) (m + 1) (flat cs l ++ cs c)) (h2 : W.grownBy W' v.ownBlock) (h3 : v.ownBlock = some g ∨ g = W.heap.size) :
    Rp T cs n w W' (.slice (some ⟨g, 0, none⟩) (m + 1) cap) (l ++ [c]) ms := by
  subst hm
  refine ⟨by rw [List.length_append, flat_app]; exact h1, Below.grown h.bl h2 h.bl.size (fun k hk => (h.own.lt k hk).1), fun q hq => ⟨fun j u hj => ?_, (h.all q hq).2.1, ?_⟩⟩
  · have hR := (h.all q hq).1
    have hne : some q.1 ≠ v.ownBlock := Ne.symm (h.all q hq).2.2
    exact ⟨(h2.cell_far ⟨q.1, j, none⟩ (h.lt hq) hne).trans (hR j u hj).1, (h2.frozen_far ⟨q.1, j, none⟩ (h.lt hq) hne).trans (hR j u hj).2⟩
  · show some g ≠ some q.1
    intro e1
    rcases h3 with h3 | rfl
    · exact (h.all q hq).2.2 (h3.trans e1)
    · have := h.lt hq
      injection e1 with e1
      omega
/-- a block with a struct's cells, as what is appended -/
theorem news_of {W : World} {b : Nat} {us : List Value} (h : Rc W b us) : ∀ j u, us[j]? = some u → W.cell? ((⟨b, 0, none⟩ : Addr).add j) = some u := fun j u hj => by
  rw [show (⟨b, 0, none⟩ : Addr).add j = ⟨b, j, none⟩ by simp [Addr.add]; omega]
  exact (h j u hj).1
theorem Rp.fresh {α : Type} {T : TypeId} {cs : α → List Value} {n : Nat} {W : World} {ms : List (Nat × List Value)} (h : ∀ q, q ∈ ms → Rc W q.1 q.2 ∧ q.2 ≠ []) : Rp T cs n W W (.slice none 0 0) [] ms :=
  ⟨World.ownsRow_nil _ _ _ _, Below.refl _ _, fun q hq => ⟨(h q hq).1, (h q hq).2, by simp [Value.ownBlock]⟩⟩
end Go.Proofs.Ytkmhnfbjapfbeaa.Ro
