/-
  What stands in memory, further: one cell of a call's own block is written.
-/
import Derived.Test.YtkmhnfbjapfbeaaMem
namespace Go.Proofs.Ytkmhnfbjapfbeaa
open Go.RowKit

theorem St.setCell {w : World} {b j : Nat} (v : Value) : St b w (w.setCell ⟨b, j, none⟩ v) :=
  ⟨fun _ _ hc => World.cell?_setCell_far _ _ _ _ (Ne.symm hc), fun _ => World.frozen?_setCell _ _ _ _, World.size_setCell _ _ _, fun B hB => (Below.refl B w).setCell (p := ⟨b, j, none⟩) hB v⟩
theorem Rc.store1 {W : World} {b j : Nat} {vs : List Value} (h : Rc W b vs) (hj : j < vs.length) (v : Value) : Rc (W.setCell ⟨b, j, none⟩ v) b (vs.set j v) := by
  intro k u hu
  have hk : k < vs.length := by have := (List.getElem?_eq_some_iff.1 hu).1; simpa using this
  refine ⟨?_, ((St.setCell v).frozen _).trans (h.froz k hk)⟩
  rw [List.getElem?_set] at hu
  by_cases e : j = k
  · subst e
    rw [if_pos rfl, if_pos hj, Option.some.injEq] at hu
    subst hu
    exact World.cell?_setCell_same _ _ _ (h.cell j (List.getElem?_eq_getElem hj))
  · rw [if_neg e] at hu
    rw [World.cell?_setCell_other _ _ _ _ (by intro c; cases c; exact e rfl)]
    exact h.cell k hu
theorem Ow.put1 {w W : World} {ms : List (Nat × List Value)} (h : Ow w W ms) (i : Nat) {b : Nat} {vs : List Value} (hi : ms[i]? = some (b, vs)) (j : Nat) (hj : j < vs.length) (v : Value) :
    Ow w (W.setCell ⟨b, j, none⟩ v) (ms.set i (b, vs.set j v)) := by
  have hR := h.at i hi
  have hn : i < ms.length := (List.getElem?_eq_some_iff.1 hi).1
  have he : ms[i] = (b, vs) := (List.getElem?_eq_some_iff.1 hi).2
  have hus : vs.set j v ≠ [] := fun e => by
    have := congrArg List.length e
    simp at this; subst this; simp at hj
  refine ⟨(St.setCell v).kp h.k (h.mine i hi), fun q hq => ?_, ?_⟩
  · obtain ⟨k, hk, rfl⟩ := List.getElem_of_mem hq
    rw [List.length_set] at hk
    rw [List.getElem_set]
    split
    · exact ⟨hR.store1 hj v, hus, h.mine i hi⟩
    · rename_i hne
      have h9 := h.all ms[k] (List.getElem_mem hk)
      refine ⟨h9.1.st (St.setCell v) ?_, h9.2⟩
      have hp := List.pairwise_iff_getElem.1 h.nd
      rcases Nat.lt_or_gt_of_ne hne with hlt | hlt
      · have := hp i k hn hk hlt; rw [he] at this; exact Ne.symm this
      · have := hp k i hk hn hlt; rw [he] at this; exact this
  · refine List.pairwise_iff_getElem.2 fun x y hx hy hxy => ?_
    rw [List.length_set] at hx hy
    have hp := List.pairwise_iff_getElem.1 h.nd x y hx hy hxy
    simp only [List.getElem_set]
    split
    · rename_i e1; subst e1
      rw [if_neg (by omega)]; rw [he] at hp; exact hp
    · split
      · rename_i e1 e2; subst e2
        rw [he] at hp; exact hp
      · exact hp
end Go.Proofs.Ytkmhnfbjapfbeaa
