/-
  A row of ints that a call makes while the slice lies in a field of one of its own structs: that cell is written. Of no layer.
-/
import Derived.Test.YtbhpjklomnjkfaaTileRows
import Derived.Test.YtbhpjklomnjkfaaMem2
namespace Go.Proofs.Ytbhpjklomnjkfaa
open Go.RowKit

theorem grown_setCell (W : World) (b j : Nat) (u : Value) : W.grownBy (W.setCell ⟨b, j, none⟩ u) (some b) :=
  ⟨rfl, rfl, rfl, Nat.le_of_eq (World.size_setCell _ _ _).symm, fun k _ hk => Below.heap_setCell _ _ _ k (fun e => hk (by rw [e]))⟩
theorem Ro.set1 {w W : World} {v : Value} {xs : List Value} {ms : List (Nat × List Value)} (h : Ro w W v xs ms) (nd : ms.Pairwise fun p q => p.1 ≠ q.1) (i : Nat) {b : Nat} {vs : List Value} (hi : ms[i]? = some (b, vs)) (hb : w.heap.size ≤ b) (j : Nat) (hj : j < vs.length) (u : Value) :
    Ro w (W.setCell ⟨b, j, none⟩ u) v xs (ms.set i (b, vs.set j u)) := by
  have hR := h.at i hi
  have hn : i < ms.length := (List.getElem?_eq_some_iff.1 hi).1
  have he : ms[i] = (b, vs) := (List.getElem?_eq_some_iff.1 hi).2
  have hg := grown_setCell W b j u
  have hall := h.all (b, vs) (List.mem_of_getElem? hi)
  have hus : vs.set j u ≠ [] := fun e => by
    have := congrArg List.length e
    simp at this; subst this; simp at hj
  refine ⟨?_, h.bl.setCell (p := ⟨b, j, none⟩) hb u, fun q hq => ?_⟩
  · rcases ho : v.ownBlock with _ | g
    · exact h.own.kept hg (.inl ho)
    · exact h.own.kept hg (.inr hall.2.2)
  · obtain ⟨k, hk, rfl⟩ := List.getElem_of_mem hq
    rw [List.length_set] at hk
    rw [List.getElem_set]
    split
    · exact ⟨hR.store1 hj u, hus, hall.2.2⟩
    · rename_i hne
      have h9 := h.all ms[k] (List.getElem_mem hk)
      refine ⟨h9.1.st (St.setCell u) ?_, h9.2⟩
      have hp := List.pairwise_iff_getElem.1 nd
      rcases Nat.lt_or_gt_of_ne hne with hlt | hlt
      · have := hp i k hn hk hlt; rw [he] at this; exact Ne.symm this
      · have := hp k i hk hn hlt; rw [he] at this; exact this
end Go.Proofs.Ytbhpjklomnjkfaa
