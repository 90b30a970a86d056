/-
  Rows of a call's own, further, of no layer: one that grows beside another; a variable that holds one.
-/
import Derived.Test.YtkmhnfbjapfbeaaRowsOf2
import Derived.Test.YtkmhnfbjapfbeaaCmdRegion
import Derived.Test.YtkmhnfbjapfbeaaRegionCl
import Derived.Maps.AppendAt
import Derived.BigGuard
namespace Go.Proofs.Ytkmhnfbjapfbeaa
open Go.RowKit

namespace Ro
section
variable {α : Type} {T : TypeId} {cs : α → List Value} {n : Nat} {w W W' : World} {v v' : Value} {l : List α} {ms : List (Nat × List Value)}
/-- one more element is appended: in place, or in a new block -/
theorem Rp.push {c : α} (h : Rp T cs n w W v l ms) (h1 : W'.ownsRow w.heap.size T n v' (l.length + 1) (flat cs l ++ cs c)) (h2 : W.grownBy W' v.ownBlock) (h3 : v'.ownBlock = v.ownBlock ∨ v'.ownBlock = some W.heap.size) :
    Rp T cs n w W' v' (l ++ [c]) ms := by
  refine ⟨by rw [List.length_append, flat_app]; exact h1, Below.grown h.bl h2 h.bl.size (fun k hk => (h.own.lt k hk).1), fun q hq => ⟨fun j u hj => ?_, (h.all q hq).2.1, ?_⟩⟩
  · have hR := (h.all q hq).1
    have hne : some q.1 ≠ v.ownBlock := Ne.symm (h.all q hq).2.2
    exact ⟨(h2.cell_far ⟨q.1, j, none⟩ (h.lt hq) hne).trans (hR j u hj).1, (h2.frozen_far ⟨q.1, j, none⟩ (h.lt hq) hne).trans (hR j u hj).2⟩
  · intro e1
    rcases h3 with h3 | h3
    · exact (h.all q hq).2.2 (h3.symm.trans e1)
    · have h4 := h3.symm.trans e1
      have := h.lt hq
      injection h4 with h4
      omega
/-- .. and another row of the call's own stands -/
theorem Rp.push2 {β : Type} {T2 : TypeId} {cs2 : β → List Value} {n2 : Nat} {v2 : Value} {l2 : List β} {c : α} (h : Rp T cs n w W v l ms) (g : Rp T2 cs2 n2 w W v2 l2 ms) (ap : ∀ k, v.ownBlock = some k → v2.ownBlock ≠ some k)
    (h1 : W'.ownsRow w.heap.size T n v' (l.length + 1) (flat cs l ++ cs c)) (h2 : W.grownBy W' v.ownBlock) (h3 : v'.ownBlock = v.ownBlock ∨ v'.ownBlock = some W.heap.size) :
    Rp T cs n w W' v' (l ++ [c]) ms ∧ Rp T2 cs2 n2 w W' v2 l2 ms ∧ ∀ k, v'.ownBlock = some k → v2.ownBlock ≠ some k := by
  have hP := h.push h1 h2 h3
  refine ⟨hP, ⟨?_, hP.bl, fun q hq => ⟨(hP.all q hq).1, (hP.all q hq).2.1, (g.all q hq).2.2⟩⟩, fun k hk e => ?_⟩
  · rcases ho : v2.ownBlock with _ | k
    · exact g.own.kept h2 (.inl ho)
    · exact g.own.kept h2 (.inr (by rw [ho]; exact fun e => ap k e.symm ho))
  · rcases h3 with h3 | h3
    · exact ap k (h3.symm.trans hk) e
    · have h4 := (g.own.lt k e).2
      rw [h3] at hk
      injection hk with hk
      omega
/-- beside blocks that were made since -/
theorem Rp.beside {W0 : World} (h : Rp T cs n w W0 v l []) (k : Ow W0 W ms) : Rp T cs n w W v l ms := by
  have h2 := h.call k.k
  refine ⟨h2.own, h2.bl, fun q hq => ⟨(k.all q hq).1, (k.all q hq).2.1, fun e => ?_⟩⟩
  have h3 := (h.own.lt _ e).2
  have h4 := (k.all q hq).2.2
  omega
theorem Rp.push2L {β : Type} {T2 : TypeId} {cs2 : β → List Value} {n2 : Nat} {v2 : Value} {l2 : List β} {c : α} {o : Obj} {g cap m : Nat} (h : Rp T cs n w W v l ms) (g2 : Rp T2 cs2 n2 w W v2 l2 ms) (ap : ∀ k, v.ownBlock = some k → v2.ownBlock ≠ some k) (hm : m = l.length)
    (h1 : W'.ownsRow w.heap.size T n (.slice (some ⟨g, 0, none⟩) (m + 1) cap) (m + 1) (flat cs l ++ cs c)) (h2 : (W.alloc o).grownBy W' v.ownBlock) (h3 : v.ownBlock = some g ∨ g = W.heap.size + 1) :
    Rp T cs n w W' (.slice (some ⟨g, 0, none⟩) (m + 1) cap) (l ++ [c]) ms ∧ Rp T2 cs2 n2 w W' v2 l2 ms ∧ ∀ k, (Value.slice (some ⟨g, 0, none⟩) (m + 1) cap).ownBlock = some k → v2.ownBlock ≠ some k := by
  subst hm
  have ha : Below W.heap.size W (W.alloc o) := (Below.refl _ _).alloc (Nat.le_refl _) o
  refine (h.next ha).push2 (g2.next ha) ap h1 h2 ?_
  rcases h3 with h3 | rfl
  · exact .inl (by rw [h3]; rfl)
  · exact .inr (by simp [Value.ownBlock])
theorem Rp.forget (h : Rp T cs n w W v l ms) : Rp T cs n w W v l [] := h.drop (fun q hq => by cases hq)
/-- one cell that is a block of the call's own is written -/
theorem wpList_rput {ops : Array Oper} {rest : List Oper} {op : Oper} {a : Act} {Q : Exit → Act → World → Prop} (h : Rp T cs n w W v l ms) (hnd : ms.Pairwise fun p q => p.1 ≠ q.1) (hB : ∀ q, q ∈ ms → w.heap.size ≤ q.1) (i : Nat)
    (hgd : Region.wanted op (yielded ops a.tmps) = true) {b : Nat} {x : Value} (y : Value) (hi : ms[i]? = some (b, [x]))
    (hrun : W.cell? ⟨b, 0, none⟩ = some x → W.frozen? ⟨b, 0, none⟩ = false → ∀ K : Act → World → Prop, K (a.put op.dst undef) (W.setCell ⟨b, 0, none⟩ y) → op.wp Try.prog a W K Q)
    (k : ∀ W', Rp T cs n w W' v l (ms.set i (b, [y])) → wpList Try.prog ops Q rest (a.put op.dst undef) W') : wpList Try.prog ops Q (op :: rest) a W :=
  wpList_of_wp hgd fun K hK => hrun ((h.at i hi).cell 0 rfl) ((h.at i hi).froz 0 (by simp)) K (hK _ _ (k _ (h.set hnd hB i hi (us := [y]) rfl)))
end
end Ro
theorem news1K (wr : World) (x : Value) (e : TypeId) : ∀ j u, [x][j]? = some u → (wr.alloc (.cells #[x] e)).cell? ((⟨wr.heap.size, 0, none⟩ : Addr).add j) = some u := Ro.news wr [x] e
end Go.Proofs.Ytkmhnfbjapfbeaa
