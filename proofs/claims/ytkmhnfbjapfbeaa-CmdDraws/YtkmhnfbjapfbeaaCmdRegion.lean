/-
  What stands in memory, further, of no layer: an append to nothing; one operation alone.
-/
import Derived.Test.YtkmhnfbjapfbeaaMem6
import Derived.Laws.AppendOwn
import Derived.BigGuard
namespace Go.Proofs.Ytkmhnfbjapfbeaa
open Go.RowKit

/-- one operation, alone, in a region that draws its order -/
theorem wpAny_aloneM {ops : Array Oper} {listed : Array Bool} {fuel : Nat} {op : Oper} {a : Act} {w : World} {Q : Exit → Act → World → Prop} (z : Nat) (hr : Region.ready .any ops listed = [z]) (hz : ops[z]? = some op)
    (hgd : Region.wanted op (yielded ops a.tmps) = true) (h : ∀ K : Act → World → Prop, (∀ a' w', wpAny Try.prog .any ops Q fuel (listed.setIfInBounds z true) a' w' → K a' w') → op.wp Try.prog a w K Q) : wpAny Try.prog .any ops Q (fuel + 1) listed a w := by
  refine wpAny_ready hr (by simp) (AllReady.cons hz (fun K hK => ?_) AllReady.nil)
  rw [if_pos hgd]
  exact h K hK
/-- one cell of a block of the region's own is written -/
theorem Rg2.puts_cellM {ops : Array Oper} {w : World} {ms s : List (Nat × List Value)} {o : Oper} {a : Act} (i : Nat) (hgd : Region.wanted o (yielded ops a.tmps) = true) {b : Nat} {vs : List Value} (j : Nat) (hj : j < vs.length) (v : Value)
    (hi : s[i]? = some (b, vs)) (hrun : ∀ W : World, W.cell? ⟨b, j, none⟩ = vs[j]? → W.frozen? ⟨b, j, none⟩ = false → (execOp a.eval o).run Try.prog W = .ok .skip (W.setCell ⟨b, j, none⟩ v)) :
    Rg2.Puts Try.prog ops (Rg2.Io w ms) o a s (s.set i (b, vs.set j v)) := by
  refine ⟨hgd, fun W hI => ⟨W.setCell ⟨b, j, none⟩ v, ?_, ?_⟩⟩
  · have hlt : i < s.length := (List.getElem?_eq_some_iff.1 hi).1
    have hR : Rc W b vs := Ow.at hI i (by rw [List.getElem?_append_left hlt]; exact hi)
    exact hrun W (by rw [List.getElem?_eq_getElem hj]; exact hR.cell j (List.getElem?_eq_getElem hj)) (hR.froz j hj)
  · have hlt : i < s.length := (List.getElem?_eq_some_iff.1 hi).1
    have h2 := Ow.put1 hI i (by rw [List.getElem?_append_left hlt]; exact hi) j hj v
    rw [List.set_append_left _ _ hlt] at h2
    exact h2
/-- 'append' of a slice to one that was made with nothing in it, and no room: a copy, in a new block -/
theorem run_append_fresh {W : World} (t ty e : TypeId) (i : TypeInfo) (z : Value) (ht : Try.prog.underlying t = some (.slice e)) (hi : Try.prog.info? e = some i) (hz : i.zero = some z) (hzs : z.cells.size = i.size) (g : Nat) (cur : Array Value) (hg : W.heap[g]? = some (.cells cur e (0, 0))) (hc : cur.size = 0)
    (a : Addr) (m c : Nat) (news : List Value) (hl : news.length = m * i.size) (hnews : ∀ j u, news[j]? = some u → W.cell? (a.add j) = some u) (h1 : ∀ u ∈ news, u.oneCell' = true) (h63 : m ≤ maxLen) (hbytes : m * i.bytes ≤ 140737488355328) (hpos : 0 < i.size) (base : Nat) (hbg : base ≤ g) (hbw : base ≤ W.heap.size) :
    ∃ v' w', (Builtin.append_ #[t, t] ty #[.slice (some ⟨g, 0, none⟩) 0 0, .slice (some a) m c]).run Try.prog W = .ok v' w' ∧ w'.ownsRow base e i.size v' m news ∧ Kp W.heap.size W w' := by
  by_cases hm : m = 0
  · subst hm
    have hn : news = [] := List.eq_nil_of_length_eq_zero (by simpa using hl)
    subst hn
    have hcur : cur = #[] := Array.eq_empty_of_size_eq_zero hc
    subst hcur
    have hr := run_append_room (P := Try.prog) W t ty e i ht hi g 0 0 #[] hg a 0 c [] (by simp) (fun j u h => by cases h) (fun u h => by cases h) (Nat.le_refl _) (by simp)
    have hx : (((#[] : Array Value).toList.take (0 * i.size)) ++ [] ++ (#[] : Array Value).toList.drop (0 * i.size + ([] : List Value).length)).toArray = (#[] : Array Value) := by simp
    rw [hx, setRow_self W g _ _ _ hg] at hr
    exact ⟨_, _, hr, ⟨by simp, .inr ⟨g, 0, #[], rfl, hbg, hg, Nat.le_refl _, Nat.zero_le _, by simp, by simp⟩⟩, Kp.refl _ _⟩
  · have hr := run_append_grow (P := Try.prog) W t ty e i z ht hi hz ⟨g, 0, none⟩ 0 0 [] (by simp) (fun j u h => by cases h) a m c news hl hnews (by omega) (by simp only [maxLen] at h63; omega) (growslice_fits (by omega) (by simpa using hbytes))
    simp only [Nat.zero_add] at hr
    have hge := grownCap_ge W m 0 e
    have hcm : grownCap W m 0 e ≤ maxLen := grownCap_le_maxLen W m 0 e h63
    refine ⟨_, _, hr, ⟨hl, .inr ⟨W.heap.size, _, _, rfl, hbw, heap_alloc_new W.drew _, hge, hcm, ?_, ?_⟩⟩, ((Kp.refl _ _).drew).alloc (Nat.le_refl _) _ _⟩
    · simp only [Array.size_append, List.size_toArray, size_zeroCells, hzs, hl, List.length_nil, Nat.zero_add, ← Nat.add_mul]
      congr 1
      omega
    · simp only [Array.toList_append, List.append_assoc, List.nil_append]
      rw [← hl]
      exact List.take_left
theorem wpList_append_fresh {W : World} {ops : Array Oper} {rest : List Oper} {o : Oper} {ac : Act} {Q : Exit → Act → World → Prop} (hgd : o.guard = none) (s x : Operand) (t : TypeId)
    (ho : o.op = .call { callee := .builtin .append, args := #[s, x], argTypes := #[t, t] }) (e : TypeId) (i : TypeInfo) (z : Value) (size bytes : Nat) (ht : Try.prog.underlying t = some (.slice e)) (hi : Try.prog.info? e = some i) (hz : i.zero = some z) (hsize : i.size = size) (hby : i.bytes = bytes) (hzs : z.cells.size = size) (hpos : 0 < size)
    (g : Nat) (cur : Array Value) (hs : ac.eval s = .slice (some ⟨g, 0, none⟩) 0 0) (hg : W.heap[g]? = some (.cells cur e (0, 0))) (hc : cur.size = 0) (a : Addr) (m c : Nat) (news : List Value) (hx : ac.eval x = .slice (some a) m c)
    (hl : news.length = m * size) (hnews : ∀ j u, news[j]? = some u → W.cell? (a.add j) = some u) (h1 : ∀ u ∈ news, u.oneCell' = true) (h63 : m ≤ maxLen) (hbytes : m * bytes ≤ 140737488355328) (base : Nat) (hbg : base ≤ g) (hbw : base ≤ W.heap.size)
    (h : ∀ v' w', w'.ownsRow base e size v' m news → Kp W.heap.size W w' → wpList Try.prog ops Q rest (ac.put o.dst v') w') : wpList Try.prog ops Q (o :: rest) ac W := by
  subst hsize; subst hby
  obtain ⟨v', w', hr, h2, h3⟩ := run_append_fresh (W := W) t o.type e i z ht hi hz hzs g cur hg hc a m c news hl hnews h1 h63 hbytes hpos base hbg hbw
  refine wpList_plain hgd fun K hK => ?_
  unfold Oper.wp execOp
  simp only [ho, resolve, invoke, builtin, Sem.run_bind, Sem.run_pure, Result.andThen_ok, List.map_toArray, List.map_cons, List.map_nil, hs, hx, hr]
  exact hK _ _ (h v' w' h2 h3)
end Go.Proofs.Ytkmhnfbjapfbeaa
