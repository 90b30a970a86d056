/-
  Rows of structs in memory, of no layer: as arguments, and made by a call beside its own blocks. An element c is laid as the n cells cs c.
-/
import Derived.Test.YtkmhnfbjapfbeaaMem3
import Derived.Deep.AppendLies
import Derived.Carry
import Derived.Laws.AppendOwnNone
namespace Go.Proofs.Ytkmhnfbjapfbeaa.Ro
open Go.RowKit

section
variable {α : Type} {cs : α → List Value} {n : Nat}
/-- the cells of a row -/
def flat (cs : α → List Value) (l : List α) : List Value := l.flatMap cs
theorem flat_len (hn : ∀ c, (cs c).length = n) (l : List α) : (flat cs l).length = l.length * n := by
  induction l with
  | nil => simp [flat]
  | cons c l ih =>
    have e : flat cs (c :: l) = cs c ++ flat cs l := by simp [flat]
    rw [e, List.length_append, hn, ih, List.length_cons, Nat.succ_mul]; omega
theorem flat_app (l : List α) (c : α) : flat cs (l ++ [c]) = flat cs l ++ cs c := by simp [flat]
theorem flat_get (hn : ∀ c, (cs c).length = n) {l : List α} {i : Nat} {c : α} (h : l[i]? = some c) {j : Nat} {v : Value} (hv : (cs c)[j]? = some v) : (flat cs l)[i * n + j]? = some v := by
  induction l generalizing i with
  | nil => simp at h
  | cons d l ih =>
    have hj : j < n := by have := (List.getElem?_eq_some_iff.1 hv).1; rwa [hn] at this
    have e : flat cs (d :: l) = cs d ++ flat cs l := by simp [flat]
    rw [e]
    rcases i with _ | i
    · simp at h; subst h
      rw [List.getElem?_append_left (by rw [hn]; omega), Nat.zero_mul, Nat.zero_add]; exact hv
    · rw [List.getElem?_append_right (by rw [hn, Nat.succ_mul]; omega), hn, show (i + 1) * n + j - n = i * n + j by rw [Nat.succ_mul]; omega]
      exact ih (by simpa using h)
theorem range_below {B : Nat} {w w' : World} {b o : Nat} {us : List Value} (h : w.rangeAt b o us) (k : Below B w w') (hb : b < B) : w'.rangeAt b o us := fun j v hv =>
  (k.cell (p := ⟨b, o + j, none⟩) hb).trans (h j v hv)

/-- v is a slice of these elements -/
def Sp (cs : α → List Value) (n : Nat) (w : World) (v : Value) (l : List α) : Prop := ∃ a cap, v = .slice a l.length cap ∧ (l.length ≤ cap ∧ (a = none → cap = 0)) ∧ ∀ i c, l[i]? = some c → ∃ b o, a = some ⟨b, o, none⟩ ∧ b < w.heap.size ∧ w.rangeAt b (o + i * n) (cs c)
theorem Sp.nextB {w w' : World} {v : Value} {l : List α} (h : Sp cs n w v l) (hb : Below w.heap.size w w') : Sp cs n w' v l := by
  obtain ⟨a, cap, h1, h2, h3⟩ := h
  refine ⟨a, cap, h1, h2, fun i c hi => ?_⟩
  obtain ⟨b, o, e1, e2, e3⟩ := h3 i c hi
  exact ⟨b, o, e1, Nat.lt_of_lt_of_le e2 hb.size, range_below e3 hb e2⟩
theorem Sp.next {w w' : World} {v : Value} {l : List α} (h : Sp cs n w v l) (hb : Kp w.heap.size w w') : Sp cs n w' v l := h.nextB hb.below
theorem Sp.nil (w : World) : Sp cs n w (.slice none 0 0) [] := ⟨none, 0, rfl, ⟨Nat.le_refl _, fun _ => rfl⟩, fun i c hi => by simp at hi⟩
/-- .. and its cells in every world in which what stood stands -/
theorem Sp.each {w : World} {v : Value} {l : List α} (h : Sp cs n w v l) : ∃ a cap, v = .slice a l.length cap ∧ l.length ≤ cap ∧
    ∀ i (hi : i < l.length), ∃ b o, a = some ⟨b, o, none⟩ ∧ ∀ wr, Below w.heap.size w wr → wr.rangeAt b (o + i * n) (cs l[i]) := by
  obtain ⟨a, cap, h1, h2, h3⟩ := h
  refine ⟨a, cap, h1, h2.1, fun i hi => ?_⟩
  obtain ⟨b, o, e1, e2, e3⟩ := h3 i _ (List.getElem?_eq_getElem hi)
  exact ⟨b, o, e1, fun wr hk => range_below e3 hk e2⟩
theorem Sp.len {w : World} {v : Value} {l : List α} (h : Sp cs n w v l) : ∃ a cap, v = .slice a l.length cap := by obtain ⟨a, cap, h1, _⟩ := h; exact ⟨a, cap, h1⟩
theorem Sp.empty {w : World} {v : Value} (h : Sp cs n w v []) : ∃ a cap, v = .slice a 0 cap := h.len
/-- the same cells told by other words -/
theorem Sp.map {β : Type} {ds : β → List Value} (f : α → β) (hf : ∀ c, ds (f c) = cs c) {w : World} {v : Value} {l : List α} (h : Sp cs n w v l) : Sp ds n w v (l.map f) := by
  obtain ⟨a, cap, h1, h2, h3⟩ := h
  refine ⟨a, cap, by rw [List.length_map]; exact h1, by rw [List.length_map]; exact h2, fun i c hi => ?_⟩
  rw [List.getElem?_map] at hi
  obtain ⟨d, hd, rfl⟩ := Option.map_eq_some_iff.1 hi
  rw [hf]
  exact h3 i d hd
/-- a part of a slice -/
theorem Sp.cut {w : World} {a : Option Addr} {cap : Nat} {l : List α} (h : Sp cs n w (.slice a l.length cap) l) (i j : Nat) :
    ∀ k c, ((l.take j).drop i)[k]? = some c → ∃ b o, a = some ⟨b, o, none⟩ ∧ b < w.heap.size ∧ w.rangeAt b (o + (i + k) * n) (cs c) := by
  obtain ⟨a', cap', h1, h2, h3⟩ := h
  cases h1
  intro k c hk
  rw [List.getElem?_drop, List.getElem?_take] at hk
  split at hk
  · exact h3 _ c hk
  · cases hk
/-- .. as what is appended -/
theorem Sp.full (hn : ∀ c, (cs c).length = n) (n0 : 0 < n) {w : World} {v : Value} {l : List α} (h : Sp cs n w v l) : (v = .slice Option.none 0 0 ∧ l = []) ∨ ∃ ad cap, v = .slice (some ad) l.length cap ∧ ∀ j u, (flat cs l)[j]? = some u → w.cell? (ad.add j) = some u := by
  obtain ⟨a, cap, h1, h2, h3⟩ := h
  rcases a with _ | ad
  · have h4 := h2.2 rfl
    subst h4
    have : l = [] := List.eq_nil_of_length_eq_zero (by omega)
    subst this
    exact .inl ⟨h1, rfl⟩
  · refine .inr ⟨ad, cap, h1, fun j u hj => ?_⟩
    have hjl : j < l.length * n := by have := (List.getElem?_eq_some_iff.1 hj).1; rwa [flat_len hn] at this
    have hi : j / n < l.length := by rwa [Nat.div_lt_iff_lt_mul n0]
    obtain ⟨b, o, e1, _, e3⟩ := h3 (j / n) _ (List.getElem?_eq_getElem hi)
    have hr : j % n < (cs l[j / n]).length := by rw [hn]; exact Nat.mod_lt _ n0
    have h5 := flat_get hn (List.getElem?_eq_getElem hi) (List.getElem?_eq_getElem hr)
    have h7 : j / n * n + j % n = j := by rw [Nat.mul_comm]; exact Nat.div_add_mod j n
    rw [h7, hj] at h5
    cases e1
    have h6 := e3 (j % n) u (by rw [h5]; exact List.getElem?_eq_getElem hr)
    rw [Addr.add_mid, show o + j = o + j / n * n + j % n by omega]
    exact h6
theorem Sp.of_own (hn : ∀ c, (cs c).length = n) {w : World} {B : Nat} {e : TypeId} {v : Value} {l : List α} (h : w.ownsRow B e n v l.length (flat cs l)) : Sp cs n w v l := by
  rcases h.2 with ⟨rfl, h0⟩ | ⟨g, cap, cur, rfl, _, hg, h1, h2, h3, h4⟩
  · have : l = [] := List.eq_nil_of_length_eq_zero h0
    subst this
    exact Sp.nil w
  · have hlt : g < w.heap.size := (Array.getElem?_eq_some_iff.1 hg).1
    refine ⟨some ⟨g, 0, Option.none⟩, cap, rfl, ⟨by omega, fun e => by cases e⟩, fun i c hi => ⟨g, 0, rfl, hlt, fun j v hv => ?_⟩⟩
    have hc := h.cells (g := g) rfl (i * n + j) v (flat_get hn hi hv)
    have e : (⟨g, 0, Option.none⟩ : Addr).add (i * n + j) = ⟨g, 0 + i * n + j, Option.none⟩ := by simp [Addr.add]; omega
    rwa [e] at hc
end

/-- a row of structs of a call's own, beside blocks that it has; what stood before stands -/
structure Rp {α : Type} (T : TypeId) (cs : α → List Value) (n : Nat) (w W : World) (v : Value) (l : List α) (ms : List (Nat × List Value)) : Prop where
  own : W.ownsRow w.heap.size T n v l.length (flat cs l)
  bl : Below w.heap.size w W
  all : ∀ q, q ∈ ms → Rc W q.1 q.2 ∧ q.2 ≠ [] ∧ v.ownBlock ≠ some q.1
theorem rc_below {B : Nat} {W W' : World} {b : Nat} {vs : List Value} (h : Rc W b vs) (k : Below B W W') (hb : b < B) : Rc W' b vs := fun j v hv =>
  ⟨by rw [k.cell (p := ⟨b, j, none⟩) hb]; exact (h j v hv).1, by rw [k.frozen (p := ⟨b, j, none⟩) hb]; exact (h j v hv).2⟩
section
variable {α : Type} {T : TypeId} {cs : α → List Value} {n : Nat} {w W W' : World} {v : Value} {l : List α} {ms : List (Nat × List Value)}
theorem Rp.start (h : Ow w W ms) : Rp T cs n w W (.slice none 0 0) [] ms :=
  ⟨World.ownsRow_nil _ _ _ _, h.k.below, fun q hq => ⟨(h.all q hq).1, (h.all q hq).2.1, by simp [Value.ownBlock]⟩⟩
/-- a row that was made with room, and with nothing in it -/
theorem Rp.of_own (h : Ow w W ms) (ho : W.ownsRow w.heap.size T n v 0 []) (hb : ∀ q, q ∈ ms → v.ownBlock ≠ some q.1) : Rp T cs n w W v [] ms :=
  ⟨ho, h.k.below, fun q hq => ⟨(h.all q hq).1, (h.all q hq).2.1, hb q hq⟩⟩
theorem Rp.at (h : Rp T cs n w W v l ms) (i : Nat) {b : Nat} {vs : List Value} (hi : ms[i]? = some (b, vs)) : Rc W b vs := (h.all (b, vs) (List.mem_of_getElem? hi)).1
theorem Rp.mem (h : Rp T cs n w W v l ms) {b : Nat} {vs : List Value} (hi : (b, vs) ∈ ms) : Rc W b vs := (h.all (b, vs) hi).1
theorem Rp.lt (h : Rp T cs n w W v l ms) {q : Nat × List Value} (hq : q ∈ ms) : q.1 < W.heap.size := (h.all q hq).1.lt (h.all q hq).2.1
theorem Rp.next (h : Rp T cs n w W v l ms) (k : Below W.heap.size W W') : Rp T cs n w W' v l ms := by
  have hg : W.grownBy W' none := ⟨k.os, k.tape, k.output, k.size, fun j hj _ => k.block j hj⟩
  refine ⟨?_, h.bl.trans (k.mono h.bl.size), fun q hq => ⟨rc_below (h.all q hq).1 k (h.lt hq), (h.all q hq).2⟩⟩
  rcases ho : v.ownBlock with _ | g
  · exact h.own.kept hg (.inl ho)
  · exact h.own.kept hg (.inr (by rw [ho]; simp))
theorem Rp.call (h : Rp T cs n w W v l ms) (k : Kp W.heap.size W W') : Rp T cs n w W' v l ms := h.next k.below
theorem Rp.drew (h : Rp T cs n w W v l ms) : Rp T cs n w W.drew v l ms := h.call (Kp.refl _ _).drew
theorem Rp.drewN (h : Rp T cs n w W v l ms) (m : Nat) : Rp T cs n w (W.drewN m) v l ms := h.call ((Kp.refl _ _).drewN m)
theorem Rp.drop (h : Rp T cs n w W v l ms) {ns : List (Nat × List Value)} (hs : ∀ q, q ∈ ns → q ∈ ms) : Rp T cs n w W v l ns := ⟨h.own, h.bl, fun q hq => h.all q (hs q hq)⟩
theorem Rp.newAt (h : Rp T cs n w W v l ms) (b : Nat) (hb : b = W.heap.size) (x : Value) (r : List Value) (t : TypeId) : Rp T cs n w (W.alloc (.cells (x :: r).toArray t)) v l ((b, x :: r) :: ms) := by
  subst hb
  have h2 := h.call (Kp.new W (x :: r).toArray t)
  refine ⟨h2.own, h2.bl, fun q hq => ?_⟩
  rcases List.mem_cons.1 hq with rfl | hq
  · refine ⟨Rc.new _ _ _ rfl, by simp, fun e => ?_⟩
    have := (h.own.lt _ e).2
    exact Nat.lt_irrefl _ this
  · exact h2.all q hq
/-- a block of the call's own is written whole -/
theorem Rp.set (h : Rp T cs n w W v l ms) (hnd : ms.Pairwise fun p q => p.1 ≠ q.1) (hB : ∀ q, q ∈ ms → w.heap.size ≤ q.1) (i : Nat) {b : Nat} {vs us : List Value} (hi : ms[i]? = some (b, vs)) (hl : us.length = vs.length) :
    Rp T cs n w (W.setCells b 0 us) v l (ms.set i (b, us)) := by
  have hm := List.mem_of_getElem? hi
  have hn : i < ms.length := (List.getElem?_eq_some_iff.1 hi).1
  have he : ms[i] = (b, vs) := (List.getElem?_eq_some_iff.1 hi).2
  have hR := (h.all _ hm).1
  have hvs := (h.all _ hm).2.1
  have hob := (h.all _ hm).2.2
  have hus : us ≠ [] := fun e => hvs (List.length_eq_zero_iff.1 (by rw [← hl, e]; rfl))
  have hst : St b W (W.setCells b 0 us) := St.setCells us
  have hg : W.grownBy (W.setCells b 0 us) (some b) := by
    have k := hst.below b (Nat.le_refl _)
    refine ⟨k.os, k.tape, k.output, k.size, fun j hj hne => ?_⟩
    rcases Nat.lt_or_ge j b with hlt | hge
    · exact k.block j hlt
    · have hgt : b < j := by
        rcases Nat.lt_or_eq_of_le hge with h1 | h1
        · exact h1
        · exact absurd (by rw [h1]) hne
      suffices hh : ∀ (vs : List Value) (o : Nat) (w : World), (w.setCells b o vs).heap[j]? = w.heap[j]? from hh us 0 W
      intro vs
      induction vs with
      | nil => intro o w; rfl
      | cons v vs ih =>
        intro o w
        exact (ih (o + 1) (w.setCell ⟨b, o, none⟩ v)).trans (Below.heap_setCell w ⟨b, o, Option.none⟩ v j (by show j ≠ b; omega))
  refine ⟨?_, h.bl.trans (hst.below _ (hB _ hm)), fun q hq => ?_⟩
  · exact h.own.kept hg (by
      rcases ho : v.ownBlock with _ | g
      · exact .inl rfl
      · refine .inr ?_
        rw [ho] at hob
        exact fun e => hob (by rw [e]))
  · obtain ⟨j, hj, rfl⟩ := List.getElem_of_mem hq
    rw [List.length_set] at hj
    rw [List.getElem_set]
    split
    · exact ⟨hR.store (Nat.le_of_eq hl), hus, hob⟩
    · rename_i hne
      have h9 := h.all ms[j] (List.getElem_mem hj)
      refine ⟨h9.1.st hst ?_, h9.2⟩
      have hp := List.pairwise_iff_getElem.1 hnd
      rcases Nat.lt_or_gt_of_ne hne with hlt | hlt
      · have := hp i j hn hj hlt; rw [he] at this; exact Ne.symm this
      · have := hp j i hj hn hlt; rw [he] at this; exact this
theorem Rp.put {o : Obj} {g cap m : Nat} {c : α} (h : Rp T cs n w W v l ms) (hm : m = l.length)
    (h1 : W'.ownsRow w.heap.size T n (.slice (some ⟨g, 0, none⟩) (m + 1) cap) (m + 1) (flat cs l ++ cs c)) (h2 : (W.alloc o).grownBy W' v.ownBlock) (h3 : v.ownBlock = some g ∨ g = W.heap.size + 1) :
    Rp T cs n w W' (.slice (some ⟨g, 0, none⟩) (m + 1) cap) (l ++ [c]) ms := by
  subst hm
  have hs : W.heap.size ≤ (W.alloc o).heap.size := by simp
  have ha : Below W.heap.size W (W.alloc o) := (Below.refl _ _).alloc (Nat.le_refl _) o
  refine ⟨by rw [List.length_append, flat_app]; exact h1, Below.grown (h.bl.alloc h.bl.size o) h2 (Nat.le_trans h.bl.size hs) (fun k hk => (h.own.lt k hk).1), fun q hq => ⟨fun j u hj => ?_, (h.all q hq).2.1, ?_⟩⟩
  · have hR := rc_below (h.all q hq).1 ha (h.lt hq)
    have hl : q.1 < (W.alloc o).heap.size := Nat.lt_of_lt_of_le (h.lt hq) hs
    have hne : some q.1 ≠ v.ownBlock := Ne.symm (h.all q hq).2.2
    exact ⟨(h2.cell_far ⟨q.1, j, none⟩ hl hne).trans (hR j u hj).1, (h2.frozen_far ⟨q.1, j, none⟩ hl hne).trans (hR j u hj).2⟩
  · show some g ≠ some q.1
    intro e1
    rcases h3 with h3 | rfl
    · exact (h.all q hq).2.2 (h3.trans e1)
    · have := h.lt hq
      injection e1 with e1
      omega
/-- the row is forgotten: what it holds, as a slice; the blocks beside it stand -/
theorem Rp.sp (h : Rp T cs n w W v l ms) (hn : ∀ c, (cs c).length = n) : Sp cs n W v l := Sp.of_own hn h.own
end
/-- a new block with a struct's cells, as what is appended -/
theorem news (wr : World) (us : List Value) (e : TypeId) : ∀ j u, us[j]? = some u → (wr.alloc (.cells us.toArray e)).cell? ((⟨wr.heap.size, 0, none⟩ : Addr).add j) = some u := by
  intro j u hj
  have h := (Rc.new wr us e rfl) j u hj
  rw [show (⟨wr.heap.size, 0, none⟩ : Addr).add j = ⟨wr.heap.size, j, none⟩ by simp [Addr.add]; omega]
  exact h.1
end Go.Proofs.Ytkmhnfbjapfbeaa.Ro
