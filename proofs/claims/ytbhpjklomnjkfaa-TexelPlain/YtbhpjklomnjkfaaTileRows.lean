/-
  Rows that a call makes beside its own blocks. Of no layer.
-/
import Derived.Test.YtbhpjklomnjkfaaSlRow
import Derived.Deep.AppendLies
namespace Go.Proofs.Ytbhpjklomnjkfaa
open Go.RowKit

theorem Rc.below {B : Nat} {W W' : World} {b : Nat} {vs : List Value} (h : Rc W b vs) (k : Below B W W') (hb : b < B) : Rc W' b vs := fun j v hv =>
  ⟨by rw [k.cell (p := ⟨b, j, none⟩) hb]; exact (h j v hv).1, by rw [k.frozen (p := ⟨b, j, none⟩) hb]; exact (h j v hv).2⟩
theorem Sl.nextB {w w' : World} {v : Value} {xs : List Value} (h : Sl w v xs) (hb : Below w.heap.size w w') : Sl w' v xs := by
  obtain ⟨a, c, h1, h2, h3⟩ := h
  refine ⟨a, c, h1, h2, fun j x hj => ?_⟩
  obtain ⟨b, o, e1, e2, e3⟩ := h3 j x hj
  exact ⟨b, o, e1, Nat.lt_of_lt_of_le e2 hb.size, (hb.cell (p := ⟨b, o + j, none⟩) e2).trans e3⟩
theorem Sl.of_own {w : World} {B : Nat} {e : TypeId} {v : Value} {n : Nat} {xs : List Value} (h : w.ownsRow B e 1 v n xs) : Sl w v xs := by
  have hl : xs.length = n := by rw [h.1, Nat.mul_one]
  rcases h.2 with ⟨rfl, rfl⟩ | ⟨g, cap, cur, rfl, _, hg, h1, h2, h3, h4⟩
  · have : xs = [] := List.eq_nil_of_length_eq_zero hl
    subst this
    exact Sl.nil w
  · have hlt : g < w.heap.size := (Array.getElem?_eq_some_iff.1 hg).1
    refine ⟨some ⟨g, 0, none⟩, cap, by rw [hl], by omega, fun j x hj => ⟨g, 0, rfl, hlt, ?_⟩⟩
    have hc := h.cells (g := g) rfl j x hj
    have e : (⟨g, 0, none⟩ : Addr).add j = ⟨g, 0 + j, none⟩ := by simp [Addr.add]; omega
    rw [e] at hc
    exact hc
/-- a row of ints of a call's own, beside blocks that it has; what stood before stands -/
structure Ro (w W : World) (v : Value) (xs : List Value) (ms : List (Nat × List Value)) : Prop where
  own : W.ownsRow w.heap.size 3 1 v xs.length xs
  bl : Below w.heap.size w W
  all : ∀ q, q ∈ ms → Rc W q.1 q.2 ∧ q.2 ≠ [] ∧ v.ownBlock ≠ some q.1
section
variable {w W W' : World} {v : Value} {xs : List Value} {ms : List (Nat × List Value)}
theorem Ro.start (h : Ow w W ms) : Ro w W (.slice none 0 0) [] ms :=
  ⟨World.ownsRow_nil _ _ _ _, h.k.below, fun q hq => ⟨(h.all q hq).1, (h.all q hq).2.1, by simp [Value.ownBlock]⟩⟩
theorem Ro.at (h : Ro w W v xs ms) (i : Nat) {b : Nat} {vs : List Value} (hi : ms[i]? = some (b, vs)) : Rc W b vs := (h.all (b, vs) (List.mem_of_getElem? hi)).1
theorem Ro.lt (h : Ro w W v xs ms) {q : Nat × List Value} (hq : q ∈ ms) : q.1 < W.heap.size := (h.all q hq).1.lt (h.all q hq).2.1
theorem Ro.next (h : Ro w W v xs ms) (k : Below W.heap.size W W') : Ro w W' v xs ms := by
  have hg : W.grownBy W' none := ⟨k.os, k.tape, k.output, k.size, fun j hj _ => k.block j hj⟩
  refine ⟨?_, h.bl.trans (k.mono h.bl.size), fun q hq => ⟨(h.all q hq).1.below k (h.lt hq), (h.all q hq).2⟩⟩
  rcases ho : v.ownBlock with _ | g
  · exact h.own.kept hg (.inl ho)
  · exact h.own.kept hg (.inr (by rw [ho]; simp))
theorem Ro.call (h : Ro w W v xs ms) (k : Kp W.heap.size W W') : Ro w W' v xs ms := h.next k.below
theorem Ro.drew (h : Ro w W v xs ms) : Ro w W.drew v xs ms := h.call (Kp.refl _ _).drew
theorem Ro.drewN (h : Ro w W v xs ms) (n : Nat) : Ro w (W.drewN n) v xs ms := h.call ((Kp.refl _ _).drewN n)
theorem Ro.put {o : Obj} {g cap : Nat} {x : Value} (h : Ro w W v xs ms)
    (h1 : W'.ownsRow w.heap.size 3 1 (.slice (some ⟨g, 0, none⟩) (xs.length + 1) cap) (xs.length + 1) (xs ++ [x])) (h2 : (W.alloc o).grownBy W' v.ownBlock) (h3 : v.ownBlock = some g ∨ g = W.heap.size + 1) :
    Ro w W' (.slice (some ⟨g, 0, none⟩) (xs.length + 1) cap) (xs ++ [x]) ms := by
  have hs : W.heap.size ≤ (W.alloc o).heap.size := by simp
  have ha : Below W.heap.size W (W.alloc o) := (Below.refl _ _).alloc (Nat.le_refl _) o
  refine ⟨by rw [List.length_append]; exact h1, Below.grown (h.bl.alloc h.bl.size o) h2 (Nat.le_trans h.bl.size hs) (fun k hk => (h.own.lt k hk).1), fun q hq => ⟨fun j u hj => ?_, (h.all q hq).2.1, ?_⟩⟩
  · have hR := (h.all q hq).1.below ha (h.lt hq)
    have hl : q.1 < (W.alloc o).heap.size := Nat.lt_of_lt_of_le (h.lt hq) hs
    have hne : some q.1 ≠ v.ownBlock := Ne.symm (h.all q hq).2.2
    exact ⟨(h2.cell_far ⟨q.1, j, none⟩ hl hne).trans (hR j u hj).1, (h2.frozen_far ⟨q.1, j, none⟩ hl hne).trans (hR j u hj).2⟩
  · show some g ≠ some q.1
    intro e1
    rcases h3 with h3 | rfl
    · exact (h.all q hq).2.2 (h3.trans e1)
    · have := h.lt hq
      injection e1 with e1
      omega
end
theorem infoInt : (Try.prog.info? 3).map (fun i => (i.zero, i.size, i.bytes)) = some (some (.int .i64 0), 1, 8) := by kernel_rfl
theorem news1 (wr : World) (x : Value) (e : TypeId) : ∀ j u, [x][j]? = some u → (wr.alloc (.cells #[x] e)).cell? ((⟨wr.heap.size, 0, none⟩ : Addr).add j) = some u := by
  intro j u hj
  match j, hj with
  | 0, hj =>
    simp at hj
    subst hj
    simp [Addr.add]
  | j + 1, hj => simp at hj
theorem one1 (x : Value) (h : x.oneCell' = true) : ∀ u ∈ [x], u.oneCell' = true := by
  intro u hu
  rw [List.mem_singleton] at hu
  subst hu
  exact h
end Go.Proofs.Ytbhpjklomnjkfaa
