/-
  Rows of corners in memory: as arguments, and made by a call beside its own blocks; parts of structs by value.
-/
import Derived.Test.YthhfhkenpkfioaaMem3
import Derived.Test.YthhfhkenpkfioaaClipPlain
import Derived.Deep.AppendLies
import Derived.Carry
import Derived.Laws.AppendOwnNone
namespace Go.Proofs.Ythhfhkenpkfioaa
open Go.RowKit

theorem ty_corner : Ty 26 10 := ⟨by kernel_rfl, _, Try.underlying26, rfl⟩
theorem ty_vec : Ty 23 4 := ⟨by kernel_rfl, _, Try.underlying23, rfl⟩

/-- a struct is read out of cells that lie in a row -/
theorem wpList_ldm {ty : TypeId} {n : Nat} (ht : Ty ty n) {ops : Array Oper} {rest : List Oper} {op : Oper} {a : Act} {w : World} {Q : Exit → Act → World → Prop} (hgd : Region.wanted op (yielded ops a.tmps) = true) (x : Operand) (ho : op.op = .load ty x)
    (b o : Nat) (hx : a.eval x = .pointer (some ⟨b, o, none⟩)) (us : List Value) (hl : us.length = n) (hR : w.rangeAt b o us)
    (h : wpList Try.prog ops Q rest (a.put op.dst (.agg us.toArray)) w) : wpList Try.prog ops Q (op :: rest) a w := by
  obtain ⟨d, hu, hd⟩ := ht.row
  exact wpList_of_wp hgd fun K hK => wp_load_mid ty x ho b o hx us d hR hu hd (hl ▸ ht.size) (hK _ _ h)
theorem quiet_ldm {ty : TypeId} {n : Nat} (ht : Ty ty n) {op : Oper} {a : Act} {C : World → Prop} {w : World} {b o : Nat} {us : List Value} (x : Operand) (ho : op.op = .load ty x) (hx : a.eval x = .pointer (some ⟨b, o, none⟩)) (hl : us.length = n) (hR : w.rangeAt b o us) :
    op.quietAt Try.prog a C w (.agg us.toArray) := by
  obtain ⟨d, hu, hd⟩ := ht.row
  unfold Oper.quietAt execOp
  simp only [ho, hx, Instr.loadAt, Instr.sureAddr, Sem.run_bind, Sem.run_pure, Result.andThen_ok, run_loadVar_mid w b o ty us d hR hu hd (hl ▸ ht.size)]
  exact ⟨rfl, rfl⟩
theorem range_kp {B : Nat} {w w' : World} {b o : Nat} {us : List Value} (h : w.rangeAt b o us) (k : Below B w w') (hb : b < B) : w'.rangeAt b o us := fun j v hv =>
  (k.cell (p := ⟨b, o + j, none⟩) hb).trans (h j v hv)
/-- the place of a corner: its first four numbers -/
theorem Rc.vec {W : World} {b : Nat} {c : Cn} (h : Rc W b [.int .i64 (c 0), .int .i64 (c 1), .int .i64 (c 2), .int .i64 (c 3), .int .i64 (c 4), .int .i64 (c 5), .int .i64 (c 6), .int .i64 (c 7), .int .i64 (c 8), .int .i64 (c 9)]) : W.rangeAt b 0 [.int .i64 (c 0), .int .i64 (c 1), .int .i64 (c 2), .int .i64 (c 3)] := fun j v hv => by
  rw [Nat.zero_add]
  refine (h j v ?_).1
  rcases j with _ | _ | _ | _ | j
  all_goals first | exact hv | (simp at hv)

/-- a corner, as cells -/
def Cl.cs (c : Cn) : List Value := [.int .i64 (c 0), .int .i64 (c 1), .int .i64 (c 2), .int .i64 (c 3), .int .i64 (c 4), .int .i64 (c 5), .int .i64 (c 6), .int .i64 (c 7), .int .i64 (c 8), .int .i64 (c 9)]
def Cl.flat (l : List Cn) : List Value := l.flatMap Cl.cs
theorem Cl.cs_len (c : Cn) : (Cl.cs c).length = 10 := rfl
theorem Cl.flat_len (l : List Cn) : (Cl.flat l).length = l.length * 10 := by
  induction l with
  | nil => rfl
  | cons c l ih => simp only [Cl.flat, List.flatMap_cons, List.length_append, Cl.cs_len, List.length_cons] at *; omega
theorem Cl.flat_app (l : List Cn) (c : Cn) : Cl.flat (l ++ [c]) = Cl.flat l ++ Cl.cs c := by simp [Cl.flat]
theorem Cl.flat_get {l : List Cn} {i : Nat} {c : Cn} (h : l[i]? = some c) {j : Nat} {v : Value} (hv : (Cl.cs c)[j]? = some v) : (Cl.flat l)[i * 10 + j]? = some v := by
  induction l generalizing i with
  | nil => simp at h
  | cons d l ih =>
    have hj : j < 10 := by have := (List.getElem?_eq_some_iff.1 hv).1; rwa [Cl.cs_len] at this
    have e : Cl.flat (d :: l) = Cl.cs d ++ Cl.flat l := by simp [Cl.flat]
    rw [e]
    rcases i with _ | i
    · simp at h; subst h
      rw [List.getElem?_append_left (by rw [Cl.cs_len]; omega), Nat.zero_mul, Nat.zero_add]; exact hv
    · rw [List.getElem?_append_right (by rw [Cl.cs_len]; omega), Cl.cs_len, show (i + 1) * 10 + j - 10 = i * 10 + j by omega]
      exact ih (by simpa using h)

/-- v is a slice of these corners -/
def Sp (w : World) (v : Value) (l : List Cn) : Prop := ∃ a cap, v = .slice a l.length cap ∧ (l.length ≤ cap ∧ (a = none → cap = 0)) ∧ ∀ i c, l[i]? = some c → ∃ b o, a = some ⟨b, o, none⟩ ∧ b < w.heap.size ∧ w.rangeAt b (o + i * 10) (Cl.cs c)
theorem Sp.nextB {w w' : World} {v : Value} {l : List Cn} (h : Sp w v l) (hb : Below w.heap.size w w') : Sp w' v l := by
  obtain ⟨a, cap, h1, h2, h3⟩ := h
  refine ⟨a, cap, h1, h2, fun i c hi => ?_⟩
  obtain ⟨b, o, e1, e2, e3⟩ := h3 i c hi
  exact ⟨b, o, e1, Nat.lt_of_lt_of_le e2 hb.size, range_kp e3 hb e2⟩
theorem Sp.next {w w' : World} {v : Value} {l : List Cn} (h : Sp w v l) (hb : Kp w.heap.size w w') : Sp w' v l := h.nextB hb.below
theorem Sp.nil (w : World) : Sp w (.slice none 0 0) [] := ⟨none, 0, rfl, ⟨Nat.le_refl _, fun _ => rfl⟩, fun i c hi => by simp at hi⟩
/-- .. and its cells in every world in which what stood stands -/
theorem Sp.parts {w : World} {v : Value} {l : List Cn} (h : Sp w v l) : ∃ a cap, v = .slice a l.length cap ∧ l.length ≤ cap ∧
    ∀ wr, Below w.heap.size w wr → ∀ i (hi : i < l.length), ∃ b o, a = some ⟨b, o, none⟩ ∧ wr.rangeAt b (o + i * 10) (Cl.cs l[i]) := by
  obtain ⟨a, cap, h1, h2, h3⟩ := h
  refine ⟨a, cap, h1, h2.1, fun wr hk i hi => ?_⟩
  obtain ⟨b, o, e1, e2, e3⟩ := h3 i _ (List.getElem?_eq_getElem hi)
  exact ⟨b, o, e1, range_kp e3 hk e2⟩
theorem Sp.each {w : World} {v : Value} {l : List Cn} (h : Sp w v l) : ∃ a cap, v = .slice a l.length cap ∧ l.length ≤ cap ∧
    ∀ i (hi : i < l.length), ∃ b o, a = some ⟨b, o, none⟩ ∧ ∀ wr, Below w.heap.size w wr → wr.rangeAt b (o + i * 10) (Cl.cs l[i]) := by
  obtain ⟨a, cap, h1, h2, h3⟩ := h
  refine ⟨a, cap, h1, h2.1, fun i hi => ?_⟩
  obtain ⟨b, o, e1, e2, e3⟩ := h3 i _ (List.getElem?_eq_getElem hi)
  exact ⟨b, o, e1, fun wr hk => range_kp e3 hk e2⟩
/-- .. as what is appended -/
theorem Sp.full {w : World} {v : Value} {l : List Cn} (h : Sp w v l) : (v = .slice none 0 0 ∧ l = []) ∨ ∃ ad cap, v = .slice (some ad) l.length cap ∧ ∀ j u, (Cl.flat l)[j]? = some u → w.cell? (ad.add j) = some u := by
  obtain ⟨a, cap, h1, h2, h3⟩ := h
  rcases a with _ | ad
  · have h4 := h2.2 rfl
    subst h4
    have : l = [] := List.eq_nil_of_length_eq_zero (by omega)
    subst this
    exact .inl ⟨h1, rfl⟩
  · refine .inr ⟨ad, cap, h1, fun j u hj => ?_⟩
    have hjl : j < l.length * 10 := by have := (List.getElem?_eq_some_iff.1 hj).1; rwa [Cl.flat_len] at this
    have hi : j / 10 < l.length := by omega
    obtain ⟨b, o, e1, _, e3⟩ := h3 (j / 10) _ (List.getElem?_eq_getElem hi)
    have hr : j % 10 < (Cl.cs l[j / 10]).length := by rw [Cl.cs_len]; omega
    have h5 := Cl.flat_get (List.getElem?_eq_getElem hi) (List.getElem?_eq_getElem hr)
    rw [show j / 10 * 10 + j % 10 = j by omega, hj] at h5
    cases e1
    have h6 := e3 (j % 10) u (by rw [h5]; exact List.getElem?_eq_getElem hr)
    rw [Addr.add_mid, show o + j = o + j / 10 * 10 + j % 10 by omega]
    exact h6
theorem Sp.of_own {w : World} {B : Nat} {e : TypeId} {v : Value} {l : List Cn} (h : w.ownsRow B e 10 v l.length (Cl.flat l)) : Sp w v l := by
  rcases h.2 with ⟨rfl, h0⟩ | ⟨g, cap, cur, rfl, _, hg, h1, h2, h3, h4⟩
  · have : l = [] := List.eq_nil_of_length_eq_zero h0
    subst this
    exact Sp.nil w
  · have hlt : g < w.heap.size := (Array.getElem?_eq_some_iff.1 hg).1
    refine ⟨some ⟨g, 0, none⟩, cap, rfl, ⟨by omega, fun e => by cases e⟩, fun i c hi => ⟨g, 0, rfl, hlt, fun j v hv => ?_⟩⟩
    have hc := h.cells (g := g) rfl (i * 10 + j) v (Cl.flat_get hi hv)
    have e : (⟨g, 0, none⟩ : Addr).add (i * 10 + j) = ⟨g, 0 + i * 10 + j, none⟩ := by simp [Addr.add]; omega
    rwa [e] at hc

/-- a row of corners of a call's own, beside blocks that it has; what stood before stands -/
structure Rp (w W : World) (v : Value) (l : List Cn) (ms : List (Nat × List Value)) : Prop where
  own : W.ownsRow w.heap.size 26 10 v l.length (Cl.flat l)
  bl : Below w.heap.size w W
  all : ∀ q, q ∈ ms → Rc W q.1 q.2 ∧ q.2 ≠ [] ∧ v.ownBlock ≠ some q.1
theorem Rc.belowC {B : Nat} {W W' : World} {b : Nat} {vs : List Value} (h : Rc W b vs) (k : Below B W W') (hb : b < B) : Rc W' b vs := fun j v hv =>
  ⟨by rw [k.cell (p := ⟨b, j, none⟩) hb]; exact (h j v hv).1, by rw [k.frozen (p := ⟨b, j, none⟩) hb]; exact (h j v hv).2⟩
section
variable {w W W' : World} {v : Value} {l : List Cn} {ms : List (Nat × List Value)}
theorem Rp.start (h : Ow w W ms) : Rp w W (.slice none 0 0) [] ms :=
  ⟨World.ownsRow_nil _ _ _ _, h.k.below, fun q hq => ⟨(h.all q hq).1, (h.all q hq).2.1, by simp [Value.ownBlock]⟩⟩
theorem Rp.at (h : Rp w W v l ms) (i : Nat) {b : Nat} {vs : List Value} (hi : ms[i]? = some (b, vs)) : Rc W b vs := (h.all (b, vs) (List.mem_of_getElem? hi)).1
theorem Rp.lt (h : Rp w W v l ms) {q : Nat × List Value} (hq : q ∈ ms) : q.1 < W.heap.size := (h.all q hq).1.lt (h.all q hq).2.1
theorem Rp.next (h : Rp w W v l ms) (k : Below W.heap.size W W') : Rp w W' v l ms := by
  have hg : W.grownBy W' none := ⟨k.os, k.tape, k.output, k.size, fun j hj _ => k.block j hj⟩
  refine ⟨?_, h.bl.trans (k.mono h.bl.size), fun q hq => ⟨(h.all q hq).1.belowC k (h.lt hq), (h.all q hq).2⟩⟩
  rcases ho : v.ownBlock with _ | g
  · exact h.own.kept hg (.inl ho)
  · exact h.own.kept hg (.inr (by rw [ho]; simp))
theorem Rp.call (h : Rp w W v l ms) (k : Kp W.heap.size W W') : Rp w W' v l ms := h.next k.below
theorem Rp.drew (h : Rp w W v l ms) : Rp w W.drew v l ms := h.call (Kp.refl _ _).drew
theorem Rp.drewN (h : Rp w W v l ms) (n : Nat) : Rp w (W.drewN n) v l ms := h.call ((Kp.refl _ _).drewN n)
theorem Rp.drop (h : Rp w W v l ms) {ns : List (Nat × List Value)} (hs : ∀ q, q ∈ ns → q ∈ ms) : Rp w W v l ns := ⟨h.own, h.bl, fun q hq => h.all q (hs q hq)⟩
theorem Rp.newAt (h : Rp w W v l ms) (b : Nat) (hb : b = W.heap.size) (x : Value) (r : List Value) (t : TypeId) : Rp w (W.alloc (.cells (x :: r).toArray t)) v l ((b, x :: r) :: ms) := by
  subst hb
  have h2 := h.call (Kp.new W (x :: r).toArray t)
  refine ⟨h2.own, h2.bl, fun q hq => ?_⟩
  rcases List.mem_cons.1 hq with rfl | hq
  · refine ⟨Rc.new _ _ _ rfl, by simp, fun e => ?_⟩
    have := (h.own.lt _ e).2
    exact Nat.lt_irrefl _ this
  · exact h2.all q hq
theorem Rp.put {o : Obj} {g cap : Nat} {c : Cn} (h : Rp w W v l ms)
    (h1 : W'.ownsRow w.heap.size 26 10 (.slice (some ⟨g, 0, none⟩) (l.length + 1) cap) (l.length + 1) (Cl.flat l ++ Cl.cs c)) (h2 : (W.alloc o).grownBy W' v.ownBlock) (h3 : v.ownBlock = some g ∨ g = W.heap.size + 1) :
    Rp w W' (.slice (some ⟨g, 0, none⟩) (l.length + 1) cap) (l ++ [c]) ms := by
  have hs : W.heap.size ≤ (W.alloc o).heap.size := by simp
  have ha : Below W.heap.size W (W.alloc o) := (Below.refl _ _).alloc (Nat.le_refl _) o
  refine ⟨by rw [List.length_append, Cl.flat_app]; exact h1, Below.grown (h.bl.alloc h.bl.size o) h2 (Nat.le_trans h.bl.size hs) (fun k hk => (h.own.lt k hk).1), fun q hq => ⟨fun j u hj => ?_, (h.all q hq).2.1, ?_⟩⟩
  · have hR := (h.all q hq).1.belowC ha (h.lt hq)
    have hl : q.1 < (W.alloc o).heap.size := Nat.lt_of_lt_of_le (h.lt hq) hs
    have hne : some q.1 ≠ v.ownBlock := Ne.symm (h.all q hq).2.2
    exact ⟨(h2.cell_far ⟨q.1, j, none⟩ hl hne).trans (hR j u hj).1, (h2.frozen_far ⟨q.1, j, none⟩ hl hne).trans (hR j u hj).2⟩
  · show some g ≠ some q.1
    intro e1
    rcases h3 with h3 | rfl
    · exact (h.all q hq).2.2 (h3.trans e1)
    · have := h.lt hq
      injection e1 with e1
      omega
theorem Rp.putN {o : Obj} {g cap n : Nat} {c : Cn} (h : Rp w W v l ms) (hn : n = l.length)
    (h1 : W'.ownsRow w.heap.size 26 10 (.slice (some ⟨g, 0, none⟩) (n + 1) cap) (n + 1) (Cl.flat l ++ Cl.cs c)) (h2 : (W.alloc o).grownBy W' v.ownBlock) (h3 : v.ownBlock = some g ∨ g = W.heap.size + 1) :
    Rp w W' (.slice (some ⟨g, 0, none⟩) (n + 1) cap) (l ++ [c]) ms := by subst hn; exact h.put h1 h2 h3
end
theorem infoCorner : (Try.prog.info? 26).map (fun i => (i.zero, i.size, i.bytes)) = some (some (.agg #[.int .i64 0, .int .i64 0, .int .i64 0, .int .i64 0, .int .i64 0, .int .i64 0, .int .i64 0, .int .i64 0, .int .i64 0, .int .i64 0]), 10, 80) := by kernel_rfl
theorem news10 (wr : World) (c : Cn) (e : TypeId) : ∀ j u, ([.int .i64 (c 0), .int .i64 (c 1), .int .i64 (c 2), .int .i64 (c 3), .int .i64 (c 4), .int .i64 (c 5), .int .i64 (c 6), .int .i64 (c 7), .int .i64 (c 8), .int .i64 (c 9)] : List Value)[j]? = some u → (wr.alloc (.cells #[.int .i64 (c 0), .int .i64 (c 1), .int .i64 (c 2), .int .i64 (c 3), .int .i64 (c 4), .int .i64 (c 5), .int .i64 (c 6), .int .i64 (c 7), .int .i64 (c 8), .int .i64 (c 9)] e)).cell? ((⟨wr.heap.size, 0, none⟩ : Addr).add j) = some u := by
  intro j u hj
  have h := (Rc.new wr [.int .i64 (c 0), .int .i64 (c 1), .int .i64 (c 2), .int .i64 (c 3), .int .i64 (c 4), .int .i64 (c 5), .int .i64 (c 6), .int .i64 (c 7), .int .i64 (c 8), .int .i64 (c 9)] e rfl) j u hj
  rw [show (⟨wr.heap.size, 0, none⟩ : Addr).add j = ⟨wr.heap.size, j, none⟩ by simp [Addr.add]; omega]
  exact h.1
theorem one10 (c : Cn) : ∀ u ∈ ([.int .i64 (c 0), .int .i64 (c 1), .int .i64 (c 2), .int .i64 (c 3), .int .i64 (c 4), .int .i64 (c 5), .int .i64 (c 6), .int .i64 (c 7), .int .i64 (c 8), .int .i64 (c 9)] : List Value), u.oneCell' = true := by
  intro u hu
  simp only [List.mem_cons, List.not_mem_nil, or_false] at hu
  rcases hu with rfl | rfl | rfl | rfl | rfl | rfl | rfl | rfl | rfl | rfl <;> rfl
end Go.Proofs.Ythhfhkenpkfioaa
