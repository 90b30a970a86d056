/-
  What stands in memory: blocks of a call's own, by the list of their cells; loads and stores of whole structs and arrays by value.
-/
import Derived.Test.YtkmhnfbjapfbeaaRows
import Derived.WalkKit
import Derived.WalkSpells
import Derived.WalkLawsBesides
import Derived.ProofKit
import Derived.OpenShut
import Derived.Below
import Derived.Lib.Hide
import Derived.Handy
import Derived.Deep.QuietTactic
import Derived.BigQuiet
import Derived.Deep.RegionHeld3
import Derived.Deep.LoopGhost
import Derived.Deep.MidRow
import Derived.Test.YtkmhnfbjapfbeaaRegionMk
import Derived.Deep.DeepCutAuto
import Derived.ChangeKeysEq
import Derived.Laws.StructEq
namespace Go.Proofs.Ytkmhnfbjapfbeaa
open Go.RowKit

theorem ret_int {k : IntKind} {a b : Int} (h : a = b) : Ending.returned (.int k a) = .returned (.int k b) := by rw [h]
theorem ret_bool {a b : Bool} (h : a = b) : Ending.returned (.bool a) = .returned (.bool b) := by rw [h]

/-- of what was there nothing has turned below block number B, and no mark of what may be written -/
structure Kp (B : Nat) (w w' : World) : Prop where
  below : Below B w w'
  frozen : ∀ a, w'.frozen? a = w.frozen? a
theorem Kp.refl (B : Nat) (w : World) : Kp B w w := ⟨Below.refl _ _, fun _ => rfl⟩
theorem Kp.trans {B : Nat} {a b c : World} (h : Kp B a b) (k : Kp B b c) : Kp B a c := ⟨h.below.trans k.below, fun x => (k.frozen x).trans (h.frozen x)⟩
theorem Kp.mono {B B' : Nat} {a b : World} (h : Kp B a b) (hB : B' ≤ B) : Kp B' a b := ⟨h.below.mono hB, h.frozen⟩
theorem Kp.alloc {B : Nat} {a w : World} (h : Kp B a w) (hB : B ≤ w.heap.size) (c : Array Value) (t : TypeId) : Kp B a (w.alloc (.cells c t)) :=
  ⟨h.below.alloc hB _, fun x => (frozen?_alloc_cells w c t x).trans (h.frozen x)⟩
theorem Kp.setCell {B : Nat} {a w : World} (h : Kp B a w) {p : Addr} (hp : B ≤ p.block) (u : Value) : Kp B a (w.setCell p u) :=
  ⟨h.below.setCell hp u, fun x => (by rw [World.frozen?_setCell]; exact h.frozen x)⟩
theorem Kp.drew {B : Nat} {a w : World} (h : Kp B a w) : Kp B a w.drew := ⟨h.below.drew, h.frozen⟩
theorem Kp.drewN {B : Nat} {a w : World} (h : Kp B a w) (n : Nat) : Kp B a (w.drewN n) := ⟨⟨h.below.os, h.below.tape, h.below.output, h.below.size, h.below.block⟩, h.frozen⟩
theorem Kp.next {a b c : World} (h : Kp a.heap.size a b) (k : Kp b.heap.size b c) : Kp a.heap.size a c := h.trans (k.mono h.below.size)
theorem Kp.grown {a b : World} (h : Kp a.heap.size a b) : Grown a b := ⟨h.below.frame _, h.frozen, h.below.size⟩
theorem Kp.cells {B : Nat} {w w' : World} (h : Kp B w w') : ∀ b o, b < B → w'.cell? ⟨b, o, none⟩ = w.cell? ⟨b, o, none⟩ := fun b o hb => h.below.cell (p := ⟨b, o, none⟩) hb
theorem Kp.size {B : Nat} {w w' : World} (h : Kp B w w') : w.heap.size ≤ w'.heap.size := h.below.size
theorem Kp.new (w : World) (c : Array Value) (t : TypeId) : Kp w.heap.size w (w.alloc (.cells c t)) := (Kp.refl _ _).alloc (Nat.le_refl _) c t

/-- only block b was written -/
structure St (b : Nat) (w w' : World) : Prop where
  cells : ∀ c o, c ≠ b → w'.cell? ⟨c, o, none⟩ = w.cell? ⟨c, o, none⟩
  frozen : ∀ a, w'.frozen? a = w.frozen? a
  size : w'.heap.size = w.heap.size
  below : ∀ B, B ≤ b → Below B w w'
theorem St.kp {b B : Nat} {a w w' : World} (h : St b w w') (hk : Kp B a w) (hb : B ≤ b) : Kp B a w' := ⟨hk.below.trans (h.below B hb), fun x => (h.frozen x).trans (hk.frozen x)⟩
theorem St.setCells {w : World} {b : Nat} (vs : List Value) : St b w (w.setCells b 0 vs) := by
  suffices h : ∀ (vs : List Value) (o : Nat) (w : World), St b w (w.setCells b o vs) from h vs 0 w
  intro vs
  induction vs with
  | nil => intro o w; exact ⟨fun _ _ _ => rfl, fun _ => rfl, rfl, fun B _ => Below.refl _ _⟩
  | cons v vs ih =>
    intro o w
    have h := ih (o + 1) (w.setCell ⟨b, o, none⟩ v)
    refine ⟨fun c k hc => ?_, fun a => ?_, ?_, fun B hB => ?_⟩
    · exact (h.cells c k hc).trans (World.cell?_setCell_far _ _ _ _ (Ne.symm hc))
    · exact (h.frozen a).trans (World.frozen?_setCell _ _ _ _)
    · exact h.size.trans (World.size_setCell _ _ _)
    · exact ((Below.refl B w).setCell (p := ⟨b, o, none⟩) hB v).trans (h.below B hB)

/-- a block holds these cells, and may be written -/
def Rc (W : World) (b : Nat) (vs : List Value) : Prop := ∀ j v, vs[j]? = some v → W.cell? ⟨b, j, none⟩ = some v ∧ W.frozen? ⟨b, j, none⟩ = false
section
variable {W W' : World} {b : Nat} {vs us : List Value}
theorem Rc.cell (h : Rc W b vs) (j : Nat) {v : Value} (hv : vs[j]? = some v) : W.cell? ⟨b, j, none⟩ = some v := (h j v hv).1
theorem Rc.froz (h : Rc W b vs) (j : Nat) (hj : j < vs.length) : W.frozen? ⟨b, j, none⟩ = false := (h j _ (List.getElem?_eq_getElem hj)).2
theorem Rc.kp {B : Nat} (h : Rc W b vs) (hk : Kp B W W') (hb : b < B) : Rc W' b vs := fun j v hv =>
  ⟨by rw [hk.cells b j hb]; exact (h j v hv).1, by rw [hk.frozen]; exact (h j v hv).2⟩
theorem Rc.lt (h : Rc W b vs) (hn : vs ≠ []) : b < W.heap.size := by
  obtain ⟨v, r, rfl⟩ := List.exists_cons_of_ne_nil hn
  exact World.block_lt_of_cell? W ⟨b, 0, none⟩ (h 0 v rfl).1
theorem Rc.st {c : Nat} (h : Rc W b vs) (s : St c W W') (hc : b ≠ c) : Rc W' b vs := fun j v hv =>
  ⟨by rw [s.cells b j hc]; exact (h j v hv).1, by rw [s.frozen]; exact (h j v hv).2⟩
theorem Rc.range (h : Rc W b vs) : W.rangeAt b 0 vs := fun j v hv => by rw [Nat.zero_add]; exact (h j v hv).1
theorem Rc.there (h : Rc W b vs) {n : Nat} (hl : n ≤ vs.length) : W.there b 0 n := fun j hj => by
  have h1 := h j _ (List.getElem?_eq_getElem (Nat.lt_of_lt_of_le hj hl))
  rw [Nat.zero_add]; exact ⟨by rw [h1.1]; rfl, h1.2⟩
theorem Rc.store (h : Rc W b vs) (hl : us.length ≤ vs.length) : Rc (W.setCells b 0 us) b us := fun j v hv => by
  have hj : j < us.length := (List.getElem?_eq_some_iff.1 hv).1
  have h1 := World.rangeAt_setCells_same W b 0 us (h.there hl) j v hv
  rw [Nat.zero_add] at h1
  exact ⟨h1, ((St.setCells _).frozen _).trans (h.froz j (by omega))⟩
end
theorem Rc.new (W : World) (vs : List Value) (t : TypeId) {b : Nat} (hb : b = W.heap.size) : Rc (W.alloc (.cells vs.toArray t)) b vs := by
  subst hb
  intro j v hv
  have h := heap_alloc_new W (.cells vs.toArray t)
  exact ⟨by rw [cell_of_row _ _ j _ _ _ h]; simpa using hv, frozen_of_row _ _ j _ _ h⟩

/-- a call's own blocks, the newest first; what stood before stands -/
structure Ow (w W : World) (ms : List (Nat × List Value)) : Prop where
  k : Kp w.heap.size w W
  all : ∀ q, q ∈ ms → Rc W q.1 q.2 ∧ q.2 ≠ [] ∧ w.heap.size ≤ q.1
  nd : ms.Pairwise fun p q => p.1 ≠ q.1
section
variable {w W W' : World} {ms : List (Nat × List Value)}
theorem Ow.refl (w : World) : Ow w w [] := ⟨Kp.refl _ _, fun _ h => (by cases h), .nil⟩
theorem Ow.lt (h : Ow w W ms) {q : Nat × List Value} (hq : q ∈ ms) : q.1 < W.heap.size := (h.all q hq).1.lt (h.all q hq).2.1
theorem Ow.call (h : Ow w W ms) (k : Kp W.heap.size W W') : Ow w W' ms :=
  ⟨h.k.next k, fun q hq => ⟨(h.all q hq).1.kp k (h.lt hq), (h.all q hq).2⟩, h.nd⟩
theorem Ow.drew (h : Ow w W ms) : Ow w W.drew ms := h.call (Kp.refl _ _).drew
theorem Ow.drewN (h : Ow w W ms) (n : Nat) : Ow w (W.drewN n) ms := h.call ((Kp.refl _ _).drewN n)
theorem Ow.new (h : Ow w W ms) (v : Value) (r : List Value) (t : TypeId) : Ow w (W.alloc (.cells (v :: r).toArray t)) ((W.heap.size, v :: r) :: ms) := by
  have h2 := h.call (Kp.new W (v :: r).toArray t)
  refine ⟨h2.k, fun q hq => ?_, .cons (fun q hq => ?_) h.nd⟩
  · rcases List.mem_cons.1 hq with rfl | hq
    · exact ⟨Rc.new _ _ _ rfl, by simp, h.k.size⟩
    · exact h2.all q hq
  · exact Nat.ne_of_gt (h.lt hq)
theorem Ow.newAt (h : Ow w W ms) (b : Nat) (hb : b = W.heap.size) (v : Value) (r : List Value) (t : TypeId) : Ow w (W.alloc (.cells (v :: r).toArray t)) ((b, v :: r) :: ms) := by subst hb; exact h.new v r t
theorem Ow.mem (h : Ow w W ms) {b : Nat} {vs : List Value} (hm : (b, vs) ∈ ms) : Rc W b vs := (h.all _ hm).1
theorem Ow.at (h : Ow w W ms) (i : Nat) {b : Nat} {vs : List Value} (hi : ms[i]? = some (b, vs)) : Rc W b vs := (h.all (b, vs) (List.mem_of_getElem? hi)).1
theorem Ow.mine (h : Ow w W ms) (i : Nat) {b : Nat} {vs : List Value} (hi : ms[i]? = some (b, vs)) : w.heap.size ≤ b := (h.all (b, vs) (List.mem_of_getElem? hi)).2.2
theorem Ow.swap {x y : Nat × List Value} (h : Ow w W (x :: y :: ms)) : Ow w W (y :: x :: ms) := by
  refine ⟨h.k, fun q hq => h.all q ?_, ?_⟩
  · simp only [List.mem_cons] at hq ⊢
    rcases hq with hq | hq | hq <;> simp [hq]
  · obtain ⟨h1, h2⟩ := List.pairwise_cons.1 h.nd
    obtain ⟨h3, h4⟩ := List.pairwise_cons.1 h2
    refine .cons (fun q hq => ?_) (.cons (fun q hq => h1 q (List.mem_cons_of_mem _ hq)) h4)
    rcases List.mem_cons.1 hq with rfl | hq
    · exact Ne.symm (h1 y (by simp))
    · exact h3 q hq
theorem Ow.put (h : Ow w W ms) (i : Nat) {b : Nat} {vs us : List Value} (hi : ms[i]? = some (b, vs)) (hl : us.length = vs.length) : Ow w (W.setCells b 0 us) (ms.set i (b, us)) := by
  have hR := h.at i hi
  have hn : i < ms.length := (List.getElem?_eq_some_iff.1 hi).1
  have he : ms[i] = (b, vs) := (List.getElem?_eq_some_iff.1 hi).2
  have hvs : vs ≠ [] := (h.all (b, vs) (List.mem_of_getElem? hi)).2.1
  have hus : us ≠ [] := fun e => hvs (List.length_eq_zero_iff.1 (by rw [← hl, e]; rfl))
  refine ⟨(St.setCells us).kp h.k (h.mine i hi), fun q hq => ?_, ?_⟩
  · obtain ⟨j, hj, rfl⟩ := List.getElem_of_mem hq
    rw [List.length_set] at hj
    rw [List.getElem_set]
    split
    · exact ⟨hR.store (by omega), hus, h.mine i hi⟩
    · rename_i hne
      have h9 := h.all ms[j] (List.getElem_mem hj)
      refine ⟨h9.1.st (St.setCells us) ?_, h9.2⟩
      have hp := List.pairwise_iff_getElem.1 h.nd
      rcases Nat.lt_or_gt_of_ne hne with hlt | hlt
      · have := hp i j hn hj hlt; rw [he] at this; exact Ne.symm this
      · have := hp j i hj hn hlt; rw [he] at this; exact this
  · refine List.pairwise_iff_getElem.2 fun x y hx hy hxy => ?_
    rw [List.length_set] at hx hy
    have hp := List.pairwise_iff_getElem.1 h.nd x y hx hy hxy
    simp only [List.getElem_set]
    split
    · rename_i e1; subst e1
      rw [if_neg (by omega)]; rw [he] at hp; exact hp
    · split
      · rename_i e1 e2; subst e2
        rw [he] at hp; exact hp
      · exact hp
end

/-- new blocks of one kind, whatever their numbers, beside a call's own -/
def Mk (w : World) (z : List Value) (ms : List (Nat × List Value)) (bs : List Nat) (W : World) : Prop := Ow w W (bs.map (fun b => (b, z)) ++ ms)
theorem Mk.call {w W W' : World} {z : List Value} {ms : List (Nat × List Value)} {bs : List Nat} (h : Mk w z ms bs W) (k : Kp W.heap.size W W') : Mk w z ms bs W' := Ow.call h k
theorem Mk.make {w W : World} {v : Value} {r : List Value} {ms : List (Nat × List Value)} {bs : List Nat} (h : Mk w (v :: r) ms bs W) (t : TypeId) :
    Mk w (v :: r) ms (W.heap.size :: bs) (W.alloc (.cells (v :: r).toArray t)) ∧ W.heap.size ∉ bs :=
  ⟨Ow.new h v r t, fun hm => Nat.lt_irrefl _ (Ow.lt h (q := (W.heap.size, v :: r)) (List.mem_append_left _ (List.mem_map.2 ⟨_, hm, rfl⟩)))⟩

/-- a struct or an array of n cells -/
structure Ty (ty : TypeId) (n : Nat) : Prop where
  size : (Try.prog.info? ty).map (·.size) = some n
  row : ∃ d, Try.prog.underlying ty = some d ∧ d.isRow = true
theorem wpList_of_wp {P : Program} {ops : Array Oper} {rest : List Oper} {op : Oper} {a : Act} {w : World} {Q : Exit → Act → World → Prop} (hw : Region.wanted op (yielded ops a.tmps) = true)
    (h : ∀ K : Act → World → Prop, (∀ a w, wpList P ops Q rest a w → K a w) → op.wp P a w K Q) : wpList P ops Q (op :: rest) a w :=
  wpList_step fun K hK => by rw [if_pos hw]; exact h K hK
section
variable {ty : TypeId} {n : Nat}
theorem run_ldr (ht : Ty ty n) {w : World} {b : Nat} {vs : List Value} (hR : Rc w b vs) (hl : vs.length = n) : (loadVar ty ⟨b, 0, none⟩).run Try.prog w = .ok (.agg vs.toArray) w := by
  obtain ⟨d, hu, hd⟩ := ht.row
  exact run_loadVar_mid w b 0 ty vs d hR.range hu hd (hl ▸ ht.size)
/-- a whole struct or array is read (behind a guard that lets by, if there is one) -/
theorem wpList_ldr (ht : Ty ty n) {ops : Array Oper} {rest : List Oper} {op : Oper} {a : Act} {w : World} {Q : Exit → Act → World → Prop} (hgd : Region.wanted op (yielded ops a.tmps) = true) (x : Operand) (ho : op.op = .load ty x)
    (b : Nat) (hx : a.eval x = .pointer (some ⟨b, 0, none⟩)) (vs : List Value) (hl : vs.length = n) (hR : Rc w b vs)
    (h : wpList Try.prog ops Q rest (a.put op.dst (.agg vs.toArray)) w) : wpList Try.prog ops Q (op :: rest) a w := by
  obtain ⟨d, hu, hd⟩ := ht.row
  exact wpList_of_wp hgd fun K hK => wp_load_mid ty x ho b 0 hx vs d hR.range hu hd (hl ▸ ht.size) (hK _ _ h)
/-- .. is written -/
theorem wpList_str (ht : Ty ty n) {ops : Array Oper} {rest : List Oper} {op : Oper} {a : Act} {w : World} {Q : Exit → Act → World → Prop} (hgd : Region.wanted op (yielded ops a.tmps) = true) (x y : Operand) (ho : op.op = .store ty x y)
    (b : Nat) (hx : a.eval x = .pointer (some ⟨b, 0, none⟩)) (us : List Value) (hy : a.eval y = .agg us.toArray) (hu : us.length = n) (h1 : us.toArray.all (·.oneCell') = true) (vs : List Value) (hl : vs.length = n) (hR : Rc w b vs)
    (h : wpList Try.prog ops Q rest (a.put op.dst undef) (w.setCells b 0 us)) : wpList Try.prog ops Q (op :: rest) a w :=
  wpList_of_wp hgd fun K hK => wp_store_mid ty x y ho b 0 us.toArray hx hy (by simpa using hR.there (n := us.length) (by omega)) (by simpa [hu] using ht.size) h1 (hK _ _ h)
/-- one of the call's own blocks is written, whole -/
theorem wpList_sto (ht : Ty ty n) {ops : Array Oper} {rest : List Oper} {op : Oper} {a : Act} {w0 w : World} {Q : Exit → Act → World → Prop} {ms : List (Nat × List Value)} (HO : Ow w0 w ms) (i : Nat) (us : List Value)
    (hgd : Region.wanted op (yielded ops a.tmps) = true) (x y : Operand) (ho : op.op = .store ty x y) (b : Nat) (hx : a.eval x = .pointer (some ⟨b, 0, none⟩)) (hy : a.eval y = .agg us.toArray)
    (vs : List Value) (hi : ms[i]? = some (b, vs)) (hl : vs.length = n) (hu : us.length = n) (h1 : us.all (·.oneCell') = true)
    (h : ∀ w', Ow w0 w' (ms.set i (b, us)) → wpList Try.prog ops Q rest (a.put op.dst undef) w') : wpList Try.prog ops Q (op :: rest) a w :=
  wpList_str ht hgd x y ho b hx us hy hu (by simpa using h1) vs hl (HO.at i hi) (h _ (HO.put i hi (by omega)))
/-- .. in a region that draws its order, where nothing else is left to come up -/
theorem wpAny_sto (ht : Ty ty n) {ops : Array Oper} {listed : Array Bool} {fuel : Nat} {op : Oper} {a : Act} {w0 w : World} {Q : Exit → Act → World → Prop} {ms : List (Nat × List Value)} (j : Nat) (hr : Region.ready .any ops listed = [j]) (hj : ops[j]? = some op) (HO : Ow w0 w ms) (i : Nat) (us : List Value)
    (hgd : Region.wanted op (yielded ops a.tmps) = true) (x y : Operand) (ho : op.op = .store ty x y) (b : Nat) (hx : a.eval x = .pointer (some ⟨b, 0, none⟩)) (hy : a.eval y = .agg us.toArray)
    (vs : List Value) (hi : ms[i]? = some (b, vs)) (hl : vs.length = n) (hu : us.length = n) (h1 : us.all (·.oneCell') = true)
    (h : ∀ w', Ow w0 w' (ms.set i (b, us)) → wpAny Try.prog .any ops Q fuel (listed.setIfInBounds j true) (a.put op.dst undef) w') : wpAny Try.prog .any ops Q (fuel + 1) listed a w := by
  refine wpAny_ready hr (by simp) (AllReady.cons hj (fun K hK => ?_) AllReady.nil)
  rw [if_pos hgd]
  exact wp_store_mid ty x y ho b 0 us.toArray hx hy (by simpa using (HO.at i hi).there (n := us.length) (by omega)) (by simpa [hu] using ht.size) (by simpa using h1) (hK _ _ (h _ (HO.put i (us := us) hi (by omega))))
theorem quiet_ldr (ht : Ty ty n) {o : Oper} {a : Act} {C : World → Prop} {w : World} {b : Nat} {vs : List Value} (x : Operand) (ho : o.op = .load ty x) (hx : a.eval x = .pointer (some ⟨b, 0, none⟩)) (hl : vs.length = n) (hR : Rc w b vs) :
    o.quietAt Try.prog a C w (.agg vs.toArray) := by
  unfold Oper.quietAt execOp
  simp only [ho, hx, Instr.loadAt, Instr.sureAddr, Sem.run_bind, Sem.run_pure, Result.andThen_ok, run_ldr ht hR hl]
  exact ⟨rfl, rfl⟩
theorem results_c (ht : Ty ty n) {fn : Func} {p : Tmp} (h : fn.results = #[.cell p ty]) {tmps : Array Value} {w : World} {b : Nat} {vs : List Value}
    (hp : tmps.getD p undef = .pointer (some ⟨b, 0, none⟩)) (hl : vs.length = n) (hR : Rc w b vs) : (results fn tmps).run Try.prog w = .ok (.agg vs.toArray) w := by
  have hp' : tmps[p]?.getD undef = .pointer (some ⟨b, 0, none⟩) := by simpa using hp
  simp [results, h, hp', asAddr, run_ldr ht hR hl]
theorem results_c2 (ht : Ty ty n) {fn : Func} {p q : Tmp} (h : fn.results = #[.cell p ty, .tmp q]) {tmps : Array Value} {w : World} {b : Nat} {vs : List Value} {v : Value}
    (hp : tmps.getD p undef = .pointer (some ⟨b, 0, none⟩)) (hq : tmps.getD q undef = v) (hl : vs.length = n) (hR : Rc w b vs) : (results fn tmps).run Try.prog w = .ok (.tuple #[.agg vs.toArray, v]) w := by
  have hp' : tmps[p]?.getD undef = .pointer (some ⟨b, 0, none⟩) := by simpa using hp
  have hq' : tmps[q]?.getD undef = v := by simpa using hq
  simp [results, h, hp', hq', asAddr, run_ldr ht hR hl]
end

/-- two structs, field by field -/
theorem eqStep {P : Program} {w : World} {d : Nat} {xs ys : Array Value} {f : Field} {fs : List Field} {r s : Bool} (hn : f.name ≠ "_")
    (hr : ∃ va vb, (part f.type xs f.offset).run P w = .ok va w ∧ (part f.type ys f.offset).run P w = .ok vb w ∧ (Op.equalIn d f.type va vb).run P w = .ok r w)
    (hs : (Op.eqFields d xs ys fs).run P w = .ok s w) : (Op.eqFields d xs ys (f :: fs)).run P w = .ok (r && s) w := by
  obtain ⟨va, vb, h1, h2, h3⟩ := hr
  simp only [Op.eqFields, if_pos hn, Sem.run_bind, h1, h2, h3, Result.andThen_ok]
  cases r
  · simp
  · simpa using hs
theorem eqInt (x y : Int) {w : World} {xs ys : Array Value} {o : Nat} (h1 : xs[o]? = some (.int .i64 x)) (h2 : ys[o]? = some (.int .i64 y)) :
    ∃ va vb, (part 3 xs o).run Try.prog w = .ok va w ∧ (part 3 ys o).run Try.prog w = .ok vb w ∧ (Op.equalIn 9999 3 va vb).run Try.prog w = .ok (x == y) w :=
  ⟨_, _, run_part_plain w (by kernel_rfl) h1, run_part_plain w (by kernel_rfl) h2, run_equalIn_int w 9998 _ _ _ _ _ Try.underlying3⟩
end Go.Proofs.Ytkmhnfbjapfbeaa
