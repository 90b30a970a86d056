/-
  A region that draws its order, further: besides operations that answer the same and operations that make a new variable, operations that write one of the call's own blocks.
  ONE walk of the first kind serves every order, also where it may come behind a store.
-/
import Derived.Test.YtankjlpanmmogaaGreatJVecPlain
import Derived.Test.YtankjlpanmmogaaGreatJViewIs
import Derived.BigGuard
import Derived.ChangeKeysEq
import Derived.Laws.StructEq
import Derived.ChangeSlices
import Derived.Carry
namespace Go.Proofs.YtankjlpanmmogaaGreat.Rg2
set_option maxRecDepth 100000
open Go.RowKit

section
variable {σ : Type} {P : Program} {ops : Array Oper} {md : Region.Mode} {I : σ → World → Prop} {mk : Nat → σ → σ} {dem : Nat → Bool} {m : Nat}

def Same (P : Program) (ops : Array Oper) (I : σ → World → Prop) (o : Oper) (v : Value) (a : Act) : Prop :=
  (Region.wanted o (yielded ops a.tmps) = true ∧ ∀ s w, I s w → o.quietAt P a (I s) w v) ∨ (Region.wanted o (yielded ops a.tmps) = false ∧ v = undef)
def Makes (P : Program) (ops : Array Oper) (I : σ → World → Prop) (mk : Nat → σ → σ) (o : Oper) : Prop :=
  ∀ a : Act, Region.wanted o (yielded ops a.tmps) = true ∧ ∀ s w, I s w → ∃ w1, (execOp a.eval o).run P w = .ok (.value (.pointer (some ⟨w.heap.size, 0, none⟩))) w1 ∧ I (mk w.heap.size s) w1
/-- operation o writes a block -/
def Puts (P : Program) (ops : Array Oper) (I : σ → World → Prop) (o : Oper) (a : Act) (s s' : σ) : Prop :=
  Region.wanted o (yielded ops a.tmps) = true ∧ ∀ w, I s w → ∃ w1, (execOp a.eval o).run P w = .ok .skip w1 ∧ I s' w1
def Up (P : Program) (ops : Array Oper) (I : σ → World → Prop) (mk : Nat → σ → σ) (dem : Nat → Bool) (i : Nat) (K : σ → Act → Prop) (s : σ) (a : Act) : Prop :=
  ∃ o, ops[i]? = some o ∧ ((dem i = true ∧ Makes P ops I mk o ∧ ∀ b, K (mk b s) (a.put o.dst (.pointer (some ⟨b, 0, none⟩)))) ∨ (dem i = false ∧ ∃ v, Same P ops I o v a ∧ K s (a.put o.dst v)) ∨ (dem i = true ∧ ∃ s', Puts P ops I o a s s' ∧ K s' (a.put o.dst undef)))
def Any (P : Program) (md : Region.Mode) (ops : Array Oper) (I : σ → World → Prop) (mk : Nat → σ → σ) (dem : Nat → Bool) (m : Nat) (T : Array Bool → σ → Act → Prop) : Nat → Array Bool → σ → Act → Prop
  | 0, listed, s, a => (∀ j, j ∈ Region.ready md ops listed → m ≤ j) ∧ T listed s a
  | f + 1, listed, s, a => Region.ready md ops listed ≠ [] ∧ ∀ i, i ∈ Region.ready md ops listed → Up P ops I mk dem i (Any P md ops I mk dem m T f (listed.setIfInBounds i true)) s a

theorem wpAny_of {Q : Exit → Act → World → Prop} {T : Array Bool → σ → Act → Prop} {g : Nat} (hT : ∀ listed s a w, T listed s a → I s w → wpAny P md ops Q g listed a w) :
    ∀ (f : Nat) (listed : Array Bool) (s : σ) (a : Act) (w : World), Any P md ops I mk dem m T f listed s a → I s w → wpAny P md ops Q (f + g) listed a w
  | 0, listed, s, a, w, h, hI => by rw [Nat.zero_add]; exact hT _ _ _ _ h.2 hI
  | f + 1, listed, s, a, w, h, hI => by
    rw [show f + 1 + g = (f + g) + 1 by omega]
    refine ⟨fun h0 => absurd h0 h.1, fun i hi => ?_⟩
    obtain ⟨o, ho, hu⟩ := h.2 i hi
    unfold wpOp
    simp only [ho]
    rcases hu with ⟨_, hmk, hK⟩ | ⟨_, v, hy, hK⟩ | ⟨_, s', hp, hK⟩
    · obtain ⟨hw, hr⟩ := hmk a
      obtain ⟨w1, hrun, hI1⟩ := hr s w hI
      simp only [hw, if_true]
      refine .inl ?_
      unfold Oper.wp
      rw [hrun]
      exact wpAny_of hT f _ _ _ _ (hK _) hI1
    · rcases hy with ⟨hw, hq⟩ | ⟨hw, rfl⟩
      · simp only [hw, if_true]
        exact .inl (Oper.wp_of_quiet (C := I s) (K := fun a' => Any P md ops I mk dem m T f (listed.setIfInBounds i true) s a') hI (fun a' w' hw' hk => wpAny_of hT f _ _ _ _ hk hw') ⟨v, hq s, hK⟩)
      · simp only [hw, Bool.false_eq_true, if_false]
        exact wpAny_of hT f _ _ _ _ hK hI
    · obtain ⟨hw, hr⟩ := hp
      obtain ⟨w1, hrun, hI1⟩ := hr w hI
      simp only [hw, if_true]
      refine .inl ?_
      unfold Oper.wp
      rw [hrun]
      exact wpAny_of hT f _ _ _ _ hK hI1

theorem Same.of_same {o : Oper} {v : Value} {a a' : Act} (hy : Same P ops I o v a) (he : execOp a'.eval o = execOp a.eval o)
    (hw : Region.wanted o (yielded ops a'.tmps) = Region.wanted o (yielded ops a.tmps)) : Same P ops I o v a' := by
  unfold Same Oper.quietAt at *
  rw [he, hw]
  exact hy
theorem Puts.of_same {o : Oper} {s s' : σ} {a a' : Act} (hy : Puts P ops I o a s s') (he : execOp a'.eval o = execOp a.eval o)
    (hw : Region.wanted o (yielded ops a'.tmps) = Region.wanted o (yielded ops a.tmps)) : Puts P ops I o a' s s' := by
  unfold Puts at *
  rw [he, hw]
  exact hy

theorem Up.mono {i : Nat} {K K' : σ → Act → Prop} {s : σ} {a : Act} (h : ∀ s a, K s a → K' s a) (hu : Up P ops I mk dem i K s a) : Up P ops I mk dem i K' s a := by
  obtain ⟨o, ho, hu⟩ := hu
  refine ⟨o, ho, ?_⟩
  rcases hu with ⟨h1, h2, h3⟩ | ⟨h1, v, h2, h3⟩ | ⟨h1, s', h2, h3⟩
  · exact .inl ⟨h1, h2, fun b => h _ _ (h3 b)⟩
  · exact .inr (.inl ⟨h1, v, h2, h _ _ h3⟩)
  · exact .inr (.inr ⟨h1, s', h2, h _ _ h3⟩)

/-- an operation apart from one that answers the same: whether that one's answer lies in its slot already makes no difference -/
theorem Up.past {j : Nat} {oi oj : Oper} {v : Value} (hj : ops[j]? = some oj) (hap : oi.apart ops oj = true)
    (hsi : ∀ cs b, oi.op ≠ .select cs b) (hsj : ∀ cs b, oj.op ≠ .select cs b) {K : σ → Act → Prop} {s : σ} {a : Act}
    (hy : Same P ops I oi v a) (h : Up P ops I mk dem j K s (a.put oi.dst v)) :
    Up P ops I mk dem j (fun s a' => Same P ops I oi v a' ∧ K s (a'.put oi.dst v)) s a := by
  obtain ⟨k1, k2, k3⟩ := Oper.apart_spec hap
  have keep : ∀ u, Same P ops I oi v (a.put oj.dst u) := fun u => hy.of_same (execOp_put oi hsi a oj.dst u k3) (wanted_put oi a oj.dst u k3)
  obtain ⟨o, ho, hu⟩ := h
  obtain rfl : o = oj := Option.some.inj (ho.symm.trans hj)
  refine ⟨o, ho, ?_⟩
  rcases hu with ⟨h1, h2, h3⟩ | ⟨h1, u, h2, h3⟩ | ⟨h1, s', h2, h3⟩
  · refine .inl ⟨h1, h2, fun b => ⟨keep _, ?_⟩⟩
    rw [← Act.put_comm a v _ k2]
    exact h3 b
  · refine .inr (.inl ⟨h1, u, ?_, keep u, ?_⟩)
    · exact h2.of_same (execOp_put o hsj a oi.dst v k1).symm (wanted_put o a oi.dst v k1).symm
    · rw [← Act.put_comm a v u k2]
      exact h3
  · refine .inr (.inr ⟨h1, s', ?_, keep undef, ?_⟩)
    · exact h2.of_same (execOp_put o hsj a oi.dst v k1).symm (wanted_put o a oi.dst v k1).symm
    · rw [← Act.put_comm a v undef k2]
      exact h3

/-- what answers the same may be taken first -/
theorem first {T : Array Bool → σ → Act → Prop} {i : Nat} {oi : Oper} {v : Value} (hi : ops[i]? = some oi) (hd : dem i = false)
    (hsel : ∀ (j : Nat) (o : Oper) cs b, ops[j]? = some o → o.op ≠ .select cs b) (hwait : Rg.waitB md ops m i = true) :
    ∀ (f : Nat) (listed : Array Bool) (s : σ) (a : Act), Rg.Closed md ops listed →
      (∀ j oj, ops[j]? = some oj → j ≠ i → listed.getD j true = false → (∀ e ∈ oj.after, Region.binds md e = true → e.on ≠ i) → oi.apart ops oj = true) →
      i ∈ Region.ready md ops listed → Same P ops I oi v a →
      Any P md ops I mk dem m T f (listed.setIfInBounds i true) s (a.put oi.dst v) → Any P md ops I mk dem m T (f + 1) listed s a := by
  intro f
  induction f with
  | zero =>
    intro listed s a hc _ hr hy H
    refine ⟨fun h => (by rw [h] at hr; cases hr), fun j hj => ?_⟩
    by_cases hji : j = i
    · subst hji; exact ⟨oi, hi, .inr (.inl ⟨hd, v, hy, H⟩)⟩
    · exfalso
      have hm := H.1 j (ready_mono hj hji)
      obtain ⟨_, oj, hoj, _⟩ := mem_ready.1 hj
      exact Rg.not_listed (mem_ready.1 hr).1 (Rg.reach_ready hc 6 hj (Rg.waitB_spec hwait hm (Array.getElem?_eq_some_iff.1 hoj).1))
  | succ f ih =>
    intro listed s a hc hfree hr hy H
    refine ⟨fun h => (by rw [h] at hr; cases hr), fun j hj => ?_⟩
    by_cases hji : j = i
    · subst hji; exact ⟨oi, hi, .inr (.inl ⟨hd, v, hy, H⟩)⟩
    · have h1 := H.2 j (ready_mono hj hji)
      obtain ⟨hjun, oj, hoj, hall⟩ := mem_ready.1 hj
      have hnot : ∀ e ∈ oj.after, Region.binds md e = true → e.on ≠ i := fun e he hb heq => by
        have h2 := hall e he hb
        rw [heq] at h2
        exact Rg.not_listed (mem_ready.1 hr).1 h2
      have h2 := Up.past hoj (hfree j oj hoj hji hjun hnot) (fun cs b => hsel i oi cs b hi) (fun cs b => hsel j oj cs b hoj) hy h1
      refine Up.mono (fun s' a' h3 => ih (listed.setIfInBounds j true) s' a' (hc.set hj) ?_ (ready_mono hr (Ne.symm hji)) h3.1 ?_) h2
      · intro k ok hk hki hun hno
        refine hfree k ok hk hki ?_ hno
        by_cases hjk : j = k
        · subst hjk; exact hjun
        · rw [getD_set_ne true hjk] at hun; exact hun
      · rw [Array.setIfInBounds_comm _ _ hji]
        exact h3.2

/-- one step of the walk: number i is taken first; all that is asked of the region is reckoned -/
theorem take {T : Array Bool → σ → Act → Prop} {f : Nat} {listed : Array Bool} {s : σ} {a : Act} (i : Nat) {oi : Oper} {v : Value} (hi : ops[i]? = some oi) (hd : dem i = false)
    (hs : Region.noSelect ops = true) (hw : Rg.waitB md ops m i = true) (hc : Rg.closedB md ops listed = true) (hf : Region.free md ops listed i = true) (hr : (Region.ready md ops listed).contains i = true)
    (hy : Same P ops I oi v a) (h : Any P md ops I mk dem m T f (listed.setIfInBounds i true) s (a.put oi.dst v)) : Any P md ops I mk dem m T (f + 1) listed s a :=
  first hi hd (Region.noSelect_spec hs) hw f listed s a (Rg.closedB_spec hc) (Region.free_spec hi hf) (by simpa using hr) hy h

/-- whatever is ready -/
theorem step {T : Array Bool → σ → Act → Prop} {f : Nat} {listed : Array Bool} {s : σ} {a : Act} {rs : List Nat} (hr : Region.ready md ops listed = rs) (hne : rs ≠ [])
    (h : ∀ i, i ∈ rs → Up P ops I mk dem i (Any P md ops I mk dem m T f (listed.setIfInBounds i true)) s a) : Any P md ops I mk dem m T (f + 1) listed s a :=
  ⟨fun h0 => hne (hr ▸ h0), hr ▸ h⟩
theorem up_made {i : Nat} {o : Oper} {K : σ → Act → Prop} {s : σ} {a : Act} (ho : ops[i]? = some o) (hd : dem i = true) (hm : Makes P ops I mk o)
    (h : ∀ b, K (mk b s) (a.put o.dst (.pointer (some ⟨b, 0, none⟩)))) : Up P ops I mk dem i K s a := ⟨o, ho, .inl ⟨hd, hm, h⟩⟩
theorem up_put {i : Nat} {o : Oper} {K : σ → Act → Prop} {s s' : σ} {a : Act} (ho : ops[i]? = some o) (hd : dem i = true) (hp : Puts P ops I o a s s')
    (h : K s' (a.put o.dst undef)) : Up P ops I mk dem i K s a := ⟨o, ho, .inr (.inr ⟨hd, s', hp, h⟩)⟩
/-- one new variable, alone -/
theorem made1 {T : Array Bool → σ → Act → Prop} {f : Nat} {listed : Array Bool} {s : σ} {a : Act} (i : Nat) {o : Oper} (hr : Region.ready md ops listed = [i]) (ho : ops[i]? = some o) (hd : dem i = true) (hm : Makes P ops I mk o)
    (h : ∀ b, Any P md ops I mk dem m T f (listed.setIfInBounds i true) (mk b s) (a.put o.dst (.pointer (some ⟨b, 0, none⟩)))) : Any P md ops I mk dem m T (f + 1) listed s a :=
  step hr (by simp) fun j hj => by
    obtain rfl : j = i := by simpa using hj
    exact up_made ho hd hm h
/-- one store, alone -/
theorem put1 {T : Array Bool → σ → Act → Prop} {f : Nat} {listed : Array Bool} {s s' : σ} {a : Act} (i : Nat) {o : Oper} (hr : Region.ready md ops listed = [i]) (ho : ops[i]? = some o) (hd : dem i = true) (hp : Puts P ops I o a s s')
    (h : Any P md ops I mk dem m T f (listed.setIfInBounds i true) s' (a.put o.dst undef)) : Any P md ops I mk dem m T (f + 1) listed s a :=
  step hr (by simp) fun j hj => by
    obtain rfl : j = i := by simpa using hj
    exact up_put ho hd hp h
theorem done {T : Array Bool → σ → Act → Prop} {listed : Array Bool} {s : σ} {a : Act} {rs : List Nat} (hr : Region.ready md ops listed = rs) (hm : (rs.all fun j => decide (m ≤ j)) = true) (h : T listed s a) : Any P md ops I mk dem m T 0 listed s a :=
  ⟨fun j hj => by rw [hr] at hj; simpa using List.all_eq_true.1 hm j hj, h⟩

/-- the region -/
theorem region {id : Nat} {Q : Exit → Act → World → Prop} {a : Act} {w : World} {T : Array Bool → σ → Act → Prop} {g : Nat} (s : σ) (hm : P.follows .mixedOrders = true) (hI : I s w.drew) (hsz : m + g = ops.size)
    (hT : ∀ listed s a w, T listed s a → I s w → wpAny P .any ops Q g listed a w)
    (h : Any P .any ops I mk dem m T m (Array.replicate ops.size false) s a) : (Code.region id ops true).wp P Q a w := by
  refine wp_region_any hm ?_
  rw [← hsz]
  have := wpAny_of (Q := Q) hT m (Array.replicate ops.size false) s a w.drew h hI
  rw [← hsz] at this
  exact this
end

/-- the call's own blocks that the region made, ahead of those that it had -/
def Io (w : World) (ms : List (Nat × List Value)) (s : List (Nat × List Value)) (W : World) : Prop := Ow w W (s ++ ms)
theorem Io.call {w W W' : World} {s ms : List (Nat × List Value)} (h : Io w ms s W) (k : Kp W.heap.size W W') : Io w ms s W' := Ow.call h k
theorem Io.rc {w W : World} {s ms : List (Nat × List Value)} (h : Io w ms s W) {b : Nat} {vs : List Value} (hm : (b, vs) ∈ ms) : Rc W b vs := Ow.mem h (List.mem_append_right _ hm)
/-- a whole struct or array of the region's own is written -/
theorem puts_row {ty : TypeId} {n : Nat} (ht : Ty ty n) {ops : Array Oper} {w : World} {ms s : List (Nat × List Value)} {o : Oper} {a : Act} (i : Nat) (us : List Value) (hgd : Region.wanted o (yielded ops a.tmps) = true)
    (x y : Operand) (ho : o.op = .store ty x y) (b : Nat) (hx : a.eval x = .pointer (some ⟨b, 0, none⟩)) (hy : a.eval y = .agg us.toArray) (vs : List Value) (hi : s[i]? = some (b, vs)) (hl : vs.length = n) (hu : us.length = n) (h1 : us.all (·.oneCell') = true) :
    Puts Tryz.prog ops (Io w ms) o a s (s.set i (b, us)) := by
  refine ⟨hgd, fun W hI => ⟨W.setCells b 0 us, ?_, ?_⟩⟩
  · have hlt : i < s.length := (List.getElem?_eq_some_iff.1 hi).1
    have hR : Rc W b vs := Ow.at hI i (by rw [List.getElem?_append_left hlt]; exact hi)
    unfold execOp
    simp only [ho, hx, hy, Instr.storeAt, Instr.sureAddr, Sem.run_bind, Sem.run_pure, Result.andThen_ok, run_storeVar_mid W b 0 ty us.toArray (by simpa using hR.there (n := us.length) (by omega)) (by simpa [hu] using ht.size) (by simpa using h1)]
  · have hlt : i < s.length := (List.getElem?_eq_some_iff.1 hi).1
    have h2 := Ow.put hI i (us := us) (by rw [List.getElem?_append_left hlt]; exact hi) (by omega)
    rw [List.set_append_left _ _ hlt] at h2
    exact h2
/-- a struct of four ints is made -/
theorem makes_four {ty : TypeId} {w : World} {ms : List (Nat × List Value)} {ops : Array Oper} {o : Oper} (hgd : ∀ a : Act, Region.wanted o (yielded ops a.tmps) = true)
    (hrun : ∀ (a : Act) (W : World), (execOp a.eval o).run Tryz.prog W = .ok (.value (.pointer (some ⟨W.heap.size, 0, none⟩))) (W.alloc (.cells #[.int .i64 0, .int .i64 0, .int .i64 0, .int .i64 0] ty))) :
    Makes Tryz.prog ops (Io w ms) (fun b s => (b, [.int .i64 0, .int .i64 0, .int .i64 0, .int .i64 0]) :: s) o :=
  fun a => ⟨hgd a, fun _ W hI => ⟨_, hrun a W, Ow.new hI (.int .i64 0) [.int .i64 0, .int .i64 0, .int .i64 0] ty⟩⟩
end Go.Proofs.YtankjlpanmmogaaGreat.Rg2

/-
  More on memory, of no layer: a block is forgotten; new variables of any cells in a region that draws its order.
-/
namespace Go.Proofs.YtankjlpanmmogaaGreat
set_option maxRecDepth 100000
open Go.RowKit

/-- the newest block is forgotten -/
theorem Ow.drop1 {w W : World} {q : Nat × List Value} {ms : List (Nat × List Value)} (h : Ow w W (q :: ms)) : Ow w W ms :=
  ⟨h.k, fun p hp => h.all p (List.mem_cons_of_mem _ hp), (List.pairwise_cons.1 h.nd).2⟩

/-- a callee's own blocks ahead of the caller's -/
theorem Ow.join {w W W' : World} {ms ns : List (Nat × List Value)} (h : Ow w W ms) (k : Ow W W' ns) : Ow w W' (ns ++ ms) := by
  refine ⟨(h.call k.k).k, fun q hq => ?_, List.pairwise_append.2 ⟨k.nd, h.nd, fun p hp q hq => ?_⟩⟩
  · rcases List.mem_append.1 hq with hq | hq
    · exact ⟨(k.all q hq).1, (k.all q hq).2.1, Nat.le_trans h.k.size (k.all q hq).2.2⟩
    · exact (h.call k.k).all q hq
  · have h1 := (k.all p hp).2.2
    have h2 := h.lt hq
    omega
theorem Ow.perm {w W : World} {ms ns : List (Nat × List Value)} (h : Ow w W ms) (p : ms.Perm ns) : Ow w W ns :=
  ⟨h.k, fun q hq => h.all q (p.mem_iff.2 hq), (p.pairwise_iff (fun h => Ne.symm h)).1 h.nd⟩

/-- a new variable of cells v :: r is made, in a region that draws its order -/
theorem Rg2.makes_of {ty : TypeId} {w : World} {ms : List (Nat × List Value)} {ops : Array Oper} {o : Oper} (v : Value) (r : List Value) (hgd : ∀ a : Act, Region.wanted o (yielded ops a.tmps) = true)
    (hrun : ∀ (a : Act) (W : World), (execOp a.eval o).run Tryz.prog W = .ok (.value (.pointer (some ⟨W.heap.size, 0, none⟩))) (W.alloc (.cells (v :: r).toArray ty))) :
    Makes Tryz.prog ops (Io w ms) (fun b s => (b, v :: r) :: s) o :=
  fun a => ⟨hgd a, fun _ W hI => ⟨_, hrun a W, Ow.new hI v r ty⟩⟩
end Go.Proofs.YtankjlpanmmogaaGreat

/-
  What stands in memory, further: a part of a call's own block is written; one cell is written at a region's end.
-/
namespace Go.Proofs.YtankjlpanmmogaaGreat
set_option maxRecDepth 100000
open Go.RowKit

/-- a row of cells with a part of it written anew -/
def setsAt (vs : List Value) : Nat → List Value → List Value
  | _, [] => vs
  | o, v :: us => setsAt (vs.set o v) (o + 1) us
theorem setsAt_len (us : List Value) : ∀ (vs : List Value) (o : Nat), (setsAt vs o us).length = vs.length := by
  induction us with
  | nil => intro vs o; rfl
  | cons v us ih => intro vs o; show (setsAt (vs.set o v) (o + 1) us).length = _; rw [ih, List.length_set]
theorem Ow.putM {w W : World} {ms : List (Nat × List Value)} (h : Ow w W ms) (i : Nat) {b : Nat} {vs : List Value} (hi : ms[i]? = some (b, vs)) (o : Nat) (us : List Value) (hl : o + us.length ≤ vs.length) :
    Ow w (W.setCells b o us) (ms.set i (b, setsAt vs o us)) := by
  induction us generalizing W ms vs o with
  | nil =>
    have hn : i < ms.length := (List.getElem?_eq_some_iff.1 hi).1
    have he : ms[i] = (b, vs) := (List.getElem?_eq_some_iff.1 hi).2
    show Ow w W (ms.set i (b, vs))
    rw [← he, List.set_getElem_self]; exact h
  | cons v us ih =>
    have hn : i < ms.length := (List.getElem?_eq_some_iff.1 hi).1
    simp only [List.length_cons] at hl
    have h1 := h.put1 i hi o (by omega) v
    have h2 := ih h1 (vs := vs.set o v) (by rw [List.getElem?_set_self hn]) (o + 1) (by rw [List.length_set]; omega)
    rw [List.set_set] at h2
    exact h2
theorem Rc.thereM {W : World} {b : Nat} {vs : List Value} (h : Rc W b vs) {o n : Nat} (hl : o + n ≤ vs.length) : W.there b o n := fun j hj => by
  have h1 := h (o + j) _ (List.getElem?_eq_getElem (by omega))
  exact ⟨by rw [h1.1]; rfl, h1.2⟩
section
variable {ty : TypeId} {n : Nat}
/-- a part of one of the call's own blocks is written -/
theorem wpList_stm (ht : Ty ty n) {ops : Array Oper} {rest : List Oper} {op : Oper} {a : Act} {w0 w : World} {Q : Exit → Act → World → Prop} {ms : List (Nat × List Value)} (HO : Ow w0 w ms) (i : Nat) (us : List Value)
    (hgd : Region.wanted op (yielded ops a.tmps) = true) (x y : Operand) (ho : op.op = .store ty x y) (b o : Nat) (hx : a.eval x = .pointer (some ⟨b, o, none⟩)) (hy : a.eval y = .agg us.toArray)
    (vs : List Value) (hi : ms[i]? = some (b, vs)) (hl : o + n ≤ vs.length) (hu : us.length = n) (h1 : us.all (·.oneCell') = true)
    (h : ∀ w', Ow w0 w' (ms.set i (b, setsAt vs o us)) → wpList Tryz.prog ops Q rest (a.put op.dst undef) w') : wpList Tryz.prog ops Q (op :: rest) a w :=
  wpList_of_wp hgd fun K hK => wp_store_mid ty x y ho b o us.toArray hx hy (by simpa using (HO.at i hi).thereM (o := o) (n := us.length) (by omega)) (by simpa [hu] using ht.size) (by simpa using h1) (hK _ _ (h _ (HO.putM i hi o us (by omega))))
end
/-- one cell of one of the call's own blocks is written -/
theorem wpList_put1 {ops : Array Oper} {rest : List Oper} {op : Oper} {a : Act} {w0 w : World} {Q : Exit → Act → World → Prop} {ms : List (Nat × List Value)} (HO : Ow w0 w ms) (i : Nat)
    (hgd : Region.wanted op (yielded ops a.tmps) = true) {b : Nat} {vs : List Value} (j : Nat) (hj : j < vs.length) (v : Value) (hi : ms[i]? = some (b, vs))
    (hrun : w.cell? ⟨b, j, none⟩ = vs[j]? → w.frozen? ⟨b, j, none⟩ = false → ∀ K : Act → World → Prop, K (a.put op.dst undef) (w.setCell ⟨b, j, none⟩ v) → op.wp Tryz.prog a w K Q)
    (h : ∀ w', Ow w0 w' (ms.set i (b, vs.set j v)) → wpList Tryz.prog ops Q rest (a.put op.dst undef) w') : wpList Tryz.prog ops Q (op :: rest) a w :=
  wpList_of_wp hgd fun K hK => hrun (by rw [List.getElem?_eq_getElem hj]; exact (HO.at i hi).cell j (List.getElem?_eq_getElem hj)) ((HO.at i hi).froz j hj) K (hK _ _ (h _ (HO.put1 i hi j hj v)))
/-- .. in a region that draws its order, where nothing else is left to come up -/
theorem wpAny_put1 {ops : Array Oper} {listed : Array Bool} {fuel : Nat} {op : Oper} {a : Act} {w0 w : World} {Q : Exit → Act → World → Prop} {ms : List (Nat × List Value)} (z : Nat) (hr : Region.ready .any ops listed = [z]) (hz : ops[z]? = some op) (HO : Ow w0 w ms) (i : Nat)
    (hgd : Region.wanted op (yielded ops a.tmps) = true) {b : Nat} {vs : List Value} (j : Nat) (hj : j < vs.length) (v : Value) (hi : ms[i]? = some (b, vs))
    (hrun : w.cell? ⟨b, j, none⟩ = vs[j]? → w.frozen? ⟨b, j, none⟩ = false → ∀ K : Act → World → Prop, K (a.put op.dst undef) (w.setCell ⟨b, j, none⟩ v) → op.wp Tryz.prog a w K Q)
    (h : ∀ w', Ow w0 w' (ms.set i (b, vs.set j v)) → wpAny Tryz.prog .any ops Q fuel (listed.setIfInBounds z true) (a.put op.dst undef) w') : wpAny Tryz.prog .any ops Q (fuel + 1) listed a w := by
  refine wpAny_ready hr (by simp) (AllReady.cons hz (fun K hK => ?_) AllReady.nil)
  rw [if_pos hgd]
  exact hrun (by rw [List.getElem?_eq_getElem hj]; exact (HO.at i hi).cell j (List.getElem?_eq_getElem hj)) ((HO.at i hi).froz j hj) _ (hK _ _ (h _ (HO.put1 i hi j hj v)))
theorem Ow.drop2 {w W : World} {p q : Nat × List Value} {ms : List (Nat × List Value)} (h : Ow w W (p :: q :: ms)) : Ow w W (p :: ms) := h.swap.drop1
end Go.Proofs.YtankjlpanmmogaaGreat

/-
  What stands in memory, further, of no layer: one cell is read.
-/
namespace Go.Proofs.YtankjlpanmmogaaGreat
set_option maxRecDepth 100000
open Go.RowKit

/-- one cell is read -/
theorem wpList_ld1 {ops : Array Oper} {rest : List Oper} {op : Oper} {a : Act} {w : World} {Q : Exit → Act → World → Prop} (hgd : Region.wanted op (yielded ops a.tmps) = true) {b : Nat} {vs : List Value} (j : Nat) (v : Value) (hR : Rc w b vs) (hv : vs[j]? = some v)
    (hrun : w.cell? ⟨b, j, none⟩ = some v → ∀ K : Act → World → Prop, K (a.put op.dst v) w → op.wp Tryz.prog a w K Q)
    (h : wpList Tryz.prog ops Q rest (a.put op.dst v) w) : wpList Tryz.prog ops Q (op :: rest) a w :=
  wpList_of_wp hgd fun K hK => hrun (hR.cell j hv) K (hK _ _ h)
end Go.Proofs.YtankjlpanmmogaaGreat

/-
  Contracts of layer 6 (tint), the small functions: what they return, for every input; what stood in memory stands.
-/
namespace Go.Proofs.YtankjlpanmmogaaGreat
set_option maxRecDepth 100000
open Go.RowKit

theorem ty_color : Ty 51 4 := ⟨by kernel_rfl, _, Tryz.underlying51, rfl⟩
theorem ty_four : Ty 110 4 := ⟨by kernel_rfl, _, Tryz.underlying110, rfl⟩
theorem ty_six : Ty 24 6 := ⟨by kernel_rfl, _, Tryz.underlying24, rfl⟩

theorem tsat_any (n lo hi : Int) (w : World) :
    Calls Tryz.prog 49 #[.int .i64 n, .int .i64 lo, .int .i64 hi] w fun e w' => e = .returned (.int .i64 (Tn.sat n lo hi)) ∧ w = w' := by
  go_enter Tryz.func49, Tryz.ntmps49
  go_wp2
  all_goals
    go_ret
    exact ⟨ret_int (by unfold Tn.sat; split <;> (try split) <;> omega), rfl⟩
theorem trsat_any (n lo hi : Int) (w : World) :
    Calls Tryz.prog 26 #[.int .i64 n, .int .i64 lo, .int .i64 hi] w fun e w' => e = .returned (.int .i64 (Tn.sat n lo hi)) ∧ w = w' := by
  go_enter Tryz.func26, Tryz.ntmps26
  go_wp2
  all_goals
    go_ret
    exact ⟨ret_int (by unfold Tn.sat; split <;> (try split) <;> omega), rfl⟩
theorem t6is_any (x : Int) (w : World) :
    Calls Tryz.prog 62 #[.int .i64 x] w fun e w' => e = .returned (.bool (Tn.is x)) ∧ w = w' := by
  by_cases h : 0 ≤ x
  · go_enter Tryz.func62, Tryz.ntmps62
    go_wp2
    go_ret
    exact ⟨ret_bool (by simp [Tn.is, h]), rfl⟩
  · have hd : decide (0 ≤ x) = false := decide_eq_false h
    go_enter Tryz.func62, Tryz.ntmps62
    go_wp2
    go_ret
    exact ⟨ret_bool (by simp [Tn.is]; omega), rfl⟩
theorem product_any (x y : Int) (w : World) (hx : 0 ≤ x ∧ x ≤ 255) (hy : 0 ≤ y ∧ y ≤ 255) :
    Calls Tryz.prog 93 #[.int .i64 x, .int .i64 y] w fun e w' => e = .returned (.int .i64 (Tn.tm x y)) ∧ w = w' := by
  obtain ⟨h1, h2, h3⟩ := Tn.mul_bd hx hy
  have h4 : x * y ≤ 65025 := by omega
  clear h2 h3
  go_enter Tryz.func93, Tryz.ntmps93
  go_wp2
  go_ret
  exact ⟨ret_int (by unfold Tn.tm; first | rfl | rw [Int.tdiv_eq_ediv_of_nonneg (by omega)]), rfl⟩
theorem rtimes_any (x y : Int) (w : World) (hx : 0 ≤ x ∧ x ≤ 255) (hy : 0 ≤ y ∧ y ≤ 255) :
    Calls Tryz.prog 58 #[.int .i64 x, .int .i64 y] w fun e w' => e = .returned (.int .i64 (Tn.tm x y)) ∧ w = w' := by
  obtain ⟨h1, h2, h3⟩ := Tn.mul_bd hx hy
  have h4 : x * y ≤ 65025 := by omega
  clear h2 h3
  go_enter Tryz.func58, Tryz.ntmps58
  go_wp2
  go_ret
  exact ⟨ret_int (by unfold Tn.tm; first | rfl | rw [Int.tdiv_eq_ediv_of_nonneg (by omega)]), rfl⟩
set_option maxHeartbeats 1000000 in
theorem runpack_no (n : Int) (w : World) (h : n < 0 ∨ 4294967295 < n) :
    Calls Tryz.prog 96 #[.int .i64 n] w fun e w' => e = .returned (.tuple #[.agg #[.int .i64 0, .int .i64 0, .int .i64 0, .int .i64 0], .bool false]) ∧ Kp w.heap.size w w' := by
  by_cases h1 : n < 0
  · go_enter Tryz.func96, Tryz.ntmps96
    go_wp2
    exact bodyPost_ret (results_c2 ty_color rfl rfl rfl rfl (Rc.new w [.int .i64 0, .int .i64 0, .int .i64 0, .int .i64 0] _ rfl)) rfl ⟨rfl, Kp.new _ _ _⟩
  · have hd : decide (n < 0) = false := decide_eq_false h1
    have h2 : 4294967295 < n := by omega
    go_enter Tryz.func96, Tryz.ntmps96
    go_wp2
    exact bodyPost_ret (results_c2 ty_color rfl rfl rfl rfl (Rc.new w [.int .i64 0, .int .i64 0, .int .i64 0, .int .i64 0] _ rfl)) rfl ⟨rfl, Kp.new _ _ _⟩
theorem ret_color2 {r g b a r' g' b' a' : Int} {v : Value} (h0 : r = r') (h1 : g = g') (h2 : b = b') (h3 : a = a') :
    Ending.returned (.tuple #[.agg #[.int .i64 r, .int .i64 g, .int .i64 b, .int .i64 a], v]) = .returned (.tuple #[.agg #[.int .i64 (r'), .int .i64 (g'), .int .i64 (b'), .int .i64 (a')], v]) := by subst h0 h1 h2 h3; rfl
set_option maxHeartbeats 1000000 in
theorem runpack_yes (n : Int) (w : World) (h : 0 ≤ n ∧ n ≤ 4294967295) :
    Calls Tryz.prog 96 #[.int .i64 n] w fun e w' => e = .returned (.tuple #[.agg #[.int .i64 (Tn.part n 0), .int .i64 (Tn.part n 1), .int .i64 (Tn.part n 2), .int .i64 (Tn.part n 3)], .bool true]) ∧ Kp w.heap.size w w' := by
  obtain ⟨h1, h2⟩ := h
  have d0 : 0 ≤ n / 16777216 ∧ n / 16777216 ≤ 255 := by omega
  have d1 : 0 ≤ n / 65536 ∧ n / 65536 ≤ 65535 := by omega
  have d2 : 0 ≤ n / 256 ∧ n / 256 ≤ 16777215 := by omega
  obtain ⟨d01, d02⟩ := d0
  obtain ⟨d11, d12⟩ := d1
  obtain ⟨d21, d22⟩ := d2
  have hd : decide (n < 0) = false := decide_eq_false (by omega)
  have hd2 : decide (4294967295 < n) = false := decide_eq_false (by omega)
  go_enter Tryz.func96, Tryz.ntmps96
  go_wp2
  exact bodyPost_ret (results_c2 ty_color rfl rfl rfl rfl (Rc.new w [.int .i64 _, .int .i64 _, .int .i64 _, .int .i64 _] _ rfl)) rfl ⟨ret_color2 (by rw [Tn.part0]; omega) (by rw [Tn.part1]) (by rw [Tn.part2]) (by rw [Tn.part3]), Kp.new _ _ _⟩
end Go.Proofs.YtankjlpanmmogaaGreat

/-
  Contracts of layer 6 (tint): colours made channel by channel; held as channels; Right, Pack, Unpack.
-/
namespace Go.Proofs.YtankjlpanmmogaaGreat
set_option maxRecDepth 100000
open Go.RowKit

set_option maxHeartbeats 1000000 in
theorem rright_any (r g b a : Int) (w : World) :
    Calls Tryz.prog 27 #[.agg #[.int .i64 r, .int .i64 g, .int .i64 b, .int .i64 a]] w fun e w' => e = .returned (.bool (Tn.right r g b a)) ∧ Kp w.heap.size w w' := by
  cases h0 : Tn.is r
  · go_enter Tryz.func27, Tryz.ntmps27
    go_wp2_with (first | go_skip | (go_at_call 62; refine (t6is_any _ _).mono ?_; rintro e w' ⟨rfl, rfl⟩))
    go_ret
    exact ⟨ret_bool (by simp [Tn.right, h0]), Kp.new _ _ _⟩
  cases h1 : Tn.is g
  · go_enter Tryz.func27, Tryz.ntmps27
    go_wp2_with (first | go_skip | (go_at_call 62; refine (t6is_any _ _).mono ?_; rintro e w' ⟨rfl, rfl⟩))
    go_ret
    exact ⟨ret_bool (by simp [Tn.right, h1]), Kp.new _ _ _⟩
  cases h2 : Tn.is b
  · go_enter Tryz.func27, Tryz.ntmps27
    go_wp2_with (first | go_skip | (go_at_call 62; refine (t6is_any _ _).mono ?_; rintro e w' ⟨rfl, rfl⟩))
    go_ret
    exact ⟨ret_bool (by simp [Tn.right, h2]), Kp.new _ _ _⟩
  · go_enter Tryz.func27, Tryz.ntmps27
    go_wp2_with (first | go_skip | (go_at_call 62; refine (t6is_any _ _).mono ?_; rintro e w' ⟨rfl, rfl⟩))
    go_ret
    exact ⟨ret_bool (by simp [Tn.right, h0, h1, h2]), Kp.new _ _ _⟩

/-- the channels that a function makes of six numbers -/
theorem of1_any (l0 l1 l2 l3 l4 l5 : Int) (i : Nat) (hi : i < 4) (x : Int) (bx : Nat) (w : World) (hx : [l0, l1, l2, l3][i]? = some x)
    (hR : Rc w bx [.int .i64 l0, .int .i64 l1, .int .i64 l2, .int .i64 l3, .int .i64 l4, .int .i64 l5]) :
    Calls Tryz.prog 48 #[.int .i64 i, .pointer (some ⟨bx, 0, none⟩)] w fun e w' => e = .returned (.int .i64 (Tn.ch x)) ∧ w = w' := by
  have c0 := hR.cell 0 rfl; have c1 := hR.cell 1 rfl; have c2 := hR.cell 2 rfl; have c3 := hR.cell 3 rfl
  clear hR
  obtain rfl | rfl | rfl | rfl : i = 0 ∨ i = 1 ∨ i = 2 ∨ i = 3 := by omega
  all_goals
    simp at hx
    subst hx
    go_enter Tryz.func48, Tryz.ntmps48
    go_wp2_with (go_at_call 49; refine (tsat_any _ _ _ _).mono ?_; rintro e w' ⟨rfl, rfl⟩)
    go_ret
    exact ⟨rfl, rfl⟩

set_option maxRecDepth 100000 in
set_option maxHeartbeats 1000000 in
theorem made_of (l0 l1 l2 l3 l4 l5 : Int) (bx : Nat) (w : World)
    (hR : Rc w bx [.int .i64 l0, .int .i64 l1, .int .i64 l2, .int .i64 l3, .int .i64 l4, .int .i64 l5]) :
    Calls Tryz.prog 47 #[.func (Fn.func 48) #[] #[.pointer (some ⟨bx, 0, none⟩)]] w fun e w' => e = .returned (.agg #[.int .i64 (Tn.ch l0), .int .i64 (Tn.ch l1), .int .i64 (Tn.ch l2), .int .i64 (Tn.ch l3)]) ∧ Kp w.heap.size w w' := by
  have HR := Lib.hid (hR.kp (Kp.new w #[.int .i64 0, .int .i64 0, .int .i64 0, .int .i64 0] 51) (hR.lt (by simp)))
  clear hR
  go_enter Tryz.func47, Tryz.ntmps47
  go_wp2_with (go_at_call 48; (first | refine (of1_any l0 l1 l2 l3 l4 l5 0 (by omega) l0 bx _ rfl HR.out).mono ?_ | refine (of1_any l0 l1 l2 l3 l4 l5 1 (by omega) l1 bx _ rfl HR.out).mono ?_ | refine (of1_any l0 l1 l2 l3 l4 l5 2 (by omega) l2 bx _ rfl HR.out).mono ?_ | refine (of1_any l0 l1 l2 l3 l4 l5 3 (by omega) l3 bx _ rfl HR.out).mono ?_); rintro e w' ⟨rfl, rfl⟩)
  exact bodyPost_ret (results_c ty_color rfl rfl rfl (Rc.new w [.int .i64 _, .int .i64 _, .int .i64 _, .int .i64 _] _ rfl)) rfl ⟨rfl, Kp.new _ _ _⟩
end Go.Proofs.YtankjlpanmmogaaGreat

/-
  Contracts of layer 6 (tint): Of, Right, Gray.
-/
namespace Go.Proofs.YtankjlpanmmogaaGreat
set_option maxRecDepth 100000
open Go.RowKit

set_option maxHeartbeats 1000000 in
theorem of_any (l0 l1 l2 l3 l4 l5 : Int) (w : World) :
    Calls Tryz.prog 18 #[.agg #[.int .i64 l0, .int .i64 l1, .int .i64 l2, .int .i64 l3, .int .i64 l4, .int .i64 l5]] w fun e w' => e = .returned (.agg #[.int .i64 (Tn.ch l0), .int .i64 (Tn.ch l1), .int .i64 (Tn.ch l2), .int .i64 (Tn.ch l3)]) ∧ Kp w.heap.size w w' := by
  have HO := Lib.hid (((Ow.refl w).newAt w.heap.size rfl (.int .i64 l0) [.int .i64 l1, .int .i64 l2, .int .i64 l3, .int .i64 l4, .int .i64 l5] 24).newAt (w.heap.size + 1) (by simp) (.int .i64 0) [.int .i64 0, .int .i64 0, .int .i64 0] 51)
  go_enter Tryz.func18, Tryz.ntmps18
  go_wp2_with (first
    | (go_at_call 47; refine (made_of l0 l1 l2 l3 l4 l5 w.heap.size _ (HO.out.at 1 rfl)).mono ?_; rintro e w1 ⟨rfl, hk⟩; have l2 := HO.out.call hk; clear HO hk; have HO := Lib.hid l2; clear l2)
    | ((with_reducible show wpList _ _ _ ({ dst := _, op := Op.store 51 _ _, type := _, pos := _, after := _, guard := _ } :: _) _ _); refine wpList_sto ty_color HO.out 0 [.int .i64 (Tn.ch l0), .int .i64 (Tn.ch l1), .int .i64 (Tn.ch l2), .int .i64 (Tn.ch l3)] rfl _ _ rfl _ rfl rfl _ rfl rfl rfl rfl ?_; intro w2 l2; clear HO; have HO := Lib.hid l2; clear l2))
  exact bodyPost_ret (results_c ty_color rfl rfl rfl (HO.out.at 0 rfl)) rfl ⟨rfl, HO.out.k⟩

theorem run_eqC (r g b a r' g' b' a' : Int) (w : World) : (Op.equalIn 10000 51 (.agg #[.int .i64 r, .int .i64 g, .int .i64 b, .int .i64 a]) (.agg #[.int .i64 (r'), .int .i64 (g'), .int .i64 (b'), .int .i64 (a')])).run Tryz.prog w = .ok (r == r' && g == g' && b == b' && a == a') w := by
  rw [run_equalIn_struct w 9999 51 _ _ (by kernel_rfl) (by kernel_rfl)]
  simp only [Program.fieldsOf, Tryz.underlying51]
  rw [show (r == r' && g == g' && b == b' && a == a') = (r == r' && (g == g' && (b == b' && (a == a' && true)))) by simp [Bool.and_assoc]]
  refine eqStep (by decide) (eqInt r r' rfl rfl) (eqStep (by decide) (eqInt g g' rfl rfl) (eqStep (by decide) (eqInt b b' rfl rfl) (eqStep (by decide) (eqInt a a' rfl rfl) (by simp [Op.eqFields]))))
theorem run_eqC_same (r g b a : Int) (w : World) : (Op.equalIn 10000 51 (.agg #[.int .i64 r, .int .i64 g, .int .i64 b, .int .i64 a]) (.agg #[.int .i64 r, .int .i64 g, .int .i64 b, .int .i64 a])).run Tryz.prog w = .ok true w := by
  rw [run_eqC]; simp

set_option linter.unusedSimpArgs false in
set_option maxHeartbeats 1000000 in
theorem right_any (r g b a : Int) (w : World) :
    Calls Tryz.prog 73 #[.agg #[.int .i64 r, .int .i64 g, .int .i64 b, .int .i64 a]] w fun e w' => e = .returned (.bool (Tn.right r g b a)) ∧ Kp w.heap.size w w' := by
  have hE := run_eqC
  have hright : (r == Tn.ch r && g == Tn.ch g && b == Tn.ch b && a == Tn.ch a) = Tn.right r g b a := by simp only [Tn.ch_is, Tn.right]
  have HO := Lib.hid ((Ow.refl w).new (.int .i64 r) [.int .i64 g, .int .i64 b, .int .i64 a] 51)
  go_enter Tryz.func73, Tryz.ntmps73
  go_upto_region 1 with fail
  generalize hw0 : w.alloc (.cells #[.int .i64 r, .int .i64 g, .int .i64 b, .int .i64 a] 51) = W0 at *
  clear hw0
  refine Rg.region (I := fun _ W => Ow w W [(w.heap.size, [.int .i64 r, .int .i64 g, .int .i64 b, .int .i64 a])]) (dem := fun _ => false) (m := 13) (g := 0) (T := fun listed bs a' => ∀ W, Ow w W [(w.heap.size, [.int .i64 r, .int .i64 g, .int .i64 b, .int .i64 a])] → wpAny Tryz.prog .any _ _ 0 listed a' W) (by kernel_rfl) HO.out.drew rfl (fun _ _ _ _ h hI => h _ hI) ?_
  refine Rg.take 0 (v := .agg #[.int .i64 r, .int .i64 g, .int .i64 b, .int .i64 a]) rfl rfl (by kernel_rfl) (by kernel_rfl) (by kernel_rfl) (by kernel_rfl) (by kernel_rfl) (.inl ⟨rfl, fun bs wq hI => ?_⟩) ?_
  · exact quiet_ldr ty_color (.tmp 1) rfl rfl rfl (hI.at 0 rfl)
  simp only [Act.put, List.getElem_toArray, List.getElem_cons_zero, List.getElem_cons_succ, List.setIfInBounds_toArray, List.set_cons_zero, List.set_cons_succ]
  refine Rg.take 1 (v := .pointer (some ⟨w.heap.size, 0, none⟩)) rfl rfl (by kernel_rfl) (by kernel_rfl) (by kernel_rfl) (by kernel_rfl) (by kernel_rfl) (.inl ⟨rfl, fun bs wq hI => ?_⟩) ?_
  · go_simp
  simp only [Act.put, List.getElem_toArray, List.getElem_cons_zero, List.getElem_cons_succ, List.setIfInBounds_toArray, List.set_cons_zero, List.set_cons_succ]
  refine Rg.take 2 (v := .int .i64 r) rfl rfl (by kernel_rfl) (by kernel_rfl) (by kernel_rfl) (by kernel_rfl) (by kernel_rfl) (.inl ⟨rfl, fun bs wq hI => ?_⟩) ?_
  · (have c := (hI.at 0 rfl).cell 0 rfl; go_simp)
  simp only [Act.put, List.getElem_toArray, List.getElem_cons_zero, List.getElem_cons_succ, List.setIfInBounds_toArray, List.set_cons_zero, List.set_cons_succ]
  refine Rg.take 3 (v := .pointer (some ⟨w.heap.size, 1, none⟩)) rfl rfl (by kernel_rfl) (by kernel_rfl) (by kernel_rfl) (by kernel_rfl) (by kernel_rfl) (.inl ⟨rfl, fun bs wq hI => ?_⟩) ?_
  · go_simp
  simp only [Act.put, List.getElem_toArray, List.getElem_cons_zero, List.getElem_cons_succ, List.setIfInBounds_toArray, List.set_cons_zero, List.set_cons_succ]
  refine Rg.take 4 (v := .int .i64 g) rfl rfl (by kernel_rfl) (by kernel_rfl) (by kernel_rfl) (by kernel_rfl) (by kernel_rfl) (.inl ⟨rfl, fun bs wq hI => ?_⟩) ?_
  · (have c := (hI.at 0 rfl).cell 1 rfl; go_simp)
  simp only [Act.put, List.getElem_toArray, List.getElem_cons_zero, List.getElem_cons_succ, List.setIfInBounds_toArray, List.set_cons_zero, List.set_cons_succ]
  refine Rg.take 5 (v := .pointer (some ⟨w.heap.size, 2, none⟩)) rfl rfl (by kernel_rfl) (by kernel_rfl) (by kernel_rfl) (by kernel_rfl) (by kernel_rfl) (.inl ⟨rfl, fun bs wq hI => ?_⟩) ?_
  · go_simp
  simp only [Act.put, List.getElem_toArray, List.getElem_cons_zero, List.getElem_cons_succ, List.setIfInBounds_toArray, List.set_cons_zero, List.set_cons_succ]
  refine Rg.take 6 (v := .int .i64 b) rfl rfl (by kernel_rfl) (by kernel_rfl) (by kernel_rfl) (by kernel_rfl) (by kernel_rfl) (.inl ⟨rfl, fun bs wq hI => ?_⟩) ?_
  · (have c := (hI.at 0 rfl).cell 2 rfl; go_simp)
  simp only [Act.put, List.getElem_toArray, List.getElem_cons_zero, List.getElem_cons_succ, List.setIfInBounds_toArray, List.set_cons_zero, List.set_cons_succ]
  refine Rg.take 7 (v := .pointer (some ⟨w.heap.size, 3, none⟩)) rfl rfl (by kernel_rfl) (by kernel_rfl) (by kernel_rfl) (by kernel_rfl) (by kernel_rfl) (.inl ⟨rfl, fun bs wq hI => ?_⟩) ?_
  · go_simp
  simp only [Act.put, List.getElem_toArray, List.getElem_cons_zero, List.getElem_cons_succ, List.setIfInBounds_toArray, List.set_cons_zero, List.set_cons_succ]
  refine Rg.take 8 (v := .int .i64 a) rfl rfl (by kernel_rfl) (by kernel_rfl) (by kernel_rfl) (by kernel_rfl) (by kernel_rfl) (.inl ⟨rfl, fun bs wq hI => ?_⟩) ?_
  · (have c := (hI.at 0 rfl).cell 3 rfl; go_simp)
  simp only [Act.put, List.getElem_toArray, List.getElem_cons_zero, List.getElem_cons_succ, List.setIfInBounds_toArray, List.set_cons_zero, List.set_cons_succ]
  refine Rg.take 9 (v := .agg #[.int .i64 r, .int .i64 g, .int .i64 b, .int .i64 a, .int .i64 0, .int .i64 0]) rfl rfl (by kernel_rfl) (by kernel_rfl) (by kernel_rfl) (by kernel_rfl) (by kernel_rfl) (.inl ⟨rfl, fun bs wq hI => ?_⟩) ?_
  · go_simp
  simp only [Act.put, List.getElem_toArray, List.getElem_cons_zero, List.getElem_cons_succ, List.setIfInBounds_toArray, List.set_cons_zero, List.set_cons_succ]
  refine Rg.take 10 (v := .agg #[.int .i64 (Tn.ch r), .int .i64 (Tn.ch g), .int .i64 (Tn.ch b), .int .i64 (Tn.ch a)]) rfl rfl (by kernel_rfl) (by kernel_rfl) (by kernel_rfl) (by kernel_rfl) (by kernel_rfl) (.inl ⟨rfl, fun bs wq hI => ?_⟩) ?_
  · (go_simp; exact (of_any r g b a 0 0 _).mono fun e w2 h => ⟨h.1, hI.call h.2⟩)
  simp only [Act.put, List.getElem_toArray, List.getElem_cons_zero, List.getElem_cons_succ, List.setIfInBounds_toArray, List.set_cons_zero, List.set_cons_succ]
  refine Rg.take 11 (v := .bool (Tn.right r g b a)) rfl rfl (by kernel_rfl) (by kernel_rfl) (by kernel_rfl) (by kernel_rfl) (by kernel_rfl) (.inl ⟨rfl, fun bs wq hI => ?_⟩) ?_
  · go_simp
  simp only [Act.put, List.getElem_toArray, List.getElem_cons_zero, List.getElem_cons_succ, List.setIfInBounds_toArray, List.set_cons_zero, List.set_cons_succ]
  refine Rg.take 12 (v := .bool (Tn.right r g b a)) rfl rfl (by kernel_rfl) (by kernel_rfl) (by kernel_rfl) (by kernel_rfl) (by kernel_rfl) (.inl ⟨rfl, fun bs wq hI => ?_⟩) ?_
  · go_simp
  simp only [Act.put, List.getElem_toArray, List.getElem_cons_zero, List.getElem_cons_succ, List.setIfInBounds_toArray, List.set_cons_zero, List.set_cons_succ]
  refine Rg.done (rs := []) (by kernel_rfl) (by decide) (fun W hI => ?_)
  have KK := Lib.hid hI.k
  clear hI
  refine wpAny_done (by kernel_rfl) ?_ _
  go_wp2_with fail
  go_ret
  exact ⟨rfl, KK.out⟩
end Go.Proofs.YtankjlpanmmogaaGreat

/-
  Slices as arguments: a slice by the list of its cells; what a reading of a slice of ints says of its cells, and back. Of no layer.
-/
namespace Go.Proofs.YtankjlpanmmogaaGreat
set_option maxRecDepth 100000
open Go.ChangeShapes Go.WideShapes Go.ChangeAt Go.RowKit

/-- v is a slice whose cells are xs -/
def Sl (w : World) (v : Value) (xs : List Value) : Prop := ∃ a c, v = .slice a xs.length c ∧ xs.length ≤ c ∧ ∀ j x, xs[j]? = some x → ∃ b o, a = some ⟨b, o, none⟩ ∧ b < w.heap.size ∧ w.cell? ⟨b, o + j, none⟩ = some x
theorem Sl.next {w w' : World} {v : Value} {xs : List Value} (h : Sl w v xs) (hb : Kp w.heap.size w w') : Sl w' v xs := by
  obtain ⟨a, c, h1, h2, h3⟩ := h
  refine ⟨a, c, h1, h2, fun j x hj => ?_⟩
  obtain ⟨b, o, e1, e2, e3⟩ := h3 j x hj
  exact ⟨b, o, e1, Nat.lt_of_lt_of_le e2 hb.size, (hb.below.cell (p := ⟨b, o + j, none⟩) e2).trans e3⟩
theorem Sl.nil (w : World) : Sl w (.slice none 0 0) [] := ⟨none, 0, rfl, Nat.le_refl _, fun j x hj => by simp at hj⟩
/-- ints, as cells -/
def iv (l : List Int) : List Value := l.map (Value.int .i64)
theorem iv_len (l : List Int) : (iv l).length = l.length := by simp [iv]
theorem iv_get {l : List Int} {k : Nat} (h : k < l.length) : (iv l)[k]? = some (.int .i64 l[k]) := by unfold iv; rw [List.getElem?_map, List.getElem?_eq_getElem h]; rfl

theorem laidOut : laidOutB Tryz.prog = true := by kernel_rfl
theorem cellsInt : Tryz.prog.cellsOf 3 = 1 := by kernel_rfl
/-- an argument that is a row of ints, as the walks read it -/
theorem sl_ints {H : Type} {enc : TypeId × Value → H} {W : World} {a0 : Option Addr} {len cap : Nat} {d : DataW H} {ps : List MemPlace} (h : DataW.Trod enc Tryz.prog W 0 (fun _ => true) true 28 (.slice a0 len cap) d ps) (hlt : ∀ x ∈ ps, x.block < W.heap.size) :
    ∃ xs : List Int, Sl W (.slice a0 len cap) (iv xs) ∧ xs.length ≤ 9223372036854775807 := by
  obtain ⟨fuel, hf⟩ := h
  rcases open_ints Tryz.underlying28 Tryz.underlying3 cellsInt hf with ⟨hcs, hx⟩ | ⟨a, len', cap', zs, hcs, _, hl, hm, hz, hx, hcell, hwz⟩
  · simp [Value.cells] at hcs
    obtain ⟨rfl, rfl, rfl⟩ := hcs
    exact ⟨[], Sl.nil W, Nat.zero_le _⟩
  · simp [Value.cells] at hcs
    obtain ⟨rfl, rfl, rfl⟩ := hcs
    simp only [Prod.mk.injEq] at hx
    obtain ⟨_, rfl⟩ := hx
    simp only [if_true] at hz
    have hxl : (zs.take len).length = len := by rw [List.length_take]; omega
    refine ⟨zs.take len, ⟨some a, cap, by rw [iv_len, hxl], by rw [iv_len, hxl]; exact hl, fun j x hj => ?_⟩, by unfold maxLen at hm; omega⟩
    have hjl : j < len := by
      have := (List.getElem?_eq_some_iff.1 hj).1
      rw [iv_len, hxl] at this
      exact this
    obtain ⟨b, off, spot⟩ := a
    have hspot : spot = none := by simpa [Addr.add] using World.cell?_spot (hcell 0 (by omega))
    subst hspot
    refine ⟨b, off, rfl, hlt (.cell b off) (MemPlace.mem_row.2 ⟨0, by omega, by simp⟩), ?_⟩
    have hjz : j < zs.length := by omega
    have hc := hcell j hjz
    rw [show (⟨b, off, none⟩ : Addr).add j = ⟨b, off + j, none⟩ by simp [Addr.add]] at hc
    rw [hc, ← hj]
    unfold iv
    rw [List.getElem?_map, List.getElem?_take_of_lt hjl, List.getElem?_eq_getElem hjz, List.getD_eq_getElem?_getD, List.getElem?_eq_getElem hjz]
    rfl
/-- an argument that is a slice reads as it did: of what stood nothing has turned -/
theorem shut_kept {H : Type} {enc : TypeId × Value → H} {W W' : World} {v : Value} {d : DataW H} {ps before : List MemPlace} {t : TypeId} {sp : Nat → Bool} (h : DataW.Trod enc Tryz.prog W 0 (fun _ => true) true t v d ps)
    (hr : Tryz.prog.readableRec t = true) (ht : t < Tryz.prog.types.size) (hk : Kp W.heap.size W W') (hlt : ∀ x ∈ ps, x.block < W.heap.size) (hs : ∀ p ∈ before, sp p.block = true) (hsub : ∀ x ∈ ps, x ∈ before) :
    DataW.Trod enc Tryz.prog W' 0 sp true t v d ps :=
  WideElems.Trod_stays laidOut hr ht h (fun x hx => hk.below.same (hlt x hx)) (fun x hx => hs x (hsub x hx))
end Go.Proofs.YtankjlpanmmogaaGreat

/-
  Plain facts of layer 12 (edge): sides of points, who owns a line, which pixels a triangle has; no program in sight.
-/
namespace Go.Proofs.YtankjlpanmmogaaGreat
set_option maxRecDepth 100000
open Go.RowKit

/-- the side of p of the edge from a to b -/
def Eg.side (a1 a2 b1 b2 p1 p2 : Int) : Int := (b1 - a1) * (p2 - a2) - (b2 - a2) * (p1 - a1)
/-- does the edge own its line? -/
def Eg.owns (a1 a2 b1 b2 : Int) : Bool := if a2 = b2 then decide (a1 < b1) else decide (b2 < a2)
/-- does the edge have a point? -/
def Eg.on (a1 a2 b1 b2 p1 p2 : Int) : Bool := decide (0 < Eg.side a1 a2 b1 b2 p1 p2) || (decide (Eg.side a1 a2 b1 b2 p1 p2 = 0) && Eg.owns a1 a2 b1 b2)
/-- does the triangle have a point? -/
def Eg.has (a1 a2 b1 b2 c1 c2 p1 p2 : Int) : Bool := decide (0 < Eg.side a1 a2 b1 b2 c1 c2) && Eg.on a1 a2 b1 b2 p1 p2 && Eg.on b1 b2 c1 c2 p1 p2 && Eg.on c1 c2 a1 a2 p1 p2
/-- may a point be? -/
def Eg.may (a1 a2 : Int) : Bool := decide (-524288 ≤ a1) && decide (a1 ≤ 524288) && decide (-524288 ≤ a2) && decide (a2 ≤ 524288)
/-- may there be such a pixel? -/
def Eg.fits (x y : Int) : Bool := decide (-32768 ≤ x) && decide (x ≤ 32767) && decide (-32768 ≤ y) && decide (y ≤ 32767)
theorem Eg.may_iff {a1 a2 : Int} : Eg.may a1 a2 = true ↔ (-524288 ≤ a1 ∧ a1 ≤ 524288) ∧ (-524288 ≤ a2 ∧ a2 ≤ 524288) := by simp [Eg.may, and_assoc]
theorem Eg.fits_iff {x y : Int} : Eg.fits x y = true ↔ (-32768 ≤ x ∧ x ≤ 32767) ∧ (-32768 ≤ y ∧ y ≤ 32767) := by simp [Eg.fits, and_assoc]
/-- a pixel's middle may be just if there may be such a pixel -/
theorem Eg.middle_may (x y : Int) : Eg.may (16 * x + 8) (16 * y + 8) = Eg.fits x y := by
  rw [Bool.eq_iff_iff, Eg.may_iff, Eg.fits_iff]; omega

/-- a product of two numbers up to 2^20 in amount -/
theorem Eg.mul_le {a b : Int} (h1 : -1048576 ≤ a) (h2 : a ≤ 1048576) (h3 : -1048576 ≤ b) (h4 : b ≤ 1048576) : -1099511627776 ≤ a * b ∧ a * b ≤ 1099511627776 := by
  have k : (a * b).natAbs ≤ 1048576 * 1048576 := by rw [Int.natAbs_mul]; exact Nat.mul_le_mul (by omega) (by omega)
  omega
/-- bounds of a side of points that may be -/
theorem Eg.side_le {a1 a2 b1 b2 p1 p2 : Int} (ha : Eg.may a1 a2 = true) (hb : Eg.may b1 b2 = true) (hp : Eg.may p1 p2 = true) :
    (-1099511627776 ≤ (b1 - a1) * (p2 - a2) ∧ (b1 - a1) * (p2 - a2) ≤ 1099511627776) ∧ (-1099511627776 ≤ (b2 - a2) * (p1 - a1) ∧ (b2 - a2) * (p1 - a1) ≤ 1099511627776) := by
  have ha := Eg.may_iff.1 ha; have hb := Eg.may_iff.1 hb; have hp := Eg.may_iff.1 hp
  exact ⟨Eg.mul_le (by omega) (by omega) (by omega) (by omega), Eg.mul_le (by omega) (by omega) (by omega) (by omega)⟩
theorem Eg.side_turn (a1 a2 b1 b2 p1 p2 : Int) : Eg.side b1 b2 p1 p2 a1 a2 = Eg.side a1 a2 b1 b2 p1 p2 := by unfold Eg.side; grind
theorem Eg.side_back (a1 a2 b1 b2 p1 p2 : Int) : Eg.side b1 b2 a1 a2 p1 p2 = -Eg.side a1 a2 b1 b2 p1 p2 := by unfold Eg.side; grind
theorem Eg.side_sum (a1 a2 b1 b2 c1 c2 q1 q2 : Int) : Eg.side a1 a2 b1 b2 q1 q2 + Eg.side b1 b2 c1 c2 q1 q2 + Eg.side c1 c2 a1 a2 q1 q2 = Eg.side a1 a2 b1 b2 c1 c2 := by unfold Eg.side; grind
/-- an edge, or the one back, owns the line -/
theorem Eg.owns_back {a1 a2 b1 b2 : Int} (h : ¬(a1 = b1 ∧ a2 = b2)) : Eg.owns b1 b2 a1 a2 = !Eg.owns a1 a2 b1 b2 := by
  unfold Eg.owns
  by_cases e : a2 = b2
  · rw [if_pos e, if_pos e.symm, Bool.eq_iff_iff]; simp; omega
  · rw [if_neg e, if_neg (Ne.symm e), Bool.eq_iff_iff]; simp; omega

/-- the side of a point that was moved a little to the right, and much less downwards: its amount is above 0 -/
def Eg.S (a1 a2 b1 b2 q1 q2 : Int) : Int := Eg.side a1 a2 b1 b2 q1 q2 * 17592186044416 + (a2 - b2) * 4194304 + (b1 - a1)
theorem Eg.on_iff {a1 a2 b1 b2 q1 q2 : Int} (ha : Eg.may a1 a2 = true) (hb : Eg.may b1 b2 = true) : Eg.on a1 a2 b1 b2 q1 q2 = true ↔ 0 < Eg.S a1 a2 b1 b2 q1 q2 := by
  have ha := Eg.may_iff.1 ha; have hb := Eg.may_iff.1 hb
  unfold Eg.on Eg.S Eg.owns
  generalize Eg.side a1 a2 b1 b2 q1 q2 = s
  by_cases e : a2 = b2
  · rw [if_pos e]; simp; omega
  · rw [if_neg e]; simp; omega
theorem Eg.S_zero {a1 a2 b1 b2 q1 q2 : Int} (ha : Eg.may a1 a2 = true) (hb : Eg.may b1 b2 = true) (h : Eg.S a1 a2 b1 b2 q1 q2 = 0) : a1 = b1 ∧ a2 = b2 := by
  have ha := Eg.may_iff.1 ha; have hb := Eg.may_iff.1 hb
  unfold Eg.S at h
  generalize Eg.side a1 a2 b1 b2 q1 q2 = s at h
  omega
theorem Eg.S_back (a1 a2 b1 b2 q1 q2 : Int) : Eg.S b1 b2 a1 a2 q1 q2 = -Eg.S a1 a2 b1 b2 q1 q2 := by
  unfold Eg.S; rw [Eg.side_back]; omega
theorem Eg.S_sum (a1 a2 b1 b2 c1 c2 q1 q2 : Int) : Eg.S a1 a2 b1 b2 q1 q2 + Eg.S b1 b2 c1 c2 q1 q2 + Eg.S c1 c2 a1 a2 q1 q2 = Eg.side a1 a2 b1 b2 c1 c2 * 17592186044416 := by
  rw [← Eg.side_sum a1 a2 b1 b2 c1 c2 q1 q2]; unfold Eg.S; omega
/-- weights of a point within a triangle -/
theorem Eg.S_bary (a1 a2 b1 b2 c1 c2 p1 p2 q1 q2 : Int) :
    Eg.side b1 b2 c1 c2 p1 p2 * Eg.S a1 a2 p1 p2 q1 q2 + Eg.side c1 c2 a1 a2 p1 p2 * Eg.S b1 b2 p1 p2 q1 q2 + Eg.side a1 a2 b1 b2 p1 p2 * Eg.S c1 c2 p1 p2 q1 q2 = 0 := by
  unfold Eg.S Eg.side; grind
/-- one way round: q lies, seen from p, between a and b -/
theorem Eg.fan_one {A1 A2 A3 x y z α β γ : Int} (h1 : 0 < A1) (h2 : 0 < A2) (h3 : 0 < A3) (e1 : α + y - x = A1 * 17592186044416) (e2 : β + z - y = A2 * 17592186044416) (e3 : γ + x - z = A3 * 17592186044416)
    (e4 : A2 * x + A3 * y + A1 * z = 0) (hx : x < 0) (hy : 0 < y) (hα : 0 < α) : 0 < β ∧ 0 < γ := by
  have k1 : β * A1 = y * (A1 + A2 + A3) + α * A2 := by grind
  have k2 : γ * A1 = -x * (A1 + A2 + A3) + α * A3 := by grind
  have l1 : 0 < y * (A1 + A2 + A3) := Int.mul_pos hy (by omega)
  have l2 : 0 < -x * (A1 + A2 + A3) := Int.mul_pos (by omega) (by omega)
  have l3 : 0 < α * A2 := Int.mul_pos hα h2
  have l4 : 0 < α * A3 := Int.mul_pos hα h3
  have pos : ∀ u : Int, 0 < u * A1 → 0 < u := fun u hu => by
    by_cases h : 0 < u
    · exact h
    · have := Int.mul_nonneg (by omega : 0 ≤ -u) (by omega : 0 ≤ A1)
      rw [Int.neg_mul] at this
      omega
  exact ⟨pos β (by omega), pos γ (by omega)⟩
/-- not all three are of one sign -/
theorem Eg.not_all {A1 A2 A3 x y z : Int} (h1 : 0 < A1) (h2 : 0 < A2) (h3 : 0 < A3) (e4 : A2 * x + A3 * y + A1 * z = 0) : ¬(0 < x ∧ 0 < y ∧ 0 < z) ∧ ¬(x < 0 ∧ y < 0 ∧ z < 0) := by
  constructor
  · rintro ⟨a, b, c⟩
    have := Int.mul_pos h2 a; have := Int.mul_pos h3 b; have := Int.mul_pos h1 c
    omega
  · rintro ⟨a, b, c⟩
    have := Int.mul_neg_of_pos_of_neg h2 a; have := Int.mul_neg_of_pos_of_neg h3 b; have := Int.mul_neg_of_pos_of_neg h1 c
    omega
/-- a bool, as a number -/
def Eg.n (b : Bool) : Int := if b then 1 else 0
theorem Eg.n_le (b : Bool) : 0 ≤ Eg.n b ∧ Eg.n b ≤ 1 := by cases b <;> decide
theorem Eg.has_iff {a1 a2 b1 b2 c1 c2 q1 q2 : Int} (ha : Eg.may a1 a2 = true) (hb : Eg.may b1 b2 = true) (hc : Eg.may c1 c2 = true) (hs : 0 < Eg.side a1 a2 b1 b2 c1 c2) :
    Eg.has a1 a2 b1 b2 c1 c2 q1 q2 = true ↔ 0 < Eg.S a1 a2 b1 b2 q1 q2 ∧ 0 < Eg.S b1 b2 c1 c2 q1 q2 ∧ 0 < Eg.S c1 c2 a1 a2 q1 q2 := by
  unfold Eg.has
  rw [Bool.and_eq_true, Bool.and_eq_true, Bool.and_eq_true, Eg.on_iff ha hb, Eg.on_iff hb hc, Eg.on_iff hc ha, decide_eq_true_iff]
  exact ⟨fun h => ⟨h.1.1.2, h.1.2, h.2⟩, fun h => ⟨⟨⟨hs, h.1⟩, h.2.1⟩, h.2.2⟩⟩
theorem Eg.n_of {b : Bool} {P : Prop} [Decidable P] (h : b = true ↔ P) : Eg.n b = if P then 1 else 0 := by
  unfold Eg.n
  by_cases hp : P
  · rw [if_pos hp, if_pos (h.2 hp)]
  · rw [if_neg hp, if_neg (fun e => hp (h.1 e))]
/-- of the parts of a triangle just one has a pixel that the whole one has -/
theorem Eg.fan {a1 a2 b1 b2 c1 c2 p1 p2 q1 q2 : Int} (ha : Eg.may a1 a2 = true) (hb : Eg.may b1 b2 = true) (hc : Eg.may c1 c2 = true) (hp : Eg.may p1 p2 = true)
    (h1 : 0 < Eg.side a1 a2 b1 b2 p1 p2) (h2 : 0 < Eg.side b1 b2 c1 c2 p1 p2) (h3 : 0 < Eg.side c1 c2 a1 a2 p1 p2) :
    Eg.n (Eg.has a1 a2 b1 b2 p1 p2 q1 q2) + Eg.n (Eg.has b1 b2 c1 c2 p1 p2 q1 q2) + Eg.n (Eg.has c1 c2 a1 a2 p1 p2 q1 q2) = Eg.n (Eg.has a1 a2 b1 b2 c1 c2 q1 q2) := by
  have h0 : 0 < Eg.side a1 a2 b1 b2 c1 c2 := by have := Eg.side_sum a1 a2 b1 b2 c1 c2 p1 p2; omega
  rw [Eg.n_of (Eg.has_iff ha hb hp h1), Eg.n_of (Eg.has_iff hb hc hp h2), Eg.n_of (Eg.has_iff hc ha hp h3), Eg.n_of (Eg.has_iff ha hb hc h0)]
  have e1 := Eg.S_sum a1 a2 b1 b2 p1 p2 q1 q2
  have e2 := Eg.S_sum b1 b2 c1 c2 p1 p2 q1 q2
  have e3 := Eg.S_sum c1 c2 a1 a2 p1 p2 q1 q2
  have e4 := Eg.S_bary a1 a2 b1 b2 c1 c2 p1 p2 q1 q2
  have z1 : Eg.S a1 a2 p1 p2 q1 q2 ≠ 0 := fun e => by
    obtain ⟨rfl, rfl⟩ := Eg.S_zero ha hp e
    unfold Eg.side at h1; simp at h1
  have z2 : Eg.S b1 b2 p1 p2 q1 q2 ≠ 0 := fun e => by
    obtain ⟨rfl, rfl⟩ := Eg.S_zero hb hp e
    unfold Eg.side at h2; simp at h2
  have z3 : Eg.S c1 c2 p1 p2 q1 q2 ≠ 0 := fun e => by
    obtain ⟨rfl, rfl⟩ := Eg.S_zero hc hp e
    unfold Eg.side at h3; simp at h3
  rw [Eg.S_back a1 a2 p1 p2] at e1 ⊢
  rw [Eg.S_back b1 b2 p1 p2] at e2 ⊢
  rw [Eg.S_back c1 c2 p1 p2] at e3 ⊢
  generalize Eg.S a1 a2 p1 p2 q1 q2 = x at *
  generalize Eg.S b1 b2 p1 p2 q1 q2 = y at *
  generalize Eg.S c1 c2 p1 p2 q1 q2 = z at *
  generalize Eg.S a1 a2 b1 b2 q1 q2 = α at *
  generalize Eg.S b1 b2 c1 c2 q1 q2 = β at *
  generalize Eg.S c1 c2 a1 a2 q1 q2 = γ at *
  generalize Eg.side a1 a2 b1 b2 p1 p2 = A1 at *
  generalize Eg.side b1 b2 c1 c2 p1 p2 = A2 at *
  generalize Eg.side c1 c2 a1 a2 p1 p2 = A3 at *
  have n := Eg.not_all h1 h2 h3 e4
  have f1 := fun g1 g2 g3 => Eg.fan_one h1 h2 h3 (α := α) (β := β) (γ := γ) (by omega) (by omega) (by omega) e4 g1 g2 g3
  have f2 := fun g1 g2 g3 => Eg.fan_one h2 h3 h1 (x := y) (y := z) (z := x) (α := β) (β := γ) (γ := α) (by omega) (by omega) (by omega) (by omega) g1 g2 g3
  have f3 := fun g1 g2 g3 => Eg.fan_one h3 h1 h2 (x := z) (y := x) (z := y) (α := γ) (β := α) (γ := β) (by omega) (by omega) (by omega) (by omega) g1 g2 g3
  clear e1 e2 e3 e4
  by_cases gx : 0 < x <;> by_cases gy : 0 < y <;> by_cases gz : 0 < z
  · omega
  all_goals
    first
    | (exfalso; omega)
    | skip
  all_goals
    by_cases gα : 0 < α <;> by_cases gβ : 0 < β <;> by_cases gγ : 0 < γ <;> simp [gα, gβ, gγ] <;> omega
/-- of two triangles on both sides of an edge at most one has a pixel -/
theorem Eg.shared {a1 a2 b1 b2 c1 c2 d1 d2 q1 q2 : Int} (ha : Eg.may a1 a2 = true) (hb : Eg.may b1 b2 = true) :
    Eg.n (Eg.has a1 a2 b1 b2 c1 c2 q1 q2) + Eg.n (Eg.has b1 b2 a1 a2 d1 d2 q1 q2) ≤ 1 := by
  cases h : Eg.has a1 a2 b1 b2 c1 c2 q1 q2
  · have := Eg.n_le (Eg.has b1 b2 a1 a2 d1 d2 q1 q2); unfold Eg.n at *; simp at *; omega
  · cases h' : Eg.has b1 b2 a1 a2 d1 d2 q1 q2
    · decide
    · exfalso
      unfold Eg.has at h h'
      simp only [Bool.and_eq_true] at h h'
      have k1 := (Eg.on_iff ha hb).1 h.1.1.2
      have k2 := (Eg.on_iff hb ha).1 h'.1.1.2
      rw [Eg.S_back] at k2
      omega
/-- who stands on the edge between its ends is one's -/
theorem Eg.between {a1 a2 b1 b2 c1 c2 d1 d2 q1 q2 : Int} (h1 : 0 < Eg.side a1 a2 b1 b2 c1 c2) (h2 : 0 < Eg.side b1 b2 a1 a2 d1 d2) (h0 : Eg.side a1 a2 b1 b2 q1 q2 = 0)
    (g1 : 0 < Eg.side b1 b2 c1 c2 q1 q2) (g2 : 0 < Eg.side c1 c2 a1 a2 q1 q2) (g3 : 0 < Eg.side a1 a2 d1 d2 q1 q2) (g4 : 0 < Eg.side d1 d2 b1 b2 q1 q2) :
    Eg.n (Eg.has a1 a2 b1 b2 c1 c2 q1 q2) + Eg.n (Eg.has b1 b2 a1 a2 d1 d2 q1 q2) = 1 := by
  have hne : ¬(a1 = b1 ∧ a2 = b2) := fun e => by
    obtain ⟨rfl, rfl⟩ := e
    unfold Eg.side at h1; simp at h1
  have hb := Eg.owns_back hne
  have h3 := Eg.side_back a1 a2 b1 b2 q1 q2
  rw [h0] at h3
  unfold Eg.has Eg.on
  simp only [h1, h2, g1, g2, g3, g4, h0, h3, hb]
  cases Eg.owns a1 a2 b1 b2 <;> simp [Eg.n]
end Go.Proofs.YtankjlpanmmogaaGreat
