/-
  A region that draws its order, further: besides operations that answer the same and operations that make a new variable, operations that write one of the call's own blocks.
  ONE walk of the first kind serves every order, also where it may come behind a store.
-/
import Derived.Test.YtkmhnfbjapfbeaaMem
namespace Go.Proofs.Ytkmhnfbjapfbeaa.Rg2
open Go.RowKit

section
variable {σ : Type} {P : Program} {ops : Array Oper} {md : Region.Mode} {I : σ → World → Prop} {mk : Nat → σ → σ} {dem : Nat → Bool} {m : Nat}

def Same (P : Program) (ops : Array Oper) (I : σ → World → Prop) (o : Oper) (v : Value) (a : Act) : Prop :=
  (Region.wanted o (yielded ops a.tmps) = true ∧ ∀ s w, I s w → o.quietAt P a (I s) w v) ∨ (Region.wanted o (yielded ops a.tmps) = false ∧ v = undef)
def Makes (P : Program) (ops : Array Oper) (I : σ → World → Prop) (mk : Nat → σ → σ) (o : Oper) : Prop :=
  ∀ a : Act, Region.wanted o (yielded ops a.tmps) = true ∧ ∀ s w, I s w → ∃ w1, (execOp a.eval o).run P w = .ok (.value (.pointer (some ⟨w.heap.size, 0, none⟩))) w1 ∧ I (mk w.heap.size s) w1
/-- operation o writes a block -/
def Puts (P : Program) (ops : Array Oper) (I : σ → World → Prop) (o : Oper) (a : Act) (s s' : σ) : Prop :=
  Region.wanted o (yielded ops a.tmps) = true ∧ ∀ w, I s w → ∃ w1, (execOp a.eval o).run P w = .ok .skip w1 ∧ I s' w1
def Up (P : Program) (ops : Array Oper) (I : σ → World → Prop) (mk : Nat → σ → σ) (dem : Nat → Bool) (i : Nat) (K : σ → Act → Prop) (s : σ) (a : Act) : Prop :=
  ∃ o, ops[i]? = some o ∧ ((dem i = true ∧ Makes P ops I mk o ∧ ∀ b, K (mk b s) (a.put o.dst (.pointer (some ⟨b, 0, none⟩)))) ∨ (dem i = false ∧ ∃ v, Same P ops I o v a ∧ K s (a.put o.dst v)) ∨ (dem i = true ∧ ∃ s', Puts P ops I o a s s' ∧ K s' (a.put o.dst undef)))
def Any (P : Program) (md : Region.Mode) (ops : Array Oper) (I : σ → World → Prop) (mk : Nat → σ → σ) (dem : Nat → Bool) (m : Nat) (T : Array Bool → σ → Act → Prop) : Nat → Array Bool → σ → Act → Prop
  | 0, listed, s, a => (∀ j, j ∈ Region.ready md ops listed → m ≤ j) ∧ T listed s a
  | f + 1, listed, s, a => Region.ready md ops listed ≠ [] ∧ ∀ i, i ∈ Region.ready md ops listed → Up P ops I mk dem i (Any P md ops I mk dem m T f (listed.setIfInBounds i true)) s a

theorem wpAny_of {Q : Exit → Act → World → Prop} {T : Array Bool → σ → Act → Prop} {g : Nat} (hT : ∀ listed s a w, T listed s a → I s w → wpAny P md ops Q g listed a w) :
    ∀ (f : Nat) (listed : Array Bool) (s : σ) (a : Act) (w : World), Any P md ops I mk dem m T f listed s a → I s w → wpAny P md ops Q (f + g) listed a w
  | 0, listed, s, a, w, h, hI => by rw [Nat.zero_add]; exact hT _ _ _ _ h.2 hI
  | f + 1, listed, s, a, w, h, hI => by
    rw [show f + 1 + g = (f + g) + 1 by omega]
    refine ⟨fun h0 => absurd h0 h.1, fun i hi => ?_⟩
    obtain ⟨o, ho, hu⟩ := h.2 i hi
    unfold wpOp
    simp only [ho]
    rcases hu with ⟨_, hmk, hK⟩ | ⟨_, v, hy, hK⟩ | ⟨_, s', hp, hK⟩
    · obtain ⟨hw, hr⟩ := hmk a
      obtain ⟨w1, hrun, hI1⟩ := hr s w hI
      simp only [hw, if_true]
      refine .inl ?_
      unfold Oper.wp
      rw [hrun]
      exact wpAny_of hT f _ _ _ _ (hK _) hI1
    · rcases hy with ⟨hw, hq⟩ | ⟨hw, rfl⟩
      · simp only [hw, if_true]
        exact .inl (Oper.wp_of_quiet (C := I s) (K := fun a' => Any P md ops I mk dem m T f (listed.setIfInBounds i true) s a') hI (fun a' w' hw' hk => wpAny_of hT f _ _ _ _ hk hw') ⟨v, hq s, hK⟩)
      · simp only [hw, Bool.false_eq_true, if_false]
        exact wpAny_of hT f _ _ _ _ hK hI
    · obtain ⟨hw, hr⟩ := hp
      obtain ⟨w1, hrun, hI1⟩ := hr w hI
      simp only [hw, if_true]
      refine .inl ?_
      unfold Oper.wp
      rw [hrun]
      exact wpAny_of hT f _ _ _ _ hK hI1

theorem Same.of_same {o : Oper} {v : Value} {a a' : Act} (hy : Same P ops I o v a) (he : execOp a'.eval o = execOp a.eval o)
    (hw : Region.wanted o (yielded ops a'.tmps) = Region.wanted o (yielded ops a.tmps)) : Same P ops I o v a' := by
  unfold Same Oper.quietAt at *
  rw [he, hw]
  exact hy
theorem Puts.of_same {o : Oper} {s s' : σ} {a a' : Act} (hy : Puts P ops I o a s s') (he : execOp a'.eval o = execOp a.eval o)
    (hw : Region.wanted o (yielded ops a'.tmps) = Region.wanted o (yielded ops a.tmps)) : Puts P ops I o a' s s' := by
  unfold Puts at *
  rw [he, hw]
  exact hy

theorem Up.mono {i : Nat} {K K' : σ → Act → Prop} {s : σ} {a : Act} (h : ∀ s a, K s a → K' s a) (hu : Up P ops I mk dem i K s a) : Up P ops I mk dem i K' s a := by
  obtain ⟨o, ho, hu⟩ := hu
  refine ⟨o, ho, ?_⟩
  rcases hu with ⟨h1, h2, h3⟩ | ⟨h1, v, h2, h3⟩ | ⟨h1, s', h2, h3⟩
  · exact .inl ⟨h1, h2, fun b => h _ _ (h3 b)⟩
  · exact .inr (.inl ⟨h1, v, h2, h _ _ h3⟩)
  · exact .inr (.inr ⟨h1, s', h2, h _ _ h3⟩)

/-- an operation apart from one that answers the same: whether that one's answer lies in its slot already makes no difference -/
theorem Up.past {j : Nat} {oi oj : Oper} {v : Value} (hj : ops[j]? = some oj) (hap : oi.apart ops oj = true)
    (hsi : ∀ cs b, oi.op ≠ .select cs b) (hsj : ∀ cs b, oj.op ≠ .select cs b) {K : σ → Act → Prop} {s : σ} {a : Act}
    (hy : Same P ops I oi v a) (h : Up P ops I mk dem j K s (a.put oi.dst v)) :
    Up P ops I mk dem j (fun s a' => Same P ops I oi v a' ∧ K s (a'.put oi.dst v)) s a := by
  obtain ⟨k1, k2, k3⟩ := Oper.apart_spec hap
  have keep : ∀ u, Same P ops I oi v (a.put oj.dst u) := fun u => hy.of_same (execOp_put oi hsi a oj.dst u k3) (wanted_put oi a oj.dst u k3)
  obtain ⟨o, ho, hu⟩ := h
  obtain rfl : o = oj := Option.some.inj (ho.symm.trans hj)
  refine ⟨o, ho, ?_⟩
  rcases hu with ⟨h1, h2, h3⟩ | ⟨h1, u, h2, h3⟩ | ⟨h1, s', h2, h3⟩
  · refine .inl ⟨h1, h2, fun b => ⟨keep _, ?_⟩⟩
    rw [← Act.put_comm a v _ k2]
    exact h3 b
  · refine .inr (.inl ⟨h1, u, ?_, keep u, ?_⟩)
    · exact h2.of_same (execOp_put o hsj a oi.dst v k1).symm (wanted_put o a oi.dst v k1).symm
    · rw [← Act.put_comm a v u k2]
      exact h3
  · refine .inr (.inr ⟨h1, s', ?_, keep undef, ?_⟩)
    · exact h2.of_same (execOp_put o hsj a oi.dst v k1).symm (wanted_put o a oi.dst v k1).symm
    · rw [← Act.put_comm a v undef k2]
      exact h3

/-- what answers the same may be taken first -/
theorem first {T : Array Bool → σ → Act → Prop} {i : Nat} {oi : Oper} {v : Value} (hi : ops[i]? = some oi) (hd : dem i = false)
    (hsel : ∀ (j : Nat) (o : Oper) cs b, ops[j]? = some o → o.op ≠ .select cs b) (hwait : Rg.waitB md ops m i = true) :
    ∀ (f : Nat) (listed : Array Bool) (s : σ) (a : Act), Rg.Closed md ops listed →
      (∀ j oj, ops[j]? = some oj → j ≠ i → listed.getD j true = false → (∀ e ∈ oj.after, Region.binds md e = true → e.on ≠ i) → oi.apart ops oj = true) →
      i ∈ Region.ready md ops listed → Same P ops I oi v a →
      Any P md ops I mk dem m T f (listed.setIfInBounds i true) s (a.put oi.dst v) → Any P md ops I mk dem m T (f + 1) listed s a := by
  intro f
  induction f with
  | zero =>
    intro listed s a hc _ hr hy H
    refine ⟨fun h => (by rw [h] at hr; cases hr), fun j hj => ?_⟩
    by_cases hji : j = i
    · subst hji; exact ⟨oi, hi, .inr (.inl ⟨hd, v, hy, H⟩)⟩
    · exfalso
      have hm := H.1 j (ready_mono hj hji)
      obtain ⟨_, oj, hoj, _⟩ := mem_ready.1 hj
      exact Rg.not_listed (mem_ready.1 hr).1 (Rg.reach_ready hc 6 hj (Rg.waitB_spec hwait hm (Array.getElem?_eq_some_iff.1 hoj).1))
  | succ f ih =>
    intro listed s a hc hfree hr hy H
    refine ⟨fun h => (by rw [h] at hr; cases hr), fun j hj => ?_⟩
    by_cases hji : j = i
    · subst hji; exact ⟨oi, hi, .inr (.inl ⟨hd, v, hy, H⟩)⟩
    · have h1 := H.2 j (ready_mono hj hji)
      obtain ⟨hjun, oj, hoj, hall⟩ := mem_ready.1 hj
      have hnot : ∀ e ∈ oj.after, Region.binds md e = true → e.on ≠ i := fun e he hb heq => by
        have h2 := hall e he hb
        rw [heq] at h2
        exact Rg.not_listed (mem_ready.1 hr).1 h2
      have h2 := Up.past hoj (hfree j oj hoj hji hjun hnot) (fun cs b => hsel i oi cs b hi) (fun cs b => hsel j oj cs b hoj) hy h1
      refine Up.mono (fun s' a' h3 => ih (listed.setIfInBounds j true) s' a' (hc.set hj) ?_ (ready_mono hr (Ne.symm hji)) h3.1 ?_) h2
      · intro k ok hk hki hun hno
        refine hfree k ok hk hki ?_ hno
        by_cases hjk : j = k
        · subst hjk; exact hjun
        · rw [getD_set_ne true hjk] at hun; exact hun
      · rw [Array.setIfInBounds_comm _ _ hji]
        exact h3.2

/-- one step of the walk: number i is taken first; all that is asked of the region is reckoned -/
theorem take {T : Array Bool → σ → Act → Prop} {f : Nat} {listed : Array Bool} {s : σ} {a : Act} (i : Nat) {oi : Oper} {v : Value} (hi : ops[i]? = some oi) (hd : dem i = false)
    (hs : Region.noSelect ops = true) (hw : Rg.waitB md ops m i = true) (hc : Rg.closedB md ops listed = true) (hf : Region.free md ops listed i = true) (hr : (Region.ready md ops listed).contains i = true)
    (hy : Same P ops I oi v a) (h : Any P md ops I mk dem m T f (listed.setIfInBounds i true) s (a.put oi.dst v)) : Any P md ops I mk dem m T (f + 1) listed s a :=
  first hi hd (Region.noSelect_spec hs) hw f listed s a (Rg.closedB_spec hc) (Region.free_spec hi hf) (by simpa using hr) hy h

/-- whatever is ready -/
theorem step {T : Array Bool → σ → Act → Prop} {f : Nat} {listed : Array Bool} {s : σ} {a : Act} {rs : List Nat} (hr : Region.ready md ops listed = rs) (hne : rs ≠ [])
    (h : ∀ i, i ∈ rs → Up P ops I mk dem i (Any P md ops I mk dem m T f (listed.setIfInBounds i true)) s a) : Any P md ops I mk dem m T (f + 1) listed s a :=
  ⟨fun h0 => hne (hr ▸ h0), hr ▸ h⟩
theorem up_made {i : Nat} {o : Oper} {K : σ → Act → Prop} {s : σ} {a : Act} (ho : ops[i]? = some o) (hd : dem i = true) (hm : Makes P ops I mk o)
    (h : ∀ b, K (mk b s) (a.put o.dst (.pointer (some ⟨b, 0, none⟩)))) : Up P ops I mk dem i K s a := ⟨o, ho, .inl ⟨hd, hm, h⟩⟩
theorem up_put {i : Nat} {o : Oper} {K : σ → Act → Prop} {s s' : σ} {a : Act} (ho : ops[i]? = some o) (hd : dem i = true) (hp : Puts P ops I o a s s')
    (h : K s' (a.put o.dst undef)) : Up P ops I mk dem i K s a := ⟨o, ho, .inr (.inr ⟨hd, s', hp, h⟩)⟩
/-- one new variable, alone -/
theorem made1 {T : Array Bool → σ → Act → Prop} {f : Nat} {listed : Array Bool} {s : σ} {a : Act} (i : Nat) {o : Oper} (hr : Region.ready md ops listed = [i]) (ho : ops[i]? = some o) (hd : dem i = true) (hm : Makes P ops I mk o)
    (h : ∀ b, Any P md ops I mk dem m T f (listed.setIfInBounds i true) (mk b s) (a.put o.dst (.pointer (some ⟨b, 0, none⟩)))) : Any P md ops I mk dem m T (f + 1) listed s a :=
  step hr (by simp) fun j hj => by
    obtain rfl : j = i := by simpa using hj
    exact up_made ho hd hm h
/-- one store, alone -/
theorem put1 {T : Array Bool → σ → Act → Prop} {f : Nat} {listed : Array Bool} {s s' : σ} {a : Act} (i : Nat) {o : Oper} (hr : Region.ready md ops listed = [i]) (ho : ops[i]? = some o) (hd : dem i = true) (hp : Puts P ops I o a s s')
    (h : Any P md ops I mk dem m T f (listed.setIfInBounds i true) s' (a.put o.dst undef)) : Any P md ops I mk dem m T (f + 1) listed s a :=
  step hr (by simp) fun j hj => by
    obtain rfl : j = i := by simpa using hj
    exact up_put ho hd hp h
theorem done {T : Array Bool → σ → Act → Prop} {listed : Array Bool} {s : σ} {a : Act} {rs : List Nat} (hr : Region.ready md ops listed = rs) (hm : (rs.all fun j => decide (m ≤ j)) = true) (h : T listed s a) : Any P md ops I mk dem m T 0 listed s a :=
  ⟨fun j hj => by rw [hr] at hj; simpa using List.all_eq_true.1 hm j hj, h⟩

/-- the region -/
theorem region {id : Nat} {Q : Exit → Act → World → Prop} {a : Act} {w : World} {T : Array Bool → σ → Act → Prop} {g : Nat} (s : σ) (hm : P.follows .mixedOrders = true) (hI : I s w.drew) (hsz : m + g = ops.size)
    (hT : ∀ listed s a w, T listed s a → I s w → wpAny P .any ops Q g listed a w)
    (h : Any P .any ops I mk dem m T m (Array.replicate ops.size false) s a) : (Code.region id ops true).wp P Q a w := by
  refine wp_region_any hm ?_
  rw [← hsz]
  have := wpAny_of (Q := Q) hT m (Array.replicate ops.size false) s a w.drew h hI
  rw [← hsz] at this
  exact this
end

/-- the call's own blocks that the region made, ahead of those that it had -/
def Io (w : World) (ms : List (Nat × List Value)) (s : List (Nat × List Value)) (W : World) : Prop := Ow w W (s ++ ms)
theorem Io.call {w W W' : World} {s ms : List (Nat × List Value)} (h : Io w ms s W) (k : Kp W.heap.size W W') : Io w ms s W' := Ow.call h k
theorem Io.rc {w W : World} {s ms : List (Nat × List Value)} (h : Io w ms s W) {b : Nat} {vs : List Value} (hm : (b, vs) ∈ ms) : Rc W b vs := Ow.mem h (List.mem_append_right _ hm)
/-- a whole struct or array of the region's own is written -/
theorem puts_row {ty : TypeId} {n : Nat} (ht : Ty ty n) {ops : Array Oper} {w : World} {ms s : List (Nat × List Value)} {o : Oper} {a : Act} (i : Nat) (us : List Value) (hgd : Region.wanted o (yielded ops a.tmps) = true)
    (x y : Operand) (ho : o.op = .store ty x y) (b : Nat) (hx : a.eval x = .pointer (some ⟨b, 0, none⟩)) (hy : a.eval y = .agg us.toArray) (vs : List Value) (hi : s[i]? = some (b, vs)) (hl : vs.length = n) (hu : us.length = n) (h1 : us.all (·.oneCell') = true) :
    Puts Try.prog ops (Io w ms) o a s (s.set i (b, us)) := by
  refine ⟨hgd, fun W hI => ⟨W.setCells b 0 us, ?_, ?_⟩⟩
  · have hlt : i < s.length := (List.getElem?_eq_some_iff.1 hi).1
    have hR : Rc W b vs := Ow.at hI i (by rw [List.getElem?_append_left hlt]; exact hi)
    unfold execOp
    simp only [ho, hx, hy, Instr.storeAt, Instr.sureAddr, Sem.run_bind, Sem.run_pure, Result.andThen_ok, run_storeVar_mid W b 0 ty us.toArray (by simpa using hR.there (n := us.length) (by omega)) (by simpa [hu] using ht.size) (by simpa using h1)]
  · have hlt : i < s.length := (List.getElem?_eq_some_iff.1 hi).1
    have h2 := Ow.put hI i (us := us) (by rw [List.getElem?_append_left hlt]; exact hi) (by omega)
    rw [List.set_append_left _ _ hlt] at h2
    exact h2
/-- a struct of four ints is made -/
theorem makes_four {ty : TypeId} {w : World} {ms : List (Nat × List Value)} {ops : Array Oper} {o : Oper} (hgd : ∀ a : Act, Region.wanted o (yielded ops a.tmps) = true)
    (hrun : ∀ (a : Act) (W : World), (execOp a.eval o).run Try.prog W = .ok (.value (.pointer (some ⟨W.heap.size, 0, none⟩))) (W.alloc (.cells #[.int .i64 0, .int .i64 0, .int .i64 0, .int .i64 0] ty))) :
    Makes Try.prog ops (Io w ms) (fun b s => (b, [.int .i64 0, .int .i64 0, .int .i64 0, .int .i64 0]) :: s) o :=
  fun a => ⟨hgd a, fun _ W hI => ⟨_, hrun a W, Ow.new hI (.int .i64 0) [.int .i64 0, .int .i64 0, .int .i64 0] ty⟩⟩
end Go.Proofs.Ytkmhnfbjapfbeaa.Rg2
