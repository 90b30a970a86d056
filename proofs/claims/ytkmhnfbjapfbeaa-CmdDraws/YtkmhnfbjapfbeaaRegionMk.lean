/-
  A region that draws its order: operations that answer the same whatever else came up (loads of what stands, calls that only make memory) beside operations that make a new variable.
  ONE walk of the first kind serves every order; of the second kind all that is known is that each has a block of its own.
-/
import Derived.Deep.Quiet
import Derived.Below
namespace Go.Proofs.Ytkmhnfbjapfbeaa.Rg
open Go.RowKit

section
variable {P : Program} {ops : Array Oper} {md : Region.Mode} {I : List Nat → World → Prop} {dem : Nat → Bool} {m : Nat}

/-- in state a, whatever was made so far, operation o leaves v in its slot, and a world of the same kind -/
def Same (P : Program) (ops : Array Oper) (I : List Nat → World → Prop) (o : Oper) (v : Value) (a : Act) : Prop :=
  (Region.wanted o (yielded ops a.tmps) = true ∧ ∀ bs w, I bs w → o.quietAt P a (I bs) w v) ∨ (Region.wanted o (yielded ops a.tmps) = false ∧ v = undef)
/-- operation o makes a new block -/
def Makes (P : Program) (ops : Array Oper) (I : List Nat → World → Prop) (o : Oper) : Prop :=
  ∀ a : Act, Region.wanted o (yielded ops a.tmps) = true ∧ ∀ bs w, I bs w → ∃ w1, (execOp a.eval o).run P w = .ok (.value (.pointer (some ⟨w.heap.size, 0, none⟩))) w1 ∧ I (w.heap.size :: bs) w1 ∧ w.heap.size ∉ bs
/-- operation number i comes up -/
def Up (P : Program) (ops : Array Oper) (I : List Nat → World → Prop) (dem : Nat → Bool) (i : Nat) (K : List Nat → Act → Prop) (bs : List Nat) (a : Act) : Prop :=
  ∃ o, ops[i]? = some o ∧ (dem i = true ∧ Makes P ops I o ∧ (∀ b, b ∉ bs → K (b :: bs) (a.put o.dst (.pointer (some ⟨b, 0, none⟩)))) ∨ dem i = false ∧ ∃ v, Same P ops I o v a ∧ K bs (a.put o.dst v))
/-- whatever comes up next, f times -/
def Any (P : Program) (md : Region.Mode) (ops : Array Oper) (I : List Nat → World → Prop) (dem : Nat → Bool) (m : Nat) (T : Array Bool → List Nat → Act → Prop) : Nat → Array Bool → List Nat → Act → Prop
  | 0, listed, bs, a => (∀ j, j ∈ Region.ready md ops listed → m ≤ j) ∧ T listed bs a
  | f + 1, listed, bs, a => Region.ready md ops listed ≠ [] ∧ ∀ i, i ∈ Region.ready md ops listed → Up P ops I dem i (Any P md ops I dem m T f (listed.setIfInBounds i true)) bs a

theorem wpAny_of {Q : Exit → Act → World → Prop} {T : Array Bool → List Nat → Act → Prop} {g : Nat} (hT : ∀ listed bs a w, T listed bs a → I bs w → wpAny P md ops Q g listed a w) :
    ∀ (f : Nat) (listed : Array Bool) (bs : List Nat) (a : Act) (w : World), Any P md ops I dem m T f listed bs a → I bs w → wpAny P md ops Q (f + g) listed a w
  | 0, listed, bs, a, w, h, hI => by rw [Nat.zero_add]; exact hT _ _ _ _ h.2 hI
  | f + 1, listed, bs, a, w, h, hI => by
    rw [show f + 1 + g = (f + g) + 1 by omega]
    refine ⟨fun h0 => absurd h0 h.1, fun i hi => ?_⟩
    obtain ⟨o, ho, hu⟩ := h.2 i hi
    unfold wpOp
    simp only [ho]
    rcases hu with ⟨_, hmk, hK⟩ | ⟨_, v, hy, hK⟩
    · obtain ⟨hw, hr⟩ := hmk a
      obtain ⟨w1, hrun, hI1, hn⟩ := hr bs w hI
      simp only [hw, if_true]
      refine .inl ?_
      unfold Oper.wp
      rw [hrun]
      exact wpAny_of hT f _ _ _ _ (hK _ hn) hI1
    · rcases hy with ⟨hw, hq⟩ | ⟨hw, rfl⟩
      · simp only [hw, if_true]
        exact .inl (Oper.wp_of_quiet (C := I bs) (K := fun a' => Any P md ops I dem m T f (listed.setIfInBounds i true) bs a') hI (fun a' w' hw' hk => wpAny_of hT f _ _ _ _ hk hw') ⟨v, hq bs, hK⟩)
      · simp only [hw, Bool.false_eq_true, if_false]
        exact wpAny_of hT f _ _ _ _ hK hI

theorem Same.of_same {o : Oper} {v : Value} {a a' : Act} (hy : Same P ops I o v a) (he : execOp a'.eval o = execOp a.eval o)
    (hw : Region.wanted o (yielded ops a'.tmps) = Region.wanted o (yielded ops a.tmps)) : Same P ops I o v a' := by
  unfold Same Oper.quietAt at *
  rw [he, hw]
  exact hy

theorem Up.mono {i : Nat} {K K' : List Nat → Act → Prop} {bs : List Nat} {a : Act} (h : ∀ bs a, K bs a → K' bs a) (hu : Up P ops I dem i K bs a) : Up P ops I dem i K' bs a := by
  obtain ⟨o, ho, hu⟩ := hu
  refine ⟨o, ho, ?_⟩
  rcases hu with ⟨h1, h2, h3⟩ | ⟨h1, v, h2, h3⟩
  · exact .inl ⟨h1, h2, fun b hb => h _ _ (h3 b hb)⟩
  · exact .inr ⟨h1, v, h2, h _ _ h3⟩

/-- an operation apart from one that answers the same: whether that one's answer lies in its slot already makes no difference -/
theorem Up.past {j : Nat} {oi oj : Oper} {v : Value} (hj : ops[j]? = some oj) (hap : oi.apart ops oj = true)
    (hsi : ∀ cs b, oi.op ≠ .select cs b) (hsj : ∀ cs b, oj.op ≠ .select cs b) {K : List Nat → Act → Prop} {bs : List Nat} {a : Act}
    (hy : Same P ops I oi v a) (h : Up P ops I dem j K bs (a.put oi.dst v)) :
    Up P ops I dem j (fun bs a' => Same P ops I oi v a' ∧ K bs (a'.put oi.dst v)) bs a := by
  obtain ⟨k1, k2, k3⟩ := Oper.apart_spec hap
  have keep : ∀ u, Same P ops I oi v (a.put oj.dst u) := fun u => hy.of_same (execOp_put oi hsi a oj.dst u k3) (wanted_put oi a oj.dst u k3)
  obtain ⟨o, ho, hu⟩ := h
  obtain rfl : o = oj := Option.some.inj (ho.symm.trans hj)
  refine ⟨o, ho, ?_⟩
  rcases hu with ⟨h1, h2, h3⟩ | ⟨h1, u, h2, h3⟩
  · refine .inl ⟨h1, h2, fun b hb => ⟨keep _, ?_⟩⟩
    rw [← Act.put_comm a v _ k2]
    exact h3 b hb
  · refine .inr ⟨h1, u, ?_, keep u, ?_⟩
    · exact h2.of_same (execOp_put o hsj a oi.dst v k1).symm (wanted_put o a oi.dst v k1).symm
    · rw [← Act.put_comm a v u k2]
      exact h3

theorem not_listed {i : Nat} {listed : Array Bool} (h0 : listed.getD i true = false) (h1 : listed.getD i false = true) : False := by
  rcases Nat.lt_or_ge i listed.size with h | h
  · simp [h] at h0 h1; rw [h0] at h1; cases h1
  · simp [Array.getElem?_eq_none h] at h1

/-- what a listed operation waits for is listed -/
def Closed (md : Region.Mode) (ops : Array Oper) (listed : Array Bool) : Prop :=
  ∀ j oj, ops[j]? = some oj → listed.getD j false = true → ∀ e, e ∈ oj.after → Region.binds md e = true → listed.getD e.on false = true
theorem Closed.set {listed : Array Bool} {i : Nat} (h : Closed md ops listed) (hi : i ∈ Region.ready md ops listed) : Closed md ops (listed.setIfInBounds i true) := by
  intro j oj hj hl e he hb
  obtain ⟨_, oi, hoi, hall⟩ := mem_ready.1 hi
  by_cases hij : i = j
  · subst hij
    obtain rfl : oj = oi := Option.some.inj (hj.symm.trans hoi)
    exact getD_set_true (hall e he hb)
  · rw [getD_set_ne false hij] at hl
    exact getD_set_true (h j oj hj hl e he hb)
/-- number t waits for number i, by way of at most f others -/
def reachB (md : Region.Mode) (ops : Array Oper) (i : Nat) : Nat → Nat → Bool
  | 0, _ => false
  | f + 1, t => match ops[t]? with
    | some ot => ot.after.any fun e => Region.binds md e && (e.on == i || reachB md ops i f e.on)
    | none => false
theorem reach_listed {listed : Array Bool} {i : Nat} (hc : Closed md ops listed) : ∀ (f t : Nat), listed.getD t false = true → reachB md ops i f t = true → listed.getD i false = true
  | 0, t, _, h => by simp [reachB] at h
  | f + 1, t, ht, h => by
    unfold reachB at h
    split at h
    · rename_i ot hot
      obtain ⟨e, he, hb⟩ := Array.any_eq_true'.1 h
      simp only [Bool.and_eq_true, Bool.or_eq_true, beq_iff_eq] at hb
      have h1 := hc t ot hot ht e he hb.1
      rcases hb.2 with h2 | h2
      · rw [← h2]; exact h1
      · exact reach_listed hc f e.on h1 h2
    · cases h
theorem reach_ready {listed : Array Bool} {i t : Nat} (hc : Closed md ops listed) (f : Nat) (ht : t ∈ Region.ready md ops listed) (h : reachB md ops i f t = true) : listed.getD i false = true := by
  obtain ⟨_, ot, hot, hall⟩ := mem_ready.1 ht
  cases f with
  | zero => simp [reachB] at h
  | succ f =>
    unfold reachB at h
    simp only [hot] at h
    obtain ⟨e, he, hb⟩ := Array.any_eq_true'.1 h
    simp only [Bool.and_eq_true, Bool.or_eq_true, beq_iff_eq] at hb
    have h1 := hall e he hb.1
    rcases hb.2 with h2 | h2
    · rw [← h2]; exact h1
    · exact reach_listed hc f e.on h1 h2

/-- every operation from m on waits for number i -/
def waitB (md : Region.Mode) (ops : Array Oper) (m i : Nat) : Bool :=
  (List.range ops.size).all fun t => decide (t < m) || reachB md ops i 6 t
theorem waitB_spec {i t : Nat} (h : waitB md ops m i = true) (ht : m ≤ t) (hs : t < ops.size) : reachB md ops i 6 t = true := by
  have h1 := List.all_eq_true.1 h t (List.mem_range.2 hs)
  simp only [Bool.or_eq_true, decide_eq_true_eq] at h1
  rcases h1 with h1 | h1
  · omega
  · exact h1

/-- what answers the same may be taken first -/
theorem first {T : Array Bool → List Nat → Act → Prop} {i : Nat} {oi : Oper} {v : Value} (hi : ops[i]? = some oi) (hd : dem i = false)
    (hsel : ∀ (j : Nat) (o : Oper) cs b, ops[j]? = some o → o.op ≠ .select cs b) (hwait : waitB md ops m i = true) :
    ∀ (f : Nat) (listed : Array Bool) (bs : List Nat) (a : Act), Closed md ops listed →
      (∀ j oj, ops[j]? = some oj → j ≠ i → listed.getD j true = false → (∀ e ∈ oj.after, Region.binds md e = true → e.on ≠ i) → oi.apart ops oj = true) →
      i ∈ Region.ready md ops listed → Same P ops I oi v a →
      Any P md ops I dem m T f (listed.setIfInBounds i true) bs (a.put oi.dst v) → Any P md ops I dem m T (f + 1) listed bs a := by
  intro f
  induction f with
  | zero =>
    intro listed bs a hc _ hr hy H
    refine ⟨fun h => (by rw [h] at hr; cases hr), fun j hj => ?_⟩
    by_cases hji : j = i
    · subst hji; exact ⟨oi, hi, .inr ⟨hd, v, hy, H⟩⟩
    · exfalso
      have hm := H.1 j (ready_mono hj hji)
      obtain ⟨_, oj, hoj, _⟩ := mem_ready.1 hj
      exact not_listed (mem_ready.1 hr).1 (reach_ready hc 6 hj (waitB_spec hwait hm (Array.getElem?_eq_some_iff.1 hoj).1))
  | succ f ih =>
    intro listed bs a hc hfree hr hy H
    refine ⟨fun h => (by rw [h] at hr; cases hr), fun j hj => ?_⟩
    by_cases hji : j = i
    · subst hji; exact ⟨oi, hi, .inr ⟨hd, v, hy, H⟩⟩
    · have h1 := H.2 j (ready_mono hj hji)
      obtain ⟨hjun, oj, hoj, hall⟩ := mem_ready.1 hj
      have hnot : ∀ e ∈ oj.after, Region.binds md e = true → e.on ≠ i := fun e he hb heq => by
        have h2 := hall e he hb
        rw [heq] at h2
        exact not_listed (mem_ready.1 hr).1 h2
      have h2 := Up.past hoj (hfree j oj hoj hji hjun hnot) (fun cs b => hsel i oi cs b hi) (fun cs b => hsel j oj cs b hoj) hy h1
      refine Up.mono (fun bs' a' h3 => ih (listed.setIfInBounds j true) bs' a' (hc.set hj) ?_ (ready_mono hr (Ne.symm hji)) h3.1 ?_) h2
      · intro k ok hk hki hun hno
        refine hfree k ok hk hki ?_ hno
        by_cases hjk : j = k
        · subst hjk; exact hjun
        · rw [getD_set_ne true hjk] at hun; exact hun
      · rw [Array.setIfInBounds_comm _ _ hji]
        exact h3.2

/-- what has come up hangs together: reckoned -/
def closedB (md : Region.Mode) (ops : Array Oper) (listed : Array Bool) : Bool :=
  (List.range ops.size).all fun j => !listed.getD j false || match ops[j]? with
    | some oj => oj.after.all fun e => !Region.binds md e || listed.getD e.on false
    | none => true
theorem closedB_spec {listed : Array Bool} (h : closedB md ops listed = true) : Closed md ops listed := by
  intro j oj hj hl e he hb
  have h1 := List.all_eq_true.1 h j (List.mem_range.2 (Array.getElem?_eq_some_iff.1 hj).1)
  simp only [hl, hj, Bool.not_true, Bool.false_or] at h1
  have h2 := Array.all_eq_true'.1 h1 e he
  simpa [hb] using h2

/-- one step of the walk: number i is taken first; all that is asked of the region is reckoned -/
theorem take {T : Array Bool → List Nat → Act → Prop} {f : Nat} {listed : Array Bool} {bs : List Nat} {a : Act} (i : Nat) {oi : Oper} {v : Value} (hi : ops[i]? = some oi) (hd : dem i = false)
    (hs : Region.noSelect ops = true) (hw : waitB md ops m i = true) (hc : closedB md ops listed = true) (hf : Region.free md ops listed i = true) (hr : (Region.ready md ops listed).contains i = true)
    (hy : Same P ops I oi v a) (h : Any P md ops I dem m T f (listed.setIfInBounds i true) bs (a.put oi.dst v)) : Any P md ops I dem m T (f + 1) listed bs a :=
  first hi hd (Region.noSelect_spec hs) hw f listed bs a (closedB_spec hc) (Region.free_spec hi hf) (by simpa using hr) hy h

/-- a new variable -/
theorem made {T : Array Bool → List Nat → Act → Prop} {f : Nat} {listed : Array Bool} {bs : List Nat} {a : Act} {rs : List Nat} (hr : Region.ready md ops listed = rs) (hne : rs ≠ [])
    (h : ∀ i, i ∈ rs → Up P ops I dem i (Any P md ops I dem m T f (listed.setIfInBounds i true)) bs a) : Any P md ops I dem m T (f + 1) listed bs a :=
  ⟨fun h0 => hne (hr ▸ h0), hr ▸ h⟩
theorem up_made {i : Nat} {o : Oper} {K : List Nat → Act → Prop} {bs : List Nat} {a : Act} (ho : ops[i]? = some o) (hd : dem i = true) (hm : Makes P ops I o)
    (h : ∀ b, b ∉ bs → K (b :: bs) (a.put o.dst (.pointer (some ⟨b, 0, none⟩)))) : Up P ops I dem i K bs a := ⟨o, ho, .inl ⟨hd, hm, h⟩⟩

/-- only what waits for all of these is left -/
theorem done {T : Array Bool → List Nat → Act → Prop} {listed : Array Bool} {bs : List Nat} {a : Act} {rs : List Nat} (hr : Region.ready md ops listed = rs) (hm : (rs.all fun j => decide (m ≤ j)) = true) (h : T listed bs a) : Any P md ops I dem m T 0 listed bs a :=
  ⟨fun j hj => by rw [hr] at hj; simpa using List.all_eq_true.1 hm j hj, h⟩

/-- the region -/
theorem region {id : Nat} {Q : Exit → Act → World → Prop} {a : Act} {w : World} {T : Array Bool → List Nat → Act → Prop} {g : Nat} (hm : P.follows .mixedOrders = true) (hI : I [] w.drew) (hsz : m + g = ops.size)
    (hT : ∀ listed bs a w, T listed bs a → I bs w → wpAny P .any ops Q g listed a w)
    (h : Any P .any ops I dem m T m (Array.replicate ops.size false) [] a) : (Code.region id ops true).wp P Q a w := by
  refine wp_region_any hm ?_
  rw [← hsz]
  have := wpAny_of (Q := Q) hT m (Array.replicate ops.size false) [] a w.drew h hI
  rw [← hsz] at this
  exact this
end
end Go.Proofs.Ytkmhnfbjapfbeaa.Rg
