/-
  A region that draws its order, further: operations that answer the same, operations that make a new variable, and operations that write a variable which the region made.
  What the region made is told by the number of the operation that made it: so operations of the second kind may be taken first, and ONE walk serves every order ('a, b, c, d := l[0], l[1], l[2], l[3]' of structs).
-/
import Derived.Test.YtankjlpanmmogaaGreatJRegionOw
namespace Go.Proofs.YtankjlpanmmogaaGreat.Rg3
set_option maxRecDepth 100000
open Go.RowKit

/-- what the region made, by the operation that made it -/
abbrev Sg := Nat → Option (Nat × List Value)
def mk (z : List Value) (i b : Nat) (s : Sg) : Sg := fun k => if k = i then some (b, z) else s k
def pu (r : Nat → Nat) (u : Nat → List Value) (j : Nat) (s : Sg) : Sg := fun k => if k = r j then (s k).map (fun q => (q.1, u j)) else s k
theorem mk_comm {z : List Value} {i j b c : Nat} {s : Sg} (h : j ≠ i) : mk z j c (mk z i b s) = mk z i b (mk z j c s) := by
  funext k; unfold mk
  by_cases h1 : k = j
  · subst h1; simp [h]
  · by_cases h2 : k = i
    · subst h2; simp [h1]
    · simp [h1, h2]
theorem pu_mk {z : List Value} {r : Nat → Nat} {u : Nat → List Value} {i j b : Nat} {s : Sg} (h : r j ≠ i) : pu r u j (mk z i b s) = mk z i b (pu r u j s) := by
  funext k; unfold mk pu
  by_cases h1 : k = r j
  · subst h1; simp [h]
  · by_cases h2 : k = i
    · subst h2; simp [h1]
    · simp [h1, h2]

section
variable {P : Program} {ops : Array Oper} {md : Region.Mode} {I : Sg → World → Prop} {z : List Value} {r : Nat → Nat} {u : Nat → List Value} {ex : Nat → Nat → Sem Next} {mkB puB : Nat → Bool}

/-- operation o makes a new variable -/
def Makes (P : Program) (ops : Array Oper) (I : Sg → World → Prop) (z : List Value) (mkB : Nat → Bool) : Prop :=
  ∀ i o, ops[i]? = some o → mkB i = true → ∀ a : Act, Region.wanted o (yielded ops a.tmps) = true ∧ ∀ s w, I s w → ∃ w1, (execOp a.eval o).run P w = .ok (.value (.pointer (some ⟨w.heap.size, 0, none⟩))) w1 ∧ I (mk z i w.heap.size s) w1
def Puts (P : Program) (I : Sg → World → Prop) (r : Nat → Nat) (u : Nat → List Value) (ex : Nat → Nat → Sem Next) (puB : Nat → Bool) : Prop :=
  ∀ j, puB j = true → ∀ s b v w, s (r j) = some (b, v) → I s w → ∃ w1, (ex j b).run P w = .ok .skip w1 ∧ I (pu r u j s) w1
/-- operation o writes just what it is to write -/
def Coh (ops : Array Oper) (r : Nat → Nat) (ex : Nat → Nat → Sem Next) (o : Oper) (j : Nat) (a : Act) (s : Sg) : Prop :=
  Region.wanted o (yielded ops a.tmps) = true ∧ ∃ b v, s (r j) = some (b, v) ∧ execOp a.eval o = ex j b
def Up (P : Program) (ops : Array Oper) (I : Sg → World → Prop) (z : List Value) (r : Nat → Nat) (u : Nat → List Value) (ex : Nat → Nat → Sem Next) (mkB puB : Nat → Bool) (i : Nat) (K : Sg → Act → Prop) (s : Sg) (a : Act) : Prop :=
  ∃ o, ops[i]? = some o ∧ ((mkB i = true ∧ ∀ b, K (mk z i b s) (a.put o.dst (.pointer (some ⟨b, 0, none⟩)))) ∨ (mkB i = false ∧ puB i = true ∧ Coh ops r ex o i a s ∧ K (pu r u i s) (a.put o.dst undef)) ∨ (mkB i = false ∧ puB i = false ∧ ∃ v, Rg2.Same P ops I o v a ∧ K s (a.put o.dst v)))
def Any (P : Program) (md : Region.Mode) (ops : Array Oper) (I : Sg → World → Prop) (z : List Value) (r : Nat → Nat) (u : Nat → List Value) (ex : Nat → Nat → Sem Next) (mkB puB : Nat → Bool) (T : Array Bool → Sg → Act → Prop) : Nat → Array Bool → Sg → Act → Prop
  | 0, listed, s, a => Region.ready md ops listed = [] ∧ T listed s a
  | f + 1, listed, s, a => Region.ready md ops listed ≠ [] ∧ ∀ i, i ∈ Region.ready md ops listed → Up P ops I z r u ex mkB puB i (Any P md ops I z r u ex mkB puB T f (listed.setIfInBounds i true)) s a

theorem wpAny_of {Q : Exit → Act → World → Prop} {T : Array Bool → Sg → Act → Prop} (hM : Makes P ops I z mkB) (hP : Puts P I r u ex puB) (hT : ∀ listed s a w, T listed s a → I s w → wpAny P md ops Q 0 listed a w) :
    ∀ (f : Nat) (listed : Array Bool) (s : Sg) (a : Act) (w : World), Any P md ops I z r u ex mkB puB T f listed s a → I s w → wpAny P md ops Q f listed a w
  | 0, listed, s, a, w, h, hI => hT _ _ _ _ h.2 hI
  | f + 1, listed, s, a, w, h, hI => by
    refine ⟨fun h0 => absurd h0 h.1, fun i hi => ?_⟩
    obtain ⟨o, ho, hu⟩ := h.2 i hi
    unfold wpOp
    simp only [ho]
    rcases hu with ⟨hm, hK⟩ | ⟨_, hp, hc, hK⟩ | ⟨_, _, v, hy, hK⟩
    · obtain ⟨hw, hr⟩ := hM i o ho hm a
      obtain ⟨w1, hrun, hI1⟩ := hr s w hI
      simp only [hw, if_true]
      refine .inl ?_
      unfold Oper.wp
      rw [hrun]
      exact wpAny_of hM hP hT f _ _ _ _ (hK _) hI1
    · obtain ⟨hw, b, v, hs, he⟩ := hc
      obtain ⟨w1, hrun, hI1⟩ := hP i hp s b v w hs hI
      simp only [hw, if_true]
      refine .inl ?_
      unfold Oper.wp
      rw [he, hrun]
      exact wpAny_of hM hP hT f _ _ _ _ hK hI1
    · rcases hy with ⟨hw, hq⟩ | ⟨hw, rfl⟩
      · simp only [hw, if_true]
        exact .inl (Oper.wp_of_quiet (C := I s) (K := fun a' => Any P md ops I z r u ex mkB puB T f (listed.setIfInBounds i true) s a') hI (fun a' w' hw' hk => wpAny_of hM hP hT f _ _ _ _ hk hw') ⟨v, hq s, hK⟩)
      · simp only [hw, Bool.false_eq_true, if_false]
        exact wpAny_of hM hP hT f _ _ _ _ hK hI

/-- what answers the same may be taken first -/
theorem first {T : Array Bool → Sg → Act → Prop} {i : Nat} {oi : Oper} {v : Value} (hi : ops[i]? = some oi) (hm : mkB i = false) (hp : puB i = false)
    (hsel : ∀ (j : Nat) (o : Oper) cs b, ops[j]? = some o → o.op ≠ .select cs b) :
    ∀ (f : Nat) (listed : Array Bool) (s : Sg) (a : Act),
      (∀ j oj, ops[j]? = some oj → j ≠ i → listed.getD j true = false → (∀ e ∈ oj.after, Region.binds md e = true → e.on ≠ i) → oi.apart ops oj = true) →
      i ∈ Region.ready md ops listed → Rg2.Same P ops I oi v a →
      Any P md ops I z r u ex mkB puB T f (listed.setIfInBounds i true) s (a.put oi.dst v) → Any P md ops I z r u ex mkB puB T (f + 1) listed s a := by
  intro f
  induction f with
  | zero =>
    intro listed s a _ hr hy H
    refine ⟨fun h => (by rw [h] at hr; cases hr), fun j hj => ?_⟩
    by_cases hji : j = i
    · subst hji; exact ⟨oi, hi, .inr (.inr ⟨hm, hp, v, hy, H⟩)⟩
    · exfalso
      have h2 := ready_mono hj hji
      rw [H.1] at h2
      cases h2
  | succ f ih =>
    intro listed s a hfree hr hy H
    refine ⟨fun h => (by rw [h] at hr; cases hr), fun j hj => ?_⟩
    by_cases hji : j = i
    · subst hji; exact ⟨oi, hi, .inr (.inr ⟨hm, hp, v, hy, H⟩)⟩
    · have h1 := H.2 j (ready_mono hj hji)
      obtain ⟨hjun, oj, hoj, hall⟩ := mem_ready.1 hj
      have hnot : ∀ e ∈ oj.after, Region.binds md e = true → e.on ≠ i := fun e he hb heq => by
        have h2 := hall e he hb
        rw [heq] at h2
        exact Rg.not_listed (mem_ready.1 hr).1 h2
      obtain ⟨k1, k2, k3⟩ := Oper.apart_spec (hfree j oj hoj hji hjun hnot)
      have keep : ∀ x, Rg2.Same P ops I oi v (a.put oj.dst x) := fun x => hy.of_same (execOp_put oi (fun cs b => hsel i oi cs b hi) a oj.dst x k3) (wanted_put oi a oj.dst x k3)
      have rest : ∀ s' a', Rg2.Same P ops I oi v a' → Any P md ops I z r u ex mkB puB T f ((listed.setIfInBounds i true).setIfInBounds j true) s' (a'.put oi.dst v) → Any P md ops I z r u ex mkB puB T (f + 1) (listed.setIfInBounds j true) s' a' := fun s' a' hy' h3 => by
        refine ih (listed.setIfInBounds j true) s' a' ?_ (ready_mono hr (Ne.symm hji)) hy' ?_
        · intro k ok hk hki hun hno
          refine hfree k ok hk hki ?_ hno
          by_cases hjk : j = k
          · subst hjk; exact hjun
          · rw [getD_set_ne true hjk] at hun; exact hun
        · rw [Array.setIfInBounds_comm _ _ hji]
          exact h3
      obtain ⟨o, ho, hu⟩ := h1
      obtain rfl : o = oj := Option.some.inj (ho.symm.trans hoj)
      refine ⟨o, ho, ?_⟩
      have hsj := fun cs b => hsel j o cs b hoj
      rcases hu with ⟨h1, h2⟩ | ⟨h1, h2, h3, h4⟩ | ⟨h1, h2, x, h3, h4⟩
      · refine .inl ⟨h1, fun b => rest _ _ (keep _) ?_⟩
        rw [← Act.put_comm a v _ k2]
        exact h2 b
      · refine .inr (.inl ⟨h1, h2, ?_, rest _ _ (keep _) ?_⟩)
        · obtain ⟨c1, b, x, c2, c3⟩ := h3
          exact ⟨(wanted_put o a oi.dst v k1).symm.trans c1, b, x, c2, (execOp_put o hsj a oi.dst v k1).symm.trans c3⟩
        · rw [← Act.put_comm a v undef k2]
          exact h4
      · refine .inr (.inr ⟨h1, h2, x, h3.of_same (execOp_put o hsj a oi.dst v k1).symm (wanted_put o a oi.dst v k1).symm, rest _ _ (keep _) ?_⟩)
        rw [← Act.put_comm a v x k2]
        exact h4

/-- what makes a new variable may be taken first, where nothing is left that answers -/
theorem firstMake {T : Array Bool → Sg → Act → Prop} {i : Nat} {oi : Oper} (hi : ops[i]? = some oi) (hm : mkB i = true)
    (hsel : ∀ (j : Nat) (o : Oper) cs b, ops[j]? = some o → o.op ≠ .select cs b) (hri : ∀ j oj, ops[j]? = some oj → puB j = true → r j = i → ∃ e ∈ oj.after, Region.binds md e = true ∧ e.on = i) :
    ∀ (f : Nat) (listed : Array Bool) (s : Sg) (a : Act), (∀ j, listed.getD j true = false → mkB j = false → puB j = true) →
      (∀ j oj, ops[j]? = some oj → j ≠ i → listed.getD j true = false → (∀ e ∈ oj.after, Region.binds md e = true → e.on ≠ i) → oi.apart ops oj = true) →
      i ∈ Region.ready md ops listed →
      (∀ b, Any P md ops I z r u ex mkB puB T f (listed.setIfInBounds i true) (mk z i b s) (a.put oi.dst (.pointer (some ⟨b, 0, none⟩)))) → Any P md ops I z r u ex mkB puB T (f + 1) listed s a := by
  intro f
  induction f with
  | zero =>
    intro listed s a _ _ hr H
    refine ⟨fun h => (by rw [h] at hr; cases hr), fun j hj => ?_⟩
    by_cases hji : j = i
    · subst hji; exact ⟨oi, hi, .inl ⟨hm, H⟩⟩
    · exfalso
      have h2 := ready_mono hj hji
      rw [(H 0).1] at h2
      cases h2
  | succ f ih =>
    intro listed s a hns hfree hr H
    refine ⟨fun h => (by rw [h] at hr; cases hr), fun j hj => ?_⟩
    by_cases hji : j = i
    · subst hji; exact ⟨oi, hi, .inl ⟨hm, H⟩⟩
    · have h1 := fun b => (H b).2 j (ready_mono hj hji)
      obtain ⟨hjun, oj, hoj, hall⟩ := mem_ready.1 hj
      have hnot : ∀ e ∈ oj.after, Region.binds md e = true → e.on ≠ i := fun e he hb heq => by
        have h2 := hall e he hb
        rw [heq] at h2
        exact Rg.not_listed (mem_ready.1 hr).1 h2
      obtain ⟨k1, k2, k3⟩ := Oper.apart_spec (hfree j oj hoj hji hjun hnot)
      have old : ∀ k, (listed.setIfInBounds j true).getD k true = false → listed.getD k true = false := fun k hun => by
        by_cases hjk : j = k
        · subst hjk; exact hjun
        · rw [getD_set_ne true hjk] at hun; exact hun
      have rest : ∀ s' a', (∀ b, Any P md ops I z r u ex mkB puB T f ((listed.setIfInBounds i true).setIfInBounds j true) (mk z i b s') (a'.put oi.dst (.pointer (some ⟨b, 0, none⟩)))) → Any P md ops I z r u ex mkB puB T (f + 1) (listed.setIfInBounds j true) s' a' := fun s' a' h3 => by
        refine ih (listed.setIfInBounds j true) s' a' (fun k hk => hns k (old k hk)) (fun k ok hk hki hun hno => hfree k ok hk hki (old k hun) hno) (ready_mono hr (Ne.symm hji)) (fun b => ?_)
        rw [Array.setIfInBounds_comm _ _ hji]
        exact h3 b
      have hsj := fun cs b => hsel j oj cs b hoj
      cases hmj : mkB j
      · have hpj := hns j hjun hmj
        have part : ∀ b, Coh ops r ex oj j (a.put oi.dst (.pointer (some ⟨b, 0, none⟩))) (mk z i b s) ∧ Any P md ops I z r u ex mkB puB T f ((listed.setIfInBounds i true).setIfInBounds j true) (pu r u j (mk z i b s)) ((a.put oi.dst (.pointer (some ⟨b, 0, none⟩))).put oj.dst undef) := fun b => by
          obtain ⟨o, ho, hu⟩ := h1 b
          obtain rfl : o = oj := Option.some.inj (ho.symm.trans hoj)
          rcases hu with ⟨h2, _⟩ | ⟨_, _, h3, h4⟩ | ⟨_, h2, _⟩
          · rw [hmj] at h2; cases h2
          · exact ⟨h3, h4⟩
          · rw [hpj] at h2; cases h2
        have hrj : r j ≠ i := fun e => by
          obtain ⟨x, hx, hb, ho⟩ := hri j oj hoj hpj e
          exact hnot x hx hb ho
        refine ⟨oj, hoj, .inr (.inl ⟨hmj, hpj, ?_, rest _ _ fun b => ?_⟩)⟩
        · obtain ⟨c1, b, x, c2, c3⟩ := (part 0).1
          refine ⟨(wanted_put oj a oi.dst _ k1).symm.trans c1, b, x, ?_, (execOp_put oj hsj a oi.dst _ k1).symm.trans c3⟩
          unfold mk at c2
          rw [if_neg hrj] at c2
          exact c2
        · rw [← Act.put_comm a _ undef k2, ← pu_mk hrj]
          exact (part b).2
      · have part : ∀ b c, Any P md ops I z r u ex mkB puB T f ((listed.setIfInBounds i true).setIfInBounds j true) (mk z j c (mk z i b s)) ((a.put oi.dst (.pointer (some ⟨b, 0, none⟩))).put oj.dst (.pointer (some ⟨c, 0, none⟩))) := fun b c => by
          obtain ⟨o, ho, hu⟩ := h1 b
          obtain rfl : o = oj := Option.some.inj (ho.symm.trans hoj)
          rcases hu with ⟨_, h2⟩ | ⟨h2, _⟩ | ⟨h2, _⟩
          · exact h2 c
          · rw [hmj] at h2; cases h2
          · rw [hmj] at h2; cases h2
        refine ⟨oj, hoj, .inl ⟨hmj, fun c => rest _ _ fun b => ?_⟩⟩
        rw [← Act.put_comm a _ _ k2, ← mk_comm hji]
        exact part b c

theorem take {T : Array Bool → Sg → Act → Prop} {f : Nat} {listed : Array Bool} {s : Sg} {a : Act} (i : Nat) {oi : Oper} {v : Value} (hi : ops[i]? = some oi) (hm : mkB i = false) (hp : puB i = false)
    (hs : Region.noSelect ops = true) (hf : Region.free md ops listed i = true) (hr : (Region.ready md ops listed).contains i = true)
    (hy : Rg2.Same P ops I oi v a) (h : Any P md ops I z r u ex mkB puB T f (listed.setIfInBounds i true) s (a.put oi.dst v)) : Any P md ops I z r u ex mkB puB T (f + 1) listed s a :=
  first hi hm hp (Region.noSelect_spec hs) f listed s a (Region.free_spec hi hf) (by simpa using hr) hy h
/-- each store into what operation i makes waits for it; nothing is left that answers -/
def okB (md : Region.Mode) (ops : Array Oper) (r : Nat → Nat) (puB : Nat → Bool) (i : Nat) : Bool :=
  (List.range ops.size).all fun j => !(puB j && r j == i) || match ops[j]? with
    | some o => o.after.any fun e => Region.binds md e && e.on == i
    | none => true
def nsB (mkB puB : Nat → Bool) (listed : Array Bool) : Bool := (List.range listed.size).all fun j => listed.getD j true || (mkB j || puB j)
theorem takeMake {T : Array Bool → Sg → Act → Prop} {f : Nat} {listed : Array Bool} {s : Sg} {a : Act} (i : Nat) {oi : Oper} (hi : ops[i]? = some oi) (hm : mkB i = true)
    (hs : Region.noSelect ops = true) (hok : okB md ops r puB i = true) (hns : nsB mkB puB listed = true) (hf : Region.free md ops listed i = true) (hr : (Region.ready md ops listed).contains i = true)
    (h : ∀ b, Any P md ops I z r u ex mkB puB T f (listed.setIfInBounds i true) (mk z i b s) (a.put oi.dst (.pointer (some ⟨b, 0, none⟩)))) : Any P md ops I z r u ex mkB puB T (f + 1) listed s a := by
  refine firstMake hi hm (Region.noSelect_spec hs) ?_ f listed s a ?_ (Region.free_spec hi hf) (by simpa using hr) h
  · intro j oj hj hp hrj
    have h1 := List.all_eq_true.1 hok j (List.mem_range.2 (Array.getElem?_eq_some_iff.1 hj).1)
    simp only [hj, hp, hrj, beq_self_eq_true, Bool.and_self, Bool.not_true, Bool.false_or] at h1
    obtain ⟨k, hk, he⟩ := Array.any_eq_true.1 h1
    simp only [Bool.and_eq_true, beq_iff_eq] at he
    exact ⟨oj.after[k], Array.getElem_mem hk, he.1, he.2⟩
  · intro j hj hmj
    have hlt : j < listed.size := by
      rcases Nat.lt_or_ge j listed.size with h2 | h2
      · exact h2
      · simp [Array.getD, Nat.not_lt.2 h2] at hj
    have h1 := List.all_eq_true.1 hns j (List.mem_range.2 hlt)
    rw [hj, hmj] at h1
    simpa using h1
theorem put1 {T : Array Bool → Sg → Act → Prop} {f : Nat} {listed : Array Bool} {s : Sg} {a : Act} (i : Nat) {o : Oper} (hr : Region.ready md ops listed = [i]) (ho : ops[i]? = some o) (hm : mkB i = false) (hp : puB i = true) (hc : Coh ops r ex o i a s)
    (h : Any P md ops I z r u ex mkB puB T f (listed.setIfInBounds i true) (pu r u i s) (a.put o.dst undef)) : Any P md ops I z r u ex mkB puB T (f + 1) listed s a :=
  ⟨by rw [hr]; simp, fun j hj => by
    rw [hr] at hj
    obtain rfl : j = i := by simpa using hj
    exact ⟨o, ho, .inr (.inl ⟨hm, hp, hc, h⟩)⟩⟩
/-- the region -/
theorem region {id : Nat} {Q : Exit → Act → World → Prop} {a : Act} {w : World} {T : Array Bool → Sg → Act → Prop} (s : Sg) (hm : P.follows .mixedOrders = true) (hM : Makes P ops I z mkB) (hP : Puts P I r u ex puB) (hI : I s w.drew)
    (hT : ∀ listed s a w, T listed s a → I s w → wpAny P .any ops Q 0 listed a w)
    (h : Any P .any ops I z r u ex mkB puB T ops.size (Array.replicate ops.size false) s a) : (Code.region id ops true).wp P Q a w :=
  wp_region_any hm (wpAny_of hM hP hT _ _ _ _ _ h hI)
end

/-- variables of n cells that the region made, beside the call's own blocks -/
structure Ih (n : Nat) (w : World) (ms : List (Nat × List Value)) (s : Sg) (W : World) : Prop where
  own : Ow w W ms
  all : ∀ k b v, s k = some (b, v) → Rc W b v ∧ v.length = n ∧ w.heap.size ≤ b ∧ b < W.heap.size ∧ ∀ q ∈ ms, q.1 ≠ b
  nd : ∀ k k' b v v', s k = some (b, v) → s k' = some (b, v') → k = k'
theorem Ih.start {n : Nat} {w W : World} {ms : List (Nat × List Value)} (h : Ow w W ms) : Ih n w ms (fun _ => none) W := ⟨h, fun _ _ _ h => (by cases h), fun _ _ _ _ _ h => (by cases h)⟩
theorem Ih.call {n : Nat} {w W W' : World} {ms : List (Nat × List Value)} {s : Sg} (h : Ih n w ms s W) (k : Kp W.heap.size W W') : Ih n w ms s W' :=
  ⟨h.own.call k, fun i b v e => by obtain ⟨h1, h2, h3, h4, h5⟩ := h.all i b v e; exact ⟨h1.kp k h4, h2, h3, Nat.lt_of_lt_of_le h4 k.size, h5⟩, h.nd⟩
theorem Ih.out {n : Nat} {w W : World} {ms : List (Nat × List Value)} {s : Sg} (h : Ih n w ms s W) (hn : 0 < n) : ∀ (ks : List Nat) (qs : List (Nat × List Value)), ks.Nodup → ks.map s = qs.map some → Ow w W (qs ++ ms)
  | [], [], _, _ => h.own
  | [], _ :: _, _, e => by simp at e
  | _ :: _, [], _, e => by simp at e
  | k :: ks, q :: qs, hd, e => by
    simp only [List.map_cons, List.cons.injEq] at e
    obtain ⟨hk, hks⟩ := List.nodup_cons.1 hd
    have ih := Ih.out h hn ks qs hks e.2
    obtain ⟨h1, h2, h3, h4, h5⟩ := h.all k q.1 q.2 e.1
    refine ⟨ih.k, fun p hp => ?_, .cons (fun p hp => ?_) ih.nd⟩
    · rcases List.mem_cons.1 hp with rfl | hp
      · exact ⟨h1, fun e0 => by rw [e0] at h2; simp at h2; omega, h3⟩
      · exact ih.all p hp
    · rcases List.mem_append.1 hp with hp | hp
      · intro e0
        have h6 : some p ∈ qs.map some := List.mem_map.2 ⟨p, hp, rfl⟩
        rw [← e.2] at h6
        obtain ⟨k', hk', e1⟩ := List.mem_map.1 h6
        have h7 := h.nd k k' q.1 q.2 p.2 e.1 (by rw [e1, e0])
        exact hk (h7 ▸ hk')
      · exact fun e0 => h5 p hp e0.symm
theorem makes {n : Nat} {w : World} {ms : List (Nat × List Value)} {ops : Array Oper} {z : List Value} {mkB : Nat → Bool} (ty : TypeId) (hz : z.length = n) (hg : ∀ i o, ops[i]? = some o → mkB i = true → o.guard = none ∧ o.op = .alloc ty)
    (hrun : ∀ W, (Instr.alloc ty true (.tuple #[])).run Tryz.prog W = .ok (.pointer (some ⟨W.heap.size, 0, none⟩)) (W.alloc (.cells z.toArray ty))) : Makes Tryz.prog ops (Ih n w ms) z mkB := by
  intro i o ho hm a
  obtain ⟨hg, hop⟩ := hg i o ho hm
  refine ⟨by simp [Region.wanted, hg], fun s W hI => ⟨W.alloc (.cells z.toArray ty), ?_, ?_⟩⟩
  · unfold execOp
    simp only [hop, Sem.run_bind, Sem.run_pure, Result.andThen_ok, hrun]
  · have h1 := hI.call (Kp.new W z.toArray ty)
    refine ⟨h1.own, fun k b v e => ?_, fun k k' b v v' e e' => ?_⟩
    · unfold mk at e
      split at e
      · obtain ⟨rfl, rfl⟩ := Prod.mk.inj (Option.some.inj e)
        exact ⟨Rc.new W _ ty rfl, hz, hI.own.k.size, by simp, fun q hq => Nat.ne_of_lt (hI.own.lt hq)⟩
      · exact h1.all k b v e
    · unfold mk at e e'
      split at e
      · split at e'
        · rename_i x y; rw [x, y]
        · obtain ⟨rfl, rfl⟩ := Prod.mk.inj (Option.some.inj e)
          exact absurd (hI.all k' _ _ e').2.2.2.1 (Nat.lt_irrefl _)
      · split at e'
        · obtain ⟨rfl, rfl⟩ := Prod.mk.inj (Option.some.inj e')
          exact absurd (hI.all k _ _ e).2.2.2.1 (Nat.lt_irrefl _)
        · exact hI.nd k k' b v v' e e'
/-- a store of a whole struct -/
def stS (ty : TypeId) (us : List Value) (b : Nat) : Sem Next := do Instr.storeAt ty (.pointer (some ⟨b, 0, none⟩)) (.agg us.toArray); pure .skip
theorem puts {n : Nat} {w : World} {ms : List (Nat × List Value)} {ty : TypeId} (ht : Ty ty n) {r : Nat → Nat} {u : Nat → List Value} {puB : Nat → Bool} (hu : ∀ j, puB j = true → (u j).length = n ∧ (u j).all (·.oneCell') = true) :
    Puts Tryz.prog (Ih n w ms) r u (fun j b => stS ty (u j) b) puB := by
  intro j hp s b v W hs hI
  obtain ⟨hl, h1c⟩ := hu j hp
  obtain ⟨h1, h2, h3, h4, h5⟩ := hI.all _ _ _ hs
  refine ⟨W.setCells b 0 (u j), ?_, ?_⟩
  · unfold stS
    simp only [Instr.storeAt, Instr.sureAddr, Sem.run_bind, Sem.run_pure, Result.andThen_ok, run_storeVar_mid W b 0 ty (u j).toArray (by simpa using h1.there (n := (u j).length) (by omega)) (by simpa [hl] using ht.size) (by simpa using h1c)]
  · have hst : _root_.Go.Proofs.YtankjlpanmmogaaGreat.St b W (W.setCells b 0 (u j)) := St.setCells (u j)
    refine ⟨⟨hst.kp hI.own.k h3, fun q hq => ⟨(hI.own.all q hq).1.st hst (h5 q hq), (hI.own.all q hq).2⟩, hI.own.nd⟩, fun k c x e => ?_, fun k k' c x x' e e' => ?_⟩
    · unfold pu at e
      split at e
      · rename_i hk
        rw [hk, hs] at e
        obtain ⟨rfl, rfl⟩ := Prod.mk.inj (Option.some.inj e)
        exact ⟨h1.store (by omega), hl, h3, by rw [hst.size]; exact h4, h5⟩
      · rename_i hk
        obtain ⟨g1, g2, g3, g4, g5⟩ := hI.all k c x e
        refine ⟨g1.st hst (fun e0 => ?_), g2, g3, by rw [hst.size]; exact g4, g5⟩
        subst e0
        exact hk (hI.nd _ _ _ _ _ e hs)
    · have key : ∀ k c x, pu r u j s k = some (c, x) → ∃ y, s k = some (c, y) := fun k c x e => by
        unfold pu at e
        split at e
        · cases hk : s k with
          | none => rw [hk] at e; cases e
          | some q => rw [hk] at e; obtain ⟨e1, _⟩ := Prod.mk.inj (Option.some.inj e); exact ⟨q.2, by rw [← e1]⟩
        · exact ⟨x, e⟩
      obtain ⟨y, hy⟩ := key k c x e
      obtain ⟨y', hy'⟩ := key k' c x' e'
      exact hI.nd _ _ _ _ _ hy hy'
end Go.Proofs.YtankjlpanmmogaaGreat.Rg3
