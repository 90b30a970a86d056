/-
  A region that draws its order, further: besides operations that answer the same and operations that write one of the call's own blocks, operations that answer what hangs on the world: calls of functions, too.
  ONE walk of the first kind serves every order.
-/
import Derived.Test.YtkmhnfbjapfbeaaCmdRegion
import Derived.Test.YtkmhnfbjapfbeaaSlRow
import Derived.Test.YtkmhnfbjapfbeaaRowsOf
namespace Go.Proofs.Ytkmhnfbjapfbeaa.Rg4
open Go.RowKit

section
variable {σ : Type} {P : Program} {ops : Array Oper} {md : Region.Mode} {I : σ → World → Prop} {dem : Nat → Bool} {m : Nat}

def Same (P : Program) (ops : Array Oper) (I : σ → World → Prop) (o : Oper) (v : Value) (a : Act) : Prop :=
  (Region.wanted o (yielded ops a.tmps) = true ∧ ∀ s w, I s w → o.quietAt P a (I s) w v) ∨ (Region.wanted o (yielded ops a.tmps) = false ∧ v = undef)
/-- what an operation comes to: a value, at once or by a call -/
def Outcome (P : Program) (R : Value → World → Prop) : Result Next → Prop
  | .ok (.value v) w1 => R v w1
  | .ok (.enter f args) w1 => Calls P f args w1 fun e w2 => ∃ v, e = .returned v ∧ R v w2
  | _ => False
theorem wp_outcome {P : Program} {o : Oper} {a : Act} {w : World} {R : Value → World → Prop} {K : Act → World → Prop} {Q : Exit → Act → World → Prop} (h : Outcome P R ((execOp a.eval o).run P w)) (hK : ∀ v w1, R v w1 → K (a.put o.dst v) w1) : o.wp P a w K Q := by
  unfold Oper.wp
  generalize (execOp a.eval o).run P w = r at *
  cases r with
  | ok n w' =>
    cases n <;> simp only [Outcome] at h <;> simp only [Oper.upon]
    case value v => exact hK _ _ h
    case enter f args => exact h.mono fun e w2 ⟨v, he, hR⟩ => by subst he; exact hK _ _ hR
  | _ => exact h.elim
/-- operation o answers one of these, and leaves a world that fits it -/
def Gives (P : Program) (ops : Array Oper) (I : σ → World → Prop) (o : Oper) (a : Act) (s : σ) (R : σ → Value → Prop) : Prop :=
  Region.wanted o (yielded ops a.tmps) = true ∧ ∀ w, I s w → Outcome P (fun v w1 => ∃ s', R s' v ∧ I s' w1) ((execOp a.eval o).run P w)
/-- operation o writes a block -/
def Puts (P : Program) (ops : Array Oper) (I : σ → World → Prop) (o : Oper) (a : Act) (s s' : σ) : Prop :=
  Region.wanted o (yielded ops a.tmps) = true ∧ ∀ w, I s w → ∃ w1, (execOp a.eval o).run P w = .ok .skip w1 ∧ I s' w1
def Up (P : Program) (ops : Array Oper) (I : σ → World → Prop) (dem : Nat → Bool) (i : Nat) (K : σ → Act → Prop) (s : σ) (a : Act) : Prop :=
  ∃ o, ops[i]? = some o ∧ ((dem i = true ∧ ∃ R, Gives P ops I o a s R ∧ ∀ s' v, R s' v → K s' (a.put o.dst v)) ∨ (dem i = false ∧ ∃ v, Same P ops I o v a ∧ K s (a.put o.dst v)) ∨ (dem i = true ∧ ∃ s', Puts P ops I o a s s' ∧ K s' (a.put o.dst undef)))
def Any (P : Program) (md : Region.Mode) (ops : Array Oper) (I : σ → World → Prop) (dem : Nat → Bool) (m : Nat) (T : Array Bool → σ → Act → Prop) : Nat → Array Bool → σ → Act → Prop
  | 0, listed, s, a => (∀ j, j ∈ Region.ready md ops listed → m ≤ j) ∧ T listed s a
  | f + 1, listed, s, a => Region.ready md ops listed ≠ [] ∧ ∀ i, i ∈ Region.ready md ops listed → Up P ops I dem i (Any P md ops I dem m T f (listed.setIfInBounds i true)) s a

theorem wpAny_of {Q : Exit → Act → World → Prop} {T : Array Bool → σ → Act → Prop} {g : Nat} (hT : ∀ listed s a w, T listed s a → I s w → wpAny P md ops Q g listed a w) :
    ∀ (f : Nat) (listed : Array Bool) (s : σ) (a : Act) (w : World), Any P md ops I dem m T f listed s a → I s w → wpAny P md ops Q (f + g) listed a w
  | 0, listed, s, a, w, h, hI => by rw [Nat.zero_add]; exact hT _ _ _ _ h.2 hI
  | f + 1, listed, s, a, w, h, hI => by
    rw [show f + 1 + g = (f + g) + 1 by omega]
    refine ⟨fun h0 => absurd h0 h.1, fun i hi => ?_⟩
    obtain ⟨o, ho, hu⟩ := h.2 i hi
    unfold wpOp
    simp only [ho]
    rcases hu with ⟨_, R, ⟨hw, hr⟩, hK⟩ | ⟨_, v, hy, hK⟩ | ⟨_, s', hp, hK⟩
    · simp only [hw, if_true]
      exact .inl (wp_outcome (hr w hI) fun v w1 ⟨s', hR, hI1⟩ => wpAny_of hT f _ _ _ _ (hK _ _ hR) hI1)
    · rcases hy with ⟨hw, hq⟩ | ⟨hw, rfl⟩
      · simp only [hw, if_true]
        exact .inl (Oper.wp_of_quiet (C := I s) (K := fun a' => Any P md ops I dem m T f (listed.setIfInBounds i true) s a') hI (fun a' w' hw' hk => wpAny_of hT f _ _ _ _ hk hw') ⟨v, hq s, hK⟩)
      · simp only [hw, Bool.false_eq_true, if_false]
        exact wpAny_of hT f _ _ _ _ hK hI
    · obtain ⟨hw, hr⟩ := hp
      obtain ⟨w1, hrun, hI1⟩ := hr w hI
      simp only [hw, if_true]
      refine .inl ?_
      unfold Oper.wp
      rw [hrun]
      exact wpAny_of hT f _ _ _ _ hK hI1

theorem Same.of_same {o : Oper} {v : Value} {a a' : Act} (hy : Same P ops I o v a) (he : execOp a'.eval o = execOp a.eval o)
    (hw : Region.wanted o (yielded ops a'.tmps) = Region.wanted o (yielded ops a.tmps)) : Same P ops I o v a' := by
  unfold Same Oper.quietAt at *
  rw [he, hw]
  exact hy
theorem Gives.of_same {o : Oper} {s : σ} {R : σ → Value → Prop} {a a' : Act} (hy : Gives P ops I o a s R) (he : execOp a'.eval o = execOp a.eval o)
    (hw : Region.wanted o (yielded ops a'.tmps) = Region.wanted o (yielded ops a.tmps)) : Gives P ops I o a' s R := by
  unfold Gives at *
  rw [he, hw]
  exact hy
theorem Puts.of_same {o : Oper} {s s' : σ} {a a' : Act} (hy : Puts P ops I o a s s') (he : execOp a'.eval o = execOp a.eval o)
    (hw : Region.wanted o (yielded ops a'.tmps) = Region.wanted o (yielded ops a.tmps)) : Puts P ops I o a' s s' := by
  unfold Puts at *
  rw [he, hw]
  exact hy

theorem Up.mono {i : Nat} {K K' : σ → Act → Prop} {s : σ} {a : Act} (h : ∀ s a, K s a → K' s a) (hu : Up P ops I dem i K s a) : Up P ops I dem i K' s a := by
  obtain ⟨o, ho, hu⟩ := hu
  refine ⟨o, ho, ?_⟩
  rcases hu with ⟨h1, R, h2, h3⟩ | ⟨h1, v, h2, h3⟩ | ⟨h1, s', h2, h3⟩
  · exact .inl ⟨h1, R, h2, fun s' v hR => h _ _ (h3 s' v hR)⟩
  · exact .inr (.inl ⟨h1, v, h2, h _ _ h3⟩)
  · exact .inr (.inr ⟨h1, s', h2, h _ _ h3⟩)

/-- an operation apart from one that answers the same: whether that one's answer lies in its slot already makes no difference -/
theorem Up.past {j : Nat} {oi oj : Oper} {v : Value} (hj : ops[j]? = some oj) (hap : oi.apart ops oj = true)
    (hsi : ∀ cs b, oi.op ≠ .select cs b) (hsj : ∀ cs b, oj.op ≠ .select cs b) {K : σ → Act → Prop} {s : σ} {a : Act}
    (hy : Same P ops I oi v a) (h : Up P ops I dem j K s (a.put oi.dst v)) :
    Up P ops I dem j (fun s a' => Same P ops I oi v a' ∧ K s (a'.put oi.dst v)) s a := by
  obtain ⟨k1, k2, k3⟩ := Oper.apart_spec hap
  have keep : ∀ u, Same P ops I oi v (a.put oj.dst u) := fun u => hy.of_same (execOp_put oi hsi a oj.dst u k3) (wanted_put oi a oj.dst u k3)
  obtain ⟨o, ho, hu⟩ := h
  obtain rfl : o = oj := Option.some.inj (ho.symm.trans hj)
  refine ⟨o, ho, ?_⟩
  rcases hu with ⟨h1, R, h2, h3⟩ | ⟨h1, u, h2, h3⟩ | ⟨h1, s', h2, h3⟩
  · refine .inl ⟨h1, R, ?_, fun s' x hR => ⟨keep _, ?_⟩⟩
    · exact h2.of_same (execOp_put o hsj a oi.dst v k1).symm (wanted_put o a oi.dst v k1).symm
    · rw [← Act.put_comm a v _ k2]
      exact h3 s' x hR
  · refine .inr (.inl ⟨h1, u, ?_, keep u, ?_⟩)
    · exact h2.of_same (execOp_put o hsj a oi.dst v k1).symm (wanted_put o a oi.dst v k1).symm
    · rw [← Act.put_comm a v u k2]
      exact h3
  · refine .inr (.inr ⟨h1, s', ?_, keep undef, ?_⟩)
    · exact h2.of_same (execOp_put o hsj a oi.dst v k1).symm (wanted_put o a oi.dst v k1).symm
    · rw [← Act.put_comm a v undef k2]
      exact h3

/-- what answers the same may be taken first -/
theorem first {T : Array Bool → σ → Act → Prop} {i : Nat} {oi : Oper} {v : Value} (hi : ops[i]? = some oi) (hd : dem i = false)
    (hsel : ∀ (j : Nat) (o : Oper) cs b, ops[j]? = some o → o.op ≠ .select cs b) (hwait : Rg.waitB md ops m i = true) :
    ∀ (f : Nat) (listed : Array Bool) (s : σ) (a : Act), Rg.Closed md ops listed →
      (∀ j oj, ops[j]? = some oj → j ≠ i → listed.getD j true = false → (∀ e ∈ oj.after, Region.binds md e = true → e.on ≠ i) → oi.apart ops oj = true) →
      i ∈ Region.ready md ops listed → Same P ops I oi v a →
      Any P md ops I dem m T f (listed.setIfInBounds i true) s (a.put oi.dst v) → Any P md ops I dem m T (f + 1) listed s a := by
  intro f
  induction f with
  | zero =>
    intro listed s a hc _ hr hy H
    refine ⟨fun h => (by rw [h] at hr; cases hr), fun j hj => ?_⟩
    by_cases hji : j = i
    · subst hji; exact ⟨oi, hi, .inr (.inl ⟨hd, v, hy, H⟩)⟩
    · exfalso
      have hm := H.1 j (ready_mono hj hji)
      obtain ⟨_, oj, hoj, _⟩ := mem_ready.1 hj
      exact Rg.not_listed (mem_ready.1 hr).1 (Rg.reach_ready hc 6 hj (Rg.waitB_spec hwait hm (Array.getElem?_eq_some_iff.1 hoj).1))
  | succ f ih =>
    intro listed s a hc hfree hr hy H
    refine ⟨fun h => (by rw [h] at hr; cases hr), fun j hj => ?_⟩
    by_cases hji : j = i
    · subst hji; exact ⟨oi, hi, .inr (.inl ⟨hd, v, hy, H⟩)⟩
    · have h1 := H.2 j (ready_mono hj hji)
      obtain ⟨hjun, oj, hoj, hall⟩ := mem_ready.1 hj
      have hnot : ∀ e ∈ oj.after, Region.binds md e = true → e.on ≠ i := fun e he hb heq => by
        have h2 := hall e he hb
        rw [heq] at h2
        exact Rg.not_listed (mem_ready.1 hr).1 h2
      have h2 := Up.past hoj (hfree j oj hoj hji hjun hnot) (fun cs b => hsel i oi cs b hi) (fun cs b => hsel j oj cs b hoj) hy h1
      refine Up.mono (fun s' a' h3 => ih (listed.setIfInBounds j true) s' a' (hc.set hj) ?_ (ready_mono hr (Ne.symm hji)) h3.1 ?_) h2
      · intro k ok hk hki hun hno
        refine hfree k ok hk hki ?_ hno
        by_cases hjk : j = k
        · subst hjk; exact hjun
        · rw [getD_set_ne true hjk] at hun; exact hun
      · rw [Array.setIfInBounds_comm _ _ hji]
        exact h3.2

/-- one step of the walk: number i is taken first; all that is asked of the region is reckoned -/
theorem take {T : Array Bool → σ → Act → Prop} {f : Nat} {listed : Array Bool} {s : σ} {a : Act} (i : Nat) {oi : Oper} {v : Value} (hi : ops[i]? = some oi) (hd : dem i = false)
    (hs : Region.noSelect ops = true) (hw : Rg.waitB md ops m i = true) (hc : Rg.closedB md ops listed = true) (hf : Region.free md ops listed i = true) (hr : (Region.ready md ops listed).contains i = true)
    (hy : Same P ops I oi v a) (h : Any P md ops I dem m T f (listed.setIfInBounds i true) s (a.put oi.dst v)) : Any P md ops I dem m T (f + 1) listed s a :=
  first hi hd (Region.noSelect_spec hs) hw f listed s a (Rg.closedB_spec hc) (Region.free_spec hi hf) (by simpa using hr) hy h

/-- whatever is ready -/
theorem step {T : Array Bool → σ → Act → Prop} {f : Nat} {listed : Array Bool} {s : σ} {a : Act} {rs : List Nat} (hr : Region.ready md ops listed = rs) (hne : rs ≠ [])
    (h : ∀ i, i ∈ rs → Up P ops I dem i (Any P md ops I dem m T f (listed.setIfInBounds i true)) s a) : Any P md ops I dem m T (f + 1) listed s a :=
  ⟨fun h0 => hne (hr ▸ h0), hr ▸ h⟩
theorem up_gives {i : Nat} {o : Oper} {K : σ → Act → Prop} {s : σ} {a : Act} (R : σ → Value → Prop) (ho : ops[i]? = some o) (hd : dem i = true) (hm : Gives P ops I o a s R)
    (h : ∀ s' v, R s' v → K s' (a.put o.dst v)) : Up P ops I dem i K s a := ⟨o, ho, .inl ⟨hd, R, hm, h⟩⟩
theorem up_put {i : Nat} {o : Oper} {K : σ → Act → Prop} {s s' : σ} {a : Act} (ho : ops[i]? = some o) (hd : dem i = true) (hp : Puts P ops I o a s s')
    (h : K s' (a.put o.dst undef)) : Up P ops I dem i K s a := ⟨o, ho, .inr (.inr ⟨hd, s', hp, h⟩)⟩
/-- one that hangs on the world, alone -/
theorem gives1 {T : Array Bool → σ → Act → Prop} {f : Nat} {listed : Array Bool} {s : σ} {a : Act} (i : Nat) {o : Oper} (R : σ → Value → Prop) (hr : Region.ready md ops listed = [i]) (ho : ops[i]? = some o) (hd : dem i = true) (hm : Gives P ops I o a s R)
    (h : ∀ s' v, R s' v → Any P md ops I dem m T f (listed.setIfInBounds i true) s' (a.put o.dst v)) : Any P md ops I dem m T (f + 1) listed s a :=
  step hr (by simp) fun j hj => by
    obtain rfl : j = i := by simpa using hj
    exact up_gives R ho hd hm h
/-- one store, alone -/
theorem put1 {T : Array Bool → σ → Act → Prop} {f : Nat} {listed : Array Bool} {s s' : σ} {a : Act} (i : Nat) {o : Oper} (hr : Region.ready md ops listed = [i]) (ho : ops[i]? = some o) (hd : dem i = true) (hp : Puts P ops I o a s s')
    (h : Any P md ops I dem m T f (listed.setIfInBounds i true) s' (a.put o.dst undef)) : Any P md ops I dem m T (f + 1) listed s a :=
  step hr (by simp) fun j hj => by
    obtain rfl : j = i := by simpa using hj
    exact up_put ho hd hp h
theorem done {T : Array Bool → σ → Act → Prop} {listed : Array Bool} {s : σ} {a : Act} {rs : List Nat} (hr : Region.ready md ops listed = rs) (hm : (rs.all fun j => decide (m ≤ j)) = true) (h : T listed s a) : Any P md ops I dem m T 0 listed s a :=
  ⟨fun j hj => by rw [hr] at hj; simpa using List.all_eq_true.1 hm j hj, h⟩

/-- the region -/
theorem region {id : Nat} {Q : Exit → Act → World → Prop} {a : Act} {w : World} {T : Array Bool → σ → Act → Prop} {g : Nat} (s : σ) (hm : P.follows .mixedOrders = true) (hI : I s w.drew) (hsz : m + g = ops.size)
    (hT : ∀ listed s a w, T listed s a → I s w → wpAny P .any ops Q g listed a w)
    (h : Any P .any ops I dem m T m (Array.replicate ops.size false) s a) : (Code.region id ops true).wp P Q a w := by
  refine wp_region_any hm ?_
  rw [← hsz]
  have := wpAny_of (Q := Q) hT m (Array.replicate ops.size false) s a w.drew h hI
  rw [← hsz] at this
  exact this
end


end Go.Proofs.Ytkmhnfbjapfbeaa.Rg4
namespace Go.Proofs.Ytkmhnfbjapfbeaa
open Go.RowKit
/-- a slice whose cells lie in blocks from number B on -/
def SlF (B : Nat) (w : World) (v : Value) (xs : List Value) : Prop := ∃ a c, v = .slice a xs.length c ∧ xs.length ≤ c ∧ ∀ j x, xs[j]? = some x → ∃ b o, a = some ⟨b, o, none⟩ ∧ B ≤ b ∧ b < w.heap.size ∧ w.cell? ⟨b, o + j, none⟩ = some x
theorem SlF.sl {B : Nat} {w : World} {v : Value} {xs : List Value} (h : SlF B w v xs) : Sl w v xs := by
  obtain ⟨a, c, h1, h2, h3⟩ := h
  exact ⟨a, c, h1, h2, fun j x hj => by obtain ⟨b, o, e1, _, e2, e3⟩ := h3 j x hj; exact ⟨b, o, e1, e2, e3⟩⟩
theorem SlF.shape {B : Nat} {w : World} {v : Value} {xs : List Value} (h : SlF B w v xs) : ∃ a n c, v = .slice a n c := by obtain ⟨a, c, h1, _⟩ := h; exact ⟨a, _, c, h1⟩
theorem SlF.mono {B B' : Nat} {w : World} {v : Value} {xs : List Value} (h : SlF B w v xs) (hb : B' ≤ B) : SlF B' w v xs := by
  obtain ⟨a, c, h1, h2, h3⟩ := h
  exact ⟨a, c, h1, h2, fun j x hj => by obtain ⟨b, o, e1, e0, e2, e3⟩ := h3 j x hj; exact ⟨b, o, e1, Nat.le_trans hb e0, e2, e3⟩⟩
theorem SlF.nil (B : Nat) (w : World) : SlF B w (.slice none 0 0) [] := ⟨none, 0, rfl, Nat.le_refl _, fun j x hj => by simp at hj⟩
/-- .. of rows of structs -/
def SpF {α : Type} (cs : α → List Value) (n : Nat) (B : Nat) (w : World) (v : Value) (l : List α) : Prop := ∃ a cap, v = .slice a l.length cap ∧ (l.length ≤ cap ∧ (a = none → cap = 0)) ∧ ∀ i c, l[i]? = some c → ∃ b o, a = some ⟨b, o, none⟩ ∧ B ≤ b ∧ b < w.heap.size ∧ w.rangeAt b (o + i * n) (cs c)
section
variable {α : Type} {cs : α → List Value} {n B B' : Nat} {w : World} {v : Value} {l : List α}
theorem SpF.sp (h : SpF cs n B w v l) : Ro.Sp cs n w v l := by
  obtain ⟨a, c, h1, h2, h3⟩ := h
  exact ⟨a, c, h1, h2, fun j x hj => by obtain ⟨b, o, e1, _, e2, e3⟩ := h3 j x hj; exact ⟨b, o, e1, e2, e3⟩⟩
theorem SpF.shape (h : SpF cs n B w v l) : ∃ a n c, v = .slice a n c := by obtain ⟨a, c, h1, _⟩ := h; exact ⟨a, _, c, h1⟩
theorem SpF.mono (h : SpF cs n B w v l) (hb : B' ≤ B) : SpF cs n B' w v l := by
  obtain ⟨a, c, h1, h2, h3⟩ := h
  exact ⟨a, c, h1, h2, fun j x hj => by obtain ⟨b, o, e1, e0, e2, e3⟩ := h3 j x hj; exact ⟨b, o, e1, Nat.le_trans hb e0, e2, e3⟩⟩
theorem SpF.nil (B : Nat) (w : World) : SpF cs n B w (.slice none 0 0) [] := ⟨none, 0, rfl, ⟨Nat.le_refl _, fun _ => rfl⟩, fun i c hi => by simp at hi⟩
theorem SpF.of_own (hn : ∀ c, (cs c).length = n) {e : TypeId} (h : w.ownsRow B e n v l.length (Ro.flat cs l)) : SpF cs n B w v l := by
  rcases h.2 with ⟨rfl, h0⟩ | ⟨g, cap, cur, rfl, hB, hg, h1, h2, h3, h4⟩
  · have : l = [] := List.eq_nil_of_length_eq_zero h0
    subst this
    exact SpF.nil B w
  · have hlt : g < w.heap.size := (Array.getElem?_eq_some_iff.1 hg).1
    refine ⟨some ⟨g, 0, Option.none⟩, cap, rfl, ⟨by omega, fun e => by cases e⟩, fun i c hi => ⟨g, 0, rfl, hB, hlt, fun j v hv => ?_⟩⟩
    have hc := h.cells (g := g) rfl (i * n + j) v (Ro.flat_get hn hi hv)
    have e : (⟨g, 0, Option.none⟩ : Addr).add (i * n + j) = ⟨g, 0 + i * n + j, Option.none⟩ := by simp [Addr.add]; omega
    rwa [e] at hc
end
theorem SlF.of_own {w : World} {B : Nat} {e : TypeId} {v : Value} {l : List Int} (h : w.ownsRow B e 1 v l.length (iv l)) : SlF B w v (iv l) := by
  rcases h.2 with ⟨rfl, h0⟩ | ⟨g, cap, cur, rfl, hB, hg, h1, h2, h3, h4⟩
  · have : l = [] := List.eq_nil_of_length_eq_zero h0
    subst this
    exact SlF.nil B w
  · have hlt : g < w.heap.size := (Array.getElem?_eq_some_iff.1 hg).1
    refine ⟨some ⟨g, 0, none⟩, cap, by rw [iv_len], by rw [iv_len]; exact h1, fun j x hj => ⟨g, 0, rfl, hB, hlt, ?_⟩⟩
    have hc := h.cells (g := g) rfl j x hj
    rwa [show (⟨g, 0, none⟩ : Addr).add j = ⟨g, 0 + j, none⟩ by simp [Addr.add]; omega] at hc
/-- what is said of a world stays true when a call only adds, and when a block below B is written -/
structure Keeps (B : Nat) (F : World → Prop) : Prop where
  kp : ∀ W W', F W → Kp W.heap.size W W' → F W'
  st : ∀ b W W', b < B → St b W W' → F W → F W'
theorem SlF.keeps {B : Nat} {v : Value} {xs : List Value} : Keeps B fun W => SlF B W v xs := by
  refine ⟨fun W W' h hb => ?_, fun b W W' hlt hs h => ?_⟩
  · obtain ⟨a, c, h1, h2, h3⟩ := h
    refine ⟨a, c, h1, h2, fun j x hj => ?_⟩
    obtain ⟨b, o, e1, e0, e2, e3⟩ := h3 j x hj
    exact ⟨b, o, e1, e0, Nat.lt_of_lt_of_le e2 hb.size, (hb.below.cell (p := ⟨b, o + j, none⟩) e2).trans e3⟩
  · obtain ⟨a, c, h1, h2, h3⟩ := h
    refine ⟨a, c, h1, h2, fun j x hj => ?_⟩
    obtain ⟨b2, o, e1, e0, e2, e3⟩ := h3 j x hj
    exact ⟨b2, o, e1, e0, by rw [hs.size]; exact e2, (hs.cells b2 (o + j) (by omega)).trans e3⟩
theorem SpF.keeps {α : Type} {cs : α → List Value} {n B : Nat} {v : Value} {l : List α} : Keeps B fun W => SpF cs n B W v l := by
  refine ⟨fun W W' h hb => ?_, fun b W W' hlt hs h => ?_⟩
  · obtain ⟨a, c, h1, h2, h3⟩ := h
    refine ⟨a, c, h1, h2, fun j x hj => ?_⟩
    obtain ⟨b, o, e1, e0, e2, e3⟩ := h3 j x hj
    exact ⟨b, o, e1, e0, Nat.lt_of_lt_of_le e2 hb.size, Ro.range_below e3 hb.below e2⟩
  · obtain ⟨a, c, h1, h2, h3⟩ := h
    refine ⟨a, c, h1, h2, fun j x hj => ?_⟩
    obtain ⟨b2, o, e1, e0, e2, e3⟩ := h3 j x hj
    exact ⟨b2, o, e1, e0, by rw [hs.size]; exact e2, fun k u hu => (hs.cells b2 (o + j * n + k) (by omega)).trans (e3 k u hu)⟩
theorem Keeps.and {B : Nat} {F G : World → Prop} (h : Keeps B F) (k : Keeps B G) : Keeps B fun W => F W ∧ G W :=
  ⟨fun W W' hh hb => ⟨h.kp W W' hh.1 hb, k.kp W W' hh.2 hb⟩, fun b W W' hlt hs hh => ⟨h.st b W W' hlt hs hh.1, k.st b W W' hlt hs hh.2⟩⟩
/-- one of the call's own blocks is written, whole; what hangs on newer blocks stays -/
theorem wpList_stoF {ty : TypeId} {n : Nat} (ht : Ty ty n) {F : World → Prop} {B : Nat} (KF : Keeps B F) {ops : Array Oper} {rest : List Oper} {op : Oper} {a : Act} {w0 w : World} {Q : Exit → Act → World → Prop} {ms : List (Nat × List Value)} (HO : Ow w0 w ms) (HF : F w) (i : Nat) (us : List Value)
    (hgd : Region.wanted op (yielded ops a.tmps) = true) (x y : Operand) (ho : op.op = .store ty x y) (b : Nat) (hx : a.eval x = .pointer (some ⟨b, 0, none⟩)) (hy : a.eval y = .agg us.toArray)
    (vs : List Value) (hi : ms[i]? = some (b, vs)) (hl : vs.length = n) (hu : us.length = n) (h1 : us.all (·.oneCell') = true) (hb : b < B)
    (h : ∀ w', Ow w0 w' (ms.set i (b, us)) → F w' → wpList Try.prog ops Q rest (a.put op.dst undef) w') : wpList Try.prog ops Q (op :: rest) a w :=
  wpList_str ht hgd x y ho b hx us hy hu (by simpa using h1) vs hl (HO.at i hi) (h _ (HO.put i hi (by omega)) (KF.st b _ _ hb (St.setCells us) HF))
/-- .. one cell of it -/
theorem wpList_put1F {F : World → Prop} {B : Nat} (KF : Keeps B F) {ops : Array Oper} {rest : List Oper} {op : Oper} {a : Act} {w0 w : World} {Q : Exit → Act → World → Prop} {ms : List (Nat × List Value)} (HO : Ow w0 w ms) (HF : F w) (i : Nat)
    (hgd : Region.wanted op (yielded ops a.tmps) = true) {b : Nat} {vs : List Value} (j : Nat) (hj : j < vs.length) (v : Value) (hi : ms[i]? = some (b, vs)) (hb : b < B)
    (hrun : w.cell? ⟨b, j, none⟩ = vs[j]? → w.frozen? ⟨b, j, none⟩ = false → ∀ K : Act → World → Prop, K (a.put op.dst undef) (w.setCell ⟨b, j, none⟩ v) → op.wp Try.prog a w K Q)
    (h : ∀ w', Ow w0 w' (ms.set i (b, vs.set j v)) → F w' → wpList Try.prog ops Q rest (a.put op.dst undef) w') : wpList Try.prog ops Q (op :: rest) a w :=
  wpList_of_wp hgd fun K hK => hrun (by rw [List.getElem?_eq_getElem hj]; exact (HO.at i hi).cell j (List.getElem?_eq_getElem hj)) ((HO.at i hi).froz j hj) K (hK _ _ (h _ (HO.put1 i hi j hj v) (KF.st b _ _ hb (St.setCell v) HF)))
namespace Rg4
/-- the region's own blocks, and what is said of a value that a call answered -/
def If (w : World) (ms : List (Nat × List Value)) (F : Option Value → World → Prop) (s : List (Nat × List Value) × Option Value) (W : World) : Prop := Rg2.Io w ms s.1 W ∧ F s.2 W
theorem gives_call (G : Value → Prop) {ops : Array Oper} {w : World} {ms s : List (Nat × List Value)} {F : Option Value → World → Prop} {o : Oper} {a : Act} (f : FuncId) (args : Array Value) (hgd : Region.wanted o (yielded ops a.tmps) = true)
    (he : ∀ W, (execOp a.eval o).run Try.prog W = .ok (.enter f args) W) (hc : ∀ W, Rg2.Io w ms s W → Calls Try.prog f args W fun e w' => ∃ v, e = .returned v ∧ F (some v) w' ∧ Kp W.heap.size W w' ∧ G v) :
    Gives Try.prog ops (If w ms F) o a (s, none) (fun s' v => s' = (s, some v) ∧ G v) := by
  refine ⟨hgd, fun W hI => ?_⟩
  rw [he W]
  show Calls _ _ _ _ _
  exact (hc W hI.1).mono fun e w' ⟨v, e1, e2, e3, e4⟩ => ⟨v, e1, (s, some v), ⟨rfl, e4⟩, hI.1.call e3, e2⟩
theorem puts_cellF {ops : Array Oper} {w : World} {ms s : List (Nat × List Value)} {F : Option Value → World → Prop} {B : Nat} (KF : ∀ x, Keeps B (F x)) {x : Option Value} {o : Oper} {a : Act} (i : Nat) (hgd : Region.wanted o (yielded ops a.tmps) = true) {b : Nat} {vs : List Value} (j : Nat) (hj : j < vs.length) (v : Value)
    (hi : s[i]? = some (b, vs)) (hb : b < B) (hrun : ∀ W : World, W.cell? ⟨b, j, none⟩ = vs[j]? → W.frozen? ⟨b, j, none⟩ = false → (execOp a.eval o).run Try.prog W = .ok .skip (W.setCell ⟨b, j, none⟩ v)) :
    Puts Try.prog ops (If w ms F) o a (s, x) (s.set i (b, vs.set j v), x) := by
  refine ⟨hgd, fun W hI => ⟨W.setCell ⟨b, j, none⟩ v, ?_, ?_, (KF x).st b _ _ hb (St.setCell v) hI.2⟩⟩
  · have hlt : i < s.length := (List.getElem?_eq_some_iff.1 hi).1
    have hR : Rc W b vs := Ow.at hI.1 i (by rw [List.getElem?_append_left hlt]; exact hi)
    exact hrun W (by rw [List.getElem?_eq_getElem hj]; exact hR.cell j (List.getElem?_eq_getElem hj)) (hR.froz j hj)
  · have hlt : i < s.length := (List.getElem?_eq_some_iff.1 hi).1
    have h2 := Ow.put1 hI.1 i (by rw [List.getElem?_append_left hlt]; exact hi) j hj v
    rw [List.set_append_left _ _ hlt] at h2
    exact h2
end Rg4
end Go.Proofs.Ytkmhnfbjapfbeaa
