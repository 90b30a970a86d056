/-
  Plain facts of layer 5 (vec): numbers within bounds, sums of products by 2^16, matrices as functions of the place.
-/
import Derived.Deep.Quiet
import Derived.Below
import Derived.Test.YtankjlpanmmogaaGreatRows
import Derived.WalkKit
import Derived.WalkSpells
import Derived.WalkLawsBesides
import Derived.ProofKit
import Derived.OpenShut
import Derived.Lib.Hide
import Derived.Handy
import Derived.Deep.QuietTactic
import Derived.BigQuiet
import Derived.Deep.RegionHeld3
import Derived.Deep.LoopGhost
import Derived.Deep.MidRow
import Derived.Deep.DeepCutAuto
import Derived.ChangeKeysEq
import Derived.Laws.StructEq
import Derived.RowKit
import Derived.Laws.BitsLemmas
import Derived.Laws.Bits64
namespace Go.Proofs.YtankjlpanmmogaaGreat
set_option maxRecDepth 100000

/-- the first n numbers are from -most to most -/
def Vc.wi (most : Int) (f : Nat → Int) (n : Nat) : Bool := (List.range n).all fun j => decide (-most ≤ f j ∧ f j ≤ most)
theorem Vc.wi_true {most : Int} {f : Nat → Int} {n : Nat} (h : ∀ j, j < n → -most ≤ f j ∧ f j ≤ most) : Vc.wi most f n = true := by
  unfold Vc.wi
  simp only [List.all_eq_true, List.mem_range, decide_eq_true_eq]
  exact h
theorem Vc.wi_false {most : Int} {f : Nat → Int} {n k : Nat} (hk : k < n) (h : ¬ (-most ≤ f k ∧ f k ≤ most)) : Vc.wi most f n = false := by
  unfold Vc.wi
  rw [List.all_eq_false]
  exact ⟨k, by simp [hk], by simpa using h⟩
theorem Vc.wi_all {most : Int} {f : Nat → Int} {n : Nat} (h : Vc.wi most f n = true) : ∀ j, j < n → -most ≤ f j ∧ f j ≤ most := by
  unfold Vc.wi at h
  simpa only [List.all_eq_true, List.mem_range, decide_eq_true_eq] using h
theorem Vc.wi_congr {most : Int} {f g : Nat → Int} {n : Nat} (h : ∀ j, j < n → f j = g j) : Vc.wi most f n = Vc.wi most g n := by
  unfold Vc.wi
  rw [Bool.eq_iff_iff]
  simp only [List.all_eq_true, List.mem_range, decide_eq_true_eq]
  exact ⟨fun k j hj => h j hj ▸ k j hj, fun k j hj => (h j hj).symm ▸ k j hj⟩

/-- a row times a column, by 2^16, cut downwards -/
def Vc.ps (a b : Nat → Int) : Nat → Int
  | 0 => 0
  | k + 1 => Vc.ps a b k + a k * b k
def Vc.prod (a b : Nat → Int) : Int := Vc.ps a b 4 / 65536
/-- a row, a column of a matrix -/
def Vc.row (m : Nat → Int) (i j : Nat) : Int := m (4 * i + j)
def Vc.col (m : Nat → Int) (i j : Nat) : Int := m (4 * j + i)
/-- the matrix with these numbers where row and column are the same -/
def Vc.diag (l : Nat → Int) (j : Nat) : Int := if j % 5 = 0 then l (j / 5) else 0
/-- a vector that is moved, a product -/
def Vc.app (m v : Nat → Int) (i : Nat) : Int := Vc.prod (Vc.row m i) v
def Vc.mul (a b : Nat → Int) (j : Nat) : Int := Vc.prod (Vc.row a (j / 4)) (Vc.col b (j % 4))
/-- numbers by their places -/
def Vc.v4 (x y z u : Int) : Nat → Int
  | 0 => x | 1 => y | 2 => z | _ => u

/-- a diagonal, laid up to row k -/
def Vc.dk (l : Nat → Int) (k j : Nat) : Int := if j % 5 = 0 ∧ j / 5 < k then l (j / 5) else 0
theorem Vc.dk_all (l : Nat → Int) {j : Nat} (hj : j < 16) : Vc.dk l 4 j = Vc.diag l j := by
  unfold Vc.dk Vc.diag
  by_cases h : j % 5 = 0
  · rw [if_pos ⟨h, by omega⟩, if_pos h]
  · rw [if_neg (fun c => h c.1), if_neg h]
theorem Vc.dk_succ (l : Nat → Int) {k j : Nat} : (if j = 5 * k then l k else Vc.dk l k j) = Vc.dk l (k + 1) j := by
  unfold Vc.dk
  by_cases h : j = 5 * k
  · subst h
    have e : 5 * k / 5 = k := by omega
    rw [if_pos rfl, if_pos ⟨by omega, by omega⟩, e]
  · rw [if_neg h]
    by_cases c : j % 5 = 0 ∧ j / 5 < k
    · rw [if_pos c, if_pos ⟨c.1, by omega⟩]
    · rw [if_neg c, if_neg (fun d => c ⟨d.1, by omega⟩)]
/-- the matrix that moves nothing -/
def Vc.one : Nat → Int := Vc.diag fun _ => 65536
/-- one that moves, laid up to row k -/
def Vc.mk (x y z : Int) (k j : Nat) : Int := if j % 4 = 3 ∧ j / 4 < k then 256 * Vc.v4 x y z 0 (j / 4) else Vc.one j
def Vc.mov (x y z : Int) : Nat → Int := Vc.mk x y z 3
theorem Vc.mk_zero (x y z : Int) (j : Nat) : Vc.mk x y z 0 j = Vc.one j := by unfold Vc.mk; rw [if_neg (by omega)]
theorem Vc.mk_succ (x y z : Int) {k j : Nat} : (if j = 4 * k + 3 then 256 * Vc.v4 x y z 0 k else Vc.mk x y z k j) = Vc.mk x y z (k + 1) j := by
  unfold Vc.mk
  by_cases h : j = 4 * k + 3
  · subst h
    have e : (4 * k + 3) / 4 = k := by omega
    rw [if_pos rfl, if_pos ⟨by omega, by omega⟩, e]
  · rw [if_neg h]
    by_cases c : j % 4 = 3 ∧ j / 4 < k
    · rw [if_pos c, if_pos ⟨c.1, by omega⟩]
    · rw [if_neg c, if_neg (fun d => c ⟨d.1, by omega⟩)]

theorem Vc.mul_bd {x y p q : Int} (hx : -p ≤ x ∧ x ≤ p) (hy : -q ≤ y ∧ y ≤ q) : -(p * q) ≤ x * y ∧ x * y ≤ p * q := by
  have hp : 0 ≤ p := by omega
  have hq : 0 ≤ q := by omega
  have h : (x * y).natAbs ≤ (p * q).natAbs := by
    rw [Int.natAbs_mul, Int.natAbs_mul]
    exact Nat.mul_le_mul (by omega) (by omega)
  have h2 : 0 ≤ p * q := Int.mul_nonneg hp hq
  omega
theorem Vc.ps_bd {a b : Nat → Int} (ha : ∀ j, j < 4 → -16777216 ≤ a j ∧ a j ≤ 16777216) (hb : ∀ j, j < 4 → -1073741824 ≤ b j ∧ b j ≤ 1073741824) :
    ∀ k, k ≤ 4 → -(18014398509481984 * k) ≤ Vc.ps a b k ∧ Vc.ps a b k ≤ 18014398509481984 * k
  | 0, _ => by simp [Vc.ps]
  | k + 1, hk => by
    have ih := Vc.ps_bd ha hb k (by omega)
    have := Vc.mul_bd (ha k (by omega)) (hb k (by omega))
    simp only [Vc.ps]
    omega
theorem Vc.prod_bd {a b : Nat → Int} (ha : ∀ j, j < 4 → -16777216 ≤ a j ∧ a j ≤ 16777216) (hb : ∀ j, j < 4 → -1073741824 ≤ b j ∧ b j ≤ 1073741824) :
    -1099511627776 ≤ Vc.prod a b ∧ Vc.prod a b ≤ 1099511627776 := by
  have := Vc.ps_bd ha hb 4 (by omega)
  unfold Vc.prod
  omega
end Go.Proofs.YtankjlpanmmogaaGreat

/-
  A region that draws its order: operations that answer the same whatever else came up (loads of what stands, calls that only make memory) beside operations that make a new variable.
  ONE walk of the first kind serves every order; of the second kind all that is known is that each has a block of its own.
-/
namespace Go.Proofs.YtankjlpanmmogaaGreat.Rg
set_option maxRecDepth 100000
open Go.RowKit

section
variable {P : Program} {ops : Array Oper} {md : Region.Mode} {I : List Nat → World → Prop} {dem : Nat → Bool} {m : Nat}

/-- in state a, whatever was made so far, operation o leaves v in its slot, and a world of the same kind -/
def Same (P : Program) (ops : Array Oper) (I : List Nat → World → Prop) (o : Oper) (v : Value) (a : Act) : Prop :=
  (Region.wanted o (yielded ops a.tmps) = true ∧ ∀ bs w, I bs w → o.quietAt P a (I bs) w v) ∨ (Region.wanted o (yielded ops a.tmps) = false ∧ v = undef)
/-- operation o makes a new block -/
def Makes (P : Program) (ops : Array Oper) (I : List Nat → World → Prop) (o : Oper) : Prop :=
  ∀ a : Act, Region.wanted o (yielded ops a.tmps) = true ∧ ∀ bs w, I bs w → ∃ w1, (execOp a.eval o).run P w = .ok (.value (.pointer (some ⟨w.heap.size, 0, none⟩))) w1 ∧ I (w.heap.size :: bs) w1 ∧ w.heap.size ∉ bs
/-- operation number i comes up -/
def Up (P : Program) (ops : Array Oper) (I : List Nat → World → Prop) (dem : Nat → Bool) (i : Nat) (K : List Nat → Act → Prop) (bs : List Nat) (a : Act) : Prop :=
  ∃ o, ops[i]? = some o ∧ (dem i = true ∧ Makes P ops I o ∧ (∀ b, b ∉ bs → K (b :: bs) (a.put o.dst (.pointer (some ⟨b, 0, none⟩)))) ∨ dem i = false ∧ ∃ v, Same P ops I o v a ∧ K bs (a.put o.dst v))
/-- whatever comes up next, f times -/
def Any (P : Program) (md : Region.Mode) (ops : Array Oper) (I : List Nat → World → Prop) (dem : Nat → Bool) (m : Nat) (T : Array Bool → List Nat → Act → Prop) : Nat → Array Bool → List Nat → Act → Prop
  | 0, listed, bs, a => (∀ j, j ∈ Region.ready md ops listed → m ≤ j) ∧ T listed bs a
  | f + 1, listed, bs, a => Region.ready md ops listed ≠ [] ∧ ∀ i, i ∈ Region.ready md ops listed → Up P ops I dem i (Any P md ops I dem m T f (listed.setIfInBounds i true)) bs a

theorem wpAny_of {Q : Exit → Act → World → Prop} {T : Array Bool → List Nat → Act → Prop} {g : Nat} (hT : ∀ listed bs a w, T listed bs a → I bs w → wpAny P md ops Q g listed a w) :
    ∀ (f : Nat) (listed : Array Bool) (bs : List Nat) (a : Act) (w : World), Any P md ops I dem m T f listed bs a → I bs w → wpAny P md ops Q (f + g) listed a w
  | 0, listed, bs, a, w, h, hI => by rw [Nat.zero_add]; exact hT _ _ _ _ h.2 hI
  | f + 1, listed, bs, a, w, h, hI => by
    rw [show f + 1 + g = (f + g) + 1 by omega]
    refine ⟨fun h0 => absurd h0 h.1, fun i hi => ?_⟩
    obtain ⟨o, ho, hu⟩ := h.2 i hi
    unfold wpOp
    simp only [ho]
    rcases hu with ⟨_, hmk, hK⟩ | ⟨_, v, hy, hK⟩
    · obtain ⟨hw, hr⟩ := hmk a
      obtain ⟨w1, hrun, hI1, hn⟩ := hr bs w hI
      simp only [hw, if_true]
      refine .inl ?_
      unfold Oper.wp
      rw [hrun]
      exact wpAny_of hT f _ _ _ _ (hK _ hn) hI1
    · rcases hy with ⟨hw, hq⟩ | ⟨hw, rfl⟩
      · simp only [hw, if_true]
        exact .inl (Oper.wp_of_quiet (C := I bs) (K := fun a' => Any P md ops I dem m T f (listed.setIfInBounds i true) bs a') hI (fun a' w' hw' hk => wpAny_of hT f _ _ _ _ hk hw') ⟨v, hq bs, hK⟩)
      · simp only [hw, Bool.false_eq_true, if_false]
        exact wpAny_of hT f _ _ _ _ hK hI

theorem Same.of_same {o : Oper} {v : Value} {a a' : Act} (hy : Same P ops I o v a) (he : execOp a'.eval o = execOp a.eval o)
    (hw : Region.wanted o (yielded ops a'.tmps) = Region.wanted o (yielded ops a.tmps)) : Same P ops I o v a' := by
  unfold Same Oper.quietAt at *
  rw [he, hw]
  exact hy

theorem Up.mono {i : Nat} {K K' : List Nat → Act → Prop} {bs : List Nat} {a : Act} (h : ∀ bs a, K bs a → K' bs a) (hu : Up P ops I dem i K bs a) : Up P ops I dem i K' bs a := by
  obtain ⟨o, ho, hu⟩ := hu
  refine ⟨o, ho, ?_⟩
  rcases hu with ⟨h1, h2, h3⟩ | ⟨h1, v, h2, h3⟩
  · exact .inl ⟨h1, h2, fun b hb => h _ _ (h3 b hb)⟩
  · exact .inr ⟨h1, v, h2, h _ _ h3⟩

/-- an operation apart from one that answers the same: whether that one's answer lies in its slot already makes no difference -/
theorem Up.past {j : Nat} {oi oj : Oper} {v : Value} (hj : ops[j]? = some oj) (hap : oi.apart ops oj = true)
    (hsi : ∀ cs b, oi.op ≠ .select cs b) (hsj : ∀ cs b, oj.op ≠ .select cs b) {K : List Nat → Act → Prop} {bs : List Nat} {a : Act}
    (hy : Same P ops I oi v a) (h : Up P ops I dem j K bs (a.put oi.dst v)) :
    Up P ops I dem j (fun bs a' => Same P ops I oi v a' ∧ K bs (a'.put oi.dst v)) bs a := by
  obtain ⟨k1, k2, k3⟩ := Oper.apart_spec hap
  have keep : ∀ u, Same P ops I oi v (a.put oj.dst u) := fun u => hy.of_same (execOp_put oi hsi a oj.dst u k3) (wanted_put oi a oj.dst u k3)
  obtain ⟨o, ho, hu⟩ := h
  obtain rfl : o = oj := Option.some.inj (ho.symm.trans hj)
  refine ⟨o, ho, ?_⟩
  rcases hu with ⟨h1, h2, h3⟩ | ⟨h1, u, h2, h3⟩
  · refine .inl ⟨h1, h2, fun b hb => ⟨keep _, ?_⟩⟩
    rw [← Act.put_comm a v _ k2]
    exact h3 b hb
  · refine .inr ⟨h1, u, ?_, keep u, ?_⟩
    · exact h2.of_same (execOp_put o hsj a oi.dst v k1).symm (wanted_put o a oi.dst v k1).symm
    · rw [← Act.put_comm a v u k2]
      exact h3

theorem not_listed {i : Nat} {listed : Array Bool} (h0 : listed.getD i true = false) (h1 : listed.getD i false = true) : False := by
  rcases Nat.lt_or_ge i listed.size with h | h
  · simp [h] at h0 h1; rw [h0] at h1; cases h1
  · simp [Array.getElem?_eq_none h] at h1

/-- what a listed operation waits for is listed -/
def Closed (md : Region.Mode) (ops : Array Oper) (listed : Array Bool) : Prop :=
  ∀ j oj, ops[j]? = some oj → listed.getD j false = true → ∀ e, e ∈ oj.after → Region.binds md e = true → listed.getD e.on false = true
theorem Closed.set {listed : Array Bool} {i : Nat} (h : Closed md ops listed) (hi : i ∈ Region.ready md ops listed) : Closed md ops (listed.setIfInBounds i true) := by
  intro j oj hj hl e he hb
  obtain ⟨_, oi, hoi, hall⟩ := mem_ready.1 hi
  by_cases hij : i = j
  · subst hij
    obtain rfl : oj = oi := Option.some.inj (hj.symm.trans hoi)
    exact getD_set_true (hall e he hb)
  · rw [getD_set_ne false hij] at hl
    exact getD_set_true (h j oj hj hl e he hb)
/-- number t waits for number i, by way of at most f others -/
def reachB (md : Region.Mode) (ops : Array Oper) (i : Nat) : Nat → Nat → Bool
  | 0, _ => false
  | f + 1, t => match ops[t]? with
    | some ot => ot.after.any fun e => Region.binds md e && (e.on == i || reachB md ops i f e.on)
    | none => false
theorem reach_listed {listed : Array Bool} {i : Nat} (hc : Closed md ops listed) : ∀ (f t : Nat), listed.getD t false = true → reachB md ops i f t = true → listed.getD i false = true
  | 0, t, _, h => by simp [reachB] at h
  | f + 1, t, ht, h => by
    unfold reachB at h
    split at h
    · rename_i ot hot
      obtain ⟨e, he, hb⟩ := Array.any_eq_true'.1 h
      simp only [Bool.and_eq_true, Bool.or_eq_true, beq_iff_eq] at hb
      have h1 := hc t ot hot ht e he hb.1
      rcases hb.2 with h2 | h2
      · rw [← h2]; exact h1
      · exact reach_listed hc f e.on h1 h2
    · cases h
theorem reach_ready {listed : Array Bool} {i t : Nat} (hc : Closed md ops listed) (f : Nat) (ht : t ∈ Region.ready md ops listed) (h : reachB md ops i f t = true) : listed.getD i false = true := by
  obtain ⟨_, ot, hot, hall⟩ := mem_ready.1 ht
  cases f with
  | zero => simp [reachB] at h
  | succ f =>
    unfold reachB at h
    simp only [hot] at h
    obtain ⟨e, he, hb⟩ := Array.any_eq_true'.1 h
    simp only [Bool.and_eq_true, Bool.or_eq_true, beq_iff_eq] at hb
    have h1 := hall e he hb.1
    rcases hb.2 with h2 | h2
    · rw [← h2]; exact h1
    · exact reach_listed hc f e.on h1 h2

/-- every operation from m on waits for number i -/
def waitB (md : Region.Mode) (ops : Array Oper) (m i : Nat) : Bool :=
  (List.range ops.size).all fun t => decide (t < m) || reachB md ops i 6 t
theorem waitB_spec {i t : Nat} (h : waitB md ops m i = true) (ht : m ≤ t) (hs : t < ops.size) : reachB md ops i 6 t = true := by
  have h1 := List.all_eq_true.1 h t (List.mem_range.2 hs)
  simp only [Bool.or_eq_true, decide_eq_true_eq] at h1
  rcases h1 with h1 | h1
  · omega
  · exact h1

/-- what answers the same may be taken first -/
theorem first {T : Array Bool → List Nat → Act → Prop} {i : Nat} {oi : Oper} {v : Value} (hi : ops[i]? = some oi) (hd : dem i = false)
    (hsel : ∀ (j : Nat) (o : Oper) cs b, ops[j]? = some o → o.op ≠ .select cs b) (hwait : waitB md ops m i = true) :
    ∀ (f : Nat) (listed : Array Bool) (bs : List Nat) (a : Act), Closed md ops listed →
      (∀ j oj, ops[j]? = some oj → j ≠ i → listed.getD j true = false → (∀ e ∈ oj.after, Region.binds md e = true → e.on ≠ i) → oi.apart ops oj = true) →
      i ∈ Region.ready md ops listed → Same P ops I oi v a →
      Any P md ops I dem m T f (listed.setIfInBounds i true) bs (a.put oi.dst v) → Any P md ops I dem m T (f + 1) listed bs a := by
  intro f
  induction f with
  | zero =>
    intro listed bs a hc _ hr hy H
    refine ⟨fun h => (by rw [h] at hr; cases hr), fun j hj => ?_⟩
    by_cases hji : j = i
    · subst hji; exact ⟨oi, hi, .inr ⟨hd, v, hy, H⟩⟩
    · exfalso
      have hm := H.1 j (ready_mono hj hji)
      obtain ⟨_, oj, hoj, _⟩ := mem_ready.1 hj
      exact not_listed (mem_ready.1 hr).1 (reach_ready hc 6 hj (waitB_spec hwait hm (Array.getElem?_eq_some_iff.1 hoj).1))
  | succ f ih =>
    intro listed bs a hc hfree hr hy H
    refine ⟨fun h => (by rw [h] at hr; cases hr), fun j hj => ?_⟩
    by_cases hji : j = i
    · subst hji; exact ⟨oi, hi, .inr ⟨hd, v, hy, H⟩⟩
    · have h1 := H.2 j (ready_mono hj hji)
      obtain ⟨hjun, oj, hoj, hall⟩ := mem_ready.1 hj
      have hnot : ∀ e ∈ oj.after, Region.binds md e = true → e.on ≠ i := fun e he hb heq => by
        have h2 := hall e he hb
        rw [heq] at h2
        exact not_listed (mem_ready.1 hr).1 h2
      have h2 := Up.past hoj (hfree j oj hoj hji hjun hnot) (fun cs b => hsel i oi cs b hi) (fun cs b => hsel j oj cs b hoj) hy h1
      refine Up.mono (fun bs' a' h3 => ih (listed.setIfInBounds j true) bs' a' (hc.set hj) ?_ (ready_mono hr (Ne.symm hji)) h3.1 ?_) h2
      · intro k ok hk hki hun hno
        refine hfree k ok hk hki ?_ hno
        by_cases hjk : j = k
        · subst hjk; exact hjun
        · rw [getD_set_ne true hjk] at hun; exact hun
      · rw [Array.setIfInBounds_comm _ _ hji]
        exact h3.2

/-- what has come up hangs together: reckoned -/
def closedB (md : Region.Mode) (ops : Array Oper) (listed : Array Bool) : Bool :=
  (List.range ops.size).all fun j => !listed.getD j false || match ops[j]? with
    | some oj => oj.after.all fun e => !Region.binds md e || listed.getD e.on false
    | none => true
theorem closedB_spec {listed : Array Bool} (h : closedB md ops listed = true) : Closed md ops listed := by
  intro j oj hj hl e he hb
  have h1 := List.all_eq_true.1 h j (List.mem_range.2 (Array.getElem?_eq_some_iff.1 hj).1)
  simp only [hl, hj, Bool.not_true, Bool.false_or] at h1
  have h2 := Array.all_eq_true'.1 h1 e he
  simpa [hb] using h2

/-- one step of the walk: number i is taken first; all that is asked of the region is reckoned -/
theorem take {T : Array Bool → List Nat → Act → Prop} {f : Nat} {listed : Array Bool} {bs : List Nat} {a : Act} (i : Nat) {oi : Oper} {v : Value} (hi : ops[i]? = some oi) (hd : dem i = false)
    (hs : Region.noSelect ops = true) (hw : waitB md ops m i = true) (hc : closedB md ops listed = true) (hf : Region.free md ops listed i = true) (hr : (Region.ready md ops listed).contains i = true)
    (hy : Same P ops I oi v a) (h : Any P md ops I dem m T f (listed.setIfInBounds i true) bs (a.put oi.dst v)) : Any P md ops I dem m T (f + 1) listed bs a :=
  first hi hd (Region.noSelect_spec hs) hw f listed bs a (closedB_spec hc) (Region.free_spec hi hf) (by simpa using hr) hy h

/-- a new variable -/
theorem made {T : Array Bool → List Nat → Act → Prop} {f : Nat} {listed : Array Bool} {bs : List Nat} {a : Act} {rs : List Nat} (hr : Region.ready md ops listed = rs) (hne : rs ≠ [])
    (h : ∀ i, i ∈ rs → Up P ops I dem i (Any P md ops I dem m T f (listed.setIfInBounds i true)) bs a) : Any P md ops I dem m T (f + 1) listed bs a :=
  ⟨fun h0 => hne (hr ▸ h0), hr ▸ h⟩
theorem up_made {i : Nat} {o : Oper} {K : List Nat → Act → Prop} {bs : List Nat} {a : Act} (ho : ops[i]? = some o) (hd : dem i = true) (hm : Makes P ops I o)
    (h : ∀ b, b ∉ bs → K (b :: bs) (a.put o.dst (.pointer (some ⟨b, 0, none⟩)))) : Up P ops I dem i K bs a := ⟨o, ho, .inl ⟨hd, hm, h⟩⟩

/-- only what waits for all of these is left -/
theorem done {T : Array Bool → List Nat → Act → Prop} {listed : Array Bool} {bs : List Nat} {a : Act} {rs : List Nat} (hr : Region.ready md ops listed = rs) (hm : (rs.all fun j => decide (m ≤ j)) = true) (h : T listed bs a) : Any P md ops I dem m T 0 listed bs a :=
  ⟨fun j hj => by rw [hr] at hj; simpa using List.all_eq_true.1 hm j hj, h⟩

/-- the region -/
theorem region {id : Nat} {Q : Exit → Act → World → Prop} {a : Act} {w : World} {T : Array Bool → List Nat → Act → Prop} {g : Nat} (hm : P.follows .mixedOrders = true) (hI : I [] w.drew) (hsz : m + g = ops.size)
    (hT : ∀ listed bs a w, T listed bs a → I bs w → wpAny P .any ops Q g listed a w)
    (h : Any P .any ops I dem m T m (Array.replicate ops.size false) [] a) : (Code.region id ops true).wp P Q a w := by
  refine wp_region_any hm ?_
  rw [← hsz]
  have := wpAny_of (Q := Q) hT m (Array.replicate ops.size false) [] a w.drew h hI
  rw [← hsz] at this
  exact this
end
end Go.Proofs.YtankjlpanmmogaaGreat.Rg

/-
  What stands in memory: blocks of a call's own, by the list of their cells; loads and stores of whole structs and arrays by value.
-/
namespace Go.Proofs.YtankjlpanmmogaaGreat
set_option maxRecDepth 100000
open Go.RowKit

theorem ret_int {k : IntKind} {a b : Int} (h : a = b) : Ending.returned (.int k a) = .returned (.int k b) := by rw [h]
theorem ret_bool {a b : Bool} (h : a = b) : Ending.returned (.bool a) = .returned (.bool b) := by rw [h]

/-- of what was there nothing has turned below block number B, and no mark of what may be written -/
structure Kp (B : Nat) (w w' : World) : Prop where
  below : Below B w w'
  frozen : ∀ a, w'.frozen? a = w.frozen? a
theorem Kp.refl (B : Nat) (w : World) : Kp B w w := ⟨Below.refl _ _, fun _ => rfl⟩
theorem Kp.trans {B : Nat} {a b c : World} (h : Kp B a b) (k : Kp B b c) : Kp B a c := ⟨h.below.trans k.below, fun x => (k.frozen x).trans (h.frozen x)⟩
theorem Kp.mono {B B' : Nat} {a b : World} (h : Kp B a b) (hB : B' ≤ B) : Kp B' a b := ⟨h.below.mono hB, h.frozen⟩
theorem Kp.alloc {B : Nat} {a w : World} (h : Kp B a w) (hB : B ≤ w.heap.size) (c : Array Value) (t : TypeId) : Kp B a (w.alloc (.cells c t)) :=
  ⟨h.below.alloc hB _, fun x => (frozen?_alloc_cells w c t x).trans (h.frozen x)⟩
theorem Kp.setCell {B : Nat} {a w : World} (h : Kp B a w) {p : Addr} (hp : B ≤ p.block) (u : Value) : Kp B a (w.setCell p u) :=
  ⟨h.below.setCell hp u, fun x => (by rw [World.frozen?_setCell]; exact h.frozen x)⟩
theorem Kp.drew {B : Nat} {a w : World} (h : Kp B a w) : Kp B a w.drew := ⟨h.below.drew, h.frozen⟩
theorem Kp.drewN {B : Nat} {a w : World} (h : Kp B a w) (n : Nat) : Kp B a (w.drewN n) := ⟨⟨h.below.os, h.below.tape, h.below.output, h.below.size, h.below.block⟩, h.frozen⟩
theorem Kp.next {a b c : World} (h : Kp a.heap.size a b) (k : Kp b.heap.size b c) : Kp a.heap.size a c := h.trans (k.mono h.below.size)
theorem Kp.grown {a b : World} (h : Kp a.heap.size a b) : Grown a b := ⟨h.below.frame _, h.frozen, h.below.size⟩
theorem Kp.cells {B : Nat} {w w' : World} (h : Kp B w w') : ∀ b o, b < B → w'.cell? ⟨b, o, none⟩ = w.cell? ⟨b, o, none⟩ := fun b o hb => h.below.cell (p := ⟨b, o, none⟩) hb
theorem Kp.size {B : Nat} {w w' : World} (h : Kp B w w') : w.heap.size ≤ w'.heap.size := h.below.size
theorem Kp.new (w : World) (c : Array Value) (t : TypeId) : Kp w.heap.size w (w.alloc (.cells c t)) := (Kp.refl _ _).alloc (Nat.le_refl _) c t

/-- only block b was written -/
structure St (b : Nat) (w w' : World) : Prop where
  cells : ∀ c o, c ≠ b → w'.cell? ⟨c, o, none⟩ = w.cell? ⟨c, o, none⟩
  frozen : ∀ a, w'.frozen? a = w.frozen? a
  size : w'.heap.size = w.heap.size
  below : ∀ B, B ≤ b → Below B w w'
theorem St.kp {b B : Nat} {a w w' : World} (h : St b w w') (hk : Kp B a w) (hb : B ≤ b) : Kp B a w' := ⟨hk.below.trans (h.below B hb), fun x => (h.frozen x).trans (hk.frozen x)⟩
theorem St.setCells {w : World} {b : Nat} (vs : List Value) : St b w (w.setCells b 0 vs) := by
  suffices h : ∀ (vs : List Value) (o : Nat) (w : World), St b w (w.setCells b o vs) from h vs 0 w
  intro vs
  induction vs with
  | nil => intro o w; exact ⟨fun _ _ _ => rfl, fun _ => rfl, rfl, fun B _ => Below.refl _ _⟩
  | cons v vs ih =>
    intro o w
    have h := ih (o + 1) (w.setCell ⟨b, o, none⟩ v)
    refine ⟨fun c k hc => ?_, fun a => ?_, ?_, fun B hB => ?_⟩
    · exact (h.cells c k hc).trans (World.cell?_setCell_far _ _ _ _ (Ne.symm hc))
    · exact (h.frozen a).trans (World.frozen?_setCell _ _ _ _)
    · exact h.size.trans (World.size_setCell _ _ _)
    · exact ((Below.refl B w).setCell (p := ⟨b, o, none⟩) hB v).trans (h.below B hB)

/-- a block holds these cells, and may be written -/
def Rc (W : World) (b : Nat) (vs : List Value) : Prop := ∀ j v, vs[j]? = some v → W.cell? ⟨b, j, none⟩ = some v ∧ W.frozen? ⟨b, j, none⟩ = false
section
variable {W W' : World} {b : Nat} {vs us : List Value}
theorem Rc.cell (h : Rc W b vs) (j : Nat) {v : Value} (hv : vs[j]? = some v) : W.cell? ⟨b, j, none⟩ = some v := (h j v hv).1
theorem Rc.froz (h : Rc W b vs) (j : Nat) (hj : j < vs.length) : W.frozen? ⟨b, j, none⟩ = false := (h j _ (List.getElem?_eq_getElem hj)).2
theorem Rc.kp {B : Nat} (h : Rc W b vs) (hk : Kp B W W') (hb : b < B) : Rc W' b vs := fun j v hv =>
  ⟨by rw [hk.cells b j hb]; exact (h j v hv).1, by rw [hk.frozen]; exact (h j v hv).2⟩
theorem Rc.lt (h : Rc W b vs) (hn : vs ≠ []) : b < W.heap.size := by
  obtain ⟨v, r, rfl⟩ := List.exists_cons_of_ne_nil hn
  exact World.block_lt_of_cell? W ⟨b, 0, none⟩ (h 0 v rfl).1
theorem Rc.st {c : Nat} (h : Rc W b vs) (s : St c W W') (hc : b ≠ c) : Rc W' b vs := fun j v hv =>
  ⟨by rw [s.cells b j hc]; exact (h j v hv).1, by rw [s.frozen]; exact (h j v hv).2⟩
theorem Rc.range (h : Rc W b vs) : W.rangeAt b 0 vs := fun j v hv => by rw [Nat.zero_add]; exact (h j v hv).1
theorem Rc.there (h : Rc W b vs) {n : Nat} (hl : n ≤ vs.length) : W.there b 0 n := fun j hj => by
  have h1 := h j _ (List.getElem?_eq_getElem (Nat.lt_of_lt_of_le hj hl))
  rw [Nat.zero_add]; exact ⟨by rw [h1.1]; rfl, h1.2⟩
theorem Rc.store (h : Rc W b vs) (hl : us.length ≤ vs.length) : Rc (W.setCells b 0 us) b us := fun j v hv => by
  have hj : j < us.length := (List.getElem?_eq_some_iff.1 hv).1
  have h1 := World.rangeAt_setCells_same W b 0 us (h.there hl) j v hv
  rw [Nat.zero_add] at h1
  exact ⟨h1, ((St.setCells _).frozen _).trans (h.froz j (by omega))⟩
end
theorem Rc.new (W : World) (vs : List Value) (t : TypeId) {b : Nat} (hb : b = W.heap.size) : Rc (W.alloc (.cells vs.toArray t)) b vs := by
  subst hb
  intro j v hv
  have h := heap_alloc_new W (.cells vs.toArray t)
  exact ⟨by rw [cell_of_row _ _ j _ _ _ h]; simpa using hv, frozen_of_row _ _ j _ _ h⟩

/-- a call's own blocks, the newest first; what stood before stands -/
structure Ow (w W : World) (ms : List (Nat × List Value)) : Prop where
  k : Kp w.heap.size w W
  all : ∀ q, q ∈ ms → Rc W q.1 q.2 ∧ q.2 ≠ [] ∧ w.heap.size ≤ q.1
  nd : ms.Pairwise fun p q => p.1 ≠ q.1
section
variable {w W W' : World} {ms : List (Nat × List Value)}
theorem Ow.refl (w : World) : Ow w w [] := ⟨Kp.refl _ _, fun _ h => (by cases h), .nil⟩
theorem Ow.lt (h : Ow w W ms) {q : Nat × List Value} (hq : q ∈ ms) : q.1 < W.heap.size := (h.all q hq).1.lt (h.all q hq).2.1
theorem Ow.call (h : Ow w W ms) (k : Kp W.heap.size W W') : Ow w W' ms :=
  ⟨h.k.next k, fun q hq => ⟨(h.all q hq).1.kp k (h.lt hq), (h.all q hq).2⟩, h.nd⟩
theorem Ow.drew (h : Ow w W ms) : Ow w W.drew ms := h.call (Kp.refl _ _).drew
theorem Ow.drewN (h : Ow w W ms) (n : Nat) : Ow w (W.drewN n) ms := h.call ((Kp.refl _ _).drewN n)
theorem Ow.new (h : Ow w W ms) (v : Value) (r : List Value) (t : TypeId) : Ow w (W.alloc (.cells (v :: r).toArray t)) ((W.heap.size, v :: r) :: ms) := by
  have h2 := h.call (Kp.new W (v :: r).toArray t)
  refine ⟨h2.k, fun q hq => ?_, .cons (fun q hq => ?_) h.nd⟩
  · rcases List.mem_cons.1 hq with rfl | hq
    · exact ⟨Rc.new _ _ _ rfl, by simp, h.k.size⟩
    · exact h2.all q hq
  · exact Nat.ne_of_gt (h.lt hq)
theorem Ow.newAt (h : Ow w W ms) (b : Nat) (hb : b = W.heap.size) (v : Value) (r : List Value) (t : TypeId) : Ow w (W.alloc (.cells (v :: r).toArray t)) ((b, v :: r) :: ms) := by subst hb; exact h.new v r t
theorem Ow.mem (h : Ow w W ms) {b : Nat} {vs : List Value} (hm : (b, vs) ∈ ms) : Rc W b vs := (h.all _ hm).1
theorem Ow.at (h : Ow w W ms) (i : Nat) {b : Nat} {vs : List Value} (hi : ms[i]? = some (b, vs)) : Rc W b vs := (h.all (b, vs) (List.mem_of_getElem? hi)).1
theorem Ow.mine (h : Ow w W ms) (i : Nat) {b : Nat} {vs : List Value} (hi : ms[i]? = some (b, vs)) : w.heap.size ≤ b := (h.all (b, vs) (List.mem_of_getElem? hi)).2.2
theorem Ow.swap {x y : Nat × List Value} (h : Ow w W (x :: y :: ms)) : Ow w W (y :: x :: ms) := by
  refine ⟨h.k, fun q hq => h.all q ?_, ?_⟩
  · simp only [List.mem_cons] at hq ⊢
    rcases hq with hq | hq | hq <;> simp [hq]
  · obtain ⟨h1, h2⟩ := List.pairwise_cons.1 h.nd
    obtain ⟨h3, h4⟩ := List.pairwise_cons.1 h2
    refine .cons (fun q hq => ?_) (.cons (fun q hq => h1 q (List.mem_cons_of_mem _ hq)) h4)
    rcases List.mem_cons.1 hq with rfl | hq
    · exact Ne.symm (h1 y (by simp))
    · exact h3 q hq
theorem Ow.put (h : Ow w W ms) (i : Nat) {b : Nat} {vs us : List Value} (hi : ms[i]? = some (b, vs)) (hl : us.length = vs.length) : Ow w (W.setCells b 0 us) (ms.set i (b, us)) := by
  have hR := h.at i hi
  have hn : i < ms.length := (List.getElem?_eq_some_iff.1 hi).1
  have he : ms[i] = (b, vs) := (List.getElem?_eq_some_iff.1 hi).2
  have hvs : vs ≠ [] := (h.all (b, vs) (List.mem_of_getElem? hi)).2.1
  have hus : us ≠ [] := fun e => hvs (List.length_eq_zero_iff.1 (by rw [← hl, e]; rfl))
  refine ⟨(St.setCells us).kp h.k (h.mine i hi), fun q hq => ?_, ?_⟩
  · obtain ⟨j, hj, rfl⟩ := List.getElem_of_mem hq
    rw [List.length_set] at hj
    rw [List.getElem_set]
    split
    · exact ⟨hR.store (by omega), hus, h.mine i hi⟩
    · rename_i hne
      have h9 := h.all ms[j] (List.getElem_mem hj)
      refine ⟨h9.1.st (St.setCells us) ?_, h9.2⟩
      have hp := List.pairwise_iff_getElem.1 h.nd
      rcases Nat.lt_or_gt_of_ne hne with hlt | hlt
      · have := hp i j hn hj hlt; rw [he] at this; exact Ne.symm this
      · have := hp j i hj hn hlt; rw [he] at this; exact this
  · refine List.pairwise_iff_getElem.2 fun x y hx hy hxy => ?_
    rw [List.length_set] at hx hy
    have hp := List.pairwise_iff_getElem.1 h.nd x y hx hy hxy
    simp only [List.getElem_set]
    split
    · rename_i e1; subst e1
      rw [if_neg (by omega)]; rw [he] at hp; exact hp
    · split
      · rename_i e1 e2; subst e2
        rw [he] at hp; exact hp
      · exact hp
end

/-- new blocks of one kind, whatever their numbers, beside a call's own -/
def Mk (w : World) (z : List Value) (ms : List (Nat × List Value)) (bs : List Nat) (W : World) : Prop := Ow w W (bs.map (fun b => (b, z)) ++ ms)
theorem Mk.call {w W W' : World} {z : List Value} {ms : List (Nat × List Value)} {bs : List Nat} (h : Mk w z ms bs W) (k : Kp W.heap.size W W') : Mk w z ms bs W' := Ow.call h k
theorem Mk.make {w W : World} {v : Value} {r : List Value} {ms : List (Nat × List Value)} {bs : List Nat} (h : Mk w (v :: r) ms bs W) (t : TypeId) :
    Mk w (v :: r) ms (W.heap.size :: bs) (W.alloc (.cells (v :: r).toArray t)) ∧ W.heap.size ∉ bs :=
  ⟨Ow.new h v r t, fun hm => Nat.lt_irrefl _ (Ow.lt h (q := (W.heap.size, v :: r)) (List.mem_append_left _ (List.mem_map.2 ⟨_, hm, rfl⟩)))⟩

/-- a struct or an array of n cells -/
structure Ty (ty : TypeId) (n : Nat) : Prop where
  size : (Tryz.prog.info? ty).map (·.size) = some n
  row : ∃ d, Tryz.prog.underlying ty = some d ∧ d.isRow = true
theorem wpList_of_wp {P : Program} {ops : Array Oper} {rest : List Oper} {op : Oper} {a : Act} {w : World} {Q : Exit → Act → World → Prop} (hw : Region.wanted op (yielded ops a.tmps) = true)
    (h : ∀ K : Act → World → Prop, (∀ a w, wpList P ops Q rest a w → K a w) → op.wp P a w K Q) : wpList P ops Q (op :: rest) a w :=
  wpList_step fun K hK => by rw [if_pos hw]; exact h K hK
section
variable {ty : TypeId} {n : Nat}
theorem run_ldr (ht : Ty ty n) {w : World} {b : Nat} {vs : List Value} (hR : Rc w b vs) (hl : vs.length = n) : (loadVar ty ⟨b, 0, none⟩).run Tryz.prog w = .ok (.agg vs.toArray) w := by
  obtain ⟨d, hu, hd⟩ := ht.row
  exact run_loadVar_mid w b 0 ty vs d hR.range hu hd (hl ▸ ht.size)
/-- a whole struct or array is read (behind a guard that lets by, if there is one) -/
theorem wpList_ldr (ht : Ty ty n) {ops : Array Oper} {rest : List Oper} {op : Oper} {a : Act} {w : World} {Q : Exit → Act → World → Prop} (hgd : Region.wanted op (yielded ops a.tmps) = true) (x : Operand) (ho : op.op = .load ty x)
    (b : Nat) (hx : a.eval x = .pointer (some ⟨b, 0, none⟩)) (vs : List Value) (hl : vs.length = n) (hR : Rc w b vs)
    (h : wpList Tryz.prog ops Q rest (a.put op.dst (.agg vs.toArray)) w) : wpList Tryz.prog ops Q (op :: rest) a w := by
  obtain ⟨d, hu, hd⟩ := ht.row
  exact wpList_of_wp hgd fun K hK => wp_load_mid ty x ho b 0 hx vs d hR.range hu hd (hl ▸ ht.size) (hK _ _ h)
/-- .. is written -/
theorem wpList_str (ht : Ty ty n) {ops : Array Oper} {rest : List Oper} {op : Oper} {a : Act} {w : World} {Q : Exit → Act → World → Prop} (hgd : Region.wanted op (yielded ops a.tmps) = true) (x y : Operand) (ho : op.op = .store ty x y)
    (b : Nat) (hx : a.eval x = .pointer (some ⟨b, 0, none⟩)) (us : List Value) (hy : a.eval y = .agg us.toArray) (hu : us.length = n) (h1 : us.toArray.all (·.oneCell') = true) (vs : List Value) (hl : vs.length = n) (hR : Rc w b vs)
    (h : wpList Tryz.prog ops Q rest (a.put op.dst undef) (w.setCells b 0 us)) : wpList Tryz.prog ops Q (op :: rest) a w :=
  wpList_of_wp hgd fun K hK => wp_store_mid ty x y ho b 0 us.toArray hx hy (by simpa using hR.there (n := us.length) (by omega)) (by simpa [hu] using ht.size) h1 (hK _ _ h)
/-- one of the call's own blocks is written, whole -/
theorem wpList_sto (ht : Ty ty n) {ops : Array Oper} {rest : List Oper} {op : Oper} {a : Act} {w0 w : World} {Q : Exit → Act → World → Prop} {ms : List (Nat × List Value)} (HO : Ow w0 w ms) (i : Nat) (us : List Value)
    (hgd : Region.wanted op (yielded ops a.tmps) = true) (x y : Operand) (ho : op.op = .store ty x y) (b : Nat) (hx : a.eval x = .pointer (some ⟨b, 0, none⟩)) (hy : a.eval y = .agg us.toArray)
    (vs : List Value) (hi : ms[i]? = some (b, vs)) (hl : vs.length = n) (hu : us.length = n) (h1 : us.all (·.oneCell') = true)
    (h : ∀ w', Ow w0 w' (ms.set i (b, us)) → wpList Tryz.prog ops Q rest (a.put op.dst undef) w') : wpList Tryz.prog ops Q (op :: rest) a w :=
  wpList_str ht hgd x y ho b hx us hy hu (by simpa using h1) vs hl (HO.at i hi) (h _ (HO.put i hi (by omega)))
/-- .. in a region that draws its order, where nothing else is left to come up -/
theorem wpAny_sto (ht : Ty ty n) {ops : Array Oper} {listed : Array Bool} {fuel : Nat} {op : Oper} {a : Act} {w0 w : World} {Q : Exit → Act → World → Prop} {ms : List (Nat × List Value)} (j : Nat) (hr : Region.ready .any ops listed = [j]) (hj : ops[j]? = some op) (HO : Ow w0 w ms) (i : Nat) (us : List Value)
    (hgd : Region.wanted op (yielded ops a.tmps) = true) (x y : Operand) (ho : op.op = .store ty x y) (b : Nat) (hx : a.eval x = .pointer (some ⟨b, 0, none⟩)) (hy : a.eval y = .agg us.toArray)
    (vs : List Value) (hi : ms[i]? = some (b, vs)) (hl : vs.length = n) (hu : us.length = n) (h1 : us.all (·.oneCell') = true)
    (h : ∀ w', Ow w0 w' (ms.set i (b, us)) → wpAny Tryz.prog .any ops Q fuel (listed.setIfInBounds j true) (a.put op.dst undef) w') : wpAny Tryz.prog .any ops Q (fuel + 1) listed a w := by
  refine wpAny_ready hr (by simp) (AllReady.cons hj (fun K hK => ?_) AllReady.nil)
  rw [if_pos hgd]
  exact wp_store_mid ty x y ho b 0 us.toArray hx hy (by simpa using (HO.at i hi).there (n := us.length) (by omega)) (by simpa [hu] using ht.size) (by simpa using h1) (hK _ _ (h _ (HO.put i (us := us) hi (by omega))))
theorem quiet_ldr (ht : Ty ty n) {o : Oper} {a : Act} {C : World → Prop} {w : World} {b : Nat} {vs : List Value} (x : Operand) (ho : o.op = .load ty x) (hx : a.eval x = .pointer (some ⟨b, 0, none⟩)) (hl : vs.length = n) (hR : Rc w b vs) :
    o.quietAt Tryz.prog a C w (.agg vs.toArray) := by
  unfold Oper.quietAt execOp
  simp only [ho, hx, Instr.loadAt, Instr.sureAddr, Sem.run_bind, Sem.run_pure, Result.andThen_ok, run_ldr ht hR hl]
  exact ⟨rfl, rfl⟩
theorem results_c (ht : Ty ty n) {fn : Func} {p : Tmp} (h : fn.results = #[.cell p ty]) {tmps : Array Value} {w : World} {b : Nat} {vs : List Value}
    (hp : tmps.getD p undef = .pointer (some ⟨b, 0, none⟩)) (hl : vs.length = n) (hR : Rc w b vs) : (results fn tmps).run Tryz.prog w = .ok (.agg vs.toArray) w := by
  have hp' : tmps[p]?.getD undef = .pointer (some ⟨b, 0, none⟩) := by simpa using hp
  simp [results, h, hp', asAddr, run_ldr ht hR hl]
theorem results_c2 (ht : Ty ty n) {fn : Func} {p q : Tmp} (h : fn.results = #[.cell p ty, .tmp q]) {tmps : Array Value} {w : World} {b : Nat} {vs : List Value} {v : Value}
    (hp : tmps.getD p undef = .pointer (some ⟨b, 0, none⟩)) (hq : tmps.getD q undef = v) (hl : vs.length = n) (hR : Rc w b vs) : (results fn tmps).run Tryz.prog w = .ok (.tuple #[.agg vs.toArray, v]) w := by
  have hp' : tmps[p]?.getD undef = .pointer (some ⟨b, 0, none⟩) := by simpa using hp
  have hq' : tmps[q]?.getD undef = v := by simpa using hq
  simp [results, h, hp', hq', asAddr, run_ldr ht hR hl]
end

/-- two structs, field by field -/
theorem eqStep {P : Program} {w : World} {d : Nat} {xs ys : Array Value} {f : Field} {fs : List Field} {r s : Bool} (hn : f.name ≠ "_")
    (hr : ∃ va vb, (part f.type xs f.offset).run P w = .ok va w ∧ (part f.type ys f.offset).run P w = .ok vb w ∧ (Op.equalIn d f.type va vb).run P w = .ok r w)
    (hs : (Op.eqFields d xs ys fs).run P w = .ok s w) : (Op.eqFields d xs ys (f :: fs)).run P w = .ok (r && s) w := by
  obtain ⟨va, vb, h1, h2, h3⟩ := hr
  simp only [Op.eqFields, if_pos hn, Sem.run_bind, h1, h2, h3, Result.andThen_ok]
  cases r
  · simp
  · simpa using hs
theorem eqInt (x y : Int) {w : World} {xs ys : Array Value} {o : Nat} (h1 : xs[o]? = some (.int .i64 x)) (h2 : ys[o]? = some (.int .i64 y)) :
    ∃ va vb, (part 3 xs o).run Tryz.prog w = .ok va w ∧ (part 3 ys o).run Tryz.prog w = .ok vb w ∧ (Op.equalIn 9999 3 va vb).run Tryz.prog w = .ok (x == y) w :=
  ⟨_, _, run_part_plain w (by kernel_rfl) h1, run_part_plain w (by kernel_rfl) h2, run_equalIn_int w 9998 _ _ _ _ _ Tryz.underlying3⟩
end Go.Proofs.YtankjlpanmmogaaGreat

/-
  Plain facts on whole numbers for layer 1 (fix): what its functions answer, as functions on Int; no program in sight.
-/
namespace Go.Proofs.YtankjlpanmmogaaGreat.Fx
set_option maxRecDepth 100000
open Go.RowKit

def sat (n lo hi : Int) : Int := if n < lo then lo else if hi < n then hi else n
def clamp (n : Int) : Int := if 9223372036854775807 < n then 9223372036854775807 else if n < -9223372036854775808 then -9223372036854775808 else n
def wrapsB (a b : Int) : Bool := decide (a = -9223372036854775808 ∧ b = -1)
def floor (a b : Int) : Int := if wrapsB a b then 9223372036854775807 else a.fdiv b
def ceil (a b : Int) : Int := if wrapsB a b then 9223372036854775807 else -((-a).fdiv b)

theorem clamp_bd (n : Int) : -9223372036854775808 ≤ clamp n ∧ clamp n ≤ 9223372036854775807 := by
  unfold clamp; split <;> (try split) <;> omega
theorem clamp_in {n : Int} (h : -9223372036854775808 ≤ n ∧ n ≤ 9223372036854775807) : clamp n = n := by
  unfold clamp; rw [if_neg (by omega), if_neg (by omega)]
theorem wrapsB_true {a b : Int} (h : wrapsB a b = true) : a = -9223372036854775808 ∧ b = -1 := by simpa [wrapsB] using h
theorem wrapsB_false {a b : Int} (h : wrapsB a b = false) : ¬ (a = -9223372036854775808 ∧ b = -1) := by simpa [wrapsB] using h

/-- the amount of a quotient that is cut off is at most the dividend's -/
theorem tdiv_bd {a b : Int} (ha : -9223372036854775808 ≤ a ∧ a ≤ 9223372036854775807) (hw : ¬ (a = -9223372036854775808 ∧ b = -1)) :
    -9223372036854775808 ≤ a.tdiv b ∧ a.tdiv b ≤ 9223372036854775807 := by
  have h1 : (a.tdiv b).natAbs ≤ a.natAbs := by rw [Int.natAbs_tdiv]; exact Nat.div_le_self _ _
  rcases Int.le_total 0 a with h | h
  · omega
  · by_cases e : a = -9223372036854775808
    · by_cases e1 : b = -1
      · exact absurd ⟨e, e1⟩ hw
      · have h2 : (a.tdiv b).natAbs = a.natAbs / b.natAbs := Int.natAbs_tdiv _ _
        by_cases e2 : b = 1
        · subst e2; simp; omega
        · by_cases e0 : b = 0
          · subst e0; simp
          · have : 2 ≤ b.natAbs := by omega
            have h3 : a.natAbs / b.natAbs ≤ a.natAbs / 2 := Nat.div_le_div_left this (by omega)
            omega
    · omega

theorem tmod_tdiv (a b : Int) : a - a.tdiv b * b = a.tmod b := by
  have := Int.tmod_add_mul_tdiv a b; rw [Int.mul_comm] at this; omega

theorem tmod_sign_nonneg {a b : Int} (h : 0 ≤ a) : 0 ≤ a.tmod b := Int.tmod_nonneg b h
theorem tmod_sign_nonpos {a b : Int} (h : a ≤ 0) : a.tmod b ≤ 0 := by
  have := Int.tmod_nonneg b (a := -a) (by omega); rw [Int.neg_tmod] at this; omega

theorem dvd_tmod {a b : Int} : b ∣ a ↔ a.tmod b = 0 := Int.dvd_iff_tmod_eq_zero

/-- cut downwards, out of cut off -/
theorem fdiv_down {a b : Int} (_hb : b ≠ 0) (h : (a.tmod b != 0) = true) (hs : (decide (a < 0) != decide (b < 0)) = true) : a.fdiv b = a.tdiv b - 1 := by
  rw [Int.fdiv_eq_tdiv, if_neg (by rw [dvd_tmod]; simpa using h)]
  by_cases h1 : 0 ≤ a
  · by_cases h2 : 0 ≤ b
    · simp [show ¬ a < 0 by omega, show ¬ b < 0 by omega] at hs
    · rw [if_pos h1, if_neg h2]
  · by_cases h2 : 0 ≤ b
    · rw [if_neg h1, if_pos h2, Int.sign_eq_one_of_pos (by omega)]
    · simp [show a < 0 by omega, show b < 0 by omega] at hs
theorem fdiv_same {a b : Int} (hs : (decide (a < 0) != decide (b < 0)) = false) : a.fdiv b = a.tdiv b := by
  rw [Int.fdiv_eq_tdiv]
  by_cases h : b ∣ a
  · rw [if_pos h]; omega
  · rw [if_neg h]
    by_cases h1 : 0 ≤ a
    · by_cases h2 : 0 ≤ b
      · rw [if_pos h1, if_pos h2]; omega
      · simp [show ¬ a < 0 by omega, show b < 0 by omega] at hs
    · by_cases h2 : 0 ≤ b
      · simp [show a < 0 by omega, show ¬ b < 0 by omega] at hs
      · rw [if_neg h1, if_neg h2, Int.sign_eq_neg_one_of_neg (by omega)]; omega
theorem fdiv_whole {a b : Int} (h : (a.tmod b != 0) = false) : a.fdiv b = a.tdiv b := by
  rw [Int.fdiv_eq_tdiv, if_pos (by rw [dvd_tmod]; simpa using h)]; omega
/-- cut upwards, out of cut off -/
theorem cdiv_up {a b : Int} (hb : b ≠ 0) (h : (a.tmod b != 0) = true) (hs : (decide (a < 0) == decide (b < 0)) = true) : -((-a).fdiv b) = a.tdiv b + 1 := by
  have h0 : a ≠ 0 := by intro e; subst e; simp at h
  rw [fdiv_down hb (by rw [Int.neg_tmod]; simp at h ⊢; omega), Int.neg_tdiv]
  · omega
  · by_cases h1 : a < 0
    · by_cases h2 : b < 0
      · simp [h2]; omega
      · simp [h1, h2] at hs
    · by_cases h2 : b < 0
      · simp [h1, h2] at hs
      · simp [h2]; omega
theorem cdiv_same {a b : Int} (hs : (decide (a < 0) == decide (b < 0)) = false) : -((-a).fdiv b) = a.tdiv b := by
  by_cases h0 : a = 0
  · subst h0; simp
  · rw [fdiv_same, Int.neg_tdiv]
    · omega
    · by_cases h1 : a < 0
      · by_cases h2 : b < 0
        · simp [h1, h2] at hs
        · simp [h2]; omega
      · by_cases h2 : b < 0
        · simp [h2]; omega
        · simp [h1, h2] at hs
theorem cdiv_whole {a b : Int} (h : (a.tmod b != 0) = false) : -((-a).fdiv b) = a.tdiv b := by
  rw [fdiv_whole (by rw [Int.neg_tmod]; simp at h ⊢; omega), Int.neg_tdiv]; omega
theorem floor_eq {a b : Int} (h : wrapsB a b = false) : floor a b = a.fdiv b := by unfold floor; rw [h]; rfl
theorem ceil_eq {a b : Int} (h : wrapsB a b = false) : ceil a b = -((-a).fdiv b) := by unfold ceil; rw [h]; rfl
theorem floor_wraps {a b : Int} (h : wrapsB a b = true) : floor a b = 9223372036854775807 := by unfold floor; rw [h]; rfl
theorem ceil_wraps {a b : Int} (h : wrapsB a b = true) : ceil a b = 9223372036854775807 := by unfold ceil; rw [h]; rfl
theorem tmod_le (a b : Int) : (a.tmod b).natAbs ≤ a.natAbs := by rw [Int.natAbs_tmod]; exact Nat.mod_le _ _
theorem tmod_lt {a b : Int} (hb : b ≠ 0) : (a.tmod b).natAbs < b.natAbs := by rw [Int.natAbs_tmod]; exact Nat.mod_lt _ (by omega)
/-- where something is left, the quotient is at most half -/
theorem tdiv_half {a b : Int} (h : (a.tmod b != 0) = true) : (a.tdiv b).natAbs ≤ a.natAbs / 2 := by
  rw [Int.natAbs_tdiv]; show a.natAbs / b.natAbs ≤ a.natAbs / 2
  have h1 : a.natAbs % b.natAbs ≠ 0 := by
    rw [← Int.natAbs_tmod]; have : a.tmod b ≠ 0 := by simpa using h
    omega
  by_cases hb : 2 ≤ b.natAbs
  · exact Nat.div_le_div_left hb (by omega)
  · have : b.natAbs = 0 ∨ b.natAbs = 1 := by omega
    rcases this with e | e
    · rw [e, Nat.div_zero]; omega
    · rw [e] at h1; omega
theorem prod_bd (a b : Int) : (0 ≤ a → 0 ≤ a.tdiv b * b ∧ a.tdiv b * b ≤ a) ∧ (a ≤ 0 → a ≤ a.tdiv b * b ∧ a.tdiv b * b ≤ 0) := by
  have e := tmod_tdiv a b
  have l := tmod_le a b
  constructor
  · intro h; have := tmod_sign_nonneg (b := b) h; omega
  · intro h; have := tmod_sign_nonpos (b := b) h; omega
def low (a b : Int) : Int := if a < b then a else b
def high (a b : Int) : Int := if b < a then a else b
theorem pow_le (k m : Nat) (h : k ≤ m) : (2 : Int) ^ k ≤ 2 ^ m := by
  have := Nat.pow_le_pow_right (n := 2) (by omega) h
  have e1 : ((2 ^ k : Nat) : Int) = 2 ^ k := by simp
  have e2 : ((2 ^ m : Nat) : Int) = 2 ^ m := by simp
  omega

/-! ### products -/
theorem clamp_double (x : Int) : clamp (clamp x + clamp x) = clamp (2 * x) := by
  unfold clamp; (repeat' split) <;> omega
theorem clamp_add_same (x y : Int) (h : 0 ≤ x ∧ 0 ≤ y ∨ x ≤ 0 ∧ y ≤ 0) : clamp (clamp x + y) = clamp (x + y) := by
  unfold clamp; (repeat' split) <;> omega
theorem clamp_sub_same (x y : Int) (h : 0 ≤ x ∧ y ≤ 0 ∨ x ≤ 0 ∧ 0 ≤ y) : clamp (clamp x - y) = clamp (x - y) := by
  unfold clamp; (repeat' split) <;> omega
theorem sign_mul (a m : Int) (hm : 0 ≤ m) : (0 ≤ a → 0 ≤ a * m) ∧ (a ≤ 0 → a * m ≤ 0) := by
  constructor
  · intro h; exact Int.mul_nonneg h hm
  · intro h; exact Int.mul_nonpos_of_nonpos_of_nonneg h hm
theorem mul2 (a m : Int) : a * (2 * m) = 2 * (a * m) := by rw [← Int.mul_assoc, Int.mul_comm a 2, Int.mul_assoc]
theorem step_up (a m : Int) (hm : 0 ≤ m) : clamp (clamp (clamp (a * m) + clamp (a * m)) + a) = clamp (a * (2 * m + 1)) := by
  obtain ⟨h1, h2⟩ := sign_mul a m hm
  rw [clamp_double, clamp_add_same]
  · congr 1; rw [Int.mul_add, Int.mul_one, mul2]
  · rcases Int.le_total 0 a with h | h
    · have := h1 h; omega
    · have := h2 h; omega
theorem step_even (a m : Int) : clamp (clamp (a * m) + clamp (a * m)) = clamp (a * (2 * m)) := by
  rw [clamp_double]; congr 1; rw [mul2]
theorem step_down (a m : Int) (hm : 0 ≤ m) : clamp (clamp (clamp (-(a * m)) + clamp (-(a * m))) - a) = clamp (-(a * (2 * m + 1))) := by
  obtain ⟨h1, h2⟩ := sign_mul a m hm
  rw [clamp_double, clamp_sub_same]
  · congr 1; rw [Int.mul_add, Int.mul_one, mul2]; omega
  · rcases Int.le_total 0 a with h | h
    · have := h1 h; omega
    · have := h2 h; omega
theorem step_even' (a m : Int) : clamp (clamp (-(a * m)) + clamp (-(a * m))) = clamp (-(a * (2 * m))) := by
  rw [clamp_double]; congr 1; rw [mul2]; omega
theorem last_down (a c : Int) (hc : 0 ≤ c) : clamp (clamp (-(a * c)) - a) = clamp (a * (-c - 1)) := by
  obtain ⟨h1, h2⟩ := sign_mul a c hc
  rw [clamp_sub_same]
  · congr 1; rw [Int.mul_sub, Int.mul_one, Int.mul_neg]
  · rcases Int.le_total 0 a with h | h
    · have := h1 h; omega
    · have := h2 h; omega
/-- the next bit -/
theorem half (c : Int) (k : Nat) : c / 2 ^ (k + 1) = c / 2 ^ k / 2 := by
  rw [Int.pow_succ, Int.ediv_ediv_of_nonneg (Int.le_of_lt (Int.pow_pos (by omega)))]
theorem half_eq (c : Int) (k : Nat) : c / 2 ^ k = 2 * (c / 2 ^ (k + 1)) + c / 2 ^ k % 2 := by
  rw [half]; omega
/-- all bits turned: of 64 -/
theorem turned (c : Int) (k : Nat) (hk : k ≤ 63) : ((18446744073709551615 - c) / 2 ^ k) % 2 = 1 - c / 2 ^ k % 2 := by
  have hp : (0 : Int) < 2 ^ k := Int.pow_pos (by omega)
  have e1 := Int.mul_ediv_add_emod c (2 ^ k)
  have b1 := Int.emod_nonneg c (Int.ne_of_gt hp)
  have b2 := Int.emod_lt_of_pos c hp
  have e2 : (18446744073709551616 : Int) = 2 ^ k * (2 * 2 ^ (63 - k)) := by
    rw [← Int.mul_assoc, Int.mul_comm (2 ^ k) 2, Int.mul_assoc, ← Int.pow_add, show k + (63 - k) = 63 by omega]; decide
  have e3 : 18446744073709551615 - c = (2 ^ k - 1 - c % 2 ^ k) + 2 ^ k * (2 * 2 ^ (63 - k) - 1 - c / 2 ^ k) := by
    rw [Int.mul_sub, Int.mul_sub, ← e2, Int.mul_one]; omega
  have e4 : (18446744073709551615 - c) / 2 ^ k = 2 * 2 ^ (63 - k) - 1 - c / 2 ^ k := by
    rw [e3, Int.add_mul_ediv_left _ _ (Int.ne_of_gt hp), Int.ediv_eq_zero_of_lt (by omega) (by omega)]; omega
  rw [e4]; omega
theorem small_div (c : Int) (k : Nat) (h0 : 0 ≤ c) (h : c < 9223372036854775808) (hk : 63 ≤ k) : c / 2 ^ k = 0 := by
  apply Int.ediv_eq_zero_of_lt h0
  have := pow_le 63 k hk
  have e : (2 : Int) ^ 63 = 9223372036854775808 := by decide
  omega

/-- a product that left the ints does not lead back, but for the one whose quotient does so too -/
theorem left_ints {a b : Int} (ha : -9223372036854775808 ≤ a ∧ a ≤ 9223372036854775807) (hb : -9223372036854775808 ≤ b ∧ b ≤ 9223372036854775807) (hb0 : b ≠ 0)
    (ho : ¬ (-9223372036854775808 ≤ a * b ∧ a * b ≤ 9223372036854775807)) (hw : wrapsB a b = false) : (wrap64 ((wrap64 (a * b)).tdiv b) == a) = false := by
  have hn := wrapsB_false hw
  have hwb : -9223372036854775808 ≤ wrap64 (a * b) ∧ wrap64 (a * b) ≤ 9223372036854775807 := by unfold wrap64; omega
  rw [beq_eq_false_iff_ne]
  intro h
  by_cases hx : wrap64 (a * b) = -9223372036854775808 ∧ b = -1
  · obtain ⟨h1, rfl⟩ := hx
    unfold wrap64 at h1
    apply hn; constructor
    · omega
    · rfl
  · have ht := tdiv_bd hwb hx
    have e1 : wrap64 ((wrap64 (a * b)).tdiv b) = (wrap64 (a * b)).tdiv b := by
      generalize (wrap64 (a * b)).tdiv b = t at *
      unfold wrap64; omega
    rw [e1] at h
    have e2 := tmod_tdiv (wrap64 (a * b)) b
    have l := tmod_lt (a := wrap64 (a * b)) hb0
    rw [h] at e2
    generalize (wrap64 (a * b)).tmod b = r at *
    unfold wrap64 at e2
    omega

theorem clamp_out {a b : Int} (ho : ¬ (-9223372036854775808 ≤ a * b ∧ a * b ≤ 9223372036854775807)) :
    (a < 0 ∧ b < 0 ∧ clamp (a * b) = 9223372036854775807) ∨ (a < 0 ∧ ¬ b < 0 ∧ clamp (a * b) = -9223372036854775808)
    ∨ (¬ a < 0 ∧ b < 0 ∧ clamp (a * b) = -9223372036854775808) ∨ (¬ a < 0 ∧ ¬ b < 0 ∧ clamp (a * b) = 9223372036854775807) := by
  by_cases h1 : a < 0
  · by_cases h2 : b < 0
    · have : 0 ≤ a * b := Int.mul_nonneg_of_nonpos_of_nonpos (by omega) (by omega)
      exact .inl ⟨h1, h2, by unfold clamp; rw [if_pos (by omega)]⟩
    · have : a * b ≤ 0 := Int.mul_nonpos_of_nonpos_of_nonneg (by omega) (by omega)
      exact .inr (.inl ⟨h1, h2, by unfold clamp; rw [if_neg (by omega), if_pos (by omega)]⟩)
  · by_cases h2 : b < 0
    · have : a * b ≤ 0 := Int.mul_nonpos_of_nonneg_of_nonpos (by omega) (by omega)
      exact .inr (.inr (.inl ⟨h1, h2, by unfold clamp; rw [if_neg (by omega), if_pos (by omega)]⟩))
    · have : 0 ≤ a * b := Int.mul_nonneg (by omega) (by omega)
      exact .inr (.inr (.inr ⟨h1, h2, by unfold clamp; rw [if_pos (by omega)]⟩))

/-! ### rounding -/
def round (n b : Int) : Int := if b = 0 then n else (n + 2 ^ (b.toNat - 1)) / 2 ^ b.toNat
theorem bits_one (x : Int) : bits .and .i64 x 1 = x % 2 := by
  have e : bits .and .i64 x 1 = IntKind.i64.wrap (((BitVec.ofInt 64 x &&& BitVec.ofInt 64 1).toNat : Nat) : Int) := rfl
  rw [e, BitVec.toNat_and, show (BitVec.ofInt 64 1).toNat = 1 by decide, Nat.and_one_is_mod, BitVec.toNat_ofInt, IntKind.wrap_i64]
  omega
theorem round_bits (n b : Int) (h1 : 1 ≤ b) : round n b = n / 2 ^ b.toNat + n / 2 ^ (b.toNat - 1) % 2 := by
  obtain ⟨k, rfl⟩ : ∃ k : Nat, b = (k : Int) + 1 := ⟨(b - 1).toNat, by omega⟩
  have ek : ((k : Int) + 1).toNat = k + 1 := by omega
  unfold round
  rw [if_neg (by omega), ek, Nat.add_sub_cancel, half, half]
  have hp : (0 : Int) < 2 ^ k := Int.pow_pos (by omega)
  have : (n + 2 ^ k) / 2 ^ k = n / 2 ^ k + 1 := by
    have := Int.add_mul_ediv_left n 1 (Int.ne_of_gt hp); rwa [Int.mul_one] at this
  rw [this]; omega
theorem div_pow_bd (n : Int) (k : Nat) (hn : -9223372036854775808 ≤ n ∧ n ≤ 9223372036854775807) : -4611686018427387904 ≤ n / 2 ^ (k + 1) ∧ n / 2 ^ (k + 1) ≤ 4611686018427387903 := by
  have hp : (0 : Int) < 2 ^ k := Int.pow_pos (by omega)
  rw [Int.pow_succ, Int.mul_comm, ← Int.ediv_ediv_of_nonneg (by omega)]
  constructor
  · have h1 : -4611686018427387904 ≤ n / 2 := by omega
    have := Int.le_ediv_of_mul_le (a := -4611686018427387904) (b := n / 2) hp
    apply this
    have : (-4611686018427387904 : Int) * 2 ^ k ≤ -4611686018427387904 * 1 := Int.mul_le_mul_of_nonpos_left (by omega) (by omega)
    omega
  · have h1 : n / 2 ≤ 4611686018427387903 := by omega
    apply Int.ediv_le_of_le_mul hp
    have : (4611686018427387903 : Int) * 1 ≤ 4611686018427387903 * 2 ^ k := Int.mul_le_mul_of_nonneg_left (by omega) (by omega)
    omega
theorem round_ref (n : Int) (k : Nat) : (2 ^ (k + 1) / 2 ≤ n - n / 2 ^ (k + 1) * 2 ^ (k + 1) ↔ n / 2 ^ k % 2 = 1) ∧ 0 ≤ n - n / 2 ^ (k + 1) * 2 ^ (k + 1) ∧ n - n / 2 ^ (k + 1) * 2 ^ (k + 1) < 2 ^ (k + 1) := by
  have hp : (0 : Int) < 2 ^ k := Int.pow_pos (by omega)
  have e1 := Int.mul_ediv_add_emod n (2 ^ k)
  have b1 := Int.emod_nonneg n (Int.ne_of_gt hp)
  have b2 := Int.emod_lt_of_pos n hp
  have e0 : (2 : Int) ^ (k + 1) = 2 * 2 ^ k := by rw [Int.pow_succ, Int.mul_comm]
  have e2 : n / 2 ^ (k + 1) * 2 ^ (k + 1) = 2 ^ k * (2 * (n / 2 ^ (k + 1))) := by
    conv => lhs; rw [Int.pow_succ]
    rw [Int.pow_succ, Int.mul_comm, Int.mul_assoc]
  have e3 := half_eq n k
  have e4 : 2 ^ k * (n / 2 ^ k) = 2 ^ k * (2 * (n / 2 ^ (k + 1))) + 2 ^ k * (n / 2 ^ k % 2) := by
    conv => lhs; rw [e3]
    rw [Int.mul_add]
  rw [e2]
  generalize (2 : Int) ^ k * (2 * (n / 2 ^ (k + 1))) = X at *
  rw [e0]
  have hd : n / 2 ^ k % 2 = 0 ∨ n / 2 ^ k % 2 = 1 := by omega
  rcases hd with h | h
  · rw [h] at e4 ⊢; rw [Int.mul_zero] at e4; omega
  · rw [h] at e4 ⊢; rw [Int.mul_one] at e4; omega

theorem low_pow (n : Int) (k : Nat) (hk : k ≤ 63) (hn : -9223372036854775808 ≤ n) : -9223372036854775808 ≤ n / 2 ^ k * 2 ^ k := by
  have hp : (0 : Int) < 2 ^ k := Int.pow_pos (by omega)
  have e : (-9223372036854775808 : Int) = -(2 ^ (63 - k)) * 2 ^ k := by
    rw [Int.neg_mul, ← Int.pow_add, show 63 - k + k = 63 by omega]; decide
  rw [e] at hn ⊢
  exact Int.mul_le_mul_of_nonneg_right (Int.le_ediv_of_mul_le hp hn) (Int.le_of_lt hp)

/-! ### from one number to another one -/
def lerp (a b t : Int) : Int := a + (b - a) * sat t 0 65536 / 65536
theorem sat_bd (t lo hi : Int) (h : lo ≤ hi) : lo ≤ sat t lo hi ∧ sat t lo hi ≤ hi := by unfold sat; (repeat' split) <;> omega
theorem mul_between (x y : Int) (h0 : 0 ≤ y) (h1 : y ≤ 65536) : (0 ≤ x → 0 ≤ x * y ∧ x * y ≤ x * 65536) ∧ (x ≤ 0 → x * 65536 ≤ x * y ∧ x * y ≤ 0) := by
  constructor
  · intro h; exact ⟨Int.mul_nonneg h h0, Int.mul_le_mul_of_nonneg_left h1 h⟩
  · intro h; exact ⟨Int.mul_le_mul_of_nonpos_left h h1, Int.mul_nonpos_of_nonpos_of_nonneg h h0⟩
theorem floor_pos {a b : Int} (h : 0 < b) : floor a b = a / b := by
  rw [floor_eq (by simp [wrapsB]; omega), Int.fdiv_eq_ediv_of_nonneg _ (by omega)]
theorem ceil_pos {a b : Int} (h : 0 < b) : ceil a b = -(-a / b) := by
  rw [ceil_eq (by simp [wrapsB]; omega), Int.fdiv_eq_ediv_of_nonneg _ (by omega)]
theorem ceil_floor {a b : Int} (h : 0 < b) : ceil a b = if a % b = 0 then floor a b else floor a b + 1 := by
  rw [ceil_pos h, floor_pos h, Int.neg_ediv]
  have : b ∣ a ↔ a % b = 0 := Int.dvd_iff_emod_eq_zero
  by_cases e : a % b = 0
  · rw [if_pos (this.2 e), if_pos e]; omega
  · rw [if_neg (fun h => e (this.1 h)), if_neg e, Int.sign_eq_one_of_pos h]; omega
end Go.Proofs.YtankjlpanmmogaaGreat.Fx

/-
  Contracts of layer 1 (fix): what its functions return, for every input; the world stays as it was. (FixWalks beside Mem.)
-/
namespace Go.Proofs.YtankjlpanmmogaaGreat
set_option maxRecDepth 100000
open Go.RowKit

set_option maxHeartbeats 400000 in
theorem wraps_any (a b : Int) (w : World) :
    Calls Tryz.prog 143 #[.int .i64 a, .int .i64 b] w fun e w' => e = .returned (.bool (Fx.wrapsB a b)) ∧ w = w' := by
  go_enter Tryz.func143, Tryz.ntmps143
  go_wp2
  all_goals go_ret
  all_goals exact ⟨ret_bool (by rw [Bool.eq_iff_iff]; simp [Fx.wrapsB, *]), rfl⟩

set_option maxHeartbeats 400000 in
theorem sat_any (n lo hi : Int) (w : World) :
    Calls Tryz.prog 49 #[.int .i64 n, .int .i64 lo, .int .i64 hi] w fun e w' => e = .returned (.int .i64 (Fx.sat n lo hi)) ∧ w = w' := by
  go_enter Tryz.func49, Tryz.ntmps49
  go_wp2
  all_goals go_ret
  all_goals exact ⟨ret_int (by unfold Fx.sat; (repeat' split) <;> omega), rfl⟩

set_option maxHeartbeats 400000 in
theorem rsat_any (n lo hi : Int) (w : World) :
    Calls Tryz.prog 26 #[.int .i64 n, .int .i64 lo, .int .i64 hi] w fun e w' => e = .returned (.int .i64 (Fx.sat n lo hi)) ∧ w = w' := by
  go_enter Tryz.func26, Tryz.ntmps26
  go_wp2
  all_goals go_ret
  all_goals exact ⟨ret_int (by unfold Fx.sat; (repeat' split) <;> omega), rfl⟩

set_option maxHeartbeats 400000 in
theorem sub_any (a b : Int) (w : World) (ha : -9223372036854775808 ≤ a ∧ a ≤ 9223372036854775807) (hb : -9223372036854775808 ≤ b ∧ b ≤ 9223372036854775807) :
    Calls Tryz.prog 100 #[.int .i64 a, .int .i64 b] w fun e w' => e = .returned (.int .i64 (Fx.clamp (a - b))) ∧ w = w' := by
  obtain ⟨ha1, ha2⟩ := ha
  obtain ⟨hb1, hb2⟩ := hb
  go_enter Tryz.func100, Tryz.ntmps100
  go_wp2
  all_goals go_ret
  all_goals exact ⟨ret_int (by unfold Fx.clamp; (repeat' split) <;> omega), rfl⟩

theorem floor_zero (a : Int) (w : World) :
    Calls Tryz.prog 120 #[.int .i64 a, .int .i64 0] w fun e w' => e = .returned (.tuple #[.int .i64 0, .int .i64 2]) ∧ w = w' := by
  go_enter Tryz.func120, Tryz.ntmps120
  go_wp2
  go_ret2
  exact ⟨rfl, rfl⟩

theorem floor_cases {a b : Int} (hb : b ≠ 0) (hw : Fx.wrapsB a b = false) (hm : (a.tmod b != 0) = true) :
    (a < 0 ∧ b < 0 ∧ (Fx.floor a b) = a.tdiv b) ∨ (a < 0 ∧ ¬ b < 0 ∧ (Fx.floor a b) = a.tdiv b - 1)
    ∨ (¬ a < 0 ∧ b < 0 ∧ (Fx.floor a b) = a.tdiv b - 1) ∨ (¬ a < 0 ∧ ¬ b < 0 ∧ (Fx.floor a b) = a.tdiv b) := by
  rw [Fx.floor_eq hw]
  by_cases h1 : a < 0
  · by_cases h2 : b < 0
    · exact .inl ⟨h1, h2, Fx.fdiv_same (by simp [h1, h2])⟩
    · exact .inr (.inl ⟨h1, h2, Fx.fdiv_down hb hm (by simp [h1, h2])⟩)
  · by_cases h2 : b < 0
    · exact .inr (.inr (.inl ⟨h1, h2, Fx.fdiv_down hb hm (by simp [h1, h2])⟩))
    · exact .inr (.inr (.inr ⟨h1, h2, Fx.fdiv_same (by simp [h1, h2])⟩))

theorem floor_fits (a b : Int) (ha : -9223372036854775808 ≤ a ∧ a ≤ 9223372036854775807) (hb : b ≠ 0) (hw : Fx.wrapsB a b = false) : -9223372036854775808 ≤ (Fx.floor a b) ∧ (Fx.floor a b) ≤ 9223372036854775807 := by
  have ht := Fx.tdiv_bd ha (Fx.wrapsB_false hw)
  rcases hm : (a.tmod b != 0) with _ | _
  · rw [Fx.floor_eq hw, Fx.fdiv_whole hm]; exact ht
  · have hh := Fx.tdiv_half hm
    rcases floor_cases hb hw hm with ⟨_, _, e⟩ | ⟨_, _, e⟩ | ⟨_, _, e⟩ | ⟨_, _, e⟩ <;> rw [e] <;> omega

set_option maxHeartbeats 400000 in
theorem floor_ok (a b : Int) (w : World) (ha : -9223372036854775808 ≤ a ∧ a ≤ 9223372036854775807) (hb : b ≠ 0) :
    Calls Tryz.prog 120 #[.int .i64 a, .int .i64 b] w fun e w' => e = .returned (.tuple #[.int .i64 (Fx.floor a b), .int .i64 0]) ∧ w = w' := by
  have hb0 : (b == 0) = false := by simpa using hb
  rcases hw : Fx.wrapsB a b with _ | _
  · obtain ⟨ht1, ht2⟩ := Fx.tdiv_bd ha (Fx.wrapsB_false hw)
    obtain ⟨hf1, hf2⟩ := floor_fits a b ha hb hw
    rcases hm : (a.tmod b != 0) with _ | _
    · have e : (Fx.floor a b) = a.tdiv b := by rw [Fx.floor_eq hw, Fx.fdiv_whole hm]
      rw [e]
      clear e hf1 hf2
      go_enter Tryz.func120, Tryz.ntmps120
      go_wp2_with ((go_at_call 143; refine (wraps_any _ _ _).mono ?_; rintro e w' ⟨rfl, rfl⟩))
      go_ret2
      exact ⟨rfl, rfl⟩
    · rcases floor_cases hb hw hm with ⟨h1, h2, e⟩ | ⟨h1, h2, e⟩ | ⟨h1, h2, e⟩ | ⟨h1, h2, e⟩
      all_goals
        have hm2 : 0 ≤ a → (a % b != 0) = true := fun h => by rw [← Int.tmod_eq_emod_of_nonneg h]; exact hm
        first | (have hm3 := hm2 (by omega)) | skip
        clear hm2
        have hd1 : decide (a < 0) = decide (a < 0) := rfl
        have hd2 : decide (b < 0) = decide (b < 0) := rfl
        conv at hd1 => rhs; simp only [h1, decide_true, decide_false]
        conv at hd2 => rhs; simp only [h2, decide_true, decide_false]
        rw [e] at hf1 hf2 ⊢
        clear e
        go_enter Tryz.func120, Tryz.ntmps120
        go_wp2_with ((go_at_call 143; refine (wraps_any _ _ _).mono ?_; rintro e w' ⟨rfl, rfl⟩))
        go_ret2
        exact ⟨rfl, rfl⟩
  · rw [Fx.floor_wraps hw]
    go_enter Tryz.func120, Tryz.ntmps120
    go_wp2_with ((go_at_call 143; refine (wraps_any _ _ _).mono ?_; rintro e w' ⟨rfl, rfl⟩))
    go_ret2
    exact ⟨rfl, rfl⟩

theorem ceil_cases {a b : Int} (hb : b ≠ 0) (hw : Fx.wrapsB a b = false) (hm : (a.tmod b != 0) = true) :
    (a < 0 ∧ b < 0 ∧ (Fx.ceil a b) = a.tdiv b + 1) ∨ (a < 0 ∧ ¬ b < 0 ∧ (Fx.ceil a b) = a.tdiv b)
    ∨ (¬ a < 0 ∧ b < 0 ∧ (Fx.ceil a b) = a.tdiv b) ∨ (¬ a < 0 ∧ ¬ b < 0 ∧ (Fx.ceil a b) = a.tdiv b + 1) := by
  rw [Fx.ceil_eq hw]
  by_cases h1 : a < 0
  · by_cases h2 : b < 0
    · exact .inl ⟨h1, h2, Fx.cdiv_up hb hm (by simp [h1, h2])⟩
    · exact .inr (.inl ⟨h1, h2, Fx.cdiv_same (by simp [h1, h2])⟩)
  · by_cases h2 : b < 0
    · exact .inr (.inr (.inl ⟨h1, h2, Fx.cdiv_same (by simp [h1, h2])⟩))
    · exact .inr (.inr (.inr ⟨h1, h2, Fx.cdiv_up hb hm (by simp [h1, h2])⟩))

theorem ceil_fits (a b : Int) (ha : -9223372036854775808 ≤ a ∧ a ≤ 9223372036854775807) (hb : b ≠ 0) (hw : Fx.wrapsB a b = false) : -9223372036854775808 ≤ (Fx.ceil a b) ∧ (Fx.ceil a b) ≤ 9223372036854775807 := by
  have ht := Fx.tdiv_bd ha (Fx.wrapsB_false hw)
  rcases hm : (a.tmod b != 0) with _ | _
  · rw [Fx.ceil_eq hw, Fx.cdiv_whole hm]; exact ht
  · have hh := Fx.tdiv_half hm
    rcases ceil_cases hb hw hm with ⟨_, _, e⟩ | ⟨_, _, e⟩ | ⟨_, _, e⟩ | ⟨_, _, e⟩ <;> rw [e] <;> omega

set_option maxHeartbeats 400000 in
theorem rfloor_any (a b : Int) (w : World) (ha : -9223372036854775808 ≤ a ∧ a ≤ 9223372036854775807) (hb : b ≠ 0) :
    Calls Tryz.prog 60 #[.int .i64 a, .int .i64 b] w fun e w' => e = .returned (.int .i64 (Fx.floor a b)) ∧ w = w' := by
  have hb0 : (b == 0) = false := by simpa using hb
  rcases hw : Fx.wrapsB a b with _ | _
  · obtain ⟨ht1, ht2⟩ := Fx.tdiv_bd ha (Fx.wrapsB_false hw)
    obtain ⟨hf1, hf2⟩ := floor_fits a b ha hb hw
    obtain ⟨hp1, hp2⟩ := Fx.prod_bd a b
    have hr := Fx.tmod_tdiv a b
    have hn := Fx.wrapsB_false hw
    have hpb1 : -9223372036854775808 ≤ a.tdiv b * b := by omega
    have hpb2 : a.tdiv b * b ≤ 9223372036854775807 := by omega
    have hrb1 : -9223372036854775808 ≤ a - a.tdiv b * b := by omega
    have hrb2 : a - a.tdiv b * b ≤ 9223372036854775807 := by omega
    have hor : (a == -9223372036854775808) = false ∨ (a == -9223372036854775808) = true ∧ (b == -1) = false := by
      by_cases hx : a = -9223372036854775808
      · exact .inr ⟨by simpa using hx, by simp; intro hy; exact hn ⟨hx, hy⟩⟩
      · exact .inl (by simpa using hx)
    rcases hm : (a.tmod b != 0) with _ | _
    · have e : (Fx.floor a b) = a.tdiv b := by rw [Fx.floor_eq hw, Fx.fdiv_whole hm]
      have hz : a.tmod b = 0 := by simpa using hm
      have hz1 : 0 ≤ a - a.tdiv b * b := by omega
      have hz2 : a - a.tdiv b * b ≤ 0 := by omega
      rw [e]
      clear e hf1 hf2 hp1 hp2 hr hz hm hw hn
      rcases hor with hx | ⟨hx, hy⟩
      all_goals
        go_enter Tryz.func60, Tryz.ntmps60
        go_wp2
        go_ret
        exact ⟨rfl, rfl⟩
    · have hz : a.tmod b ≠ 0 := by simpa using hm
      have hs1 := @Fx.tmod_sign_nonneg a b
      have hs2 := @Fx.tmod_sign_nonpos a b
      rcases floor_cases hb hw hm with ⟨h1, h2, e⟩ | ⟨h1, h2, e⟩ | ⟨h1, h2, e⟩ | ⟨h1, h2, e⟩
      all_goals
        first
          | have hz1 : a - a.tdiv b * b < 0 := by omega
          | have hz1 : 0 < a - a.tdiv b * b := by omega
        rw [e] at hf1 hf2 ⊢
        clear e hp1 hp2 hr hz hm hw hs1 hs2 hn
        rcases hor with hx | ⟨hx, hy⟩
        all_goals
          go_enter Tryz.func60, Tryz.ntmps60
          go_wp2
          go_ret
          exact ⟨rfl, rfl⟩
  · obtain ⟨rfl, rfl⟩ := Fx.wrapsB_true hw
    rw [Fx.floor_wraps hw]
    clear hw ha hb
    go_enter Tryz.func60, Tryz.ntmps60
    go_wp2
    go_ret
    exact ⟨rfl, rfl⟩

end Go.Proofs.YtankjlpanmmogaaGreat
