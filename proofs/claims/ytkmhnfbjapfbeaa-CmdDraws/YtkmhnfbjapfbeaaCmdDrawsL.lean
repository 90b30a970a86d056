/-
  Words for the walk of CmdDraws (layer 20).
-/
import Derived.Test.YtkmhnfbjapfbeaaCmdBox
import Derived.Test.YtkmhnfbjapfbeaaCmdOpen
import Derived.Test.YtkmhnfbjapfbeaaRowsPush
import Derived.BigGuard
namespace Go.Proofs.Ytkmhnfbjapfbeaa
open Go.RowKit

theorem wpList_ldx {ops : Array Oper} {rest : List Oper} {op : Oper} {a : Act} {w : World} {Q : Exit → Act → World → Prop} (hgd : Region.wanted op (yielded ops a.tmps) = true) {ad : Addr} (v : Value) (hc : w.cell? ad = some v)
    (hrun : w.cell? ad = some v → ∀ K : Act → World → Prop, K (a.put op.dst v) w → op.wp Try.prog a w K Q) (h : wpList Try.prog ops Q rest (a.put op.dst v) w) : wpList Try.prog ops Q (op :: rest) a w :=
  wpList_of_wp hgd fun K hK => hrun hc K (hK _ _ h)
/-- is it a draw? -/
def Cm.Rw.is (r : Cm.Rw) : Bool := r.o == 14
/-- .. and which -/
def Cm.Rw.dr (r : Cm.Rw) : Nat → Int := if r.o = 14 then Cm.of4 r.h r.a r.b r.c else fun _ => 0
/-- the first that is no draw -/
theorem Cm.first_no {α : Type} (p : α → Bool) (l : List α) (h : l.all p = false) : ∃ m, ∃ hm : m < l.length, p l[m] = false ∧ ∀ k (hk : k < m), p (l[k]'(Nat.lt_trans hk hm)) = true := by
  induction l with
  | nil => simp at h
  | cons x l ih =>
    cases hp : p x
    · exact ⟨0, by simp, hp, fun k hk => absurd hk (Nat.not_lt_zero k)⟩
    · rw [List.all_cons, hp, Bool.true_and] at h
      obtain ⟨m, hm, h1, h2⟩ := ih h
      refine ⟨m + 1, by simp; exact hm, by simpa using h1, fun k hk => ?_⟩
      rcases k with _ | k
      · exact hp
      · simpa using h2 k (by omega)
theorem Cm.all_next {α : Type} (p : α → Bool) {l : List α} {j : Nat} (h : j < l.length) : (l.take (j + 1)).all p = ((l.take j).all p && p l[j]) := by
  rw [List.take_succ_eq_append_getElem h, List.all_append]
  simp
theorem Cm.map_next {α β : Type} (f : α → β) {l : List α} {j : Nat} (h : j < l.length) : (l.take (j + 1)).map f = (l.take j).map f ++ [f l[j]] := by
  rw [List.take_succ_eq_append_getElem h, List.map_append]
  rfl
/-- what the commands so far are -/
def Cm.Bxs (xs : List Value) (L : List Cm.Rw) : Prop := ∀ k (_ : k < xs.length) (h2 : k < L.length), Cm.Bx xs[k] L[k].is L[k].dr
theorem Cm.Bxs.next {xs : List Value} {L : List Cm.Rw} (h : Cm.Bxs xs L) {x : Value} (hx : ∀ h2 : xs.length < L.length, Cm.Bx x L[xs.length].is L[xs.length].dr) : Cm.Bxs (xs ++ [x]) L := by
  intro k hk h2
  rw [List.length_append, List.length_singleton] at hk
  rcases Nat.lt_or_eq_of_le (Nat.le_of_lt_succ hk) with h3 | rfl
  · rw [List.getElem_append_left h3]
    exact h k h3 h2
  · simpa using hx h2
/-- one of them is no draw: the first such -/
theorem Cm.draws_false {L : List Cm.Rw} {xs : List Value} (hbx : Cm.Bxs xs L) (hxl : xs.length = L.length) (hon : L.all Cm.Rw.is = false) :
    ∃ (ds : List (Nat → Int)) (_ : ds.length < xs.length), (∃ d, Cm.Bx xs[ds.length] false d) ∧ ∀ k (h : k < xs.length) (h2 : k < ds.length), Cm.Bx xs[k] true ds[k] := by
  obtain ⟨m, hm, hp, hbef⟩ := Cm.first_no Cm.Rw.is L hon
  have hdl : ((L.take m).map Cm.Rw.dr).length = m := by rw [List.length_map, List.length_take]; omega
  refine ⟨(L.take m).map Cm.Rw.dr, by omega, ⟨L[m].dr, ?_⟩, fun k h h2 => ?_⟩
  · have h1 := hbx m (by omega) hm
    rw [hp] at h1
    simp only [hdl]
    exact h1
  · rw [hdl] at h2
    have h1 := hbx k h (by omega)
    rw [hbef k h2] at h1
    simpa using h1
/-- all of them are draws -/
theorem Cm.draws_true {L : List Cm.Rw} {xs : List Value} (hbx : Cm.Bxs xs L) (hon : L.all Cm.Rw.is = true) :
    ∀ k (h : k < xs.length) (h2 : k < (L.map Cm.Rw.dr).length), Cm.Bx xs[k] true (L.map Cm.Rw.dr)[k] := by
  intro k h h2
  have h3 : k < L.length := by simpa using h2
  have h1 := hbx k h h3
  rw [List.all_eq_true.1 hon L[k] (List.getElem_mem _)] at h1
  simpa using h1
end Go.Proofs.Ytkmhnfbjapfbeaa
