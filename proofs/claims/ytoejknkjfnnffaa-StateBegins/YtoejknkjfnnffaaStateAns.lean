/-
  Layer 18 (state): what Set answers, kind by kind; no program in sight.
-/
import Derived.Test.YtoejknkjfnnffaaStateFun
import Derived.BigGuard
namespace Go.Proofs.Ytoejknkjfnnffaa
open Go.RowKit

theorem Sx.err_5 {c : Sf} {l : List Int} (h0 : c 0 = 5) : Sx.err c l = Sx.eMat l := by unfold Sx.err; rw [if_pos h0]
theorem Sx.yes_5 {s c : Sf} {p q : Bool} {l : List Int} (h0 : c 0 = 5) (he : Sx.eMat l = 0) : Sx.ans s c l = Sx.mat s l ∧ Sx.ap p c l = p ∧ Sx.aq q c l = q := by
  have e := (Sx.err_5 (l := l) h0).trans he
  refine ⟨?_, ?_, ?_⟩
  · unfold Sx.ans Sx.new; rw [if_pos e, if_pos h0]
  · unfold Sx.ap Sx.np; rw [if_pos e, if_neg (by omega)]
  · unfold Sx.aq Sx.nq; rw [if_pos e, if_neg (by omega)]
theorem Sx.err_6 {c : Sf} {l : List Int} (h0 : c 0 = 6) : Sx.err c l = Sx.eView c := by unfold Sx.err; rw [if_neg (by omega), if_pos h0]
theorem Sx.yes_6 {s c : Sf} {p q : Bool} {l : List Int} (h0 : c 0 = 6) (he : Sx.eView c = 0) : Sx.ans s c l = Sx.rect 16 s (c 2) (c 3) (c 2 + c 4) (c 3 + c 5) ∧ Sx.ap p c l = p ∧ Sx.aq q c l = q := by
  have e := (Sx.err_6 (l := l) h0).trans he
  refine ⟨?_, ?_, ?_⟩
  · unfold Sx.ans Sx.new; rw [if_pos e, if_neg (by omega), if_pos h0]
  · unfold Sx.ap Sx.np; rw [if_pos e, if_neg (by omega)]
  · unfold Sx.aq Sx.nq; rw [if_pos e, if_neg (by omega)]
theorem Sx.err_7 {c : Sf} {l : List Int} (h0 : c 0 = 7) : Sx.err c l = Sx.eView c := by unfold Sx.err; rw [if_neg (by omega), if_neg (by omega), if_pos h0]
theorem Sx.yes_7 {s c : Sf} {p q : Bool} {l : List Int} (h0 : c 0 = 7) (he : Sx.eView c = 0) : Sx.ans s c l = Sx.rect 20 s (c 2) (c 3) (c 2 + c 4) (c 3 + c 5) ∧ Sx.ap p c l = p ∧ Sx.aq q c l = q := by
  have e := (Sx.err_7 (l := l) h0).trans he
  refine ⟨?_, ?_, ?_⟩
  · unfold Sx.ans Sx.new; rw [if_pos e, if_neg (by omega), if_neg (by omega), if_pos h0]
  · unfold Sx.ap Sx.np; rw [if_pos e, if_neg (by omega)]
  · unfold Sx.aq Sx.nq; rw [if_pos e, if_neg (by omega)]
theorem Sx.err_8 {c : Sf} {l : List Int} (h0 : c 0 = 8) : Sx.err c l = Sx.eDep c := by unfold Sx.err; rw [if_neg (by omega), if_neg (by omega), if_neg (by omega), if_pos h0]
theorem Sx.yes_8 {s c : Sf} {p q : Bool} {l : List Int} (h0 : c 0 = 8) (he : Sx.eDep c = 0) : Sx.ans s c l = Sx.dep s (c 2) ∧ Sx.ap p c l = (c 3 == 1) ∧ Sx.aq q c l = q := by
  have e := (Sx.err_8 (l := l) h0).trans he
  refine ⟨?_, ?_, ?_⟩
  · unfold Sx.ans Sx.new; rw [if_pos e, if_neg (by omega), if_neg (by omega), if_neg (by omega), if_pos h0]
  · unfold Sx.ap Sx.np; rw [if_pos e, if_pos h0]
  · unfold Sx.aq Sx.nq; rw [if_pos e, if_neg (by omega)]
theorem Sx.err_9 {c : Sf} {l : List Int} (h0 : c 0 = 9) : Sx.err c l = Sx.eSten l := by unfold Sx.err; rw [if_neg (by omega), if_neg (by omega), if_neg (by omega), if_neg (by omega), if_pos h0]
theorem Sx.yes_9 {s c : Sf} {p q : Bool} {l : List Int} (h0 : c 0 = 9) (he : Sx.eSten l = 0) : Sx.ans s c l = Sx.sten s l ∧ Sx.ap p c l = p ∧ Sx.aq q c l = q := by
  have e := (Sx.err_9 (l := l) h0).trans he
  refine ⟨?_, ?_, ?_⟩
  · unfold Sx.ans Sx.new; rw [if_pos e, if_neg (by omega), if_neg (by omega), if_neg (by omega), if_neg (by omega), if_pos h0]
  · unfold Sx.ap Sx.np; rw [if_pos e, if_neg (by omega)]
  · unfold Sx.aq Sx.nq; rw [if_pos e, if_neg (by omega)]
theorem Sx.err_10 {c : Sf} {l : List Int} (h0 : c 0 = 10) : Sx.err c l = Sx.eBlend c := by unfold Sx.err; rw [if_neg (by omega), if_neg (by omega), if_neg (by omega), if_neg (by omega), if_neg (by omega), if_pos h0]
theorem Sx.yes_10 {s c : Sf} {p q : Bool} {l : List Int} (h0 : c 0 = 10) (he : Sx.eBlend c = 0) : Sx.ans s c l = Sx.blend s (c 2) (c 3) (c 4) (c 5) ∧ Sx.ap p c l = p ∧ Sx.aq q c l = q := by
  have e := (Sx.err_10 (l := l) h0).trans he
  refine ⟨?_, ?_, ?_⟩
  · unfold Sx.ans Sx.new; rw [if_pos e, if_neg (by omega), if_neg (by omega), if_neg (by omega), if_neg (by omega), if_neg (by omega), if_pos h0]
  · unfold Sx.ap Sx.np; rw [if_pos e, if_neg (by omega)]
  · unfold Sx.aq Sx.nq; rw [if_pos e, if_neg (by omega)]
theorem Sx.err_11 {c : Sf} {l : List Int} (h0 : c 0 = 11) : Sx.err c l = Sx.eCull c := by unfold Sx.err; rw [if_neg (by omega), if_neg (by omega), if_neg (by omega), if_neg (by omega), if_neg (by omega), if_neg (by omega), if_pos h0]
theorem Sx.yes_11 {s c : Sf} {p q : Bool} {l : List Int} (h0 : c 0 = 11) (he : Sx.eCull c = 0) : Sx.ans s c l = Sx.cull s (c 2) ∧ Sx.ap p c l = p ∧ Sx.aq q c l = q := by
  have e := (Sx.err_11 (l := l) h0).trans he
  refine ⟨?_, ?_, ?_⟩
  · unfold Sx.ans Sx.new; rw [if_pos e, if_neg (by omega), if_neg (by omega), if_neg (by omega), if_neg (by omega), if_neg (by omega), if_neg (by omega), if_pos h0]
  · unfold Sx.ap Sx.np; rw [if_pos e, if_neg (by omega)]
  · unfold Sx.aq Sx.nq; rw [if_pos e, if_neg (by omega)]
theorem Sx.err_12 {c : Sf} {l : List Int} (h0 : c 0 = 12) : Sx.err c l = Sx.eBind c := by unfold Sx.err; rw [if_neg (by omega), if_neg (by omega), if_neg (by omega), if_neg (by omega), if_neg (by omega), if_neg (by omega), if_neg (by omega), if_pos h0]
theorem Sx.yes_12 {s c : Sf} {p q : Bool} {l : List Int} (h0 : c 0 = 12) (he : Sx.eBind c = 0) : Sx.ans s c l = Sx.bind s (c 1) (c 2) ∧ Sx.ap p c l = p ∧ Sx.aq q c l = (c 3 == 1) := by
  have e := (Sx.err_12 (l := l) h0).trans he
  refine ⟨?_, ?_, ?_⟩
  · unfold Sx.ans Sx.new; rw [if_pos e, if_neg (by omega), if_neg (by omega), if_neg (by omega), if_neg (by omega), if_neg (by omega), if_neg (by omega), if_neg (by omega), if_pos h0]
  · unfold Sx.ap Sx.np; rw [if_pos e, if_neg (by omega)]
  · unfold Sx.aq Sx.nq; rw [if_pos e, if_pos h0]
theorem Sx.no {s c : Sf} {p q : Bool} {l : List Int} (he : Sx.err c l ≠ 0) : Sx.ans s c l = Sx.zero ∧ Sx.ap p c l = false ∧ Sx.aq q c l = false := by
  refine ⟨?_, ?_, ?_⟩
  · unfold Sx.ans; rw [if_neg he]
  · unfold Sx.ap; rw [if_neg he]
  · unfold Sx.aq; rw [if_neg he]
theorem Sx.err_none {c : Sf} {l : List Int} (h : ¬ (5 ≤ c 0 ∧ c 0 ≤ 12)) : Sx.err c l = 9 := by
  unfold Sx.err; rw [if_neg (by omega), if_neg (by omega), if_neg (by omega), if_neg (by omega), if_neg (by omega), if_neg (by omega), if_neg (by omega), if_neg (by omega)]
theorem Sx.fun_none {n : Int} (h : ¬ (5 ≤ n ∧ n ≤ 12)) : Sx.fun n = Value.nilFunc := by
  unfold Sx.fun; rw [if_neg (by omega), if_neg (by omega), if_neg (by omega), if_neg (by omega), if_neg (by omega), if_neg (by omega), if_neg (by omega), if_neg (by omega)]
end Go.Proofs.Ytoejknkjfnnffaa
