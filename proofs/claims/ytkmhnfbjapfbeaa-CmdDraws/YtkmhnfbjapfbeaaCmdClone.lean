/-
  Contracts of slices.Clone, at ints and at vertices: a new row of the same.
-/
import Derived.Test.YtkmhnfbjapfbeaaCmdPlain
import Derived.Test.YtkmhnfbjapfbeaaCmdRegion
import Derived.Test.YtkmhnfbjapfbeaaRegionCl
import Derived.Lib.SliceRun
import Derived.Lib.Walk
import Derived.OwnWalk
import Derived.BigGuard
namespace Go.Proofs.Ytkmhnfbjapfbeaa
open Go.RowKit

set_option maxHeartbeats 2000000 in
set_option maxRecDepth 100000 in
theorem clone_ints (l : List Int) (v : Value) (w : World) (hS : Sl w v (iv l)) (hl : l.length ≤ 5000) :
    Calls Try.prog 16 #[v] w fun e w' => ∃ v', e = .returned v' ∧ SlF w.heap.size w' v' (iv l) ∧ Kp w.heap.size w w' := by
  obtain ⟨a1, c1, rfl, h2, h3⟩ := hS
  have q1 : ∀ (w : World) (a : Option Addr) (n c n' c' : Nat), (binOp .eql 22 (.slice a n c) (.slice none n' c')).run Try.prog w = .ok (.bool a.isNone) w := fun w a n c n' c' => Lib.run_eql_slice_nil w _ _ a n c n' c' Try.underlying22
  rcases a1 with _ | ad
  · have hl0 : l = [] := by
      rcases l with _ | ⟨x, l⟩
      · rfl
      · obtain ⟨b, o, e, _⟩ := h3 0 _ (iv_get (l := x :: l) (k := 0) (by simp)); cases e
    clear h2 h3
    go_enter Try.func16, Try.ntmps16
    go_wp2
    go_ret
    exact ⟨_, rfl, (by subst hl0; exact SlF.nil _ w), Kp.refl _ _⟩
  · have hx : ∀ j u, (iv l)[j]? = some u → w.cell? (ad.add j) = some u := fun j u hj => by
      obtain ⟨b, o, e1, _, e3⟩ := h3 j u hj
      cases e1
      rw [show (⟨b, o, none⟩ : Addr).add j = ⟨b, o + j, none⟩ by simp [Addr.add]]
      exact e3
    have A : Aside (∀ j u, (iv l)[j]? = some u → w.cell? (ad.add j) = some u) := hx
    clear hx h2 h3
    obtain ⟨i0, hi0⟩ : ∃ i, Try.prog.info? 3 = some i := Option.isSome_iff_exists.1 (by kernel_rfl)
    have j1 : i0.zero = some (.int .i64 0) := by have := (show (Try.prog.info? 3).map (·.zero) = some (some (.int .i64 0)) by kernel_rfl); rw [hi0] at this; simpa using this
    have j2 : i0.size = 1 := by have := (show (Try.prog.info? 3).map (·.size) = some 1 by kernel_rfl); rw [hi0] at this; simpa using this
    have j3 : i0.bytes = 8 := by have := (show (Try.prog.info? 3).map (·.bytes) = some 8 by kernel_rfl); rw [hi0] at this; simpa using this
    have u1 : ∀ w, Sem.run Try.prog (underlying 22) w = .ok (TypeDesc.slice 3) w := run_underlying Try.underlying22
    have J0 := Lib.hid hi0; have J1 := Lib.hid j1; have J2 := Lib.hid j2; have J3 := Lib.hid j3; have HL := Lib.hid hl
    clear hi0 j1 j2 j3 hl
    go_enter Try.func16, Try.ntmps16
    go_wp2_with (at_builtin; refine wpList_append_fresh rfl _ _ 22 rfl 3 i0 (.int .i64 0) 1 8 Try.underlying22 J0.out J1.out J2.out J3.out rfl (by decide) w.heap.size #[] rfl (heap_alloc_new w _) rfl ad _ c1 (iv l) rfl ?_ ?_ ?_ ?_ ?_ w.heap.size (Nat.le_refl _) (by simp) ?_)
    · simp
    · intro j u hj
      exact Lib.cell?_alloc_some _ (A.out j u hj)
    · intro u hu; obtain ⟨x, _, rfl⟩ := List.mem_map.1 hu; rfl
    · have := HL.out; rw [iv_len]; simp only [maxLen]; omega
    · have := HL.out; rw [iv_len]; omega
    intro v' w1 hown hk
    go_wp2
    go_ret
    exact ⟨v', rfl, SlF.of_own (by rw [iv_len] at hown; exact hown), ((Kp.refl w.heap.size w).alloc (Nat.le_refl _) #[] 3).trans (hk.mono (by simp))⟩
set_option maxHeartbeats 2000000 in
set_option maxRecDepth 100000 in
theorem clone_verts (l : List (Nat → Int)) (v : Value) (w : World) (hS : Ro.Sp Cm.vt 9 w v l) (hl : l.length ≤ 5000) :
    Calls Try.prog 15 #[v] w fun e w' => ∃ v', e = .returned v' ∧ SpF Cm.vt 9 w.heap.size w' v' l ∧ Kp w.heap.size w w' := by
  obtain ⟨a1, c1, rfl, h2, h3⟩ := hS
  have q1 : ∀ (w : World) (a : Option Addr) (n c n' c' : Nat), (binOp .eql 23 (.slice a n c) (.slice none n' c')).run Try.prog w = .ok (.bool a.isNone) w := fun w a n c n' c' => Lib.run_eql_slice_nil w _ _ a n c n' c' Try.underlying23
  rcases a1 with _ | ad
  · have hl0 : l = [] := by
      rcases l with _ | ⟨x, l⟩
      · rfl
      · obtain ⟨b, o, e, _⟩ := h3 0 x rfl; cases e
    clear h2 h3
    go_enter Try.func15, Try.ntmps15
    go_wp2
    go_ret
    exact ⟨_, rfl, (by subst hl0; exact SpF.nil _ w), Kp.refl _ _⟩
  · have hx : ∀ j u, (Ro.flat Cm.vt l)[j]? = some u → w.cell? (ad.add j) = some u := fun j u hj => by
      rcases Ro.Sp.full Cm.vt_len (by decide) (show Ro.Sp Cm.vt 9 w (.slice (some ad) l.length c1) l from ⟨_, _, rfl, h2, h3⟩) with ⟨e, _⟩ | ⟨ad', cap, e, h4⟩
      · cases e
      · cases e
        exact h4 j u hj
    have A : Aside (∀ j u, (Ro.flat Cm.vt l)[j]? = some u → w.cell? (ad.add j) = some u) := hx
    clear hx h2 h3
    obtain ⟨i0, hi0⟩ : ∃ i, Try.prog.info? 59 = some i := Option.isSome_iff_exists.1 (by kernel_rfl)
    have j1 : i0.zero = some (.agg #[.int .i64 0, .int .i64 0, .int .i64 0, .int .i64 0, .int .i64 0, .int .i64 0, .int .i64 0, .int .i64 0, .int .i64 0]) := by have := (show (Try.prog.info? 59).map (·.zero) = some (some (.agg #[.int .i64 0, .int .i64 0, .int .i64 0, .int .i64 0, .int .i64 0, .int .i64 0, .int .i64 0, .int .i64 0, .int .i64 0])) by kernel_rfl); rw [hi0] at this; simpa using this
    have j2 : i0.size = 9 := by have := (show (Try.prog.info? 59).map (·.size) = some 9 by kernel_rfl); rw [hi0] at this; simpa using this
    have j3 : i0.bytes = 72 := by have := (show (Try.prog.info? 59).map (·.bytes) = some 72 by kernel_rfl); rw [hi0] at this; simpa using this
    have u1 : ∀ w, Sem.run Try.prog (underlying 23) w = .ok (TypeDesc.slice 59) w := run_underlying Try.underlying23
    have J0 := Lib.hid hi0; have J1 := Lib.hid j1; have J2 := Lib.hid j2; have J3 := Lib.hid j3; have HL := Lib.hid hl
    clear hi0 j1 j2 j3 hl
    go_enter Try.func15, Try.ntmps15
    go_wp2_with (at_builtin; refine wpList_append_fresh rfl _ _ 23 rfl 59 i0 (.agg #[.int .i64 0, .int .i64 0, .int .i64 0, .int .i64 0, .int .i64 0, .int .i64 0, .int .i64 0, .int .i64 0, .int .i64 0]) 9 72 Try.underlying23 J0.out J1.out J2.out J3.out rfl (by decide) w.heap.size #[] rfl (heap_alloc_new w _) rfl ad _ c1 (Ro.flat Cm.vt l) rfl ?_ ?_ ?_ ?_ ?_ w.heap.size (Nat.le_refl _) (by simp) ?_)
    · rw [Ro.flat_len Cm.vt_len]
    · intro j u hj
      exact Lib.cell?_alloc_some _ (A.out j u hj)
    · intro u hu
      obtain ⟨x, _, hu⟩ := List.mem_flatMap.1 hu
      simp only [Cm.vt, List.mem_cons, List.not_mem_nil, or_false] at hu
      rcases hu with rfl | rfl | rfl | rfl | rfl | rfl | rfl | rfl | rfl <;> rfl
    · have := HL.out; simp only [maxLen]; omega
    · have := HL.out; omega
    intro v' w1 hown hk
    go_wp2
    go_ret
    exact ⟨v', rfl, SpF.of_own Cm.vt_len hown, ((Kp.refl w.heap.size w).alloc (Nat.le_refl _) #[] 59).trans (hk.mono (by simp))⟩
end Go.Proofs.Ytkmhnfbjapfbeaa
