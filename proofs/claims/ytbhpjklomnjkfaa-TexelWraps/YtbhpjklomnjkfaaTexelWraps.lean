/-
  What is proved: TexelWraps returns true for every three ints, and leaves them as they were. Conditions: none.
-/
import Derived.Test.YtbhpjklomnjkfaaRows
import Derived.Test.YtbhpjklomnjkfaaTexWalks
import Derived.WalkKit
import Derived.ProofKit
import Derived.OpenShut
namespace Go.Proofs.Ytbhpjklomnjkfaa.texelWraps
open Go.ChangeShapes Go.WideShapes Go.ChangeAt Go.RowKit
set_option linter.unusedVariables false

theorem own : ownKnob Try.prog.godebug = none := by kernel_rfl

/-! ### The walk: the Go text returns true -/
set_option maxHeartbeats 4000000 in
set_option maxRecDepth 100000 in
theorem walk (a0 : Int) (a1 : Int) (a2 : Int) (w0 : (Lit.int .i64 a0).wf = true) (w1 : (Lit.int .i64 a1).wf = true) (w2 : (Lit.int .i64 a2).wf = true) (w : World) :
    Calls Try.prog 5 #[.int .i64 a0, .int .i64 a1, .int .i64 a2] w fun e w' => e = .returned (.bool true) ∧ Grown w w' := by
  cases hk : Tx.is a0
  · have P1 := fun W => wrap_no1 a0 a1 a2 W hk
    have hs := hk
    rcases Tx.is_no.1 hk with h1 | h1
    · have hd : decide (a0 < 0) = true := decide_eq_true h1
      clear hk hs
      go_enter Try.func5, Try.ntmps5
      go_wp2_with (first | go_big_skip | (go_at_call 16; refine (P1 _).mono ?_; rintro e w' ⟨rfl, rfl⟩) | (go_at_call 6; refine (awake_any _).mono ?_; rintro e w' ⟨rfl, rfl⟩))
      go_ret
      exact ⟨rfl, Grown.refl _⟩
    · have hd : decide (a0 < 0) = false := decide_eq_false (by omega)
      have hd2 : decide (2 < a0) = true := decide_eq_true (by omega)
      clear hk hs
      go_enter Try.func5, Try.ntmps5
      go_wp2_with (first | go_big_skip | (go_at_call 16; refine (P1 _).mono ?_; rintro e w' ⟨rfl, rfl⟩) | (go_at_call 6; refine (awake_any _).mono ?_; rintro e w' ⟨rfl, rfl⟩))
      go_ret
      exact ⟨rfl, Grown.refl _⟩
  obtain ⟨k1, k2⟩ := Tx.is_iff.1 hk
  have hd1 : decide (a0 < 0) = false := decide_eq_false (by omega)
  have hd2 : decide (2 < a0) = false := decide_eq_false (by omega)
  cases hs : (Tx.side a2 && Tx.within 1048576 a1)
  · have P1 := fun W => wrap_no2 a0 a1 a2 W hk hs
    have hx : a2 < 1 ∨ ¬ a2 < 1 ∧ 64 < a2 ∨ ¬ a2 < 1 ∧ ¬ 64 < a2 ∧ a1 < -1048576 ∨ ¬ a2 < 1 ∧ ¬ 64 < a2 ∧ ¬ a1 < -1048576 ∧ 1048576 < a1 := by
      rw [Bool.and_eq_false_iff, Tx.side_no, Tx.within_no] at hs; omega
    clear hk hs k1 k2
    rcases hx with h1 | ⟨h1, h2⟩ | ⟨h1, h2, h3⟩ | ⟨h1, h2, h3, h4⟩
    · have g1 : decide (a2 < 1) = true := decide_eq_true h1
      go_enter Try.func5, Try.ntmps5
      go_wp2_with (first | go_big_skip | (go_at_call 16; refine (P1 _).mono ?_; rintro e w' ⟨rfl, rfl⟩) | (go_at_call 6; refine (awake_any _).mono ?_; rintro e w' ⟨rfl, rfl⟩))
      go_ret
      exact ⟨rfl, Grown.refl _⟩
    · have g1 : decide (a2 < 1) = false := decide_eq_false h1
      have g2 : decide (64 < a2) = true := decide_eq_true h2
      go_enter Try.func5, Try.ntmps5
      go_wp2_with (first | go_big_skip | (go_at_call 16; refine (P1 _).mono ?_; rintro e w' ⟨rfl, rfl⟩) | (go_at_call 6; refine (awake_any _).mono ?_; rintro e w' ⟨rfl, rfl⟩))
      go_ret
      exact ⟨rfl, Grown.refl _⟩
    · have g1 : decide (a2 < 1) = false := decide_eq_false h1
      have g2 : decide (64 < a2) = false := decide_eq_false h2
      have g3 : decide (a1 < -1048576) = true := decide_eq_true h3
      go_enter Try.func5, Try.ntmps5
      go_wp2_with (first | go_big_skip | (go_at_call 16; refine (P1 _).mono ?_; rintro e w' ⟨rfl, rfl⟩) | (go_at_call 6; refine (awake_any _).mono ?_; rintro e w' ⟨rfl, rfl⟩))
      go_ret
      exact ⟨rfl, Grown.refl _⟩
    · have g1 : decide (a2 < 1) = false := decide_eq_false h1
      have g2 : decide (64 < a2) = false := decide_eq_false h2
      have g3 : decide (a1 < -1048576) = false := decide_eq_false h3
      have g4 : decide (1048576 < a1) = true := decide_eq_true h4
      go_enter Try.func5, Try.ntmps5
      go_wp2_with (first | go_big_skip | (go_at_call 16; refine (P1 _).mono ?_; rintro e w' ⟨rfl, rfl⟩) | (go_at_call 6; refine (awake_any _).mono ?_; rintro e w' ⟨rfl, rfl⟩))
      go_ret
      exact ⟨rfl, Grown.refl _⟩
  rw [Bool.and_eq_true, Tx.side_iff, Tx.within_iff] at hs
  obtain ⟨⟨s1, s2⟩, n1, n2⟩ := hs
  have P1 := fun W => wrap_yes a0 a1 a2 W hk ⟨s1, s2⟩ ⟨n1, n2⟩
  have R1 := fun W => rwrap_any a0 a1 a2 W hk ⟨s1, s2⟩ ⟨n1, n2⟩
  obtain ⟨b1, b2⟩ := Tx.wrap_bd (k := a0) (n := a1) s1
  have g1 : decide (a2 < 1) = false := decide_eq_false (by omega)
  have g2 : decide (64 < a2) = false := decide_eq_false (by omega)
  have g3 : decide (a1 < -1048576) = false := decide_eq_false (by omega)
  have g4 : decide (1048576 < a1) = false := decide_eq_false (by omega)
  have hx : a0 = 0 ∨ (a0 = 1 ∨ a0 = 2) ∧ 1048000 < a1 ∨ (a0 = 1 ∨ a0 = 2) ∧ a1 ≤ 1048000 := by omega
  rcases hx with rfl | ⟨h0, h1⟩ | ⟨h0, h1⟩
  · clear hk k1 k2 n1 n2
    generalize Tx.wrap 0 a1 a2 = r at *
    go_enter Try.func5, Try.ntmps5
    go_wp2_with (first | go_big_skip | (go_at_call 16; refine (P1 _).mono ?_; rintro e w' ⟨rfl, rfl⟩) | (go_at_call 17; refine (R1 _).mono ?_; rintro e w' ⟨rfl, rfl⟩) | (go_at_call 6; refine (awake_any _).mono ?_; rintro e w' ⟨rfl, rfl⟩))
    go_ret
    exact ⟨rfl, Grown.refl _⟩
  · have g5 : (a0 == 0) = false := by simp; omega
    have g6 : decide (1048000 < a1) = true := decide_eq_true h1
    clear hk k1 k2 n1 n2 h0 h1
    generalize Tx.wrap a0 a1 a2 = r at *
    go_enter Try.func5, Try.ntmps5
    go_wp2_with (first | go_big_skip | (go_at_call 16; refine (P1 _).mono ?_; rintro e w' ⟨rfl, rfl⟩) | (go_at_call 17; refine (R1 _).mono ?_; rintro e w' ⟨rfl, rfl⟩) | (go_at_call 6; refine (awake_any _).mono ?_; rintro e w' ⟨rfl, rfl⟩))
    go_ret
    exact ⟨rfl, Grown.refl _⟩
  · have g5 : (a0 == 0) = false := by simp; omega
    have g6 : decide (1048000 < a1) = false := decide_eq_false (by omega)
    have m1 : 0 ≤ a0 * a2 ∧ a0 * a2 ≤ 128 := by rcases h0 with rfl | rfl <;> omega
    obtain ⟨m2, m3⟩ := m1
    have P2 := fun W => wrap_yes a0 (a1 + a0 * a2) a2 W hk ⟨s1, s2⟩ ⟨by omega, by omega⟩
    rw [Tx.wrap_again h0] at P2
    clear hk k1 k2 h0 h1
    generalize Tx.wrap a0 a1 a2 = r at *
    go_enter Try.func5, Try.ntmps5
    go_wp2_with (first | go_big_skip | (go_at_call 16; (with_reducible refine (P1 _).mono ?_); rintro e w' ⟨rfl, rfl⟩) | (go_at_call 16; (with_reducible refine (P2 _).mono ?_); rintro e w' ⟨rfl, rfl⟩) | (go_at_call 17; refine (R1 _).mono ?_; rintro e w' ⟨rfl, rfl⟩) | (go_at_call 6; refine (awake_any _).mono ?_; rintro e w' ⟨rfl, rfl⟩))
    go_ret
    exact ⟨rfl, Grown.refl _⟩

/-! ### The row -/
set_option maxRecDepth 100000 in
theorem lifted (os : Os) (started : os.Started) (H : Type) (enc : TypeId × Value → H) :
    ReturnsInHanded {} Try.checked os 5 .any (Rows.texelWrapsSpec.pre6 enc Try.prog Try.f5 Rows.texelWrapsRow.domain false) (Rows.texelWrapsSpec.post enc Try.prog Try.f5 false true false false) := by
  refine returnsInHanded_of_change (C := Try.checked) own started (by kernel_rfl) Try.func5
    (ChangeSpec.witness6 (enc := enc) (C := Try.checked) false ⟨#[], #[.int .i64 0, .int .i64 0, .int .i64 0], []⟩ 8 (by kernel_rfl) (by kernel_rfl) (by kernel_rfl) (by kernel_rfl)) ?_
  intro W base args ds gs before hval0 hW hcnd _
  have hval : ∀ (j : Nat) t v, Try.f5.params[j]? = some t → args[j]? = some v → Value.okWide Try.prog W .any base t v := hval0
  have hW' := hW
  obtain ⟨p, q, hA0, hV, rfl, hfz, hnd⟩ := hW
  have hA : DataW.TrodAll enc Try.prog W 0 (fun _ => true) true Try.f5.params.toList args.toList ds p := hA0
  rw [Try.params5] at hA hval
  obtain ⟨v0, vs0, d0, ds0, p0, q0, hargs, rfl, rfl, h0, r0⟩ := trodAll_cons hA
  obtain ⟨v1, vs1, d1, ds1, p1, q1, rfl, rfl, rfl, h1, r1⟩ := trodAll_cons r0
  obtain ⟨v2, vs2, d2, ds2, p2, q2, rfl, rfl, rfl, h2, r2⟩ := trodAll_cons r1
  obtain ⟨rfl, rfl, rfl⟩ := trodAll_nil r2
  obtain rfl : args = #[v0, v1, v2] := by cases args; simp_all
  obtain ⟨rfl, rfl⟩ := trodVars_none hV
  obtain ⟨a0, rfl, rfl, rfl, w0⟩ := open_int Try.underlying3 (hval 0 3 v0 rfl rfl) h0
  obtain ⟨a1, rfl, rfl, rfl, w1⟩ := open_int Try.underlying3 (hval 1 3 v1 rfl rfl) h1
  obtain ⟨a2, rfl, rfl, rfl, w2⟩ := open_int Try.underlying3 (hval 2 3 v2 rfl rfl) h2
  clear hA0 hval0
  simp only [List.append_nil] at hW'
  refine (walk a0 a1 a2 w0 w1 w2 W).mono fun e W' ⟨he, hg⟩ => ?_
  subst he
  exact ⟨_, rfl, post_of_same (pa := []) (pv := []) hW' (fun _ _ _ => (trodAll_cons_mk (shut_bool Try.underlying4 _) trodAll_mk0)) (fun sp _ => (trodAll_cons_mk (shut_int Try.underlying3 w0) (trodAll_cons_mk (shut_int Try.underlying3 w1) (trodAll_cons_mk (shut_int Try.underlying3 w2) trodAll_mk0)))) (fun _ _ => rfl) rfl
    (hg.frame _) hg.2.1 (ok_one (by kernel_rfl) rfl (okWide_bool_mk Try.underlying4 _))⟩

theorem over : Rows.texelWrapsRow.holds Try.pinned (OpenSpec.ofChange Rows.texelWrapsSpec) :=
  OpenClaim.holds_of_wide 5 Try.f5 rfl rfl rfl rfl rfl rfl rfl ⟨rfl, rfl, rfl, rfl, rfl⟩ rfl rfl rfl rfl rfl (by kernel_rfl) Try.func5 (by kernel_rfl)
    (of_decide_eq_true (by kernel_rfl)) (by unfold Func.isWrapper; first | (rw [if_pos (by decide +kernel)]; kernel_rfl) | (rw [if_neg (by decide +kernel)]; exact ⟨rfl, rfl⟩))
    (fun os started H enc _ => lifted os started H enc)

theorem proved : Rows.TexelWrapsSaid :=
  over
#print axioms proved
end Go.Proofs.Ytbhpjklomnjkfaa.texelWraps
