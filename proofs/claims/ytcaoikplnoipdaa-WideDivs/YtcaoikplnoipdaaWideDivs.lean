/-
  What is proved: WideDivs returns true for every three ints, and leaves them as they were. Conditions: none.
-/
import Derived.Test.YtcaoikplnoipdaaRows
import Derived.Test.YtcaoikplnoipdaaWideWalks5
import Derived.Test.YtcaoikplnoipdaaRefWalks6
import Derived.WalkKit
import Derived.ProofKit
import Derived.OpenShut
namespace Go.Proofs.Ytcaoikplnoipdaa.wideDivs
open Go.ChangeShapes Go.WideShapes Go.ChangeAt Go.RowKit
set_option linter.unusedVariables false

theorem own : ownKnob Try.prog.godebug = none := by kernel_rfl

/-! ### The walk: the Go text returns true -/
set_option maxHeartbeats 4000000 in
set_option maxRecDepth 100000 in
theorem walk (a0 : Int) (a1 : Int) (a2 : Int) (w0 : (Lit.int .i64 a0).wf = true) (w1 : (Lit.int .i64 a1).wf = true) (w2 : (Lit.int .i64 a2).wf = true) (w : World) :
    Calls Try.prog 6 #[.int .i64 a0, .int .i64 a1, .int .i64 a2] w fun e w' => e = .returned (.bool true) ∧ Grown w w' := by
  have ha : Wd.isInt a0 := bounds_i64 w0
  have hb : Wd.isInt a1 := bounds_i64 w1
  have hc : Wd.isInt a2 := bounds_i64 w2
  by_cases h0 : a1 = 0
  · subst h0
    by_cases h1 : a2 = 0
    · subst h1
      go_enter Try.func6, Try.ntmps6
      go_wp2_with fail
      refine (muldiv_zero _ _ _ ha hb).mono ?_
      rintro e w1 ⟨rfl, hk1⟩; have HK1 := Lib.hid hk1; clear hk1
      go_wp2_with fail
      refine (muldiv_zero _ _ _ ha hb).mono ?_
      rintro e w2 ⟨rfl, hk2⟩; have HK2 := Lib.hid hk2; clear hk2
      go_wp2_with fail
      refine (awake_any _).mono ?_
      rintro e w3 ⟨rfl, hk3⟩; have HK3 := Lib.hid hk3; clear hk3
      go_wp2
      go_ret
      exact ⟨rfl, ((HK1.out.next HK2.out).next HK3.out).grown⟩
    · have hc0 : (a2 == 0) = false := by simpa using h1
      by_cases hi : Wd.isInt (Wd.fl (a0 * 0) a2)
      · obtain ⟨f1, f2⟩ := Wd.fq_in hi
        obtain ⟨g1, g2⟩ := Wd.gn_in hi
        have F1 := Lib.hid f1; have F2 := Lib.hid f2; have G1 := Lib.hid g1; have G2 := Lib.hid g2
        clear f1 f2 g1 g2
        go_enter Try.func6, Try.ntmps6
        go_wp2_with fail
        refine (muldiv_zero _ _ _ ha hb).mono ?_
        rintro e w1 ⟨rfl, hk1⟩; have HK1 := Lib.hid hk1; clear hk1
        go_wp2_with fail
        refine (muldiv_any _ _ _ _ ha hb hc h1).mono ?_
        rintro e w2 ⟨rfl, hk2⟩; have HK2 := Lib.hid hk2; clear hk2
        rw [F1.out, F2.out]
        go_wp2_with fail
        refine (rmuldiv_any _ _ _ _ ha hb hc h1).mono ?_
        rintro e w3 ⟨rfl, hk3⟩; have HK3 := Lib.hid hk3; clear hk3
        rw [G1.out, G2.out]
        go_wp2_with fail
        refine (awake_any _).mono ?_
        rintro e w4 ⟨rfl, hk4⟩; have HK4 := Lib.hid hk4; clear hk4
        go_wp2
        go_ret
        exact ⟨rfl, (((HK1.out.next HK2.out).next HK3.out).next HK4.out).grown⟩
      · obtain ⟨f1, f2⟩ := Wd.fq_out hi
        have g1 := Wd.gn_out hi
        have F1 := Lib.hid f1; have F2 := Lib.hid f2; have G1 := Lib.hid g1
        clear f1 f2 g1
        go_enter Try.func6, Try.ntmps6
        go_wp2_with fail
        refine (muldiv_zero _ _ _ ha hb).mono ?_
        rintro e w1 ⟨rfl, hk1⟩; have HK1 := Lib.hid hk1; clear hk1
        go_wp2_with fail
        refine (muldiv_any _ _ _ _ ha hb hc h1).mono ?_
        rintro e w2 ⟨rfl, hk2⟩; have HK2 := Lib.hid hk2; clear hk2
        rw [F1.out, F2.out]
        go_wp2_with fail
        refine (rmuldiv_any _ _ _ _ ha hb hc h1).mono ?_
        rintro e w3 ⟨rfl, hk3⟩; have HK3 := Lib.hid hk3; clear hk3
        rw [G1.out]
        go_wp2_with fail
        refine (awake_any _).mono ?_
        rintro e w4 ⟨rfl, hk4⟩; have HK4 := Lib.hid hk4; clear hk4
        go_wp2
        go_ret
        exact ⟨rfl, (((HK1.out.next HK2.out).next HK3.out).next HK4.out).grown⟩
  · have hb0 : (a1 == 0) = false := by simpa using h0
    have hb1 : (a1 != 0) = true := by simpa using h0
    obtain ⟨b1, b2⟩ := Wd.back ha hb h0
    have B1 := Lib.hid b1; have B2 := Lib.hid b2
    clear b1 b2
    by_cases h1 : a2 = 0
    · subst h1
      go_enter Try.func6, Try.ntmps6
      go_wp2_with fail
      refine (muldiv_any _ _ _ _ ha hb hb h0).mono ?_
      rintro e w1 ⟨rfl, hk1⟩; have HK1 := Lib.hid hk1; clear hk1
      rw [B1.out, B2.out]
      go_wp2_with fail
      refine (muldiv_zero _ _ _ ha hb).mono ?_
      rintro e w2 ⟨rfl, hk2⟩; have HK2 := Lib.hid hk2; clear hk2
      go_wp2_with fail
      refine (awake_any _).mono ?_
      rintro e w3 ⟨rfl, hk3⟩; have HK3 := Lib.hid hk3; clear hk3
      go_wp2
      go_ret
      exact ⟨rfl, ((HK1.out.next HK2.out).next HK3.out).grown⟩
    · have hc0 : (a2 == 0) = false := by simpa using h1
      by_cases hi : Wd.isInt (Wd.fl (a0 * a1) a2)
      · obtain ⟨f1, f2⟩ := Wd.fq_in hi
        obtain ⟨g1, g2⟩ := Wd.gn_in hi
        have F1 := Lib.hid f1; have F2 := Lib.hid f2; have G1 := Lib.hid g1; have G2 := Lib.hid g2
        clear f1 f2 g1 g2
        go_enter Try.func6, Try.ntmps6
        go_wp2_with fail
        refine (muldiv_any _ _ _ _ ha hb hb h0).mono ?_
        rintro e w1 ⟨rfl, hk1⟩; have HK1 := Lib.hid hk1; clear hk1
        rw [B1.out, B2.out]
        go_wp2_with fail
        refine (muldiv_any _ _ _ _ ha hb hc h1).mono ?_
        rintro e w2 ⟨rfl, hk2⟩; have HK2 := Lib.hid hk2; clear hk2
        rw [F1.out, F2.out]
        go_wp2_with fail
        refine (rmuldiv_any _ _ _ _ ha hb hc h1).mono ?_
        rintro e w3 ⟨rfl, hk3⟩; have HK3 := Lib.hid hk3; clear hk3
        rw [G1.out, G2.out]
        go_wp2_with fail
        refine (awake_any _).mono ?_
        rintro e w4 ⟨rfl, hk4⟩; have HK4 := Lib.hid hk4; clear hk4
        go_wp2
        go_ret
        exact ⟨rfl, (((HK1.out.next HK2.out).next HK3.out).next HK4.out).grown⟩
      · obtain ⟨f1, f2⟩ := Wd.fq_out hi
        have g1 := Wd.gn_out hi
        have F1 := Lib.hid f1; have F2 := Lib.hid f2; have G1 := Lib.hid g1
        clear f1 f2 g1
        go_enter Try.func6, Try.ntmps6
        go_wp2_with fail
        refine (muldiv_any _ _ _ _ ha hb hb h0).mono ?_
        rintro e w1 ⟨rfl, hk1⟩; have HK1 := Lib.hid hk1; clear hk1
        rw [B1.out, B2.out]
        go_wp2_with fail
        refine (muldiv_any _ _ _ _ ha hb hc h1).mono ?_
        rintro e w2 ⟨rfl, hk2⟩; have HK2 := Lib.hid hk2; clear hk2
        rw [F1.out, F2.out]
        go_wp2_with fail
        refine (rmuldiv_any _ _ _ _ ha hb hc h1).mono ?_
        rintro e w3 ⟨rfl, hk3⟩; have HK3 := Lib.hid hk3; clear hk3
        rw [G1.out]
        go_wp2_with fail
        refine (awake_any _).mono ?_
        rintro e w4 ⟨rfl, hk4⟩; have HK4 := Lib.hid hk4; clear hk4
        go_wp2
        go_ret
        exact ⟨rfl, (((HK1.out.next HK2.out).next HK3.out).next HK4.out).grown⟩

/-! ### The row -/
set_option maxRecDepth 100000 in
theorem lifted (os : Os) (started : os.Started) (H : Type) (enc : TypeId × Value → H) :
    ReturnsInHanded {} Try.checked os 6 .any (Rows.wideDivsSpec.pre6 enc Try.prog Try.f6 Rows.wideDivsRow.domain false) (Rows.wideDivsSpec.post enc Try.prog Try.f6 false true false false) := by
  refine returnsInHanded_of_change (C := Try.checked) own started (by kernel_rfl) Try.func6
    (ChangeSpec.witness6 (enc := enc) (C := Try.checked) false ⟨#[], #[.int .i64 0, .int .i64 0, .int .i64 0], []⟩ 8 (by kernel_rfl) (by kernel_rfl) (by kernel_rfl) (by kernel_rfl)) ?_
  intro W base args ds gs before hval0 hW hcnd _
  have hval : ∀ (j : Nat) t v, Try.f6.params[j]? = some t → args[j]? = some v → Value.okWide Try.prog W .any base t v := hval0
  have hW' := hW
  obtain ⟨p, q, hA0, hV, rfl, hfz, hnd⟩ := hW
  have hA : DataW.TrodAll enc Try.prog W 0 (fun _ => true) true Try.f6.params.toList args.toList ds p := hA0
  rw [Try.params6] at hA hval
  obtain ⟨v0, vs0, d0, ds0, p0, q0, hargs, rfl, rfl, h0, r0⟩ := trodAll_cons hA
  obtain ⟨v1, vs1, d1, ds1, p1, q1, rfl, rfl, rfl, h1, r1⟩ := trodAll_cons r0
  obtain ⟨v2, vs2, d2, ds2, p2, q2, rfl, rfl, rfl, h2, r2⟩ := trodAll_cons r1
  obtain ⟨rfl, rfl, rfl⟩ := trodAll_nil r2
  obtain rfl : args = #[v0, v1, v2] := by cases args; simp_all
  obtain ⟨rfl, rfl⟩ := trodVars_none hV
  obtain ⟨a0, rfl, rfl, rfl, w0⟩ := open_int Try.underlying3 (hval 0 3 v0 rfl rfl) h0
  obtain ⟨a1, rfl, rfl, rfl, w1⟩ := open_int Try.underlying3 (hval 1 3 v1 rfl rfl) h1
  obtain ⟨a2, rfl, rfl, rfl, w2⟩ := open_int Try.underlying3 (hval 2 3 v2 rfl rfl) h2
  clear hA0 hval0
  simp only [List.append_nil] at hW'
  refine (walk a0 a1 a2 w0 w1 w2 W).mono fun e W' ⟨he, hg⟩ => ?_
  subst he
  exact ⟨_, rfl, post_of_same (pa := []) (pv := []) hW' (fun _ _ _ => (trodAll_cons_mk (shut_bool Try.underlying4 _) trodAll_mk0)) (fun sp _ => (trodAll_cons_mk (shut_int Try.underlying3 w0) (trodAll_cons_mk (shut_int Try.underlying3 w1) (trodAll_cons_mk (shut_int Try.underlying3 w2) trodAll_mk0)))) (fun _ _ => rfl) rfl
    (hg.frame _) hg.2.1 (ok_one (by kernel_rfl) rfl (okWide_bool_mk Try.underlying4 _))⟩

theorem over : Rows.wideDivsRow.holds Try.pinned (OpenSpec.ofChange Rows.wideDivsSpec) :=
  OpenClaim.holds_of_wide 6 Try.f6 rfl rfl rfl rfl rfl rfl rfl ⟨rfl, rfl, rfl, rfl, rfl⟩ rfl rfl rfl rfl rfl (by kernel_rfl) Try.func6 (by kernel_rfl)
    (of_decide_eq_true (by kernel_rfl)) (by unfold Func.isWrapper; first | (rw [if_pos (by decide +kernel)]; kernel_rfl) | (rw [if_neg (by decide +kernel)]; exact ⟨rfl, rfl⟩))
    (fun os started H enc _ => lifted os started H enc)

theorem proved : Rows.WideDivsSaid :=
  over
#print axioms proved
end Go.Proofs.Ytcaoikplnoipdaa.wideDivs
