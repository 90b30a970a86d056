/-
  What is proved: WideMuls returns true for every two ints, and leaves them as they were. Conditions: none.
-/
import Derived.Test.YtcaoikplnoipdaaRows
import Derived.Test.YtcaoikplnoipdaaWideWalks5
import Derived.Test.YtcaoikplnoipdaaRefEq
import Derived.WalkKit
import Derived.ProofKit
import Derived.OpenShut
namespace Go.Proofs.Ytcaoikplnoipdaa.wideMuls
open Go.ChangeShapes Go.WideShapes Go.ChangeAt Go.RowKit
set_option linter.unusedVariables false

theorem own : ownKnob Try.prog.godebug = none := by kernel_rfl

/-! ### The walk: the Go text returns true -/
set_option maxHeartbeats 4000000 in
set_option maxRecDepth 100000 in
theorem walk (a0 : Int) (a1 : Int) (w0 : (Lit.int .i64 a0).wf = true) (w1 : (Lit.int .i64 a1).wf = true) (w : World) :
    Calls Try.prog 3 #[.int .i64 a0, .int .i64 a1] w fun e w' => e = .returned (.bool true) ∧ Grown w w' := by
  have ha := bounds_i64 w0
  have hb := bounds_i64 w1
  have hE := run_eqD_same
  go_enter Try.func3, Try.ntmps3
  go_wp2_with fail
  refine (of_any _ _ ha).mono ?_
  rintro e w1 ⟨rfl, hk1⟩; have HK1 := Lib.hid hk1; clear hk1
  go_wp2_with fail
  refine (d_any _ _).mono ?_
  rintro e w2 ⟨rfl, hk2⟩; have HK2 := Lib.hid hk2; clear hk2
  go_wp2_with fail
  refine (rof_any _ _ ha).mono ?_
  rintro e w3 ⟨rfl, hk3⟩; have HK3 := Lib.hid hk3; clear hk3
  go_wp2_with fail
  refine (mul_any _ _ _ ha hb).mono ?_
  rintro e w4 ⟨rfl, hk4⟩; have HK4 := Lib.hid hk4; clear hk4
  go_wp2_with fail
  refine (d_any _ _).mono ?_
  rintro e w5 ⟨rfl, hk5⟩; have HK5 := Lib.hid hk5; clear hk5
  go_wp2_with fail
  refine (rof_any _ _ ha).mono ?_
  rintro e w6 ⟨rfl, hk6⟩; have HK6 := Lib.hid hk6; clear hk6
  go_wp2_with fail
  refine (rof_any _ _ hb).mono ?_
  rintro e w7 ⟨rfl, hk7⟩; have HK7 := Lib.hid hk7; clear hk7
  go_wp2_with fail
  refine (rmul_any _ _ _).mono ?_
  rintro e w8 ⟨rfl, hk8⟩; have HK8 := Lib.hid hk8; clear hk8
  go_wp2_with fail
  refine (mul_any _ _ _ ha hb).mono ?_
  rintro e w9 ⟨rfl, hk9⟩; have HK9 := Lib.hid hk9; clear hk9
  go_wp2_with fail
  refine (mul_any _ _ _ hb ha).mono ?_
  rintro e wa ⟨rfl, hka⟩; have HKa := Lib.hid hka; clear hka
  rw [Int.mul_comm a1 a0]
  go_wp2_with fail
  refine (awake_any _).mono ?_
  rintro e wb ⟨rfl, hkb⟩; have HKb := Lib.hid hkb; clear hkb
  go_wp2
  go_ret
  exact ⟨rfl, ((((((((((HK1.out.next HK2.out).next HK3.out).next HK4.out).next HK5.out).next HK6.out).next HK7.out).next HK8.out).next HK9.out).next HKa.out).next HKb.out).grown⟩

/-! ### The row -/
set_option maxRecDepth 100000 in
theorem lifted (os : Os) (started : os.Started) (H : Type) (enc : TypeId × Value → H) :
    ReturnsInHanded {} Try.checked os 3 .any (Rows.wideMulsSpec.pre6 enc Try.prog Try.f3 Rows.wideMulsRow.domain false) (Rows.wideMulsSpec.post enc Try.prog Try.f3 false true false false) := by
  refine returnsInHanded_of_change (C := Try.checked) own started (by kernel_rfl) Try.func3
    (ChangeSpec.witness6 (enc := enc) (C := Try.checked) false ⟨#[], #[.int .i64 0, .int .i64 0], []⟩ 8 (by kernel_rfl) (by kernel_rfl) (by kernel_rfl) (by kernel_rfl)) ?_
  intro W base args ds gs before hval0 hW hcnd _
  have hval : ∀ (j : Nat) t v, Try.f3.params[j]? = some t → args[j]? = some v → Value.okWide Try.prog W .any base t v := hval0
  have hW' := hW
  obtain ⟨p, q, hA0, hV, rfl, hfz, hnd⟩ := hW
  have hA : DataW.TrodAll enc Try.prog W 0 (fun _ => true) true Try.f3.params.toList args.toList ds p := hA0
  rw [Try.params3] at hA hval
  obtain ⟨v0, vs0, d0, ds0, p0, q0, hargs, rfl, rfl, h0, r0⟩ := trodAll_cons hA
  obtain ⟨v1, vs1, d1, ds1, p1, q1, rfl, rfl, rfl, h1, r1⟩ := trodAll_cons r0
  obtain ⟨rfl, rfl, rfl⟩ := trodAll_nil r1
  obtain rfl : args = #[v0, v1] := by cases args; simp_all
  obtain ⟨rfl, rfl⟩ := trodVars_none hV
  obtain ⟨a0, rfl, rfl, rfl, w0⟩ := open_int Try.underlying3 (hval 0 3 v0 rfl rfl) h0
  obtain ⟨a1, rfl, rfl, rfl, w1⟩ := open_int Try.underlying3 (hval 1 3 v1 rfl rfl) h1
  clear hA0 hval0
  simp only [List.append_nil] at hW'
  refine (walk a0 a1 w0 w1 W).mono fun e W' ⟨he, hg⟩ => ?_
  subst he
  exact ⟨_, rfl, post_of_same (pa := []) (pv := []) hW' (fun _ _ _ => (trodAll_cons_mk (shut_bool Try.underlying4 _) trodAll_mk0)) (fun sp _ => (trodAll_cons_mk (shut_int Try.underlying3 w0) (trodAll_cons_mk (shut_int Try.underlying3 w1) trodAll_mk0))) (fun _ _ => rfl) rfl
    (hg.frame _) hg.2.1 (ok_one (by kernel_rfl) rfl (okWide_bool_mk Try.underlying4 _))⟩

theorem over : Rows.wideMulsRow.holds Try.pinned (OpenSpec.ofChange Rows.wideMulsSpec) :=
  OpenClaim.holds_of_wide 3 Try.f3 rfl rfl rfl rfl rfl rfl rfl ⟨rfl, rfl, rfl, rfl, rfl⟩ rfl rfl rfl rfl rfl (by kernel_rfl) Try.func3 (by kernel_rfl)
    (of_decide_eq_true (by kernel_rfl)) (by unfold Func.isWrapper; first | (rw [if_pos (by decide +kernel)]; kernel_rfl) | (rw [if_neg (by decide +kernel)]; exact ⟨rfl, rfl⟩))
    (fun os started H enc _ => lifted os started H enc)

theorem proved : Rows.WideMulsSaid :=
  over
#print axioms proved
end Go.Proofs.Ytcaoikplnoipdaa.wideMuls
