/-
  What is proved: StenDeeds returns true for every three ints, and leaves them as they were. Conditions: none.
-/
import Derived.Test.YtnfkbbecanhdbaaRows
import Derived.Test.YtnfkbbecanhdbaaStenWalks3
import Derived.WalkKit
import Derived.ProofKit
import Derived.OpenShut
namespace Go.Proofs.Ytnfkbbecanhdbaa.stenDeeds
open Go.ChangeShapes Go.WideShapes Go.ChangeAt Go.RowKit
set_option linter.unusedVariables false

theorem own : ownKnob Try.prog.godebug = none := by kernel_rfl

/-! ### The walk: the Go text returns true -/
set_option maxHeartbeats 4000000 in
set_option maxRecDepth 100000 in
theorem walk (a0 : Int) (a1 : Int) (a2 : Int) (w0 : (Lit.int .i64 a0).wf = true) (w1 : (Lit.int .i64 a1).wf = true) (w2 : (Lit.int .i64 a2).wf = true) (w : World) :
    Calls Try.prog 5 #[.int .i64 a0, .int .i64 a1, .int .i64 a2] w fun e w' => e = .returned (.bool true) ∧ Grown w w' := by
  have HO := Lib.hid (Ow.refl w)
  cases hk : Dp.is a0
  · have D1 := fun W => deed_no1 a0 a1 a2 W hk
    rcases Dp.is_no.1 hk with h1 | h1
    · have hd : decide (a0 < 0) = true := decide_eq_true h1
      clear hk
      go_enter Try.func5, Try.ntmps5
      go_wp2_with (first
        | go_skip
        | (go_at_call 15; refine (D1 _).mono ?_; rintro e w' ⟨rfl, rfl⟩)
        | (go_at_call 9; refine (awake_any _).mono ?_; rintro e w1 ⟨rfl, hk1⟩; have l2 := HO.out.call hk1; clear HO hk1; have HO := Lib.hid l2; clear l2))
      go_ret
      exact ⟨rfl, HO.out.k.grown⟩
    · have hd : decide (a0 < 0) = false := decide_eq_false (by omega)
      have hd2 : decide (7 < a0) = true := decide_eq_true (by omega)
      clear hk
      go_enter Try.func5, Try.ntmps5
      go_wp2_with (first
        | go_skip
        | (go_at_call 15; refine (D1 _).mono ?_; rintro e w' ⟨rfl, rfl⟩)
        | (go_at_call 9; refine (awake_any _).mono ?_; rintro e w1 ⟨rfl, hk1⟩; have l2 := HO.out.call hk1; clear HO hk1; have HO := Lib.hid l2; clear l2))
      go_ret
      exact ⟨rfl, HO.out.k.grown⟩
  obtain ⟨k1, k2⟩ := Dp.is_iff.1 hk
  have hd : decide (a0 < 0) = false := decide_eq_false (by omega)
  have hd2 : decide (7 < a0) = false := decide_eq_false (by omega)
  have I1 := fun W => rsten_any a1 W
  have I2 := fun W => rsten_any a2 W
  clear k1 k2
  cases ho : Sn.is a1
  · have D1 := fun W => deed_no2 a0 a1 a2 W hk ho
    rw [ho] at I1
    clear hk ho
    go_enter Try.func5, Try.ntmps5
    go_wp2_with (first
      | go_skip
      | (go_at_call 15; refine (D1 _).mono ?_; rintro e w' ⟨rfl, rfl⟩)
      | (go_at_call 10; refine (I1 _).mono ?_; rintro e w' ⟨rfl, rfl⟩)
      | (go_at_call 9; refine (awake_any _).mono ?_; rintro e w1 ⟨rfl, hk1⟩; have l2 := HO.out.call hk1; clear HO hk1; have HO := Lib.hid l2; clear l2))
    go_ret
    exact ⟨rfl, HO.out.k.grown⟩
  cases hr : Sn.is a2
  · have D1 := fun W => deed_no3 a0 a1 a2 W hk ho hr
    rw [ho] at I1
    rw [hr] at I2
    clear hk ho hr
    go_enter Try.func5, Try.ntmps5
    go_wp2_with (first
      | go_skip
      | (go_at_call 15; refine (D1 _).mono ?_; rintro e w' ⟨rfl, rfl⟩)
      | (go_at_call 10; (with_reducible refine (I1 _).mono ?_); rintro e w' ⟨rfl, rfl⟩)
      | (go_at_call 10; (with_reducible refine (I2 _).mono ?_); rintro e w' ⟨rfl, rfl⟩)
      | (go_at_call 9; refine (awake_any _).mono ?_; rintro e w1 ⟨rfl, hk1⟩; have l2 := HO.out.call hk1; clear HO hk1; have HO := Lib.hid l2; clear l2))
    go_ret
    exact ⟨rfl, HO.out.k.grown⟩
  · have D1 := fun W => deed_yes a0 a1 a2 W hk ho hr
    have D2 := fun W => deed_yes 6 a1 a2 W rfl ho hr
    have D3 := fun W => deed_yes 7 (Sn.made 6 a1 a2) a2 W rfl (Sn.made_is 6 ho hr) hr
    have D4 := fun W => deed_yes 5 a1 a2 W rfl ho hr
    have D5 := fun W => deed_yes 5 (Sn.made 5 a1 a2) a2 W rfl (Sn.made_is 5 ho hr) hr
    have R1 := fun W => rdeed_any a0 a1 a2 W hk ho hr
    have I3 := fun W => rsten_any (Sn.made a0 a1 a2) W
    rw [Sn.made_is a0 ho hr] at I3
    rw [Sn.round a2 ho] at D3
    rw [Sn.twice a1 a2] at D5
    rw [ho] at I1
    rw [hr] at I2
    clear hk ho hr
    generalize Sn.made a0 a1 a2 = M at *
    generalize Sn.made 6 a1 a2 = M6 at *
    generalize Sn.made 5 a1 a2 = M5 at *
    go_enter Try.func5, Try.ntmps5
    go_wp2_with (first
      | go_skip
      | (go_at_call 15; (with_reducible refine (D1 _).mono ?_); rintro e w' ⟨rfl, rfl⟩)
      | (go_at_call 15; (with_reducible refine (D2 _).mono ?_); rintro e w' ⟨rfl, rfl⟩)
      | (go_at_call 15; (with_reducible refine (D3 _).mono ?_); rintro e w' ⟨rfl, rfl⟩)
      | (go_at_call 15; (with_reducible refine (D4 _).mono ?_); rintro e w' ⟨rfl, rfl⟩)
      | (go_at_call 15; (with_reducible refine (D5 _).mono ?_); rintro e w' ⟨rfl, rfl⟩)
      | (go_at_call 16; refine (R1 _).mono ?_; rintro e w' ⟨rfl, rfl⟩)
      | (go_at_call 10; (with_reducible refine (I1 _).mono ?_); rintro e w' ⟨rfl, rfl⟩)
      | (go_at_call 10; (with_reducible refine (I2 _).mono ?_); rintro e w' ⟨rfl, rfl⟩)
      | (go_at_call 10; (with_reducible refine (I3 _).mono ?_); rintro e w' ⟨rfl, rfl⟩)
      | (go_at_call 9; refine (awake_any _).mono ?_; rintro e w1 ⟨rfl, hk1⟩; have l2 := HO.out.call hk1; clear HO hk1; have HO := Lib.hid l2; clear l2))
    go_ret
    exact ⟨rfl, HO.out.k.grown⟩

/-! ### The row -/
set_option maxRecDepth 100000 in
theorem lifted (os : Os) (started : os.Started) (H : Type) (enc : TypeId × Value → H) :
    ReturnsInHanded {} Try.checked os 5 .any (Rows.stenDeedsSpec.pre6 enc Try.prog Try.f5 Rows.stenDeedsRow.domain false) (Rows.stenDeedsSpec.post enc Try.prog Try.f5 false true false false) := by
  refine returnsInHanded_of_change (C := Try.checked) own started (by kernel_rfl) Try.func5
    (ChangeSpec.witness6 (enc := enc) (C := Try.checked) false ⟨#[], #[.int .i64 0, .int .i64 0, .int .i64 0], []⟩ 8 (by kernel_rfl) (by kernel_rfl) (by kernel_rfl) (by kernel_rfl)) ?_
  intro W base args ds gs before hval0 hW hcnd _
  have hval : ∀ (j : Nat) t v, Try.f5.params[j]? = some t → args[j]? = some v → Value.okWide Try.prog W .any base t v := hval0
  have hW' := hW
  obtain ⟨p, q, hA0, hV, rfl, hfz, hnd⟩ := hW
  have hA : DataW.TrodAll enc Try.prog W 0 (fun _ => true) true Try.f5.params.toList args.toList ds p := hA0
  rw [Try.params5] at hA hval
  obtain ⟨v0, vs0, d0, ds0, p0, q0, hargs, rfl, rfl, h0, r0⟩ := trodAll_cons hA
  obtain ⟨v1, vs1, d1, ds1, p1, q1, rfl, rfl, rfl, h1, r1⟩ := trodAll_cons r0
  obtain ⟨v2, vs2, d2, ds2, p2, q2, rfl, rfl, rfl, h2, r2⟩ := trodAll_cons r1
  obtain ⟨rfl, rfl, rfl⟩ := trodAll_nil r2
  obtain rfl : args = #[v0, v1, v2] := by cases args; simp_all
  obtain ⟨rfl, rfl⟩ := trodVars_none hV
  obtain ⟨a0, rfl, rfl, rfl, w0⟩ := open_int Try.underlying3 (hval 0 3 v0 rfl rfl) h0
  obtain ⟨a1, rfl, rfl, rfl, w1⟩ := open_int Try.underlying3 (hval 1 3 v1 rfl rfl) h1
  obtain ⟨a2, rfl, rfl, rfl, w2⟩ := open_int Try.underlying3 (hval 2 3 v2 rfl rfl) h2
  clear hA0 hval0
  simp only [List.append_nil] at hW'
  refine (walk a0 a1 a2 w0 w1 w2 W).mono fun e W' ⟨he, hg⟩ => ?_
  subst he
  exact ⟨_, rfl, post_of_same (pa := []) (pv := []) hW' (fun _ _ _ => (trodAll_cons_mk (shut_bool Try.underlying4 _) trodAll_mk0)) (fun sp _ => (trodAll_cons_mk (shut_int Try.underlying3 w0) (trodAll_cons_mk (shut_int Try.underlying3 w1) (trodAll_cons_mk (shut_int Try.underlying3 w2) trodAll_mk0)))) (fun _ _ => rfl) rfl
    (hg.frame _) hg.2.1 (ok_one (by kernel_rfl) rfl (okWide_bool_mk Try.underlying4 _))⟩

theorem over : Rows.stenDeedsRow.holds Try.pinned (OpenSpec.ofChange Rows.stenDeedsSpec) :=
  OpenClaim.holds_of_wide 5 Try.f5 rfl rfl rfl rfl rfl rfl rfl ⟨rfl, rfl, rfl, rfl, rfl⟩ rfl rfl rfl rfl rfl (by kernel_rfl) Try.func5 (by kernel_rfl)
    (of_decide_eq_true (by kernel_rfl)) (by unfold Func.isWrapper; first | (rw [if_pos (by decide +kernel)]; kernel_rfl) | (rw [if_neg (by decide +kernel)]; exact ⟨rfl, rfl⟩))
    (fun os started H enc _ => lifted os started H enc)

theorem proved : Rows.StenDeedsSaid :=
  over
#print axioms proved
end Go.Proofs.Ytnfkbbecanhdbaa.stenDeeds
