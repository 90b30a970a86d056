/-
  Contracts of layer 13 (bary): within, weighed, Mix.
-/
import Derived.Test.YtankjlpanmmogaaGreatJFragCode
import Derived.Test.YtankjlpanmmogaaGreatJFragTex
import Derived.Test.YtankjlpanmmogaaGreatJEdgeHasC
import Derived.Test.YtankjlpanmmogaaGreatIntsOpen
import Derived.BigGuard
namespace Go.Proofs.YtankjlpanmmogaaGreat
set_option maxRecDepth 100000
open Go.RowKit

theorem ty_wide : Ty 154 2 := ⟨by kernel_rfl, _, Tryz.underlying154, rfl⟩
set_option linter.unusedSimpArgs false in
set_option maxHeartbeats 4000000 in
theorem within_any (lo hi a b c : Int) (w : World) :
    Calls Tryz.prog 114 #[.int .i64 lo, .int .i64 hi, .agg #[.int .i64 a, .int .i64 b, .int .i64 c]] w fun e w' => e = .returned (.bool (By.in3 lo hi a b c)) ∧ Kp w.heap.size w w' := by
  have HO := Lib.hid ((Ow.refl w).newAt w.heap.size rfl (.int .i64 a) [.int .i64 b, .int .i64 c] 94)
  have i0 := ix3_0 a b c
  have i1 := ix3_1 a b c
  have i2 := ix3_2 a b c
  go_enter Tryz.func114, Tryz.ntmps114
  go_wp2_with ((with_reducible show wpList _ _ _ ({ dst := _, op := Op.load 94 (Operand.tmp 5), type := _, pos := _, after := _, guard := _ } :: _) _ _); refine wpList_ldr ty_i3 rfl _ rfl _ rfl _ rfl (HO.out.at 0 rfl) ?_)
  go_loop [10, 8] (fun i _ => R3 (By.in1 lo hi a) (By.in1 lo hi b) (By.in1 lo hi c) i) (fun i _ => emsr3 i)
  case atStart => exact .inl rfl
  case round =>
    rcases hrel with rfl | ⟨rfl, m1⟩ | ⟨rfl, m1, m2⟩ | ⟨rfl, m1, m2, m3⟩
    · skip
      cases h1 : decide (a < lo)
      · cases h2 : decide (hi < a)
        · have HY : Hid (By.in1 lo hi a = true) := Lib.hid (by simp at h1 h2; exact By.in1_iff.2 ⟨h1, h2⟩)
          go_wp2_with go_big_skip
          go_round
          case rel => exact (.inr (.inl ⟨by go_num, HY.out⟩))
          case measure => simp [emsr3, intOf]
        · have HY : Hid (By.in1 lo hi a = false) := Lib.hid (by simp at h2; exact By.in1_no.2 (.inr h2))
          go_wp2_with go_big_skip
          go_ret
          exact ⟨ret_bool (by simp [By.in3, HY.out]), HO.out.k⟩
      · have HY : Hid (By.in1 lo hi a = false) := Lib.hid (by simp at h1; exact By.in1_no.2 (.inl h1))
        go_wp2_with go_big_skip
        go_ret
        exact ⟨ret_bool (by simp [By.in3, HY.out]), HO.out.k⟩
    · skip
      cases h1 : decide (b < lo)
      · cases h2 : decide (hi < b)
        · have HY : Hid (By.in1 lo hi b = true) := Lib.hid (by simp at h1 h2; exact By.in1_iff.2 ⟨h1, h2⟩)
          go_wp2_with go_big_skip
          go_round
          case rel => exact (.inr (.inr (.inl ⟨by go_num, m1, HY.out⟩)))
          case measure => simp [emsr3, intOf]
        · have HY : Hid (By.in1 lo hi b = false) := Lib.hid (by simp at h2; exact By.in1_no.2 (.inr h2))
          go_wp2_with go_big_skip
          go_ret
          exact ⟨ret_bool (by simp [By.in3, HY.out]), HO.out.k⟩
      · have HY : Hid (By.in1 lo hi b = false) := Lib.hid (by simp at h1; exact By.in1_no.2 (.inl h1))
        go_wp2_with go_big_skip
        go_ret
        exact ⟨ret_bool (by simp [By.in3, HY.out]), HO.out.k⟩
    · skip
      cases h1 : decide (c < lo)
      · cases h2 : decide (hi < c)
        · have HY : Hid (By.in1 lo hi c = true) := Lib.hid (by simp at h1 h2; exact By.in1_iff.2 ⟨h1, h2⟩)
          go_wp2_with go_big_skip
          go_round
          case rel => exact (.inr (.inr (.inr ⟨by go_num, m1, m2, HY.out⟩)))
          case measure => simp [emsr3, intOf]
        · have HY : Hid (By.in1 lo hi c = false) := Lib.hid (by simp at h2; exact By.in1_no.2 (.inr h2))
          go_wp2_with go_big_skip
          go_ret
          exact ⟨ret_bool (by simp [By.in3, HY.out]), HO.out.k⟩
      · have HY : Hid (By.in1 lo hi c = false) := Lib.hid (by simp at h1; exact By.in1_no.2 (.inl h1))
        go_wp2_with go_big_skip
        go_ret
        exact ⟨ret_bool (by simp [By.in3, HY.out]), HO.out.k⟩
    · have HM := Lib.hid (show By.in3 lo hi a b c = true by simp [By.in3, m1, m2, m3])
      clear m1 m2 m3
      go_wp2
      go_ret
      exact ⟨ret_bool HM.out.symm, HO.out.k⟩

set_option linter.unusedSimpArgs false in
set_option maxRecDepth 100000 in
set_option maxHeartbeats 8000000 in
theorem byweighed_any (w0 w1 w2 v0 v1 v2 : Int) (w : World) (hw : By.in3 0 4398046511104 w0 w1 w2 = true) (hv : By.in3 (-1073741824) 1073741824 v0 v1 v2 = true) :
    Calls Tryz.prog 115 #[.agg #[.int .i64 w0, .int .i64 w1, .int .i64 w2], .agg #[.int .i64 v0, .int .i64 v1, .int .i64 v2]] w fun e w' => e = .returned (.agg #[.int .i64 (Wd.hi (By.s3 w0 w1 w2 v0 v1 v2)), .int .u64 (Wd.lo (By.s3 w0 w1 w2 v0 v1 v2))]) ∧ Kp w.heap.size w w' := by
  obtain ⟨p0, p1, p2⟩ := By.in3_iff.1 hw
  obtain ⟨q0, q1, q2⟩ := By.in3_iff.1 hv
  have M0 := fun W => mul_any w0 v0 W (by omega) (by omega)
  have M1 := fun W => mul_any w1 v1 W (by omega) (by omega)
  have M2 := fun W => mul_any w2 v2 W (by omega) (by omega)
  have A0 : ∀ W, Calls Tryz.prog 133 #[.agg #[.int .i64 (Wd.hi (0)), .int .u64 (Wd.lo (0))], .agg #[.int .i64 (Wd.hi (w0 * v0)), .int .u64 (Wd.lo (w0 * v0))]] W fun e w' => e = .returned (.agg #[.int .i64 (Wd.hi (By.s1 w0 v0)), .int .u64 (Wd.lo (By.s1 w0 v0))]) ∧ Kp W.heap.size W w' := fun W => add_any 0 (w0 * v0) W
  have A1 : ∀ W, Calls Tryz.prog 133 #[.agg #[.int .i64 (Wd.hi (By.s1 w0 v0)), .int .u64 (Wd.lo (By.s1 w0 v0))], .agg #[.int .i64 (Wd.hi (w1 * v1)), .int .u64 (Wd.lo (w1 * v1))]] W fun e w' => e = .returned (.agg #[.int .i64 (Wd.hi (By.s2 w0 w1 v0 v1)), .int .u64 (Wd.lo (By.s2 w0 w1 v0 v1))]) ∧ Kp W.heap.size W w' := fun W => add_any _ (w1 * v1) W
  have A2 : ∀ W, Calls Tryz.prog 133 #[.agg #[.int .i64 (Wd.hi (By.s2 w0 w1 v0 v1)), .int .u64 (Wd.lo (By.s2 w0 w1 v0 v1))], .agg #[.int .i64 (Wd.hi (w2 * v2)), .int .u64 (Wd.lo (w2 * v2))]] W fun e w' => e = .returned (.agg #[.int .i64 (Wd.hi (By.s3 w0 w1 w2 v0 v1 v2)), .int .u64 (Wd.lo (By.s3 w0 w1 w2 v0 v1 v2))]) ∧ Kp W.heap.size W w' := fun W => add_any _ (w2 * v2) W
  clear hw hv p0 p1 p2 q0 q1 q2
  have HO := Lib.hid (((((Ow.refl w).newAt w.heap.size rfl (.int .i64 w0) [.int .i64 w1, .int .i64 w2] 94).newAt (w.heap.size + 1) (by simp) (.int .i64 v0) [.int .i64 v1, .int .i64 v2] 94).newAt (w.heap.size + 2) (by simp) (.int .i64 0) [.int .u64 0] 154).newAt (w.heap.size + 3) (by simp) (.int .i64 0) [.int .u64 0] 154)
  have i0 := ix3_0 w0 w1 w2
  have i1 := ix3_1 w0 w1 w2
  have i2 := ix3_2 w0 w1 w2
  go_enter Tryz.func115, Tryz.ntmps115
  go_wp2_with ((with_reducible show wpList _ _ _ ({ dst := _, op := Op.load 94 (Operand.tmp 2), type := _, pos := _, after := _, guard := _ } :: _) _ _); refine wpList_ldr ty_i3 rfl _ rfl _ rfl _ rfl (HO.out.at 3 rfl) ?_)
  go_loopw [9, 6, 7] (fun i _ _ wr => (i = .int .i64 0 ∧ Ow w wr [(w.heap.size + 3, [.int .i64 (Wd.hi (0)), .int .u64 (Wd.lo (0))]), (w.heap.size + 2, [.int .i64 0, .int .u64 0]), (w.heap.size + 1, [.int .i64 v0, .int .i64 v1, .int .i64 v2]), (w.heap.size, [.int .i64 w0, .int .i64 w1, .int .i64 w2])]) ∨ (i = .int .i64 1 ∧ Ow w wr [(w.heap.size + 3, [.int .i64 (Wd.hi (By.s1 w0 v0)), .int .u64 (Wd.lo (By.s1 w0 v0))]), (w.heap.size + 2, [.int .i64 0, .int .u64 0]), (w.heap.size + 1, [.int .i64 v0, .int .i64 v1, .int .i64 v2]), (w.heap.size, [.int .i64 w0, .int .i64 w1, .int .i64 w2])]) ∨ (i = .int .i64 2 ∧ Ow w wr [(w.heap.size + 3, [.int .i64 (Wd.hi (By.s2 w0 w1 v0 v1)), .int .u64 (Wd.lo (By.s2 w0 w1 v0 v1))]), (w.heap.size + 2, [.int .i64 0, .int .u64 0]), (w.heap.size + 1, [.int .i64 v0, .int .i64 v1, .int .i64 v2]), (w.heap.size, [.int .i64 w0, .int .i64 w1, .int .i64 w2])]) ∨ (i = .int .i64 3 ∧ Ow w wr [(w.heap.size + 3, [.int .i64 (Wd.hi (By.s3 w0 w1 w2 v0 v1 v2)), .int .u64 (Wd.lo (By.s3 w0 w1 w2 v0 v1 v2))]), (w.heap.size + 2, [.int .i64 0, .int .u64 0]), (w.heap.size + 1, [.int .i64 v0, .int .i64 v1, .int .i64 v2]), (w.heap.size, [.int .i64 w0, .int .i64 w1, .int .i64 w2])])) (fun i _ _ _ => emsr3 i)
  case atStart => exact .inl ⟨rfl, by have h1 : Wd.hi 0 = 0 := (by unfold Wd.hi wrap64; omega); have h2 : Wd.lo 0 = 0 := (by unfold Wd.lo; omega); rw [h1, h2]; exact HO.out⟩
  case round =>
    clear HO
    rcases hrel with ⟨rfl, ho⟩ | ⟨rfl, ho⟩ | ⟨rfl, ho⟩ | ⟨rfl, ho⟩
    · skip
      have HO := Lib.hid ho
      clear ho
      go_upto_region 5 with fail
      refine Rg.region (I := fun _ W => Ow w W [(w.heap.size + 3, [.int .i64 (Wd.hi (0)), .int .u64 (Wd.lo (0))]), (w.heap.size + 2, [.int .i64 0, .int .u64 0]), (w.heap.size + 1, [.int .i64 v0, .int .i64 v1, .int .i64 v2]), (w.heap.size, [.int .i64 w0, .int .i64 w1, .int .i64 w2])]) (dem := fun _ => false) (m := 7) (g := 1) (T := fun listed bs st => ∀ W, Ow w W [(w.heap.size + 3, [.int .i64 (Wd.hi (0)), .int .u64 (Wd.lo (0))]), (w.heap.size + 2, [.int .i64 0, .int .u64 0]), (w.heap.size + 1, [.int .i64 v0, .int .i64 v1, .int .i64 v2]), (w.heap.size, [.int .i64 w0, .int .i64 w1, .int .i64 w2])] → wpAny Tryz.prog .any _ _ 1 listed st W) (by kernel_rfl) HO.out.drew rfl (fun _ _ _ _ h hI => h _ hI) ?_
      clear HO
      refine Rg.take 0 (v := .agg #[.int .i64 (Wd.hi (0)), .int .u64 (Wd.lo (0))]) rfl rfl (by kernel_rfl) (by kernel_rfl) (by kernel_rfl) (by kernel_rfl) (by kernel_rfl) (.inl ⟨rfl, fun bs wq hI => ?_⟩) ?_
      · exact quiet_ldr ty_wide (.tmp 5) rfl rfl rfl (hI.at 0 rfl)
      simp only [Act.put, List.getElem_toArray, List.getElem_cons_zero, List.getElem_cons_succ, List.setIfInBounds_toArray, List.set_cons_zero, List.set_cons_succ]
      refine Rg.take 1 (v := .int .i64 w0) rfl rfl (by kernel_rfl) (by kernel_rfl) (by kernel_rfl) (by kernel_rfl) (by kernel_rfl) (.inl ⟨rfl, fun bs wq hI => ?_⟩) ?_
      · go_simp
      simp only [Act.put, List.getElem_toArray, List.getElem_cons_zero, List.getElem_cons_succ, List.setIfInBounds_toArray, List.set_cons_zero, List.set_cons_succ]
      refine Rg.take 2 (v := .int .i64 0) rfl rfl (by kernel_rfl) (by kernel_rfl) (by kernel_rfl) (by kernel_rfl) (by kernel_rfl) (.inl ⟨rfl, fun bs wq hI => ?_⟩) ?_
      · go_simp
      simp only [Act.put, List.getElem_toArray, List.getElem_cons_zero, List.getElem_cons_succ, List.setIfInBounds_toArray, List.set_cons_zero, List.set_cons_succ]
      refine Rg.take 3 (v := .pointer (some ⟨w.heap.size + 1, 0, none⟩)) rfl rfl (by kernel_rfl) (by kernel_rfl) (by kernel_rfl) (by kernel_rfl) (by kernel_rfl) (.inl ⟨rfl, fun bs wq hI => ?_⟩) ?_
      · go_simp
      simp only [Act.put, List.getElem_toArray, List.getElem_cons_zero, List.getElem_cons_succ, List.setIfInBounds_toArray, List.set_cons_zero, List.set_cons_succ]
      refine Rg.take 4 (v := .int .i64 v0) rfl rfl (by kernel_rfl) (by kernel_rfl) (by kernel_rfl) (by kernel_rfl) (by kernel_rfl) (.inl ⟨rfl, fun bs wq hI => ?_⟩) ?_
      · (have hc := (hI.at 2 rfl).cell 0 rfl; go_simp)
      simp only [Act.put, List.getElem_toArray, List.getElem_cons_zero, List.getElem_cons_succ, List.setIfInBounds_toArray, List.set_cons_zero, List.set_cons_succ]
      refine Rg.take 5 (v := .agg #[.int .i64 (Wd.hi (w0 * v0)), .int .u64 (Wd.lo (w0 * v0))]) rfl rfl (by kernel_rfl) (by kernel_rfl) (by kernel_rfl) (by kernel_rfl) (by kernel_rfl) (.inl ⟨rfl, fun bs wq hI => ?_⟩) ?_
      · (go_simp; exact (M0 _).mono fun e w2 h => ⟨h.1, hI.call h.2⟩)
      simp only [Act.put, List.getElem_toArray, List.getElem_cons_zero, List.getElem_cons_succ, List.setIfInBounds_toArray, List.set_cons_zero, List.set_cons_succ]
      refine Rg.take 6 (v := .agg #[.int .i64 (Wd.hi (By.s1 w0 v0)), .int .u64 (Wd.lo (By.s1 w0 v0))]) rfl rfl (by kernel_rfl) (by kernel_rfl) (by kernel_rfl) (by kernel_rfl) (by kernel_rfl) (.inl ⟨rfl, fun bs wq hI => ?_⟩) ?_
      · (go_simp; exact (A0 _).mono fun e w2 h => ⟨h.1, hI.call h.2⟩)
      simp only [Act.put, List.getElem_toArray, List.getElem_cons_zero, List.getElem_cons_succ, List.setIfInBounds_toArray, List.set_cons_zero, List.set_cons_succ]
      refine Rg.done (rs := [7]) (by kernel_rfl) (by decide) (fun W hI => ?_)
      refine wpAny_sto ty_wide 7 (by kernel_rfl) rfl hI 0 [.int .i64 (Wd.hi (By.s1 w0 v0)), .int .u64 (Wd.lo (By.s1 w0 v0))] rfl _ _ rfl _ rfl rfl _ rfl rfl rfl rfl ?_
      intro W1 hI1
      simp only [Act.put, List.getElem_toArray, List.getElem_cons_zero, List.getElem_cons_succ, List.setIfInBounds_toArray, List.set_cons_zero, List.set_cons_succ]
      have HO := Lib.hid hI1
      clear hI hI1
      refine wpAny_done (by kernel_rfl) ?_ _
      go_wp2_with fail
      go_roundw
      case rel => exact .inr (.inl ⟨by go_num, HO.out⟩)
      case measure => simp [emsr3, intOf]
    · skip
      have HO := Lib.hid ho
      clear ho
      go_upto_region 5 with fail
      refine Rg.region (I := fun _ W => Ow w W [(w.heap.size + 3, [.int .i64 (Wd.hi (By.s1 w0 v0)), .int .u64 (Wd.lo (By.s1 w0 v0))]), (w.heap.size + 2, [.int .i64 0, .int .u64 0]), (w.heap.size + 1, [.int .i64 v0, .int .i64 v1, .int .i64 v2]), (w.heap.size, [.int .i64 w0, .int .i64 w1, .int .i64 w2])]) (dem := fun _ => false) (m := 7) (g := 1) (T := fun listed bs st => ∀ W, Ow w W [(w.heap.size + 3, [.int .i64 (Wd.hi (By.s1 w0 v0)), .int .u64 (Wd.lo (By.s1 w0 v0))]), (w.heap.size + 2, [.int .i64 0, .int .u64 0]), (w.heap.size + 1, [.int .i64 v0, .int .i64 v1, .int .i64 v2]), (w.heap.size, [.int .i64 w0, .int .i64 w1, .int .i64 w2])] → wpAny Tryz.prog .any _ _ 1 listed st W) (by kernel_rfl) HO.out.drew rfl (fun _ _ _ _ h hI => h _ hI) ?_
      clear HO
      refine Rg.take 0 (v := .agg #[.int .i64 (Wd.hi (By.s1 w0 v0)), .int .u64 (Wd.lo (By.s1 w0 v0))]) rfl rfl (by kernel_rfl) (by kernel_rfl) (by kernel_rfl) (by kernel_rfl) (by kernel_rfl) (.inl ⟨rfl, fun bs wq hI => ?_⟩) ?_
      · exact quiet_ldr ty_wide (.tmp 5) rfl rfl rfl (hI.at 0 rfl)
      simp only [Act.put, List.getElem_toArray, List.getElem_cons_zero, List.getElem_cons_succ, List.setIfInBounds_toArray, List.set_cons_zero, List.set_cons_succ]
      refine Rg.take 1 (v := .int .i64 w1) rfl rfl (by kernel_rfl) (by kernel_rfl) (by kernel_rfl) (by kernel_rfl) (by kernel_rfl) (.inl ⟨rfl, fun bs wq hI => ?_⟩) ?_
      · go_simp
      simp only [Act.put, List.getElem_toArray, List.getElem_cons_zero, List.getElem_cons_succ, List.setIfInBounds_toArray, List.set_cons_zero, List.set_cons_succ]
      refine Rg.take 2 (v := .int .i64 1) rfl rfl (by kernel_rfl) (by kernel_rfl) (by kernel_rfl) (by kernel_rfl) (by kernel_rfl) (.inl ⟨rfl, fun bs wq hI => ?_⟩) ?_
      · go_simp
      simp only [Act.put, List.getElem_toArray, List.getElem_cons_zero, List.getElem_cons_succ, List.setIfInBounds_toArray, List.set_cons_zero, List.set_cons_succ]
      refine Rg.take 3 (v := .pointer (some ⟨w.heap.size + 1, 1, none⟩)) rfl rfl (by kernel_rfl) (by kernel_rfl) (by kernel_rfl) (by kernel_rfl) (by kernel_rfl) (.inl ⟨rfl, fun bs wq hI => ?_⟩) ?_
      · go_simp
      simp only [Act.put, List.getElem_toArray, List.getElem_cons_zero, List.getElem_cons_succ, List.setIfInBounds_toArray, List.set_cons_zero, List.set_cons_succ]
      refine Rg.take 4 (v := .int .i64 v1) rfl rfl (by kernel_rfl) (by kernel_rfl) (by kernel_rfl) (by kernel_rfl) (by kernel_rfl) (.inl ⟨rfl, fun bs wq hI => ?_⟩) ?_
      · (have hc := (hI.at 2 rfl).cell 1 rfl; go_simp)
      simp only [Act.put, List.getElem_toArray, List.getElem_cons_zero, List.getElem_cons_succ, List.setIfInBounds_toArray, List.set_cons_zero, List.set_cons_succ]
      refine Rg.take 5 (v := .agg #[.int .i64 (Wd.hi (w1 * v1)), .int .u64 (Wd.lo (w1 * v1))]) rfl rfl (by kernel_rfl) (by kernel_rfl) (by kernel_rfl) (by kernel_rfl) (by kernel_rfl) (.inl ⟨rfl, fun bs wq hI => ?_⟩) ?_
      · (go_simp; exact (M1 _).mono fun e w2 h => ⟨h.1, hI.call h.2⟩)
      simp only [Act.put, List.getElem_toArray, List.getElem_cons_zero, List.getElem_cons_succ, List.setIfInBounds_toArray, List.set_cons_zero, List.set_cons_succ]
      refine Rg.take 6 (v := .agg #[.int .i64 (Wd.hi (By.s2 w0 w1 v0 v1)), .int .u64 (Wd.lo (By.s2 w0 w1 v0 v1))]) rfl rfl (by kernel_rfl) (by kernel_rfl) (by kernel_rfl) (by kernel_rfl) (by kernel_rfl) (.inl ⟨rfl, fun bs wq hI => ?_⟩) ?_
      · (go_simp; exact (A1 _).mono fun e w2 h => ⟨h.1, hI.call h.2⟩)
      simp only [Act.put, List.getElem_toArray, List.getElem_cons_zero, List.getElem_cons_succ, List.setIfInBounds_toArray, List.set_cons_zero, List.set_cons_succ]
      refine Rg.done (rs := [7]) (by kernel_rfl) (by decide) (fun W hI => ?_)
      refine wpAny_sto ty_wide 7 (by kernel_rfl) rfl hI 0 [.int .i64 (Wd.hi (By.s2 w0 w1 v0 v1)), .int .u64 (Wd.lo (By.s2 w0 w1 v0 v1))] rfl _ _ rfl _ rfl rfl _ rfl rfl rfl rfl ?_
      intro W1 hI1
      simp only [Act.put, List.getElem_toArray, List.getElem_cons_zero, List.getElem_cons_succ, List.setIfInBounds_toArray, List.set_cons_zero, List.set_cons_succ]
      have HO := Lib.hid hI1
      clear hI hI1
      refine wpAny_done (by kernel_rfl) ?_ _
      go_wp2_with fail
      go_roundw
      case rel => exact .inr (.inr (.inl ⟨by go_num, HO.out⟩))
      case measure => simp [emsr3, intOf]
    · skip
      have HO := Lib.hid ho
      clear ho
      go_upto_region 5 with fail
      refine Rg.region (I := fun _ W => Ow w W [(w.heap.size + 3, [.int .i64 (Wd.hi (By.s2 w0 w1 v0 v1)), .int .u64 (Wd.lo (By.s2 w0 w1 v0 v1))]), (w.heap.size + 2, [.int .i64 0, .int .u64 0]), (w.heap.size + 1, [.int .i64 v0, .int .i64 v1, .int .i64 v2]), (w.heap.size, [.int .i64 w0, .int .i64 w1, .int .i64 w2])]) (dem := fun _ => false) (m := 7) (g := 1) (T := fun listed bs st => ∀ W, Ow w W [(w.heap.size + 3, [.int .i64 (Wd.hi (By.s2 w0 w1 v0 v1)), .int .u64 (Wd.lo (By.s2 w0 w1 v0 v1))]), (w.heap.size + 2, [.int .i64 0, .int .u64 0]), (w.heap.size + 1, [.int .i64 v0, .int .i64 v1, .int .i64 v2]), (w.heap.size, [.int .i64 w0, .int .i64 w1, .int .i64 w2])] → wpAny Tryz.prog .any _ _ 1 listed st W) (by kernel_rfl) HO.out.drew rfl (fun _ _ _ _ h hI => h _ hI) ?_
      clear HO
      refine Rg.take 0 (v := .agg #[.int .i64 (Wd.hi (By.s2 w0 w1 v0 v1)), .int .u64 (Wd.lo (By.s2 w0 w1 v0 v1))]) rfl rfl (by kernel_rfl) (by kernel_rfl) (by kernel_rfl) (by kernel_rfl) (by kernel_rfl) (.inl ⟨rfl, fun bs wq hI => ?_⟩) ?_
      · exact quiet_ldr ty_wide (.tmp 5) rfl rfl rfl (hI.at 0 rfl)
      simp only [Act.put, List.getElem_toArray, List.getElem_cons_zero, List.getElem_cons_succ, List.setIfInBounds_toArray, List.set_cons_zero, List.set_cons_succ]
      refine Rg.take 1 (v := .int .i64 w2) rfl rfl (by kernel_rfl) (by kernel_rfl) (by kernel_rfl) (by kernel_rfl) (by kernel_rfl) (.inl ⟨rfl, fun bs wq hI => ?_⟩) ?_
      · go_simp
      simp only [Act.put, List.getElem_toArray, List.getElem_cons_zero, List.getElem_cons_succ, List.setIfInBounds_toArray, List.set_cons_zero, List.set_cons_succ]
      refine Rg.take 2 (v := .int .i64 2) rfl rfl (by kernel_rfl) (by kernel_rfl) (by kernel_rfl) (by kernel_rfl) (by kernel_rfl) (.inl ⟨rfl, fun bs wq hI => ?_⟩) ?_
      · go_simp
      simp only [Act.put, List.getElem_toArray, List.getElem_cons_zero, List.getElem_cons_succ, List.setIfInBounds_toArray, List.set_cons_zero, List.set_cons_succ]
      refine Rg.take 3 (v := .pointer (some ⟨w.heap.size + 1, 2, none⟩)) rfl rfl (by kernel_rfl) (by kernel_rfl) (by kernel_rfl) (by kernel_rfl) (by kernel_rfl) (.inl ⟨rfl, fun bs wq hI => ?_⟩) ?_
      · go_simp
      simp only [Act.put, List.getElem_toArray, List.getElem_cons_zero, List.getElem_cons_succ, List.setIfInBounds_toArray, List.set_cons_zero, List.set_cons_succ]
      refine Rg.take 4 (v := .int .i64 v2) rfl rfl (by kernel_rfl) (by kernel_rfl) (by kernel_rfl) (by kernel_rfl) (by kernel_rfl) (.inl ⟨rfl, fun bs wq hI => ?_⟩) ?_
      · (have hc := (hI.at 2 rfl).cell 2 rfl; go_simp)
      simp only [Act.put, List.getElem_toArray, List.getElem_cons_zero, List.getElem_cons_succ, List.setIfInBounds_toArray, List.set_cons_zero, List.set_cons_succ]
      refine Rg.take 5 (v := .agg #[.int .i64 (Wd.hi (w2 * v2)), .int .u64 (Wd.lo (w2 * v2))]) rfl rfl (by kernel_rfl) (by kernel_rfl) (by kernel_rfl) (by kernel_rfl) (by kernel_rfl) (.inl ⟨rfl, fun bs wq hI => ?_⟩) ?_
      · (go_simp; exact (M2 _).mono fun e w2 h => ⟨h.1, hI.call h.2⟩)
      simp only [Act.put, List.getElem_toArray, List.getElem_cons_zero, List.getElem_cons_succ, List.setIfInBounds_toArray, List.set_cons_zero, List.set_cons_succ]
      refine Rg.take 6 (v := .agg #[.int .i64 (Wd.hi (By.s3 w0 w1 w2 v0 v1 v2)), .int .u64 (Wd.lo (By.s3 w0 w1 w2 v0 v1 v2))]) rfl rfl (by kernel_rfl) (by kernel_rfl) (by kernel_rfl) (by kernel_rfl) (by kernel_rfl) (.inl ⟨rfl, fun bs wq hI => ?_⟩) ?_
      · (go_simp; exact (A2 _).mono fun e w2 h => ⟨h.1, hI.call h.2⟩)
      simp only [Act.put, List.getElem_toArray, List.getElem_cons_zero, List.getElem_cons_succ, List.setIfInBounds_toArray, List.set_cons_zero, List.set_cons_succ]
      refine Rg.done (rs := [7]) (by kernel_rfl) (by decide) (fun W hI => ?_)
      refine wpAny_sto ty_wide 7 (by kernel_rfl) rfl hI 0 [.int .i64 (Wd.hi (By.s3 w0 w1 w2 v0 v1 v2)), .int .u64 (Wd.lo (By.s3 w0 w1 w2 v0 v1 v2))] rfl _ _ rfl _ rfl rfl _ rfl rfl rfl rfl ?_
      intro W1 hI1
      simp only [Act.put, List.getElem_toArray, List.getElem_cons_zero, List.getElem_cons_succ, List.setIfInBounds_toArray, List.set_cons_zero, List.set_cons_succ]
      have HO := Lib.hid hI1
      clear hI hI1
      refine wpAny_done (by kernel_rfl) ?_ _
      go_wp2_with fail
      go_roundw
      case rel => exact .inr (.inr (.inr (⟨by go_num, HO.out⟩)))
      case measure => simp [emsr3, intOf]
    · have HO := Lib.hid ho
      clear ho M0 M1 M2 A0 A1 A2
      go_wp2_with (first | ((with_reducible show wpList _ _ _ ({ dst := _, op := Op.load 154 _, type := _, pos := _, after := _, guard := _ } :: _) _ _); refine wpList_ldr ty_wide rfl _ rfl _ rfl _ rfl (HO.out.at 0 rfl) ?_) | ((with_reducible show wpList _ _ _ ({ dst := _, op := Op.store 154 _ _, type := _, pos := _, after := _, guard := _ } :: _) _ _); refine wpList_sto ty_wide HO.out 1 [.int .i64 (Wd.hi (By.s3 w0 w1 w2 v0 v1 v2)), .int .u64 (Wd.lo (By.s3 w0 w1 w2 v0 v1 v2))] rfl _ _ rfl _ rfl rfl _ rfl rfl rfl rfl ?_; intro w2 l2; clear HO; have HO := Lib.hid l2; clear l2))
      exact bodyPost_ret (results_c ty_wide rfl rfl rfl (HO.out.at 1 rfl)) rfl ⟨rfl, HO.out.k⟩

theorem mix_no (w0 w1 w2 v0 v1 v2 : Int) (w : World) (h : (By.in3 0 4398046511104 w0 w1 w2 && By.in3 (-1073741824) 1073741824 v0 v1 v2) = false) :
    Calls Tryz.prog 84 #[.agg #[.int .i64 w0, .int .i64 w1, .int .i64 w2], .agg #[.int .i64 v0, .int .i64 v1, .int .i64 v2]] w fun e w' => e = .returned (.tuple #[.int .i64 0, .int .i64 3]) ∧ Kp w.heap.size w w' := by
  have HO := Lib.hid (((Ow.refl w).newAt w.heap.size rfl (.int .i64 w0) [.int .i64 w1, .int .i64 w2] 94).newAt (w.heap.size + 1) (by simp) (.int .i64 v0) [.int .i64 v1, .int .i64 v2] 94)
  have W1 := fun W => within_any 0 4398046511104 w0 w1 w2 W
  have W2 := fun W => within_any (-1073741824) 1073741824 v0 v1 v2 W
  cases h1 : By.in3 0 4398046511104 w0 w1 w2
  · rw [h1] at W1
    clear h h1 W2
    go_enter Tryz.func84, Tryz.ntmps84
    go_wp2_with (first   | go_big_skip   | ((with_reducible show wpList _ _ _ ({ dst := _, op := Op.load 94 (Operand.tmp 2), type := _, pos := _, after := _, guard := _ } :: _) _ _); refine wpList_ldr ty_i3 rfl _ rfl _ rfl _ rfl (HO.out.at 1 rfl) ?_)   | ((with_reducible show wpList _ _ _ ({ dst := _, op := Op.load 94 (Operand.tmp 3), type := _, pos := _, after := _, guard := _ } :: _) _ _); refine wpList_ldr ty_i3 rfl _ rfl _ rfl _ rfl (HO.out.at 0 rfl) ?_)   | (go_at_call 114; (with_reducible refine (W1 _).mono ?_); rintro e wz ⟨rfl, hk1⟩; have l2 := HO.out.call hk1; clear HO hk1; have HO := Lib.hid l2; clear l2)   | (go_at_call 114; (with_reducible refine (W2 _).mono ?_); rintro e wz ⟨rfl, hk1⟩; have l2 := HO.out.call hk1; clear HO hk1; have HO := Lib.hid l2; clear l2))
    go_ret2
    exact ⟨rfl, HO.out.k⟩
  · rw [h1, Bool.true_and] at h
    rw [h1] at W1
    rw [h] at W2
    clear h h1
    go_enter Tryz.func84, Tryz.ntmps84
    go_wp2_with (first   | go_big_skip   | ((with_reducible show wpList _ _ _ ({ dst := _, op := Op.load 94 (Operand.tmp 2), type := _, pos := _, after := _, guard := _ } :: _) _ _); refine wpList_ldr ty_i3 rfl _ rfl _ rfl _ rfl (HO.out.at 1 rfl) ?_)   | ((with_reducible show wpList _ _ _ ({ dst := _, op := Op.load 94 (Operand.tmp 3), type := _, pos := _, after := _, guard := _ } :: _) _ _); refine wpList_ldr ty_i3 rfl _ rfl _ rfl _ rfl (HO.out.at 0 rfl) ?_)   | (go_at_call 114; (with_reducible refine (W1 _).mono ?_); rintro e wz ⟨rfl, hk1⟩; have l2 := HO.out.call hk1; clear HO hk1; have HO := Lib.hid l2; clear l2)   | (go_at_call 114; (with_reducible refine (W2 _).mono ?_); rintro e wz ⟨rfl, hk1⟩; have l2 := HO.out.call hk1; clear HO hk1; have HO := Lib.hid l2; clear l2))
    go_ret2
    exact ⟨rfl, HO.out.k⟩
set_option maxHeartbeats 4000000 in
theorem mix_zero (w0 w1 w2 v0 v1 v2 : Int) (w : World) (hw : By.in3 0 4398046511104 w0 w1 w2 = true) (hv : By.in3 (-1073741824) 1073741824 v0 v1 v2 = true) (h0 : ¬ 0 < w0 + w1 + w2) :
    Calls Tryz.prog 84 #[.agg #[.int .i64 w0, .int .i64 w1, .int .i64 w2], .agg #[.int .i64 v0, .int .i64 v1, .int .i64 v2]] w fun e w' => e = .returned (.tuple #[.int .i64 0, .int .i64 3]) ∧ Kp w.heap.size w w' := by
  have he : (w0 + w1 + w2 == 0) = true := by have := By.in3_iff.1 hw; simp; omega
  clear h0
  have HO := Lib.hid (((Ow.refl w).newAt w.heap.size rfl (.int .i64 w0) [.int .i64 w1, .int .i64 w2] 94).newAt (w.heap.size + 1) (by simp) (.int .i64 v0) [.int .i64 v1, .int .i64 v2] 94)
  have W1 := fun W => within_any 0 4398046511104 w0 w1 w2 W
  have W2 := fun W => within_any (-1073741824) 1073741824 v0 v1 v2 W
  rw [hw] at W1
  rw [hv] at W2
  obtain ⟨⟨p0, p0'⟩, ⟨p1, p1'⟩, p2, p2'⟩ := By.in3_iff.1 hw
  go_enter Tryz.func84, Tryz.ntmps84
  go_upto_region 3 with (first   | go_big_skip   | ((with_reducible show wpList _ _ _ ({ dst := _, op := Op.load 94 (Operand.tmp 2), type := _, pos := _, after := _, guard := _ } :: _) _ _); refine wpList_ldr ty_i3 rfl _ rfl _ rfl _ rfl (HO.out.at 1 rfl) ?_)   | ((with_reducible show wpList _ _ _ ({ dst := _, op := Op.load 94 (Operand.tmp 3), type := _, pos := _, after := _, guard := _ } :: _) _ _); refine wpList_ldr ty_i3 rfl _ rfl _ rfl _ rfl (HO.out.at 0 rfl) ?_)   | (go_at_call 114; (with_reducible refine (W1 _).mono ?_); rintro e wz ⟨rfl, hk1⟩; have l2 := HO.out.call hk1; clear HO hk1; have HO := Lib.hid l2; clear l2)   | (go_at_call 114; (with_reducible refine (W2 _).mono ?_); rintro e wz ⟨rfl, hk1⟩; have l2 := HO.out.call hk1; clear HO hk1; have HO := Lib.hid l2; clear l2))
  have c0 := (HO.out.at 1 rfl).cell 0 rfl
  have c1 := (HO.out.at 1 rfl).cell 1 rfl
  have c2 := (HO.out.at 1 rfl).cell 2 rfl
  go_wp2_with fail
  go_ret2
  exact ⟨rfl, HO.out.k⟩
set_option maxHeartbeats 4000000 in
theorem bymix_yes (w0 w1 w2 v0 v1 v2 : Int) (w : World) (hw : By.in3 0 4398046511104 w0 w1 w2 = true) (hv : By.in3 (-1073741824) 1073741824 v0 v1 v2 = true) (h0 : 0 < w0 + w1 + w2) :
    Calls Tryz.prog 84 #[.agg #[.int .i64 w0, .int .i64 w1, .int .i64 w2], .agg #[.int .i64 v0, .int .i64 v1, .int .i64 v2]] w fun e w' => e = .returned (.tuple #[.int .i64 (By.mix w0 w1 w2 v0 v1 v2), .int .i64 0]) ∧ Kp w.heap.size w w' := by
  have he : (w0 + w1 + w2 == 0) = false := by simp; omega
  have G1 := fun W => byweighed_any w0 w1 w2 v0 v1 v2 W hw hv
  have F1 : ∀ W, Calls Tryz.prog 116 #[.agg #[.int .i64 (Wd.hi (By.s3 w0 w1 w2 v0 v1 v2)), .int .u64 (Wd.lo (By.s3 w0 w1 w2 v0 v1 v2))], .int .i64 (w0 + w1 + w2)] W fun e w' => e = .returned (.tuple #[.int .i64 (By.mix w0 w1 w2 v0 v1 v2), .int .i64 0]) ∧ Kp W.heap.size W w' := fun W => by
    have k := By.in3_iff.1 hw
    have e := By.floor hw hv h0
    rw [← e.2, ← e.1]
    exact floor_any _ _ W (by unfold Wd.isInt; omega) (by omega)
  generalize By.mix w0 w1 w2 v0 v1 v2 = m at *
  have HO := Lib.hid (((Ow.refl w).newAt w.heap.size rfl (.int .i64 w0) [.int .i64 w1, .int .i64 w2] 94).newAt (w.heap.size + 1) (by simp) (.int .i64 v0) [.int .i64 v1, .int .i64 v2] 94)
  have W1 := fun W => within_any 0 4398046511104 w0 w1 w2 W
  have W2 := fun W => within_any (-1073741824) 1073741824 v0 v1 v2 W
  rw [hw] at W1
  rw [hv] at W2
  obtain ⟨⟨p0, p0'⟩, ⟨p1, p1'⟩, p2, p2'⟩ := By.in3_iff.1 hw
  go_enter Tryz.func84, Tryz.ntmps84
  go_upto_region 3 with (first   | go_big_skip   | ((with_reducible show wpList _ _ _ ({ dst := _, op := Op.load 94 (Operand.tmp 2), type := _, pos := _, after := _, guard := _ } :: _) _ _); refine wpList_ldr ty_i3 rfl _ rfl _ rfl _ rfl (HO.out.at 1 rfl) ?_)   | ((with_reducible show wpList _ _ _ ({ dst := _, op := Op.load 94 (Operand.tmp 3), type := _, pos := _, after := _, guard := _ } :: _) _ _); refine wpList_ldr ty_i3 rfl _ rfl _ rfl _ rfl (HO.out.at 0 rfl) ?_)   | (go_at_call 114; (with_reducible refine (W1 _).mono ?_); rintro e wz ⟨rfl, hk1⟩; have l2 := HO.out.call hk1; clear HO hk1; have HO := Lib.hid l2; clear l2)   | (go_at_call 114; (with_reducible refine (W2 _).mono ?_); rintro e wz ⟨rfl, hk1⟩; have l2 := HO.out.call hk1; clear HO hk1; have HO := Lib.hid l2; clear l2))
  have c0 := (HO.out.at 1 rfl).cell 0 rfl
  have c1 := (HO.out.at 1 rfl).cell 1 rfl
  have c2 := (HO.out.at 1 rfl).cell 2 rfl
  go_upto_region 6 with fail
  clear c0 c1 c2
  go_wp2_with (first
    | ((with_reducible show wpList _ _ _ ({ dst := _, op := Op.load 94 (Operand.tmp 2), type := _, pos := _, after := _, guard := _ } :: _) _ _); refine wpList_ldr ty_i3 rfl _ rfl _ rfl _ rfl (HO.out.at 1 rfl) ?_)
    | ((with_reducible show wpList _ _ _ ({ dst := _, op := Op.load 94 (Operand.tmp 3), type := _, pos := _, after := _, guard := _ } :: _) _ _); refine wpList_ldr ty_i3 rfl _ rfl _ rfl _ rfl (HO.out.at 0 rfl) ?_)
    | (go_at_call 115; (with_reducible refine (G1 _).mono ?_); rintro e wz ⟨rfl, hk1⟩; have l2 := HO.out.call hk1; clear HO hk1; have HO := Lib.hid l2; clear l2)
    | (go_at_call 116; (with_reducible refine (F1 _).mono ?_); rintro e wz ⟨rfl, hk1⟩; have l2 := HO.out.call hk1; clear HO hk1; have HO := Lib.hid l2; clear l2))
  go_ret2
  exact ⟨rfl, HO.out.k⟩
end Go.Proofs.YtankjlpanmmogaaGreat
