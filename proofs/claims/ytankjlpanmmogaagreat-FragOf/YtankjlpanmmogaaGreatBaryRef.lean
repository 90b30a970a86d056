/-
  Contracts of layer 13: the document's own answers; what must come at any rate.
-/
import Derived.Test.YtankjlpanmmogaaGreatBaryWalks2
import Derived.Test.YtankjlpanmmogaaGreatJTexPlain
import Derived.BigGuard
namespace Go.Proofs.YtankjlpanmmogaaGreat
set_option maxRecDepth 100000
open Go.RowKit

theorem By.ok_eq (a b c x y z : Int) : By.ok a b c x y z = ((By.in1 0 4398046511104 a && By.in1 (-1073741824) 1073741824 x) && (By.in1 0 4398046511104 b && By.in1 (-1073741824) 1073741824 y) && (By.in1 0 4398046511104 c && By.in1 (-1073741824) 1073741824 z) && decide (0 < a + b + c)) := by
  unfold By.ok By.in3
  cases By.in1 0 4398046511104 a <;> cases By.in1 (-1073741824) 1073741824 x <;> cases By.in1 0 4398046511104 b <;> cases By.in1 (-1073741824) 1073741824 y <;> simp
theorem By.ok_iff {a b c x y z : Int} : By.ok a b c x y z = true ↔ By.in3 0 4398046511104 a b c = true ∧ By.in3 (-1073741824) 1073741824 x y z = true ∧ 0 < a + b + c := by
  simp [By.ok, and_assoc]
theorem By.fl_bd {v : Int} (h1 : -1073741824 ≤ v) (h2 : v ≤ 1073741824) : (-32768 ≤ v / 32768 ∧ v / 32768 ≤ 32768) ∧ 0 ≤ v - 32768 * (v / 32768) ∧ v - 32768 * (v / 32768) ≤ 32767 := by omega
theorem By.mul_dig {n m : Int} (h1 : 0 ≤ n) (h2 : n ≤ 4398046511104) (h3 : -32768 ≤ m) (h4 : m ≤ 32768) : -144115188075855872 ≤ n * m ∧ n * m ≤ 144115188075855872 := by
  have k : (n * m).natAbs ≤ 4398046511104 * 32768 := by rw [Int.natAbs_mul]; exact Nat.mul_le_mul (by omega) (by omega)
  omega
set_option linter.unusedSimpArgs false in
set_option maxHeartbeats 8000000 in
theorem rmix_any (w0 w1 w2 v0 v1 v2 : Int) (w : World) (h : By.ok w0 w1 w2 v0 v1 v2 = true) :
    Calls Tryz.prog 57 #[.agg #[.int .i64 w0, .int .i64 w1, .int .i64 w2], .agg #[.int .i64 v0, .int .i64 v1, .int .i64 v2]] w fun e w' => e = .returned (.int .i64 (By.mix w0 w1 w2 v0 v1 v2)) ∧ Kp w.heap.size w w' := by
  obtain ⟨hw, hv, hs⟩ := By.ok_iff.1 h
  have HX := Lib.hid (By.digits (x := v0) (y := v1) (z := v2) hs)
  have HB := Lib.hid (By.between (lo := -1073741824) (hi := 1073741824) (By.in3_iff.1 hw).1.1 (By.in3_iff.1 hw).2.1.1 (By.in3_iff.1 hw).2.2.1 hs (fun _ => (By.in3_iff.1 hv).1) (fun _ => (By.in3_iff.1 hv).2.1) (fun _ => (By.in3_iff.1 hv).2.2))
  obtain ⟨⟨x0, x0'⟩, ⟨x1, x1'⟩, x2, x2'⟩ := By.in3_iff.1 hw
  obtain ⟨⟨y0, y0'⟩, ⟨y1, y1'⟩, y2, y2'⟩ := By.in3_iff.1 hv
  obtain ⟨⟨g0, g0'⟩, k0, k0'⟩ := By.fl_bd y0 y0'
  obtain ⟨⟨g1, g1'⟩, k1, k1'⟩ := By.fl_bd y1 y1'
  obtain ⟨⟨g2, g2'⟩, k2, k2'⟩ := By.fl_bd y2 y2'
  have F0 := fun W => rfloor_pos v0 32768 W (by omega) (by omega)
  have F1 := fun W => rfloor_pos v1 32768 W (by omega) (by omega)
  have F2 := fun W => rfloor_pos v2 32768 W (by omega) (by omega)
  clear h hw hv
  generalize By.mix w0 w1 w2 v0 v1 v2 = m at *
  generalize v0 / 32768 = h0 at *
  generalize v1 / 32768 = h1 at *
  generalize v2 / 32768 = h2 at *
  obtain ⟨a0, a0'⟩ := By.mul_dig x0 x0' g0 g0'
  obtain ⟨a1, a1'⟩ := By.mul_dig x1 x1' g1 g1'
  obtain ⟨a2, a2'⟩ := By.mul_dig x2 x2' g2 g2'
  obtain ⟨b0, b0'⟩ := By.mul_dig (m := v0 - 32768 * h0) x0 x0' (by omega) (by omega)
  obtain ⟨b1, b1'⟩ := By.mul_dig (m := v1 - 32768 * h1) x1 x1' (by omega) (by omega)
  obtain ⟨b2, b2'⟩ := By.mul_dig (m := v2 - 32768 * h2) x2 x2' (by omega) (by omega)
  have HO := Lib.hid (((Ow.refl w).newAt w.heap.size rfl (.int .i64 w0) [.int .i64 w1, .int .i64 w2] 94).newAt (w.heap.size + 1) (by simp) (.int .i64 v0) [.int .i64 v1, .int .i64 v2] 94)
  have c0 := (HO.out.at 1 rfl).cell 0 rfl
  have c1 := (HO.out.at 1 rfl).cell 1 rfl
  have c2 := (HO.out.at 1 rfl).cell 2 rfl
  go_enter Tryz.func57, Tryz.ntmps57
  go_wp2_with fail
  go_loopw [8, 6, 7, 9] (fun i H L _ wr => Ow w wr [(w.heap.size + 1, [.int .i64 v0, .int .i64 v1, .int .i64 v2]), (w.heap.size, [.int .i64 w0, .int .i64 w1, .int .i64 w2])] ∧ ((i = .int .i64 0 ∧ H = .int .i64 0 ∧ L = .int .i64 0) ∨ (i = .int .i64 1 ∧ H = .int .i64 (w0 * h0) ∧ L = .int .i64 (w0 * (v0 - 32768 * h0))) ∨ (i = .int .i64 2 ∧ H = .int .i64 (w0 * h0 + w1 * h1) ∧ L = .int .i64 (w0 * (v0 - 32768 * h0) + w1 * (v1 - 32768 * h1))) ∨ (i = .int .i64 3 ∧ H = .int .i64 (w0 * h0 + w1 * h1 + w2 * h2) ∧ L = .int .i64 (w0 * (v0 - 32768 * h0) + w1 * (v1 - 32768 * h1) + w2 * (v2 - 32768 * h2))))) (fun i _ _ _ _ => emsr3 i)
  case atStart => exact ⟨HO.out, .inl ⟨rfl, rfl, rfl⟩⟩
  case round =>
    clear HO c0 c1 c2
    obtain ⟨ho, hc⟩ := hrel
    have HO := Lib.hid ho
    clear ho
    have c0 := (HO.out.at 1 rfl).cell 0 rfl
    have c1 := (HO.out.at 1 rfl).cell 1 rfl
    have c2 := (HO.out.at 1 rfl).cell 2 rfl
    have d0 := (HO.out.at 0 rfl).cell 0 rfl
    have d1 := (HO.out.at 0 rfl).cell 1 rfl
    have d2 := (HO.out.at 0 rfl).cell 2 rfl
    rcases hc with ⟨rfl, rfl, rfl⟩ | ⟨rfl, rfl, rfl⟩ | ⟨rfl, rfl, rfl⟩ | ⟨rfl, rfl, rfl⟩
    · skip
      go_upto_region 9 with (go_at_call 60; (with_reducible refine (F0 _).mono ?_); rintro e w' ⟨rfl, rfl⟩)
      go_quiet (fail)
      go_wp2_with fail
      go_roundw
      case rel => exact ⟨HO.out.drewN _, .inr (.inl ⟨by go_num, rfl, rfl⟩)⟩
      case measure => simp [emsr3, intOf]
    · skip
      go_upto_region 9 with (go_at_call 60; (with_reducible refine (F1 _).mono ?_); rintro e w' ⟨rfl, rfl⟩)
      go_quiet (fail)
      go_wp2_with fail
      go_roundw
      case rel => exact ⟨HO.out.drewN _, .inr (.inr (.inl ⟨by go_num, rfl, rfl⟩))⟩
      case measure => simp [emsr3, intOf]
    · skip
      go_upto_region 9 with (go_at_call 60; (with_reducible refine (F2 _).mono ?_); rintro e w' ⟨rfl, rfl⟩)
      go_quiet (fail)
      go_wp2_with fail
      go_roundw
      case rel => exact ⟨HO.out.drewN _, .inr (.inr (.inr ⟨by go_num, rfl, rfl⟩))⟩
      case measure => simp [emsr3, intOf]
    · clear c0 c1 c2 d0 d1 d2 F0 F1 F2
      obtain ⟨t0, t0'⟩ := By.one (lo := -32768) (hi := 32768) x0 (fun _ => ⟨g0, g0'⟩)
      obtain ⟨t1, t1'⟩ := By.one (lo := -32768) (hi := 32768) x1 (fun _ => ⟨g1, g1'⟩)
      obtain ⟨t2, t2'⟩ := By.one (lo := -32768) (hi := 32768) x2 (fun _ => ⟨g2, g2'⟩)
      have z0 : (w0 + w1 + w2) * (-32768) ≤ w0 * h0 + w1 * h1 + w2 * h2 ∧ w0 * h0 + w1 * h1 + w2 * h2 < 32769 * (w0 + w1 + w2) := by omega
      have z1 : -432345564227567616 ≤ w0 * h0 + w1 * h1 + w2 * h2 ∧ w0 * h0 + w1 * h1 + w2 * h2 ≤ 432345564227567616 := by omega
      have z2 : -432345564227567616 ≤ w0 * (v0 - 32768 * h0) + w1 * (v1 - 32768 * h1) + w2 * (v2 - 32768 * h2) ∧ w0 * (v0 - 32768 * h0) + w1 * (v1 - 32768 * h1) + w2 * (v2 - 32768 * h2) ≤ 432345564227567616 := by omega
      have z3 : 0 < w0 + w1 + w2 ∧ w0 + w1 + w2 ≤ 13194139533312 := by omega
      clear t0 t1 t2 t0' t1' t2' a0 a1 a2 a0' a1' a2' b0 b1 b2 b0' b1' b2'
      clear k0 k0' k1 k1' k2 k2' g0 g0' g1 g1' g2 g2' hs
      generalize w0 * h0 + w1 * h1 + w2 * h2 = HL at *
      generalize w0 * (v0 - 32768 * h0) + w1 * (v1 - 32768 * h1) + w2 * (v2 - 32768 * h2) = LL at *
      generalize w0 + w1 + w2 = n at *
      obtain ⟨z1, z1'⟩ := z1
      obtain ⟨z2, z2'⟩ := z2
      obtain ⟨z3, z3'⟩ := z3
      have F3 := fun W => rfloor_pos HL n W (by omega) (by omega)
      have q1 : -32768 ≤ HL / n := Int.le_ediv_of_mul_le z3 (by omega)
      have q2 : HL / n < 32769 := Int.ediv_lt_of_lt_mul z3 z0.2
      have e1 := Int.mul_ediv_add_emod HL n
      have e2 := Int.emod_nonneg HL (b := n) (by omega)
      have e3 := Int.emod_lt_of_pos HL z3
      rw [Int.mul_comm] at e1
      clear z0
      generalize HL / n = q at *
      generalize HL % n = r at *
      have e4 : -9223372036854775808 ≤ q * n := by omega
      have e5 : q * n ≤ 9223372036854775807 := by omega
      have e6 : 0 ≤ HL - q * n := by omega
      have e7 : HL - q * n < n := by omega
      clear e1 e2 e3
      have F4 := fun W => rfloor_pos ((HL - q * n) * 32768 + LL) n W (by omega) (by omega)
      obtain ⟨y0, y0'⟩ := HB.out
      have HX1 := HX.out
      generalize ((HL - q * n) * 32768 + LL) / n = s at *
      have s1 : -2147483648 ≤ s := by omega
      have s2 : s ≤ 2147483648 := by omega
      clear HX1
      go_wp2_with (first
        | (go_at_call 60; (with_reducible refine (F3 _).mono ?_); rintro e w' ⟨rfl, rfl⟩)
        | (go_at_call 60; (with_reducible refine (F4 _).mono ?_); rintro e w' ⟨rfl, rfl⟩))
      go_ret
      exact ⟨ret_int HX.out, HO.out.k⟩
set_option linter.unusedSimpArgs false in
set_option maxRecDepth 100000 in
set_option maxHeartbeats 8000000 in
theorem rweights_any (a1 a2 b1 b2 c1 c2 p1 p2 : Int) (w : World) (ha : Eg.may a1 a2 = true) (hb : Eg.may b1 b2 = true) (hc : Eg.may c1 c2 = true) (hp : Eg.may p1 p2 = true) :
    Calls Tryz.prog 55 #[.agg #[.int .i64 a1, .int .i64 a2], .agg #[.int .i64 b1, .int .i64 b2], .agg #[.int .i64 c1, .int .i64 c2], .agg #[.int .i64 p1, .int .i64 p2]] w fun e w' => e = .returned (.agg #[.int .i64 (Eg.side b1 b2 c1 c2 p1 p2), .int .i64 (Eg.side c1 c2 a1 a2 p1 p2), .int .i64 (Eg.side a1 a2 b1 b2 p1 p2)]) ∧ Kp w.heap.size w w' := by
  have S0 := fun W => rside_any b1 b2 c1 c2 p1 p2 W hb hc hp
  have S1 := fun W => rside_any c1 c2 a1 a2 p1 p2 W hc ha hp
  have S2 := fun W => rside_any a1 a2 b1 b2 p1 p2 W ha hb hp
  clear ha hb hc hp
  generalize Eg.side b1 b2 c1 c2 p1 p2 = x at *
  generalize Eg.side c1 c2 a1 a2 p1 p2 = y at *
  generalize Eg.side a1 a2 b1 b2 p1 p2 = z at *
  have HO := Lib.hid ((((((Ow.refl w).newAt w.heap.size rfl (.int .i64 a1) [.int .i64 a2] 23).newAt (w.heap.size + 1) (by simp) (.int .i64 b1) [.int .i64 b2] 23).newAt (w.heap.size + 2) (by simp) (.int .i64 c1) [.int .i64 c2] 23).newAt (w.heap.size + 3) (by simp) (.int .i64 p1) [.int .i64 p2] 23).newAt (w.heap.size + 4) (by simp) (.int .i64 0) [.int .i64 0, .int .i64 0] 94)
  go_enter Tryz.func55, Tryz.ntmps55
  go_upto_region 1 with fail
  refine Rg.region (I := fun _ W => Ow w W [(w.heap.size + 4, [.int .i64 0, .int .i64 0, .int .i64 0]), (w.heap.size + 3, [.int .i64 p1, .int .i64 p2]), (w.heap.size + 2, [.int .i64 c1, .int .i64 c2]), (w.heap.size + 1, [.int .i64 b1, .int .i64 b2]), (w.heap.size, [.int .i64 a1, .int .i64 a2])]) (dem := fun _ => false) (m := 13) (g := 1) (T := fun listed bs st => ∀ W, Ow w W [(w.heap.size + 4, [.int .i64 0, .int .i64 0, .int .i64 0]), (w.heap.size + 3, [.int .i64 p1, .int .i64 p2]), (w.heap.size + 2, [.int .i64 c1, .int .i64 c2]), (w.heap.size + 1, [.int .i64 b1, .int .i64 b2]), (w.heap.size, [.int .i64 a1, .int .i64 a2])] → wpAny Tryz.prog .any _ _ 1 listed st W) (by kernel_rfl) HO.out.drew rfl (fun _ _ _ _ h hI => h _ hI) ?_
  clear HO
  refine Rg.take 0 (v := .agg #[.int .i64 b1, .int .i64 b2]) rfl rfl (by kernel_rfl) (by kernel_rfl) (by kernel_rfl) (by kernel_rfl) (by kernel_rfl) (.inl ⟨rfl, fun bs wq hI => ?_⟩) ?_
  · exact quiet_ldr ty_point (.tmp 5) rfl rfl rfl (hI.at 3 rfl)
  simp only [Act.put, List.getElem_toArray, List.getElem_cons_zero, List.getElem_cons_succ, List.setIfInBounds_toArray, List.set_cons_zero, List.set_cons_succ]
  refine Rg.take 1 (v := .agg #[.int .i64 c1, .int .i64 c2]) rfl rfl (by kernel_rfl) (by kernel_rfl) (by kernel_rfl) (by kernel_rfl) (by kernel_rfl) (.inl ⟨rfl, fun bs wq hI => ?_⟩) ?_
  · exact quiet_ldr ty_point (.tmp 6) rfl rfl rfl (hI.at 2 rfl)
  simp only [Act.put, List.getElem_toArray, List.getElem_cons_zero, List.getElem_cons_succ, List.setIfInBounds_toArray, List.set_cons_zero, List.set_cons_succ]
  refine Rg.take 2 (v := .agg #[.int .i64 p1, .int .i64 p2]) rfl rfl (by kernel_rfl) (by kernel_rfl) (by kernel_rfl) (by kernel_rfl) (by kernel_rfl) (.inl ⟨rfl, fun bs wq hI => ?_⟩) ?_
  · exact quiet_ldr ty_point (.tmp 7) rfl rfl rfl (hI.at 1 rfl)
  simp only [Act.put, List.getElem_toArray, List.getElem_cons_zero, List.getElem_cons_succ, List.setIfInBounds_toArray, List.set_cons_zero, List.set_cons_succ]
  refine Rg.take 3 (v := .int .i64 x) rfl rfl (by kernel_rfl) (by kernel_rfl) (by kernel_rfl) (by kernel_rfl) (by kernel_rfl) (.inl ⟨rfl, fun bs wq hI => ?_⟩) ?_
  · (go_simp; exact (S0 _).mono fun e w2 h => ⟨h.1, hI.call h.2⟩)
  simp only [Act.put, List.getElem_toArray, List.getElem_cons_zero, List.getElem_cons_succ, List.setIfInBounds_toArray, List.set_cons_zero, List.set_cons_succ]
  refine Rg.take 4 (v := .agg #[.int .i64 c1, .int .i64 c2]) rfl rfl (by kernel_rfl) (by kernel_rfl) (by kernel_rfl) (by kernel_rfl) (by kernel_rfl) (.inl ⟨rfl, fun bs wq hI => ?_⟩) ?_
  · exact quiet_ldr ty_point (.tmp 6) rfl rfl rfl (hI.at 2 rfl)
  simp only [Act.put, List.getElem_toArray, List.getElem_cons_zero, List.getElem_cons_succ, List.setIfInBounds_toArray, List.set_cons_zero, List.set_cons_succ]
  refine Rg.take 5 (v := .agg #[.int .i64 a1, .int .i64 a2]) rfl rfl (by kernel_rfl) (by kernel_rfl) (by kernel_rfl) (by kernel_rfl) (by kernel_rfl) (.inl ⟨rfl, fun bs wq hI => ?_⟩) ?_
  · exact quiet_ldr ty_point (.tmp 4) rfl rfl rfl (hI.at 4 rfl)
  simp only [Act.put, List.getElem_toArray, List.getElem_cons_zero, List.getElem_cons_succ, List.setIfInBounds_toArray, List.set_cons_zero, List.set_cons_succ]
  refine Rg.take 6 (v := .agg #[.int .i64 p1, .int .i64 p2]) rfl rfl (by kernel_rfl) (by kernel_rfl) (by kernel_rfl) (by kernel_rfl) (by kernel_rfl) (.inl ⟨rfl, fun bs wq hI => ?_⟩) ?_
  · exact quiet_ldr ty_point (.tmp 7) rfl rfl rfl (hI.at 1 rfl)
  simp only [Act.put, List.getElem_toArray, List.getElem_cons_zero, List.getElem_cons_succ, List.setIfInBounds_toArray, List.set_cons_zero, List.set_cons_succ]
  refine Rg.take 7 (v := .int .i64 y) rfl rfl (by kernel_rfl) (by kernel_rfl) (by kernel_rfl) (by kernel_rfl) (by kernel_rfl) (.inl ⟨rfl, fun bs wq hI => ?_⟩) ?_
  · (go_simp; exact (S1 _).mono fun e w2 h => ⟨h.1, hI.call h.2⟩)
  simp only [Act.put, List.getElem_toArray, List.getElem_cons_zero, List.getElem_cons_succ, List.setIfInBounds_toArray, List.set_cons_zero, List.set_cons_succ]
  refine Rg.take 8 (v := .agg #[.int .i64 a1, .int .i64 a2]) rfl rfl (by kernel_rfl) (by kernel_rfl) (by kernel_rfl) (by kernel_rfl) (by kernel_rfl) (.inl ⟨rfl, fun bs wq hI => ?_⟩) ?_
  · exact quiet_ldr ty_point (.tmp 4) rfl rfl rfl (hI.at 4 rfl)
  simp only [Act.put, List.getElem_toArray, List.getElem_cons_zero, List.getElem_cons_succ, List.setIfInBounds_toArray, List.set_cons_zero, List.set_cons_succ]
  refine Rg.take 9 (v := .agg #[.int .i64 b1, .int .i64 b2]) rfl rfl (by kernel_rfl) (by kernel_rfl) (by kernel_rfl) (by kernel_rfl) (by kernel_rfl) (.inl ⟨rfl, fun bs wq hI => ?_⟩) ?_
  · exact quiet_ldr ty_point (.tmp 5) rfl rfl rfl (hI.at 3 rfl)
  simp only [Act.put, List.getElem_toArray, List.getElem_cons_zero, List.getElem_cons_succ, List.setIfInBounds_toArray, List.set_cons_zero, List.set_cons_succ]
  refine Rg.take 10 (v := .agg #[.int .i64 p1, .int .i64 p2]) rfl rfl (by kernel_rfl) (by kernel_rfl) (by kernel_rfl) (by kernel_rfl) (by kernel_rfl) (.inl ⟨rfl, fun bs wq hI => ?_⟩) ?_
  · exact quiet_ldr ty_point (.tmp 7) rfl rfl rfl (hI.at 1 rfl)
  simp only [Act.put, List.getElem_toArray, List.getElem_cons_zero, List.getElem_cons_succ, List.setIfInBounds_toArray, List.set_cons_zero, List.set_cons_succ]
  refine Rg.take 11 (v := .int .i64 z) rfl rfl (by kernel_rfl) (by kernel_rfl) (by kernel_rfl) (by kernel_rfl) (by kernel_rfl) (.inl ⟨rfl, fun bs wq hI => ?_⟩) ?_
  · (go_simp; exact (S2 _).mono fun e w2 h => ⟨h.1, hI.call h.2⟩)
  simp only [Act.put, List.getElem_toArray, List.getElem_cons_zero, List.getElem_cons_succ, List.setIfInBounds_toArray, List.set_cons_zero, List.set_cons_succ]
  refine Rg.take 12 (v := .agg #[.int .i64 x, .int .i64 y, .int .i64 z]) rfl rfl (by kernel_rfl) (by kernel_rfl) (by kernel_rfl) (by kernel_rfl) (by kernel_rfl) (.inl ⟨rfl, fun bs wq hI => ?_⟩) ?_
  · go_simp
  simp only [Act.put, List.getElem_toArray, List.getElem_cons_zero, List.getElem_cons_succ, List.setIfInBounds_toArray, List.set_cons_zero, List.set_cons_succ]
  refine Rg.done (rs := [13]) (by kernel_rfl) (by decide) (fun W hI => ?_)
  refine wpAny_sto ty_i3 13 (by kernel_rfl) rfl hI 0 [.int .i64 x, .int .i64 y, .int .i64 z] rfl _ _ rfl _ rfl rfl _ rfl rfl rfl rfl ?_
  intro W1 hI1
  simp only [Act.put, List.getElem_toArray, List.getElem_cons_zero, List.getElem_cons_succ, List.setIfInBounds_toArray, List.set_cons_zero, List.set_cons_succ]
  have HO := Lib.hid hI1
  clear hI hI1
  refine wpAny_done (by kernel_rfl) ?_ _
  go_wp2_with fail
  exact bodyPost_ret (results_c ty_i3 rfl rfl rfl (HO.out.at 0 rfl)) rfl ⟨rfl, HO.out.k⟩

theorem By.wrap {n : Int} (h1 : -9223372036854775808 ≤ n) (h2 : n ≤ 9223372036854775807) : IntKind.i64.wrap n = n := by
  rw [IntKind.wrap_i64]; omega
end Go.Proofs.YtankjlpanmmogaaGreat
