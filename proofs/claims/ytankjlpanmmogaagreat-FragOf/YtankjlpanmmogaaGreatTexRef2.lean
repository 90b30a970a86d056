/-
  Contract of the document's own answers for layer 14: Sample.
-/
import Derived.Test.YtankjlpanmmogaaGreatTexRef
import Derived.BigGuard
namespace Go.Proofs.YtankjlpanmmogaaGreat
set_option maxRecDepth 100000
open Go.RowKit

theorem Tx.px4 {n m : Int} {l : List Int} {x y k : Int} : ∃ a0 a1 a2 a3 : Int, (Tn.part (Tx.px n m l x y k) 0 = a0 ∧ 0 ≤ a0 ∧ a0 ≤ 255) ∧ (Tn.part (Tx.px n m l x y k) 1 = a1 ∧ 0 ≤ a1 ∧ a1 ≤ 255) ∧ (Tn.part (Tx.px n m l x y k) 2 = a2 ∧ 0 ≤ a2 ∧ a2 ≤ 255) ∧ (Tn.part (Tx.px n m l x y k) 3 = a3 ∧ 0 ≤ a3 ∧ a3 ≤ 255) :=
  ⟨_, _, _, _, ⟨rfl, Tx.part_bd _ _⟩, ⟨rfl, Tx.part_bd _ _⟩, ⟨rfl, Tx.part_bd _ _⟩, ⟨rfl, Tx.part_bd _ _⟩⟩
set_option linter.unusedSimpArgs false in
set_option maxRecDepth 100000 in
set_option maxHeartbeats 8000000 in
theorem rsample_hard (n m u v k : Int) (l : List Int) (t : Value) (w : World) (hS : Sl w t (iv l)) (hc : Tx.chk n m l = 0) (hk : Tx.is k = true) (hu : -65536 ≤ u ∧ u ≤ 65536) (hv : -65536 ≤ v ∧ v ≤ 65536) :
    Calls Tryz.prog 25 #[.agg #[.int .i64 n, .int .i64 m, t], .int .i64 u, .int .i64 v, .int .i64 k, .bool false] w fun e w' => e = .returned (.agg #[.int .i64 (Tx.smp n m l u v k false 0), .int .i64 (Tx.smp n m l u v k false 1), .int .i64 (Tx.smp n m l u v k false 2), .int .i64 (Tx.smp n m l u v k false 3)]) ∧ Kp w.heap.size w w' := by
  have F1 := fun U => rfloor_pos u 256 U (by omega) (by omega)
  have F2 := fun U => rfloor_pos v 256 U (by omega) (by omega)
  have A1 : ∀ U, Kp w.heap.size w U → Calls Tryz.prog 59 #[.agg #[.int .i64 n, .int .i64 m, t], .int .i64 (u / 256), .int .i64 (v / 256), .int .i64 k] U fun e w' => e = .returned (.agg #[.int .i64 (Tx.smp n m l u v k false 0), .int .i64 (Tx.smp n m l u v k false 1), .int .i64 (Tx.smp n m l u v k false 2), .int .i64 (Tx.smp n m l u v k false 3)]) ∧ Kp U.heap.size U w' := fun U hk2 => rat_any n m (u / 256) (v / 256) k l t U (hS.next hk2) hc hk (by omega) (by omega)
  generalize Tx.smp n m l u v k false = F at *
  generalize u / 256 = x at *
  generalize v / 256 = y at *
  clear hS hc hk hu hv
  have HO : Hid (Ow w _ (Tx.mb w n m t)) := Lib.hid (((Ow.refl w).newAt w.heap.size rfl (.int .i64 n) [.int .i64 m, t] 30).newAt (w.heap.size + 1) (by simp) (.int .i64 0) [.int .i64 0, .int .i64 0, .int .i64 0] 51)
  go_enter Tryz.func25, Tryz.ntmps25
  go_upto_region 2 with fail
  refine Rg.region (I := fun _ W => Ow w W (Tx.mb w n m t)) (dem := fun _ => false) (m := 7) (g := 1) (T := fun listed bs st => ∀ W, Ow w W (Tx.mb w n m t) → wpAny Tryz.prog .any _ _ 1 listed st W) (by kernel_rfl) HO.out.drew rfl (fun _ _ _ _ h hI => h _ hI) ?_
  clear HO
  refine Rg.take 0 (v := .agg #[.int .i64 n, .int .i64 m, t]) rfl rfl (by kernel_rfl) (by kernel_rfl) (by kernel_rfl) (by kernel_rfl) (by kernel_rfl) (.inl ⟨rfl, fun bs wq hI => ?_⟩) ?_
  · exact quiet_ldr ty_tex (.tmp 5) rfl rfl rfl (hI.at 1 rfl)
  simp only [Act.put, List.getElem_toArray, List.getElem_cons_zero, List.getElem_cons_succ, List.setIfInBounds_toArray, List.set_cons_zero, List.set_cons_succ]
  refine Rg.take 1 (v := .int .i64 u) rfl rfl (by kernel_rfl) (by kernel_rfl) (by kernel_rfl) (by kernel_rfl) (by kernel_rfl) (.inl ⟨rfl, fun bs wq hI => ?_⟩) ?_
  · go_simp
  simp only [Act.put, List.getElem_toArray, List.getElem_cons_zero, List.getElem_cons_succ, List.setIfInBounds_toArray, List.set_cons_zero, List.set_cons_succ]
  refine Rg.take 2 (v := .int .i64 x) rfl rfl (by kernel_rfl) (by kernel_rfl) (by kernel_rfl) (by kernel_rfl) (by kernel_rfl) (.inl ⟨rfl, fun bs wq hI => ?_⟩) ?_
  · (go_simp; exact (F1 _).mono fun e w2 h => ⟨h.1, h.2 ▸ hI⟩)
  simp only [Act.put, List.getElem_toArray, List.getElem_cons_zero, List.getElem_cons_succ, List.setIfInBounds_toArray, List.set_cons_zero, List.set_cons_succ]
  refine Rg.take 3 (v := .int .i64 v) rfl rfl (by kernel_rfl) (by kernel_rfl) (by kernel_rfl) (by kernel_rfl) (by kernel_rfl) (.inl ⟨rfl, fun bs wq hI => ?_⟩) ?_
  · go_simp
  simp only [Act.put, List.getElem_toArray, List.getElem_cons_zero, List.getElem_cons_succ, List.setIfInBounds_toArray, List.set_cons_zero, List.set_cons_succ]
  refine Rg.take 4 (v := .int .i64 y) rfl rfl (by kernel_rfl) (by kernel_rfl) (by kernel_rfl) (by kernel_rfl) (by kernel_rfl) (.inl ⟨rfl, fun bs wq hI => ?_⟩) ?_
  · (go_simp; exact (F2 _).mono fun e w2 h => ⟨h.1, h.2 ▸ hI⟩)
  simp only [Act.put, List.getElem_toArray, List.getElem_cons_zero, List.getElem_cons_succ, List.setIfInBounds_toArray, List.set_cons_zero, List.set_cons_succ]
  refine Rg.take 5 (v := .int .i64 k) rfl rfl (by kernel_rfl) (by kernel_rfl) (by kernel_rfl) (by kernel_rfl) (by kernel_rfl) (.inl ⟨rfl, fun bs wq hI => ?_⟩) ?_
  · go_simp
  simp only [Act.put, List.getElem_toArray, List.getElem_cons_zero, List.getElem_cons_succ, List.setIfInBounds_toArray, List.set_cons_zero, List.set_cons_succ]
  refine Rg.take 6 (v := .agg #[.int .i64 (F 0), .int .i64 (F 1), .int .i64 (F 2), .int .i64 (F 3)]) rfl rfl (by kernel_rfl) (by kernel_rfl) (by kernel_rfl) (by kernel_rfl) (by kernel_rfl) (.inl ⟨rfl, fun bs wq hI => ?_⟩) ?_
  · (go_simp; exact (A1 _ hI.k).mono fun e w2 h => ⟨h.1, hI.call h.2⟩)
  simp only [Act.put, List.getElem_toArray, List.getElem_cons_zero, List.getElem_cons_succ, List.setIfInBounds_toArray, List.set_cons_zero, List.set_cons_succ]
  refine Rg.done (rs := [7]) (by kernel_rfl) (by decide) (fun W hI => ?_)
  refine wpAny_sto ty_color 7 (by kernel_rfl) rfl hI 0 [.int .i64 (F 0), .int .i64 (F 1), .int .i64 (F 2), .int .i64 (F 3)] rfl _ _ rfl _ rfl rfl _ rfl rfl rfl rfl ?_
  intro W1 hI1
  simp only [Act.put, List.getElem_toArray, List.getElem_cons_zero, List.getElem_cons_succ, List.setIfInBounds_toArray, List.set_cons_zero, List.set_cons_succ]
  have HO := Lib.hid hI1
  clear hI hI1
  refine wpAny_done (by kernel_rfl) ?_ _
  go_wp2_with fail
  exact bodyPost_ret (results_c ty_color rfl rfl rfl (HO.out.at 0 rfl)) rfl ⟨rfl, HO.out.k⟩
set_option linter.unusedSimpArgs false in
set_option maxRecDepth 100000 in
set_option maxHeartbeats 8000000 in
theorem rsample_soft (n m u v k : Int) (l : List Int) (t : Value) (w : World) (hS : Sl w t (iv l)) (hc : Tx.chk n m l = 0) (hk : Tx.is k = true) (hu : -65536 ≤ u ∧ u ≤ 65536) (hv : -65536 ≤ v ∧ v ≤ 65536) :
    Calls Tryz.prog 25 #[.agg #[.int .i64 n, .int .i64 m, t], .int .i64 u, .int .i64 v, .int .i64 k, .bool true] w fun e w' => e = .returned (.agg #[.int .i64 (Tx.smp n m l u v k true 0), .int .i64 (Tx.smp n m l u v k true 1), .int .i64 (Tx.smp n m l u v k true 2), .int .i64 (Tx.smp n m l u v k true 3)]) ∧ Kp w.heap.size w w' := by
  have F1 := fun U => rfloor_pos (u - 128) 256 U (by omega) (by omega)
  have F2 := fun U => rfloor_pos (v - 128) 256 U (by omega) (by omega)
  have HX := Lib.hid (Tx.rem_eq (u - 128) 256)
  have HY := Lib.hid (Tx.rem_eq (v - 128) 256)
  obtain ⟨x1, x2⟩ : -300 ≤ (u - 128) / 256 ∧ (u - 128) / 256 ≤ 300 := by omega
  obtain ⟨y1, y2⟩ : -300 ≤ (v - 128) / 256 ∧ (v - 128) / 256 ≤ 300 := by omega
  have f0 : 0 ≤ (u - 128) % 256 ∧ (u - 128) % 256 ≤ 255 := by omega
  have g0 : 0 ≤ (v - 128) % 256 ∧ (v - 128) % 256 ≤ 255 := by omega
  have A1 := fun U (hk2 : Kp w.heap.size w U) => rat_any n m ((u - 128) / 256) ((v - 128) / 256) k l t U (hS.next hk2) hc hk (by omega) (by omega)
  have A2 := fun U (hk2 : Kp w.heap.size w U) => rat_any n m ((u - 128) / 256 + 1) ((v - 128) / 256) k l t U (hS.next hk2) hc hk (by omega) (by omega)
  have A3 := fun U (hk2 : Kp w.heap.size w U) => rat_any n m ((u - 128) / 256) ((v - 128) / 256 + 1) k l t U (hS.next hk2) hc hk (by omega) (by omega)
  have A4 := fun U (hk2 : Kp w.heap.size w U) => rat_any n m ((u - 128) / 256 + 1) ((v - 128) / 256 + 1) k l t U (hS.next hk2) hc hk (by omega) (by omega)
  have HF : ∀ i, Tx.smp n m l u v k true i = Tx.lin (Tn.part (Tx.px n m l ((u - 128) / 256) ((v - 128) / 256) k) i) (Tn.part (Tx.px n m l ((u - 128) / 256 + 1) ((v - 128) / 256) k) i)
    (Tn.part (Tx.px n m l ((u - 128) / 256) ((v - 128) / 256 + 1) k) i) (Tn.part (Tx.px n m l ((u - 128) / 256 + 1) ((v - 128) / 256 + 1) k) i) ((u - 128) % 256) ((v - 128) % 256) := fun _ => rfl
  have HF0 := HF 0
  have HF1 := HF 1
  have HF2 := HF 2
  have HF3 := HF 3
  clear HF
  generalize Tx.smp n m l u v k true = F at *
  generalize (u - 128) / 256 = x at *
  generalize (v - 128) / 256 = y at *
  generalize (u - 128) % 256 = fx at *
  generalize (v - 128) % 256 = fy at *
  obtain ⟨a0, a1, a2, a3, ⟨e0, ia0⟩, ⟨e1, ia1⟩, ⟨e2, ia2⟩, ⟨e3, ia3⟩⟩ := Tx.px4 (n := n) (m := m) (l := l) (x := x) (y := y) (k := k)
  rw [e0, e1, e2, e3] at A1
  rw [e0] at HF0
  rw [e1] at HF1
  rw [e2] at HF2
  rw [e3] at HF3
  clear e0 e1 e2 e3
  obtain ⟨b0, b1, b2, b3, ⟨e0, ib0⟩, ⟨e1, ib1⟩, ⟨e2, ib2⟩, ⟨e3, ib3⟩⟩ := Tx.px4 (n := n) (m := m) (l := l) (x := (x + 1)) (y := y) (k := k)
  rw [e0, e1, e2, e3] at A2
  rw [e0] at HF0
  rw [e1] at HF1
  rw [e2] at HF2
  rw [e3] at HF3
  clear e0 e1 e2 e3
  obtain ⟨c0, c1, c2, c3, ⟨e0, ic0⟩, ⟨e1, ic1⟩, ⟨e2, ic2⟩, ⟨e3, ic3⟩⟩ := Tx.px4 (n := n) (m := m) (l := l) (x := x) (y := (y + 1)) (k := k)
  rw [e0, e1, e2, e3] at A3
  rw [e0] at HF0
  rw [e1] at HF1
  rw [e2] at HF2
  rw [e3] at HF3
  clear e0 e1 e2 e3
  obtain ⟨d0, d1, d2, d3, ⟨e0, id0⟩, ⟨e1, id1⟩, ⟨e2, id2⟩, ⟨e3, id3⟩⟩ := Tx.px4 (n := n) (m := m) (l := l) (x := (x + 1)) (y := (y + 1)) (k := k)
  rw [e0, e1, e2, e3] at A4
  rw [e0] at HF0
  rw [e1] at HF1
  rw [e2] at HF2
  rw [e3] at HF3
  clear e0 e1 e2 e3
  have M0 := fun U => rmixed_any a0 b0 c0 d0 fx fy U ia0 ib0 ic0 id0 f0 g0
  rw [← HF0] at M0
  have M1 := fun U => rmixed_any a1 b1 c1 d1 fx fy U ia1 ib1 ic1 id1 f0 g0
  rw [← HF1] at M1
  have M2 := fun U => rmixed_any a2 b2 c2 d2 fx fy U ia2 ib2 ic2 id2 f0 g0
  rw [← HF2] at M2
  have M3 := fun U => rmixed_any a3 b3 c3 d3 fx fy U ia3 ib3 ic3 id3 f0 g0
  rw [← HF3] at M3
  clear HF0 HF1 HF2 HF3 ia0 ia1 ia2 ia3 ib0 ib1 ib2 ib3 ic0 ic1 ic2 ic3 id0 id1 id2 id3
  clear hS hc hk
  obtain ⟨u1, u2⟩ := hu
  obtain ⟨v1, v2⟩ := hv
  obtain ⟨f1, f2⟩ := f0
  obtain ⟨g1, g2⟩ := g0
  have HO : Hid (Ow w _ (Tx.mb w n m t)) := Lib.hid (((Ow.refl w).newAt w.heap.size rfl (.int .i64 n) [.int .i64 m, t] 30).newAt (w.heap.size + 1) (by simp) (.int .i64 0) [.int .i64 0, .int .i64 0, .int .i64 0] 51)
  go_enter Tryz.func25, Tryz.ntmps25
  go_upto_region 7 with (go_at_call 60; (first | (with_reducible refine (F1 _).mono ?_) | (with_reducible refine (F2 _).mono ?_)); rintro e w' ⟨rfl, rfl⟩)
  rw [HX.out, HY.out]
  clear HX HY F1 F2 f1 f2 g1 g2 u1 u2 v1 v2
  go_upto_region 8 with (first | ((with_reducible show wpList _ _ _ ({ dst := _, op := Op.load 30 _, type := _, pos := _, after := _, guard := _ } :: _) _ _); refine wpList_ldr ty_tex rfl _ rfl _ rfl _ rfl (HO.out.at 1 rfl) ?_) | (go_at_call 59; (with_reducible refine (A1 _ HO.out.k).mono ?_); rintro e w1 ⟨rfl, hk1⟩; have l2 := (HO.out.call hk1).newAt w1.heap.size rfl (.int .i64 a0) [.int .i64 a1, .int .i64 a2, .int .i64 a3] 51; clear HO hk1; have HO := Lib.hid l2; clear l2))
  generalize w1.heap.size = z1 at *
  clear A1
  go_upto_region 9 with (first | ((with_reducible show wpList _ _ _ ({ dst := _, op := Op.load 30 _, type := _, pos := _, after := _, guard := _ } :: _) _ _); refine wpList_ldr ty_tex rfl _ rfl _ rfl _ rfl (HO.out.at 2 rfl) ?_) | (go_at_call 59; (with_reducible refine (A2 _ HO.out.k).mono ?_); rintro e w2 ⟨rfl, hk1⟩; have l2 := (HO.out.call hk1).newAt w2.heap.size rfl (.int .i64 b0) [.int .i64 b1, .int .i64 b2, .int .i64 b3] 51; clear HO hk1; have HO := Lib.hid l2; clear l2))
  generalize w2.heap.size = z2 at *
  clear A2
  go_upto_region 10 with (first | ((with_reducible show wpList _ _ _ ({ dst := _, op := Op.load 30 _, type := _, pos := _, after := _, guard := _ } :: _) _ _); refine wpList_ldr ty_tex rfl _ rfl _ rfl _ rfl (HO.out.at 3 rfl) ?_) | (go_at_call 59; (with_reducible refine (A3 _ HO.out.k).mono ?_); rintro e w3 ⟨rfl, hk1⟩; have l2 := (HO.out.call hk1).newAt w3.heap.size rfl (.int .i64 c0) [.int .i64 c1, .int .i64 c2, .int .i64 c3] 51; clear HO hk1; have HO := Lib.hid l2; clear l2))
  generalize w3.heap.size = z3 at *
  clear A3
  go_upto_region 11 with (first | ((with_reducible show wpList _ _ _ ({ dst := _, op := Op.load 30 _, type := _, pos := _, after := _, guard := _ } :: _) _ _); refine wpList_ldr ty_tex rfl _ rfl _ rfl _ rfl (HO.out.at 4 rfl) ?_) | (go_at_call 59; (with_reducible refine (A4 _ HO.out.k).mono ?_); rintro e w4 ⟨rfl, hk1⟩; have l2 := (HO.out.call hk1).newAt w4.heap.size rfl (.int .i64 d0) [.int .i64 d1, .int .i64 d2, .int .i64 d3] 51; clear HO hk1; have HO := Lib.hid l2; clear l2))
  generalize w4.heap.size = z4 at *
  clear A4
  clear x1 x2 y1 y2
  refine Rg.region (I := fun _ W => Ow w W ((z4, [.int .i64 d0, .int .i64 d1, .int .i64 d2, .int .i64 d3]) :: (z3, [.int .i64 c0, .int .i64 c1, .int .i64 c2, .int .i64 c3]) :: (z2, [.int .i64 b0, .int .i64 b1, .int .i64 b2, .int .i64 b3]) :: (z1, [.int .i64 a0, .int .i64 a1, .int .i64 a2, .int .i64 a3]) :: Tx.mb w n m t)) (dem := fun _ => false) (m := 45) (g := 1) (T := fun listed bs st => ∀ W, Ow w W ((z4, [.int .i64 d0, .int .i64 d1, .int .i64 d2, .int .i64 d3]) :: (z3, [.int .i64 c0, .int .i64 c1, .int .i64 c2, .int .i64 c3]) :: (z2, [.int .i64 b0, .int .i64 b1, .int .i64 b2, .int .i64 b3]) :: (z1, [.int .i64 a0, .int .i64 a1, .int .i64 a2, .int .i64 a3]) :: Tx.mb w n m t) → wpAny Tryz.prog .any _ _ 1 listed st W) (by kernel_rfl) HO.out.drew rfl (fun _ _ _ _ h hI => h _ hI) ?_
  clear HO
  refine Rg.take 0 (v := .pointer (some ⟨z1, 0, none⟩)) rfl rfl (by kernel_rfl) (by kernel_rfl) (by kernel_rfl) (by kernel_rfl) (by kernel_rfl) (.inl ⟨rfl, fun bs wq hI => ?_⟩) ?_
  · go_simp
  simp only [Act.put, List.getElem_toArray, List.getElem_cons_zero, List.getElem_cons_succ, List.setIfInBounds_toArray, List.set_cons_zero, List.set_cons_succ]
  refine Rg.take 1 (v := .int .i64 a0) rfl rfl (by kernel_rfl) (by kernel_rfl) (by kernel_rfl) (by kernel_rfl) (by kernel_rfl) (.inl ⟨rfl, fun bs wq hI => ?_⟩) ?_
  · (have hc := (hI.at 3 rfl).cell 0 rfl; go_simp)
  simp only [Act.put, List.getElem_toArray, List.getElem_cons_zero, List.getElem_cons_succ, List.setIfInBounds_toArray, List.set_cons_zero, List.set_cons_succ]
  refine Rg.take 2 (v := .pointer (some ⟨z2, 0, none⟩)) rfl rfl (by kernel_rfl) (by kernel_rfl) (by kernel_rfl) (by kernel_rfl) (by kernel_rfl) (.inl ⟨rfl, fun bs wq hI => ?_⟩) ?_
  · go_simp
  simp only [Act.put, List.getElem_toArray, List.getElem_cons_zero, List.getElem_cons_succ, List.setIfInBounds_toArray, List.set_cons_zero, List.set_cons_succ]
  refine Rg.take 3 (v := .int .i64 b0) rfl rfl (by kernel_rfl) (by kernel_rfl) (by kernel_rfl) (by kernel_rfl) (by kernel_rfl) (.inl ⟨rfl, fun bs wq hI => ?_⟩) ?_
  · (have hc := (hI.at 2 rfl).cell 0 rfl; go_simp)
  simp only [Act.put, List.getElem_toArray, List.getElem_cons_zero, List.getElem_cons_succ, List.setIfInBounds_toArray, List.set_cons_zero, List.set_cons_succ]
  refine Rg.take 4 (v := .pointer (some ⟨z3, 0, none⟩)) rfl rfl (by kernel_rfl) (by kernel_rfl) (by kernel_rfl) (by kernel_rfl) (by kernel_rfl) (.inl ⟨rfl, fun bs wq hI => ?_⟩) ?_
  · go_simp
  simp only [Act.put, List.getElem_toArray, List.getElem_cons_zero, List.getElem_cons_succ, List.setIfInBounds_toArray, List.set_cons_zero, List.set_cons_succ]
  refine Rg.take 5 (v := .int .i64 c0) rfl rfl (by kernel_rfl) (by kernel_rfl) (by kernel_rfl) (by kernel_rfl) (by kernel_rfl) (.inl ⟨rfl, fun bs wq hI => ?_⟩) ?_
  · (have hc := (hI.at 1 rfl).cell 0 rfl; go_simp)
  simp only [Act.put, List.getElem_toArray, List.getElem_cons_zero, List.getElem_cons_succ, List.setIfInBounds_toArray, List.set_cons_zero, List.set_cons_succ]
  refine Rg.take 6 (v := .pointer (some ⟨z4, 0, none⟩)) rfl rfl (by kernel_rfl) (by kernel_rfl) (by kernel_rfl) (by kernel_rfl) (by kernel_rfl) (.inl ⟨rfl, fun bs wq hI => ?_⟩) ?_
  · go_simp
  simp only [Act.put, List.getElem_toArray, List.getElem_cons_zero, List.getElem_cons_succ, List.setIfInBounds_toArray, List.set_cons_zero, List.set_cons_succ]
  refine Rg.take 7 (v := .int .i64 d0) rfl rfl (by kernel_rfl) (by kernel_rfl) (by kernel_rfl) (by kernel_rfl) (by kernel_rfl) (.inl ⟨rfl, fun bs wq hI => ?_⟩) ?_
  · (have hc := (hI.at 0 rfl).cell 0 rfl; go_simp)
  simp only [Act.put, List.getElem_toArray, List.getElem_cons_zero, List.getElem_cons_succ, List.setIfInBounds_toArray, List.set_cons_zero, List.set_cons_succ]
  refine Rg.take 8 (v := .int .i64 fx) rfl rfl (by kernel_rfl) (by kernel_rfl) (by kernel_rfl) (by kernel_rfl) (by kernel_rfl) (.inl ⟨rfl, fun bs wq hI => ?_⟩) ?_
  · go_simp
  simp only [Act.put, List.getElem_toArray, List.getElem_cons_zero, List.getElem_cons_succ, List.setIfInBounds_toArray, List.set_cons_zero, List.set_cons_succ]
  refine Rg.take 9 (v := .int .i64 fy) rfl rfl (by kernel_rfl) (by kernel_rfl) (by kernel_rfl) (by kernel_rfl) (by kernel_rfl) (.inl ⟨rfl, fun bs wq hI => ?_⟩) ?_
  · go_simp
  simp only [Act.put, List.getElem_toArray, List.getElem_cons_zero, List.getElem_cons_succ, List.setIfInBounds_toArray, List.set_cons_zero, List.set_cons_succ]
  refine Rg.take 10 (v := .int .i64 (F 0)) rfl rfl (by kernel_rfl) (by kernel_rfl) (by kernel_rfl) (by kernel_rfl) (by kernel_rfl) (.inl ⟨rfl, fun bs wq hI => ?_⟩) ?_
  · (go_simp; exact (M0 _).mono fun e w2 h => ⟨h.1, h.2 ▸ hI⟩)
  simp only [Act.put, List.getElem_toArray, List.getElem_cons_zero, List.getElem_cons_succ, List.setIfInBounds_toArray, List.set_cons_zero, List.set_cons_succ]
  refine Rg.take 11 (v := .pointer (some ⟨z1, 1, none⟩)) rfl rfl (by kernel_rfl) (by kernel_rfl) (by kernel_rfl) (by kernel_rfl) (by kernel_rfl) (.inl ⟨rfl, fun bs wq hI => ?_⟩) ?_
  · go_simp
  simp only [Act.put, List.getElem_toArray, List.getElem_cons_zero, List.getElem_cons_succ, List.setIfInBounds_toArray, List.set_cons_zero, List.set_cons_succ]
  refine Rg.take 12 (v := .int .i64 a1) rfl rfl (by kernel_rfl) (by kernel_rfl) (by kernel_rfl) (by kernel_rfl) (by kernel_rfl) (.inl ⟨rfl, fun bs wq hI => ?_⟩) ?_
  · (have hc := (hI.at 3 rfl).cell 1 rfl; go_simp)
  simp only [Act.put, List.getElem_toArray, List.getElem_cons_zero, List.getElem_cons_succ, List.setIfInBounds_toArray, List.set_cons_zero, List.set_cons_succ]
  refine Rg.take 13 (v := .pointer (some ⟨z2, 1, none⟩)) rfl rfl (by kernel_rfl) (by kernel_rfl) (by kernel_rfl) (by kernel_rfl) (by kernel_rfl) (.inl ⟨rfl, fun bs wq hI => ?_⟩) ?_
  · go_simp
  simp only [Act.put, List.getElem_toArray, List.getElem_cons_zero, List.getElem_cons_succ, List.setIfInBounds_toArray, List.set_cons_zero, List.set_cons_succ]
  refine Rg.take 14 (v := .int .i64 b1) rfl rfl (by kernel_rfl) (by kernel_rfl) (by kernel_rfl) (by kernel_rfl) (by kernel_rfl) (.inl ⟨rfl, fun bs wq hI => ?_⟩) ?_
  · (have hc := (hI.at 2 rfl).cell 1 rfl; go_simp)
  simp only [Act.put, List.getElem_toArray, List.getElem_cons_zero, List.getElem_cons_succ, List.setIfInBounds_toArray, List.set_cons_zero, List.set_cons_succ]
  refine Rg.take 15 (v := .pointer (some ⟨z3, 1, none⟩)) rfl rfl (by kernel_rfl) (by kernel_rfl) (by kernel_rfl) (by kernel_rfl) (by kernel_rfl) (.inl ⟨rfl, fun bs wq hI => ?_⟩) ?_
  · go_simp
  simp only [Act.put, List.getElem_toArray, List.getElem_cons_zero, List.getElem_cons_succ, List.setIfInBounds_toArray, List.set_cons_zero, List.set_cons_succ]
  refine Rg.take 16 (v := .int .i64 c1) rfl rfl (by kernel_rfl) (by kernel_rfl) (by kernel_rfl) (by kernel_rfl) (by kernel_rfl) (.inl ⟨rfl, fun bs wq hI => ?_⟩) ?_
  · (have hc := (hI.at 1 rfl).cell 1 rfl; go_simp)
  simp only [Act.put, List.getElem_toArray, List.getElem_cons_zero, List.getElem_cons_succ, List.setIfInBounds_toArray, List.set_cons_zero, List.set_cons_succ]
  refine Rg.take 17 (v := .pointer (some ⟨z4, 1, none⟩)) rfl rfl (by kernel_rfl) (by kernel_rfl) (by kernel_rfl) (by kernel_rfl) (by kernel_rfl) (.inl ⟨rfl, fun bs wq hI => ?_⟩) ?_
  · go_simp
  simp only [Act.put, List.getElem_toArray, List.getElem_cons_zero, List.getElem_cons_succ, List.setIfInBounds_toArray, List.set_cons_zero, List.set_cons_succ]
  refine Rg.take 18 (v := .int .i64 d1) rfl rfl (by kernel_rfl) (by kernel_rfl) (by kernel_rfl) (by kernel_rfl) (by kernel_rfl) (.inl ⟨rfl, fun bs wq hI => ?_⟩) ?_
  · (have hc := (hI.at 0 rfl).cell 1 rfl; go_simp)
  simp only [Act.put, List.getElem_toArray, List.getElem_cons_zero, List.getElem_cons_succ, List.setIfInBounds_toArray, List.set_cons_zero, List.set_cons_succ]
  refine Rg.take 19 (v := .int .i64 fx) rfl rfl (by kernel_rfl) (by kernel_rfl) (by kernel_rfl) (by kernel_rfl) (by kernel_rfl) (.inl ⟨rfl, fun bs wq hI => ?_⟩) ?_
  · go_simp
  simp only [Act.put, List.getElem_toArray, List.getElem_cons_zero, List.getElem_cons_succ, List.setIfInBounds_toArray, List.set_cons_zero, List.set_cons_succ]
  refine Rg.take 20 (v := .int .i64 fy) rfl rfl (by kernel_rfl) (by kernel_rfl) (by kernel_rfl) (by kernel_rfl) (by kernel_rfl) (.inl ⟨rfl, fun bs wq hI => ?_⟩) ?_
  · go_simp
  simp only [Act.put, List.getElem_toArray, List.getElem_cons_zero, List.getElem_cons_succ, List.setIfInBounds_toArray, List.set_cons_zero, List.set_cons_succ]
  refine Rg.take 21 (v := .int .i64 (F 1)) rfl rfl (by kernel_rfl) (by kernel_rfl) (by kernel_rfl) (by kernel_rfl) (by kernel_rfl) (.inl ⟨rfl, fun bs wq hI => ?_⟩) ?_
  · (go_simp; exact (M1 _).mono fun e w2 h => ⟨h.1, h.2 ▸ hI⟩)
  simp only [Act.put, List.getElem_toArray, List.getElem_cons_zero, List.getElem_cons_succ, List.setIfInBounds_toArray, List.set_cons_zero, List.set_cons_succ]
  refine Rg.take 22 (v := .pointer (some ⟨z1, 2, none⟩)) rfl rfl (by kernel_rfl) (by kernel_rfl) (by kernel_rfl) (by kernel_rfl) (by kernel_rfl) (.inl ⟨rfl, fun bs wq hI => ?_⟩) ?_
  · go_simp
  simp only [Act.put, List.getElem_toArray, List.getElem_cons_zero, List.getElem_cons_succ, List.setIfInBounds_toArray, List.set_cons_zero, List.set_cons_succ]
  refine Rg.take 23 (v := .int .i64 a2) rfl rfl (by kernel_rfl) (by kernel_rfl) (by kernel_rfl) (by kernel_rfl) (by kernel_rfl) (.inl ⟨rfl, fun bs wq hI => ?_⟩) ?_
  · (have hc := (hI.at 3 rfl).cell 2 rfl; go_simp)
  simp only [Act.put, List.getElem_toArray, List.getElem_cons_zero, List.getElem_cons_succ, List.setIfInBounds_toArray, List.set_cons_zero, List.set_cons_succ]
  refine Rg.take 24 (v := .pointer (some ⟨z2, 2, none⟩)) rfl rfl (by kernel_rfl) (by kernel_rfl) (by kernel_rfl) (by kernel_rfl) (by kernel_rfl) (.inl ⟨rfl, fun bs wq hI => ?_⟩) ?_
  · go_simp
  simp only [Act.put, List.getElem_toArray, List.getElem_cons_zero, List.getElem_cons_succ, List.setIfInBounds_toArray, List.set_cons_zero, List.set_cons_succ]
  refine Rg.take 25 (v := .int .i64 b2) rfl rfl (by kernel_rfl) (by kernel_rfl) (by kernel_rfl) (by kernel_rfl) (by kernel_rfl) (.inl ⟨rfl, fun bs wq hI => ?_⟩) ?_
  · (have hc := (hI.at 2 rfl).cell 2 rfl; go_simp)
  simp only [Act.put, List.getElem_toArray, List.getElem_cons_zero, List.getElem_cons_succ, List.setIfInBounds_toArray, List.set_cons_zero, List.set_cons_succ]
  refine Rg.take 26 (v := .pointer (some ⟨z3, 2, none⟩)) rfl rfl (by kernel_rfl) (by kernel_rfl) (by kernel_rfl) (by kernel_rfl) (by kernel_rfl) (.inl ⟨rfl, fun bs wq hI => ?_⟩) ?_
  · go_simp
  simp only [Act.put, List.getElem_toArray, List.getElem_cons_zero, List.getElem_cons_succ, List.setIfInBounds_toArray, List.set_cons_zero, List.set_cons_succ]
  refine Rg.take 27 (v := .int .i64 c2) rfl rfl (by kernel_rfl) (by kernel_rfl) (by kernel_rfl) (by kernel_rfl) (by kernel_rfl) (.inl ⟨rfl, fun bs wq hI => ?_⟩) ?_
  · (have hc := (hI.at 1 rfl).cell 2 rfl; go_simp)
  simp only [Act.put, List.getElem_toArray, List.getElem_cons_zero, List.getElem_cons_succ, List.setIfInBounds_toArray, List.set_cons_zero, List.set_cons_succ]
  refine Rg.take 28 (v := .pointer (some ⟨z4, 2, none⟩)) rfl rfl (by kernel_rfl) (by kernel_rfl) (by kernel_rfl) (by kernel_rfl) (by kernel_rfl) (.inl ⟨rfl, fun bs wq hI => ?_⟩) ?_
  · go_simp
  simp only [Act.put, List.getElem_toArray, List.getElem_cons_zero, List.getElem_cons_succ, List.setIfInBounds_toArray, List.set_cons_zero, List.set_cons_succ]
  refine Rg.take 29 (v := .int .i64 d2) rfl rfl (by kernel_rfl) (by kernel_rfl) (by kernel_rfl) (by kernel_rfl) (by kernel_rfl) (.inl ⟨rfl, fun bs wq hI => ?_⟩) ?_
  · (have hc := (hI.at 0 rfl).cell 2 rfl; go_simp)
  simp only [Act.put, List.getElem_toArray, List.getElem_cons_zero, List.getElem_cons_succ, List.setIfInBounds_toArray, List.set_cons_zero, List.set_cons_succ]
  refine Rg.take 30 (v := .int .i64 fx) rfl rfl (by kernel_rfl) (by kernel_rfl) (by kernel_rfl) (by kernel_rfl) (by kernel_rfl) (.inl ⟨rfl, fun bs wq hI => ?_⟩) ?_
  · go_simp
  simp only [Act.put, List.getElem_toArray, List.getElem_cons_zero, List.getElem_cons_succ, List.setIfInBounds_toArray, List.set_cons_zero, List.set_cons_succ]
  refine Rg.take 31 (v := .int .i64 fy) rfl rfl (by kernel_rfl) (by kernel_rfl) (by kernel_rfl) (by kernel_rfl) (by kernel_rfl) (.inl ⟨rfl, fun bs wq hI => ?_⟩) ?_
  · go_simp
  simp only [Act.put, List.getElem_toArray, List.getElem_cons_zero, List.getElem_cons_succ, List.setIfInBounds_toArray, List.set_cons_zero, List.set_cons_succ]
  refine Rg.take 32 (v := .int .i64 (F 2)) rfl rfl (by kernel_rfl) (by kernel_rfl) (by kernel_rfl) (by kernel_rfl) (by kernel_rfl) (.inl ⟨rfl, fun bs wq hI => ?_⟩) ?_
  · (go_simp; exact (M2 _).mono fun e w2 h => ⟨h.1, h.2 ▸ hI⟩)
  simp only [Act.put, List.getElem_toArray, List.getElem_cons_zero, List.getElem_cons_succ, List.setIfInBounds_toArray, List.set_cons_zero, List.set_cons_succ]
  refine Rg.take 33 (v := .pointer (some ⟨z1, 3, none⟩)) rfl rfl (by kernel_rfl) (by kernel_rfl) (by kernel_rfl) (by kernel_rfl) (by kernel_rfl) (.inl ⟨rfl, fun bs wq hI => ?_⟩) ?_
  · go_simp
  simp only [Act.put, List.getElem_toArray, List.getElem_cons_zero, List.getElem_cons_succ, List.setIfInBounds_toArray, List.set_cons_zero, List.set_cons_succ]
  refine Rg.take 34 (v := .int .i64 a3) rfl rfl (by kernel_rfl) (by kernel_rfl) (by kernel_rfl) (by kernel_rfl) (by kernel_rfl) (.inl ⟨rfl, fun bs wq hI => ?_⟩) ?_
  · (have hc := (hI.at 3 rfl).cell 3 rfl; go_simp)
  simp only [Act.put, List.getElem_toArray, List.getElem_cons_zero, List.getElem_cons_succ, List.setIfInBounds_toArray, List.set_cons_zero, List.set_cons_succ]
  refine Rg.take 35 (v := .pointer (some ⟨z2, 3, none⟩)) rfl rfl (by kernel_rfl) (by kernel_rfl) (by kernel_rfl) (by kernel_rfl) (by kernel_rfl) (.inl ⟨rfl, fun bs wq hI => ?_⟩) ?_
  · go_simp
  simp only [Act.put, List.getElem_toArray, List.getElem_cons_zero, List.getElem_cons_succ, List.setIfInBounds_toArray, List.set_cons_zero, List.set_cons_succ]
  refine Rg.take 36 (v := .int .i64 b3) rfl rfl (by kernel_rfl) (by kernel_rfl) (by kernel_rfl) (by kernel_rfl) (by kernel_rfl) (.inl ⟨rfl, fun bs wq hI => ?_⟩) ?_
  · (have hc := (hI.at 2 rfl).cell 3 rfl; go_simp)
  simp only [Act.put, List.getElem_toArray, List.getElem_cons_zero, List.getElem_cons_succ, List.setIfInBounds_toArray, List.set_cons_zero, List.set_cons_succ]
  refine Rg.take 37 (v := .pointer (some ⟨z3, 3, none⟩)) rfl rfl (by kernel_rfl) (by kernel_rfl) (by kernel_rfl) (by kernel_rfl) (by kernel_rfl) (.inl ⟨rfl, fun bs wq hI => ?_⟩) ?_
  · go_simp
  simp only [Act.put, List.getElem_toArray, List.getElem_cons_zero, List.getElem_cons_succ, List.setIfInBounds_toArray, List.set_cons_zero, List.set_cons_succ]
  refine Rg.take 38 (v := .int .i64 c3) rfl rfl (by kernel_rfl) (by kernel_rfl) (by kernel_rfl) (by kernel_rfl) (by kernel_rfl) (.inl ⟨rfl, fun bs wq hI => ?_⟩) ?_
  · (have hc := (hI.at 1 rfl).cell 3 rfl; go_simp)
  simp only [Act.put, List.getElem_toArray, List.getElem_cons_zero, List.getElem_cons_succ, List.setIfInBounds_toArray, List.set_cons_zero, List.set_cons_succ]
  refine Rg.take 39 (v := .pointer (some ⟨z4, 3, none⟩)) rfl rfl (by kernel_rfl) (by kernel_rfl) (by kernel_rfl) (by kernel_rfl) (by kernel_rfl) (.inl ⟨rfl, fun bs wq hI => ?_⟩) ?_
  · go_simp
  simp only [Act.put, List.getElem_toArray, List.getElem_cons_zero, List.getElem_cons_succ, List.setIfInBounds_toArray, List.set_cons_zero, List.set_cons_succ]
  refine Rg.take 40 (v := .int .i64 d3) rfl rfl (by kernel_rfl) (by kernel_rfl) (by kernel_rfl) (by kernel_rfl) (by kernel_rfl) (.inl ⟨rfl, fun bs wq hI => ?_⟩) ?_
  · (have hc := (hI.at 0 rfl).cell 3 rfl; go_simp)
  simp only [Act.put, List.getElem_toArray, List.getElem_cons_zero, List.getElem_cons_succ, List.setIfInBounds_toArray, List.set_cons_zero, List.set_cons_succ]
  refine Rg.take 41 (v := .int .i64 fx) rfl rfl (by kernel_rfl) (by kernel_rfl) (by kernel_rfl) (by kernel_rfl) (by kernel_rfl) (.inl ⟨rfl, fun bs wq hI => ?_⟩) ?_
  · go_simp
  simp only [Act.put, List.getElem_toArray, List.getElem_cons_zero, List.getElem_cons_succ, List.setIfInBounds_toArray, List.set_cons_zero, List.set_cons_succ]
  refine Rg.take 42 (v := .int .i64 fy) rfl rfl (by kernel_rfl) (by kernel_rfl) (by kernel_rfl) (by kernel_rfl) (by kernel_rfl) (.inl ⟨rfl, fun bs wq hI => ?_⟩) ?_
  · go_simp
  simp only [Act.put, List.getElem_toArray, List.getElem_cons_zero, List.getElem_cons_succ, List.setIfInBounds_toArray, List.set_cons_zero, List.set_cons_succ]
  refine Rg.take 43 (v := .int .i64 (F 3)) rfl rfl (by kernel_rfl) (by kernel_rfl) (by kernel_rfl) (by kernel_rfl) (by kernel_rfl) (.inl ⟨rfl, fun bs wq hI => ?_⟩) ?_
  · (go_simp; exact (M3 _).mono fun e w2 h => ⟨h.1, h.2 ▸ hI⟩)
  simp only [Act.put, List.getElem_toArray, List.getElem_cons_zero, List.getElem_cons_succ, List.setIfInBounds_toArray, List.set_cons_zero, List.set_cons_succ]
  refine Rg.take 44 (v := .agg #[.int .i64 (F 0), .int .i64 (F 1), .int .i64 (F 2), .int .i64 (F 3)]) rfl rfl (by kernel_rfl) (by kernel_rfl) (by kernel_rfl) (by kernel_rfl) (by kernel_rfl) (.inl ⟨rfl, fun bs wq hI => ?_⟩) ?_
  · go_simp
  simp only [Act.put, List.getElem_toArray, List.getElem_cons_zero, List.getElem_cons_succ, List.setIfInBounds_toArray, List.set_cons_zero, List.set_cons_succ]
  refine Rg.done (rs := [45]) (by kernel_rfl) (by decide) (fun W hI => ?_)
  refine wpAny_sto ty_color 45 (by kernel_rfl) rfl hI 4 [.int .i64 (F 0), .int .i64 (F 1), .int .i64 (F 2), .int .i64 (F 3)] rfl _ _ rfl _ rfl rfl _ rfl rfl rfl rfl ?_
  intro W1 hI1
  simp only [Act.put, List.getElem_toArray, List.getElem_cons_zero, List.getElem_cons_succ, List.setIfInBounds_toArray, List.set_cons_zero, List.set_cons_succ]
  have HO := Lib.hid hI1
  clear hI hI1
  refine wpAny_done (by kernel_rfl) ?_ _
  go_wp2_with fail
  exact bodyPost_ret (results_c ty_color rfl rfl rfl (HO.out.at 4 rfl)) rfl ⟨rfl, HO.out.k⟩
theorem rsample_any (n m u v k : Int) (soft : Bool) (l : List Int) (t : Value) (w : World) (hS : Sl w t (iv l)) (hc : Tx.chk n m l = 0) (hk : Tx.is k = true) (hu : -65536 ≤ u ∧ u ≤ 65536) (hv : -65536 ≤ v ∧ v ≤ 65536) :
    Calls Tryz.prog 25 #[.agg #[.int .i64 n, .int .i64 m, t], .int .i64 u, .int .i64 v, .int .i64 k, .bool soft] w fun e w' => e = .returned (.agg #[.int .i64 (Tx.smp n m l u v k soft 0), .int .i64 (Tx.smp n m l u v k soft 1), .int .i64 (Tx.smp n m l u v k soft 2), .int .i64 (Tx.smp n m l u v k soft 3)]) ∧ Kp w.heap.size w w' := by
  cases soft
  · exact rsample_hard n m u v k l t w hS hc hk hu hv
  · exact rsample_soft n m u v k l t w hS hc hk hu hv
end Go.Proofs.YtankjlpanmmogaaGreat
