/-
  BaryCorners: its Go text returns true.
-/
import Derived.Test.YtkgelmaakmpaeaaBaryRef
import Derived.Test.YtkgelmaakmpaeaaRegionOw
import Derived.BigGuard
namespace Go.Proofs.Ytkgelmaakmpaeaa
open Go.RowKit

set_option linter.unusedSimpArgs false in
set_option maxRecDepth 100000 in
set_option maxHeartbeats 8000000 in
theorem bcorners_yes (a1 a2 b1 b2 c1 c2 v0 v1 v2 : Int) (w : World) (ha : Eg.may a1 a2 = true) (hb : Eg.may b1 b2 = true) (hc : Eg.may c1 c2 = true) (hs : 0 < Eg.side a1 a2 b1 b2 c1 c2) (hv : By.in3 (-1073741824) 1073741824 v0 v1 v2 = true) :
    Calls Try.prog 5 #[.agg #[.int .i64 a1, .int .i64 a2, .int .i64 b1, .int .i64 b2, .int .i64 c1, .int .i64 c2], .agg #[.int .i64 v0, .int .i64 v1, .int .i64 v2]] w fun e w' => e = .returned (.bool true) ∧ Kp w.heap.size w w' := by
  have K := By.corners a1 a2 b1 b2 c1 c2
  have SB := By.side_bd ha hb hc
  have hz : Eg.side a1 a2 b1 b2 c1 c2 = Eg.side a1 a2 b1 b2 c1 c2 := rfl
  have W1 := fun W => weights_yes a1 a2 b1 b2 c1 c2 a1 a2 W ha hb hc ha
  have W2 := fun W => weights_yes a1 a2 b1 b2 c1 c2 b1 b2 W ha hb hc hb
  have W3 := fun W => weights_yes a1 a2 b1 b2 c1 c2 c1 c2 W ha hb hc hc
  have S1 := fun W => rside_any a1 a2 b1 b2 c1 c2 W ha hb hc
  rw [K.1.1, K.1.2.1, K.1.2.2] at W1
  rw [K.2.1.1, K.2.1.2.1, K.2.1.2.2] at W2
  rw [K.2.2.1, K.2.2.2] at W3
  clear K hz
  have hi : ∀ x y z : Int, (0 ≤ x ∧ x ≤ 4398046511104) ∧ (0 ≤ y ∧ y ≤ 4398046511104) ∧ (0 ≤ z ∧ z ≤ 4398046511104) → By.in3 0 4398046511104 x y z = true := fun _ _ _ => By.in3_iff.2
  have Y5 := fun W => rmay3_any 1 1 1 v0 v1 v2 W
  rw [show By.ok 1 1 1 v0 v1 v2 = true from By.ok_iff.2 ⟨by decide, hv, by decide⟩] at Y5
  generalize Eg.side a1 a2 b1 b2 c1 c2 = s at *
  have hd : decide (s ≤ 0) = false := by simpa using hs
  have M1 : ∀ W, Calls Try.prog 11 #[.agg #[.int .i64 s, .int .i64 0, .int .i64 0], .agg #[.int .i64 v0, .int .i64 v1, .int .i64 v2]] W fun e w' => e = .returned (.tuple #[.int .i64 v0, .int .i64 0]) ∧ Kp W.heap.size W w' := fun W => by
    have k := mix_yes s 0 0 v0 v1 v2 W (hi _ _ _ (by omega)) hv (by omega)
    rwa [By.alone1 hs] at k
  have M2 : ∀ W, Calls Try.prog 11 #[.agg #[.int .i64 0, .int .i64 s, .int .i64 0], .agg #[.int .i64 v0, .int .i64 v1, .int .i64 v2]] W fun e w' => e = .returned (.tuple #[.int .i64 v1, .int .i64 0]) ∧ Kp W.heap.size W w' := fun W => by
    have k := mix_yes 0 s 0 v0 v1 v2 W (hi _ _ _ (by omega)) hv (by omega)
    rwa [By.alone2 hs] at k
  have M3 : ∀ W, Calls Try.prog 11 #[.agg #[.int .i64 0, .int .i64 0, .int .i64 s], .agg #[.int .i64 v0, .int .i64 v1, .int .i64 v2]] W fun e w' => e = .returned (.tuple #[.int .i64 v2, .int .i64 0]) ∧ Kp W.heap.size W w' := fun W => by
    have k := mix_yes 0 0 s v0 v1 v2 W (hi _ _ _ (by omega)) hv (by omega)
    rwa [By.alone3 hs] at k
  have HO := Lib.hid (((Ow.refl w).newAt w.heap.size rfl (.int .i64 a1) [.int .i64 a2, .int .i64 b1, .int .i64 b2, .int .i64 c1, .int .i64 c2] 24).newAt (w.heap.size + 1) (by simp) (.int .i64 v0) [.int .i64 v1, .int .i64 v2] 25)
  have Y1 := fun W => rmay_any a1 a2 W
  have Y2 := fun W => rmay_any b1 b2 W
  have Y3 := fun W => rmay_any c1 c2 W
  rw [ha] at Y1
  rw [hb] at Y2
  rw [hc] at Y3
  clear ha hb hc hv hi SB
  have HT := Lib.hid (show (w.heap.size, [.int .i64 a1, .int .i64 a2, .int .i64 b1, .int .i64 b2, .int .i64 c1, .int .i64 c2]) ∈ ([(w.heap.size + 1, [.int .i64 v0, .int .i64 v1, .int .i64 v2]), (w.heap.size, [.int .i64 a1, .int .i64 a2, .int .i64 b1, .int .i64 b2, .int .i64 c1, .int .i64 c2])] : List (Nat × List Value)) by simp)
  go_enter Try.func5, Try.ntmps5
  go_wp2_with (first   | go_big_skip   | ((with_reducible show wpList _ _ _ ({ dst := _, op := Op.load 23 _, type := _, pos := _, after := _, guard := _ } :: _) _ _); refine wpList_ldo ty_point rfl _ rfl _ _ rfl [.int .i64 a1, .int .i64 a2, .int .i64 b1, .int .i64 b2, .int .i64 c1, .int .i64 c2] rfl (HO.out.at 1 rfl).some ?_; intro us hus; dsimp only [List.drop, List.take] at hus; subst hus)   | ((with_reducible show wpList _ _ _ ({ dst := _, op := Op.load 25 (Operand.tmp 3), type := _, pos := _, after := _, guard := _ } :: _) _ _); refine wpList_ldr ty_i3 rfl _ rfl _ rfl _ rfl (HO.out.at 0 rfl) ?_)   | (go_at_call 7; (with_reducible refine (Y1 _).mono ?_); rintro e wz ⟨rfl, hk1⟩; have l2 := HO.out.call hk1; clear HO hk1; have HO := Lib.hid l2; clear l2)   | (go_at_call 7; (with_reducible refine (Y2 _).mono ?_); rintro e wz ⟨rfl, hk1⟩; have l2 := HO.out.call hk1; clear HO hk1; have HO := Lib.hid l2; clear l2)   | (go_at_call 7; (with_reducible refine (Y3 _).mono ?_); rintro e wz ⟨rfl, hk1⟩; have l2 := HO.out.call hk1; clear HO hk1; have HO := Lib.hid l2; clear l2)   | (go_at_call 10; (with_reducible refine (S1 _).mono ?_); rintro e wz ⟨rfl, hk1⟩; have l2 := HO.out.call hk1; clear HO hk1; have HO := Lib.hid l2; clear l2)   | (go_at_call 12; (with_reducible refine (Y5 _).mono ?_); rintro e wz ⟨rfl, hk1⟩; have l2 := HO.out.call hk1; clear HO hk1; have HO := Lib.hid l2; clear l2)   | (go_at_call 8; refine (awake_any _).mono ?_; rintro e wz ⟨rfl, hk1⟩; have l2 := HO.out.call hk1; clear HO hk1; have HO := Lib.hid l2; clear l2))
  go_loopw [5, 6, 7, 8, 9] (fun i _ _ _ _ wr => (i = .int .i64 0 ∨ i = .int .i64 1 ∨ i = .int .i64 2 ∨ i = .int .i64 3) ∧ Ow w wr [(w.heap.size + 1, [.int .i64 v0, .int .i64 v1, .int .i64 v2]), (w.heap.size, [.int .i64 a1, .int .i64 a2, .int .i64 b1, .int .i64 b2, .int .i64 c1, .int .i64 c2])]) (fun i _ _ _ _ _ => msr3 i)
  case atStart => exact ⟨.inl rfl, HO.out⟩
  case round =>
    clear HO
    obtain ⟨hi, ho⟩ := hrel
    rcases hi with rfl | rfl | rfl | rfl
    · skip
      have HO := Lib.hid ho
      clear ho
      go_upto_region 6 with fail
      refine Rg2.region (σ := List (Nat × List Value)) (I := Rg2.Io w [(w.heap.size + 1, [.int .i64 v0, .int .i64 v1, .int .i64 v2]), (w.heap.size, [.int .i64 a1, .int .i64 a2, .int .i64 b1, .int .i64 b2, .int .i64 c1, .int .i64 c2])]) (mk := fun b s => (b, [.int .i64 0, .int .i64 0, .int .i64 0]) :: s) (dem := fun i => i == 8 || i == 9) (m := 11) (g := 0) (T := fun listed s st => ∀ W, Rg2.Io w [(w.heap.size + 1, [.int .i64 v0, .int .i64 v1, .int .i64 v2]), (w.heap.size, [.int .i64 a1, .int .i64 a2, .int .i64 b1, .int .i64 b2, .int .i64 c1, .int .i64 c2])] s W → wpAny Try.prog .any _ _ 0 listed st W) [] (by kernel_rfl) HO.out.drew rfl (fun _ _ _ _ h hI => h _ hI) ?_
      clear HO
      refine Rg2.take 0 (v := .agg #[.int .i64 a1, .int .i64 a2, .int .i64 b1, .int .i64 b2, .int .i64 c1, .int .i64 c2]) rfl rfl (by kernel_rfl) (by kernel_rfl) (by kernel_rfl) (by kernel_rfl) (by kernel_rfl) (.inl ⟨rfl, fun bs wq hI => ?_⟩) ?_
      · exact quiet_ldr ty_three (.tmp 2) rfl rfl rfl (hI.rc HT.out)
      simp only [Act.put, List.getElem_toArray, List.getElem_cons_zero, List.getElem_cons_succ, List.setIfInBounds_toArray, List.set_cons_zero, List.set_cons_succ]
      refine Rg2.take 1 (v := .int .i64 0) rfl rfl (by kernel_rfl) (by kernel_rfl) (by kernel_rfl) (by kernel_rfl) (by kernel_rfl) (.inl ⟨rfl, fun bs wq hI => ?_⟩) ?_
      · go_simp
      simp only [Act.put, List.getElem_toArray, List.getElem_cons_zero, List.getElem_cons_succ, List.setIfInBounds_toArray, List.set_cons_zero, List.set_cons_succ]
      refine Rg2.take 2 (v := .pointer (some ⟨w.heap.size, 0, none⟩)) rfl rfl (by kernel_rfl) (by kernel_rfl) (by kernel_rfl) (by kernel_rfl) (by kernel_rfl) (.inl ⟨rfl, fun bs wq hI => ?_⟩) ?_
      · go_simp
      simp only [Act.put, List.getElem_toArray, List.getElem_cons_zero, List.getElem_cons_succ, List.setIfInBounds_toArray, List.set_cons_zero, List.set_cons_succ]
      refine Rg2.take 3 (v := .agg #[.int .i64 a1, .int .i64 a2]) rfl rfl (by kernel_rfl) (by kernel_rfl) (by kernel_rfl) (by kernel_rfl) (by kernel_rfl) (.inl ⟨rfl, fun bs wq hI => ?_⟩) ?_
      · exact quiet_ldo (vs := [.int .i64 a1, .int .i64 a2, .int .i64 b1, .int .i64 b2, .int .i64 c1, .int .i64 c2]) (us := [.int .i64 a1, .int .i64 a2]) ty_point (.tmp 50) rfl rfl rfl rfl (hI.rc HT.out)
      simp only [Act.put, List.getElem_toArray, List.getElem_cons_zero, List.getElem_cons_succ, List.setIfInBounds_toArray, List.set_cons_zero, List.set_cons_succ]
      refine Rg2.take 4 (v := .tuple #[.agg #[.int .i64 s, .int .i64 0, .int .i64 0], .int .i64 0]) rfl rfl (by kernel_rfl) (by kernel_rfl) (by kernel_rfl) (by kernel_rfl) (by kernel_rfl) (.inl ⟨rfl, fun bs wq hI => ?_⟩) ?_
      · (go_simp; exact (W1 _).mono fun e w2 h => ⟨h.1, hI.call h.2⟩)
      simp only [Act.put, List.getElem_toArray, List.getElem_cons_zero, List.getElem_cons_succ, List.setIfInBounds_toArray, List.set_cons_zero, List.set_cons_succ]
      refine Rg2.take 5 (v := .tuple #[.agg #[.int .i64 s, .int .i64 0, .int .i64 0], .int .i64 0]) rfl rfl (by kernel_rfl) (by kernel_rfl) (by kernel_rfl) (by kernel_rfl) (by kernel_rfl) (.inl ⟨rfl, fun bs wq hI => ?_⟩) ?_
      · go_simp
      simp only [Act.put, List.getElem_toArray, List.getElem_cons_zero, List.getElem_cons_succ, List.setIfInBounds_toArray, List.set_cons_zero, List.set_cons_succ]
      refine Rg2.take 6 (v := .agg #[.int .i64 s, .int .i64 0, .int .i64 0]) rfl rfl (by kernel_rfl) (by kernel_rfl) (by kernel_rfl) (by kernel_rfl) (by kernel_rfl) (.inl ⟨rfl, fun bs wq hI => ?_⟩) ?_
      · go_simp
      simp only [Act.put, List.getElem_toArray, List.getElem_cons_zero, List.getElem_cons_succ, List.setIfInBounds_toArray, List.set_cons_zero, List.set_cons_succ]
      refine Rg2.take 7 (v := .int .i64 0) rfl rfl (by kernel_rfl) (by kernel_rfl) (by kernel_rfl) (by kernel_rfl) (by kernel_rfl) (.inl ⟨rfl, fun bs wq hI => ?_⟩) ?_
      · go_simp
      simp only [Act.put, List.getElem_toArray, List.getElem_cons_zero, List.getElem_cons_succ, List.setIfInBounds_toArray, List.set_cons_zero, List.set_cons_succ]
      refine Rg2.made1 8 (by kernel_rfl) rfl rfl (Rg2.makes_of (ty := 25) (.int .i64 0) [.int .i64 0, .int .i64 0] (fun _ => rfl) (fun a W => by simp [execOp, go_sem])) (fun c => ?_)
      simp only [Act.put, List.getElem_toArray, List.getElem_cons_zero, List.getElem_cons_succ, List.setIfInBounds_toArray, List.set_cons_zero, List.set_cons_succ]
      refine Rg2.put1 9 (by kernel_rfl) rfl rfl (Rg2.puts_row ty_i3 0 [.int .i64 s, .int .i64 0, .int .i64 0] rfl _ _ rfl _ rfl rfl _ rfl rfl rfl rfl) ?_
      simp only [Act.put, List.getElem_toArray, List.getElem_cons_zero, List.getElem_cons_succ, List.setIfInBounds_toArray, List.set_cons_zero, List.set_cons_succ]
      refine Rg2.take 10 (v := .int .i64 0) rfl rfl (by kernel_rfl) (by kernel_rfl) (by kernel_rfl) (by kernel_rfl) (by kernel_rfl) (.inl ⟨rfl, fun bs wq hI => ?_⟩) ?_
      · go_simp
      simp only [Act.put, List.getElem_toArray, List.getElem_cons_zero, List.getElem_cons_succ, List.setIfInBounds_toArray, List.set_cons_zero, List.set_cons_succ]
      refine Rg2.done (rs := []) (by kernel_rfl) (by decide) (fun W hI => ?_)
      have HO := Lib.hid (show Ow w W ((c, [.int .i64 s, .int .i64 0, .int .i64 0]) :: [(w.heap.size + 1, [.int .i64 v0, .int .i64 v1, .int .i64 v2]), (w.heap.size, [.int .i64 a1, .int .i64 a2, .int .i64 b1, .int .i64 b2, .int .i64 c1, .int .i64 c2])]) from hI)
      clear hI
      refine wpAny_done (by kernel_rfl) ?_ _
      go_upto_region 8 with (first | ((with_reducible show wpList _ _ _ ({ dst := _, op := Op.load 25 (Operand.tmp 6), type := _, pos := _, after := _, guard := _ } :: _) _ _); refine wpList_ldr ty_i3 rfl _ rfl _ rfl _ rfl (HO.out.at 0 rfl) ?_) | ((with_reducible show wpList _ _ _ ({ dst := _, op := Op.load 25 (Operand.tmp 3), type := _, pos := _, after := _, guard := _ } :: _) _ _); refine wpList_ldr ty_i3 rfl _ rfl _ rfl _ rfl (HO.out.at 1 rfl) ?_) | (go_at_call 11; (with_reducible refine (M1 _).mono ?_); rintro e wz ⟨rfl, hk1⟩; have l2 := HO.out.call hk1; clear HO hk1; have HO := Lib.hid l2; clear l2))
      have dd := (HO.out.at 1 rfl).cell 0 rfl
      go_wp2_with go_big_skip
      go_roundw
      case rel => exact ⟨.inr (.inl (by go_num)), HO.out.drop1⟩
      case measure => simp [msr3, intOf]
    · skip
      have HO := Lib.hid ho
      clear ho
      go_upto_region 6 with fail
      refine Rg2.region (σ := List (Nat × List Value)) (I := Rg2.Io w [(w.heap.size + 1, [.int .i64 v0, .int .i64 v1, .int .i64 v2]), (w.heap.size, [.int .i64 a1, .int .i64 a2, .int .i64 b1, .int .i64 b2, .int .i64 c1, .int .i64 c2])]) (mk := fun b s => (b, [.int .i64 0, .int .i64 0, .int .i64 0]) :: s) (dem := fun i => i == 8 || i == 9) (m := 11) (g := 0) (T := fun listed s st => ∀ W, Rg2.Io w [(w.heap.size + 1, [.int .i64 v0, .int .i64 v1, .int .i64 v2]), (w.heap.size, [.int .i64 a1, .int .i64 a2, .int .i64 b1, .int .i64 b2, .int .i64 c1, .int .i64 c2])] s W → wpAny Try.prog .any _ _ 0 listed st W) [] (by kernel_rfl) HO.out.drew rfl (fun _ _ _ _ h hI => h _ hI) ?_
      clear HO
      refine Rg2.take 0 (v := .agg #[.int .i64 a1, .int .i64 a2, .int .i64 b1, .int .i64 b2, .int .i64 c1, .int .i64 c2]) rfl rfl (by kernel_rfl) (by kernel_rfl) (by kernel_rfl) (by kernel_rfl) (by kernel_rfl) (.inl ⟨rfl, fun bs wq hI => ?_⟩) ?_
      · exact quiet_ldr ty_three (.tmp 2) rfl rfl rfl (hI.rc HT.out)
      simp only [Act.put, List.getElem_toArray, List.getElem_cons_zero, List.getElem_cons_succ, List.setIfInBounds_toArray, List.set_cons_zero, List.set_cons_succ]
      refine Rg2.take 1 (v := .int .i64 1) rfl rfl (by kernel_rfl) (by kernel_rfl) (by kernel_rfl) (by kernel_rfl) (by kernel_rfl) (.inl ⟨rfl, fun bs wq hI => ?_⟩) ?_
      · go_simp
      simp only [Act.put, List.getElem_toArray, List.getElem_cons_zero, List.getElem_cons_succ, List.setIfInBounds_toArray, List.set_cons_zero, List.set_cons_succ]
      refine Rg2.take 2 (v := .pointer (some ⟨w.heap.size, 2, none⟩)) rfl rfl (by kernel_rfl) (by kernel_rfl) (by kernel_rfl) (by kernel_rfl) (by kernel_rfl) (.inl ⟨rfl, fun bs wq hI => ?_⟩) ?_
      · go_simp
      simp only [Act.put, List.getElem_toArray, List.getElem_cons_zero, List.getElem_cons_succ, List.setIfInBounds_toArray, List.set_cons_zero, List.set_cons_succ]
      refine Rg2.take 3 (v := .agg #[.int .i64 b1, .int .i64 b2]) rfl rfl (by kernel_rfl) (by kernel_rfl) (by kernel_rfl) (by kernel_rfl) (by kernel_rfl) (.inl ⟨rfl, fun bs wq hI => ?_⟩) ?_
      · exact quiet_ldo (vs := [.int .i64 a1, .int .i64 a2, .int .i64 b1, .int .i64 b2, .int .i64 c1, .int .i64 c2]) (us := [.int .i64 b1, .int .i64 b2]) ty_point (.tmp 50) rfl rfl rfl rfl (hI.rc HT.out)
      simp only [Act.put, List.getElem_toArray, List.getElem_cons_zero, List.getElem_cons_succ, List.setIfInBounds_toArray, List.set_cons_zero, List.set_cons_succ]
      refine Rg2.take 4 (v := .tuple #[.agg #[.int .i64 0, .int .i64 s, .int .i64 0], .int .i64 0]) rfl rfl (by kernel_rfl) (by kernel_rfl) (by kernel_rfl) (by kernel_rfl) (by kernel_rfl) (.inl ⟨rfl, fun bs wq hI => ?_⟩) ?_
      · (go_simp; exact (W2 _).mono fun e w2 h => ⟨h.1, hI.call h.2⟩)
      simp only [Act.put, List.getElem_toArray, List.getElem_cons_zero, List.getElem_cons_succ, List.setIfInBounds_toArray, List.set_cons_zero, List.set_cons_succ]
      refine Rg2.take 5 (v := .tuple #[.agg #[.int .i64 0, .int .i64 s, .int .i64 0], .int .i64 0]) rfl rfl (by kernel_rfl) (by kernel_rfl) (by kernel_rfl) (by kernel_rfl) (by kernel_rfl) (.inl ⟨rfl, fun bs wq hI => ?_⟩) ?_
      · go_simp
      simp only [Act.put, List.getElem_toArray, List.getElem_cons_zero, List.getElem_cons_succ, List.setIfInBounds_toArray, List.set_cons_zero, List.set_cons_succ]
      refine Rg2.take 6 (v := .agg #[.int .i64 0, .int .i64 s, .int .i64 0]) rfl rfl (by kernel_rfl) (by kernel_rfl) (by kernel_rfl) (by kernel_rfl) (by kernel_rfl) (.inl ⟨rfl, fun bs wq hI => ?_⟩) ?_
      · go_simp
      simp only [Act.put, List.getElem_toArray, List.getElem_cons_zero, List.getElem_cons_succ, List.setIfInBounds_toArray, List.set_cons_zero, List.set_cons_succ]
      refine Rg2.take 7 (v := .int .i64 0) rfl rfl (by kernel_rfl) (by kernel_rfl) (by kernel_rfl) (by kernel_rfl) (by kernel_rfl) (.inl ⟨rfl, fun bs wq hI => ?_⟩) ?_
      · go_simp
      simp only [Act.put, List.getElem_toArray, List.getElem_cons_zero, List.getElem_cons_succ, List.setIfInBounds_toArray, List.set_cons_zero, List.set_cons_succ]
      refine Rg2.made1 8 (by kernel_rfl) rfl rfl (Rg2.makes_of (ty := 25) (.int .i64 0) [.int .i64 0, .int .i64 0] (fun _ => rfl) (fun a W => by simp [execOp, go_sem])) (fun c => ?_)
      simp only [Act.put, List.getElem_toArray, List.getElem_cons_zero, List.getElem_cons_succ, List.setIfInBounds_toArray, List.set_cons_zero, List.set_cons_succ]
      refine Rg2.put1 9 (by kernel_rfl) rfl rfl (Rg2.puts_row ty_i3 0 [.int .i64 0, .int .i64 s, .int .i64 0] rfl _ _ rfl _ rfl rfl _ rfl rfl rfl rfl) ?_
      simp only [Act.put, List.getElem_toArray, List.getElem_cons_zero, List.getElem_cons_succ, List.setIfInBounds_toArray, List.set_cons_zero, List.set_cons_succ]
      refine Rg2.take 10 (v := .int .i64 0) rfl rfl (by kernel_rfl) (by kernel_rfl) (by kernel_rfl) (by kernel_rfl) (by kernel_rfl) (.inl ⟨rfl, fun bs wq hI => ?_⟩) ?_
      · go_simp
      simp only [Act.put, List.getElem_toArray, List.getElem_cons_zero, List.getElem_cons_succ, List.setIfInBounds_toArray, List.set_cons_zero, List.set_cons_succ]
      refine Rg2.done (rs := []) (by kernel_rfl) (by decide) (fun W hI => ?_)
      have HO := Lib.hid (show Ow w W ((c, [.int .i64 0, .int .i64 s, .int .i64 0]) :: [(w.heap.size + 1, [.int .i64 v0, .int .i64 v1, .int .i64 v2]), (w.heap.size, [.int .i64 a1, .int .i64 a2, .int .i64 b1, .int .i64 b2, .int .i64 c1, .int .i64 c2])]) from hI)
      clear hI
      refine wpAny_done (by kernel_rfl) ?_ _
      go_upto_region 8 with (first | ((with_reducible show wpList _ _ _ ({ dst := _, op := Op.load 25 (Operand.tmp 6), type := _, pos := _, after := _, guard := _ } :: _) _ _); refine wpList_ldr ty_i3 rfl _ rfl _ rfl _ rfl (HO.out.at 0 rfl) ?_) | ((with_reducible show wpList _ _ _ ({ dst := _, op := Op.load 25 (Operand.tmp 3), type := _, pos := _, after := _, guard := _ } :: _) _ _); refine wpList_ldr ty_i3 rfl _ rfl _ rfl _ rfl (HO.out.at 1 rfl) ?_) | (go_at_call 11; (with_reducible refine (M2 _).mono ?_); rintro e wz ⟨rfl, hk1⟩; have l2 := HO.out.call hk1; clear HO hk1; have HO := Lib.hid l2; clear l2))
      have dd := (HO.out.at 1 rfl).cell 1 rfl
      go_wp2_with go_big_skip
      go_roundw
      case rel => exact ⟨.inr (.inr (.inl (by go_num))), HO.out.drop1⟩
      case measure => simp [msr3, intOf]
    · skip
      have HO := Lib.hid ho
      clear ho
      go_upto_region 6 with fail
      refine Rg2.region (σ := List (Nat × List Value)) (I := Rg2.Io w [(w.heap.size + 1, [.int .i64 v0, .int .i64 v1, .int .i64 v2]), (w.heap.size, [.int .i64 a1, .int .i64 a2, .int .i64 b1, .int .i64 b2, .int .i64 c1, .int .i64 c2])]) (mk := fun b s => (b, [.int .i64 0, .int .i64 0, .int .i64 0]) :: s) (dem := fun i => i == 8 || i == 9) (m := 11) (g := 0) (T := fun listed s st => ∀ W, Rg2.Io w [(w.heap.size + 1, [.int .i64 v0, .int .i64 v1, .int .i64 v2]), (w.heap.size, [.int .i64 a1, .int .i64 a2, .int .i64 b1, .int .i64 b2, .int .i64 c1, .int .i64 c2])] s W → wpAny Try.prog .any _ _ 0 listed st W) [] (by kernel_rfl) HO.out.drew rfl (fun _ _ _ _ h hI => h _ hI) ?_
      clear HO
      refine Rg2.take 0 (v := .agg #[.int .i64 a1, .int .i64 a2, .int .i64 b1, .int .i64 b2, .int .i64 c1, .int .i64 c2]) rfl rfl (by kernel_rfl) (by kernel_rfl) (by kernel_rfl) (by kernel_rfl) (by kernel_rfl) (.inl ⟨rfl, fun bs wq hI => ?_⟩) ?_
      · exact quiet_ldr ty_three (.tmp 2) rfl rfl rfl (hI.rc HT.out)
      simp only [Act.put, List.getElem_toArray, List.getElem_cons_zero, List.getElem_cons_succ, List.setIfInBounds_toArray, List.set_cons_zero, List.set_cons_succ]
      refine Rg2.take 1 (v := .int .i64 2) rfl rfl (by kernel_rfl) (by kernel_rfl) (by kernel_rfl) (by kernel_rfl) (by kernel_rfl) (.inl ⟨rfl, fun bs wq hI => ?_⟩) ?_
      · go_simp
      simp only [Act.put, List.getElem_toArray, List.getElem_cons_zero, List.getElem_cons_succ, List.setIfInBounds_toArray, List.set_cons_zero, List.set_cons_succ]
      refine Rg2.take 2 (v := .pointer (some ⟨w.heap.size, 4, none⟩)) rfl rfl (by kernel_rfl) (by kernel_rfl) (by kernel_rfl) (by kernel_rfl) (by kernel_rfl) (.inl ⟨rfl, fun bs wq hI => ?_⟩) ?_
      · go_simp
      simp only [Act.put, List.getElem_toArray, List.getElem_cons_zero, List.getElem_cons_succ, List.setIfInBounds_toArray, List.set_cons_zero, List.set_cons_succ]
      refine Rg2.take 3 (v := .agg #[.int .i64 c1, .int .i64 c2]) rfl rfl (by kernel_rfl) (by kernel_rfl) (by kernel_rfl) (by kernel_rfl) (by kernel_rfl) (.inl ⟨rfl, fun bs wq hI => ?_⟩) ?_
      · exact quiet_ldo (vs := [.int .i64 a1, .int .i64 a2, .int .i64 b1, .int .i64 b2, .int .i64 c1, .int .i64 c2]) (us := [.int .i64 c1, .int .i64 c2]) ty_point (.tmp 50) rfl rfl rfl rfl (hI.rc HT.out)
      simp only [Act.put, List.getElem_toArray, List.getElem_cons_zero, List.getElem_cons_succ, List.setIfInBounds_toArray, List.set_cons_zero, List.set_cons_succ]
      refine Rg2.take 4 (v := .tuple #[.agg #[.int .i64 0, .int .i64 0, .int .i64 s], .int .i64 0]) rfl rfl (by kernel_rfl) (by kernel_rfl) (by kernel_rfl) (by kernel_rfl) (by kernel_rfl) (.inl ⟨rfl, fun bs wq hI => ?_⟩) ?_
      · (go_simp; exact (W3 _).mono fun e w2 h => ⟨h.1, hI.call h.2⟩)
      simp only [Act.put, List.getElem_toArray, List.getElem_cons_zero, List.getElem_cons_succ, List.setIfInBounds_toArray, List.set_cons_zero, List.set_cons_succ]
      refine Rg2.take 5 (v := .tuple #[.agg #[.int .i64 0, .int .i64 0, .int .i64 s], .int .i64 0]) rfl rfl (by kernel_rfl) (by kernel_rfl) (by kernel_rfl) (by kernel_rfl) (by kernel_rfl) (.inl ⟨rfl, fun bs wq hI => ?_⟩) ?_
      · go_simp
      simp only [Act.put, List.getElem_toArray, List.getElem_cons_zero, List.getElem_cons_succ, List.setIfInBounds_toArray, List.set_cons_zero, List.set_cons_succ]
      refine Rg2.take 6 (v := .agg #[.int .i64 0, .int .i64 0, .int .i64 s]) rfl rfl (by kernel_rfl) (by kernel_rfl) (by kernel_rfl) (by kernel_rfl) (by kernel_rfl) (.inl ⟨rfl, fun bs wq hI => ?_⟩) ?_
      · go_simp
      simp only [Act.put, List.getElem_toArray, List.getElem_cons_zero, List.getElem_cons_succ, List.setIfInBounds_toArray, List.set_cons_zero, List.set_cons_succ]
      refine Rg2.take 7 (v := .int .i64 0) rfl rfl (by kernel_rfl) (by kernel_rfl) (by kernel_rfl) (by kernel_rfl) (by kernel_rfl) (.inl ⟨rfl, fun bs wq hI => ?_⟩) ?_
      · go_simp
      simp only [Act.put, List.getElem_toArray, List.getElem_cons_zero, List.getElem_cons_succ, List.setIfInBounds_toArray, List.set_cons_zero, List.set_cons_succ]
      refine Rg2.made1 8 (by kernel_rfl) rfl rfl (Rg2.makes_of (ty := 25) (.int .i64 0) [.int .i64 0, .int .i64 0] (fun _ => rfl) (fun a W => by simp [execOp, go_sem])) (fun c => ?_)
      simp only [Act.put, List.getElem_toArray, List.getElem_cons_zero, List.getElem_cons_succ, List.setIfInBounds_toArray, List.set_cons_zero, List.set_cons_succ]
      refine Rg2.put1 9 (by kernel_rfl) rfl rfl (Rg2.puts_row ty_i3 0 [.int .i64 0, .int .i64 0, .int .i64 s] rfl _ _ rfl _ rfl rfl _ rfl rfl rfl rfl) ?_
      simp only [Act.put, List.getElem_toArray, List.getElem_cons_zero, List.getElem_cons_succ, List.setIfInBounds_toArray, List.set_cons_zero, List.set_cons_succ]
      refine Rg2.take 10 (v := .int .i64 0) rfl rfl (by kernel_rfl) (by kernel_rfl) (by kernel_rfl) (by kernel_rfl) (by kernel_rfl) (.inl ⟨rfl, fun bs wq hI => ?_⟩) ?_
      · go_simp
      simp only [Act.put, List.getElem_toArray, List.getElem_cons_zero, List.getElem_cons_succ, List.setIfInBounds_toArray, List.set_cons_zero, List.set_cons_succ]
      refine Rg2.done (rs := []) (by kernel_rfl) (by decide) (fun W hI => ?_)
      have HO := Lib.hid (show Ow w W ((c, [.int .i64 0, .int .i64 0, .int .i64 s]) :: [(w.heap.size + 1, [.int .i64 v0, .int .i64 v1, .int .i64 v2]), (w.heap.size, [.int .i64 a1, .int .i64 a2, .int .i64 b1, .int .i64 b2, .int .i64 c1, .int .i64 c2])]) from hI)
      clear hI
      refine wpAny_done (by kernel_rfl) ?_ _
      go_upto_region 8 with (first | ((with_reducible show wpList _ _ _ ({ dst := _, op := Op.load 25 (Operand.tmp 6), type := _, pos := _, after := _, guard := _ } :: _) _ _); refine wpList_ldr ty_i3 rfl _ rfl _ rfl _ rfl (HO.out.at 0 rfl) ?_) | ((with_reducible show wpList _ _ _ ({ dst := _, op := Op.load 25 (Operand.tmp 3), type := _, pos := _, after := _, guard := _ } :: _) _ _); refine wpList_ldr ty_i3 rfl _ rfl _ rfl _ rfl (HO.out.at 1 rfl) ?_) | (go_at_call 11; (with_reducible refine (M3 _).mono ?_); rintro e wz ⟨rfl, hk1⟩; have l2 := HO.out.call hk1; clear HO hk1; have HO := Lib.hid l2; clear l2))
      have dd := (HO.out.at 1 rfl).cell 2 rfl
      go_wp2_with go_big_skip
      go_roundw
      case rel => exact ⟨.inr (.inr (.inr ((by go_num)))), HO.out.drop1⟩
      case measure => simp [msr3, intOf]
    · have HO := Lib.hid ho
      clear ho
      go_wp2_with (go_at_call 8; refine (awake_any _).mono ?_; rintro e wz ⟨rfl, hk1⟩; have l2 := HO.out.call hk1; clear HO hk1; have HO := Lib.hid l2; clear l2)
      go_ret
      exact ⟨rfl, HO.out.k⟩
set_option linter.unusedSimpArgs false in
set_option maxRecDepth 100000 in
set_option maxHeartbeats 8000000 in
theorem bcorners_walk (a1 a2 b1 b2 c1 c2 v0 v1 v2 : Int) (w : World) :
    Calls Try.prog 5 #[.agg #[.int .i64 a1, .int .i64 a2, .int .i64 b1, .int .i64 b2, .int .i64 c1, .int .i64 c2], .agg #[.int .i64 v0, .int .i64 v1, .int .i64 v2]] w fun e w' => e = .returned (.bool true) ∧ Kp w.heap.size w w' := by
  cases ha : Eg.may a1 a2
  · skip
    have HO := Lib.hid (((Ow.refl w).newAt w.heap.size rfl (.int .i64 a1) [.int .i64 a2, .int .i64 b1, .int .i64 b2, .int .i64 c1, .int .i64 c2] 24).newAt (w.heap.size + 1) (by simp) (.int .i64 v0) [.int .i64 v1, .int .i64 v2] 25)
    have Y1 := fun W => rmay_any a1 a2 W
    have Y2 := fun W => rmay_any b1 b2 W
    have Y3 := fun W => rmay_any c1 c2 W
    rw [ha] at Y1
    clear ha Y2 Y3
    go_enter Try.func5, Try.ntmps5
    go_wp2_with (first   | go_big_skip   | ((with_reducible show wpList _ _ _ ({ dst := _, op := Op.load 23 _, type := _, pos := _, after := _, guard := _ } :: _) _ _); refine wpList_ldo ty_point rfl _ rfl _ _ rfl [.int .i64 a1, .int .i64 a2, .int .i64 b1, .int .i64 b2, .int .i64 c1, .int .i64 c2] rfl (HO.out.at 1 rfl).some ?_; intro us hus; dsimp only [List.drop, List.take] at hus; subst hus)   | ((with_reducible show wpList _ _ _ ({ dst := _, op := Op.load 25 (Operand.tmp 3), type := _, pos := _, after := _, guard := _ } :: _) _ _); refine wpList_ldr ty_i3 rfl _ rfl _ rfl _ rfl (HO.out.at 0 rfl) ?_)   | (go_at_call 7; (with_reducible refine (Y1 _).mono ?_); rintro e wz ⟨rfl, hk1⟩; have l2 := HO.out.call hk1; clear HO hk1; have HO := Lib.hid l2; clear l2)   | (go_at_call 7; (with_reducible refine (Y2 _).mono ?_); rintro e wz ⟨rfl, hk1⟩; have l2 := HO.out.call hk1; clear HO hk1; have HO := Lib.hid l2; clear l2)   | (go_at_call 7; (with_reducible refine (Y3 _).mono ?_); rintro e wz ⟨rfl, hk1⟩; have l2 := HO.out.call hk1; clear HO hk1; have HO := Lib.hid l2; clear l2)   | (go_at_call 10; (with_reducible refine (S1 _).mono ?_); rintro e wz ⟨rfl, hk1⟩; have l2 := HO.out.call hk1; clear HO hk1; have HO := Lib.hid l2; clear l2)   | (go_at_call 12; (with_reducible refine (Y5 _).mono ?_); rintro e wz ⟨rfl, hk1⟩; have l2 := HO.out.call hk1; clear HO hk1; have HO := Lib.hid l2; clear l2)   | (go_at_call 8; refine (awake_any _).mono ?_; rintro e wz ⟨rfl, hk1⟩; have l2 := HO.out.call hk1; clear HO hk1; have HO := Lib.hid l2; clear l2))
    go_ret
    exact ⟨rfl, HO.out.k⟩
  cases hb : Eg.may b1 b2
  · skip
    have HO := Lib.hid (((Ow.refl w).newAt w.heap.size rfl (.int .i64 a1) [.int .i64 a2, .int .i64 b1, .int .i64 b2, .int .i64 c1, .int .i64 c2] 24).newAt (w.heap.size + 1) (by simp) (.int .i64 v0) [.int .i64 v1, .int .i64 v2] 25)
    have Y1 := fun W => rmay_any a1 a2 W
    have Y2 := fun W => rmay_any b1 b2 W
    have Y3 := fun W => rmay_any c1 c2 W
    rw [ha] at Y1
    rw [hb] at Y2
    clear ha hb Y3
    go_enter Try.func5, Try.ntmps5
    go_wp2_with (first   | go_big_skip   | ((with_reducible show wpList _ _ _ ({ dst := _, op := Op.load 23 _, type := _, pos := _, after := _, guard := _ } :: _) _ _); refine wpList_ldo ty_point rfl _ rfl _ _ rfl [.int .i64 a1, .int .i64 a2, .int .i64 b1, .int .i64 b2, .int .i64 c1, .int .i64 c2] rfl (HO.out.at 1 rfl).some ?_; intro us hus; dsimp only [List.drop, List.take] at hus; subst hus)   | ((with_reducible show wpList _ _ _ ({ dst := _, op := Op.load 25 (Operand.tmp 3), type := _, pos := _, after := _, guard := _ } :: _) _ _); refine wpList_ldr ty_i3 rfl _ rfl _ rfl _ rfl (HO.out.at 0 rfl) ?_)   | (go_at_call 7; (with_reducible refine (Y1 _).mono ?_); rintro e wz ⟨rfl, hk1⟩; have l2 := HO.out.call hk1; clear HO hk1; have HO := Lib.hid l2; clear l2)   | (go_at_call 7; (with_reducible refine (Y2 _).mono ?_); rintro e wz ⟨rfl, hk1⟩; have l2 := HO.out.call hk1; clear HO hk1; have HO := Lib.hid l2; clear l2)   | (go_at_call 7; (with_reducible refine (Y3 _).mono ?_); rintro e wz ⟨rfl, hk1⟩; have l2 := HO.out.call hk1; clear HO hk1; have HO := Lib.hid l2; clear l2)   | (go_at_call 10; (with_reducible refine (S1 _).mono ?_); rintro e wz ⟨rfl, hk1⟩; have l2 := HO.out.call hk1; clear HO hk1; have HO := Lib.hid l2; clear l2)   | (go_at_call 12; (with_reducible refine (Y5 _).mono ?_); rintro e wz ⟨rfl, hk1⟩; have l2 := HO.out.call hk1; clear HO hk1; have HO := Lib.hid l2; clear l2)   | (go_at_call 8; refine (awake_any _).mono ?_; rintro e wz ⟨rfl, hk1⟩; have l2 := HO.out.call hk1; clear HO hk1; have HO := Lib.hid l2; clear l2))
    go_ret
    exact ⟨rfl, HO.out.k⟩
  cases hc : Eg.may c1 c2
  · skip
    have HO := Lib.hid (((Ow.refl w).newAt w.heap.size rfl (.int .i64 a1) [.int .i64 a2, .int .i64 b1, .int .i64 b2, .int .i64 c1, .int .i64 c2] 24).newAt (w.heap.size + 1) (by simp) (.int .i64 v0) [.int .i64 v1, .int .i64 v2] 25)
    have Y1 := fun W => rmay_any a1 a2 W
    have Y2 := fun W => rmay_any b1 b2 W
    have Y3 := fun W => rmay_any c1 c2 W
    rw [ha] at Y1
    rw [hb] at Y2
    rw [hc] at Y3
    clear ha hb hc
    go_enter Try.func5, Try.ntmps5
    go_wp2_with (first   | go_big_skip   | ((with_reducible show wpList _ _ _ ({ dst := _, op := Op.load 23 _, type := _, pos := _, after := _, guard := _ } :: _) _ _); refine wpList_ldo ty_point rfl _ rfl _ _ rfl [.int .i64 a1, .int .i64 a2, .int .i64 b1, .int .i64 b2, .int .i64 c1, .int .i64 c2] rfl (HO.out.at 1 rfl).some ?_; intro us hus; dsimp only [List.drop, List.take] at hus; subst hus)   | ((with_reducible show wpList _ _ _ ({ dst := _, op := Op.load 25 (Operand.tmp 3), type := _, pos := _, after := _, guard := _ } :: _) _ _); refine wpList_ldr ty_i3 rfl _ rfl _ rfl _ rfl (HO.out.at 0 rfl) ?_)   | (go_at_call 7; (with_reducible refine (Y1 _).mono ?_); rintro e wz ⟨rfl, hk1⟩; have l2 := HO.out.call hk1; clear HO hk1; have HO := Lib.hid l2; clear l2)   | (go_at_call 7; (with_reducible refine (Y2 _).mono ?_); rintro e wz ⟨rfl, hk1⟩; have l2 := HO.out.call hk1; clear HO hk1; have HO := Lib.hid l2; clear l2)   | (go_at_call 7; (with_reducible refine (Y3 _).mono ?_); rintro e wz ⟨rfl, hk1⟩; have l2 := HO.out.call hk1; clear HO hk1; have HO := Lib.hid l2; clear l2)   | (go_at_call 10; (with_reducible refine (S1 _).mono ?_); rintro e wz ⟨rfl, hk1⟩; have l2 := HO.out.call hk1; clear HO hk1; have HO := Lib.hid l2; clear l2)   | (go_at_call 12; (with_reducible refine (Y5 _).mono ?_); rintro e wz ⟨rfl, hk1⟩; have l2 := HO.out.call hk1; clear HO hk1; have HO := Lib.hid l2; clear l2)   | (go_at_call 8; refine (awake_any _).mono ?_; rintro e wz ⟨rfl, hk1⟩; have l2 := HO.out.call hk1; clear HO hk1; have HO := Lib.hid l2; clear l2))
    go_ret
    exact ⟨rfl, HO.out.k⟩
  by_cases hs : 0 < Eg.side a1 a2 b1 b2 c1 c2
  · cases hv : By.in3 (-1073741824) 1073741824 v0 v1 v2
    · have S1 := fun W => rside_any a1 a2 b1 b2 c1 c2 W ha hb hc
      have Y5 := fun W => rmay3_any 1 1 1 v0 v1 v2 W
      rw [show By.ok 1 1 1 v0 v1 v2 = false by unfold By.ok; rw [hv]; simp] at Y5
      generalize Eg.side a1 a2 b1 b2 c1 c2 = s at *
      have hd : decide (s ≤ 0) = false := by simpa using hs
      have HO := Lib.hid (((Ow.refl w).newAt w.heap.size rfl (.int .i64 a1) [.int .i64 a2, .int .i64 b1, .int .i64 b2, .int .i64 c1, .int .i64 c2] 24).newAt (w.heap.size + 1) (by simp) (.int .i64 v0) [.int .i64 v1, .int .i64 v2] 25)
      have Y1 := fun W => rmay_any a1 a2 W
      have Y2 := fun W => rmay_any b1 b2 W
      have Y3 := fun W => rmay_any c1 c2 W
      rw [ha] at Y1
      rw [hb] at Y2
      rw [hc] at Y3
      clear ha hb hc hv
      go_enter Try.func5, Try.ntmps5
      go_wp2_with (first   | go_big_skip   | ((with_reducible show wpList _ _ _ ({ dst := _, op := Op.load 23 _, type := _, pos := _, after := _, guard := _ } :: _) _ _); refine wpList_ldo ty_point rfl _ rfl _ _ rfl [.int .i64 a1, .int .i64 a2, .int .i64 b1, .int .i64 b2, .int .i64 c1, .int .i64 c2] rfl (HO.out.at 1 rfl).some ?_; intro us hus; dsimp only [List.drop, List.take] at hus; subst hus)   | ((with_reducible show wpList _ _ _ ({ dst := _, op := Op.load 25 (Operand.tmp 3), type := _, pos := _, after := _, guard := _ } :: _) _ _); refine wpList_ldr ty_i3 rfl _ rfl _ rfl _ rfl (HO.out.at 0 rfl) ?_)   | (go_at_call 7; (with_reducible refine (Y1 _).mono ?_); rintro e wz ⟨rfl, hk1⟩; have l2 := HO.out.call hk1; clear HO hk1; have HO := Lib.hid l2; clear l2)   | (go_at_call 7; (with_reducible refine (Y2 _).mono ?_); rintro e wz ⟨rfl, hk1⟩; have l2 := HO.out.call hk1; clear HO hk1; have HO := Lib.hid l2; clear l2)   | (go_at_call 7; (with_reducible refine (Y3 _).mono ?_); rintro e wz ⟨rfl, hk1⟩; have l2 := HO.out.call hk1; clear HO hk1; have HO := Lib.hid l2; clear l2)   | (go_at_call 10; (with_reducible refine (S1 _).mono ?_); rintro e wz ⟨rfl, hk1⟩; have l2 := HO.out.call hk1; clear HO hk1; have HO := Lib.hid l2; clear l2)   | (go_at_call 12; (with_reducible refine (Y5 _).mono ?_); rintro e wz ⟨rfl, hk1⟩; have l2 := HO.out.call hk1; clear HO hk1; have HO := Lib.hid l2; clear l2)   | (go_at_call 8; refine (awake_any _).mono ?_; rintro e wz ⟨rfl, hk1⟩; have l2 := HO.out.call hk1; clear HO hk1; have HO := Lib.hid l2; clear l2))
      go_ret
      exact ⟨rfl, HO.out.k⟩
    · exact bcorners_yes a1 a2 b1 b2 c1 c2 v0 v1 v2 w ha hb hc hs hv
  · have S1 := fun W => rside_any a1 a2 b1 b2 c1 c2 W ha hb hc
    generalize Eg.side a1 a2 b1 b2 c1 c2 = s at *
    have hd : decide (s ≤ 0) = true := by simpa using hs
    have HO := Lib.hid (((Ow.refl w).newAt w.heap.size rfl (.int .i64 a1) [.int .i64 a2, .int .i64 b1, .int .i64 b2, .int .i64 c1, .int .i64 c2] 24).newAt (w.heap.size + 1) (by simp) (.int .i64 v0) [.int .i64 v1, .int .i64 v2] 25)
    have Y1 := fun W => rmay_any a1 a2 W
    have Y2 := fun W => rmay_any b1 b2 W
    have Y3 := fun W => rmay_any c1 c2 W
    rw [ha] at Y1
    rw [hb] at Y2
    rw [hc] at Y3
    clear ha hb hc
    go_enter Try.func5, Try.ntmps5
    go_wp2_with (first   | go_big_skip   | ((with_reducible show wpList _ _ _ ({ dst := _, op := Op.load 23 _, type := _, pos := _, after := _, guard := _ } :: _) _ _); refine wpList_ldo ty_point rfl _ rfl _ _ rfl [.int .i64 a1, .int .i64 a2, .int .i64 b1, .int .i64 b2, .int .i64 c1, .int .i64 c2] rfl (HO.out.at 1 rfl).some ?_; intro us hus; dsimp only [List.drop, List.take] at hus; subst hus)   | ((with_reducible show wpList _ _ _ ({ dst := _, op := Op.load 25 (Operand.tmp 3), type := _, pos := _, after := _, guard := _ } :: _) _ _); refine wpList_ldr ty_i3 rfl _ rfl _ rfl _ rfl (HO.out.at 0 rfl) ?_)   | (go_at_call 7; (with_reducible refine (Y1 _).mono ?_); rintro e wz ⟨rfl, hk1⟩; have l2 := HO.out.call hk1; clear HO hk1; have HO := Lib.hid l2; clear l2)   | (go_at_call 7; (with_reducible refine (Y2 _).mono ?_); rintro e wz ⟨rfl, hk1⟩; have l2 := HO.out.call hk1; clear HO hk1; have HO := Lib.hid l2; clear l2)   | (go_at_call 7; (with_reducible refine (Y3 _).mono ?_); rintro e wz ⟨rfl, hk1⟩; have l2 := HO.out.call hk1; clear HO hk1; have HO := Lib.hid l2; clear l2)   | (go_at_call 10; (with_reducible refine (S1 _).mono ?_); rintro e wz ⟨rfl, hk1⟩; have l2 := HO.out.call hk1; clear HO hk1; have HO := Lib.hid l2; clear l2)   | (go_at_call 12; (with_reducible refine (Y5 _).mono ?_); rintro e wz ⟨rfl, hk1⟩; have l2 := HO.out.call hk1; clear HO hk1; have HO := Lib.hid l2; clear l2)   | (go_at_call 8; refine (awake_any _).mono ?_; rintro e wz ⟨rfl, hk1⟩; have l2 := HO.out.call hk1; clear HO hk1; have HO := Lib.hid l2; clear l2))
    go_ret
    exact ⟨rfl, HO.out.k⟩
end Go.Proofs.Ytkgelmaakmpaeaa
