/-
  Contracts of layer 7 (blend): Mix of right colours by a blend that may be, by the lesser of both channels.
-/
import Derived.Test.YtankjlpanmmogaaGreatBlendMixC
namespace Go.Proofs.YtankjlpanmmogaaGreat
set_option maxRecDepth 100000
open Go.RowKit

set_option linter.unusedSimpArgs false in
set_option maxRecDepth 100000 in
set_option maxHeartbeats 8000000 in
theorem mix_least (s d q m r g b a r' g' b' a' : Int) (w : World) (hc : (Bn.chk s d q m != 0) = false) (hq : q = 3) (h : Tn.right r g b a = true) (h' : Tn.right r' g' b' a' = true) :
    Calls Tryz.prog 78 #[.agg #[.int .i64 s, .int .i64 d, .int .i64 q, .int .i64 m], .agg #[.int .i64 r, .int .i64 g, .int .i64 b, .int .i64 a], .agg #[.int .i64 (r'), .int .i64 (g'), .int .i64 (b'), .int .i64 (a')]] w fun e w' => e = .returned (.tuple #[.agg #[.int .i64 (Bn.wr m 1 (Bn.mx s d q r r' a a') r'), .int .i64 (Bn.wr m 2 (Bn.mx s d q g g' a a') g'), .int .i64 (Bn.wr m 4 (Bn.mx s d q b b' a a') b'), .int .i64 (Bn.wr m 8 (Bn.mx s d q a a' a a') a')], .int .i64 0]) ∧ Kp w.heap.size w w' := by
  have HQ := Lib.hid hq
  clear hq
  have HO := Lib.hid (((((Ow.refl w).newAt w.heap.size rfl (.int .i64 s) [.int .i64 d, .int .i64 q, .int .i64 m] 47).newAt (w.heap.size + 1) (by simp) (.int .i64 r) [.int .i64 g, .int .i64 b, .int .i64 a] 51).newAt (w.heap.size + 2) (by simp) (.int .i64 r') [.int .i64 g', .int .i64 b', .int .i64 a'] 51).newAt (w.heap.size + 3) (by simp) (.int .i64 0) [.int .i64 0, .int .i64 0, .int .i64 0] 51)
  have HS := Lib.hid (Bn.chk_yes hc)
  have HB := Lib.hid (show (w.heap.size, [.int .i64 s, .int .i64 d, .int .i64 q, .int .i64 m]) ∈ Xb w s d q m r g b a r' g' b' a' by simp [Xb])
  have HX := Lib.hid (show (w.heap.size + 1, [.int .i64 r, .int .i64 g, .int .i64 b, .int .i64 a]) ∈ Xb w s d q m r g b a r' g' b' a' by simp [Xb])
  have HY := Lib.hid (show (w.heap.size + 2, [.int .i64 r', .int .i64 g', .int .i64 b', .int .i64 a']) ∈ Xb w s d q m r g b a r' g' b' a' by simp [Xb])
  go_enter Tryz.func78, Tryz.ntmps78
  go_upto_region 6 with (first | go_skip | ((with_reducible show wpList _ _ _ ({ dst := _, op := Op.load 47 _, type := _, pos := _, after := _, guard := _ } :: _) _ _); refine wpList_ldr ty_blend rfl _ rfl _ rfl _ rfl (HO.out.at 3 rfl) ?_) | ((with_reducible show wpList _ _ _ ({ dst := _, op := Op.load 51 _, type := _, pos := _, after := _, guard := _ } :: _) _ _); refine wpList_ldr ty_color rfl _ rfl _ rfl _ rfl (HO.out.at 2 rfl) ?_) | ((with_reducible show wpList _ _ _ ({ dst := _, op := Op.load 51 _, type := _, pos := _, after := _, guard := _ } :: _) _ _); refine wpList_ldr ty_color rfl _ rfl _ rfl _ rfl (HO.out.at 1 rfl) ?_) | (go_at_call 69; refine (bcheck_any s d q m _).mono ?_; rintro e w1 ⟨rfl, hk⟩; have l2 := HO.out.call hk; clear HO hk; have HO := Lib.hid l2; clear l2) | (go_at_call 73; (first | with_reducible refine (right_any r g b a _).mono ?_ | with_reducible refine (right_any r' g' b' a' _).mono ?_); rintro e w1 ⟨rfl, hk⟩; have l2 := HO.out.call hk; clear HO hk; have HO := Lib.hid l2; clear l2))
  go_cut [9, 10] (fun s9 s10 wx => ∃ p n : Nat, s9 = .pointer (some ⟨p, 0, none⟩) ∧ s10 = .pointer (some ⟨n, 0, none⟩) ∧ Ow w wx ((p, Fc s r g b a r' g' b' a') :: (n, Fc d r g b a r' g' b' a') :: Xb w s d q m r g b a r' g' b' a'))
  case first =>
    refine Rg.region (I := Mk w [.int .i64 0, .int .i64 0, .int .i64 0, .int .i64 0] (Xb w s d q m r g b a r' g' b' a')) (dem := fun i => decide (10 ≤ i)) (m := 12) (g := 2) (T := fun listed bs st => ∀ W, Mk w [.int .i64 0, .int .i64 0, .int .i64 0, .int .i64 0] (Xb w s d q m r g b a r' g' b' a') bs W → wpAny Tryz.prog .any _ _ 2 listed st W) (by kernel_rfl) HO.out.drew rfl (fun _ _ _ _ h hI => h _ hI) ?_
    clear HO
    refine Rg.take 0 (v := .pointer (some ⟨w.heap.size, 0, none⟩)) rfl rfl (by kernel_rfl) (by kernel_rfl) (by kernel_rfl) (by kernel_rfl) (by kernel_rfl) (.inl ⟨rfl, fun bs wq hI => ?_⟩) ?_
    · go_simp
    simp only [Act.put, List.getElem_toArray, List.getElem_cons_zero, List.getElem_cons_succ, List.setIfInBounds_toArray, List.set_cons_zero, List.set_cons_succ]
    refine Rg.take 1 (v := .int .i64 s) rfl rfl (by kernel_rfl) (by kernel_rfl) (by kernel_rfl) (by kernel_rfl) (by kernel_rfl) (.inl ⟨rfl, fun bs wq hI => ?_⟩) ?_
    · (have c := (Ow.mem hI (List.mem_append_right _ HB.out)).cell 0 rfl; go_simp)
    simp only [Act.put, List.getElem_toArray, List.getElem_cons_zero, List.getElem_cons_succ, List.setIfInBounds_toArray, List.set_cons_zero, List.set_cons_succ]
    refine Rg.take 2 (v := .agg #[.int .i64 r, .int .i64 g, .int .i64 b, .int .i64 a]) rfl rfl (by kernel_rfl) (by kernel_rfl) (by kernel_rfl) (by kernel_rfl) (by kernel_rfl) (.inl ⟨rfl, fun bs wq hI => ?_⟩) ?_
    · exact quiet_ldr ty_color (.tmp 4) rfl rfl rfl (Ow.mem hI (List.mem_append_right _ HX.out))
    simp only [Act.put, List.getElem_toArray, List.getElem_cons_zero, List.getElem_cons_succ, List.setIfInBounds_toArray, List.set_cons_zero, List.set_cons_succ]
    refine Rg.take 3 (v := .agg #[.int .i64 (r'), .int .i64 (g'), .int .i64 (b'), .int .i64 (a')]) rfl rfl (by kernel_rfl) (by kernel_rfl) (by kernel_rfl) (by kernel_rfl) (by kernel_rfl) (.inl ⟨rfl, fun bs wq hI => ?_⟩) ?_
    · exact quiet_ldr ty_color (.tmp 5) rfl rfl rfl (Ow.mem hI (List.mem_append_right _ HY.out))
    simp only [Act.put, List.getElem_toArray, List.getElem_cons_zero, List.getElem_cons_succ, List.setIfInBounds_toArray, List.set_cons_zero, List.set_cons_succ]
    refine Rg.take 4 (v := .agg #[.int .i64 (Bn.fac s r r' a a'), .int .i64 (Bn.fac s g g' a a'), .int .i64 (Bn.fac s b b' a a'), .int .i64 (Bn.fac s a a' a a')]) rfl rfl (by kernel_rfl) (by kernel_rfl) (by kernel_rfl) (by kernel_rfl) (by kernel_rfl) (.inl ⟨rfl, fun bs wq hI => ?_⟩) ?_
    · (go_simp; exact (said_any s r g b a r' g' b' a' _ HS.out.1 h h').mono fun e w2 h => ⟨h.1, hI.call h.2⟩)
    simp only [Act.put, List.getElem_toArray, List.getElem_cons_zero, List.getElem_cons_succ, List.setIfInBounds_toArray, List.set_cons_zero, List.set_cons_succ]
    refine Rg.take 5 (v := .pointer (some ⟨w.heap.size, 1, none⟩)) rfl rfl (by kernel_rfl) (by kernel_rfl) (by kernel_rfl) (by kernel_rfl) (by kernel_rfl) (.inl ⟨rfl, fun bs wq hI => ?_⟩) ?_
    · go_simp
    simp only [Act.put, List.getElem_toArray, List.getElem_cons_zero, List.getElem_cons_succ, List.setIfInBounds_toArray, List.set_cons_zero, List.set_cons_succ]
    refine Rg.take 6 (v := .int .i64 d) rfl rfl (by kernel_rfl) (by kernel_rfl) (by kernel_rfl) (by kernel_rfl) (by kernel_rfl) (.inl ⟨rfl, fun bs wq hI => ?_⟩) ?_
    · (have c := (Ow.mem hI (List.mem_append_right _ HB.out)).cell 1 rfl; go_simp)
    simp only [Act.put, List.getElem_toArray, List.getElem_cons_zero, List.getElem_cons_succ, List.setIfInBounds_toArray, List.set_cons_zero, List.set_cons_succ]
    refine Rg.take 7 (v := .agg #[.int .i64 r, .int .i64 g, .int .i64 b, .int .i64 a]) rfl rfl (by kernel_rfl) (by kernel_rfl) (by kernel_rfl) (by kernel_rfl) (by kernel_rfl) (.inl ⟨rfl, fun bs wq hI => ?_⟩) ?_
    · exact quiet_ldr ty_color (.tmp 4) rfl rfl rfl (Ow.mem hI (List.mem_append_right _ HX.out))
    simp only [Act.put, List.getElem_toArray, List.getElem_cons_zero, List.getElem_cons_succ, List.setIfInBounds_toArray, List.set_cons_zero, List.set_cons_succ]
    refine Rg.take 8 (v := .agg #[.int .i64 (r'), .int .i64 (g'), .int .i64 (b'), .int .i64 (a')]) rfl rfl (by kernel_rfl) (by kernel_rfl) (by kernel_rfl) (by kernel_rfl) (by kernel_rfl) (.inl ⟨rfl, fun bs wq hI => ?_⟩) ?_
    · exact quiet_ldr ty_color (.tmp 5) rfl rfl rfl (Ow.mem hI (List.mem_append_right _ HY.out))
    simp only [Act.put, List.getElem_toArray, List.getElem_cons_zero, List.getElem_cons_succ, List.setIfInBounds_toArray, List.set_cons_zero, List.set_cons_succ]
    refine Rg.take 9 (v := .agg #[.int .i64 (Bn.fac d r r' a a'), .int .i64 (Bn.fac d g g' a a'), .int .i64 (Bn.fac d b b' a a'), .int .i64 (Bn.fac d a a' a a')]) rfl rfl (by kernel_rfl) (by kernel_rfl) (by kernel_rfl) (by kernel_rfl) (by kernel_rfl) (.inl ⟨rfl, fun bs wq hI => ?_⟩) ?_
    · (go_simp; exact (said_any d r g b a r' g' b' a' _ HS.out.2.1 h h').mono fun e w2 h => ⟨h.1, hI.call h.2⟩)
    simp only [Act.put, List.getElem_toArray, List.getElem_cons_zero, List.getElem_cons_succ, List.setIfInBounds_toArray, List.set_cons_zero, List.set_cons_succ]
    refine Rg.made (rs := [10, 11]) (by kernel_rfl) (by simp) (fun i hi => ?_)
    simp only [List.mem_cons, List.not_mem_nil, or_false] at hi
    rcases hi with rfl | rfl
    · refine Rg.up_made rfl rfl (fun a => ⟨rfl, makes_color a _ rfl⟩) (fun b1 _ => ?_)
      simp only [Act.put, List.getElem_toArray, List.getElem_cons_zero, List.getElem_cons_succ, List.setIfInBounds_toArray, List.set_cons_zero, List.set_cons_succ]
      refine Rg.made (rs := [11]) (by kernel_rfl) (by simp) (fun i hi => ?_)
      simp only [List.mem_cons, List.not_mem_nil, or_false] at hi
      subst hi
      refine Rg.up_made rfl rfl (fun a => ⟨rfl, makes_color a _ rfl⟩) (fun b2 _ => ?_)
      simp only [Act.put, List.getElem_toArray, List.getElem_cons_zero, List.getElem_cons_succ, List.setIfInBounds_toArray, List.set_cons_zero, List.set_cons_succ]
      refine Rg.done (rs := [12]) (by kernel_rfl) (by decide) (fun W hI => ?_)
      refine wpAny_sto ty_color 12 (by kernel_rfl) rfl hI 1 (Fc s r g b a r' g' b' a') rfl _ _ rfl _ rfl rfl _ rfl rfl rfl rfl ?_
      intro W1 hI1
      simp only [Act.put, List.getElem_toArray, List.getElem_cons_zero, List.getElem_cons_succ, List.setIfInBounds_toArray, List.set_cons_zero, List.set_cons_succ]
      refine wpAny_sto ty_color 13 (by kernel_rfl) rfl hI1 0 (Fc d r g b a r' g' b' a') rfl _ _ rfl _ rfl rfl _ rfl rfl rfl rfl ?_
      intro W2 hI2
      simp only [Act.put, List.getElem_toArray, List.getElem_cons_zero, List.getElem_cons_succ, List.setIfInBounds_toArray, List.set_cons_zero, List.set_cons_succ]
      have HI2 := Lib.hid hI2
      clear hI hI1 hI2
      refine wpAny_done (by kernel_rfl) ?_ _
      go_wp2_with fail
      go_meet
      exact ⟨_, _, rfl, rfl, Ow.swap HI2.out⟩
    · refine Rg.up_made rfl rfl (fun a => ⟨rfl, makes_color a _ rfl⟩) (fun b1 _ => ?_)
      simp only [Act.put, List.getElem_toArray, List.getElem_cons_zero, List.getElem_cons_succ, List.setIfInBounds_toArray, List.set_cons_zero, List.set_cons_succ]
      refine Rg.made (rs := [10]) (by kernel_rfl) (by simp) (fun i hi => ?_)
      simp only [List.mem_cons, List.not_mem_nil, or_false] at hi
      subst hi
      refine Rg.up_made rfl rfl (fun a => ⟨rfl, makes_color a _ rfl⟩) (fun b2 _ => ?_)
      simp only [Act.put, List.getElem_toArray, List.getElem_cons_zero, List.getElem_cons_succ, List.setIfInBounds_toArray, List.set_cons_zero, List.set_cons_succ]
      refine Rg.done (rs := [12]) (by kernel_rfl) (by decide) (fun W hI => ?_)
      refine wpAny_sto ty_color 12 (by kernel_rfl) rfl hI 0 (Fc s r g b a r' g' b' a') rfl _ _ rfl _ rfl rfl _ rfl rfl rfl rfl ?_
      intro W1 hI1
      simp only [Act.put, List.getElem_toArray, List.getElem_cons_zero, List.getElem_cons_succ, List.setIfInBounds_toArray, List.set_cons_zero, List.set_cons_succ]
      refine wpAny_sto ty_color 13 (by kernel_rfl) rfl hI1 1 (Fc d r g b a r' g' b' a') rfl _ _ rfl _ rfl rfl _ rfl rfl rfl rfl ?_
      intro W2 hI2
      simp only [Act.put, List.getElem_toArray, List.getElem_cons_zero, List.getElem_cons_succ, List.setIfInBounds_toArray, List.set_cons_zero, List.set_cons_succ]
      have HI2 := Lib.hid hI2
      clear hI hI1 hI2
      refine wpAny_done (by kernel_rfl) ?_ _
      go_wp2_with fail
      go_meet
      exact ⟨_, _, rfl, rfl, HI2.out⟩
  case rest =>
    obtain ⟨p, n, rfl, rfl, ho⟩ := hcut
    clear HO
    have HO := Lib.hid ho
    clear ho
    have c2 := (HO.out.at 5 rfl).cell 2 rfl
    go_upto_region 8 with (first | go_skip | (go_at_call 109; refine (show Calls Tryz.prog 109 #[.int .i64 q] _ _ from HQ.out ▸ equation_least _).mono ?_; rintro e w1 ⟨rfl, hk⟩; have l2 := HO.out.call hk; clear HO hk; have HO := Lib.hid l2; clear l2))
    have HH := Lib.hid (Tn.chs2 h h')
    have HG := Lib.hid (Bn.facs h h')
    go_cut [12] (fun s12 wx => ∃ t : Nat, s12 = .pointer (some ⟨t, 0, none⟩) ∧ Ow w wx ((t, Mc s d q r g b a r' g' b' a') :: ((p, Fc s r g b a r' g' b' a') :: (n, Fc d r g b a r' g' b' a') :: Xb w s d q m r g b a r' g' b' a')))
    case first =>
      have ho : Ow w _ (((p, Fc s r g b a r' g' b' a') :: (n, Fc d r g b a r' g' b' a') :: Xb w s d q m r g b a r' g' b' a')) := HO.out
      clear HO
      obtain ⟨ms, hms⟩ : ∃ ms, ms = ((p, Fc s r g b a r' g' b' a') :: (n, Fc d r g b a r' g' b' a') :: Xb w s d q m r g b a r' g' b' a') := ⟨_, rfl⟩
      rw [← hms] at ho
      have HF : Hid2 (∀ x y f g : Int, (0 ≤ x ∧ x ≤ 255) → (0 ≤ y ∧ y ≤ 255) → (0 ≤ f ∧ f ≤ 255) → (0 ≤ g ∧ g ≤ 255) → ∀ bs W, Mk w [.int .i64 0, .int .i64 0, .int .i64 0, .int .i64 0] ms bs W → Calls Tryz.prog 130 #[.agg #[.int .i64 x, .int .i64 y], .agg #[.int .i64 f, .int .i64 g]] W fun e w' => e = .returned (.int .i64 (Bn.eqn q x y f g)) ∧ Kp W.heap.size W w') := ⟨by
        intro x y f g hx hy hf hg bs W hI
        rw [show Bn.eqn q x y f g = Tn.low x y by rw [HQ.out]; simp [Bn.eqn]]; exact least_any x y f g W⟩
      have HX2 := Lib.hid (show (w.heap.size + 1, [.int .i64 r, .int .i64 g, .int .i64 b, .int .i64 a]) ∈ ms by rw [hms]; simp [Xb])
      have HY2 := Lib.hid (show (w.heap.size + 2, [.int .i64 r', .int .i64 g', .int .i64 b', .int .i64 a']) ∈ ms by rw [hms]; simp [Xb])
      have HP := Lib.hid (show (p, Fc s r g b a r' g' b' a') ∈ ms by rw [hms]; simp)
      have HN := Lib.hid (show (n, Fc d r g b a r' g' b' a') ∈ ms by rw [hms]; simp)
      clear HX HY HB
      have HX := HX2
      have HY := HY2
      clear HX2 HY2
      have HM := Lib.hid hms
      clear hms
      refine Rg.region (I := Mk w [.int .i64 0, .int .i64 0, .int .i64 0, .int .i64 0] ms) (dem := fun i => decide (49 ≤ i)) (m := 50) (g := 1) (T := fun listed bs st => ∀ W, Mk w [.int .i64 0, .int .i64 0, .int .i64 0, .int .i64 0] ms bs W → wpAny Tryz.prog .any _ _ 1 listed st W) (by kernel_rfl) ho.drew rfl (fun _ _ _ _ h hI => h _ hI) ?_
      clear ho
      refine Rg.take 0 (v := .func (Fn.func 130) #[] #[]) rfl rfl (by kernel_rfl) (by kernel_rfl) (by kernel_rfl) (by kernel_rfl) (by kernel_rfl) (.inl ⟨rfl, fun bs wq hI => ?_⟩) ?_
      · go_simp
      simp only [Act.put, List.getElem_toArray, List.getElem_cons_zero, List.getElem_cons_succ, List.setIfInBounds_toArray, List.set_cons_zero, List.set_cons_succ]
      refine Rg.take 1 (v := .pointer (some ⟨w.heap.size + 1, 0, none⟩)) rfl rfl (by kernel_rfl) (by kernel_rfl) (by kernel_rfl) (by kernel_rfl) (by kernel_rfl) (.inl ⟨rfl, fun bs wq hI => ?_⟩) ?_
      · go_simp
      simp only [Act.put, List.getElem_toArray, List.getElem_cons_zero, List.getElem_cons_succ, List.setIfInBounds_toArray, List.set_cons_zero, List.set_cons_succ]
      refine Rg.take 2 (v := .int .i64 r) rfl rfl (by kernel_rfl) (by kernel_rfl) (by kernel_rfl) (by kernel_rfl) (by kernel_rfl) (.inl ⟨rfl, fun bs wq hI => ?_⟩) ?_
      · (have c := (Ow.mem hI (List.mem_append_right _ HX.out)).cell 0 rfl; go_simp)
      simp only [Act.put, List.getElem_toArray, List.getElem_cons_zero, List.getElem_cons_succ, List.setIfInBounds_toArray, List.set_cons_zero, List.set_cons_succ]
      refine Rg.take 3 (v := .pointer (some ⟨w.heap.size + 2, 0, none⟩)) rfl rfl (by kernel_rfl) (by kernel_rfl) (by kernel_rfl) (by kernel_rfl) (by kernel_rfl) (.inl ⟨rfl, fun bs wq hI => ?_⟩) ?_
      · go_simp
      simp only [Act.put, List.getElem_toArray, List.getElem_cons_zero, List.getElem_cons_succ, List.setIfInBounds_toArray, List.set_cons_zero, List.set_cons_succ]
      refine Rg.take 4 (v := .int .i64 r') rfl rfl (by kernel_rfl) (by kernel_rfl) (by kernel_rfl) (by kernel_rfl) (by kernel_rfl) (.inl ⟨rfl, fun bs wq hI => ?_⟩) ?_
      · (have c := (Ow.mem hI (List.mem_append_right _ HY.out)).cell 0 rfl; go_simp)
      simp only [Act.put, List.getElem_toArray, List.getElem_cons_zero, List.getElem_cons_succ, List.setIfInBounds_toArray, List.set_cons_zero, List.set_cons_succ]
      refine Rg.take 5 (v := .agg #[.int .i64 r, .int .i64 (r')]) rfl rfl (by kernel_rfl) (by kernel_rfl) (by kernel_rfl) (by kernel_rfl) (by kernel_rfl) (.inl ⟨rfl, fun bs wq hI => ?_⟩) ?_
      · go_simp
      simp only [Act.put, List.getElem_toArray, List.getElem_cons_zero, List.getElem_cons_succ, List.setIfInBounds_toArray, List.set_cons_zero, List.set_cons_succ]
      refine Rg.take 6 (v := .pointer (some ⟨p, 0, none⟩)) rfl rfl (by kernel_rfl) (by kernel_rfl) (by kernel_rfl) (by kernel_rfl) (by kernel_rfl) (.inl ⟨rfl, fun bs wq hI => ?_⟩) ?_
      · go_simp
      simp only [Act.put, List.getElem_toArray, List.getElem_cons_zero, List.getElem_cons_succ, List.setIfInBounds_toArray, List.set_cons_zero, List.set_cons_succ]
      refine Rg.take 7 (v := .int .i64 (Bn.fac s r r' a a')) rfl rfl (by kernel_rfl) (by kernel_rfl) (by kernel_rfl) (by kernel_rfl) (by kernel_rfl) (.inl ⟨rfl, fun bs wq hI => ?_⟩) ?_
      · (have c := (Ow.mem hI (List.mem_append_right _ HP.out)).cell 0 rfl; go_simp)
      simp only [Act.put, List.getElem_toArray, List.getElem_cons_zero, List.getElem_cons_succ, List.setIfInBounds_toArray, List.set_cons_zero, List.set_cons_succ]
      refine Rg.take 8 (v := .pointer (some ⟨n, 0, none⟩)) rfl rfl (by kernel_rfl) (by kernel_rfl) (by kernel_rfl) (by kernel_rfl) (by kernel_rfl) (.inl ⟨rfl, fun bs wq hI => ?_⟩) ?_
      · go_simp
      simp only [Act.put, List.getElem_toArray, List.getElem_cons_zero, List.getElem_cons_succ, List.setIfInBounds_toArray, List.set_cons_zero, List.set_cons_succ]
      refine Rg.take 9 (v := .int .i64 (Bn.fac d r r' a a')) rfl rfl (by kernel_rfl) (by kernel_rfl) (by kernel_rfl) (by kernel_rfl) (by kernel_rfl) (.inl ⟨rfl, fun bs wq hI => ?_⟩) ?_
      · (have c := (Ow.mem hI (List.mem_append_right _ HN.out)).cell 0 rfl; go_simp)
      simp only [Act.put, List.getElem_toArray, List.getElem_cons_zero, List.getElem_cons_succ, List.setIfInBounds_toArray, List.set_cons_zero, List.set_cons_succ]
      refine Rg.take 10 (v := .agg #[.int .i64 (Bn.fac s r r' a a'), .int .i64 (Bn.fac d r r' a a')]) rfl rfl (by kernel_rfl) (by kernel_rfl) (by kernel_rfl) (by kernel_rfl) (by kernel_rfl) (.inl ⟨rfl, fun bs wq hI => ?_⟩) ?_
      · go_simp
      simp only [Act.put, List.getElem_toArray, List.getElem_cons_zero, List.getElem_cons_succ, List.setIfInBounds_toArray, List.set_cons_zero, List.set_cons_succ]
      refine Rg.take 11 (v := .int .i64 (Bn.mx s d q r r' a a')) rfl rfl (by kernel_rfl) (by kernel_rfl) (by kernel_rfl) (by kernel_rfl) (by kernel_rfl) (.inl ⟨rfl, fun bs wq hI => ?_⟩) ?_
      · (go_simp; exact (HF.out _ _ _ _ HH.out.1.1 HH.out.1.2 (HG.out s).1 (HG.out d).1 bs _ hI).mono fun e w2 h => ⟨h.1, hI.call h.2⟩)
      simp only [Act.put, List.getElem_toArray, List.getElem_cons_zero, List.getElem_cons_succ, List.setIfInBounds_toArray, List.set_cons_zero, List.set_cons_succ]
      refine Rg.take 12 (v := .func (Fn.func 130) #[] #[]) rfl rfl (by kernel_rfl) (by kernel_rfl) (by kernel_rfl) (by kernel_rfl) (by kernel_rfl) (.inl ⟨rfl, fun bs wq hI => ?_⟩) ?_
      · go_simp
      simp only [Act.put, List.getElem_toArray, List.getElem_cons_zero, List.getElem_cons_succ, List.setIfInBounds_toArray, List.set_cons_zero, List.set_cons_succ]
      refine Rg.take 13 (v := .pointer (some ⟨w.heap.size + 1, 1, none⟩)) rfl rfl (by kernel_rfl) (by kernel_rfl) (by kernel_rfl) (by kernel_rfl) (by kernel_rfl) (.inl ⟨rfl, fun bs wq hI => ?_⟩) ?_
      · go_simp
      simp only [Act.put, List.getElem_toArray, List.getElem_cons_zero, List.getElem_cons_succ, List.setIfInBounds_toArray, List.set_cons_zero, List.set_cons_succ]
      refine Rg.take 14 (v := .int .i64 g) rfl rfl (by kernel_rfl) (by kernel_rfl) (by kernel_rfl) (by kernel_rfl) (by kernel_rfl) (.inl ⟨rfl, fun bs wq hI => ?_⟩) ?_
      · (have c := (Ow.mem hI (List.mem_append_right _ HX.out)).cell 1 rfl; go_simp)
      simp only [Act.put, List.getElem_toArray, List.getElem_cons_zero, List.getElem_cons_succ, List.setIfInBounds_toArray, List.set_cons_zero, List.set_cons_succ]
      refine Rg.take 15 (v := .pointer (some ⟨w.heap.size + 2, 1, none⟩)) rfl rfl (by kernel_rfl) (by kernel_rfl) (by kernel_rfl) (by kernel_rfl) (by kernel_rfl) (.inl ⟨rfl, fun bs wq hI => ?_⟩) ?_
      · go_simp
      simp only [Act.put, List.getElem_toArray, List.getElem_cons_zero, List.getElem_cons_succ, List.setIfInBounds_toArray, List.set_cons_zero, List.set_cons_succ]
      refine Rg.take 16 (v := .int .i64 g') rfl rfl (by kernel_rfl) (by kernel_rfl) (by kernel_rfl) (by kernel_rfl) (by kernel_rfl) (.inl ⟨rfl, fun bs wq hI => ?_⟩) ?_
      · (have c := (Ow.mem hI (List.mem_append_right _ HY.out)).cell 1 rfl; go_simp)
      simp only [Act.put, List.getElem_toArray, List.getElem_cons_zero, List.getElem_cons_succ, List.setIfInBounds_toArray, List.set_cons_zero, List.set_cons_succ]
      refine Rg.take 17 (v := .agg #[.int .i64 g, .int .i64 (g')]) rfl rfl (by kernel_rfl) (by kernel_rfl) (by kernel_rfl) (by kernel_rfl) (by kernel_rfl) (.inl ⟨rfl, fun bs wq hI => ?_⟩) ?_
      · go_simp
      simp only [Act.put, List.getElem_toArray, List.getElem_cons_zero, List.getElem_cons_succ, List.setIfInBounds_toArray, List.set_cons_zero, List.set_cons_succ]
      refine Rg.take 18 (v := .pointer (some ⟨p, 1, none⟩)) rfl rfl (by kernel_rfl) (by kernel_rfl) (by kernel_rfl) (by kernel_rfl) (by kernel_rfl) (.inl ⟨rfl, fun bs wq hI => ?_⟩) ?_
      · go_simp
      simp only [Act.put, List.getElem_toArray, List.getElem_cons_zero, List.getElem_cons_succ, List.setIfInBounds_toArray, List.set_cons_zero, List.set_cons_succ]
      refine Rg.take 19 (v := .int .i64 (Bn.fac s g g' a a')) rfl rfl (by kernel_rfl) (by kernel_rfl) (by kernel_rfl) (by kernel_rfl) (by kernel_rfl) (.inl ⟨rfl, fun bs wq hI => ?_⟩) ?_
      · (have c := (Ow.mem hI (List.mem_append_right _ HP.out)).cell 1 rfl; go_simp)
      simp only [Act.put, List.getElem_toArray, List.getElem_cons_zero, List.getElem_cons_succ, List.setIfInBounds_toArray, List.set_cons_zero, List.set_cons_succ]
      refine Rg.take 20 (v := .pointer (some ⟨n, 1, none⟩)) rfl rfl (by kernel_rfl) (by kernel_rfl) (by kernel_rfl) (by kernel_rfl) (by kernel_rfl) (.inl ⟨rfl, fun bs wq hI => ?_⟩) ?_
      · go_simp
      simp only [Act.put, List.getElem_toArray, List.getElem_cons_zero, List.getElem_cons_succ, List.setIfInBounds_toArray, List.set_cons_zero, List.set_cons_succ]
      refine Rg.take 21 (v := .int .i64 (Bn.fac d g g' a a')) rfl rfl (by kernel_rfl) (by kernel_rfl) (by kernel_rfl) (by kernel_rfl) (by kernel_rfl) (.inl ⟨rfl, fun bs wq hI => ?_⟩) ?_
      · (have c := (Ow.mem hI (List.mem_append_right _ HN.out)).cell 1 rfl; go_simp)
      simp only [Act.put, List.getElem_toArray, List.getElem_cons_zero, List.getElem_cons_succ, List.setIfInBounds_toArray, List.set_cons_zero, List.set_cons_succ]
      refine Rg.take 22 (v := .agg #[.int .i64 (Bn.fac s g g' a a'), .int .i64 (Bn.fac d g g' a a')]) rfl rfl (by kernel_rfl) (by kernel_rfl) (by kernel_rfl) (by kernel_rfl) (by kernel_rfl) (.inl ⟨rfl, fun bs wq hI => ?_⟩) ?_
      · go_simp
      simp only [Act.put, List.getElem_toArray, List.getElem_cons_zero, List.getElem_cons_succ, List.setIfInBounds_toArray, List.set_cons_zero, List.set_cons_succ]
      refine Rg.take 23 (v := .int .i64 (Bn.mx s d q g g' a a')) rfl rfl (by kernel_rfl) (by kernel_rfl) (by kernel_rfl) (by kernel_rfl) (by kernel_rfl) (.inl ⟨rfl, fun bs wq hI => ?_⟩) ?_
      · (go_simp; exact (HF.out _ _ _ _ HH.out.2.1.1 HH.out.2.1.2 (HG.out s).2.1 (HG.out d).2.1 bs _ hI).mono fun e w2 h => ⟨h.1, hI.call h.2⟩)
      simp only [Act.put, List.getElem_toArray, List.getElem_cons_zero, List.getElem_cons_succ, List.setIfInBounds_toArray, List.set_cons_zero, List.set_cons_succ]
      refine Rg.take 24 (v := .func (Fn.func 130) #[] #[]) rfl rfl (by kernel_rfl) (by kernel_rfl) (by kernel_rfl) (by kernel_rfl) (by kernel_rfl) (.inl ⟨rfl, fun bs wq hI => ?_⟩) ?_
      · go_simp
      simp only [Act.put, List.getElem_toArray, List.getElem_cons_zero, List.getElem_cons_succ, List.setIfInBounds_toArray, List.set_cons_zero, List.set_cons_succ]
      refine Rg.take 25 (v := .pointer (some ⟨w.heap.size + 1, 2, none⟩)) rfl rfl (by kernel_rfl) (by kernel_rfl) (by kernel_rfl) (by kernel_rfl) (by kernel_rfl) (.inl ⟨rfl, fun bs wq hI => ?_⟩) ?_
      · go_simp
      simp only [Act.put, List.getElem_toArray, List.getElem_cons_zero, List.getElem_cons_succ, List.setIfInBounds_toArray, List.set_cons_zero, List.set_cons_succ]
      refine Rg.take 26 (v := .int .i64 b) rfl rfl (by kernel_rfl) (by kernel_rfl) (by kernel_rfl) (by kernel_rfl) (by kernel_rfl) (.inl ⟨rfl, fun bs wq hI => ?_⟩) ?_
      · (have c := (Ow.mem hI (List.mem_append_right _ HX.out)).cell 2 rfl; go_simp)
      simp only [Act.put, List.getElem_toArray, List.getElem_cons_zero, List.getElem_cons_succ, List.setIfInBounds_toArray, List.set_cons_zero, List.set_cons_succ]
      refine Rg.take 27 (v := .pointer (some ⟨w.heap.size + 2, 2, none⟩)) rfl rfl (by kernel_rfl) (by kernel_rfl) (by kernel_rfl) (by kernel_rfl) (by kernel_rfl) (.inl ⟨rfl, fun bs wq hI => ?_⟩) ?_
      · go_simp
      simp only [Act.put, List.getElem_toArray, List.getElem_cons_zero, List.getElem_cons_succ, List.setIfInBounds_toArray, List.set_cons_zero, List.set_cons_succ]
      refine Rg.take 28 (v := .int .i64 b') rfl rfl (by kernel_rfl) (by kernel_rfl) (by kernel_rfl) (by kernel_rfl) (by kernel_rfl) (.inl ⟨rfl, fun bs wq hI => ?_⟩) ?_
      · (have c := (Ow.mem hI (List.mem_append_right _ HY.out)).cell 2 rfl; go_simp)
      simp only [Act.put, List.getElem_toArray, List.getElem_cons_zero, List.getElem_cons_succ, List.setIfInBounds_toArray, List.set_cons_zero, List.set_cons_succ]
      refine Rg.take 29 (v := .agg #[.int .i64 b, .int .i64 (b')]) rfl rfl (by kernel_rfl) (by kernel_rfl) (by kernel_rfl) (by kernel_rfl) (by kernel_rfl) (.inl ⟨rfl, fun bs wq hI => ?_⟩) ?_
      · go_simp
      simp only [Act.put, List.getElem_toArray, List.getElem_cons_zero, List.getElem_cons_succ, List.setIfInBounds_toArray, List.set_cons_zero, List.set_cons_succ]
      refine Rg.take 30 (v := .pointer (some ⟨p, 2, none⟩)) rfl rfl (by kernel_rfl) (by kernel_rfl) (by kernel_rfl) (by kernel_rfl) (by kernel_rfl) (.inl ⟨rfl, fun bs wq hI => ?_⟩) ?_
      · go_simp
      simp only [Act.put, List.getElem_toArray, List.getElem_cons_zero, List.getElem_cons_succ, List.setIfInBounds_toArray, List.set_cons_zero, List.set_cons_succ]
      refine Rg.take 31 (v := .int .i64 (Bn.fac s b b' a a')) rfl rfl (by kernel_rfl) (by kernel_rfl) (by kernel_rfl) (by kernel_rfl) (by kernel_rfl) (.inl ⟨rfl, fun bs wq hI => ?_⟩) ?_
      · (have c := (Ow.mem hI (List.mem_append_right _ HP.out)).cell 2 rfl; go_simp)
      simp only [Act.put, List.getElem_toArray, List.getElem_cons_zero, List.getElem_cons_succ, List.setIfInBounds_toArray, List.set_cons_zero, List.set_cons_succ]
      refine Rg.take 32 (v := .pointer (some ⟨n, 2, none⟩)) rfl rfl (by kernel_rfl) (by kernel_rfl) (by kernel_rfl) (by kernel_rfl) (by kernel_rfl) (.inl ⟨rfl, fun bs wq hI => ?_⟩) ?_
      · go_simp
      simp only [Act.put, List.getElem_toArray, List.getElem_cons_zero, List.getElem_cons_succ, List.setIfInBounds_toArray, List.set_cons_zero, List.set_cons_succ]
      refine Rg.take 33 (v := .int .i64 (Bn.fac d b b' a a')) rfl rfl (by kernel_rfl) (by kernel_rfl) (by kernel_rfl) (by kernel_rfl) (by kernel_rfl) (.inl ⟨rfl, fun bs wq hI => ?_⟩) ?_
      · (have c := (Ow.mem hI (List.mem_append_right _ HN.out)).cell 2 rfl; go_simp)
      simp only [Act.put, List.getElem_toArray, List.getElem_cons_zero, List.getElem_cons_succ, List.setIfInBounds_toArray, List.set_cons_zero, List.set_cons_succ]
      refine Rg.take 34 (v := .agg #[.int .i64 (Bn.fac s b b' a a'), .int .i64 (Bn.fac d b b' a a')]) rfl rfl (by kernel_rfl) (by kernel_rfl) (by kernel_rfl) (by kernel_rfl) (by kernel_rfl) (.inl ⟨rfl, fun bs wq hI => ?_⟩) ?_
      · go_simp
      simp only [Act.put, List.getElem_toArray, List.getElem_cons_zero, List.getElem_cons_succ, List.setIfInBounds_toArray, List.set_cons_zero, List.set_cons_succ]
      refine Rg.take 35 (v := .int .i64 (Bn.mx s d q b b' a a')) rfl rfl (by kernel_rfl) (by kernel_rfl) (by kernel_rfl) (by kernel_rfl) (by kernel_rfl) (.inl ⟨rfl, fun bs wq hI => ?_⟩) ?_
      · (go_simp; exact (HF.out _ _ _ _ HH.out.2.2.1.1 HH.out.2.2.1.2 (HG.out s).2.2.1 (HG.out d).2.2.1 bs _ hI).mono fun e w2 h => ⟨h.1, hI.call h.2⟩)
      simp only [Act.put, List.getElem_toArray, List.getElem_cons_zero, List.getElem_cons_succ, List.setIfInBounds_toArray, List.set_cons_zero, List.set_cons_succ]
      refine Rg.take 36 (v := .func (Fn.func 130) #[] #[]) rfl rfl (by kernel_rfl) (by kernel_rfl) (by kernel_rfl) (by kernel_rfl) (by kernel_rfl) (.inl ⟨rfl, fun bs wq hI => ?_⟩) ?_
      · go_simp
      simp only [Act.put, List.getElem_toArray, List.getElem_cons_zero, List.getElem_cons_succ, List.setIfInBounds_toArray, List.set_cons_zero, List.set_cons_succ]
      refine Rg.take 37 (v := .pointer (some ⟨w.heap.size + 1, 3, none⟩)) rfl rfl (by kernel_rfl) (by kernel_rfl) (by kernel_rfl) (by kernel_rfl) (by kernel_rfl) (.inl ⟨rfl, fun bs wq hI => ?_⟩) ?_
      · go_simp
      simp only [Act.put, List.getElem_toArray, List.getElem_cons_zero, List.getElem_cons_succ, List.setIfInBounds_toArray, List.set_cons_zero, List.set_cons_succ]
      refine Rg.take 38 (v := .int .i64 a) rfl rfl (by kernel_rfl) (by kernel_rfl) (by kernel_rfl) (by kernel_rfl) (by kernel_rfl) (.inl ⟨rfl, fun bs wq hI => ?_⟩) ?_
      · (have c := (Ow.mem hI (List.mem_append_right _ HX.out)).cell 3 rfl; go_simp)
      simp only [Act.put, List.getElem_toArray, List.getElem_cons_zero, List.getElem_cons_succ, List.setIfInBounds_toArray, List.set_cons_zero, List.set_cons_succ]
      refine Rg.take 39 (v := .pointer (some ⟨w.heap.size + 2, 3, none⟩)) rfl rfl (by kernel_rfl) (by kernel_rfl) (by kernel_rfl) (by kernel_rfl) (by kernel_rfl) (.inl ⟨rfl, fun bs wq hI => ?_⟩) ?_
      · go_simp
      simp only [Act.put, List.getElem_toArray, List.getElem_cons_zero, List.getElem_cons_succ, List.setIfInBounds_toArray, List.set_cons_zero, List.set_cons_succ]
      refine Rg.take 40 (v := .int .i64 a') rfl rfl (by kernel_rfl) (by kernel_rfl) (by kernel_rfl) (by kernel_rfl) (by kernel_rfl) (.inl ⟨rfl, fun bs wq hI => ?_⟩) ?_
      · (have c := (Ow.mem hI (List.mem_append_right _ HY.out)).cell 3 rfl; go_simp)
      simp only [Act.put, List.getElem_toArray, List.getElem_cons_zero, List.getElem_cons_succ, List.setIfInBounds_toArray, List.set_cons_zero, List.set_cons_succ]
      refine Rg.take 41 (v := .agg #[.int .i64 a, .int .i64 (a')]) rfl rfl (by kernel_rfl) (by kernel_rfl) (by kernel_rfl) (by kernel_rfl) (by kernel_rfl) (.inl ⟨rfl, fun bs wq hI => ?_⟩) ?_
      · go_simp
      simp only [Act.put, List.getElem_toArray, List.getElem_cons_zero, List.getElem_cons_succ, List.setIfInBounds_toArray, List.set_cons_zero, List.set_cons_succ]
      refine Rg.take 42 (v := .pointer (some ⟨p, 3, none⟩)) rfl rfl (by kernel_rfl) (by kernel_rfl) (by kernel_rfl) (by kernel_rfl) (by kernel_rfl) (.inl ⟨rfl, fun bs wq hI => ?_⟩) ?_
      · go_simp
      simp only [Act.put, List.getElem_toArray, List.getElem_cons_zero, List.getElem_cons_succ, List.setIfInBounds_toArray, List.set_cons_zero, List.set_cons_succ]
      refine Rg.take 43 (v := .int .i64 (Bn.fac s a a' a a')) rfl rfl (by kernel_rfl) (by kernel_rfl) (by kernel_rfl) (by kernel_rfl) (by kernel_rfl) (.inl ⟨rfl, fun bs wq hI => ?_⟩) ?_
      · (have c := (Ow.mem hI (List.mem_append_right _ HP.out)).cell 3 rfl; go_simp)
      simp only [Act.put, List.getElem_toArray, List.getElem_cons_zero, List.getElem_cons_succ, List.setIfInBounds_toArray, List.set_cons_zero, List.set_cons_succ]
      refine Rg.take 44 (v := .pointer (some ⟨n, 3, none⟩)) rfl rfl (by kernel_rfl) (by kernel_rfl) (by kernel_rfl) (by kernel_rfl) (by kernel_rfl) (.inl ⟨rfl, fun bs wq hI => ?_⟩) ?_
      · go_simp
      simp only [Act.put, List.getElem_toArray, List.getElem_cons_zero, List.getElem_cons_succ, List.setIfInBounds_toArray, List.set_cons_zero, List.set_cons_succ]
      refine Rg.take 45 (v := .int .i64 (Bn.fac d a a' a a')) rfl rfl (by kernel_rfl) (by kernel_rfl) (by kernel_rfl) (by kernel_rfl) (by kernel_rfl) (.inl ⟨rfl, fun bs wq hI => ?_⟩) ?_
      · (have c := (Ow.mem hI (List.mem_append_right _ HN.out)).cell 3 rfl; go_simp)
      simp only [Act.put, List.getElem_toArray, List.getElem_cons_zero, List.getElem_cons_succ, List.setIfInBounds_toArray, List.set_cons_zero, List.set_cons_succ]
      refine Rg.take 46 (v := .agg #[.int .i64 (Bn.fac s a a' a a'), .int .i64 (Bn.fac d a a' a a')]) rfl rfl (by kernel_rfl) (by kernel_rfl) (by kernel_rfl) (by kernel_rfl) (by kernel_rfl) (.inl ⟨rfl, fun bs wq hI => ?_⟩) ?_
      · go_simp
      simp only [Act.put, List.getElem_toArray, List.getElem_cons_zero, List.getElem_cons_succ, List.setIfInBounds_toArray, List.set_cons_zero, List.set_cons_succ]
      refine Rg.take 47 (v := .int .i64 (Bn.mx s d q a a' a a')) rfl rfl (by kernel_rfl) (by kernel_rfl) (by kernel_rfl) (by kernel_rfl) (by kernel_rfl) (.inl ⟨rfl, fun bs wq hI => ?_⟩) ?_
      · (go_simp; exact (HF.out _ _ _ _ HH.out.2.2.2.1 HH.out.2.2.2.2 (HG.out s).2.2.2 (HG.out d).2.2.2 bs _ hI).mono fun e w2 h => ⟨h.1, hI.call h.2⟩)
      simp only [Act.put, List.getElem_toArray, List.getElem_cons_zero, List.getElem_cons_succ, List.setIfInBounds_toArray, List.set_cons_zero, List.set_cons_succ]
      refine Rg.take 48 (v := .agg #[.int .i64 (Bn.mx s d q r r' a a'), .int .i64 (Bn.mx s d q g g' a a'), .int .i64 (Bn.mx s d q b b' a a'), .int .i64 (Bn.mx s d q a a' a a')]) rfl rfl (by kernel_rfl) (by kernel_rfl) (by kernel_rfl) (by kernel_rfl) (by kernel_rfl) (.inl ⟨rfl, fun bs wq hI => ?_⟩) ?_
      · go_simp
      simp only [Act.put, List.getElem_toArray, List.getElem_cons_zero, List.getElem_cons_succ, List.setIfInBounds_toArray, List.set_cons_zero, List.set_cons_succ]
      refine Rg.made (rs := [49]) (by kernel_rfl) (by simp) (fun i hi => ?_)
      simp only [List.mem_cons, List.not_mem_nil, or_false] at hi
      subst hi
      refine Rg.up_made rfl rfl (fun a => ⟨rfl, makes_color a _ rfl⟩) (fun b1 _ => ?_)
      simp only [Act.put, List.getElem_toArray, List.getElem_cons_zero, List.getElem_cons_succ, List.setIfInBounds_toArray, List.set_cons_zero, List.set_cons_succ]
      refine Rg.done (rs := [50]) (by kernel_rfl) (by decide) (fun W hI => ?_)
      refine wpAny_sto ty_color 50 (by kernel_rfl) rfl hI 0 (Mc s d q r g b a r' g' b' a') rfl _ _ rfl _ rfl rfl _ rfl rfl rfl rfl ?_
      intro W1 hI1
      simp only [Act.put, List.getElem_toArray, List.getElem_cons_zero, List.getElem_cons_succ, List.setIfInBounds_toArray, List.set_cons_zero, List.set_cons_succ]
      have HI2 := Lib.hid hI1
      clear hI hI1
      refine wpAny_done (by kernel_rfl) ?_ _
      go_wp2_with fail
      go_meet
      exact ⟨_, rfl, HM.out ▸ HI2.out⟩
    case rest =>
      obtain ⟨t, rfl, ho⟩ := hcut
      clear HO
      have HO := Lib.hid ho
      clear ho
      have c3 := (HO.out.at 6 rfl).cell 3 rfl
      go_wp2_with (first | go_skip | ((with_reducible show wpList _ _ _ ({ dst := _, op := Op.load 51 _, type := _, pos := _, after := _, guard := _ } :: _) _ _); refine wpList_ldr ty_color rfl _ rfl _ rfl _ rfl (HO.out.at 0 rfl) ?_) | ((with_reducible show wpList _ _ _ ({ dst := _, op := Op.load 51 _, type := _, pos := _, after := _, guard := _ } :: _) _ _); refine wpList_ldr ty_color rfl _ rfl _ rfl _ rfl (HO.out.at 4 rfl) ?_) | (go_at_call 110; refine (written_any m _ _ _ _ r' g' b' a' _ HS.out.2.2.2).mono ?_; rintro e w1 ⟨rfl, hk⟩; have l2 := HO.out.call hk; clear HO hk; have HO := Lib.hid l2; clear l2) | ((with_reducible show wpList _ _ _ ({ dst := _, op := Op.store 51 _ _, type := _, pos := _, after := _, guard := _ } :: _) _ _); refine wpList_sto ty_color HO.out 3 [.int .i64 (Bn.wr m 1 (Bn.mx s d q r r' a a') r'), .int .i64 (Bn.wr m 2 (Bn.mx s d q g g' a a') g'), .int .i64 (Bn.wr m 4 (Bn.mx s d q b b' a a') b'), .int .i64 (Bn.wr m 8 (Bn.mx s d q a a' a a') a')] rfl _ _ rfl _ rfl rfl _ rfl rfl rfl rfl ?_; intro w2 l2; clear HO; have HO := Lib.hid l2; clear l2))
      exact bodyPost_ret (results_c2 ty_color rfl rfl rfl rfl (HO.out.at 3 rfl)) rfl ⟨rfl, HO.out.k⟩
end Go.Proofs.YtankjlpanmmogaaGreat
