/-
  BlendStands: its Go text returns true.
-/
import Derived.Test.YtneomplhikenfaaBlendMix
import Derived.Test.YtneomplhikenfaaRegionOw
namespace Go.Proofs.Ytneomplhikenfaa
open Go.RowKit

theorem Bn.wr_15 (x y : Int) : Bn.wr 15 1 x y = x ∧ Bn.wr 15 2 x y = x ∧ Bn.wr 15 4 x y = x ∧ Bn.wr 15 8 x y = x := by
  refine ⟨?_, ?_, ?_, ?_⟩ <;> (unfold Bn.wr; rw [if_pos (by decide)])
theorem Bn.wr_7 (x y : Int) : Bn.wr 7 1 x y = x ∧ Bn.wr 7 2 x y = x ∧ Bn.wr 7 4 x y = x ∧ Bn.wr 7 8 x y = y := by
  refine ⟨?_, ?_, ?_, ?_⟩
  · unfold Bn.wr; rw [if_pos (by decide)]
  · unfold Bn.wr; rw [if_pos (by decide)]
  · unfold Bn.wr; rw [if_pos (by decide)]
  · unfold Bn.wr; rw [if_neg (by decide)]
theorem right_a {r g b a c : Int} (h : Tn.right r g b a = true) (hc : 0 ≤ c ∧ c ≤ 255) : Tn.right r g b c = true := by
  have := Tn.right_iff.1 h
  exact Tn.right_iff.2 ⟨this.1, this.2.1, this.2.2.1, hc⟩
/-- by the plain blend what is new stands -/
theorem stand_plain (r g b a r' g' b' a' : Int) (w : World) (h : Tn.right r g b a = true) (h' : Tn.right r' g' b' a' = true) :
    Calls Try.prog 6 #[.agg #[.int .i64 1, .int .i64 0, .int .i64 0, .int .i64 15], .agg #[.int .i64 r, .int .i64 g, .int .i64 b, .int .i64 a], .agg #[.int .i64 (r'), .int .i64 (g'), .int .i64 (b'), .int .i64 (a')]] w fun e w' => e = .returned (.tuple #[.agg #[.int .i64 r, .int .i64 g, .int .i64 b, .int .i64 a], .int .i64 0]) ∧ Kp w.heap.size w w' := by
  have h1 := Tn.right_iff.1 h
  exact (mix_yes 1 0 0 15 r g b a r' g' b' a' w (by decide) h h').mono fun _ _ k => ⟨by rw [k.1, (Bn.wr_15 _ _).1, (Bn.wr_15 _ _).2.1, (Bn.wr_15 _ _).2.2.1, (Bn.wr_15 _ _).2.2.2, Bn.mx_plain h1.1, Bn.mx_plain h1.2.1, Bn.mx_plain h1.2.2.1, Bn.mx_plain h1.2.2.2], k.2⟩
/-- a colour that is all there stands -/
theorem stand_full (r g b a r' g' b' a' : Int) (w : World) (h : Tn.right r g b a = true) (h' : Tn.right r' g' b' a' = true) :
    Calls Try.prog 6 #[.agg #[.int .i64 6, .int .i64 7, .int .i64 0, .int .i64 7], .agg #[.int .i64 r, .int .i64 g, .int .i64 b, .int .i64 255], .agg #[.int .i64 (r'), .int .i64 (g'), .int .i64 (b'), .int .i64 (a')]] w fun e w' => e = .returned (.tuple #[.agg #[.int .i64 r, .int .i64 g, .int .i64 b, .int .i64 (a')], .int .i64 0]) ∧ Kp w.heap.size w w' := by
  have h1 := Tn.right_iff.1 h
  exact (mix_yes 6 7 0 7 r g b 255 r' g' b' a' w (by decide) (right_a h (by omega)) h').mono fun _ _ k => ⟨by rw [k.1, (Bn.wr_7 _ _).1, (Bn.wr_7 _ _).2.1, (Bn.wr_7 _ _).2.2.1, (Bn.wr_7 _ _).2.2.2, Bn.mx_full h1.1, Bn.mx_full h1.2.1, Bn.mx_full h1.2.2.1], k.2⟩
/-- .. one that is not there leaves what was -/
theorem stand_none (r g b a r' g' b' a' : Int) (w : World) (h : Tn.right r g b a = true) (h' : Tn.right r' g' b' a' = true) :
    Calls Try.prog 6 #[.agg #[.int .i64 6, .int .i64 7, .int .i64 0, .int .i64 7], .agg #[.int .i64 r, .int .i64 g, .int .i64 b, .int .i64 0], .agg #[.int .i64 (r'), .int .i64 (g'), .int .i64 (b'), .int .i64 (a')]] w fun e w' => e = .returned (.tuple #[.agg #[.int .i64 (r'), .int .i64 (g'), .int .i64 (b'), .int .i64 (a')], .int .i64 0]) ∧ Kp w.heap.size w w' := by
  have h1 := Tn.right_iff.1 h'
  exact (mix_yes 6 7 0 7 r g b 0 r' g' b' a' w (by decide) (right_a h (by omega)) h').mono fun _ _ k => ⟨by rw [k.1, (Bn.wr_7 _ _).1, (Bn.wr_7 _ _).2.1, (Bn.wr_7 _ _).2.2.1, (Bn.wr_7 _ _).2.2.2, Bn.mx_none h1.1, Bn.mx_none h1.2.1, Bn.mx_none h1.2.2.1], k.2⟩

set_option maxHeartbeats 1000000 in
theorem stands_no1 (r g b a r' g' b' a' : Int) (w : World) (h : Tn.right r g b a = false) :
    Calls Try.prog 5 #[.agg #[.int .i64 r, .int .i64 g, .int .i64 b, .int .i64 a], .agg #[.int .i64 (r'), .int .i64 (g'), .int .i64 (b'), .int .i64 (a')]] w fun e w' => e = .returned (.bool true) ∧ Kp w.heap.size w w' := by
  have HO := Lib.hid (((Ow.refl w).newAt w.heap.size rfl (.int .i64 r) [.int .i64 g, .int .i64 b, .int .i64 a] 25).newAt (w.heap.size + 1) (by simp) (.int .i64 r') [.int .i64 g', .int .i64 b', .int .i64 a'] 25)
  go_enter Try.func5, Try.ntmps5
  go_wp2_with (first | go_skip | ((with_reducible show wpList _ _ _ ({ dst := _, op := Op.load 25 _, type := _, pos := _, after := _, guard := _ } :: _) _ _); refine wpList_ldr ty_color rfl _ rfl _ rfl _ rfl (HO.out.at 1 rfl) ?_) | ((with_reducible show wpList _ _ _ ({ dst := _, op := Op.load 25 _, type := _, pos := _, after := _, guard := _ } :: _) _ _); refine wpList_ldr ty_color rfl _ rfl _ rfl _ rfl (HO.out.at 0 rfl) ?_) | (go_at_call 10; (first | with_reducible refine (rright_any r g b a _).mono ?_ | with_reducible refine (rright_any r' g' b' a' _).mono ?_); rintro e w1 ⟨rfl, hk⟩; have l2 := HO.out.call hk; clear HO hk; have HO := Lib.hid l2; clear l2) | (go_at_call 9; refine (awake_any _).mono ?_; rintro e w1 ⟨rfl, hk⟩; have l2 := HO.out.call hk; clear HO hk; have HO := Lib.hid l2; clear l2))
  go_ret
  exact ⟨rfl, HO.out.k⟩
set_option maxHeartbeats 1000000 in
theorem stands_no2 (r g b a r' g' b' a' : Int) (w : World) (h : Tn.right r g b a = true) (h' : Tn.right r' g' b' a' = false) :
    Calls Try.prog 5 #[.agg #[.int .i64 r, .int .i64 g, .int .i64 b, .int .i64 a], .agg #[.int .i64 (r'), .int .i64 (g'), .int .i64 (b'), .int .i64 (a')]] w fun e w' => e = .returned (.bool true) ∧ Kp w.heap.size w w' := by
  have HO := Lib.hid (((Ow.refl w).newAt w.heap.size rfl (.int .i64 r) [.int .i64 g, .int .i64 b, .int .i64 a] 25).newAt (w.heap.size + 1) (by simp) (.int .i64 r') [.int .i64 g', .int .i64 b', .int .i64 a'] 25)
  go_enter Try.func5, Try.ntmps5
  go_wp2_with (first | go_skip | ((with_reducible show wpList _ _ _ ({ dst := _, op := Op.load 25 _, type := _, pos := _, after := _, guard := _ } :: _) _ _); refine wpList_ldr ty_color rfl _ rfl _ rfl _ rfl (HO.out.at 1 rfl) ?_) | ((with_reducible show wpList _ _ _ ({ dst := _, op := Op.load 25 _, type := _, pos := _, after := _, guard := _ } :: _) _ _); refine wpList_ldr ty_color rfl _ rfl _ rfl _ rfl (HO.out.at 0 rfl) ?_) | (go_at_call 10; (first | with_reducible refine (rright_any r g b a _).mono ?_ | with_reducible refine (rright_any r' g' b' a' _).mono ?_); rintro e w1 ⟨rfl, hk⟩; have l2 := HO.out.call hk; clear HO hk; have HO := Lib.hid l2; clear l2) | (go_at_call 9; refine (awake_any _).mono ?_; rintro e w1 ⟨rfl, hk⟩; have l2 := HO.out.call hk; clear HO hk; have HO := Lib.hid l2; clear l2))
  go_ret
  exact ⟨rfl, HO.out.k⟩

/-- the blocks of BlendStands -/
def Sb (w : World) (r g b a r' g' b' a' : Int) : List (Nat × List Value) :=
  [(w.heap.size + 1, [.int .i64 r', .int .i64 g', .int .i64 b', .int .i64 a']), (w.heap.size, [.int .i64 r, .int .i64 g, .int .i64 b, .int .i64 a])]
set_option linter.unusedSimpArgs false in
set_option maxRecDepth 100000 in
set_option maxHeartbeats 8000000 in
theorem stands_yes (r g b a r' g' b' a' : Int) (w : World) (h : Tn.right r g b a = true) (h' : Tn.right r' g' b' a' = true) :
    Calls Try.prog 5 #[.agg #[.int .i64 r, .int .i64 g, .int .i64 b, .int .i64 a], .agg #[.int .i64 (r'), .int .i64 (g'), .int .i64 (b'), .int .i64 (a')]] w fun e w' => e = .returned (.bool true) ∧ Kp w.heap.size w w' := by
  have HO := Lib.hid (((Ow.refl w).newAt w.heap.size rfl (.int .i64 r) [.int .i64 g, .int .i64 b, .int .i64 a] 25).newAt (w.heap.size + 1) (by simp) (.int .i64 r') [.int .i64 g', .int .i64 b', .int .i64 a'] 25)
  have hE := run_eqC_same
  have HX := Lib.hid (show (w.heap.size, [.int .i64 r, .int .i64 g, .int .i64 b, .int .i64 a]) ∈ Sb w r g b a r' g' b' a' by simp [Sb])
  have HY := Lib.hid (show (w.heap.size + 1, [.int .i64 r', .int .i64 g', .int .i64 b', .int .i64 a']) ∈ Sb w r g b a r' g' b' a' by simp [Sb])
  go_enter Try.func5, Try.ntmps5
  go_upto_region 3 with (first | go_skip | ((with_reducible show wpList _ _ _ ({ dst := _, op := Op.load 25 _, type := _, pos := _, after := _, guard := _ } :: _) _ _); refine wpList_ldr ty_color rfl _ rfl _ rfl _ rfl (HO.out.at 1 rfl) ?_) | ((with_reducible show wpList _ _ _ ({ dst := _, op := Op.load 25 _, type := _, pos := _, after := _, guard := _ } :: _) _ _); refine wpList_ldr ty_color rfl _ rfl _ rfl _ rfl (HO.out.at 0 rfl) ?_) | (go_at_call 10; (first | with_reducible refine (rright_any r g b a _).mono ?_ | with_reducible refine (rright_any r' g' b' a' _).mono ?_); rintro e w1 ⟨rfl, hk⟩; have l2 := HO.out.call hk; clear HO hk; have HO := Lib.hid l2; clear l2) | (go_at_call 9; refine (awake_any _).mono ?_; rintro e w1 ⟨rfl, hk⟩; have l2 := HO.out.call hk; clear HO hk; have HO := Lib.hid l2; clear l2))
  go_cut [5, 6] (fun s5 s6 wx => ∃ c : Nat, s5 = .pointer (some ⟨c, 0, none⟩) ∧ s6 = .int .i64 0 ∧ Ow w wx ((c, [.int .i64 r, .int .i64 g, .int .i64 b, .int .i64 a]) :: Sb w r g b a r' g' b' a'))
  case first =>
    refine Rg2.region (σ := List (Nat × List Value)) (I := Rg2.Io w (Sb w r g b a r' g' b' a')) (mk := fun b s => (b, [.int .i64 0, .int .i64 0, .int .i64 0, .int .i64 0]) :: s) (dem := fun i => i == 7 || i == 8) (m := 10) (g := 0) (T := fun listed s st => ∀ W, Rg2.Io w (Sb w r g b a r' g' b' a') s W → wpAny Try.prog .any _ _ 0 listed st W) [] (by kernel_rfl) HO.out.drew rfl (fun _ _ _ _ h hI => h _ hI) ?_
    clear HO
    refine Rg2.take 0 (v := .agg #[.int .i64 1, .int .i64 0, .int .i64 0, .int .i64 15]) rfl rfl (by kernel_rfl) (by kernel_rfl) (by kernel_rfl) (by kernel_rfl) (by kernel_rfl) (.inl ⟨rfl, fun bs wq hI => ?_⟩) ?_
    · (go_simp; exact (plain_any _).mono fun e w2 h => ⟨h.1, hI.call h.2⟩)
    simp only [Act.put, List.getElem_toArray, List.getElem_cons_zero, List.getElem_cons_succ, List.setIfInBounds_toArray, List.set_cons_zero, List.set_cons_succ]
    refine Rg2.take 1 (v := .agg #[.int .i64 r, .int .i64 g, .int .i64 b, .int .i64 a]) rfl rfl (by kernel_rfl) (by kernel_rfl) (by kernel_rfl) (by kernel_rfl) (by kernel_rfl) (.inl ⟨rfl, fun bs wq hI => ?_⟩) ?_
    · exact quiet_ldr ty_color (.tmp 2) rfl rfl rfl (hI.rc HX.out)
    simp only [Act.put, List.getElem_toArray, List.getElem_cons_zero, List.getElem_cons_succ, List.setIfInBounds_toArray, List.set_cons_zero, List.set_cons_succ]
    refine Rg2.take 2 (v := .agg #[.int .i64 (r'), .int .i64 (g'), .int .i64 (b'), .int .i64 (a')]) rfl rfl (by kernel_rfl) (by kernel_rfl) (by kernel_rfl) (by kernel_rfl) (by kernel_rfl) (.inl ⟨rfl, fun bs wq hI => ?_⟩) ?_
    · exact quiet_ldr ty_color (.tmp 3) rfl rfl rfl (hI.rc HY.out)
    simp only [Act.put, List.getElem_toArray, List.getElem_cons_zero, List.getElem_cons_succ, List.setIfInBounds_toArray, List.set_cons_zero, List.set_cons_succ]
    refine Rg2.take 3 (v := .tuple #[.agg #[.int .i64 r, .int .i64 g, .int .i64 b, .int .i64 a], .int .i64 0]) rfl rfl (by kernel_rfl) (by kernel_rfl) (by kernel_rfl) (by kernel_rfl) (by kernel_rfl) (.inl ⟨rfl, fun bs wq hI => ?_⟩) ?_
    · (go_simp; exact (stand_plain r g b a r' g' b' a' _ h h').mono fun e w2 h => ⟨h.1, hI.call h.2⟩)
    simp only [Act.put, List.getElem_toArray, List.getElem_cons_zero, List.getElem_cons_succ, List.setIfInBounds_toArray, List.set_cons_zero, List.set_cons_succ]
    refine Rg2.take 4 (v := .tuple #[.agg #[.int .i64 r, .int .i64 g, .int .i64 b, .int .i64 a], .int .i64 0]) rfl rfl (by kernel_rfl) (by kernel_rfl) (by kernel_rfl) (by kernel_rfl) (by kernel_rfl) (.inl ⟨rfl, fun bs wq hI => ?_⟩) ?_
    · go_simp
    simp only [Act.put, List.getElem_toArray, List.getElem_cons_zero, List.getElem_cons_succ, List.setIfInBounds_toArray, List.set_cons_zero, List.set_cons_succ]
    refine Rg2.take 5 (v := .agg #[.int .i64 r, .int .i64 g, .int .i64 b, .int .i64 a]) rfl rfl (by kernel_rfl) (by kernel_rfl) (by kernel_rfl) (by kernel_rfl) (by kernel_rfl) (.inl ⟨rfl, fun bs wq hI => ?_⟩) ?_
    · go_simp
    simp only [Act.put, List.getElem_toArray, List.getElem_cons_zero, List.getElem_cons_succ, List.setIfInBounds_toArray, List.set_cons_zero, List.set_cons_succ]
    refine Rg2.take 6 (v := .int .i64 0) rfl rfl (by kernel_rfl) (by kernel_rfl) (by kernel_rfl) (by kernel_rfl) (by kernel_rfl) (.inl ⟨rfl, fun bs wq hI => ?_⟩) ?_
    · go_simp
    simp only [Act.put, List.getElem_toArray, List.getElem_cons_zero, List.getElem_cons_succ, List.setIfInBounds_toArray, List.set_cons_zero, List.set_cons_succ]
    refine Rg2.made1 7 (by kernel_rfl) rfl rfl (Rg2.makes_four (ty := 25) (fun _ => rfl) (fun a W => by simp [execOp, go_sem])) (fun c => ?_)
    simp only [Act.put, List.getElem_toArray, List.getElem_cons_zero, List.getElem_cons_succ, List.setIfInBounds_toArray, List.set_cons_zero, List.set_cons_succ]
    refine Rg2.put1 8 (by kernel_rfl) rfl rfl (Rg2.puts_row ty_color 0 [.int .i64 r, .int .i64 g, .int .i64 b, .int .i64 a] rfl _ _ rfl _ rfl rfl _ rfl rfl rfl rfl) ?_
    simp only [Act.put, List.getElem_toArray, List.getElem_cons_zero, List.getElem_cons_succ, List.setIfInBounds_toArray, List.set_cons_zero, List.set_cons_succ]
    refine Rg2.take 9 (v := .int .i64 0) rfl rfl (by kernel_rfl) (by kernel_rfl) (by kernel_rfl) (by kernel_rfl) (by kernel_rfl) (.inl ⟨rfl, fun bs wq hI => ?_⟩) ?_
    · go_simp
    simp only [Act.put, List.getElem_toArray, List.getElem_cons_zero, List.getElem_cons_succ, List.setIfInBounds_toArray, List.set_cons_zero, List.set_cons_succ]
    refine Rg2.done (rs := []) (by kernel_rfl) (by decide) (fun W hI => ?_)
    have HI := Lib.hid hI
    clear hI
    refine wpAny_done (by kernel_rfl) ?_ _
    go_wp2_with fail
    go_meet
    exact ⟨c, rfl, rfl, HI.out⟩
  case rest =>
    obtain ⟨c, rfl, rfl, ho⟩ := hcut
    clear HO
    have HO := Lib.hid (ho.newAt wc.heap.size rfl (.int .i64 6) [.int .i64 7, .int .i64 0, .int .i64 7] 23)
    clear ho
    go_upto_region 5 with fail
    generalize hW : wc.alloc _ = W at *
    generalize hB : wc.heap.size = B at *
    clear hW hB
    go_cut [8, 9] (fun s8 s9 wx => ∃ p n : Nat, s8 = .pointer (some ⟨p, 0, none⟩) ∧ s9 = .pointer (some ⟨n, 0, none⟩) ∧ Ow w wx ((p, [.int .i64 r, .int .i64 g, .int .i64 b, .int .i64 a]) :: (n, [.int .i64 r, .int .i64 g, .int .i64 b, .int .i64 a]) :: ((B, [.int .i64 6, .int .i64 7, .int .i64 0, .int .i64 7]) :: (c, [.int .i64 r, .int .i64 g, .int .i64 b, .int .i64 a]) :: Sb w r g b a r' g' b' a')))
    case first =>
      have HX2 := Lib.hid (show (w.heap.size, [.int .i64 r, .int .i64 g, .int .i64 b, .int .i64 a]) ∈ ((B, [.int .i64 6, .int .i64 7, .int .i64 0, .int .i64 7]) :: (c, [.int .i64 r, .int .i64 g, .int .i64 b, .int .i64 a]) :: Sb w r g b a r' g' b' a') by simp [Sb])
      refine Rg2.region (σ := List (Nat × List Value)) (I := Rg2.Io w ((B, [.int .i64 6, .int .i64 7, .int .i64 0, .int .i64 7]) :: (c, [.int .i64 r, .int .i64 g, .int .i64 b, .int .i64 a]) :: Sb w r g b a r' g' b' a')) (mk := fun b s => (b, [.int .i64 0, .int .i64 0, .int .i64 0, .int .i64 0]) :: s) (dem := fun i => decide (2 ≤ i)) (m := 6) (g := 0) (T := fun listed s st => ∀ W, Rg2.Io w ((B, [.int .i64 6, .int .i64 7, .int .i64 0, .int .i64 7]) :: (c, [.int .i64 r, .int .i64 g, .int .i64 b, .int .i64 a]) :: Sb w r g b a r' g' b' a') s W → wpAny Try.prog .any _ _ 0 listed st W) [] (by kernel_rfl) HO.out.drew rfl (fun _ _ _ _ h hI => h _ hI) ?_
      clear HO HX HY
      refine Rg2.take 0 (v := .agg #[.int .i64 r, .int .i64 g, .int .i64 b, .int .i64 a]) rfl rfl (by kernel_rfl) (by kernel_rfl) (by kernel_rfl) (by kernel_rfl) (by kernel_rfl) (.inl ⟨rfl, fun bs wq hI => ?_⟩) ?_
      · exact quiet_ldr ty_color (.tmp 2) rfl rfl rfl (hI.rc HX2.out)
      simp only [Act.put, List.getElem_toArray, List.getElem_cons_zero, List.getElem_cons_succ, List.setIfInBounds_toArray, List.set_cons_zero, List.set_cons_succ]
      refine Rg2.take 1 (v := .agg #[.int .i64 r, .int .i64 g, .int .i64 b, .int .i64 a]) rfl rfl (by kernel_rfl) (by kernel_rfl) (by kernel_rfl) (by kernel_rfl) (by kernel_rfl) (.inl ⟨rfl, fun bs wq hI => ?_⟩) ?_
      · exact quiet_ldr ty_color (.tmp 2) rfl rfl rfl (hI.rc HX2.out)
      simp only [Act.put, List.getElem_toArray, List.getElem_cons_zero, List.getElem_cons_succ, List.setIfInBounds_toArray, List.set_cons_zero, List.set_cons_succ]
      refine Rg2.step (rs := [2, 3]) (by kernel_rfl) (by simp) (fun i hi => ?_)
      simp only [List.mem_cons, List.not_mem_nil, or_false] at hi
      rcases hi with rfl | rfl
      · refine Rg2.up_made rfl rfl (Rg2.makes_four (ty := 25) (fun _ => rfl) (fun a W => by simp [execOp, go_sem])) (fun p => ?_)
        simp only [Act.put, List.getElem_toArray, List.getElem_cons_zero, List.getElem_cons_succ, List.setIfInBounds_toArray, List.set_cons_zero, List.set_cons_succ]
        refine Rg2.made1 3 (by kernel_rfl) rfl rfl (Rg2.makes_four (ty := 25) (fun _ => rfl) (fun a W => by simp [execOp, go_sem])) (fun n => ?_)
        simp only [Act.put, List.getElem_toArray, List.getElem_cons_zero, List.getElem_cons_succ, List.setIfInBounds_toArray, List.set_cons_zero, List.set_cons_succ]
        refine Rg2.put1 4 (by kernel_rfl) rfl rfl (Rg2.puts_row ty_color 1 [.int .i64 r, .int .i64 g, .int .i64 b, .int .i64 a] rfl _ _ rfl _ rfl rfl _ rfl rfl rfl rfl) ?_
        simp only [Act.put, List.getElem_toArray, List.getElem_cons_zero, List.getElem_cons_succ, List.setIfInBounds_toArray, List.set_cons_zero, List.set_cons_succ]
        refine Rg2.put1 5 (by kernel_rfl) rfl rfl (Rg2.puts_row ty_color 0 [.int .i64 r, .int .i64 g, .int .i64 b, .int .i64 a] rfl _ _ rfl _ rfl rfl _ rfl rfl rfl rfl) ?_
        simp only [Act.put, List.getElem_toArray, List.getElem_cons_zero, List.getElem_cons_succ, List.setIfInBounds_toArray, List.set_cons_zero, List.set_cons_succ]
        refine Rg2.done (rs := []) (by kernel_rfl) (by decide) (fun W hI => ?_)
        have HI := Lib.hid hI
        clear hI
        refine wpAny_done (by kernel_rfl) ?_ _
        go_wp2_with fail
        go_meet
        exact ⟨_, _, rfl, rfl, Ow.swap HI.out⟩
      · refine Rg2.up_made rfl rfl (Rg2.makes_four (ty := 25) (fun _ => rfl) (fun a W => by simp [execOp, go_sem])) (fun n => ?_)
        simp only [Act.put, List.getElem_toArray, List.getElem_cons_zero, List.getElem_cons_succ, List.setIfInBounds_toArray, List.set_cons_zero, List.set_cons_succ]
        refine Rg2.made1 2 (by kernel_rfl) rfl rfl (Rg2.makes_four (ty := 25) (fun _ => rfl) (fun a W => by simp [execOp, go_sem])) (fun p => ?_)
        simp only [Act.put, List.getElem_toArray, List.getElem_cons_zero, List.getElem_cons_succ, List.setIfInBounds_toArray, List.set_cons_zero, List.set_cons_succ]
        refine Rg2.put1 4 (by kernel_rfl) rfl rfl (Rg2.puts_row ty_color 0 [.int .i64 r, .int .i64 g, .int .i64 b, .int .i64 a] rfl _ _ rfl _ rfl rfl _ rfl rfl rfl rfl) ?_
        simp only [Act.put, List.getElem_toArray, List.getElem_cons_zero, List.getElem_cons_succ, List.setIfInBounds_toArray, List.set_cons_zero, List.set_cons_succ]
        refine Rg2.put1 5 (by kernel_rfl) rfl rfl (Rg2.puts_row ty_color 1 [.int .i64 r, .int .i64 g, .int .i64 b, .int .i64 a] rfl _ _ rfl _ rfl rfl _ rfl rfl rfl rfl) ?_
        simp only [Act.put, List.getElem_toArray, List.getElem_cons_zero, List.getElem_cons_succ, List.setIfInBounds_toArray, List.set_cons_zero, List.set_cons_succ]
        refine Rg2.done (rs := []) (by kernel_rfl) (by decide) (fun W hI => ?_)
        have HI := Lib.hid hI
        clear hI
        refine wpAny_done (by kernel_rfl) ?_ _
        go_wp2_with fail
        go_meet
        exact ⟨_, _, rfl, rfl, HI.out⟩
    case rest =>
      obtain ⟨p, n, rfl, rfl, ho⟩ := hcut
      clear HO HX HY
      have HO := Lib.hid ho
      clear ho
      have e3 := (HO.out.at 0 rfl).cell 3 rfl
      have f3 := (HO.out.at 0 rfl).froz 3 (by simp)
      go_upto_region 7 with fail
      have l2 := HO.out.put1 0 rfl 3 (by simp) (.int .i64 255)
      clear HO e3 f3
      have HO := Lib.hid l2
      clear l2
      generalize hW : wc.setCell _ _ = W1 at *
      clear hW
      have e3 := (HO.out.at 1 rfl).cell 3 rfl
      have f3 := (HO.out.at 1 rfl).froz 3 (by simp)
      go_upto_region 8 with fail
      have l2 := HO.out.put1 1 rfl 3 (by simp) (.int .i64 0)
      clear HO e3 f3
      have HO := Lib.hid l2
      clear l2
      generalize hW : W1.setCell _ _ = W2 at *
      clear hW
      go_upto_region 9 with (first | ((with_reducible show wpList _ _ _ ({ dst := _, op := Op.load 23 _, type := _, pos := _, after := _, guard := _ } :: _) _ _); refine wpList_ldr ty_blend rfl _ rfl _ rfl _ rfl (HO.out.at 2 rfl) ?_) | ((with_reducible show wpList _ _ _ ({ dst := _, op := Op.load 25 _, type := _, pos := _, after := _, guard := _ } :: _) _ _); refine wpList_ldr ty_color rfl _ rfl _ rfl _ rfl (HO.out.at 0 rfl) ?_) | ((with_reducible show wpList _ _ _ ({ dst := _, op := Op.load 25 _, type := _, pos := _, after := _, guard := _ } :: _) _ _); refine wpList_ldr ty_color rfl _ rfl _ rfl _ rfl (HO.out.at 4 rfl) ?_) | (go_at_call 6; refine (stand_full r g b a r' g' b' a' _ h h').mono ?_; rintro e w6 ⟨rfl, hk⟩; have l2 := (HO.out.call hk).newAt w6.heap.size rfl (.int .i64 r) [.int .i64 g, .int .i64 b, .int .i64 a'] 25; clear HO hk; have HO := Lib.hid l2; clear l2))
      generalize hW : w6.alloc _ = W3 at *
      generalize hB : w6.heap.size = D at *
      clear hW hB
      go_upto_region 10 with (first | ((with_reducible show wpList _ _ _ ({ dst := _, op := Op.load 23 _, type := _, pos := _, after := _, guard := _ } :: _) _ _); refine wpList_ldr ty_blend rfl _ rfl _ rfl _ rfl (HO.out.at 3 rfl) ?_) | ((with_reducible show wpList _ _ _ ({ dst := _, op := Op.load 25 _, type := _, pos := _, after := _, guard := _ } :: _) _ _); refine wpList_ldr ty_color rfl _ rfl _ rfl _ rfl (HO.out.at 2 rfl) ?_) | ((with_reducible show wpList _ _ _ ({ dst := _, op := Op.load 25 _, type := _, pos := _, after := _, guard := _ } :: _) _ _); refine wpList_ldr ty_color rfl _ rfl _ rfl _ rfl (HO.out.at 5 rfl) ?_) | (go_at_call 6; refine (stand_none r g b a r' g' b' a' _ h h').mono ?_; rintro e w7 ⟨rfl, hk⟩; have l2 := (HO.out.call hk).newAt w7.heap.size rfl (.int .i64 r') [.int .i64 g', .int .i64 b', .int .i64 a'] 25; clear HO hk; have HO := Lib.hid l2; clear l2))
      generalize hW : w7.alloc _ = W4 at *
      generalize hB : w7.heap.size = E at *
      clear hW hB
      have c0 := (HO.out.at 7 rfl).cell 0 rfl
      have c1 := (HO.out.at 7 rfl).cell 1 rfl
      have c2 := (HO.out.at 7 rfl).cell 2 rfl
      have c3 := (HO.out.at 6 rfl).cell 3 rfl
      go_wp2_with (first | go_skip | ((with_reducible show wpList _ _ _ ({ dst := _, op := Op.load 25 _, type := _, pos := _, after := _, guard := _ } :: _) _ _); refine wpList_ldr ty_color rfl _ rfl _ rfl _ rfl (HO.out.at 5 rfl) ?_) | ((with_reducible show wpList _ _ _ ({ dst := _, op := Op.load 25 _, type := _, pos := _, after := _, guard := _ } :: _) _ _); refine wpList_ldr ty_color rfl _ rfl _ rfl _ rfl (HO.out.at 7 rfl) ?_) | ((with_reducible show wpList _ _ _ ({ dst := _, op := Op.load 25 _, type := _, pos := _, after := _, guard := _ } :: _) _ _); refine wpList_ldr ty_color rfl _ rfl _ rfl _ rfl (HO.out.at 1 rfl) ?_) | ((with_reducible show wpList _ _ _ ({ dst := _, op := Op.load 25 _, type := _, pos := _, after := _, guard := _ } :: _) _ _); refine wpList_ldr ty_color rfl _ rfl _ rfl _ rfl (HO.out.at 0 rfl) ?_) | ((with_reducible show wpList _ _ _ ({ dst := _, op := Op.load 25 _, type := _, pos := _, after := _, guard := _ } :: _) _ _); refine wpList_ldr ty_color rfl _ rfl _ rfl _ rfl (HO.out.at 6 rfl) ?_) | (go_at_call 9; refine (awake_any _).mono ?_; rintro e w1 ⟨rfl, hk⟩; have l2 := HO.out.call hk; clear HO hk; have HO := Lib.hid l2; clear l2))
      go_ret
      exact ⟨rfl, HO.out.k⟩

theorem stands_walk (r g b a r' g' b' a' : Int) (w : World) :
    Calls Try.prog 5 #[.agg #[.int .i64 r, .int .i64 g, .int .i64 b, .int .i64 a], .agg #[.int .i64 (r'), .int .i64 (g'), .int .i64 (b'), .int .i64 (a')]] w fun e w' => e = .returned (.bool true) ∧ Kp w.heap.size w w' := by
  cases h : Tn.right r g b a
  · exact stands_no1 r g b a r' g' b' a' w h
  · cases h' : Tn.right r' g' b' a'
    · exact stands_no2 r g b a r' g' b' a' w h h'
    · exact stands_yes r g b a r' g' b' a' w h h'
end Go.Proofs.Ytneomplhikenfaa
