/-
  Contract of layer 15 (clip): the cut of two corners.
-/
import Derived.Test.YtfhlnldiljldcaaClipSmall
import Derived.Test.YtfhlnldiljldcaaClipRefCut
import Derived.Test.YtfhlnldiljldcaaMem3
import Derived.BigGuard
namespace Go.Proofs.Ytfhlnldiljldcaa
open Go.RowKit

/-- one operation, alone, in a region that draws its order -/
theorem wpAny_one {ops : Array Oper} {listed : Array Bool} {fuel : Nat} {op : Oper} {a : Act} {w : World} {Q : Exit → Act → World → Prop} (z : Nat) (hr : Region.ready .any ops listed = [z]) (hz : ops[z]? = some op)
    (hgd : Region.wanted op (yielded ops a.tmps) = true) (h : ∀ K : Act → World → Prop, (∀ a' w', wpAny Try.prog .any ops Q fuel (listed.setIfInBounds z true) a' w' → K a' w') → op.wp Try.prog a w K Q) : wpAny Try.prog .any ops Q (fuel + 1) listed a w := by
  refine wpAny_ready hr (by simp) (AllReady.cons hz (fun K hK => ?_) AllReady.nil)
  rw [if_pos hgd]
  exact h K hK
theorem Cl.meet_rest (k : Nat) (c : Cn) {i : Nat} (h : 4 ≤ i) : Cl.meet k c i = c i := by
  unfold Cl.meet
  split <;> exact Cl.set_other _ _ (by omega)
theorem Cl.part_four (q : Cn) : Cl.cs (Cl.part q 4) = [.int .i64 (q 0), .int .i64 (q 1), .int .i64 (q 2), .int .i64 (q 3), .int .i64 0, .int .i64 0, .int .i64 0, .int .i64 0, .int .i64 0, .int .i64 0] := rfl
set_option linter.unusedSimpArgs false in
set_option maxRecDepth 100000 in
set_option maxHeartbeats 8000000 in
theorem cutc_any (k : Nat) (a b : Cn) (w : World) (hk : k < 7) (ha : Cl.May a) (hb : Cl.May b) (h0 : 0 ≤ Cl.far k a) (h1 : Cl.far k b < 0) :
    Calls Try.prog 22 #[.int .i64 k, .agg #[.int .i64 (a 0), .int .i64 (a 1), .int .i64 (a 2), .int .i64 (a 3), .int .i64 (a 4), .int .i64 (a 5), .int .i64 (a 6), .int .i64 (a 7), .int .i64 (a 8), .int .i64 (a 9)], .agg #[.int .i64 (b 0), .int .i64 (b 1), .int .i64 (b 2), .int .i64 (b 3), .int .i64 (b 4), .int .i64 (b 5), .int .i64 (b 6), .int .i64 (b 7), .int .i64 (b 8), .int .i64 (b 9)]] w fun en w' => en = .returned (.agg #[.int .i64 ((Cl.cut k a b) 0), .int .i64 ((Cl.cut k a b) 1), .int .i64 ((Cl.cut k a b) 2), .int .i64 ((Cl.cut k a b) 3), .int .i64 ((Cl.cut k a b) 4), .int .i64 ((Cl.cut k a b) 5), .int .i64 ((Cl.cut k a b) 6), .int .i64 ((Cl.cut k a b) 7), .int .i64 ((Cl.cut k a b) 8), .int .i64 ((Cl.cut k a b) 9)]) ∧ Kp w.heap.size w w' := by
  have D1 := fun W => far_any k a W hk ha.1
  have D2 := fun W => far_any k b W hk hb.1
  have WT : Hid (∀ i, i < 10 → ∀ (bp bq : Nat) (W : World), Rc W bp [.int .i64 (Cl.far k a)] → Rc W bq [.int .i64 (Cl.far k b)] → Calls Try.prog 33 #[.int .i64 (a i), .int .i64 (b i), .pointer (some ⟨bp, 0, none⟩), .pointer (some ⟨bq, 0, none⟩)] W fun en w' => en = .returned (.int .i64 (Cl.mid k a b i)) ∧ Kp W.heap.size W w') := Lib.hid fun i hi bp bq W hP hQ => by
    have q1 := Cl.far_bd (k := k) ha
    have q2 := Cl.far_bd (k := k) hb
    have q3 := Cl.mid_bd ha hb h0 h1 i hi
    exact went_any (a i) (b i) _ _ bp bq W hP hQ ⟨h0, q1.2⟩ ⟨h1, q2.1⟩ q3.1 q3.2
  have ME := fun W => met_any k (Cl.mid k a b) W hk ((Cl.mid_may ha hb h0 h1).1 3 (by omega))
  rw [show Cl.meet k (Cl.mid k a b) = Cl.cut k a b from rfl] at ME
  have HX : Hid (∀ i, 4 ≤ i → Cl.mid k a b i = Cl.cut k a b i) := Lib.hid fun i hi => (Cl.meet_rest k (Cl.mid k a b) hi).symm
  generalize Cl.cut k a b = q at *
  generalize Cl.mid k a b = m at *
  generalize Cl.far k a = d at *
  generalize Cl.far k b = e at *
  clear ha hb h0 h1
  have HO : Hid (Ow w _ [(w.heap.size + 2, Cl.cs Cl.zero), (w.heap.size + 1, Cl.cs b), (w.heap.size, Cl.cs a)]) := Lib.hid (((Ow.refl w).newAt w.heap.size rfl (.int .i64 (a 0)) [.int .i64 (a 1), .int .i64 (a 2), .int .i64 (a 3), .int .i64 (a 4), .int .i64 (a 5), .int .i64 (a 6), .int .i64 (a 7), .int .i64 (a 8), .int .i64 (a 9)] 26).newAt (w.heap.size + 1) (by simp) (.int .i64 (b 0)) [.int .i64 (b 1), .int .i64 (b 2), .int .i64 (b 3), .int .i64 (b 4), .int .i64 (b 5), .int .i64 (b 6), .int .i64 (b 7), .int .i64 (b 8), .int .i64 (b 9)] 26 |>.newAt (w.heap.size + 2) (by simp) (.int .i64 0) [.int .i64 0, .int .i64 0, .int .i64 0, .int .i64 0, .int .i64 0, .int .i64 0, .int .i64 0, .int .i64 0, .int .i64 0] 26)
  go_enter Try.func22, Try.ntmps22
  go_upto_region 1 with fail
  refine Rg.region (I := fun _ W => Ow w W [(w.heap.size + 2, Cl.cs Cl.zero), (w.heap.size + 1, Cl.cs b), (w.heap.size, Cl.cs a)]) (dem := fun _ => false) (m := 8) (g := 2) (T := fun listed bs st => ∀ W, Ow w W [(w.heap.size + 2, Cl.cs Cl.zero), (w.heap.size + 1, Cl.cs b), (w.heap.size, Cl.cs a)] → wpAny Try.prog .any _ _ 2 listed st W) (by kernel_rfl) HO.out.drew rfl (fun _ _ _ _ h hI => h _ hI) ?_
  clear HO
  refine Rg.take 0 (v := .int .i64 k) rfl rfl (by kernel_rfl) (by kernel_rfl) (by kernel_rfl) (by kernel_rfl) (by kernel_rfl) (.inl ⟨rfl, fun bs wq hI => ?_⟩) ?_
  · go_simp
  simp only [Act.put, List.getElem_toArray, List.getElem_cons_zero, List.getElem_cons_succ, List.setIfInBounds_toArray, List.set_cons_zero, List.set_cons_succ]
  refine Rg.take 1 (v := .pointer (some ⟨w.heap.size, 0, none⟩)) rfl rfl (by kernel_rfl) (by kernel_rfl) (by kernel_rfl) (by kernel_rfl) (by kernel_rfl) (.inl ⟨rfl, fun bs wq hI => ?_⟩) ?_
  · go_simp
  simp only [Act.put, List.getElem_toArray, List.getElem_cons_zero, List.getElem_cons_succ, List.setIfInBounds_toArray, List.set_cons_zero, List.set_cons_succ]
  refine Rg.take 2 (v := .agg #[.int .i64 (a 0), .int .i64 (a 1), .int .i64 (a 2), .int .i64 (a 3)]) rfl rfl (by kernel_rfl) (by kernel_rfl) (by kernel_rfl) (by kernel_rfl) (by kernel_rfl) (.inl ⟨rfl, fun bs wq hI => ?_⟩) ?_
  · exact quiet_ldm ty_vec (.tmp 13) rfl rfl rfl (Rc.vec (c := a) (hI.at 2 rfl))
  simp only [Act.put, List.getElem_toArray, List.getElem_cons_zero, List.getElem_cons_succ, List.setIfInBounds_toArray, List.set_cons_zero, List.set_cons_succ]
  refine Rg.take 3 (v := .int .i64 d) rfl rfl (by kernel_rfl) (by kernel_rfl) (by kernel_rfl) (by kernel_rfl) (by kernel_rfl) (.inl ⟨rfl, fun bs wq hI => ?_⟩) ?_
  · (go_simp; exact (D1 _).mono fun e w2 h => ⟨h.1, hI.call h.2⟩)
  simp only [Act.put, List.getElem_toArray, List.getElem_cons_zero, List.getElem_cons_succ, List.setIfInBounds_toArray, List.set_cons_zero, List.set_cons_succ]
  refine Rg.take 4 (v := .int .i64 k) rfl rfl (by kernel_rfl) (by kernel_rfl) (by kernel_rfl) (by kernel_rfl) (by kernel_rfl) (.inl ⟨rfl, fun bs wq hI => ?_⟩) ?_
  · go_simp
  simp only [Act.put, List.getElem_toArray, List.getElem_cons_zero, List.getElem_cons_succ, List.setIfInBounds_toArray, List.set_cons_zero, List.set_cons_succ]
  refine Rg.take 5 (v := .pointer (some ⟨w.heap.size + 1, 0, none⟩)) rfl rfl (by kernel_rfl) (by kernel_rfl) (by kernel_rfl) (by kernel_rfl) (by kernel_rfl) (.inl ⟨rfl, fun bs wq hI => ?_⟩) ?_
  · go_simp
  simp only [Act.put, List.getElem_toArray, List.getElem_cons_zero, List.getElem_cons_succ, List.setIfInBounds_toArray, List.set_cons_zero, List.set_cons_succ]
  refine Rg.take 6 (v := .agg #[.int .i64 (b 0), .int .i64 (b 1), .int .i64 (b 2), .int .i64 (b 3)]) rfl rfl (by kernel_rfl) (by kernel_rfl) (by kernel_rfl) (by kernel_rfl) (by kernel_rfl) (.inl ⟨rfl, fun bs wq hI => ?_⟩) ?_
  · exact quiet_ldm ty_vec (.tmp 17) rfl rfl rfl (Rc.vec (c := b) (hI.at 1 rfl))
  simp only [Act.put, List.getElem_toArray, List.getElem_cons_zero, List.getElem_cons_succ, List.setIfInBounds_toArray, List.set_cons_zero, List.set_cons_succ]
  refine Rg.take 7 (v := .int .i64 e) rfl rfl (by kernel_rfl) (by kernel_rfl) (by kernel_rfl) (by kernel_rfl) (by kernel_rfl) (.inl ⟨rfl, fun bs wq hI => ?_⟩) ?_
  · (go_simp; exact (D2 _).mono fun e w2 h => ⟨h.1, hI.call h.2⟩)
  simp only [Act.put, List.getElem_toArray, List.getElem_cons_zero, List.getElem_cons_succ, List.setIfInBounds_toArray, List.set_cons_zero, List.set_cons_succ]
  refine Rg.done (rs := [8]) (by kernel_rfl) (by decide) (fun W hI => ?_)
  clear D1 D2
  refine wpAny_one 8 (by kernel_rfl) rfl rfl (fun K hK => ?_)
  go_simp
  refine (going_any d e _).mono ?_
  rintro en W2 ⟨bp, bq, rfl, ho⟩
  have HO : Hid (Ow w W2 ((bq, [.int .i64 e]) :: (bp, [.int .i64 d]) :: [(w.heap.size + 2, Cl.cs Cl.zero), (w.heap.size + 1, Cl.cs b), (w.heap.size, Cl.cs a)])) := Lib.hid (hI.join ho)
  clear hI ho
  refine hK _ _ ?_
  clear hK
  try simp only [Act.put, List.getElem_toArray, List.getElem_cons_zero, List.getElem_cons_succ, List.setIfInBounds_toArray, List.set_cons_zero, List.set_cons_succ]
  refine wpAny_one 9 (by kernel_rfl) rfl rfl (fun K2 hK2 => ?_)
  go_simp
  refine hK2 _ _ ?_
  clear hK2
  try simp only [Act.put, List.getElem_toArray, List.getElem_cons_zero, List.getElem_cons_succ, List.setIfInBounds_toArray, List.set_cons_zero, List.set_cons_succ]
  refine wpAny_done (by kernel_rfl) ?_ _
  go_upto_region 2 with fail
  obtain ⟨ms, hms⟩ : ∃ ms, ms = ((bq, [.int .i64 e]) :: (bp, [.int .i64 d]) :: [(w.heap.size + 2, Cl.cs Cl.zero), (w.heap.size + 1, Cl.cs b), (w.heap.size, Cl.cs a)]) := ⟨_, rfl⟩
  have ho := HO.out
  rw [← hms] at ho
  have HP := Lib.hid (show (bp, [.int .i64 d]) ∈ ms by rw [hms]; simp)
  have HQ := Lib.hid (show (bq, [.int .i64 e]) ∈ ms by rw [hms]; simp)
  have HA := Lib.hid (show (w.heap.size, ([.int .i64 (a 0), .int .i64 (a 1), .int .i64 (a 2), .int .i64 (a 3), .int .i64 (a 4), .int .i64 (a 5), .int .i64 (a 6), .int .i64 (a 7), .int .i64 (a 8), .int .i64 (a 9)] : List Value)) ∈ ms by rw [hms]; simp [Cl.cs])
  have HB := Lib.hid (show (w.heap.size + 1, ([.int .i64 (b 0), .int .i64 (b 1), .int .i64 (b 2), .int .i64 (b 3), .int .i64 (b 4), .int .i64 (b 5), .int .i64 (b 6), .int .i64 (b 7), .int .i64 (b 8), .int .i64 (b 9)] : List Value)) ∈ ms by rw [hms]; simp [Cl.cs])
  have HM := Lib.hid hms
  clear HO hms
  refine Rg2.region (σ := List (Nat × List Value)) (I := Rg2.Io w ms) (mk := fun b s => (b, [.int .i64 0, .int .i64 0, .int .i64 0, .int .i64 0]) :: s) (dem := fun i => i == 33 || i == 34) (m := 35) (g := 0) (T := fun listed s st => ∀ W, Rg2.Io w ms s W → wpAny Try.prog .any _ _ 0 listed st W) [] (by kernel_rfl) ho.drew rfl (fun _ _ _ _ h hI => h _ hI) ?_
  clear ho
  refine Rg2.take 0 (v := .func (Fn.func 33) #[] #[.pointer (some ⟨bp, 0, none⟩), .pointer (some ⟨bq, 0, none⟩)]) rfl rfl (by kernel_rfl) (by kernel_rfl) (by kernel_rfl) (by kernel_rfl) (by kernel_rfl) (.inl ⟨rfl, fun bs wq hI => ?_⟩) ?_
  · go_simp
  simp only [Act.put, List.getElem_toArray, List.getElem_cons_zero, List.getElem_cons_succ, List.setIfInBounds_toArray, List.set_cons_zero, List.set_cons_succ]
  refine Rg2.take 1 (v := .pointer (some ⟨w.heap.size, 0, none⟩)) rfl rfl (by kernel_rfl) (by kernel_rfl) (by kernel_rfl) (by kernel_rfl) (by kernel_rfl) (.inl ⟨rfl, fun bs wq hI => ?_⟩) ?_
  · go_simp
  simp only [Act.put, List.getElem_toArray, List.getElem_cons_zero, List.getElem_cons_succ, List.setIfInBounds_toArray, List.set_cons_zero, List.set_cons_succ]
  refine Rg2.take 2 (v := .pointer (some ⟨w.heap.size, 0, none⟩)) rfl rfl (by kernel_rfl) (by kernel_rfl) (by kernel_rfl) (by kernel_rfl) (by kernel_rfl) (.inl ⟨rfl, fun bs wq hI => ?_⟩) ?_
  · go_simp
  simp only [Act.put, List.getElem_toArray, List.getElem_cons_zero, List.getElem_cons_succ, List.setIfInBounds_toArray, List.set_cons_zero, List.set_cons_succ]
  refine Rg2.take 3 (v := .int .i64 (a 0)) rfl rfl (by kernel_rfl) (by kernel_rfl) (by kernel_rfl) (by kernel_rfl) (by kernel_rfl) (.inl ⟨rfl, fun bs wq hI => ?_⟩) ?_
  · (have hc := (hI.rc HA.out).cell 0 rfl; go_simp)
  simp only [Act.put, List.getElem_toArray, List.getElem_cons_zero, List.getElem_cons_succ, List.setIfInBounds_toArray, List.set_cons_zero, List.set_cons_succ]
  refine Rg2.take 4 (v := .pointer (some ⟨w.heap.size + 1, 0, none⟩)) rfl rfl (by kernel_rfl) (by kernel_rfl) (by kernel_rfl) (by kernel_rfl) (by kernel_rfl) (.inl ⟨rfl, fun bs wq hI => ?_⟩) ?_
  · go_simp
  simp only [Act.put, List.getElem_toArray, List.getElem_cons_zero, List.getElem_cons_succ, List.setIfInBounds_toArray, List.set_cons_zero, List.set_cons_succ]
  refine Rg2.take 5 (v := .pointer (some ⟨w.heap.size + 1, 0, none⟩)) rfl rfl (by kernel_rfl) (by kernel_rfl) (by kernel_rfl) (by kernel_rfl) (by kernel_rfl) (.inl ⟨rfl, fun bs wq hI => ?_⟩) ?_
  · go_simp
  simp only [Act.put, List.getElem_toArray, List.getElem_cons_zero, List.getElem_cons_succ, List.setIfInBounds_toArray, List.set_cons_zero, List.set_cons_succ]
  refine Rg2.take 6 (v := .int .i64 (b 0)) rfl rfl (by kernel_rfl) (by kernel_rfl) (by kernel_rfl) (by kernel_rfl) (by kernel_rfl) (.inl ⟨rfl, fun bs wq hI => ?_⟩) ?_
  · (have hc := (hI.rc HB.out).cell 0 rfl; go_simp)
  simp only [Act.put, List.getElem_toArray, List.getElem_cons_zero, List.getElem_cons_succ, List.setIfInBounds_toArray, List.set_cons_zero, List.set_cons_succ]
  refine Rg2.take 7 (v := .int .i64 (m 0)) rfl rfl (by kernel_rfl) (by kernel_rfl) (by kernel_rfl) (by kernel_rfl) (by kernel_rfl) (.inl ⟨rfl, fun bs wq hI => ?_⟩) ?_
  · (go_simp; exact (WT.out 0 (by omega) bp bq _ (hI.rc HP.out) (hI.rc HQ.out)).mono fun e w2 h => ⟨h.1, hI.call h.2⟩)
  simp only [Act.put, List.getElem_toArray, List.getElem_cons_zero, List.getElem_cons_succ, List.setIfInBounds_toArray, List.set_cons_zero, List.set_cons_succ]
  refine Rg2.take 8 (v := .func (Fn.func 33) #[] #[.pointer (some ⟨bp, 0, none⟩), .pointer (some ⟨bq, 0, none⟩)]) rfl rfl (by kernel_rfl) (by kernel_rfl) (by kernel_rfl) (by kernel_rfl) (by kernel_rfl) (.inl ⟨rfl, fun bs wq hI => ?_⟩) ?_
  · go_simp
  simp only [Act.put, List.getElem_toArray, List.getElem_cons_zero, List.getElem_cons_succ, List.setIfInBounds_toArray, List.set_cons_zero, List.set_cons_succ]
  refine Rg2.take 9 (v := .pointer (some ⟨w.heap.size, 0, none⟩)) rfl rfl (by kernel_rfl) (by kernel_rfl) (by kernel_rfl) (by kernel_rfl) (by kernel_rfl) (.inl ⟨rfl, fun bs wq hI => ?_⟩) ?_
  · go_simp
  simp only [Act.put, List.getElem_toArray, List.getElem_cons_zero, List.getElem_cons_succ, List.setIfInBounds_toArray, List.set_cons_zero, List.set_cons_succ]
  refine Rg2.take 10 (v := .pointer (some ⟨w.heap.size, 1, none⟩)) rfl rfl (by kernel_rfl) (by kernel_rfl) (by kernel_rfl) (by kernel_rfl) (by kernel_rfl) (.inl ⟨rfl, fun bs wq hI => ?_⟩) ?_
  · go_simp
  simp only [Act.put, List.getElem_toArray, List.getElem_cons_zero, List.getElem_cons_succ, List.setIfInBounds_toArray, List.set_cons_zero, List.set_cons_succ]
  refine Rg2.take 11 (v := .int .i64 (a 1)) rfl rfl (by kernel_rfl) (by kernel_rfl) (by kernel_rfl) (by kernel_rfl) (by kernel_rfl) (.inl ⟨rfl, fun bs wq hI => ?_⟩) ?_
  · (have hc := (hI.rc HA.out).cell 1 rfl; go_simp)
  simp only [Act.put, List.getElem_toArray, List.getElem_cons_zero, List.getElem_cons_succ, List.setIfInBounds_toArray, List.set_cons_zero, List.set_cons_succ]
  refine Rg2.take 12 (v := .pointer (some ⟨w.heap.size + 1, 0, none⟩)) rfl rfl (by kernel_rfl) (by kernel_rfl) (by kernel_rfl) (by kernel_rfl) (by kernel_rfl) (.inl ⟨rfl, fun bs wq hI => ?_⟩) ?_
  · go_simp
  simp only [Act.put, List.getElem_toArray, List.getElem_cons_zero, List.getElem_cons_succ, List.setIfInBounds_toArray, List.set_cons_zero, List.set_cons_succ]
  refine Rg2.take 13 (v := .pointer (some ⟨w.heap.size + 1, 1, none⟩)) rfl rfl (by kernel_rfl) (by kernel_rfl) (by kernel_rfl) (by kernel_rfl) (by kernel_rfl) (.inl ⟨rfl, fun bs wq hI => ?_⟩) ?_
  · go_simp
  simp only [Act.put, List.getElem_toArray, List.getElem_cons_zero, List.getElem_cons_succ, List.setIfInBounds_toArray, List.set_cons_zero, List.set_cons_succ]
  refine Rg2.take 14 (v := .int .i64 (b 1)) rfl rfl (by kernel_rfl) (by kernel_rfl) (by kernel_rfl) (by kernel_rfl) (by kernel_rfl) (.inl ⟨rfl, fun bs wq hI => ?_⟩) ?_
  · (have hc := (hI.rc HB.out).cell 1 rfl; go_simp)
  simp only [Act.put, List.getElem_toArray, List.getElem_cons_zero, List.getElem_cons_succ, List.setIfInBounds_toArray, List.set_cons_zero, List.set_cons_succ]
  refine Rg2.take 15 (v := .int .i64 (m 1)) rfl rfl (by kernel_rfl) (by kernel_rfl) (by kernel_rfl) (by kernel_rfl) (by kernel_rfl) (.inl ⟨rfl, fun bs wq hI => ?_⟩) ?_
  · (go_simp; exact (WT.out 1 (by omega) bp bq _ (hI.rc HP.out) (hI.rc HQ.out)).mono fun e w2 h => ⟨h.1, hI.call h.2⟩)
  simp only [Act.put, List.getElem_toArray, List.getElem_cons_zero, List.getElem_cons_succ, List.setIfInBounds_toArray, List.set_cons_zero, List.set_cons_succ]
  refine Rg2.take 16 (v := .func (Fn.func 33) #[] #[.pointer (some ⟨bp, 0, none⟩), .pointer (some ⟨bq, 0, none⟩)]) rfl rfl (by kernel_rfl) (by kernel_rfl) (by kernel_rfl) (by kernel_rfl) (by kernel_rfl) (.inl ⟨rfl, fun bs wq hI => ?_⟩) ?_
  · go_simp
  simp only [Act.put, List.getElem_toArray, List.getElem_cons_zero, List.getElem_cons_succ, List.setIfInBounds_toArray, List.set_cons_zero, List.set_cons_succ]
  refine Rg2.take 17 (v := .pointer (some ⟨w.heap.size, 0, none⟩)) rfl rfl (by kernel_rfl) (by kernel_rfl) (by kernel_rfl) (by kernel_rfl) (by kernel_rfl) (.inl ⟨rfl, fun bs wq hI => ?_⟩) ?_
  · go_simp
  simp only [Act.put, List.getElem_toArray, List.getElem_cons_zero, List.getElem_cons_succ, List.setIfInBounds_toArray, List.set_cons_zero, List.set_cons_succ]
  refine Rg2.take 18 (v := .pointer (some ⟨w.heap.size, 2, none⟩)) rfl rfl (by kernel_rfl) (by kernel_rfl) (by kernel_rfl) (by kernel_rfl) (by kernel_rfl) (.inl ⟨rfl, fun bs wq hI => ?_⟩) ?_
  · go_simp
  simp only [Act.put, List.getElem_toArray, List.getElem_cons_zero, List.getElem_cons_succ, List.setIfInBounds_toArray, List.set_cons_zero, List.set_cons_succ]
  refine Rg2.take 19 (v := .int .i64 (a 2)) rfl rfl (by kernel_rfl) (by kernel_rfl) (by kernel_rfl) (by kernel_rfl) (by kernel_rfl) (.inl ⟨rfl, fun bs wq hI => ?_⟩) ?_
  · (have hc := (hI.rc HA.out).cell 2 rfl; go_simp)
  simp only [Act.put, List.getElem_toArray, List.getElem_cons_zero, List.getElem_cons_succ, List.setIfInBounds_toArray, List.set_cons_zero, List.set_cons_succ]
  refine Rg2.take 20 (v := .pointer (some ⟨w.heap.size + 1, 0, none⟩)) rfl rfl (by kernel_rfl) (by kernel_rfl) (by kernel_rfl) (by kernel_rfl) (by kernel_rfl) (.inl ⟨rfl, fun bs wq hI => ?_⟩) ?_
  · go_simp
  simp only [Act.put, List.getElem_toArray, List.getElem_cons_zero, List.getElem_cons_succ, List.setIfInBounds_toArray, List.set_cons_zero, List.set_cons_succ]
  refine Rg2.take 21 (v := .pointer (some ⟨w.heap.size + 1, 2, none⟩)) rfl rfl (by kernel_rfl) (by kernel_rfl) (by kernel_rfl) (by kernel_rfl) (by kernel_rfl) (.inl ⟨rfl, fun bs wq hI => ?_⟩) ?_
  · go_simp
  simp only [Act.put, List.getElem_toArray, List.getElem_cons_zero, List.getElem_cons_succ, List.setIfInBounds_toArray, List.set_cons_zero, List.set_cons_succ]
  refine Rg2.take 22 (v := .int .i64 (b 2)) rfl rfl (by kernel_rfl) (by kernel_rfl) (by kernel_rfl) (by kernel_rfl) (by kernel_rfl) (.inl ⟨rfl, fun bs wq hI => ?_⟩) ?_
  · (have hc := (hI.rc HB.out).cell 2 rfl; go_simp)
  simp only [Act.put, List.getElem_toArray, List.getElem_cons_zero, List.getElem_cons_succ, List.setIfInBounds_toArray, List.set_cons_zero, List.set_cons_succ]
  refine Rg2.take 23 (v := .int .i64 (m 2)) rfl rfl (by kernel_rfl) (by kernel_rfl) (by kernel_rfl) (by kernel_rfl) (by kernel_rfl) (.inl ⟨rfl, fun bs wq hI => ?_⟩) ?_
  · (go_simp; exact (WT.out 2 (by omega) bp bq _ (hI.rc HP.out) (hI.rc HQ.out)).mono fun e w2 h => ⟨h.1, hI.call h.2⟩)
  simp only [Act.put, List.getElem_toArray, List.getElem_cons_zero, List.getElem_cons_succ, List.setIfInBounds_toArray, List.set_cons_zero, List.set_cons_succ]
  refine Rg2.take 24 (v := .func (Fn.func 33) #[] #[.pointer (some ⟨bp, 0, none⟩), .pointer (some ⟨bq, 0, none⟩)]) rfl rfl (by kernel_rfl) (by kernel_rfl) (by kernel_rfl) (by kernel_rfl) (by kernel_rfl) (.inl ⟨rfl, fun bs wq hI => ?_⟩) ?_
  · go_simp
  simp only [Act.put, List.getElem_toArray, List.getElem_cons_zero, List.getElem_cons_succ, List.setIfInBounds_toArray, List.set_cons_zero, List.set_cons_succ]
  refine Rg2.take 25 (v := .pointer (some ⟨w.heap.size, 0, none⟩)) rfl rfl (by kernel_rfl) (by kernel_rfl) (by kernel_rfl) (by kernel_rfl) (by kernel_rfl) (.inl ⟨rfl, fun bs wq hI => ?_⟩) ?_
  · go_simp
  simp only [Act.put, List.getElem_toArray, List.getElem_cons_zero, List.getElem_cons_succ, List.setIfInBounds_toArray, List.set_cons_zero, List.set_cons_succ]
  refine Rg2.take 26 (v := .pointer (some ⟨w.heap.size, 3, none⟩)) rfl rfl (by kernel_rfl) (by kernel_rfl) (by kernel_rfl) (by kernel_rfl) (by kernel_rfl) (.inl ⟨rfl, fun bs wq hI => ?_⟩) ?_
  · go_simp
  simp only [Act.put, List.getElem_toArray, List.getElem_cons_zero, List.getElem_cons_succ, List.setIfInBounds_toArray, List.set_cons_zero, List.set_cons_succ]
  refine Rg2.take 27 (v := .int .i64 (a 3)) rfl rfl (by kernel_rfl) (by kernel_rfl) (by kernel_rfl) (by kernel_rfl) (by kernel_rfl) (.inl ⟨rfl, fun bs wq hI => ?_⟩) ?_
  · (have hc := (hI.rc HA.out).cell 3 rfl; go_simp)
  simp only [Act.put, List.getElem_toArray, List.getElem_cons_zero, List.getElem_cons_succ, List.setIfInBounds_toArray, List.set_cons_zero, List.set_cons_succ]
  refine Rg2.take 28 (v := .pointer (some ⟨w.heap.size + 1, 0, none⟩)) rfl rfl (by kernel_rfl) (by kernel_rfl) (by kernel_rfl) (by kernel_rfl) (by kernel_rfl) (.inl ⟨rfl, fun bs wq hI => ?_⟩) ?_
  · go_simp
  simp only [Act.put, List.getElem_toArray, List.getElem_cons_zero, List.getElem_cons_succ, List.setIfInBounds_toArray, List.set_cons_zero, List.set_cons_succ]
  refine Rg2.take 29 (v := .pointer (some ⟨w.heap.size + 1, 3, none⟩)) rfl rfl (by kernel_rfl) (by kernel_rfl) (by kernel_rfl) (by kernel_rfl) (by kernel_rfl) (.inl ⟨rfl, fun bs wq hI => ?_⟩) ?_
  · go_simp
  simp only [Act.put, List.getElem_toArray, List.getElem_cons_zero, List.getElem_cons_succ, List.setIfInBounds_toArray, List.set_cons_zero, List.set_cons_succ]
  refine Rg2.take 30 (v := .int .i64 (b 3)) rfl rfl (by kernel_rfl) (by kernel_rfl) (by kernel_rfl) (by kernel_rfl) (by kernel_rfl) (.inl ⟨rfl, fun bs wq hI => ?_⟩) ?_
  · (have hc := (hI.rc HB.out).cell 3 rfl; go_simp)
  simp only [Act.put, List.getElem_toArray, List.getElem_cons_zero, List.getElem_cons_succ, List.setIfInBounds_toArray, List.set_cons_zero, List.set_cons_succ]
  refine Rg2.take 31 (v := .int .i64 (m 3)) rfl rfl (by kernel_rfl) (by kernel_rfl) (by kernel_rfl) (by kernel_rfl) (by kernel_rfl) (.inl ⟨rfl, fun bs wq hI => ?_⟩) ?_
  · (go_simp; exact (WT.out 3 (by omega) bp bq _ (hI.rc HP.out) (hI.rc HQ.out)).mono fun e w2 h => ⟨h.1, hI.call h.2⟩)
  simp only [Act.put, List.getElem_toArray, List.getElem_cons_zero, List.getElem_cons_succ, List.setIfInBounds_toArray, List.set_cons_zero, List.set_cons_succ]
  refine Rg2.take 32 (v := .agg #[.int .i64 (m 0), .int .i64 (m 1), .int .i64 (m 2), .int .i64 (m 3)]) rfl rfl (by kernel_rfl) (by kernel_rfl) (by kernel_rfl) (by kernel_rfl) (by kernel_rfl) (.inl ⟨rfl, fun bs wq hI => ?_⟩) ?_
  · go_simp
  simp only [Act.put, List.getElem_toArray, List.getElem_cons_zero, List.getElem_cons_succ, List.setIfInBounds_toArray, List.set_cons_zero, List.set_cons_succ]
  refine Rg2.made1 33 (by kernel_rfl) rfl rfl (Rg2.makes_four (ty := 23) (fun _ => rfl) (fun a W => by simp [execOp, go_sem])) (fun z8 => ?_)
  simp only [Act.put, List.getElem_toArray, List.getElem_cons_zero, List.getElem_cons_succ, List.setIfInBounds_toArray, List.set_cons_zero, List.set_cons_succ]
  refine Rg2.put1 34 (by kernel_rfl) rfl rfl (Rg2.puts_row ty_vec 0 [.int .i64 (m 0), .int .i64 (m 1), .int .i64 (m 2), .int .i64 (m 3)] rfl _ _ rfl _ rfl rfl _ rfl rfl rfl rfl) ?_
  simp only [Act.put, List.getElem_toArray, List.getElem_cons_zero, List.getElem_cons_succ, List.setIfInBounds_toArray, List.set_cons_zero, List.set_cons_succ]
  refine Rg2.done (rs := []) (by kernel_rfl) (by decide) (fun W hI => ?_)
  have HO : Hid (Ow w W ((z8, [.int .i64 (m 0), .int .i64 (m 1), .int .i64 (m 2), .int .i64 (m 3)]) :: ((bq, [.int .i64 e]) :: (bp, [.int .i64 d]) :: [(w.heap.size + 2, Cl.cs Cl.zero), (w.heap.size + 1, Cl.cs b), (w.heap.size, Cl.cs a)]))) := Lib.hid (by rw [← HM.out]; exact hI)
  clear hI HM HP HQ HA HB ms
  refine wpAny_done (by kernel_rfl) ?_ _
  go_upto_region 4 with (first | ((with_reducible show wpList _ _ _ ({ dst := _, op := Op.load 23 (Operand.tmp 8), type := _, pos := _, after := _, guard := _ } :: _) _ _); refine wpList_ldr ty_vec rfl _ rfl _ rfl _ rfl (HO.out.at 0 rfl) ?_) | (go_at_call 29; refine (ME _).mono ?_; rintro e wz ⟨rfl, hk1⟩; have l2 := HO.out.call hk1; clear HO hk1; have HO := Lib.hid l2; clear l2))
  clear ME
  have l2 : Ow w _ ((_, Cl.cs (Cl.part q (4 + 0))) :: (z8, [.int .i64 (m 0), .int .i64 (m 1), .int .i64 (m 2), .int .i64 (m 3)]) :: ((bq, [.int .i64 e]) :: (bp, [.int .i64 d]) :: [(w.heap.size + 2, Cl.cs Cl.zero), (w.heap.size + 1, Cl.cs b), (w.heap.size, Cl.cs a)])) := HO.out.newAt _ rfl (.int .i64 (q 0)) [.int .i64 (q 1), .int .i64 (q 2), .int .i64 (q 3), .int .i64 0, .int .i64 0, .int .i64 0, .int .i64 0, .int .i64 0, .int .i64 0] 26
  clear HO
  have HO := Lib.hid l2
  clear l2
  generalize hV : World.alloc _ _ = V0 at *
  clear hV
  generalize wz.heap.size = z9 at *
  go_upto_region 5 with ((with_reducible show wpList _ _ _ ({ dst := _, op := Op.load 24 _, type := _, pos := _, after := _, guard := _ } :: _) _ _); refine wpList_ldm ty_arr rfl _ rfl _ _ rfl _ rfl (Rc.six (c := a) (HO.out.at 6 rfl)) ?_)
  go_loopw [60] (fun i wr => ∃ j : Nat, j ≤ 6 ∧ i = .int .i64 j ∧ Ow w wr ((z9, Cl.cs (Cl.part q (4 + j))) :: (z8, [.int .i64 (m 0), .int .i64 (m 1), .int .i64 (m 2), .int .i64 (m 3)]) :: ((bq, [.int .i64 e]) :: (bp, [.int .i64 d]) :: [(w.heap.size + 2, Cl.cs Cl.zero), (w.heap.size + 1, Cl.cs b), (w.heap.size, Cl.cs a)]))) (fun i _ => msrQ i)
  case atStart => exact ⟨0, by omega, rfl, HO.out⟩
  case round =>
    clear HO
    obtain ⟨j, hj, rfl, ho⟩ := hrel
    by_cases hlt : j < 6
    · have z1 : decide ((j : Int) < 6) = true := decide_eq_true (by omega)
      have z2 : (j : Int) < 6 := by omega
      have ix := fun W => ix6 a j hlt W
      have W1 := fun W h1 h2 => WT.out (4 + j) (by omega) bp bq W h1 h2
      have HQ2 := Lib.hid (HX.out (4 + j) (by omega))
      have HO := Lib.hid ho
      clear ho
      have cb := (HO.out.at 5 rfl).num (4 + j) (by omega)
      go_upto_region 8 with (go_at_call 33; (with_reducible refine (W1 _ (HO.out.at 3 rfl) (HO.out.at 2 rfl)).mono ?_); rintro en wy ⟨rfl, hk1⟩; have l2 := HO.out.call hk1; clear HO hk1 cb; have HO := Lib.hid l2; clear l2; have dd := (HO.out.at 0 rfl).num (4 + j) (by omega); have ff := (HO.out.at 0 rfl).free (4 + j) (by omega))
      have l2 := HO.out.setN 0 rfl (4 + j) (by omega) (m (4 + j))
      clear HO dd ff
      generalize hV : World.setCell _ _ _ = V7 at *
      clear hV
      rw [HQ2.out, Cl.part_next] at l2
      have HO := Lib.hid l2
      clear l2 HQ2
      go_wp2_with fail
      go_roundw
      case rel => exact ⟨j + 1, by omega, by go_num, HO.out⟩
      case measure => simp [msrQ, intOf]; omega
    · have z1 : decide ((j : Int) < 6) = false := decide_eq_false (by omega)
      obtain rfl : j = 6 := by omega
      have HO : Hid (Ow w wr ((z9, Cl.cs q) :: (z8, [.int .i64 (m 0), .int .i64 (m 1), .int .i64 (m 2), .int .i64 (m 3)]) :: ((bq, [.int .i64 e]) :: (bp, [.int .i64 d]) :: [(w.heap.size + 2, Cl.cs Cl.zero), (w.heap.size + 1, Cl.cs b), (w.heap.size, Cl.cs a)]))) := Lib.hid (by rw [← Cl.part_all]; exact ho)
      clear ho
      go_wp2_with (first | ((with_reducible show wpList _ _ _ ({ dst := _, op := Op.load 26 (Operand.tmp 9), type := _, pos := _, after := _, guard := _ } :: _) _ _); refine wpList_ldr ty_corner rfl _ rfl _ rfl _ rfl (HO.out.at 0 rfl) ?_) | ((with_reducible show wpList _ _ _ ({ dst := _, op := Op.store 26 _ _, type := _, pos := _, after := _, guard := _ } :: _) _ _); refine wpList_sto ty_corner HO.out 4 [.int .i64 (q 0), .int .i64 (q 1), .int .i64 (q 2), .int .i64 (q 3), .int .i64 (q 4), .int .i64 (q 5), .int .i64 (q 6), .int .i64 (q 7), .int .i64 (q 8), .int .i64 (q 9)] rfl _ _ rfl _ rfl rfl _ rfl rfl rfl rfl ?_; intro w2 l2; clear HO; have HO := Lib.hid l2; clear l2))
      exact bodyPost_ret (results_c ty_corner rfl rfl rfl (HO.out.at 4 rfl)) rfl ⟨rfl, HO.out.k⟩
end Go.Proofs.Ytfhlnldiljldcaa
