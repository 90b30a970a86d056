/-
  Contract of layer 5's Apply.
-/
import Derived.Test.YtbhdmfoigilibaaVecWalks3
import Derived.Test.YtbhdmfoigilibaaVecRows
import Derived.Deep.DeepCutAuto
namespace Go.Proofs.Ytbhdmfoigilibaa
open Go.RowKit

/-- the call's own blocks: the matrix, the vector, the result (zeros as yet) -/
structure Ap (w W : World) (m v : Nat → Int) : Prop where
  m : Rw 16 W w.heap.size m
  v : Rw 4 W (w.heap.size + 1) v
  r : Rw 4 W (w.heap.size + 2) (fun _ => 0)
  k : Kp w.heap.size w W
theorem Ap.call {w W W' : World} {m v : Nat → Int} (h : Ap w W m v) (k : Kp W.heap.size W W') : Ap w W' m v := ⟨h.m.call (by omega) k, h.v.call (by omega) k, h.r.call (by omega) k, h.k.trans (k.mono h.k.size)⟩
theorem Ap.alloc {w W : World} {m v : Nat → Int} (h : Ap w W m v) (c : Array Value) (t : TypeId) : Ap w (W.alloc (.cells c t)) m v := h.call ((Kp.refl _ _).alloc (Nat.le_refl _) c t)
theorem Ap.st {w W W' : World} {m v : Nat → Int} {b : Nat} (h : Ap w W m v) (s : St b W W') (hb : w.heap.size + 2 < b) : Ap w W' m v := ⟨s.rw h.m (by omega), s.rw h.v (by omega), s.rw h.r (by omega), s.kp h.k (by omega)⟩
theorem Ap.size {w W : World} {m v : Nat → Int} (h : Ap w W m v) : w.heap.size + 2 < W.heap.size := h.r.lt (by omega)
theorem Ap.new (w : World) (m v : Nat → Int) (t t' t'' : TypeId) : Ap w (((w.alloc (.cells (Vc.ar m) t)).alloc (.cells #[.int .i64 (v 0), .int .i64 (v 1), .int .i64 (v 2), .int .i64 (v 3)] t')).alloc (.cells #[.int .i64 0, .int .i64 0, .int .i64 0, .int .i64 0] t'')) m v :=
  ⟨((Rw.new16 w m t rfl).alloc (by omega) _ _).alloc (by omega) _ _, (Rw.new4 _ v t' (by simp)).alloc (by omega) _ _, Rw.zero4 _ _ (by simp), (((Kp.refl _ _).alloc (Nat.le_refl _) _ _).alloc (by simp) _ _).alloc (by simp; omega) _ _⟩

set_option maxHeartbeats 1000000 in
theorem apply_no1 (m v : Nat → Int) (w : World) (hm : Vc.wi 16777216 m 16 = false) :
    Calls Try.prog 6 #[.agg (Vc.ar (m)), .agg #[.int .i64 (v 0), .int .i64 (v 1), .int .i64 (v 2), .int .i64 (v 3)]] w fun e w' => e = .returned (.tuple #[.agg #[.int .i64 ((fun _ => 0) 0), .int .i64 ((fun _ => 0) 1), .int .i64 ((fun _ => 0) 2), .int .i64 ((fun _ => 0) 3)], .int .i64 3]) ∧ Kp w.heap.size w w' := by
  have HA := Lib.hid (Ap.new w m v 23 25 25)
  go_enter Try.func6, Try.ntmps6
  go_wp2_with (first | (first   | go_skip   | (refine wpList_ld rfl _ rfl _ rfl m ?_ ?_; (with_reducible exact HA.out.m))   | (go_at_call 19; refine (mayBe_any m _).mono ?_; rintro e w1 ⟨rfl, hk1⟩; have HB := Lib.hid (HA.out.call hk1); clear hk1; have hc := HB.out.v.cell)   | (go_at_call 20; refine (within_any 1073741824 v 4 4 _ _ ?_ ?_ (Rw.new4 w1 v _ rfl).cell).mono ?_; omega; omega; rintro e w' ⟨rfl, rfl⟩; have hc2 := (HB.out.alloc #[.int .i64 (v 0), .int .i64 (v 1), .int .i64 (v 2), .int .i64 (v 3)] 3).v.cell)) | (refine wpList_st4 four_vec rfl _ _ rfl _ rfl (fun _ => 0) rfl (f := fun _ => 0) ?_ ?_; (with_reducible exact HB.out.r); intro w2 hr2 hs2; have HR := Lib.hid hr2; have KK := Lib.hid (hs2.kp HB.out.k (by omega)); clear hr2 hs2))
  exact bodyPost_ret (results_v2 four_vec rfl rfl rfl HR.out) rfl ⟨rfl, KK.out⟩

set_option maxHeartbeats 1000000 in
theorem apply_no2 (m v : Nat → Int) (w : World) (hm : Vc.wi 16777216 m 16 = true) (hv : Vc.wi 1073741824 v 4 = false) :
    Calls Try.prog 6 #[.agg (Vc.ar (m)), .agg #[.int .i64 (v 0), .int .i64 (v 1), .int .i64 (v 2), .int .i64 (v 3)]] w fun e w' => e = .returned (.tuple #[.agg #[.int .i64 ((fun _ => 0) 0), .int .i64 ((fun _ => 0) 1), .int .i64 ((fun _ => 0) 2), .int .i64 ((fun _ => 0) 3)], .int .i64 3]) ∧ Kp w.heap.size w w' := by
  have HA := Lib.hid (Ap.new w m v 23 25 25)
  go_enter Try.func6, Try.ntmps6
  go_wp2_with (first | (first   | go_skip   | (refine wpList_ld rfl _ rfl _ rfl m ?_ ?_; (with_reducible exact HA.out.m))   | (go_at_call 19; refine (mayBe_any m _).mono ?_; rintro e w1 ⟨rfl, hk1⟩; have HB := Lib.hid (HA.out.call hk1); clear hk1; have hc := HB.out.v.cell)   | (go_at_call 20; refine (within_any 1073741824 v 4 4 _ _ ?_ ?_ (Rw.new4 w1 v _ rfl).cell).mono ?_; omega; omega; rintro e w' ⟨rfl, rfl⟩; have hc2 := (HB.out.alloc #[.int .i64 (v 0), .int .i64 (v 1), .int .i64 (v 2), .int .i64 (v 3)] 3).v.cell)) | (refine wpList_st4 four_vec rfl _ _ rfl _ rfl (fun _ => 0) rfl (f := fun _ => 0) ?_ ?_; (with_reducible exact (HB.out.alloc _ _).r); intro w2 hr2 hs2; have HR := Lib.hid hr2; have KK := Lib.hid (hs2.kp (HB.out.alloc _ _).k (by omega)); clear hr2 hs2))
  exact bodyPost_ret (results_v2 four_vec rfl rfl rfl HR.out) rfl ⟨rfl, KK.out⟩

set_option linter.unusedSimpArgs false in
set_option maxHeartbeats 4000000 in
theorem apply_yes (m v : Nat → Int) (w : World) (hm : Vc.wi 16777216 m 16 = true) (hv : Vc.wi 1073741824 v 4 = true) :
    Calls Try.prog 6 #[.agg (Vc.ar (m)), .agg #[.int .i64 (v 0), .int .i64 (v 1), .int .i64 (v 2), .int .i64 (v 3)]] w fun e w' => e = .returned (.tuple #[.agg #[.int .i64 ((Vc.app m v) 0), .int .i64 ((Vc.app m v) 1), .int .i64 ((Vc.app m v) 2), .int .i64 ((Vc.app m v) 3)], .int .i64 0]) ∧ Kp w.heap.size w w' := by
  have HA := Lib.hid (Ap.new w m v 23 25 25)
  have HM := Lib.hid (Vc.wi_all hm)
  have HV := Lib.hid (Vc.wi_all hv)
  go_enter Try.func6, Try.ntmps6
  go_wp2_with (first   | go_skip   | (refine wpList_ld rfl _ rfl _ rfl m ?_ ?_; (with_reducible exact HA.out.m))   | (go_at_call 19; refine (mayBe_any m _).mono ?_; rintro e w1 ⟨rfl, hk1⟩; have HB := Lib.hid (HA.out.call hk1); clear hk1; have hc := HB.out.v.cell)   | (go_at_call 20; refine (within_any 1073741824 v 4 4 _ _ ?_ ?_ (Rw.new4 w1 v _ rfl).cell).mono ?_; omega; omega; rintro e w' ⟨rfl, rfl⟩; have hc2 := (HB.out.alloc #[.int .i64 (v 0), .int .i64 (v 1), .int .i64 (v 2), .int .i64 (v 3)] 3).v.cell))
  have HS := Lib.hid HB.out.size
  go_loopw [35] (fun i wr => ∃ k : Nat, k ≤ 4 ∧ i = .int .i64 k ∧ Ap w wr m v ∧ Rw 4 wr (w1.heap.size + 1) v ∧ Rw 4 wr (w1.heap.size + 1 + 1) (fun j => if j < k then Vc.app m v j else 0)) (fun i _ => 4 - (intOf i).toNat)
  case atStart => exact ⟨0, by omega, rfl, ((HB.out.alloc _ _).alloc _ _).alloc _ _, (Rw.new4 _ v _ (by simp)).alloc (by omega) _ _, (Rw.zero4 _ _ (by simp)).congr (fun j _ => by rw [if_neg (by omega)])⟩
  case round =>
    obtain ⟨k, hk, rfl, hA, h6, h7⟩ := hrel
    have HD := Lib.hid hA
    have H6 := Lib.hid h6
    have H7 := Lib.hid h7
    have hc7 := h7.cell
    have hf7 := h7.froz
    clear hA h6 h7
    by_cases hlt : k < 4
    · go_upto_region 8 with fail
      have hr : ∀ j, j < 4 → -16777216 ≤ Vc.row m k j ∧ Vc.row m k j ≤ 16777216 := fun j hj => HM.out (4 * k + j) (by omega)
      have HRw := Lib.hid hr
      clear hr
      refine Rg.region (I := fun _ W => Kp wr.heap.size wr W) (dem := fun _ => false) (m := 7) (g := 1) (T := fun listed bs a => ∀ W, Kp wr.heap.size wr W → wpAny Try.prog .any _ _ 1 listed a W) (by kernel_rfl) (Kp.refl _ _).drew rfl (fun _ _ _ _ h hI => h _ hI) ?_
      refine Rg.take 0 (v := .int .i64 k) rfl rfl (by kernel_rfl) (by kernel_rfl) (by kernel_rfl) (by kernel_rfl) (by kernel_rfl) (.inl ⟨rfl, fun bs wq hI => ?_⟩) ?_
      · go_simp
      simp only [Act.put, List.getElem_toArray, List.getElem_cons_zero, List.getElem_cons_succ, List.setIfInBounds_toArray, List.set_cons_zero, List.set_cons_succ]
      refine Rg.take 1 (v := .agg (Vc.ar m)) rfl rfl (by kernel_rfl) (by kernel_rfl) (by kernel_rfl) (by kernel_rfl) (by kernel_rfl) (.inl ⟨rfl, fun bs wq hI => ?_⟩) ?_
      · exact quiet_ldM _ rfl rfl (HD.out.call hI).m
      simp only [Act.put, List.getElem_toArray, List.getElem_cons_zero, List.getElem_cons_succ, List.setIfInBounds_toArray, List.set_cons_zero, List.set_cons_succ]
      refine Rg.take 2 (v := .int .i64 k) rfl rfl (by kernel_rfl) (by kernel_rfl) (by kernel_rfl) (by kernel_rfl) (by kernel_rfl) (.inl ⟨rfl, fun bs wq hI => ?_⟩) ?_
      · go_simp
      simp only [Act.put, List.getElem_toArray, List.getElem_cons_zero, List.getElem_cons_succ, List.setIfInBounds_toArray, List.set_cons_zero, List.set_cons_succ]
      refine Rg.take 3 (v := .agg #[.int .i64 (Vc.row m k 0), .int .i64 (Vc.row m k 1), .int .i64 (Vc.row m k 2), .int .i64 (Vc.row m k 3)]) rfl rfl (by kernel_rfl) (by kernel_rfl) (by kernel_rfl) (by kernel_rfl) (by kernel_rfl) (.inl ⟨rfl, fun bs wq hI => ?_⟩) ?_
      · (go_simp; exact (rowOf_any m k hlt _).mono fun e w2 h => ⟨h.1, hI.next h.2⟩)
      simp only [Act.put, List.getElem_toArray, List.getElem_cons_zero, List.getElem_cons_succ, List.setIfInBounds_toArray, List.set_cons_zero, List.set_cons_succ]
      refine Rg.take 4 (v := .agg #[.int .i64 (v 0), .int .i64 (v 1), .int .i64 (v 2), .int .i64 (v 3)]) rfl rfl (by kernel_rfl) (by kernel_rfl) (by kernel_rfl) (by kernel_rfl) (by kernel_rfl) (.inl ⟨rfl, fun bs wq hI => ?_⟩) ?_
      · exact quiet_ld4 four_row _ rfl rfl (H6.out.call (by omega) hI)
      simp only [Act.put, List.getElem_toArray, List.getElem_cons_zero, List.getElem_cons_succ, List.setIfInBounds_toArray, List.set_cons_zero, List.set_cons_succ]
      refine Rg.take 5 (v := .int .i64 (Vc.app m v k)) rfl rfl (by kernel_rfl) (by kernel_rfl) (by kernel_rfl) (by kernel_rfl) (by kernel_rfl) (.inl ⟨rfl, fun bs wq hI => ?_⟩) ?_
      · (go_simp; exact (product_any (Vc.row m k) v _ HRw.out HV.out).mono fun e w2 h => ⟨h.1, hI.next h.2⟩)
      simp only [Act.put, List.getElem_toArray, List.getElem_cons_zero, List.getElem_cons_succ, List.setIfInBounds_toArray, List.set_cons_zero, List.set_cons_succ]
      refine Rg.take 6 (v := .pointer (some ⟨w1.heap.size + 1 + 1, k, none⟩)) rfl rfl (by kernel_rfl) (by kernel_rfl) (by kernel_rfl) (by kernel_rfl) (by kernel_rfl) (.inl ⟨rfl, fun bs wq hI => ?_⟩) ?_
      · go_simp
      simp only [Act.put, List.getElem_toArray, List.getElem_cons_zero, List.getElem_cons_succ, List.setIfInBounds_toArray, List.set_cons_zero, List.set_cons_succ]
      refine Rg.done (rs := [7]) (by kernel_rfl) (by decide) (fun W hI => ?_)
      have hc8 := (H7.out.call (by omega) hI).cell k hlt
      have hf8 := (H7.out.call (by omega) hI).froz k hlt
      have H8 := Lib.hid ((H7.out.call (by omega) hI).set hlt (Vc.app m v k))
      have HI := Lib.hid hI
      clear hI
      refine wpAny_ready (rs := [7]) (by kernel_rfl) (by simp) (AllReady.cons (o := _) rfl (fun K hK => ?_) AllReady.nil)
      go_simp
      refine hK _ _ ?_
      clear hK K
      refine wpAny_done (by kernel_rfl) ?_ _
      go_wp2_with fail
      have hD := HD.out.call HI.out
      have hsz := HS.out
      refine ⟨⟨k + 1, by omega, by go_num, ⟨hD.m.other (by simp; omega) _, hD.v.other (by simp; omega) _, hD.r.other (by simp; omega) _, hD.k.setCell (by simp; omega) _⟩, (H6.out.call (by omega) HI.out).other (by simp) _, H8.out.congr (fun j _ => ?_)⟩, by simp [intOf]; omega⟩
      by_cases e : j = k
      · subst e; rw [if_pos rfl, if_pos (by omega)]
      · rw [if_neg e]
        by_cases c : j < k
        · rw [if_pos c, if_pos (by omega)]
        · rw [if_neg c, if_neg (by omega)]
    · obtain rfl : k = 4 := by omega
      go_wp2_with (refine wpList_st4 four_vec rfl _ _ rfl _ rfl (Vc.app m v) rfl (f := fun _ => 0) ?_ ?_; (with_reducible exact HD.out.r); intro w4 hr4 hs4; have HR := Lib.hid hr4; have KK := Lib.hid (hs4.kp HD.out.k (by omega)); clear hr4 hs4)
      exact bodyPost_ret (results_v2 four_vec rfl rfl rfl HR.out) rfl ⟨rfl, KK.out⟩
end Go.Proofs.Ytbhdmfoigilibaa
