/-
  VecApplies: its Go text returns true.
-/
import Derived.Test.YtbhdmfoigilibaaVecRefApp
import Derived.Test.YtbhdmfoigilibaaVecAwake
namespace Go.Proofs.Ytbhdmfoigilibaa
open Go.RowKit

/-- the law's own blocks: the matrix, the vector, what came -/
structure La (w W : World) (m v : Nat → Int) (b : Nat) (u : Nat → Int) : Prop where
  m : Rw 16 W w.heap.size m
  v : Rw 4 W (w.heap.size + 1) v
  u : Rw 4 W b u
  k : Kp w.heap.size w W
theorem La.call {w W W' : World} {m v u : Nat → Int} {b : Nat} (h : La w W m v b u) (k : Kp W.heap.size W W') : La w W' m v b u := ⟨h.m.call (by omega) k, h.v.call (by omega) k, h.u.call (by omega) k, h.k.trans (k.mono h.k.size)⟩
theorem La.new (w : World) (m v : Nat → Int) (t t' : TypeId) : La w ((w.alloc (.cells (Vc.ar m) t)).alloc (.cells #[.int .i64 (v 0), .int .i64 (v 1), .int .i64 (v 2), .int .i64 (v 3)] t')) m v (w.heap.size + 1) v :=
  ⟨(Rw.new16 w m t rfl).alloc (by omega) _ _, Rw.new4 _ v t' (by simp), Rw.new4 _ v t' (by simp), ((Kp.refl _ _).alloc (Nat.le_refl _) _ _).alloc (by simp) _ _⟩
theorem La.drew {w W : World} {m v u : Nat → Int} {b : Nat} (h : La w W m v b u) : La w W.drew m v b u := ⟨h.m.drew, h.v.drew, h.u.drew, h.k.drew⟩
theorem La.put {w W : World} {m v u : Nat → Int} {b : Nat} (h : La w W m v b u) (g : Nat → Int) (t : TypeId) : La w (W.alloc (.cells #[.int .i64 (g 0), .int .i64 (g 1), .int .i64 (g 2), .int .i64 (g 3)] t)) m v W.heap.size g :=
  ⟨h.m.alloc (by omega) _ _, h.v.alloc (by omega) _ _, Rw.new4 _ g t rfl, h.k.trans (((Kp.refl _ _).alloc (Nat.le_refl _) _ _).mono h.k.size)⟩

set_option maxHeartbeats 4000000 in
theorem applies_no1 (m v : Nat → Int) (w : World) (hm : Vc.wi 16777216 m 16 = false) :
    Calls Try.prog 3 #[.agg (Vc.ar (m)), .agg #[.int .i64 (v 0), .int .i64 (v 1), .int .i64 (v 2), .int .i64 (v 3)]] w fun e w' => e = .returned (.bool true) ∧ Kp w.heap.size w w' := by
  have HL := Lib.hid (La.new w m v 23 25)
  go_enter Try.func3, Try.ntmps3
  go_upto_region 2 with (first | (refine wpList_ld rfl _ rfl _ rfl m ?_ ?_; (with_reducible exact HL.out.m)) | (refine wpList_ld4 four_vec rfl _ rfl _ rfl v ?_ ?_; (with_reducible exact HL.out.v)) | (go_at_call 6; refine (apply_no1 m v _ hm).mono ?_; rintro e w1 ⟨rfl, hk⟩; have l2 := HL.out.call hk; clear HL hk; have HL := Lib.hid (l2.put (fun _ => 0) 25); clear l2))
  generalize hW : w1.alloc _ = W at *
  generalize hB : w1.heap.size = B at *
  clear hW hB
  have hE := run_eqV
  go_wp2_with (first | go_skip | (refine wpList_ld rfl _ rfl _ rfl m ?_ ?_; (with_reducible exact HL.out.m)) | (refine wpList_ld4 four_vec rfl _ rfl _ rfl (fun _ => 0) ?_ ?_; (with_reducible exact HL.out.u)) | (go_at_call 7; refine (rmay_any m _).mono ?_; rintro e w' ⟨rfl, hk⟩; have l2 := HL.out.call hk; clear HL hk; have HL := Lib.hid l2; clear l2) | (go_at_call 9; refine (awake_any _).mono ?_; rintro e w' ⟨rfl, hk⟩; have l2 := HL.out.call hk; clear HL hk; have HL := Lib.hid l2; clear l2))
  go_ret
  exact ⟨rfl, HL.out.k⟩

set_option maxHeartbeats 4000000 in
theorem applies_no2 (m v : Nat → Int) (w : World) (hm : Vc.wi 16777216 m 16 = true) (hv : Vc.wi 1073741824 v 4 = false) :
    Calls Try.prog 3 #[.agg (Vc.ar (m)), .agg #[.int .i64 (v 0), .int .i64 (v 1), .int .i64 (v 2), .int .i64 (v 3)]] w fun e w' => e = .returned (.bool true) ∧ Kp w.heap.size w w' := by
  have HL := Lib.hid (La.new w m v 23 25)
  go_enter Try.func3, Try.ntmps3
  go_upto_region 2 with (first | (refine wpList_ld rfl _ rfl _ rfl m ?_ ?_; (with_reducible exact HL.out.m)) | (refine wpList_ld4 four_vec rfl _ rfl _ rfl v ?_ ?_; (with_reducible exact HL.out.v)) | (go_at_call 6; refine (apply_no2 m v _ hm hv).mono ?_; rintro e w1 ⟨rfl, hk⟩; have l2 := HL.out.call hk; clear HL hk; have HL := Lib.hid (l2.put (fun _ => 0) 25); clear l2))
  generalize hW : w1.alloc _ = W at *
  generalize hB : w1.heap.size = B at *
  clear hW hB
  have hE := run_eqV
  go_wp2_with (first | go_skip | (refine wpList_ld rfl _ rfl _ rfl m ?_ ?_; (with_reducible exact HL.out.m)) | (refine wpList_ld4g four_vec rfl _ rfl _ rfl v ?_ ?_; (with_reducible exact HL.out.v)) | (refine wpList_ld4 four_vec rfl _ rfl _ rfl (fun _ => 0) ?_ ?_; (with_reducible exact HL.out.u)) | (go_at_call 7; refine (rmay_any m _).mono ?_; rintro e w' ⟨rfl, hk⟩; have l2 := HL.out.call hk; clear HL hk; have HL := Lib.hid l2; clear l2) | (go_at_call 8; refine (rfits_any v _).mono ?_; rintro e w' ⟨rfl, hk⟩; have l2 := HL.out.call hk; clear HL hk; have HL := Lib.hid l2; clear l2) | (go_at_call 9; refine (awake_any _).mono ?_; rintro e w' ⟨rfl, hk⟩; have l2 := HL.out.call hk; clear HL hk; have HL := Lib.hid l2; clear l2))
  go_ret
  exact ⟨rfl, HL.out.k⟩

set_option linter.unusedSimpArgs false in
set_option maxHeartbeats 4000000 in
theorem applies_yes (m v : Nat → Int) (w : World) (hm : Vc.wi 16777216 m 16 = true) (hv : Vc.wi 1073741824 v 4 = true) :
    Calls Try.prog 3 #[.agg (Vc.ar (m)), .agg #[.int .i64 (v 0), .int .i64 (v 1), .int .i64 (v 2), .int .i64 (v 3)]] w fun e w' => e = .returned (.bool true) ∧ Kp w.heap.size w w' := by
  have HM := Lib.hid (Vc.wi_all hm)
  have HV := Lib.hid (Vc.wi_all hv)
  have HL := Lib.hid (La.new w m v 23 25)
  go_enter Try.func3, Try.ntmps3
  go_upto_region 2 with (first | (refine wpList_ld rfl _ rfl _ rfl m ?_ ?_; (with_reducible exact HL.out.m)) | (refine wpList_ld4 four_vec rfl _ rfl _ rfl v ?_ ?_; (with_reducible exact HL.out.v)) | (go_at_call 6; refine (apply_yes m v _ hm hv).mono ?_; rintro e w1 ⟨rfl, hk⟩; have l2 := HL.out.call hk; clear HL hk; have HL := Lib.hid (l2.put (Vc.app m v) 25); clear l2))
  generalize hW : w1.alloc _ = W at *
  generalize hB : w1.heap.size = B at *
  clear hW hB
  have hE := run_eqV
  go_upto_region 4 with (first | go_skip | (refine wpList_ld rfl _ rfl _ rfl m ?_ ?_; (with_reducible exact HL.out.m)) | (refine wpList_ld4g four_vec rfl _ rfl _ rfl v ?_ ?_; (with_reducible exact HL.out.v)) | (go_at_call 7; refine (rmay_any m _).mono ?_; rintro e w' ⟨rfl, hk⟩; have l2 := HL.out.call hk; clear HL hk; have HL := Lib.hid l2; clear l2) | (go_at_call 8; refine (rfits_any v _).mono ?_; rintro e w' ⟨rfl, hk⟩; have l2 := HL.out.call hk; clear HL hk; have HL := Lib.hid l2; clear l2))
  refine Rg.region (I := fun _ W => La w W m v B (Vc.app m v)) (dem := fun _ => false) (m := 12) (g := 1) (T := fun listed bs a => ∀ W, La w W m v B (Vc.app m v) → wpAny Try.prog .any _ _ 1 listed a W) (by kernel_rfl) HL.out.drew rfl (fun _ _ _ _ h hI => h _ hI) ?_
  refine Rg.take 0 (v := .agg #[.int .i64 (Vc.app m v 0), .int .i64 (Vc.app m v 1), .int .i64 (Vc.app m v 2), .int .i64 (Vc.app m v 3)]) rfl rfl (by kernel_rfl) (by kernel_rfl) (by kernel_rfl) (by kernel_rfl) (by kernel_rfl) (.inl ⟨rfl, fun bs wq hI => ?_⟩) ?_
  · exact quiet_ld4 four_vec (b := B) (f := Vc.app m v) (.tmp 5) rfl rfl hI.u
  simp only [Act.put, List.getElem_toArray, List.getElem_cons_zero, List.getElem_cons_succ, List.setIfInBounds_toArray, List.set_cons_zero, List.set_cons_succ]
  refine Rg.take 1 (v := .agg (Vc.ar m)) rfl rfl (by kernel_rfl) (by kernel_rfl) (by kernel_rfl) (by kernel_rfl) (by kernel_rfl) (.inl ⟨rfl, fun bs wq hI => ?_⟩) ?_
  · exact quiet_ldM (b := w.heap.size) (.tmp 2) rfl rfl hI.m
  simp only [Act.put, List.getElem_toArray, List.getElem_cons_zero, List.getElem_cons_succ, List.setIfInBounds_toArray, List.set_cons_zero, List.set_cons_succ]
  refine Rg.take 2 (v := .agg #[.int .i64 (v 0), .int .i64 (v 1), .int .i64 (v 2), .int .i64 (v 3)]) rfl rfl (by kernel_rfl) (by kernel_rfl) (by kernel_rfl) (by kernel_rfl) (by kernel_rfl) (.inl ⟨rfl, fun bs wq hI => ?_⟩) ?_
  · exact quiet_ld4 four_vec (b := w.heap.size + 1) (f := v) (.tmp 3) rfl rfl hI.v
  simp only [Act.put, List.getElem_toArray, List.getElem_cons_zero, List.getElem_cons_succ, List.setIfInBounds_toArray, List.set_cons_zero, List.set_cons_succ]
  refine Rg.take 3 (v := .agg #[.int .i64 (Vc.app m v 0), .int .i64 (Vc.app m v 1), .int .i64 (Vc.app m v 2), .int .i64 (Vc.app m v 3)]) rfl rfl (by kernel_rfl) (by kernel_rfl) (by kernel_rfl) (by kernel_rfl) (by kernel_rfl) (.inl ⟨rfl, fun bs wq hI => ?_⟩) ?_
  · (go_simp; exact (rapply_any m v _ HM.out HV.out).mono fun e w2 h => ⟨h.1, hI.call h.2⟩)
  simp only [Act.put, List.getElem_toArray, List.getElem_cons_zero, List.getElem_cons_succ, List.setIfInBounds_toArray, List.set_cons_zero, List.set_cons_succ]
  refine Rg.take 4 (v := .bool true) rfl rfl (by kernel_rfl) (by kernel_rfl) (by kernel_rfl) (by kernel_rfl) (by kernel_rfl) (.inl ⟨rfl, fun bs wq hI => ?_⟩) ?_
  · go_simp
  simp only [Act.put, List.getElem_toArray, List.getElem_cons_zero, List.getElem_cons_succ, List.setIfInBounds_toArray, List.set_cons_zero, List.set_cons_succ]
  refine Rg.take 5 (v := .bool true) rfl rfl (by kernel_rfl) (by kernel_rfl) (by kernel_rfl) (by kernel_rfl) (by kernel_rfl) (.inl ⟨rfl, fun bs wq hI => ?_⟩) ?_
  · go_simp
  simp only [Act.put, List.getElem_toArray, List.getElem_cons_zero, List.getElem_cons_succ, List.setIfInBounds_toArray, List.set_cons_zero, List.set_cons_succ]
  refine Rg.take 6 (v := .int .i64 0) rfl rfl (by kernel_rfl) (by kernel_rfl) (by kernel_rfl) (by kernel_rfl) (by kernel_rfl) (.inl ⟨rfl, fun bs wq hI => ?_⟩) ?_
  · go_simp
  simp only [Act.put, List.getElem_toArray, List.getElem_cons_zero, List.getElem_cons_succ, List.setIfInBounds_toArray, List.set_cons_zero, List.set_cons_succ]
  refine Rg.take 7 (v := .bool true) rfl rfl (by kernel_rfl) (by kernel_rfl) (by kernel_rfl) (by kernel_rfl) (by kernel_rfl) (.inl ⟨rfl, fun bs wq hI => ?_⟩) ?_
  · go_simp
  simp only [Act.put, List.getElem_toArray, List.getElem_cons_zero, List.getElem_cons_succ, List.setIfInBounds_toArray, List.set_cons_zero, List.set_cons_succ]
  refine Rg.take 8 (v := .bool true) rfl rfl (by kernel_rfl) (by kernel_rfl) (by kernel_rfl) (by kernel_rfl) (by kernel_rfl) (.inl ⟨rfl, fun bs wq hI => ?_⟩) ?_
  · go_simp
  simp only [Act.put, List.getElem_toArray, List.getElem_cons_zero, List.getElem_cons_succ, List.setIfInBounds_toArray, List.set_cons_zero, List.set_cons_succ]
  refine Rg.take 9 (v := .bool true) rfl rfl (by kernel_rfl) (by kernel_rfl) (by kernel_rfl) (by kernel_rfl) (by kernel_rfl) (.inl ⟨rfl, fun bs wq hI => ?_⟩) ?_
  · go_simp
  simp only [Act.put, List.getElem_toArray, List.getElem_cons_zero, List.getElem_cons_succ, List.setIfInBounds_toArray, List.set_cons_zero, List.set_cons_succ]
  refine Rg.take 10 (v := .bool true) rfl rfl (by kernel_rfl) (by kernel_rfl) (by kernel_rfl) (by kernel_rfl) (by kernel_rfl) (.inl ⟨rfl, fun bs wq hI => ?_⟩) ?_
  · (go_simp; exact (awake_any _).mono fun e w2 h => ⟨h.1, hI.call h.2⟩)
  simp only [Act.put, List.getElem_toArray, List.getElem_cons_zero, List.getElem_cons_succ, List.setIfInBounds_toArray, List.set_cons_zero, List.set_cons_succ]
  refine Rg.take 11 (v := .bool true) rfl rfl (by kernel_rfl) (by kernel_rfl) (by kernel_rfl) (by kernel_rfl) (by kernel_rfl) (.inl ⟨rfl, fun bs wq hI => ?_⟩) ?_
  · go_simp
  simp only [Act.put, List.getElem_toArray, List.getElem_cons_zero, List.getElem_cons_succ, List.setIfInBounds_toArray, List.set_cons_zero, List.set_cons_succ]
  refine Rg.done (rs := [12]) (by kernel_rfl) (by decide) (fun W hI => ?_)
  have KK := Lib.hid hI.k
  clear hI
  refine wpAny_ready (rs := [12]) (by kernel_rfl) (by simp) (AllReady.cons (o := _) rfl (fun K hK => ?_) AllReady.nil)
  go_simp
  refine hK _ _ ?_
  clear hK K
  refine wpAny_done (by kernel_rfl) ?_ _
  go_wp2_with fail
  go_ret
  exact ⟨rfl, KK.out⟩

theorem applies_walk (m v : Nat → Int) (w : World) :
    Calls Try.prog 3 #[.agg (Vc.ar (m)), .agg #[.int .i64 (v 0), .int .i64 (v 1), .int .i64 (v 2), .int .i64 (v 3)]] w fun e w' => e = .returned (.bool true) ∧ Kp w.heap.size w w' := by
  cases hm : Vc.wi 16777216 m 16
  · exact applies_no1 m v w hm
  · cases hv : Vc.wi 1073741824 v 4
    · exact applies_no2 m v w hm hv
    · exact applies_yes m v w hm hv
end Go.Proofs.Ytbhdmfoigilibaa
