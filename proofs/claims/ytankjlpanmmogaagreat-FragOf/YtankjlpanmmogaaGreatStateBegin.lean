/-
  Contracts of layer 18 (state): Begin.
-/
import Derived.Test.YtankjlpanmmogaaGreatStateIdn
import Derived.Test.YtankjlpanmmogaaGreatJRegionOw
import Derived.BigGuard
namespace Go.Proofs.YtankjlpanmmogaaGreat
set_option maxRecDepth 100000
open Go.RowKit

set_option linter.unusedSimpArgs false in
set_option maxRecDepth 100000 in
set_option maxHeartbeats 8000000 in
theorem begin_no (x y : Int) (w : World) (h : Tl.is x y = false) :
    Calls Tryz.prog 11 #[.int .i64 x, .int .i64 y] w fun e w' => e = .returned (.tuple #[.agg #[.int .i64 ((Sx.zero) 0), .int .i64 ((Sx.zero) 1), .int .i64 ((Sx.zero) 2), .int .i64 ((Sx.zero) 3), .int .i64 ((Sx.zero) 4), .int .i64 ((Sx.zero) 5), .int .i64 ((Sx.zero) 6), .int .i64 ((Sx.zero) 7), .int .i64 ((Sx.zero) 8), .int .i64 ((Sx.zero) 9), .int .i64 ((Sx.zero) 10), .int .i64 ((Sx.zero) 11), .int .i64 ((Sx.zero) 12), .int .i64 ((Sx.zero) 13), .int .i64 ((Sx.zero) 14), .int .i64 ((Sx.zero) 15), .int .i64 ((Sx.zero) 16), .int .i64 ((Sx.zero) 17), .int .i64 ((Sx.zero) 18), .int .i64 ((Sx.zero) 19), .int .i64 ((Sx.zero) 20), .int .i64 ((Sx.zero) 21), .int .i64 ((Sx.zero) 22), .int .i64 ((Sx.zero) 23), .int .i64 ((Sx.zero) 24), .bool false, .int .i64 ((Sx.zero) 26), .int .i64 ((Sx.zero) 27), .int .i64 ((Sx.zero) 28), .int .i64 ((Sx.zero) 29), .int .i64 ((Sx.zero) 30), .int .i64 ((Sx.zero) 31), .int .i64 ((Sx.zero) 32), .int .i64 ((Sx.zero) 33), .int .i64 ((Sx.zero) 34), .int .i64 ((Sx.zero) 35), .int .i64 ((Sx.zero) 36), .int .i64 ((Sx.zero) 37), .int .i64 ((Sx.zero) 38), .int .i64 ((Sx.zero) 39), .bool false], .int .i64 3]) ∧ Kp w.heap.size w w' := by
  have W1 := fun W => swithin_any 1 256 x W
  have W2 := fun W => swithin_any 1 256 y W
  have he : Tl.is x y = (Sx.wi 1 256 x && Sx.wi 1 256 y) := rfl
  rw [he] at h
  clear he
  have HO := Lib.hid ((Ow.refl w).newAt (w.heap.size) rfl (.int .i64 0) [.int .i64 0, .int .i64 0, .int .i64 0, .int .i64 0, .int .i64 0, .int .i64 0, .int .i64 0, .int .i64 0, .int .i64 0, .int .i64 0, .int .i64 0, .int .i64 0, .int .i64 0, .int .i64 0, .int .i64 0, .int .i64 0, .int .i64 0, .int .i64 0, .int .i64 0, .int .i64 0, .int .i64 0, .int .i64 0, .int .i64 0, .int .i64 0, .bool false, .int .i64 0, .int .i64 0, .int .i64 0, .int .i64 0, .int .i64 0, .int .i64 0, .int .i64 0, .int .i64 0, .int .i64 0, .int .i64 0, .int .i64 0, .int .i64 0, .int .i64 0, .int .i64 0, .bool false] 49)
  cases h1 : Sx.wi 1 256 x
  · rw [h1] at W1
    clear h h1
    go_enter Tryz.func11, Tryz.ntmps11
    go_wp2_with (first
      | go_big_skip
      | (go_at_call 29; (with_reducible refine (W1 _).mono ?_); rintro e w' ⟨rfl, rfl⟩)
      | (go_at_call 29; (with_reducible refine (W2 _).mono ?_); rintro e w' ⟨rfl, rfl⟩)
      | ((with_reducible show wpList _ _ _ ({ dst := _, op := Op.store 49 (Operand.tmp 4) _, type := _, pos := _, after := _, guard := _ } :: _) _ _); refine wpList_sto ty_state HO.out 0 [.int .i64 0, .int .i64 0, .int .i64 0, .int .i64 0, .int .i64 0, .int .i64 0, .int .i64 0, .int .i64 0, .int .i64 0, .int .i64 0, .int .i64 0, .int .i64 0, .int .i64 0, .int .i64 0, .int .i64 0, .int .i64 0, .int .i64 0, .int .i64 0, .int .i64 0, .int .i64 0, .int .i64 0, .int .i64 0, .int .i64 0, .int .i64 0, .int .i64 0, .bool false, .int .i64 0, .int .i64 0, .int .i64 0, .int .i64 0, .int .i64 0, .int .i64 0, .int .i64 0, .int .i64 0, .int .i64 0, .int .i64 0, .int .i64 0, .int .i64 0, .int .i64 0, .int .i64 0, .bool false] rfl _ _ rfl _ rfl rfl _ rfl rfl rfl rfl ?_; intro w2 l2; clear HO; have HO := Lib.hid l2; clear l2))
    exact bodyPost_ret (results_c2 ty_state rfl rfl rfl rfl (HO.out.at 0 rfl)) rfl ⟨rfl, HO.out.k⟩
  · rw [h1, Bool.true_and] at h
    rw [h1] at W1
    rw [h] at W2
    clear h h1
    go_enter Tryz.func11, Tryz.ntmps11
    go_wp2_with (first
      | go_big_skip
      | (go_at_call 29; (with_reducible refine (W1 _).mono ?_); rintro e w' ⟨rfl, rfl⟩)
      | (go_at_call 29; (with_reducible refine (W2 _).mono ?_); rintro e w' ⟨rfl, rfl⟩)
      | ((with_reducible show wpList _ _ _ ({ dst := _, op := Op.store 49 (Operand.tmp 4) _, type := _, pos := _, after := _, guard := _ } :: _) _ _); refine wpList_sto ty_state HO.out 0 [.int .i64 0, .int .i64 0, .int .i64 0, .int .i64 0, .int .i64 0, .int .i64 0, .int .i64 0, .int .i64 0, .int .i64 0, .int .i64 0, .int .i64 0, .int .i64 0, .int .i64 0, .int .i64 0, .int .i64 0, .int .i64 0, .int .i64 0, .int .i64 0, .int .i64 0, .int .i64 0, .int .i64 0, .int .i64 0, .int .i64 0, .int .i64 0, .int .i64 0, .bool false, .int .i64 0, .int .i64 0, .int .i64 0, .int .i64 0, .int .i64 0, .int .i64 0, .int .i64 0, .int .i64 0, .int .i64 0, .int .i64 0, .int .i64 0, .int .i64 0, .int .i64 0, .int .i64 0, .bool false] rfl _ _ rfl _ rfl rfl _ rfl rfl rfl rfl ?_; intro w2 l2; clear HO; have HO := Lib.hid l2; clear l2))
    exact bodyPost_ret (results_c2 ty_state rfl rfl rfl rfl (HO.out.at 0 rfl)) rfl ⟨rfl, HO.out.k⟩
set_option linter.unusedSimpArgs false in
set_option maxRecDepth 100000 in
set_option maxHeartbeats 8000000 in
theorem begin_yes (x y : Int) (w : World) (h : Tl.is x y = true) :
    Calls Tryz.prog 11 #[.int .i64 x, .int .i64 y] w fun e w' => e = .returned (.tuple #[.agg #[.int .i64 ((Sx.beg x y) 0), .int .i64 ((Sx.beg x y) 1), .int .i64 ((Sx.beg x y) 2), .int .i64 ((Sx.beg x y) 3), .int .i64 ((Sx.beg x y) 4), .int .i64 ((Sx.beg x y) 5), .int .i64 ((Sx.beg x y) 6), .int .i64 ((Sx.beg x y) 7), .int .i64 ((Sx.beg x y) 8), .int .i64 ((Sx.beg x y) 9), .int .i64 ((Sx.beg x y) 10), .int .i64 ((Sx.beg x y) 11), .int .i64 ((Sx.beg x y) 12), .int .i64 ((Sx.beg x y) 13), .int .i64 ((Sx.beg x y) 14), .int .i64 ((Sx.beg x y) 15), .int .i64 ((Sx.beg x y) 16), .int .i64 ((Sx.beg x y) 17), .int .i64 ((Sx.beg x y) 18), .int .i64 ((Sx.beg x y) 19), .int .i64 ((Sx.beg x y) 20), .int .i64 ((Sx.beg x y) 21), .int .i64 ((Sx.beg x y) 22), .int .i64 ((Sx.beg x y) 23), .int .i64 ((Sx.beg x y) 24), .bool true, .int .i64 ((Sx.beg x y) 26), .int .i64 ((Sx.beg x y) 27), .int .i64 ((Sx.beg x y) 28), .int .i64 ((Sx.beg x y) 29), .int .i64 ((Sx.beg x y) 30), .int .i64 ((Sx.beg x y) 31), .int .i64 ((Sx.beg x y) 32), .int .i64 ((Sx.beg x y) 33), .int .i64 ((Sx.beg x y) 34), .int .i64 ((Sx.beg x y) 35), .int .i64 ((Sx.beg x y) 36), .int .i64 ((Sx.beg x y) 37), .int .i64 ((Sx.beg x y) 38), .int .i64 ((Sx.beg x y) 39), .bool false], .int .i64 0]) ∧ Kp w.heap.size w w' := by
  have W1 := fun W => swithin_any 1 256 x W
  have W2 := fun W => swithin_any 1 256 y W
  have he : Tl.is x y = (Sx.wi 1 256 x && Sx.wi 1 256 y) := rfl
  rw [he, Bool.and_eq_true] at h
  rw [h.1] at W1
  rw [h.2] at W2
  clear he h
  have HO := Lib.hid (((Ow.refl w).newAt (w.heap.size) rfl (.int .i64 0) [.int .i64 0, .int .i64 0, .int .i64 0, .int .i64 0, .int .i64 0, .int .i64 0, .int .i64 0, .int .i64 0, .int .i64 0, .int .i64 0, .int .i64 0, .int .i64 0, .int .i64 0, .int .i64 0, .int .i64 0, .int .i64 0, .int .i64 0, .int .i64 0, .int .i64 0, .int .i64 0, .int .i64 0, .int .i64 0, .int .i64 0, .int .i64 0, .bool false, .int .i64 0, .int .i64 0, .int .i64 0, .int .i64 0, .int .i64 0, .int .i64 0, .int .i64 0, .int .i64 0, .int .i64 0, .int .i64 0, .int .i64 0, .int .i64 0, .int .i64 0, .int .i64 0, .bool false] 49).newAt (w.heap.size + 1) (by simp) (.int .i64 0) [.int .i64 0, .int .i64 x, .int .i64 y] 36)
  go_enter Tryz.func11, Tryz.ntmps11
  go_upto_region 4 with (first
      | go_big_skip
      | (go_at_call 29; (with_reducible refine (W1 _).mono ?_); rintro e w' ⟨rfl, rfl⟩)
      | (go_at_call 29; (with_reducible refine (W2 _).mono ?_); rintro e w' ⟨rfl, rfl⟩))
  have HO2 := Lib.hid HO.out.swap
  have HK : Hid ((w.heap.size + 1, [.int .i64 0, .int .i64 0, .int .i64 x, .int .i64 y]) ∈ ([(w.heap.size + 1, [.int .i64 0, .int .i64 0, .int .i64 x, .int .i64 y])] : List (Nat × List Value))) := Lib.hid (by simp)
  refine Rg2.region (σ := List (Nat × List Value)) (I := Rg2.Io w [(w.heap.size + 1, [.int .i64 0, .int .i64 0, .int .i64 x, .int .i64 y])]) (mk := fun b s => (b, [.int .i64 0]) :: s) (dem := fun i => i == 6) (m := 8) (g := 0) (T := fun listed s st => ∀ W, Rg2.Io w [(w.heap.size + 1, [.int .i64 0, .int .i64 0, .int .i64 x, .int .i64 y])] s W → wpAny Tryz.prog .any _ _ 0 listed st W) [(w.heap.size, [.int .i64 0, .int .i64 0, .int .i64 0, .int .i64 0, .int .i64 0, .int .i64 0, .int .i64 0, .int .i64 0, .int .i64 0, .int .i64 0, .int .i64 0, .int .i64 0, .int .i64 0, .int .i64 0, .int .i64 0, .int .i64 0, .int .i64 0, .int .i64 0, .int .i64 0, .int .i64 0, .int .i64 0, .int .i64 0, .int .i64 0, .int .i64 0, .int .i64 0, .bool false, .int .i64 0, .int .i64 0, .int .i64 0, .int .i64 0, .int .i64 0, .int .i64 0, .int .i64 0, .int .i64 0, .int .i64 0, .int .i64 0, .int .i64 0, .int .i64 0, .int .i64 0, .int .i64 0, .bool false])] (by kernel_rfl) (show Rg2.Io w [(w.heap.size + 1, [.int .i64 0, .int .i64 0, .int .i64 x, .int .i64 y])] [(w.heap.size, [.int .i64 0, .int .i64 0, .int .i64 0, .int .i64 0, .int .i64 0, .int .i64 0, .int .i64 0, .int .i64 0, .int .i64 0, .int .i64 0, .int .i64 0, .int .i64 0, .int .i64 0, .int .i64 0, .int .i64 0, .int .i64 0, .int .i64 0, .int .i64 0, .int .i64 0, .int .i64 0, .int .i64 0, .int .i64 0, .int .i64 0, .int .i64 0, .int .i64 0, .bool false, .int .i64 0, .int .i64 0, .int .i64 0, .int .i64 0, .int .i64 0, .int .i64 0, .int .i64 0, .int .i64 0, .int .i64 0, .int .i64 0, .int .i64 0, .int .i64 0, .int .i64 0, .int .i64 0, .bool false])] _ from HO2.out.drew) rfl (fun _ _ _ _ h hI => h _ hI) ?_
  clear HO HO2
  refine Rg2.take 0 (v := .agg #[.int .i64 (Sx.idn 0), .int .i64 (Sx.idn 1), .int .i64 (Sx.idn 2), .int .i64 (Sx.idn 3), .int .i64 (Sx.idn 4), .int .i64 (Sx.idn 5), .int .i64 (Sx.idn 6), .int .i64 (Sx.idn 7), .int .i64 (Sx.idn 8), .int .i64 (Sx.idn 9), .int .i64 (Sx.idn 10), .int .i64 (Sx.idn 11), .int .i64 (Sx.idn 12), .int .i64 (Sx.idn 13), .int .i64 (Sx.idn 14), .int .i64 (Sx.idn 15)]) rfl rfl (by kernel_rfl) (by kernel_rfl) (by kernel_rfl) (by kernel_rfl) (by kernel_rfl) (.inl ⟨rfl, fun bs wq hI => ?_⟩) ?_
  · (go_simp; exact (identity_any _).mono fun e w2 h => ⟨h.1, hI.call h.2⟩)
  simp only [Act.put, List.getElem_toArray, List.getElem_cons_zero, List.getElem_cons_succ, List.setIfInBounds_toArray, List.set_cons_zero, List.set_cons_succ]
  refine Rg2.take 1 (v := .agg #[.int .i64 0, .int .i64 0, .int .i64 x, .int .i64 y]) rfl rfl (by kernel_rfl) (by kernel_rfl) (by kernel_rfl) (by kernel_rfl) (by kernel_rfl) (.inl ⟨rfl, fun bs wq hI => ?_⟩) ?_
  · exact quiet_ldr ty_rect (.tmp 6) rfl rfl rfl (hI.rc HK.out)
  simp only [Act.put, List.getElem_toArray, List.getElem_cons_zero, List.getElem_cons_succ, List.setIfInBounds_toArray, List.set_cons_zero, List.set_cons_succ]
  refine Rg2.take 2 (v := .agg #[.int .i64 0, .int .i64 0, .int .i64 x, .int .i64 y]) rfl rfl (by kernel_rfl) (by kernel_rfl) (by kernel_rfl) (by kernel_rfl) (by kernel_rfl) (.inl ⟨rfl, fun bs wq hI => ?_⟩) ?_
  · exact quiet_ldr ty_rect (.tmp 6) rfl rfl rfl (hI.rc HK.out)
  simp only [Act.put, List.getElem_toArray, List.getElem_cons_zero, List.getElem_cons_succ, List.setIfInBounds_toArray, List.set_cons_zero, List.set_cons_succ]
  refine Rg2.take 3 (v := .agg #[.int .i64 7, .int .i64 0, .int .i64 255, .int .i64 255, .int .i64 0, .int .i64 0, .int .i64 0]) rfl rfl (by kernel_rfl) (by kernel_rfl) (by kernel_rfl) (by kernel_rfl) (by kernel_rfl) (.inl ⟨rfl, fun bs wq hI => ?_⟩) ?_
  · (go_simp; exact (splain_any _).mono fun e w2 h => ⟨h.1, hI.call h.2⟩)
  simp only [Act.put, List.getElem_toArray, List.getElem_cons_zero, List.getElem_cons_succ, List.setIfInBounds_toArray, List.set_cons_zero, List.set_cons_succ]
  refine Rg2.take 4 (v := .agg #[.int .i64 1, .int .i64 0, .int .i64 0, .int .i64 15]) rfl rfl (by kernel_rfl) (by kernel_rfl) (by kernel_rfl) (by kernel_rfl) (by kernel_rfl) (.inl ⟨rfl, fun bs wq hI => ?_⟩) ?_
  · (go_simp; exact (bplain_any _).mono fun e w2 h => ⟨h.1, hI.call h.2⟩)
  simp only [Act.put, List.getElem_toArray, List.getElem_cons_zero, List.getElem_cons_succ, List.setIfInBounds_toArray, List.set_cons_zero, List.set_cons_succ]
  refine Rg2.take 5 (v := .agg #[.int .i64 (Sx.idn 0), .int .i64 (Sx.idn 1), .int .i64 (Sx.idn 2), .int .i64 (Sx.idn 3), .int .i64 (Sx.idn 4), .int .i64 (Sx.idn 5), .int .i64 (Sx.idn 6), .int .i64 (Sx.idn 7), .int .i64 (Sx.idn 8), .int .i64 (Sx.idn 9), .int .i64 (Sx.idn 10), .int .i64 (Sx.idn 11), .int .i64 (Sx.idn 12), .int .i64 (Sx.idn 13), .int .i64 (Sx.idn 14), .int .i64 (Sx.idn 15), .int .i64 0, .int .i64 0, .int .i64 x, .int .i64 y, .int .i64 0, .int .i64 0, .int .i64 x, .int .i64 y, .int .i64 7, .bool true, .int .i64 7, .int .i64 0, .int .i64 255, .int .i64 255, .int .i64 0, .int .i64 0, .int .i64 0, .int .i64 1, .int .i64 0, .int .i64 0, .int .i64 15, .int .i64 0, .int .i64 0, .int .i64 0, .bool false]) rfl rfl (by kernel_rfl) (by kernel_rfl) (by kernel_rfl) (by kernel_rfl) (by kernel_rfl) (.inl ⟨rfl, fun bs wq hI => ?_⟩) ?_
  · go_simp
  simp only [Act.put, List.getElem_toArray, List.getElem_cons_zero, List.getElem_cons_succ, List.setIfInBounds_toArray, List.set_cons_zero, List.set_cons_succ]
  refine Rg2.put1 6 (by kernel_rfl) rfl rfl (Rg2.puts_row ty_state 0 [.int .i64 (Sx.idn 0), .int .i64 (Sx.idn 1), .int .i64 (Sx.idn 2), .int .i64 (Sx.idn 3), .int .i64 (Sx.idn 4), .int .i64 (Sx.idn 5), .int .i64 (Sx.idn 6), .int .i64 (Sx.idn 7), .int .i64 (Sx.idn 8), .int .i64 (Sx.idn 9), .int .i64 (Sx.idn 10), .int .i64 (Sx.idn 11), .int .i64 (Sx.idn 12), .int .i64 (Sx.idn 13), .int .i64 (Sx.idn 14), .int .i64 (Sx.idn 15), .int .i64 0, .int .i64 0, .int .i64 x, .int .i64 y, .int .i64 0, .int .i64 0, .int .i64 x, .int .i64 y, .int .i64 7, .bool true, .int .i64 7, .int .i64 0, .int .i64 255, .int .i64 255, .int .i64 0, .int .i64 0, .int .i64 0, .int .i64 1, .int .i64 0, .int .i64 0, .int .i64 15, .int .i64 0, .int .i64 0, .int .i64 0, .bool false] rfl _ _ rfl _ rfl rfl _ rfl rfl rfl rfl) ?_
  simp only [Act.put, List.getElem_toArray, List.getElem_cons_zero, List.getElem_cons_succ, List.setIfInBounds_toArray, List.set_cons_zero, List.set_cons_succ]
  refine Rg2.take 7 (v := .int .i64 0) rfl rfl (by kernel_rfl) (by kernel_rfl) (by kernel_rfl) (by kernel_rfl) (by kernel_rfl) (.inl ⟨rfl, fun bs wq hI => ?_⟩) ?_
  · go_simp
  simp only [Act.put, List.getElem_toArray, List.getElem_cons_zero, List.getElem_cons_succ, List.setIfInBounds_toArray, List.set_cons_zero, List.set_cons_succ]
  refine Rg2.done (rs := []) (by kernel_rfl) (by decide) (fun W hI => ?_)
  have HO := Lib.hid (show Ow w W [(w.heap.size, [.int .i64 (Sx.idn 0), .int .i64 (Sx.idn 1), .int .i64 (Sx.idn 2), .int .i64 (Sx.idn 3), .int .i64 (Sx.idn 4), .int .i64 (Sx.idn 5), .int .i64 (Sx.idn 6), .int .i64 (Sx.idn 7), .int .i64 (Sx.idn 8), .int .i64 (Sx.idn 9), .int .i64 (Sx.idn 10), .int .i64 (Sx.idn 11), .int .i64 (Sx.idn 12), .int .i64 (Sx.idn 13), .int .i64 (Sx.idn 14), .int .i64 (Sx.idn 15), .int .i64 0, .int .i64 0, .int .i64 x, .int .i64 y, .int .i64 0, .int .i64 0, .int .i64 x, .int .i64 y, .int .i64 7, .bool true, .int .i64 7, .int .i64 0, .int .i64 255, .int .i64 255, .int .i64 0, .int .i64 0, .int .i64 0, .int .i64 1, .int .i64 0, .int .i64 0, .int .i64 15, .int .i64 0, .int .i64 0, .int .i64 0, .bool false]), (w.heap.size + 1, [.int .i64 0, .int .i64 0, .int .i64 x, .int .i64 y])] from hI)
  clear hI
  refine wpAny_done (by kernel_rfl) ?_ _
  go_wp2_with fail
  exact bodyPost_ret (results_c2 ty_state rfl rfl rfl rfl (HO.out.at 0 rfl)) rfl ⟨rfl, HO.out.k⟩
end Go.Proofs.YtankjlpanmmogaaGreat
