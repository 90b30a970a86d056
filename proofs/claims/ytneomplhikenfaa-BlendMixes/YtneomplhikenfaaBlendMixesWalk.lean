/-
  BlendMixes: its Go text returns true.
-/
import Derived.Test.YtneomplhikenfaaBlendMix
import Derived.Test.YtneomplhikenfaaBlendRef3
namespace Go.Proofs.Ytneomplhikenfaa
open Go.RowKit

set_option maxHeartbeats 2000000 in
theorem mixes_no1 (s d q m r g b a r' g' b' a' : Int) (w : World) (hc : (Bn.chk s d q m != 0) = true) :
    Calls Try.prog 3 #[.agg #[.int .i64 s, .int .i64 d, .int .i64 q, .int .i64 m], .agg #[.int .i64 r, .int .i64 g, .int .i64 b, .int .i64 a], .agg #[.int .i64 (r'), .int .i64 (g'), .int .i64 (b'), .int .i64 (a')]] w fun e w' => e = .returned (.bool true) ∧ Kp w.heap.size w w' := by
  have hE := run_eqC_same
  have HO := Lib.hid ((((Ow.refl w).newAt w.heap.size rfl (.int .i64 s) [.int .i64 d, .int .i64 q, .int .i64 m] 23).newAt (w.heap.size + 1) (by simp) (.int .i64 r) [.int .i64 g, .int .i64 b, .int .i64 a] 25).newAt (w.heap.size + 2) (by simp) (.int .i64 r') [.int .i64 g', .int .i64 b', .int .i64 a'] 25)
  go_enter Try.func3, Try.ntmps3
  go_upto_region 2 with (first | ((with_reducible show wpList _ _ _ ({ dst := _, op := Op.load 23 _, type := _, pos := _, after := _, guard := _ } :: _) _ _); refine wpList_ldr ty_blend rfl _ rfl _ rfl _ rfl (HO.out.at 2 rfl) ?_) | ((with_reducible show wpList _ _ _ ({ dst := _, op := Op.load 25 _, type := _, pos := _, after := _, guard := _ } :: _) _ _); refine wpList_ldr ty_color rfl _ rfl _ rfl _ rfl (HO.out.at 1 rfl) ?_) | ((with_reducible show wpList _ _ _ ({ dst := _, op := Op.load 25 _, type := _, pos := _, after := _, guard := _ } :: _) _ _); refine wpList_ldr ty_color rfl _ rfl _ rfl _ rfl (HO.out.at 0 rfl) ?_) | (go_at_call 6; refine (mix_no1 s d q m r g b a r' g' b' a' _ hc).mono ?_; rintro e w6 ⟨rfl, hk⟩; have l2 := (HO.out.call hk).newAt w6.heap.size rfl (.int .i64 0) [.int .i64 0, .int .i64 0, .int .i64 0] 25; clear HO hk; have HO := Lib.hid l2; clear l2))
  generalize hW : w6.alloc _ = W at *
  generalize hB : w6.heap.size = C at *
  clear hW hB
  go_wp2_with (first | go_skip | ((with_reducible show wpList _ _ _ ({ dst := _, op := Op.load 23 _, type := _, pos := _, after := _, guard := _ } :: _) _ _); refine wpList_ldr ty_blend rfl _ rfl _ rfl _ rfl (HO.out.at 3 rfl) ?_) | ((with_reducible show wpList _ _ _ ({ dst := _, op := Op.load 25 _, type := _, pos := _, after := _, guard := _ } :: _) _ _); refine wpList_ldr ty_color rfl _ rfl _ rfl _ rfl (HO.out.at 2 rfl) ?_) | ((with_reducible show wpList _ _ _ ({ dst := _, op := Op.load 25 _, type := _, pos := _, after := _, guard := _ } :: _) _ _); refine wpList_ldr ty_color rfl _ rfl _ rfl _ rfl (HO.out.at 1 rfl) ?_) | ((with_reducible show wpList _ _ _ ({ dst := _, op := Op.load 25 _, type := _, pos := _, after := _, guard := _ } :: _) _ _); refine wpList_ldr ty_color rfl _ rfl _ rfl _ rfl (HO.out.at 0 rfl) ?_) | (go_at_call 7; refine (rcheck_any s d q m _).mono ?_; rintro e w1 ⟨rfl, hk⟩; have l2 := HO.out.call hk; clear HO hk; have HO := Lib.hid l2; clear l2) | (go_at_call 8; refine (check_any s d q m _).mono ?_; rintro e w1 ⟨rfl, hk⟩; have l2 := HO.out.call hk; clear HO hk; have HO := Lib.hid l2; clear l2) | (go_at_call 10; (first | with_reducible refine (rright_any r g b a _).mono ?_ | with_reducible refine (rright_any r' g' b' a' _).mono ?_); rintro e w1 ⟨rfl, hk⟩; have l2 := HO.out.call hk; clear HO hk; have HO := Lib.hid l2; clear l2) | (go_at_call 9; refine (awake_any _).mono ?_; rintro e w1 ⟨rfl, hk⟩; have l2 := HO.out.call hk; clear HO hk; have HO := Lib.hid l2; clear l2))
  go_ret
  exact ⟨rfl, HO.out.k⟩
set_option maxHeartbeats 2000000 in
theorem mixes_no2 (s d q m r g b a r' g' b' a' : Int) (w : World) (hc : (Bn.chk s d q m != 0) = false) (h : Tn.right r g b a = false) :
    Calls Try.prog 3 #[.agg #[.int .i64 s, .int .i64 d, .int .i64 q, .int .i64 m], .agg #[.int .i64 r, .int .i64 g, .int .i64 b, .int .i64 a], .agg #[.int .i64 (r'), .int .i64 (g'), .int .i64 (b'), .int .i64 (a')]] w fun e w' => e = .returned (.bool true) ∧ Kp w.heap.size w w' := by
  have hE := run_eqC_same
  have HO := Lib.hid ((((Ow.refl w).newAt w.heap.size rfl (.int .i64 s) [.int .i64 d, .int .i64 q, .int .i64 m] 23).newAt (w.heap.size + 1) (by simp) (.int .i64 r) [.int .i64 g, .int .i64 b, .int .i64 a] 25).newAt (w.heap.size + 2) (by simp) (.int .i64 r') [.int .i64 g', .int .i64 b', .int .i64 a'] 25)
  go_enter Try.func3, Try.ntmps3
  go_upto_region 2 with (first | ((with_reducible show wpList _ _ _ ({ dst := _, op := Op.load 23 _, type := _, pos := _, after := _, guard := _ } :: _) _ _); refine wpList_ldr ty_blend rfl _ rfl _ rfl _ rfl (HO.out.at 2 rfl) ?_) | ((with_reducible show wpList _ _ _ ({ dst := _, op := Op.load 25 _, type := _, pos := _, after := _, guard := _ } :: _) _ _); refine wpList_ldr ty_color rfl _ rfl _ rfl _ rfl (HO.out.at 1 rfl) ?_) | ((with_reducible show wpList _ _ _ ({ dst := _, op := Op.load 25 _, type := _, pos := _, after := _, guard := _ } :: _) _ _); refine wpList_ldr ty_color rfl _ rfl _ rfl _ rfl (HO.out.at 0 rfl) ?_) | (go_at_call 6; refine (mix_no2 s d q m r g b a r' g' b' a' _ hc h).mono ?_; rintro e w6 ⟨rfl, hk⟩; have l2 := (HO.out.call hk).newAt w6.heap.size rfl (.int .i64 0) [.int .i64 0, .int .i64 0, .int .i64 0] 25; clear HO hk; have HO := Lib.hid l2; clear l2))
  generalize hW : w6.alloc _ = W at *
  generalize hB : w6.heap.size = C at *
  clear hW hB
  go_wp2_with (first | go_skip | ((with_reducible show wpList _ _ _ ({ dst := _, op := Op.load 23 _, type := _, pos := _, after := _, guard := _ } :: _) _ _); refine wpList_ldr ty_blend rfl _ rfl _ rfl _ rfl (HO.out.at 3 rfl) ?_) | ((with_reducible show wpList _ _ _ ({ dst := _, op := Op.load 25 _, type := _, pos := _, after := _, guard := _ } :: _) _ _); refine wpList_ldr ty_color rfl _ rfl _ rfl _ rfl (HO.out.at 2 rfl) ?_) | ((with_reducible show wpList _ _ _ ({ dst := _, op := Op.load 25 _, type := _, pos := _, after := _, guard := _ } :: _) _ _); refine wpList_ldr ty_color rfl _ rfl _ rfl _ rfl (HO.out.at 1 rfl) ?_) | ((with_reducible show wpList _ _ _ ({ dst := _, op := Op.load 25 _, type := _, pos := _, after := _, guard := _ } :: _) _ _); refine wpList_ldr ty_color rfl _ rfl _ rfl _ rfl (HO.out.at 0 rfl) ?_) | (go_at_call 7; refine (rcheck_any s d q m _).mono ?_; rintro e w1 ⟨rfl, hk⟩; have l2 := HO.out.call hk; clear HO hk; have HO := Lib.hid l2; clear l2) | (go_at_call 8; refine (check_any s d q m _).mono ?_; rintro e w1 ⟨rfl, hk⟩; have l2 := HO.out.call hk; clear HO hk; have HO := Lib.hid l2; clear l2) | (go_at_call 10; (first | with_reducible refine (rright_any r g b a _).mono ?_ | with_reducible refine (rright_any r' g' b' a' _).mono ?_); rintro e w1 ⟨rfl, hk⟩; have l2 := HO.out.call hk; clear HO hk; have HO := Lib.hid l2; clear l2) | (go_at_call 9; refine (awake_any _).mono ?_; rintro e w1 ⟨rfl, hk⟩; have l2 := HO.out.call hk; clear HO hk; have HO := Lib.hid l2; clear l2))
  go_ret
  exact ⟨rfl, HO.out.k⟩
set_option maxHeartbeats 2000000 in
theorem mixes_no3 (s d q m r g b a r' g' b' a' : Int) (w : World) (hc : (Bn.chk s d q m != 0) = false) (h : Tn.right r g b a = true) (h' : Tn.right r' g' b' a' = false) :
    Calls Try.prog 3 #[.agg #[.int .i64 s, .int .i64 d, .int .i64 q, .int .i64 m], .agg #[.int .i64 r, .int .i64 g, .int .i64 b, .int .i64 a], .agg #[.int .i64 (r'), .int .i64 (g'), .int .i64 (b'), .int .i64 (a')]] w fun e w' => e = .returned (.bool true) ∧ Kp w.heap.size w w' := by
  have hE := run_eqC_same
  have HO := Lib.hid ((((Ow.refl w).newAt w.heap.size rfl (.int .i64 s) [.int .i64 d, .int .i64 q, .int .i64 m] 23).newAt (w.heap.size + 1) (by simp) (.int .i64 r) [.int .i64 g, .int .i64 b, .int .i64 a] 25).newAt (w.heap.size + 2) (by simp) (.int .i64 r') [.int .i64 g', .int .i64 b', .int .i64 a'] 25)
  go_enter Try.func3, Try.ntmps3
  go_upto_region 2 with (first | ((with_reducible show wpList _ _ _ ({ dst := _, op := Op.load 23 _, type := _, pos := _, after := _, guard := _ } :: _) _ _); refine wpList_ldr ty_blend rfl _ rfl _ rfl _ rfl (HO.out.at 2 rfl) ?_) | ((with_reducible show wpList _ _ _ ({ dst := _, op := Op.load 25 _, type := _, pos := _, after := _, guard := _ } :: _) _ _); refine wpList_ldr ty_color rfl _ rfl _ rfl _ rfl (HO.out.at 1 rfl) ?_) | ((with_reducible show wpList _ _ _ ({ dst := _, op := Op.load 25 _, type := _, pos := _, after := _, guard := _ } :: _) _ _); refine wpList_ldr ty_color rfl _ rfl _ rfl _ rfl (HO.out.at 0 rfl) ?_) | (go_at_call 6; refine (mix_no3 s d q m r g b a r' g' b' a' _ hc h h').mono ?_; rintro e w6 ⟨rfl, hk⟩; have l2 := (HO.out.call hk).newAt w6.heap.size rfl (.int .i64 0) [.int .i64 0, .int .i64 0, .int .i64 0] 25; clear HO hk; have HO := Lib.hid l2; clear l2))
  generalize hW : w6.alloc _ = W at *
  generalize hB : w6.heap.size = C at *
  clear hW hB
  go_wp2_with (first | go_skip | ((with_reducible show wpList _ _ _ ({ dst := _, op := Op.load 23 _, type := _, pos := _, after := _, guard := _ } :: _) _ _); refine wpList_ldr ty_blend rfl _ rfl _ rfl _ rfl (HO.out.at 3 rfl) ?_) | ((with_reducible show wpList _ _ _ ({ dst := _, op := Op.load 25 _, type := _, pos := _, after := _, guard := _ } :: _) _ _); refine wpList_ldr ty_color rfl _ rfl _ rfl _ rfl (HO.out.at 2 rfl) ?_) | ((with_reducible show wpList _ _ _ ({ dst := _, op := Op.load 25 _, type := _, pos := _, after := _, guard := _ } :: _) _ _); refine wpList_ldr ty_color rfl _ rfl _ rfl _ rfl (HO.out.at 1 rfl) ?_) | ((with_reducible show wpList _ _ _ ({ dst := _, op := Op.load 25 _, type := _, pos := _, after := _, guard := _ } :: _) _ _); refine wpList_ldr ty_color rfl _ rfl _ rfl _ rfl (HO.out.at 0 rfl) ?_) | (go_at_call 7; refine (rcheck_any s d q m _).mono ?_; rintro e w1 ⟨rfl, hk⟩; have l2 := HO.out.call hk; clear HO hk; have HO := Lib.hid l2; clear l2) | (go_at_call 8; refine (check_any s d q m _).mono ?_; rintro e w1 ⟨rfl, hk⟩; have l2 := HO.out.call hk; clear HO hk; have HO := Lib.hid l2; clear l2) | (go_at_call 10; (first | with_reducible refine (rright_any r g b a _).mono ?_ | with_reducible refine (rright_any r' g' b' a' _).mono ?_); rintro e w1 ⟨rfl, hk⟩; have l2 := HO.out.call hk; clear HO hk; have HO := Lib.hid l2; clear l2) | (go_at_call 9; refine (awake_any _).mono ?_; rintro e w1 ⟨rfl, hk⟩; have l2 := HO.out.call hk; clear HO hk; have HO := Lib.hid l2; clear l2))
  go_ret
  exact ⟨rfl, HO.out.k⟩
set_option linter.unusedSimpArgs false in
set_option maxRecDepth 100000 in
set_option maxHeartbeats 8000000 in
theorem mixes_some (s d q m r g b a r' g' b' a' c0 c1 c2 c3 : Int) (w : World) (hc : (Bn.chk s d q m != 0) = false) (h : Tn.right r g b a = true) (h' : Tn.right r' g' b' a' = true) (hm : (m != 0) = true)
    (HM : ∀ W, Calls Try.prog 6 #[.agg #[.int .i64 s, .int .i64 d, .int .i64 q, .int .i64 m], .agg #[.int .i64 r, .int .i64 g, .int .i64 b, .int .i64 a], .agg #[.int .i64 (r'), .int .i64 (g'), .int .i64 (b'), .int .i64 (a')]] W fun e w' => e = .returned (.tuple #[.agg #[.int .i64 c0, .int .i64 c1, .int .i64 c2, .int .i64 c3], .int .i64 0]) ∧ Kp W.heap.size W w')
    (HR : ∀ W, Calls Try.prog 11 #[.agg #[.int .i64 s, .int .i64 d, .int .i64 q, .int .i64 m], .agg #[.int .i64 r, .int .i64 g, .int .i64 b, .int .i64 a], .agg #[.int .i64 (r'), .int .i64 (g'), .int .i64 (b'), .int .i64 (a')]] W fun e w' => e = .returned (.agg #[.int .i64 c0, .int .i64 c1, .int .i64 c2, .int .i64 c3]) ∧ Kp W.heap.size W w')
    (hr : Tn.right c0 c1 c2 c3 = true) :
    Calls Try.prog 3 #[.agg #[.int .i64 s, .int .i64 d, .int .i64 q, .int .i64 m], .agg #[.int .i64 r, .int .i64 g, .int .i64 b, .int .i64 a], .agg #[.int .i64 (r'), .int .i64 (g'), .int .i64 (b'), .int .i64 (a')]] w fun e w' => e = .returned (.bool true) ∧ Kp w.heap.size w w' := by
  have HM := Lib.hid HM
  have HR := Lib.hid HR
  have HC := Lib.hid hr
  clear hr
  have hE := run_eqC_same
  have HO := Lib.hid ((((Ow.refl w).newAt w.heap.size rfl (.int .i64 s) [.int .i64 d, .int .i64 q, .int .i64 m] 23).newAt (w.heap.size + 1) (by simp) (.int .i64 r) [.int .i64 g, .int .i64 b, .int .i64 a] 25).newAt (w.heap.size + 2) (by simp) (.int .i64 r') [.int .i64 g', .int .i64 b', .int .i64 a'] 25)
  go_enter Try.func3, Try.ntmps3
  go_upto_region 2 with (first | ((with_reducible show wpList _ _ _ ({ dst := _, op := Op.load 23 _, type := _, pos := _, after := _, guard := _ } :: _) _ _); refine wpList_ldr ty_blend rfl _ rfl _ rfl _ rfl (HO.out.at 2 rfl) ?_) | ((with_reducible show wpList _ _ _ ({ dst := _, op := Op.load 25 _, type := _, pos := _, after := _, guard := _ } :: _) _ _); refine wpList_ldr ty_color rfl _ rfl _ rfl _ rfl (HO.out.at 1 rfl) ?_) | ((with_reducible show wpList _ _ _ ({ dst := _, op := Op.load 25 _, type := _, pos := _, after := _, guard := _ } :: _) _ _); refine wpList_ldr ty_color rfl _ rfl _ rfl _ rfl (HO.out.at 0 rfl) ?_) | (go_at_call 6; refine (HM.out _).mono ?_; rintro e w6 ⟨rfl, hk⟩; have l2 := (HO.out.call hk).newAt w6.heap.size rfl (.int .i64 c0) [.int .i64 c1, .int .i64 c2, .int .i64 c3] 25; clear HO hk; have HO := Lib.hid l2; clear l2))
  generalize hW : w6.alloc _ = W at *
  generalize hB : w6.heap.size = C at *
  clear hW hB
  go_upto_region 9 with (first | go_skip | ((with_reducible show wpList _ _ _ ({ dst := _, op := Op.load 23 _, type := _, pos := _, after := _, guard := _ } :: _) _ _); refine wpList_ldr ty_blend rfl _ rfl _ rfl _ rfl (HO.out.at 3 rfl) ?_) | ((with_reducible show wpList _ _ _ ({ dst := _, op := Op.load 25 _, type := _, pos := _, after := _, guard := _ } :: _) _ _); refine wpList_ldr ty_color rfl _ rfl _ rfl _ rfl (HO.out.at 2 rfl) ?_) | ((with_reducible show wpList _ _ _ ({ dst := _, op := Op.load 25 _, type := _, pos := _, after := _, guard := _ } :: _) _ _); refine wpList_ldr ty_color rfl _ rfl _ rfl _ rfl (HO.out.at 1 rfl) ?_) | ((with_reducible show wpList _ _ _ ({ dst := _, op := Op.load 25 _, type := _, pos := _, after := _, guard := _ } :: _) _ _); refine wpList_ldr ty_color rfl _ rfl _ rfl _ rfl (HO.out.at 0 rfl) ?_) | (go_at_call 7; refine (rcheck_any s d q m _).mono ?_; rintro e w1 ⟨rfl, hk⟩; have l2 := HO.out.call hk; clear HO hk; have HO := Lib.hid l2; clear l2) | (go_at_call 8; refine (check_any s d q m _).mono ?_; rintro e w1 ⟨rfl, hk⟩; have l2 := HO.out.call hk; clear HO hk; have HO := Lib.hid l2; clear l2) | (go_at_call 10; (first | with_reducible refine (rright_any r g b a _).mono ?_ | with_reducible refine (rright_any r' g' b' a' _).mono ?_); rintro e w1 ⟨rfl, hk⟩; have l2 := HO.out.call hk; clear HO hk; have HO := Lib.hid l2; clear l2) | (go_at_call 9; refine (awake_any _).mono ?_; rintro e w1 ⟨rfl, hk⟩; have l2 := HO.out.call hk; clear HO hk; have HO := Lib.hid l2; clear l2))
  refine Rg.region (I := fun _ W => Ow w W [(C, [.int .i64 c0, .int .i64 c1, .int .i64 c2, .int .i64 c3]), (w.heap.size + 2, [.int .i64 r', .int .i64 g', .int .i64 b', .int .i64 a']), (w.heap.size + 1, [.int .i64 r, .int .i64 g, .int .i64 b, .int .i64 a]), (w.heap.size, [.int .i64 s, .int .i64 d, .int .i64 q, .int .i64 m])]) (dem := fun _ => false) (m := 28) (g := 0) (T := fun listed bs st => ∀ W, Ow w W [(C, [.int .i64 c0, .int .i64 c1, .int .i64 c2, .int .i64 c3]), (w.heap.size + 2, [.int .i64 r', .int .i64 g', .int .i64 b', .int .i64 a']), (w.heap.size + 1, [.int .i64 r, .int .i64 g, .int .i64 b, .int .i64 a]), (w.heap.size, [.int .i64 s, .int .i64 d, .int .i64 q, .int .i64 m])] → wpAny Try.prog .any _ _ 0 listed st W) (by kernel_rfl) HO.out.drew rfl (fun _ _ _ _ h hI => h _ hI) ?_
  clear HO
  refine Rg.take 0 (v := .int .i64 0) rfl rfl (by kernel_rfl) (by kernel_rfl) (by kernel_rfl) (by kernel_rfl) (by kernel_rfl) (.inl ⟨rfl, fun bs wq hI => ?_⟩) ?_
  · go_simp
  simp only [Act.put, List.getElem_toArray, List.getElem_cons_zero, List.getElem_cons_succ, List.setIfInBounds_toArray, List.set_cons_zero, List.set_cons_succ]
  refine Rg.take 1 (v := .bool true) rfl rfl (by kernel_rfl) (by kernel_rfl) (by kernel_rfl) (by kernel_rfl) (by kernel_rfl) (.inl ⟨rfl, fun bs wq hI => ?_⟩) ?_
  · go_simp
  simp only [Act.put, List.getElem_toArray, List.getElem_cons_zero, List.getElem_cons_succ, List.setIfInBounds_toArray, List.set_cons_zero, List.set_cons_succ]
  refine Rg.take 2 (v := .bool true) rfl rfl (by kernel_rfl) (by kernel_rfl) (by kernel_rfl) (by kernel_rfl) (by kernel_rfl) (.inl ⟨rfl, fun bs wq hI => ?_⟩) ?_
  · go_simp
  simp only [Act.put, List.getElem_toArray, List.getElem_cons_zero, List.getElem_cons_succ, List.setIfInBounds_toArray, List.set_cons_zero, List.set_cons_succ]
  refine Rg.take 3 (v := .agg #[.int .i64 c0, .int .i64 c1, .int .i64 c2, .int .i64 c3]) rfl rfl (by kernel_rfl) (by kernel_rfl) (by kernel_rfl) (by kernel_rfl) (by kernel_rfl) (.inl ⟨rfl, fun bs wq hI => ?_⟩) ?_
  · exact quiet_ldr ty_color (.tmp 7) rfl rfl rfl (hI.at 0 rfl)
  simp only [Act.put, List.getElem_toArray, List.getElem_cons_zero, List.getElem_cons_succ, List.setIfInBounds_toArray, List.set_cons_zero, List.set_cons_succ]
  refine Rg.take 4 (v := .agg #[.int .i64 s, .int .i64 d, .int .i64 q, .int .i64 m]) rfl rfl (by kernel_rfl) (by kernel_rfl) (by kernel_rfl) (by kernel_rfl) (by kernel_rfl) (.inl ⟨rfl, fun bs wq hI => ?_⟩) ?_
  · exact quiet_ldr ty_blend (.tmp 3) rfl rfl rfl (hI.at 3 rfl)
  simp only [Act.put, List.getElem_toArray, List.getElem_cons_zero, List.getElem_cons_succ, List.setIfInBounds_toArray, List.set_cons_zero, List.set_cons_succ]
  refine Rg.take 5 (v := .agg #[.int .i64 r, .int .i64 g, .int .i64 b, .int .i64 a]) rfl rfl (by kernel_rfl) (by kernel_rfl) (by kernel_rfl) (by kernel_rfl) (by kernel_rfl) (.inl ⟨rfl, fun bs wq hI => ?_⟩) ?_
  · exact quiet_ldr ty_color (.tmp 4) rfl rfl rfl (hI.at 2 rfl)
  simp only [Act.put, List.getElem_toArray, List.getElem_cons_zero, List.getElem_cons_succ, List.setIfInBounds_toArray, List.set_cons_zero, List.set_cons_succ]
  refine Rg.take 6 (v := .agg #[.int .i64 (r'), .int .i64 (g'), .int .i64 (b'), .int .i64 (a')]) rfl rfl (by kernel_rfl) (by kernel_rfl) (by kernel_rfl) (by kernel_rfl) (by kernel_rfl) (.inl ⟨rfl, fun bs wq hI => ?_⟩) ?_
  · exact quiet_ldr ty_color (.tmp 5) rfl rfl rfl (hI.at 1 rfl)
  simp only [Act.put, List.getElem_toArray, List.getElem_cons_zero, List.getElem_cons_succ, List.setIfInBounds_toArray, List.set_cons_zero, List.set_cons_succ]
  refine Rg.take 7 (v := .agg #[.int .i64 c0, .int .i64 c1, .int .i64 c2, .int .i64 c3]) rfl rfl (by kernel_rfl) (by kernel_rfl) (by kernel_rfl) (by kernel_rfl) (by kernel_rfl) (.inl ⟨rfl, fun bs wq hI => ?_⟩) ?_
  · (go_simp; exact (HR.out _).mono fun e w2 h => ⟨h.1, hI.call h.2⟩)
  simp only [Act.put, List.getElem_toArray, List.getElem_cons_zero, List.getElem_cons_succ, List.setIfInBounds_toArray, List.set_cons_zero, List.set_cons_succ]
  refine Rg.take 8 (v := .bool true) rfl rfl (by kernel_rfl) (by kernel_rfl) (by kernel_rfl) (by kernel_rfl) (by kernel_rfl) (.inl ⟨rfl, fun bs wq hI => ?_⟩) ?_
  · go_simp
  simp only [Act.put, List.getElem_toArray, List.getElem_cons_zero, List.getElem_cons_succ, List.setIfInBounds_toArray, List.set_cons_zero, List.set_cons_succ]
  refine Rg.take 9 (v := .bool true) rfl rfl (by kernel_rfl) (by kernel_rfl) (by kernel_rfl) (by kernel_rfl) (by kernel_rfl) (.inl ⟨rfl, fun bs wq hI => ?_⟩) ?_
  · go_simp
  simp only [Act.put, List.getElem_toArray, List.getElem_cons_zero, List.getElem_cons_succ, List.setIfInBounds_toArray, List.set_cons_zero, List.set_cons_succ]
  refine Rg.take 10 (v := .bool true) rfl rfl (by kernel_rfl) (by kernel_rfl) (by kernel_rfl) (by kernel_rfl) (by kernel_rfl) (.inl ⟨rfl, fun bs wq hI => ?_⟩) ?_
  · go_simp
  simp only [Act.put, List.getElem_toArray, List.getElem_cons_zero, List.getElem_cons_succ, List.setIfInBounds_toArray, List.set_cons_zero, List.set_cons_succ]
  refine Rg.take 11 (v := .agg #[.int .i64 c0, .int .i64 c1, .int .i64 c2, .int .i64 c3]) rfl rfl (by kernel_rfl) (by kernel_rfl) (by kernel_rfl) (by kernel_rfl) (by kernel_rfl) (.inl ⟨rfl, fun bs wq hI => ?_⟩) ?_
  · exact quiet_ldr ty_color (.tmp 7) rfl rfl rfl (hI.at 0 rfl)
  simp only [Act.put, List.getElem_toArray, List.getElem_cons_zero, List.getElem_cons_succ, List.setIfInBounds_toArray, List.set_cons_zero, List.set_cons_succ]
  refine Rg.take 12 (v := .bool true) rfl rfl (by kernel_rfl) (by kernel_rfl) (by kernel_rfl) (by kernel_rfl) (by kernel_rfl) (.inl ⟨rfl, fun bs wq hI => ?_⟩) ?_
  · (go_simp; exact (rright_any c0 c1 c2 c3 _).mono fun e w2 h => ⟨by rw [h.1, HC.out], hI.call h.2⟩)
  simp only [Act.put, List.getElem_toArray, List.getElem_cons_zero, List.getElem_cons_succ, List.setIfInBounds_toArray, List.set_cons_zero, List.set_cons_succ]
  refine Rg.take 13 (v := .bool true) rfl rfl (by kernel_rfl) (by kernel_rfl) (by kernel_rfl) (by kernel_rfl) (by kernel_rfl) (.inl ⟨rfl, fun bs wq hI => ?_⟩) ?_
  · go_simp
  simp only [Act.put, List.getElem_toArray, List.getElem_cons_zero, List.getElem_cons_succ, List.setIfInBounds_toArray, List.set_cons_zero, List.set_cons_succ]
  refine Rg.take 14 (v := .bool true) rfl rfl (by kernel_rfl) (by kernel_rfl) (by kernel_rfl) (by kernel_rfl) (by kernel_rfl) (.inl ⟨rfl, fun bs wq hI => ?_⟩) ?_
  · go_simp
  simp only [Act.put, List.getElem_toArray, List.getElem_cons_zero, List.getElem_cons_succ, List.setIfInBounds_toArray, List.set_cons_zero, List.set_cons_succ]
  refine Rg.take 15 (v := .pointer (some ⟨w.heap.size, 3, none⟩)) rfl rfl (by kernel_rfl) (by kernel_rfl) (by kernel_rfl) (by kernel_rfl) (by kernel_rfl) (.inl ⟨rfl, fun bs wq hI => ?_⟩) ?_
  · go_simp
  simp only [Act.put, List.getElem_toArray, List.getElem_cons_zero, List.getElem_cons_succ, List.setIfInBounds_toArray, List.set_cons_zero, List.set_cons_succ]
  refine Rg.take 16 (v := .int .i64 m) rfl rfl (by kernel_rfl) (by kernel_rfl) (by kernel_rfl) (by kernel_rfl) (by kernel_rfl) (.inl ⟨rfl, fun bs wq hI => ?_⟩) ?_
  · (have c := (hI.at 3 rfl).cell 3 rfl; go_simp)
  simp only [Act.put, List.getElem_toArray, List.getElem_cons_zero, List.getElem_cons_succ, List.setIfInBounds_toArray, List.set_cons_zero, List.set_cons_succ]
  refine Rg.take 17 (v := .bool true) rfl rfl (by kernel_rfl) (by kernel_rfl) (by kernel_rfl) (by kernel_rfl) (by kernel_rfl) (.inl ⟨rfl, fun bs wq hI => ?_⟩) ?_
  · go_simp
  simp only [Act.put, List.getElem_toArray, List.getElem_cons_zero, List.getElem_cons_succ, List.setIfInBounds_toArray, List.set_cons_zero, List.set_cons_succ]
  refine Rg.take 18 (v := .bool true) rfl rfl (by kernel_rfl) (by kernel_rfl) (by kernel_rfl) (by kernel_rfl) (by kernel_rfl) (.inl ⟨rfl, fun bs wq hI => ?_⟩) ?_
  · go_simp
  simp only [Act.put, List.getElem_toArray, List.getElem_cons_zero, List.getElem_cons_succ, List.setIfInBounds_toArray, List.set_cons_zero, List.set_cons_succ]
  refine Rg.take 19 (v := undef) rfl rfl (by kernel_rfl) (by kernel_rfl) (by kernel_rfl) (by kernel_rfl) (by kernel_rfl) (.inr ⟨rfl, rfl⟩) ?_
  simp only [Act.put, List.getElem_toArray, List.getElem_cons_zero, List.getElem_cons_succ, List.setIfInBounds_toArray, List.set_cons_zero, List.set_cons_succ]
  refine Rg.take 20 (v := undef) rfl rfl (by kernel_rfl) (by kernel_rfl) (by kernel_rfl) (by kernel_rfl) (by kernel_rfl) (.inr ⟨rfl, rfl⟩) ?_
  simp only [Act.put, List.getElem_toArray, List.getElem_cons_zero, List.getElem_cons_succ, List.setIfInBounds_toArray, List.set_cons_zero, List.set_cons_succ]
  refine Rg.take 21 (v := undef) rfl rfl (by kernel_rfl) (by kernel_rfl) (by kernel_rfl) (by kernel_rfl) (by kernel_rfl) (.inr ⟨rfl, rfl⟩) ?_
  simp only [Act.put, List.getElem_toArray, List.getElem_cons_zero, List.getElem_cons_succ, List.setIfInBounds_toArray, List.set_cons_zero, List.set_cons_succ]
  refine Rg.take 22 (v := .bool true) rfl rfl (by kernel_rfl) (by kernel_rfl) (by kernel_rfl) (by kernel_rfl) (by kernel_rfl) (.inl ⟨rfl, fun bs wq hI => ?_⟩) ?_
  · go_simp
  simp only [Act.put, List.getElem_toArray, List.getElem_cons_zero, List.getElem_cons_succ, List.setIfInBounds_toArray, List.set_cons_zero, List.set_cons_succ]
  refine Rg.take 23 (v := .bool true) rfl rfl (by kernel_rfl) (by kernel_rfl) (by kernel_rfl) (by kernel_rfl) (by kernel_rfl) (.inl ⟨rfl, fun bs wq hI => ?_⟩) ?_
  · go_simp
  simp only [Act.put, List.getElem_toArray, List.getElem_cons_zero, List.getElem_cons_succ, List.setIfInBounds_toArray, List.set_cons_zero, List.set_cons_succ]
  refine Rg.take 24 (v := .bool true) rfl rfl (by kernel_rfl) (by kernel_rfl) (by kernel_rfl) (by kernel_rfl) (by kernel_rfl) (.inl ⟨rfl, fun bs wq hI => ?_⟩) ?_
  · go_simp
  simp only [Act.put, List.getElem_toArray, List.getElem_cons_zero, List.getElem_cons_succ, List.setIfInBounds_toArray, List.set_cons_zero, List.set_cons_succ]
  refine Rg.take 25 (v := .bool true) rfl rfl (by kernel_rfl) (by kernel_rfl) (by kernel_rfl) (by kernel_rfl) (by kernel_rfl) (.inl ⟨rfl, fun bs wq hI => ?_⟩) ?_
  · (go_simp; exact (awake_any _).mono fun e w2 h => ⟨h.1, hI.call h.2⟩)
  simp only [Act.put, List.getElem_toArray, List.getElem_cons_zero, List.getElem_cons_succ, List.setIfInBounds_toArray, List.set_cons_zero, List.set_cons_succ]
  refine Rg.take 26 (v := .bool true) rfl rfl (by kernel_rfl) (by kernel_rfl) (by kernel_rfl) (by kernel_rfl) (by kernel_rfl) (.inl ⟨rfl, fun bs wq hI => ?_⟩) ?_
  · go_simp
  simp only [Act.put, List.getElem_toArray, List.getElem_cons_zero, List.getElem_cons_succ, List.setIfInBounds_toArray, List.set_cons_zero, List.set_cons_succ]
  refine Rg.take 27 (v := .bool true) rfl rfl (by kernel_rfl) (by kernel_rfl) (by kernel_rfl) (by kernel_rfl) (by kernel_rfl) (.inl ⟨rfl, fun bs wq hI => ?_⟩) ?_
  · go_simp
  simp only [Act.put, List.getElem_toArray, List.getElem_cons_zero, List.getElem_cons_succ, List.setIfInBounds_toArray, List.set_cons_zero, List.set_cons_succ]
  refine Rg.done (rs := []) (by kernel_rfl) (by decide) (fun W hI => ?_)
  have KK := Lib.hid hI.k
  clear hI
  refine wpAny_done (by kernel_rfl) ?_ _
  go_wp2_with fail
  go_ret
  exact ⟨rfl, KK.out⟩

set_option linter.unusedSimpArgs false in
set_option maxRecDepth 100000 in
set_option maxHeartbeats 8000000 in
theorem mixes_none (s d q m r g b a r' g' b' a' : Int) (w : World) (hc : (Bn.chk s d q m != 0) = false) (h : Tn.right r g b a = true) (h' : Tn.right r' g' b' a' = true) (hm : (m != 0) = false)
    (HM : ∀ W, Calls Try.prog 6 #[.agg #[.int .i64 s, .int .i64 d, .int .i64 q, .int .i64 m], .agg #[.int .i64 r, .int .i64 g, .int .i64 b, .int .i64 a], .agg #[.int .i64 (r'), .int .i64 (g'), .int .i64 (b'), .int .i64 (a')]] W fun e w' => e = .returned (.tuple #[.agg #[.int .i64 (r'), .int .i64 (g'), .int .i64 (b'), .int .i64 (a')], .int .i64 0]) ∧ Kp W.heap.size W w')
    (HR : ∀ W, Calls Try.prog 11 #[.agg #[.int .i64 s, .int .i64 d, .int .i64 q, .int .i64 m], .agg #[.int .i64 r, .int .i64 g, .int .i64 b, .int .i64 a], .agg #[.int .i64 (r'), .int .i64 (g'), .int .i64 (b'), .int .i64 (a')]] W fun e w' => e = .returned (.agg #[.int .i64 (r'), .int .i64 (g'), .int .i64 (b'), .int .i64 (a')]) ∧ Kp W.heap.size W w')
    (hr : Tn.right r' g' b' a' = true) :
    Calls Try.prog 3 #[.agg #[.int .i64 s, .int .i64 d, .int .i64 q, .int .i64 m], .agg #[.int .i64 r, .int .i64 g, .int .i64 b, .int .i64 a], .agg #[.int .i64 (r'), .int .i64 (g'), .int .i64 (b'), .int .i64 (a')]] w fun e w' => e = .returned (.bool true) ∧ Kp w.heap.size w w' := by
  have HM := Lib.hid HM
  have HR := Lib.hid HR
  have HC := Lib.hid hr
  clear hr
  have hE := run_eqC_same
  have HO := Lib.hid ((((Ow.refl w).newAt w.heap.size rfl (.int .i64 s) [.int .i64 d, .int .i64 q, .int .i64 m] 23).newAt (w.heap.size + 1) (by simp) (.int .i64 r) [.int .i64 g, .int .i64 b, .int .i64 a] 25).newAt (w.heap.size + 2) (by simp) (.int .i64 r') [.int .i64 g', .int .i64 b', .int .i64 a'] 25)
  go_enter Try.func3, Try.ntmps3
  go_upto_region 2 with (first | ((with_reducible show wpList _ _ _ ({ dst := _, op := Op.load 23 _, type := _, pos := _, after := _, guard := _ } :: _) _ _); refine wpList_ldr ty_blend rfl _ rfl _ rfl _ rfl (HO.out.at 2 rfl) ?_) | ((with_reducible show wpList _ _ _ ({ dst := _, op := Op.load 25 _, type := _, pos := _, after := _, guard := _ } :: _) _ _); refine wpList_ldr ty_color rfl _ rfl _ rfl _ rfl (HO.out.at 1 rfl) ?_) | ((with_reducible show wpList _ _ _ ({ dst := _, op := Op.load 25 _, type := _, pos := _, after := _, guard := _ } :: _) _ _); refine wpList_ldr ty_color rfl _ rfl _ rfl _ rfl (HO.out.at 0 rfl) ?_) | (go_at_call 6; refine (HM.out _).mono ?_; rintro e w6 ⟨rfl, hk⟩; have l2 := (HO.out.call hk).newAt w6.heap.size rfl (.int .i64 r') [.int .i64 g', .int .i64 b', .int .i64 a'] 25; clear HO hk; have HO := Lib.hid l2; clear l2))
  generalize hW : w6.alloc _ = W at *
  generalize hB : w6.heap.size = C at *
  clear hW hB
  go_upto_region 9 with (first | go_skip | ((with_reducible show wpList _ _ _ ({ dst := _, op := Op.load 23 _, type := _, pos := _, after := _, guard := _ } :: _) _ _); refine wpList_ldr ty_blend rfl _ rfl _ rfl _ rfl (HO.out.at 3 rfl) ?_) | ((with_reducible show wpList _ _ _ ({ dst := _, op := Op.load 25 _, type := _, pos := _, after := _, guard := _ } :: _) _ _); refine wpList_ldr ty_color rfl _ rfl _ rfl _ rfl (HO.out.at 2 rfl) ?_) | ((with_reducible show wpList _ _ _ ({ dst := _, op := Op.load 25 _, type := _, pos := _, after := _, guard := _ } :: _) _ _); refine wpList_ldr ty_color rfl _ rfl _ rfl _ rfl (HO.out.at 1 rfl) ?_) | ((with_reducible show wpList _ _ _ ({ dst := _, op := Op.load 25 _, type := _, pos := _, after := _, guard := _ } :: _) _ _); refine wpList_ldr ty_color rfl _ rfl _ rfl _ rfl (HO.out.at 0 rfl) ?_) | (go_at_call 7; refine (rcheck_any s d q m _).mono ?_; rintro e w1 ⟨rfl, hk⟩; have l2 := HO.out.call hk; clear HO hk; have HO := Lib.hid l2; clear l2) | (go_at_call 8; refine (check_any s d q m _).mono ?_; rintro e w1 ⟨rfl, hk⟩; have l2 := HO.out.call hk; clear HO hk; have HO := Lib.hid l2; clear l2) | (go_at_call 10; (first | with_reducible refine (rright_any r g b a _).mono ?_ | with_reducible refine (rright_any r' g' b' a' _).mono ?_); rintro e w1 ⟨rfl, hk⟩; have l2 := HO.out.call hk; clear HO hk; have HO := Lib.hid l2; clear l2) | (go_at_call 9; refine (awake_any _).mono ?_; rintro e w1 ⟨rfl, hk⟩; have l2 := HO.out.call hk; clear HO hk; have HO := Lib.hid l2; clear l2))
  refine Rg.region (I := fun _ W => Ow w W [(C, [.int .i64 r', .int .i64 g', .int .i64 b', .int .i64 a']), (w.heap.size + 2, [.int .i64 r', .int .i64 g', .int .i64 b', .int .i64 a']), (w.heap.size + 1, [.int .i64 r, .int .i64 g, .int .i64 b, .int .i64 a]), (w.heap.size, [.int .i64 s, .int .i64 d, .int .i64 q, .int .i64 m])]) (dem := fun _ => false) (m := 28) (g := 0) (T := fun listed bs st => ∀ W, Ow w W [(C, [.int .i64 r', .int .i64 g', .int .i64 b', .int .i64 a']), (w.heap.size + 2, [.int .i64 r', .int .i64 g', .int .i64 b', .int .i64 a']), (w.heap.size + 1, [.int .i64 r, .int .i64 g, .int .i64 b, .int .i64 a]), (w.heap.size, [.int .i64 s, .int .i64 d, .int .i64 q, .int .i64 m])] → wpAny Try.prog .any _ _ 0 listed st W) (by kernel_rfl) HO.out.drew rfl (fun _ _ _ _ h hI => h _ hI) ?_
  clear HO
  refine Rg.take 0 (v := .int .i64 0) rfl rfl (by kernel_rfl) (by kernel_rfl) (by kernel_rfl) (by kernel_rfl) (by kernel_rfl) (.inl ⟨rfl, fun bs wq hI => ?_⟩) ?_
  · go_simp
  simp only [Act.put, List.getElem_toArray, List.getElem_cons_zero, List.getElem_cons_succ, List.setIfInBounds_toArray, List.set_cons_zero, List.set_cons_succ]
  refine Rg.take 1 (v := .bool true) rfl rfl (by kernel_rfl) (by kernel_rfl) (by kernel_rfl) (by kernel_rfl) (by kernel_rfl) (.inl ⟨rfl, fun bs wq hI => ?_⟩) ?_
  · go_simp
  simp only [Act.put, List.getElem_toArray, List.getElem_cons_zero, List.getElem_cons_succ, List.setIfInBounds_toArray, List.set_cons_zero, List.set_cons_succ]
  refine Rg.take 2 (v := .bool true) rfl rfl (by kernel_rfl) (by kernel_rfl) (by kernel_rfl) (by kernel_rfl) (by kernel_rfl) (.inl ⟨rfl, fun bs wq hI => ?_⟩) ?_
  · go_simp
  simp only [Act.put, List.getElem_toArray, List.getElem_cons_zero, List.getElem_cons_succ, List.setIfInBounds_toArray, List.set_cons_zero, List.set_cons_succ]
  refine Rg.take 3 (v := .agg #[.int .i64 (r'), .int .i64 (g'), .int .i64 (b'), .int .i64 (a')]) rfl rfl (by kernel_rfl) (by kernel_rfl) (by kernel_rfl) (by kernel_rfl) (by kernel_rfl) (.inl ⟨rfl, fun bs wq hI => ?_⟩) ?_
  · exact quiet_ldr ty_color (.tmp 7) rfl rfl rfl (hI.at 0 rfl)
  simp only [Act.put, List.getElem_toArray, List.getElem_cons_zero, List.getElem_cons_succ, List.setIfInBounds_toArray, List.set_cons_zero, List.set_cons_succ]
  refine Rg.take 4 (v := .agg #[.int .i64 s, .int .i64 d, .int .i64 q, .int .i64 m]) rfl rfl (by kernel_rfl) (by kernel_rfl) (by kernel_rfl) (by kernel_rfl) (by kernel_rfl) (.inl ⟨rfl, fun bs wq hI => ?_⟩) ?_
  · exact quiet_ldr ty_blend (.tmp 3) rfl rfl rfl (hI.at 3 rfl)
  simp only [Act.put, List.getElem_toArray, List.getElem_cons_zero, List.getElem_cons_succ, List.setIfInBounds_toArray, List.set_cons_zero, List.set_cons_succ]
  refine Rg.take 5 (v := .agg #[.int .i64 r, .int .i64 g, .int .i64 b, .int .i64 a]) rfl rfl (by kernel_rfl) (by kernel_rfl) (by kernel_rfl) (by kernel_rfl) (by kernel_rfl) (.inl ⟨rfl, fun bs wq hI => ?_⟩) ?_
  · exact quiet_ldr ty_color (.tmp 4) rfl rfl rfl (hI.at 2 rfl)
  simp only [Act.put, List.getElem_toArray, List.getElem_cons_zero, List.getElem_cons_succ, List.setIfInBounds_toArray, List.set_cons_zero, List.set_cons_succ]
  refine Rg.take 6 (v := .agg #[.int .i64 (r'), .int .i64 (g'), .int .i64 (b'), .int .i64 (a')]) rfl rfl (by kernel_rfl) (by kernel_rfl) (by kernel_rfl) (by kernel_rfl) (by kernel_rfl) (.inl ⟨rfl, fun bs wq hI => ?_⟩) ?_
  · exact quiet_ldr ty_color (.tmp 5) rfl rfl rfl (hI.at 1 rfl)
  simp only [Act.put, List.getElem_toArray, List.getElem_cons_zero, List.getElem_cons_succ, List.setIfInBounds_toArray, List.set_cons_zero, List.set_cons_succ]
  refine Rg.take 7 (v := .agg #[.int .i64 (r'), .int .i64 (g'), .int .i64 (b'), .int .i64 (a')]) rfl rfl (by kernel_rfl) (by kernel_rfl) (by kernel_rfl) (by kernel_rfl) (by kernel_rfl) (.inl ⟨rfl, fun bs wq hI => ?_⟩) ?_
  · (go_simp; exact (HR.out _).mono fun e w2 h => ⟨h.1, hI.call h.2⟩)
  simp only [Act.put, List.getElem_toArray, List.getElem_cons_zero, List.getElem_cons_succ, List.setIfInBounds_toArray, List.set_cons_zero, List.set_cons_succ]
  refine Rg.take 8 (v := .bool true) rfl rfl (by kernel_rfl) (by kernel_rfl) (by kernel_rfl) (by kernel_rfl) (by kernel_rfl) (.inl ⟨rfl, fun bs wq hI => ?_⟩) ?_
  · go_simp
  simp only [Act.put, List.getElem_toArray, List.getElem_cons_zero, List.getElem_cons_succ, List.setIfInBounds_toArray, List.set_cons_zero, List.set_cons_succ]
  refine Rg.take 9 (v := .bool true) rfl rfl (by kernel_rfl) (by kernel_rfl) (by kernel_rfl) (by kernel_rfl) (by kernel_rfl) (.inl ⟨rfl, fun bs wq hI => ?_⟩) ?_
  · go_simp
  simp only [Act.put, List.getElem_toArray, List.getElem_cons_zero, List.getElem_cons_succ, List.setIfInBounds_toArray, List.set_cons_zero, List.set_cons_succ]
  refine Rg.take 10 (v := .bool true) rfl rfl (by kernel_rfl) (by kernel_rfl) (by kernel_rfl) (by kernel_rfl) (by kernel_rfl) (.inl ⟨rfl, fun bs wq hI => ?_⟩) ?_
  · go_simp
  simp only [Act.put, List.getElem_toArray, List.getElem_cons_zero, List.getElem_cons_succ, List.setIfInBounds_toArray, List.set_cons_zero, List.set_cons_succ]
  refine Rg.take 11 (v := .agg #[.int .i64 (r'), .int .i64 (g'), .int .i64 (b'), .int .i64 (a')]) rfl rfl (by kernel_rfl) (by kernel_rfl) (by kernel_rfl) (by kernel_rfl) (by kernel_rfl) (.inl ⟨rfl, fun bs wq hI => ?_⟩) ?_
  · exact quiet_ldr ty_color (.tmp 7) rfl rfl rfl (hI.at 0 rfl)
  simp only [Act.put, List.getElem_toArray, List.getElem_cons_zero, List.getElem_cons_succ, List.setIfInBounds_toArray, List.set_cons_zero, List.set_cons_succ]
  refine Rg.take 12 (v := .bool true) rfl rfl (by kernel_rfl) (by kernel_rfl) (by kernel_rfl) (by kernel_rfl) (by kernel_rfl) (.inl ⟨rfl, fun bs wq hI => ?_⟩) ?_
  · (go_simp; exact (rright_any r' g' b' a' _).mono fun e w2 h => ⟨by rw [h.1, HC.out], hI.call h.2⟩)
  simp only [Act.put, List.getElem_toArray, List.getElem_cons_zero, List.getElem_cons_succ, List.setIfInBounds_toArray, List.set_cons_zero, List.set_cons_succ]
  refine Rg.take 13 (v := .bool true) rfl rfl (by kernel_rfl) (by kernel_rfl) (by kernel_rfl) (by kernel_rfl) (by kernel_rfl) (.inl ⟨rfl, fun bs wq hI => ?_⟩) ?_
  · go_simp
  simp only [Act.put, List.getElem_toArray, List.getElem_cons_zero, List.getElem_cons_succ, List.setIfInBounds_toArray, List.set_cons_zero, List.set_cons_succ]
  refine Rg.take 14 (v := .bool true) rfl rfl (by kernel_rfl) (by kernel_rfl) (by kernel_rfl) (by kernel_rfl) (by kernel_rfl) (.inl ⟨rfl, fun bs wq hI => ?_⟩) ?_
  · go_simp
  simp only [Act.put, List.getElem_toArray, List.getElem_cons_zero, List.getElem_cons_succ, List.setIfInBounds_toArray, List.set_cons_zero, List.set_cons_succ]
  refine Rg.take 15 (v := .pointer (some ⟨w.heap.size, 3, none⟩)) rfl rfl (by kernel_rfl) (by kernel_rfl) (by kernel_rfl) (by kernel_rfl) (by kernel_rfl) (.inl ⟨rfl, fun bs wq hI => ?_⟩) ?_
  · go_simp
  simp only [Act.put, List.getElem_toArray, List.getElem_cons_zero, List.getElem_cons_succ, List.setIfInBounds_toArray, List.set_cons_zero, List.set_cons_succ]
  refine Rg.take 16 (v := .int .i64 m) rfl rfl (by kernel_rfl) (by kernel_rfl) (by kernel_rfl) (by kernel_rfl) (by kernel_rfl) (.inl ⟨rfl, fun bs wq hI => ?_⟩) ?_
  · (have c := (hI.at 3 rfl).cell 3 rfl; go_simp)
  simp only [Act.put, List.getElem_toArray, List.getElem_cons_zero, List.getElem_cons_succ, List.setIfInBounds_toArray, List.set_cons_zero, List.set_cons_succ]
  refine Rg.take 17 (v := .bool false) rfl rfl (by kernel_rfl) (by kernel_rfl) (by kernel_rfl) (by kernel_rfl) (by kernel_rfl) (.inl ⟨rfl, fun bs wq hI => ?_⟩) ?_
  · go_simp
  simp only [Act.put, List.getElem_toArray, List.getElem_cons_zero, List.getElem_cons_succ, List.setIfInBounds_toArray, List.set_cons_zero, List.set_cons_succ]
  refine Rg.take 18 (v := .bool false) rfl rfl (by kernel_rfl) (by kernel_rfl) (by kernel_rfl) (by kernel_rfl) (by kernel_rfl) (.inl ⟨rfl, fun bs wq hI => ?_⟩) ?_
  · go_simp
  simp only [Act.put, List.getElem_toArray, List.getElem_cons_zero, List.getElem_cons_succ, List.setIfInBounds_toArray, List.set_cons_zero, List.set_cons_succ]
  refine Rg.take 19 (v := .agg #[.int .i64 (r'), .int .i64 (g'), .int .i64 (b'), .int .i64 (a')]) rfl rfl (by kernel_rfl) (by kernel_rfl) (by kernel_rfl) (by kernel_rfl) (by kernel_rfl) (.inl ⟨rfl, fun bs wq hI => ?_⟩) ?_
  · exact quiet_ldr ty_color (.tmp 7) rfl rfl rfl (hI.at 0 rfl)
  simp only [Act.put, List.getElem_toArray, List.getElem_cons_zero, List.getElem_cons_succ, List.setIfInBounds_toArray, List.set_cons_zero, List.set_cons_succ]
  refine Rg.take 20 (v := .agg #[.int .i64 (r'), .int .i64 (g'), .int .i64 (b'), .int .i64 (a')]) rfl rfl (by kernel_rfl) (by kernel_rfl) (by kernel_rfl) (by kernel_rfl) (by kernel_rfl) (.inl ⟨rfl, fun bs wq hI => ?_⟩) ?_
  · exact quiet_ldr ty_color (.tmp 5) rfl rfl rfl (hI.at 1 rfl)
  simp only [Act.put, List.getElem_toArray, List.getElem_cons_zero, List.getElem_cons_succ, List.setIfInBounds_toArray, List.set_cons_zero, List.set_cons_succ]
  refine Rg.take 21 (v := .bool true) rfl rfl (by kernel_rfl) (by kernel_rfl) (by kernel_rfl) (by kernel_rfl) (by kernel_rfl) (.inl ⟨rfl, fun bs wq hI => ?_⟩) ?_
  · go_simp
  simp only [Act.put, List.getElem_toArray, List.getElem_cons_zero, List.getElem_cons_succ, List.setIfInBounds_toArray, List.set_cons_zero, List.set_cons_succ]
  refine Rg.take 22 (v := .bool true) rfl rfl (by kernel_rfl) (by kernel_rfl) (by kernel_rfl) (by kernel_rfl) (by kernel_rfl) (.inl ⟨rfl, fun bs wq hI => ?_⟩) ?_
  · go_simp
  simp only [Act.put, List.getElem_toArray, List.getElem_cons_zero, List.getElem_cons_succ, List.setIfInBounds_toArray, List.set_cons_zero, List.set_cons_succ]
  refine Rg.take 23 (v := .bool true) rfl rfl (by kernel_rfl) (by kernel_rfl) (by kernel_rfl) (by kernel_rfl) (by kernel_rfl) (.inl ⟨rfl, fun bs wq hI => ?_⟩) ?_
  · go_simp
  simp only [Act.put, List.getElem_toArray, List.getElem_cons_zero, List.getElem_cons_succ, List.setIfInBounds_toArray, List.set_cons_zero, List.set_cons_succ]
  refine Rg.take 24 (v := .bool true) rfl rfl (by kernel_rfl) (by kernel_rfl) (by kernel_rfl) (by kernel_rfl) (by kernel_rfl) (.inl ⟨rfl, fun bs wq hI => ?_⟩) ?_
  · go_simp
  simp only [Act.put, List.getElem_toArray, List.getElem_cons_zero, List.getElem_cons_succ, List.setIfInBounds_toArray, List.set_cons_zero, List.set_cons_succ]
  refine Rg.take 25 (v := .bool true) rfl rfl (by kernel_rfl) (by kernel_rfl) (by kernel_rfl) (by kernel_rfl) (by kernel_rfl) (.inl ⟨rfl, fun bs wq hI => ?_⟩) ?_
  · (go_simp; exact (awake_any _).mono fun e w2 h => ⟨h.1, hI.call h.2⟩)
  simp only [Act.put, List.getElem_toArray, List.getElem_cons_zero, List.getElem_cons_succ, List.setIfInBounds_toArray, List.set_cons_zero, List.set_cons_succ]
  refine Rg.take 26 (v := .bool true) rfl rfl (by kernel_rfl) (by kernel_rfl) (by kernel_rfl) (by kernel_rfl) (by kernel_rfl) (.inl ⟨rfl, fun bs wq hI => ?_⟩) ?_
  · go_simp
  simp only [Act.put, List.getElem_toArray, List.getElem_cons_zero, List.getElem_cons_succ, List.setIfInBounds_toArray, List.set_cons_zero, List.set_cons_succ]
  refine Rg.take 27 (v := .bool true) rfl rfl (by kernel_rfl) (by kernel_rfl) (by kernel_rfl) (by kernel_rfl) (by kernel_rfl) (.inl ⟨rfl, fun bs wq hI => ?_⟩) ?_
  · go_simp
  simp only [Act.put, List.getElem_toArray, List.getElem_cons_zero, List.getElem_cons_succ, List.setIfInBounds_toArray, List.set_cons_zero, List.set_cons_succ]
  refine Rg.done (rs := []) (by kernel_rfl) (by decide) (fun W hI => ?_)
  have KK := Lib.hid hI.k
  clear hI
  refine wpAny_done (by kernel_rfl) ?_ _
  go_wp2_with fail
  go_ret
  exact ⟨rfl, KK.out⟩

theorem mixes_walk (s d q m r g b a r' g' b' a' : Int) (w : World) :
    Calls Try.prog 3 #[.agg #[.int .i64 s, .int .i64 d, .int .i64 q, .int .i64 m], .agg #[.int .i64 r, .int .i64 g, .int .i64 b, .int .i64 a], .agg #[.int .i64 (r'), .int .i64 (g'), .int .i64 (b'), .int .i64 (a')]] w fun e w' => e = .returned (.bool true) ∧ Kp w.heap.size w w' := by
  cases hc : (Bn.chk s d q m != 0)
  · cases h : Tn.right r g b a
    · exact mixes_no2 s d q m r g b a r' g' b' a' w hc h
    · cases h' : Tn.right r' g' b' a'
      · exact mixes_no3 s d q m r g b a r' g' b' a' w hc h h'
      · cases hm : (m != 0)
        · have h0 : m = 0 := by simpa using hm
          exact mixes_none s d q m r g b a r' g' b' a' w hc h h' hm (fun W => (mix_yes s d q m r g b a r' g' b' a' W hc h h').mono fun _ _ k => ⟨by rw [k.1, h0, Bn.wr_zero, Bn.wr_zero, Bn.wr_zero, Bn.wr_zero], k.2⟩)
            (fun W => (rmix_any s d q m r g b a r' g' b' a' W hc h h').mono fun _ _ k => ⟨by rw [k.1, h0, Bn.wr_zero, Bn.wr_zero, Bn.wr_zero, Bn.wr_zero], k.2⟩) h'
        · obtain ⟨⟨x1, y1⟩, ⟨x2, y2⟩, ⟨x3, y3⟩, x4, y4⟩ := Tn.chs2 h h'
          exact mixes_some s d q m r g b a r' g' b' a' _ _ _ _ w hc h h' hm (fun W => mix_yes s d q m r g b a r' g' b' a' W hc h h') (fun W => rmix_any s d q m r g b a r' g' b' a' W hc h h')
            (Tn.right_iff.2 ⟨Bn.wr_bd (Bn.eqn_bd x1 y1) y1, Bn.wr_bd (Bn.eqn_bd x2 y2) y2, Bn.wr_bd (Bn.eqn_bd x3 y3) y3, Bn.wr_bd (Bn.eqn_bd x4 y4) y4⟩)
  · exact mixes_no1 s d q m r g b a r' g' b' a' w hc
end Go.Proofs.Ytneomplhikenfaa
