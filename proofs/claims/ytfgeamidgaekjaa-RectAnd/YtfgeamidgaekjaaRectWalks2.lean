/-
  Contracts of layer 10 (rect): Area, Of, And, Around, Pixels; the document's own; what must come at any rate.
-/
import Derived.Test.YtfgeamidgaekjaaRectWalks
namespace Go.Proofs.Ytfgeamidgaekjaa
open Go.RowKit

theorem area_no (x0 y0 x1 y1 : Int) (w : World) (h : Rt.small x0 y0 x1 y1 = false) :
    Calls Try.prog 16 #[.agg #[.int .i64 x0, .int .i64 y0, .int .i64 x1, .int .i64 y1]] w fun e w' => e = .returned (.tuple #[.int .i64 0, .int .i64 3]) ∧ Kp w.heap.size w w' := by
  have HO := Lib.hid ((Ow.refl w).newAt w.heap.size rfl (.int .i64 x0) [.int .i64 y0, .int .i64 x1, .int .i64 y1] 23)
  go_enter Try.func16, Try.ntmps16
  go_wp2_with (first   | ((with_reducible show wpList _ _ _ ({ dst := _, op := Op.load 23 _, type := _, pos := _, after := _, guard := _ } :: _) _ _); refine wpList_ldr ty_rect rfl _ rfl _ rfl _ rfl (HO.out.at 0 rfl) ?_)   | (go_at_call 25; refine (small_any x0 y0 x1 y1 _).mono ?_; rintro e w1 ⟨rfl, hk1⟩; have l2 := HO.out.call hk1; clear HO hk1; have HO := Lib.hid l2; clear l2)   | (go_at_call 10; refine (empty_any x0 y0 x1 y1 _).mono ?_; rintro e w1 ⟨rfl, hk1⟩; have l2 := HO.out.call hk1; clear HO hk1; have HO := Lib.hid l2; clear l2))
  go_ret2
  exact ⟨rfl, HO.out.k⟩
set_option maxHeartbeats 1000000 in
theorem area_yes (x0 y0 x1 y1 : Int) (w : World) (h : Rt.small x0 y0 x1 y1 = true) :
    Calls Try.prog 16 #[.agg #[.int .i64 x0, .int .i64 y0, .int .i64 x1, .int .i64 y1]] w fun e w' => e = .returned (.tuple #[.int .i64 (Rt.area x0 y0 x1 y1), .int .i64 0]) ∧ Kp w.heap.size w w' := by
  have HO := Lib.hid ((Ow.refl w).newAt w.heap.size rfl (.int .i64 x0) [.int .i64 y0, .int .i64 x1, .int .i64 y1] 23)
  cases h1 : Rt.emp x0 y0 x1 y1
  · obtain ⟨⟨s1, s2⟩, ⟨s3, s4⟩, s5, s6⟩ := Rt.sides h h1
    have HA := Lib.hid (show Rt.area x0 y0 x1 y1 = (x1 - x0) * (y1 - y0) by simp [Rt.area, h1])
    go_enter Try.func16, Try.ntmps16
    go_upto_region 5 with (first   | ((with_reducible show wpList _ _ _ ({ dst := _, op := Op.load 23 _, type := _, pos := _, after := _, guard := _ } :: _) _ _); refine wpList_ldr ty_rect rfl _ rfl _ rfl _ rfl (HO.out.at 0 rfl) ?_)   | (go_at_call 25; refine (small_any x0 y0 x1 y1 _).mono ?_; rintro e w1 ⟨rfl, hk1⟩; have l2 := HO.out.call hk1; clear HO hk1; have HO := Lib.hid l2; clear l2)   | (go_at_call 10; refine (empty_any x0 y0 x1 y1 _).mono ?_; rintro e w1 ⟨rfl, hk1⟩; have l2 := HO.out.call hk1; clear HO hk1; have HO := Lib.hid l2; clear l2))
    have c0 := (HO.out.at 0 rfl).cell 0 rfl
    have c1 := (HO.out.at 0 rfl).cell 1 rfl
    have c2 := (HO.out.at 0 rfl).cell 2 rfl
    have c3 := (HO.out.at 0 rfl).cell 3 rfl
    go_wp2_with fail
    go_ret2
    exact ⟨by rw [HA.out]; rfl, HO.out.k⟩
  · have HA := Lib.hid (show Rt.area x0 y0 x1 y1 = 0 by simp [Rt.area, h1])
    go_enter Try.func16, Try.ntmps16
    go_wp2_with (first   | ((with_reducible show wpList _ _ _ ({ dst := _, op := Op.load 23 _, type := _, pos := _, after := _, guard := _ } :: _) _ _); refine wpList_ldr ty_rect rfl _ rfl _ rfl _ rfl (HO.out.at 0 rfl) ?_)   | (go_at_call 25; refine (small_any x0 y0 x1 y1 _).mono ?_; rintro e w1 ⟨rfl, hk1⟩; have l2 := HO.out.call hk1; clear HO hk1; have HO := Lib.hid l2; clear l2)   | (go_at_call 10; refine (empty_any x0 y0 x1 y1 _).mono ?_; rintro e w1 ⟨rfl, hk1⟩; have l2 := HO.out.call hk1; clear HO hk1; have HO := Lib.hid l2; clear l2))
    go_ret2
    exact ⟨by rw [HA.out]; rfl, HO.out.k⟩
set_option maxHeartbeats 1000000 in
theorem rarea_any (x0 y0 x1 y1 : Int) (w : World) (h : Rt.small x0 y0 x1 y1 = true) :
    Calls Try.prog 20 #[.agg #[.int .i64 x0, .int .i64 y0, .int .i64 x1, .int .i64 y1]] w fun e w' => e = .returned (.int .i64 (Rt.area x0 y0 x1 y1)) ∧ Kp w.heap.size w w' := by
  have HO := Lib.hid ((Ow.refl w).newAt w.heap.size rfl (.int .i64 x0) [.int .i64 y0, .int .i64 x1, .int .i64 y1] 23)
  cases h1 : Rt.emp x0 y0 x1 y1
  · obtain ⟨⟨s1, s2⟩, ⟨s3, s4⟩, s5, s6⟩ := Rt.sides h h1
    have HA := Lib.hid (show Rt.area x0 y0 x1 y1 = (x1 - x0) * (y1 - y0) by simp [Rt.area, h1])
    go_enter Try.func20, Try.ntmps20
    go_upto_region 3 with (first | ((with_reducible show wpList _ _ _ ({ dst := _, op := Op.load 23 _, type := _, pos := _, after := _, guard := _ } :: _) _ _); refine wpList_ldr ty_rect rfl _ rfl _ rfl _ rfl (HO.out.at 0 rfl) ?_) | (go_at_call 11; refine (rempty_any x0 y0 x1 y1 _).mono ?_; rintro e w1 ⟨rfl, hk1⟩; have l2 := HO.out.call hk1; clear HO hk1; have HO := Lib.hid l2; clear l2))
    have c0 := (HO.out.at 0 rfl).cell 0 rfl
    have c1 := (HO.out.at 0 rfl).cell 1 rfl
    have c2 := (HO.out.at 0 rfl).cell 2 rfl
    have c3 := (HO.out.at 0 rfl).cell 3 rfl
    go_wp2_with fail
    go_ret
    exact ⟨by rw [HA.out]; rfl, HO.out.k⟩
  · have HA := Lib.hid (show Rt.area x0 y0 x1 y1 = 0 by simp [Rt.area, h1])
    go_enter Try.func20, Try.ntmps20
    go_wp2_with (first | ((with_reducible show wpList _ _ _ ({ dst := _, op := Op.load 23 _, type := _, pos := _, after := _, guard := _ } :: _) _ _); refine wpList_ldr ty_rect rfl _ rfl _ rfl _ rfl (HO.out.at 0 rfl) ?_) | (go_at_call 11; refine (rempty_any x0 y0 x1 y1 _).mono ?_; rintro e w1 ⟨rfl, hk1⟩; have l2 := HO.out.call hk1; clear HO hk1; have HO := Lib.hid l2; clear l2))
    go_ret
    exact ⟨by rw [HA.out]; rfl, HO.out.k⟩

set_option maxHeartbeats 1000000 in
theorem of_no (x y n m : Int) (w : World) (h : Rt.view x y n m = false) :
    Calls Try.prog 14 #[.int .i64 x, .int .i64 y, .int .i64 n, .int .i64 m] w fun e w' => e = .returned (.tuple #[.agg #[.int .i64 0, .int .i64 0, .int .i64 0, .int .i64 0], .int .i64 12]) ∧ Kp w.heap.size w w' := by
  cases h1 : Rt.wi (-4096) 4096 [x, y]
  · have HO := Lib.hid (((Ow.refl w).newAt w.heap.size rfl (.int .i64 0) [.int .i64 0, .int .i64 0, .int .i64 0] 23).newAt (w.heap.size + 1) (by simp) (.int .i64 x) [.int .i64 y] 3)
    clear h
    go_enter Try.func14, Try.ntmps14
    go_wp2_with (first
      | go_skip
      | ((with_reducible show wpList _ _ _ ({ dst := _, op := Op.store 23 _ _, type := _, pos := _, after := _, guard := _ } :: _) _ _); refine wpList_sto ty_rect HO.out 1 [.int .i64 0, .int .i64 0, .int .i64 0, .int .i64 0] rfl _ _ rfl _ rfl rfl _ rfl rfl rfl rfl ?_; intro w2 l2; clear HO; have HO := Lib.hid l2; clear l2)
      | (go_at_call 24; refine (within_any (-4096) 4096 [x, y] 2 _ _ rfl (by decide) (fun j v hj => (HO.out.at 0 rfl).cell j hj)).mono ?_; rintro e w' ⟨rfl, rfl⟩))
    exact bodyPost_ret (results_c2 ty_rect rfl rfl rfl rfl (HO.out.at 1 rfl)) rfl ⟨rfl, HO.out.k⟩
  · have h2 : Rt.wi 0 4096 [n, m] = false := by rw [Rt.view, h1] at h; exact h
    have HO := Lib.hid ((((Ow.refl w).newAt w.heap.size rfl (.int .i64 0) [.int .i64 0, .int .i64 0, .int .i64 0] 23).newAt (w.heap.size + 1) (by simp) (.int .i64 x) [.int .i64 y] 3).newAt (w.heap.size + 2) (by simp) (.int .i64 n) [.int .i64 m] 3)
    have HO1 := Lib.hid ((((Ow.refl w).newAt w.heap.size rfl (.int .i64 0) [.int .i64 0, .int .i64 0, .int .i64 0] 23).newAt (w.heap.size + 1) (by simp) (.int .i64 x) [.int .i64 y] 3).at 0 rfl)
    clear h
    go_enter Try.func14, Try.ntmps14
    go_wp2_with (first
      | go_skip
      | ((with_reducible show wpList _ _ _ ({ dst := _, op := Op.store 23 _ _, type := _, pos := _, after := _, guard := _ } :: _) _ _); refine wpList_sto ty_rect HO.out 2 [.int .i64 0, .int .i64 0, .int .i64 0, .int .i64 0] rfl _ _ rfl _ rfl rfl _ rfl rfl rfl rfl ?_; intro w2 l2; clear HO; have HO := Lib.hid l2; clear l2)
      | (go_at_call 24; (with_reducible refine (within_any (-4096) 4096 [x, y] 2 _ _ rfl (by decide) ?_).mono ?_); exact (fun j v hj => HO1.out.cell j hj); rintro e w' ⟨rfl, rfl⟩)
      | (go_at_call 24; refine (within_any 0 4096 [n, m] 2 _ _ rfl (by decide) (fun j v hj => (HO.out.at 0 rfl).cell j hj)).mono ?_; rintro e w' ⟨rfl, rfl⟩))
    exact bodyPost_ret (results_c2 ty_rect rfl rfl rfl rfl (HO.out.at 2 rfl)) rfl ⟨rfl, HO.out.k⟩
set_option maxHeartbeats 1000000 in
theorem of_yes (x y n m : Int) (w : World) (h : Rt.view x y n m = true) :
    Calls Try.prog 14 #[.int .i64 x, .int .i64 y, .int .i64 n, .int .i64 m] w fun e w' => e = .returned (.tuple #[.agg #[.int .i64 x, .int .i64 y, .int .i64 (x + n), .int .i64 (y + m)], .int .i64 0]) ∧ Kp w.heap.size w w' := by
  obtain ⟨⟨a1, a2⟩, ⟨a3, a4⟩, ⟨a5, a6⟩, ⟨a7, a8⟩⟩ := Rt.view_iff.1 h
  obtain ⟨h1, h2⟩ : Rt.wi (-4096) 4096 [x, y] = true ∧ Rt.wi 0 4096 [n, m] = true := by unfold Rt.view at h; simpa using h
  have HO := Lib.hid ((((Ow.refl w).newAt w.heap.size rfl (.int .i64 0) [.int .i64 0, .int .i64 0, .int .i64 0] 23).newAt (w.heap.size + 1) (by simp) (.int .i64 x) [.int .i64 y] 3).newAt (w.heap.size + 2) (by simp) (.int .i64 n) [.int .i64 m] 3)
  have HO1 := Lib.hid ((((Ow.refl w).newAt w.heap.size rfl (.int .i64 0) [.int .i64 0, .int .i64 0, .int .i64 0] 23).newAt (w.heap.size + 1) (by simp) (.int .i64 x) [.int .i64 y] 3).at 0 rfl)
  clear h
  go_enter Try.func14, Try.ntmps14
  go_wp2_with (first
    | go_skip
    | ((with_reducible show wpList _ _ _ ({ dst := _, op := Op.store 23 _ _, type := _, pos := _, after := _, guard := _ } :: _) _ _); refine wpList_sto ty_rect HO.out 2 [.int .i64 x, .int .i64 y, .int .i64 (x + n), .int .i64 (y + m)] rfl _ _ rfl _ rfl rfl _ rfl rfl rfl rfl ?_; intro w2 l2; clear HO; have HO := Lib.hid l2; clear l2)
    | (go_at_call 24; (with_reducible refine (within_any (-4096) 4096 [x, y] 2 _ _ rfl (by decide) ?_).mono ?_); exact (fun j v hj => HO1.out.cell j hj); rintro e w' ⟨rfl, rfl⟩)
    | (go_at_call 24; refine (within_any 0 4096 [n, m] 2 _ _ rfl (by decide) (fun j v hj => (HO.out.at 0 rfl).cell j hj)).mono ?_; rintro e w' ⟨rfl, rfl⟩))
  exact bodyPost_ret (results_c2 ty_rect rfl rfl rfl rfl (HO.out.at 2 rfl)) rfl ⟨rfl, HO.out.k⟩

set_option maxHeartbeats 2000000 in
theorem rview_no (x y n m : Int) (w : World) (h : Rt.view x y n m = false) :
    Calls Try.prog 15 #[.int .i64 x, .int .i64 y, .int .i64 n, .int .i64 m] w fun e w' => e = .returned (.tuple #[.agg #[.int .i64 0, .int .i64 0, .int .i64 0, .int .i64 0], .bool false]) ∧ Kp w.heap.size w w' := by
  have HO := Lib.hid ((Ow.refl w).newAt w.heap.size rfl (.int .i64 0) [.int .i64 0, .int .i64 0, .int .i64 0] 23)
  cases h1 : decide (x < -4096)
  rotate_left
  · skip
    clear h
    go_enter Try.func15, Try.ntmps15
    go_wp2_with (first | go_skip | ((with_reducible show wpList _ _ _ ({ dst := _, op := Op.store 23 _ _, type := _, pos := _, after := _, guard := _ } :: _) _ _); refine wpList_sto ty_rect HO.out 0 [.int .i64 0, .int .i64 0, .int .i64 0, .int .i64 0] rfl _ _ rfl _ rfl rfl _ rfl rfl rfl rfl ?_; intro w2 l2; clear HO; have HO := Lib.hid l2; clear l2))
    exact bodyPost_ret (results_c2 ty_rect rfl rfl rfl rfl (HO.out.at 0 rfl)) rfl ⟨rfl, HO.out.k⟩
  cases h2 : decide (4096 < x)
  rotate_left
  · skip
    clear h
    go_enter Try.func15, Try.ntmps15
    go_wp2_with (first | go_skip | ((with_reducible show wpList _ _ _ ({ dst := _, op := Op.store 23 _ _, type := _, pos := _, after := _, guard := _ } :: _) _ _); refine wpList_sto ty_rect HO.out 0 [.int .i64 0, .int .i64 0, .int .i64 0, .int .i64 0] rfl _ _ rfl _ rfl rfl _ rfl rfl rfl rfl ?_; intro w2 l2; clear HO; have HO := Lib.hid l2; clear l2))
    exact bodyPost_ret (results_c2 ty_rect rfl rfl rfl rfl (HO.out.at 0 rfl)) rfl ⟨rfl, HO.out.k⟩
  cases h3 : decide (y < -4096)
  rotate_left
  · skip
    clear h
    go_enter Try.func15, Try.ntmps15
    go_wp2_with (first | go_skip | ((with_reducible show wpList _ _ _ ({ dst := _, op := Op.store 23 _ _, type := _, pos := _, after := _, guard := _ } :: _) _ _); refine wpList_sto ty_rect HO.out 0 [.int .i64 0, .int .i64 0, .int .i64 0, .int .i64 0] rfl _ _ rfl _ rfl rfl _ rfl rfl rfl rfl ?_; intro w2 l2; clear HO; have HO := Lib.hid l2; clear l2))
    exact bodyPost_ret (results_c2 ty_rect rfl rfl rfl rfl (HO.out.at 0 rfl)) rfl ⟨rfl, HO.out.k⟩
  cases h4 : decide (4096 < y)
  rotate_left
  · skip
    clear h
    go_enter Try.func15, Try.ntmps15
    go_wp2_with (first | go_skip | ((with_reducible show wpList _ _ _ ({ dst := _, op := Op.store 23 _ _, type := _, pos := _, after := _, guard := _ } :: _) _ _); refine wpList_sto ty_rect HO.out 0 [.int .i64 0, .int .i64 0, .int .i64 0, .int .i64 0] rfl _ _ rfl _ rfl rfl _ rfl rfl rfl rfl ?_; intro w2 l2; clear HO; have HO := Lib.hid l2; clear l2))
    exact bodyPost_ret (results_c2 ty_rect rfl rfl rfl rfl (HO.out.at 0 rfl)) rfl ⟨rfl, HO.out.k⟩
  cases h5 : decide (n < 0)
  rotate_left
  · skip
    clear h
    go_enter Try.func15, Try.ntmps15
    go_wp2_with (first | go_skip | ((with_reducible show wpList _ _ _ ({ dst := _, op := Op.store 23 _ _, type := _, pos := _, after := _, guard := _ } :: _) _ _); refine wpList_sto ty_rect HO.out 0 [.int .i64 0, .int .i64 0, .int .i64 0, .int .i64 0] rfl _ _ rfl _ rfl rfl _ rfl rfl rfl rfl ?_; intro w2 l2; clear HO; have HO := Lib.hid l2; clear l2))
    exact bodyPost_ret (results_c2 ty_rect rfl rfl rfl rfl (HO.out.at 0 rfl)) rfl ⟨rfl, HO.out.k⟩
  cases h6 : decide (4096 < n)
  rotate_left
  · skip
    clear h
    go_enter Try.func15, Try.ntmps15
    go_wp2_with (first | go_skip | ((with_reducible show wpList _ _ _ ({ dst := _, op := Op.store 23 _ _, type := _, pos := _, after := _, guard := _ } :: _) _ _); refine wpList_sto ty_rect HO.out 0 [.int .i64 0, .int .i64 0, .int .i64 0, .int .i64 0] rfl _ _ rfl _ rfl rfl _ rfl rfl rfl rfl ?_; intro w2 l2; clear HO; have HO := Lib.hid l2; clear l2))
    exact bodyPost_ret (results_c2 ty_rect rfl rfl rfl rfl (HO.out.at 0 rfl)) rfl ⟨rfl, HO.out.k⟩
  cases h7 : decide (m < 0)
  rotate_left
  · skip
    clear h
    go_enter Try.func15, Try.ntmps15
    go_wp2_with (first | go_skip | ((with_reducible show wpList _ _ _ ({ dst := _, op := Op.store 23 _ _, type := _, pos := _, after := _, guard := _ } :: _) _ _); refine wpList_sto ty_rect HO.out 0 [.int .i64 0, .int .i64 0, .int .i64 0, .int .i64 0] rfl _ _ rfl _ rfl rfl _ rfl rfl rfl rfl ?_; intro w2 l2; clear HO; have HO := Lib.hid l2; clear l2))
    exact bodyPost_ret (results_c2 ty_rect rfl rfl rfl rfl (HO.out.at 0 rfl)) rfl ⟨rfl, HO.out.k⟩
  cases h8 : decide (4096 < m)
  rotate_left
  · skip
    clear h
    go_enter Try.func15, Try.ntmps15
    go_wp2_with (first | go_skip | ((with_reducible show wpList _ _ _ ({ dst := _, op := Op.store 23 _ _, type := _, pos := _, after := _, guard := _ } :: _) _ _); refine wpList_sto ty_rect HO.out 0 [.int .i64 0, .int .i64 0, .int .i64 0, .int .i64 0] rfl _ _ rfl _ rfl rfl _ rfl rfl rfl rfl ?_; intro w2 l2; clear HO; have HO := Lib.hid l2; clear l2))
    exact bodyPost_ret (results_c2 ty_rect rfl rfl rfl rfl (HO.out.at 0 rfl)) rfl ⟨rfl, HO.out.k⟩
  exfalso
  simp only [decide_eq_false_iff_not] at h1 h2 h3 h4 h5 h6 h7 h8
  rw [Rt.view_iff.2 (by omega)] at h
  cases h
set_option maxHeartbeats 2000000 in
theorem rview_yes (x y n m : Int) (w : World) (h : Rt.view x y n m = true) :
    Calls Try.prog 15 #[.int .i64 x, .int .i64 y, .int .i64 n, .int .i64 m] w fun e w' => e = .returned (.tuple #[.agg #[.int .i64 x, .int .i64 y, .int .i64 (x + n), .int .i64 (y + m)], .bool true]) ∧ Kp w.heap.size w w' := by
  have HO := Lib.hid ((Ow.refl w).newAt w.heap.size rfl (.int .i64 0) [.int .i64 0, .int .i64 0, .int .i64 0] 23)
  obtain ⟨⟨a1, a2⟩, ⟨a3, a4⟩, ⟨a5, a6⟩, ⟨a7, a8⟩⟩ := Rt.view_iff.1 h
  have h1 : decide (x < -4096) = false := decide_eq_false (by omega)
  have h2 : decide (4096 < x) = false := decide_eq_false (by omega)
  have h3 : decide (y < -4096) = false := decide_eq_false (by omega)
  have h4 : decide (4096 < y) = false := decide_eq_false (by omega)
  have h5 : decide (n < 0) = false := decide_eq_false (by omega)
  have h6 : decide (4096 < n) = false := decide_eq_false (by omega)
  have h7 : decide (m < 0) = false := decide_eq_false (by omega)
  have h8 : decide (4096 < m) = false := decide_eq_false (by omega)
  clear h
  go_enter Try.func15, Try.ntmps15
  go_wp2_with (first | go_skip | ((with_reducible show wpList _ _ _ ({ dst := _, op := Op.store 23 _ _, type := _, pos := _, after := _, guard := _ } :: _) _ _); refine wpList_sto ty_rect HO.out 0 [.int .i64 x, .int .i64 y, .int .i64 (x + n), .int .i64 (y + m)] rfl _ _ rfl _ rfl rfl _ rfl rfl rfl rfl ?_; intro w2 l2; clear HO; have HO := Lib.hid l2; clear l2))
  exact bodyPost_ret (results_c2 ty_rect rfl rfl rfl rfl (HO.out.at 0 rfl)) rfl ⟨rfl, HO.out.k⟩
end Go.Proofs.Ytfgeamidgaekjaa
