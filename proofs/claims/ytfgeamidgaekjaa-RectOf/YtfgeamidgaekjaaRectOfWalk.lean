/-
  RectOf: its Go text returns true.
-/
import Derived.Test.YtfgeamidgaekjaaRectWalks3
namespace Go.Proofs.Ytfgeamidgaekjaa
open Go.RowKit

theorem Rt.area_of {x y n m : Int} (h : Rt.view x y n m = true) : Rt.area x y (x + n) (y + m) = n * m := by
  have h1 := Rt.view_iff.1 h
  unfold Rt.area
  split
  · rename_i k
    rcases Rt.emp_iff.1 k with k | k
    · obtain rfl : n = 0 := by omega
      simp
    · obtain rfl : m = 0 := by omega
      simp
  · rw [show x + n - x = n by omega, show y + m - y = m by omega]
set_option maxHeartbeats 2000000 in
theorem of_walk (x y n m : Int) (w : World) :
    Calls Try.prog 4 #[.agg #[.int .i64 x, .int .i64 y], .agg #[.int .i64 n, .int .i64 m]] w fun e w' => e = .returned (.bool true) ∧ Kp w.heap.size w w' := by
  cases h : Rt.view x y n m
  · have T1 := fun W => of_no x y n m W h
    have T2 := fun W => rview_no x y n m W h
    clear h
    have HO := Lib.hid (((Ow.refl w).newAt w.heap.size rfl (.int .i64 x) [.int .i64 y] 31).newAt (w.heap.size + 1) (by simp) (.int .i64 n) [.int .i64 m] 31)
    have hE := run_eqR_same
    go_enter Try.func4, Try.ntmps4
    go_upto_region 2 with (go_at_call 14; refine (T1 _).mono ?_; rintro e w1 ⟨rfl, hk1⟩; have l2 := (HO.out.call hk1).newAt w1.heap.size rfl (.int .i64 0) [.int .i64 0, .int .i64 0, .int .i64 0] 23; clear HO hk1; have HO := Lib.hid l2; clear l2)
    generalize hW : World.alloc _ _ = W at *
    generalize hB : World.heap w1 = H at *
    clear hW hB w1
    have c0 := (HO.out.at 2 rfl).cell 0 rfl
    have c1 := (HO.out.at 2 rfl).cell 1 rfl
    have d0 := (HO.out.at 1 rfl).cell 0 rfl
    have d1 := (HO.out.at 1 rfl).cell 1 rfl
    go_upto_region 3 with (go_at_call 15; refine (T2 _).mono ?_; rintro e w1 ⟨rfl, hk1⟩; have l2 := (HO.out.call hk1).newAt w1.heap.size rfl (.int .i64 0) [.int .i64 0, .int .i64 0, .int .i64 0] 23; clear HO hk1 c0 c1 d0 d1; have HO := Lib.hid l2; clear l2)
    generalize hW : World.alloc _ _ = W2 at *
    generalize hB : World.heap w1 = H2 at *
    clear hW hB w1
    go_wp2_with (first | go_skip | ((with_reducible show wpList _ _ _ ({ dst := _, op := Op.load 23 _, type := _, pos := _, after := _, guard := _ } :: _) _ _); refine wpList_ldr ty_rect rfl _ rfl _ rfl _ rfl (HO.out.at 1 rfl) ?_) | (go_at_call 13; refine (awake_any _).mono ?_; rintro e w1 ⟨rfl, hk1⟩; have l2 := HO.out.call hk1; clear HO hk1; have HO := Lib.hid l2; clear l2))
    go_ret
    exact ⟨rfl, HO.out.k⟩
  · have T1 := fun W => of_yes x y n m W h
    have T2 := fun W => rview_yes x y n m W h
    have h9 := Rt.view_iff.1 h
    have q1 : 0 ≤ n * m := Int.mul_nonneg (by omega) (by omega)
    have q2 : n * m ≤ 4096 * 4096 := Int.mul_le_mul (by omega) (by omega) (by omega) (by omega)
    have q3 : n * m ≤ 16777216 := by omega
    have T3 := fun W => area_yes x y (x + n) (y + m) W (Rt.small_iff.2 (by omega))
    rw [Rt.area_of h] at T3
    clear h h9 q2
    have HO := Lib.hid (((Ow.refl w).newAt w.heap.size rfl (.int .i64 x) [.int .i64 y] 31).newAt (w.heap.size + 1) (by simp) (.int .i64 n) [.int .i64 m] 31)
    have hE := run_eqR_same
    go_enter Try.func4, Try.ntmps4
    go_upto_region 2 with (go_at_call 14; refine (T1 _).mono ?_; rintro e w1 ⟨rfl, hk1⟩; have l2 := (HO.out.call hk1).newAt w1.heap.size rfl (.int .i64 x) [.int .i64 y, .int .i64 (x + n), .int .i64 (y + m)] 23; clear HO hk1; have HO := Lib.hid l2; clear l2)
    generalize hW : World.alloc _ _ = W at *
    generalize hB : World.heap w1 = H at *
    clear hW hB w1
    have c0 := (HO.out.at 2 rfl).cell 0 rfl
    have c1 := (HO.out.at 2 rfl).cell 1 rfl
    have d0 := (HO.out.at 1 rfl).cell 0 rfl
    have d1 := (HO.out.at 1 rfl).cell 1 rfl
    go_upto_region 3 with (go_at_call 15; refine (T2 _).mono ?_; rintro e w1 ⟨rfl, hk1⟩; have l2 := (HO.out.call hk1).newAt w1.heap.size rfl (.int .i64 x) [.int .i64 y, .int .i64 (x + n), .int .i64 (y + m)] 23; clear HO hk1 c0 c1 d0 d1; have HO := Lib.hid l2; clear l2)
    generalize hW : World.alloc _ _ = W2 at *
    generalize hB : World.heap w1 = H2 at *
    clear hW hB w1
    go_upto_region 6 with (first | go_skip | ((with_reducible show wpList _ _ _ ({ dst := _, op := Op.load 23 _, type := _, pos := _, after := _, guard := _ } :: _) _ _); refine wpList_ldr ty_rect rfl _ rfl _ rfl _ rfl (HO.out.at 1 rfl) ?_) | (go_at_call 16; refine (T3 _).mono ?_; rintro e w1 ⟨rfl, hk1⟩; have l2 := HO.out.call hk1; clear HO hk1; have HO := Lib.hid l2; clear l2))
    have d0 := (HO.out.at 2 rfl).cell 0 rfl
    have d1 := (HO.out.at 2 rfl).cell 1 rfl
    go_wp2_with (first | go_skip | ((with_reducible show wpList _ _ _ ({ dst := _, op := Op.load 23 _, type := _, pos := _, after := _, guard := _ } :: _) _ _); refine wpList_ldr ty_rect rfl _ rfl _ rfl _ rfl (HO.out.at 1 rfl) ?_) | ((with_reducible show wpList _ _ _ ({ dst := _, op := Op.load 23 _, type := _, pos := _, after := _, guard := _ } :: _) _ _); refine wpList_ldr ty_rect rfl _ rfl _ rfl _ rfl (HO.out.at 0 rfl) ?_) | (go_at_call 13; refine (awake_any _).mono ?_; rintro e w1 ⟨rfl, hk1⟩; have l2 := HO.out.call hk1; clear HO hk1; have HO := Lib.hid l2; clear l2))
    go_ret
    exact ⟨rfl, HO.out.k⟩
end Go.Proofs.Ytfgeamidgaekjaa
