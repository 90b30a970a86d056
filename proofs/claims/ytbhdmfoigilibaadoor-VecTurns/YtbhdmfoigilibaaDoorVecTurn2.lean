/-
  Contracts of layer 5 (vec): Turn.
-/
import Derived.Test.YtbhdmfoigilibaaDoorVecTurn
namespace Go.Proofs.YtbhdmfoigilibaaDoor
open Go.RowKit

theorem Sn.lt {W : World} (h : Sn W) : 0 < W.heap.size := World.block_lt_of_cell? W ⟨0, 0, none⟩ (h 0 (by omega))
theorem Sn.kp {W W' : World} (h : Sn W) {B : Nat} (k : Kp B W W') (hb : 0 < B) : Sn W' := fun j hj => by rw [k.cells _ j hb]; exact h j hj
theorem Sn.call {W W' : World} (h : Sn W) (k : Kp W.heap.size W W') : Sn W' := h.kp k h.lt

set_option maxHeartbeats 1000000 in
theorem turnOf_any (B : Nat) (w : World) :
    Calls Tryd.prog 11 #[.pointer (some ⟨B, 0, none⟩)] w fun e w' => e = .returned (.func (Fn.func 19) #[] #[.pointer (some ⟨w.heap.size, 0, none⟩)]) ∧ w' = w.alloc (.cells #[.pointer (some ⟨B, 0, none⟩)] 39) := by
  go_enter Tryd.func11, Tryd.ntmps11
  go_wp2
  go_ret
  exact ⟨rfl, rfl⟩

set_option maxHeartbeats 1000000 in
theorem turn_no (ax q : Int) (w : World) (h : ax < 0 ∨ 2 < ax) :
    Calls Tryd.prog 4 #[.int .i64 ax, .int .i64 q] w fun e w' => e = .returned (.tuple #[.agg (Vc.ar (fun _ => 0)), .int .i64 2]) ∧ Kp w.heap.size w w' := by
  have HZ := Lib.hid (Rw.zero16 w 25 rfl)
  have HK := Lib.hid ((Kp.refl w.heap.size w).alloc (Nat.le_refl _) #[.int .i64 0, .int .i64 0, .int .i64 0, .int .i64 0, .int .i64 0, .int .i64 0, .int .i64 0, .int .i64 0, .int .i64 0, .int .i64 0, .int .i64 0, .int .i64 0, .int .i64 0, .int .i64 0, .int .i64 0, .int .i64 0] 25)
  rcases h with h | h
  · go_enter Tryd.func4, Tryd.ntmps4
    go_wp2_with (first | go_skip | ((with_reducible show wpList _ _ _ ({ dst := _, op := Op.store 25 _ _, type := _, pos := _, after := _, guard := _ } :: _) _ _); refine wpList_st rfl _ _ rfl _ rfl (fun _ => 0) (congrArg Value.agg Vc.ar_zero) (f := fun _ => 0) ?_ ?_; (exact HZ.out); intro w2 hr2 hs2; have HR := Lib.hid hr2; have KK := Lib.hid (hs2.kp HK.out (by omega)); clear hr2 hs2))
    exact bodyPost_ret (results_m2 rfl rfl rfl HR.out) rfl ⟨rfl, KK.out⟩
  · have hd : decide (ax < 0) = false := decide_eq_false (by omega)
    have hg : 3 ≤ ax := by omega
    go_enter Tryd.func4, Tryd.ntmps4
    go_wp2_with (first | go_skip | ((with_reducible show wpList _ _ _ ({ dst := _, op := Op.store 25 _ _, type := _, pos := _, after := _, guard := _ } :: _) _ _); refine wpList_st rfl _ _ rfl _ rfl (fun _ => 0) (congrArg Value.agg Vc.ar_zero) (f := fun _ => 0) ?_ ?_; (exact HZ.out); intro w2 hr2 hs2; have HR := Lib.hid hr2; have KK := Lib.hid (hs2.kp HK.out (by omega)); clear hr2 hs2))
    exact bodyPost_ret (results_m2 rfl rfl rfl HR.out) rfl ⟨rfl, KK.out⟩

/-- the turn about an axis, by so many quarters -/
def Vc.turn (ax r : Nat) : Nat → Int := Vc.lay Vc.one ((ax + 1) % 3) ((ax + 2) % 3) r

set_option maxHeartbeats 4000000 in
theorem turn_yes (ax r : Nat) (q : Int) (w : World) (ha : ax < 3) (hr : r < 4) (hq : q % 4 = r) (hs : Sn w) :
    Calls Tryd.prog 4 #[.int .i64 ax, .int .i64 q] w fun e w' => e = .returned (.tuple #[.agg (Vc.ar (Vc.turn ax r)), .int .i64 0]) ∧ Kp w.heap.size w w' := by
  have hb := bits_three q
  rw [hq] at hb
  have HZ := Lib.hid (Rw.zero16 w 25 rfl)
  have HK := Lib.hid ((Kp.refl w.heap.size w).alloc (Nat.le_refl _) #[.int .i64 0, .int .i64 0, .int .i64 0, .int .i64 0, .int .i64 0, .int .i64 0, .int .i64 0, .int .i64 0, .int .i64 0, .int .i64 0, .int .i64 0, .int .i64 0, .int .i64 0, .int .i64 0, .int .i64 0, .int .i64 0] 25)
  have HS := Lib.hid (hs.kp HK.out hs.lt)
  clear hq hs
  obtain rfl | rfl | rfl : ax = 0 ∨ ax = 1 ∨ ax = 2 := by omega
  · go_enter Tryd.func4, Tryd.ntmps4
    go_wp2_with (first | go_skip | (go_at_call 10; refine (identity_any _).mono ?_; rintro e w1 ⟨rfl, hk1⟩; have HZ1 := Lib.hid (HZ.out.call (by omega) hk1); have HK1 := Lib.hid (HK.out.next hk1); have HS1 := Lib.hid (HS.out.call hk1); clear hk1) | ((with_reducible show wpList _ _ _ ({ dst := _, op := Op.load 25 _, type := _, pos := _, after := _, guard := _ } :: _) _ _); refine wpList_ldg rfl _ rfl _ rfl (Vc.lay Vc.one 1 2 r) ?_ ?_; (exact HR4.out)) | ((with_reducible show wpList _ _ _ ({ dst := _, op := Op.store 25 _ _, type := _, pos := _, after := _, guard := _ } :: _) _ _); have h9 := HZ4.out; clear h9; refine wpList_st rfl _ _ rfl _ rfl (Vc.lay Vc.one 1 2 r) rfl (f := fun _ => 0) ?_ ?_; (exact HZ4.out); intro w5 hr5 hs5; have HR5 := Lib.hid hr5; have KK := Lib.hid (hs5.kp HK4.out (by omega)); clear hr5 hs5) | ((with_reducible show wpList _ _ _ ({ dst := _, op := Op.store 25 _ _, type := _, pos := _, after := _, guard := _ } :: _) _ _); refine wpList_st rfl _ _ rfl _ rfl Vc.one rfl (f := fun _ => 0) ?_ ?_; (exact Rw.zero16 w1 _ rfl); intro w2 hr2 hs2; have HR2 := Lib.hid hr2; have HZ2 := Lib.hid (hs2.rw (HZ1.out.alloc (by omega) _ _) (Nat.ne_of_lt (HZ1.out.lt (by omega)))); have HK2 := Lib.hid (hs2.kp (HK1.out.alloc HK1.out.size _ _) HK1.out.size); have HS2 := Lib.hid (HS1.out.kp (hs2.kp ((Kp.refl _ _).alloc (Nat.le_refl _) _ _) (Nat.le_refl _)) HS1.out.lt); clear hr2 hs2) | (go_at_call 11; refine (turnOf_any w1.heap.size _).mono ?_; rintro e w3 ⟨rfl, rfl⟩) | (go_at_call 19; refine (lay_any Vc.one 1 2 r w2.heap.size w1.heap.size _ (by omega) (by omega) (by omega) hr ?_ (HR2.out.alloc (by omega) _ _) (HS2.out.call ((Kp.refl _ _).alloc (Nat.le_refl _) _ _)) (Nat.ne_of_gt (HR2.out.lt (by omega)))).mono ?_; (simp [go_sem]); rintro e w4 ⟨rfl, hr4, hs4⟩; have HR4 := Lib.hid hr4; have HZ4 := Lib.hid (hs4.rw (HZ2.out.alloc (by omega) _ _) (Nat.ne_of_lt (HZ1.out.lt (by omega)))); have HK4 := Lib.hid (hs4.kp (HK2.out.alloc HK2.out.size _ _) HK1.out.size); clear hr4 hs4))
    exact bodyPost_ret (results_m2 rfl rfl rfl HR5.out) rfl ⟨rfl, KK.out⟩
  · go_enter Tryd.func4, Tryd.ntmps4
    go_wp2_with (first | go_skip | (go_at_call 10; refine (identity_any _).mono ?_; rintro e w1 ⟨rfl, hk1⟩; have HZ1 := Lib.hid (HZ.out.call (by omega) hk1); have HK1 := Lib.hid (HK.out.next hk1); have HS1 := Lib.hid (HS.out.call hk1); clear hk1) | ((with_reducible show wpList _ _ _ ({ dst := _, op := Op.load 25 _, type := _, pos := _, after := _, guard := _ } :: _) _ _); refine wpList_ldg rfl _ rfl _ rfl (Vc.lay Vc.one 2 0 r) ?_ ?_; (exact HR4.out)) | ((with_reducible show wpList _ _ _ ({ dst := _, op := Op.store 25 _ _, type := _, pos := _, after := _, guard := _ } :: _) _ _); have h9 := HZ4.out; clear h9; refine wpList_st rfl _ _ rfl _ rfl (Vc.lay Vc.one 2 0 r) rfl (f := fun _ => 0) ?_ ?_; (exact HZ4.out); intro w5 hr5 hs5; have HR5 := Lib.hid hr5; have KK := Lib.hid (hs5.kp HK4.out (by omega)); clear hr5 hs5) | ((with_reducible show wpList _ _ _ ({ dst := _, op := Op.store 25 _ _, type := _, pos := _, after := _, guard := _ } :: _) _ _); refine wpList_st rfl _ _ rfl _ rfl Vc.one rfl (f := fun _ => 0) ?_ ?_; (exact Rw.zero16 w1 _ rfl); intro w2 hr2 hs2; have HR2 := Lib.hid hr2; have HZ2 := Lib.hid (hs2.rw (HZ1.out.alloc (by omega) _ _) (Nat.ne_of_lt (HZ1.out.lt (by omega)))); have HK2 := Lib.hid (hs2.kp (HK1.out.alloc HK1.out.size _ _) HK1.out.size); have HS2 := Lib.hid (HS1.out.kp (hs2.kp ((Kp.refl _ _).alloc (Nat.le_refl _) _ _) (Nat.le_refl _)) HS1.out.lt); clear hr2 hs2) | (go_at_call 11; refine (turnOf_any w1.heap.size _).mono ?_; rintro e w3 ⟨rfl, rfl⟩) | (go_at_call 19; refine (lay_any Vc.one 2 0 r w2.heap.size w1.heap.size _ (by omega) (by omega) (by omega) hr ?_ (HR2.out.alloc (by omega) _ _) (HS2.out.call ((Kp.refl _ _).alloc (Nat.le_refl _) _ _)) (Nat.ne_of_gt (HR2.out.lt (by omega)))).mono ?_; (simp [go_sem]); rintro e w4 ⟨rfl, hr4, hs4⟩; have HR4 := Lib.hid hr4; have HZ4 := Lib.hid (hs4.rw (HZ2.out.alloc (by omega) _ _) (Nat.ne_of_lt (HZ1.out.lt (by omega)))); have HK4 := Lib.hid (hs4.kp (HK2.out.alloc HK2.out.size _ _) HK1.out.size); clear hr4 hs4))
    exact bodyPost_ret (results_m2 rfl rfl rfl HR5.out) rfl ⟨rfl, KK.out⟩
  · go_enter Tryd.func4, Tryd.ntmps4
    go_wp2_with (first | go_skip | (go_at_call 10; refine (identity_any _).mono ?_; rintro e w1 ⟨rfl, hk1⟩; have HZ1 := Lib.hid (HZ.out.call (by omega) hk1); have HK1 := Lib.hid (HK.out.next hk1); have HS1 := Lib.hid (HS.out.call hk1); clear hk1) | ((with_reducible show wpList _ _ _ ({ dst := _, op := Op.load 25 _, type := _, pos := _, after := _, guard := _ } :: _) _ _); refine wpList_ldg rfl _ rfl _ rfl (Vc.lay Vc.one 0 1 r) ?_ ?_; (exact HR4.out)) | ((with_reducible show wpList _ _ _ ({ dst := _, op := Op.store 25 _ _, type := _, pos := _, after := _, guard := _ } :: _) _ _); have h9 := HZ4.out; clear h9; refine wpList_st rfl _ _ rfl _ rfl (Vc.lay Vc.one 0 1 r) rfl (f := fun _ => 0) ?_ ?_; (exact HZ4.out); intro w5 hr5 hs5; have HR5 := Lib.hid hr5; have KK := Lib.hid (hs5.kp HK4.out (by omega)); clear hr5 hs5) | ((with_reducible show wpList _ _ _ ({ dst := _, op := Op.store 25 _ _, type := _, pos := _, after := _, guard := _ } :: _) _ _); refine wpList_st rfl _ _ rfl _ rfl Vc.one rfl (f := fun _ => 0) ?_ ?_; (exact Rw.zero16 w1 _ rfl); intro w2 hr2 hs2; have HR2 := Lib.hid hr2; have HZ2 := Lib.hid (hs2.rw (HZ1.out.alloc (by omega) _ _) (Nat.ne_of_lt (HZ1.out.lt (by omega)))); have HK2 := Lib.hid (hs2.kp (HK1.out.alloc HK1.out.size _ _) HK1.out.size); have HS2 := Lib.hid (HS1.out.kp (hs2.kp ((Kp.refl _ _).alloc (Nat.le_refl _) _ _) (Nat.le_refl _)) HS1.out.lt); clear hr2 hs2) | (go_at_call 11; refine (turnOf_any w1.heap.size _).mono ?_; rintro e w3 ⟨rfl, rfl⟩) | (go_at_call 19; refine (lay_any Vc.one 0 1 r w2.heap.size w1.heap.size _ (by omega) (by omega) (by omega) hr ?_ (HR2.out.alloc (by omega) _ _) (HS2.out.call ((Kp.refl _ _).alloc (Nat.le_refl _) _ _)) (Nat.ne_of_gt (HR2.out.lt (by omega)))).mono ?_; (simp [go_sem]); rintro e w4 ⟨rfl, hr4, hs4⟩; have HR4 := Lib.hid hr4; have HZ4 := Lib.hid (hs4.rw (HZ2.out.alloc (by omega) _ _) (Nat.ne_of_lt (HZ1.out.lt (by omega)))); have HK4 := Lib.hid (hs4.kp (HK2.out.alloc HK2.out.size _ _) HK1.out.size); clear hr4 hs4))
    exact bodyPost_ret (results_m2 rfl rfl rfl HR5.out) rfl ⟨rfl, KK.out⟩
end Go.Proofs.YtbhdmfoigilibaaDoor
