/-
  Contracts of layer 14 (texel): a texel of a right texture; At.
-/
import Derived.Test.YtbhpjklomnjkfaaTexCheck
import Derived.BigGuard
namespace Go.Proofs.Ytbhpjklomnjkfaa
open Go.RowKit

/-- the error of a place in a right texture -/
def Tx.readE (k x y : Int) : Int := if Tx.is k then (if Tx.within 1048576 x && Tx.within 1048576 y then 0 else 3) else 9
theorem Tx.wrapE_ok {k n s : Int} (hk : Tx.is k = true) (hs : Tx.side s = true) (hn : Tx.within 1048576 n = true) : Tx.wrapE k n s = 0 := by unfold Tx.wrapE; rw [hk, hs, hn]; rfl
theorem Tx.wrapE_kind {k n s : Int} (hk : Tx.is k = false) : Tx.wrapE k n s = 9 := by unfold Tx.wrapE; rw [hk]; rfl
theorem Tx.wrapE_out {k n s : Int} (hk : Tx.is k = true) (hs : Tx.side s = true) (hn : Tx.within 1048576 n = false) : Tx.wrapE k n s = 3 := by unfold Tx.wrapE; rw [hk, hs, hn]; rfl
theorem Tx.readE_kind {k x y : Int} (hk : Tx.is k = false) : Tx.readE k x y = 9 := by unfold Tx.readE; rw [hk]; rfl
theorem Tx.readE_out {k x y : Int} (hk : Tx.is k = true) (hn : (Tx.within 1048576 x && Tx.within 1048576 y) = false) : Tx.readE k x y = 3 := by unfold Tx.readE; rw [hk, hn]; rfl
theorem Tx.readE_ok {k x y : Int} (hk : Tx.is k = true) (hx : Tx.within 1048576 x = true) (hy : Tx.within 1048576 y = true) : Tx.readE k x y = 0 := by unfold Tx.readE; rw [hk, hx, hy]; rfl
set_option maxHeartbeats 1000000 in
theorem read_no (W H x y k : Int) (v : Value) (w : World) (hW : Tx.side W = true) (hH : Tx.side H = true) (h : Tx.readE k x y ≠ 0) :
    Calls Try.prog 22 #[.agg #[.int .i64 W, .int .i64 H, v], .int .i64 x, .int .i64 y, .int .i64 k] w fun e w' => e = .returned (.tuple #[.agg #[.int .i64 0, .int .i64 0, .int .i64 0, .int .i64 0], .int .i64 (Tx.readE k x y)]) ∧ Kp w.heap.size w w' := by
  cases hk : Tx.is k
  · have A1 := fun U => wrap_no k x W U (by rw [Tx.wrapE_kind hk]; decide)
    rw [Tx.wrapE_kind hk] at A1
    rw [Tx.readE_kind hk]
    clear h hk hW hH
    have HO := Lib.hid (((Ow.refl w).newAt w.heap.size rfl (.int .i64 W) [.int .i64 H, v] 24).newAt (w.heap.size + 1) (by simp) (.int .i64 0) [.int .i64 0, .int .i64 0, .int .i64 0] 29)
    have c0 := (HO.out.at 1 rfl).cell 0 rfl
    go_enter Try.func22, Try.ntmps22
    go_wp2_with (first | (go_at_call 16; refine (A1 _).mono ?_; rintro e w' ⟨rfl, rfl⟩) | ((with_reducible show wpList _ _ _ ({ dst := _, op := Op.store 29 _ _, type := _, pos := _, after := _, guard := _ } :: _) _ _); refine wpList_sto ty_color HO.out 0 [.int .i64 0, .int .i64 0, .int .i64 0, .int .i64 0] rfl _ _ rfl _ rfl rfl _ rfl rfl rfl rfl ?_; intro w2 l2; clear HO; have HO := Lib.hid l2; clear l2))
    exact bodyPost_ret (results_c2 ty_color rfl rfl rfl rfl (HO.out.at 0 rfl)) rfl ⟨rfl, HO.out.k⟩
  cases hx : Tx.within 1048576 x
  · have A1 := fun U => wrap_no k x W U (by rw [Tx.wrapE_out hk hW hx]; decide)
    rw [Tx.wrapE_out hk hW hx] at A1
    rw [Tx.readE_out hk (by rw [hx]; rfl)]
    clear h hk hW hH hx
    have HO := Lib.hid (((Ow.refl w).newAt w.heap.size rfl (.int .i64 W) [.int .i64 H, v] 24).newAt (w.heap.size + 1) (by simp) (.int .i64 0) [.int .i64 0, .int .i64 0, .int .i64 0] 29)
    have c0 := (HO.out.at 1 rfl).cell 0 rfl
    go_enter Try.func22, Try.ntmps22
    go_wp2_with (first | (go_at_call 16; refine (A1 _).mono ?_; rintro e w' ⟨rfl, rfl⟩) | ((with_reducible show wpList _ _ _ ({ dst := _, op := Op.store 29 _ _, type := _, pos := _, after := _, guard := _ } :: _) _ _); refine wpList_sto ty_color HO.out 0 [.int .i64 0, .int .i64 0, .int .i64 0, .int .i64 0] rfl _ _ rfl _ rfl rfl _ rfl rfl rfl rfl ?_; intro w2 l2; clear HO; have HO := Lib.hid l2; clear l2))
    exact bodyPost_ret (results_c2 ty_color rfl rfl rfl rfl (HO.out.at 0 rfl)) rfl ⟨rfl, HO.out.k⟩
  cases hy : Tx.within 1048576 y
  · have A1 := fun U => wrap_yes k x W U hk (Tx.side_iff.1 hW) (Tx.within_iff.1 hx)
    have A2 := fun U => wrap_no k y H U (by rw [Tx.wrapE_out hk hH hy]; decide)
    rw [Tx.wrapE_out hk hH hy] at A2
    rw [Tx.readE_out hk (by rw [hx, hy]; rfl)]
    generalize Tx.wrap k x W = cc at *
    clear h hk hW hH hx hy
    have HO := Lib.hid (((Ow.refl w).newAt w.heap.size rfl (.int .i64 W) [.int .i64 H, v] 24).newAt (w.heap.size + 1) (by simp) (.int .i64 0) [.int .i64 0, .int .i64 0, .int .i64 0] 29)
    have c0 := (HO.out.at 1 rfl).cell 0 rfl
    have c1 := (HO.out.at 1 rfl).cell 1 rfl
    go_enter Try.func22, Try.ntmps22
    go_wp2_with (first | (go_at_call 16; (first | (with_reducible refine (A1 _).mono ?_) | (with_reducible refine (A2 _).mono ?_)); rintro e w' ⟨rfl, rfl⟩) | ((with_reducible show wpList _ _ _ ({ dst := _, op := Op.store 29 _ _, type := _, pos := _, after := _, guard := _ } :: _) _ _); refine wpList_sto ty_color HO.out 0 [.int .i64 0, .int .i64 0, .int .i64 0, .int .i64 0] rfl _ _ rfl _ rfl rfl _ rfl rfl rfl rfl ?_; intro w2 l2; clear HO; have HO := Lib.hid l2; clear l2))
    exact bodyPost_ret (results_c2 ty_color rfl rfl rfl rfl (HO.out.at 0 rfl)) rfl ⟨rfl, HO.out.k⟩
  · exact absurd (Tx.readE_ok hk hx hy) h
set_option maxHeartbeats 1000000 in
theorem read_yes (W H x y k : Int) (l : List Int) (v : Value) (w : World) (hS : Sl w v (iv l)) (hc : Tx.chk W H l = 0) (hk : Tx.is k = true) (hx : -1048576 ≤ x ∧ x ≤ 1048576) (hy : -1048576 ≤ y ∧ y ≤ 1048576) :
    Calls Try.prog 22 #[.agg #[.int .i64 W, .int .i64 H, v], .int .i64 x, .int .i64 y, .int .i64 k] w fun e w' => e = .returned (.tuple #[.agg #[.int .i64 (Tn.part (Tx.px W H l x y k) 0), .int .i64 (Tn.part (Tx.px W H l x y k) 1), .int .i64 (Tn.part (Tx.px W H l x y k) 2), .int .i64 (Tn.part (Tx.px W H l x y k) 3)], .int .i64 0]) ∧ Kp w.heap.size w w' := by
  obtain ⟨q1, q2, q3, q4⟩ := Tx.chk_ok.1 hc
  have A1 := fun U => wrap_yes k x W U hk q1 hx
  have A2 := fun U => wrap_yes k y H U hk q2 hy
  obtain ⟨a1, a2⟩ := Tx.area_bd q1 q2
  obtain ⟨b1, b2⟩ := Tx.wrap_bd (k := k) (n := x) q1.1
  obtain ⟨b3, b4⟩ := Tx.wrap_bd (k := k) (n := y) q2.1
  obtain ⟨j, hj, hjl, hpx, hg⟩ := Tx.px_at (x := x) (y := y) (k := k) hc
  have U1 := fun U => unpack_yes (Tx.px W H l x y k) U (by rw [← hpx]; exact hg)
  obtain ⟨a, c, rfl, hac, hu⟩ := hS.parts
  have hcell := hu _ (Kp.refl _ _ |>.alloc (Nat.le_refl _) #[.int .i64 W, .int .i64 H, .slice a (iv l).length c] 24 |>.alloc (by simp) #[.int .i64 0, .int .i64 0, .int .i64 0, .int .i64 0] 29) j _ (iv_get hjl)
  rw [iv_len] at hac hcell ⊢
  rw [hpx] at hcell
  obtain ⟨p, o, rfl, hcell⟩ := hcell
  unfold Tx.spot at hj
  have m1 : 0 ≤ Tx.wrap k y H * W := Int.mul_nonneg b3 (by omega)
  have m2 : Tx.wrap k y H * W ≤ 4096 := by omega
  have j1 : (j : Int) < (l.length : Int) := by omega
  have j2 : (l.length : Int) ≤ 4096 := by omega
  generalize Tx.px W H l x y k = px at *
  generalize Tx.wrap k x W = cc at *
  generalize Tx.wrap k y H = rr at *
  have hj' := hj.symm
  clear hj hS hc hk hx hy hu hpx hg q1 q2 q3 q4 a1 a2 b1 b2 b3 b4
  have HO := Lib.hid (((Ow.refl w).newAt w.heap.size rfl (.int .i64 W) [.int .i64 H, .slice (some ⟨p, o, none⟩) l.length c] 24).newAt (w.heap.size + 1) (by simp) (.int .i64 0) [.int .i64 0, .int .i64 0, .int .i64 0] 29)
  have c0 := (HO.out.at 1 rfl).cell 0 rfl
  have c1 := (HO.out.at 1 rfl).cell 1 rfl
  have c2 := (HO.out.at 1 rfl).cell 2 rfl
  go_enter Try.func22, Try.ntmps22
  go_wp2_with (first | (go_at_call 16; (first | (with_reducible refine (A1 _).mono ?_) | (with_reducible refine (A2 _).mono ?_)); rintro e w' ⟨rfl, rfl⟩) | (go_at_call 24; refine (U1 _).mono ?_; rintro e w1 ⟨rfl, hk1⟩; have l2 := HO.out.call hk1; clear HO hk1; have HO := Lib.hid l2; clear l2) | ((with_reducible show wpList _ _ _ ({ dst := _, op := Op.store 29 _ _, type := _, pos := _, after := _, guard := _ } :: _) _ _); refine wpList_sto ty_color HO.out 0 [.int .i64 (Tn.part px 0), .int .i64 (Tn.part px 1), .int .i64 (Tn.part px 2), .int .i64 (Tn.part px 3)] rfl _ _ rfl _ rfl rfl _ rfl rfl rfl rfl ?_; intro w2 l2; clear HO; have HO := Lib.hid l2; clear l2))
  exact bodyPost_ret (results_c2 ty_color rfl rfl rfl rfl (HO.out.at 0 rfl)) rfl ⟨rfl, HO.out.k⟩

/-- the error of At -/
def Tx.atE (W H : Int) (l : List Int) (k x y : Int) : Int := if Tx.chk W H l = 0 then Tx.readE k x y else Tx.chk W H l
set_option maxHeartbeats 1000000 in
theorem at_no (W H x y k : Int) (l : List Int) (v : Value) (w : World) (hS : Sl w v (iv l)) (hi : Tx.ints l) (h : Tx.atE W H l k x y ≠ 0) :
    Calls Try.prog 8 #[.agg #[.int .i64 W, .int .i64 H, v], .int .i64 x, .int .i64 y, .int .i64 k] w fun e w' => e = .returned (.tuple #[.agg #[.int .i64 0, .int .i64 0, .int .i64 0, .int .i64 0], .int .i64 (Tx.atE W H l k x y)]) ∧ Kp w.heap.size w w' := by
  have HS := Lib.hid hS
  have C1 := fun U (hk : Kp w.heap.size w U) => check_any W H l v U (hS.next hk) hi
  have HO := Lib.hid (((Ow.refl w).newAt w.heap.size rfl (.int .i64 W) [.int .i64 H, v] 24).newAt (w.heap.size + 1) (by simp) (.int .i64 0) [.int .i64 0, .int .i64 0, .int .i64 0] 29)
  have c0 := (HO.out.at 1 rfl).cell 0 rfl
  unfold Tx.atE at h ⊢
  by_cases hc : Tx.chk W H l = 0
  · rw [if_pos hc] at h ⊢
    rw [hc] at C1
    have R1 := fun U => read_no W H x y k v U (Tx.side_iff.2 (Tx.chk_ok.1 hc).1) (Tx.side_iff.2 (Tx.chk_ok.1 hc).2.1) h
    generalize Tx.readE k x y = e0 at *
    clear hS hi h hc c0
    go_enter Try.func8, Try.ntmps8
    go_wp2_with (first | ((with_reducible show wpList _ _ _ ({ dst := _, op := Op.load 24 _, type := _, pos := _, after := _, guard := _ } :: _) _ _); refine wpList_ldr ty_tex rfl _ rfl _ rfl _ rfl (HO.out.at 1 rfl) ?_) | (go_at_call 10; refine (C1 _ HO.out.k).mono ?_; rintro e w1 ⟨rfl, hk1⟩; have l2 := HO.out.call hk1; clear HO hk1; have HO := Lib.hid l2; clear l2) | (go_at_call 22; refine (R1 _).mono ?_; rintro e w1 ⟨rfl, hk1⟩; have l2 := HO.out.call hk1; clear HO hk1; have HO := Lib.hid l2; clear l2) | ((with_reducible show wpList _ _ _ ({ dst := _, op := Op.store 29 _ _, type := _, pos := _, after := _, guard := _ } :: _) _ _); refine wpList_sto ty_color HO.out 0 [.int .i64 0, .int .i64 0, .int .i64 0, .int .i64 0] rfl _ _ rfl _ rfl rfl _ rfl rfl rfl rfl ?_; intro w2 l2; clear HO; have HO := Lib.hid l2; clear l2))
    exact bodyPost_ret (results_c2 ty_color rfl rfl rfl rfl (HO.out.at 0 rfl)) rfl ⟨rfl, HO.out.k⟩
  · rw [if_neg hc]
    have hc2 : (Tx.chk W H l == 0) = false := by simpa using hc
    generalize Tx.chk W H l = e0 at *
    clear hS hi h hc c0
    go_enter Try.func8, Try.ntmps8
    go_wp2_with (first | ((with_reducible show wpList _ _ _ ({ dst := _, op := Op.load 24 _, type := _, pos := _, after := _, guard := _ } :: _) _ _); refine wpList_ldr ty_tex rfl _ rfl _ rfl _ rfl (HO.out.at 1 rfl) ?_) | (go_at_call 10; refine (C1 _ HO.out.k).mono ?_; rintro e w1 ⟨rfl, hk1⟩; have l2 := HO.out.call hk1; clear HO hk1; have HO := Lib.hid l2; clear l2) | ((with_reducible show wpList _ _ _ ({ dst := _, op := Op.store 29 _ _, type := _, pos := _, after := _, guard := _ } :: _) _ _); refine wpList_sto ty_color HO.out 0 [.int .i64 0, .int .i64 0, .int .i64 0, .int .i64 0] rfl _ _ rfl _ rfl rfl _ rfl rfl rfl rfl ?_; intro w2 l2; clear HO; have HO := Lib.hid l2; clear l2))
    exact bodyPost_ret (results_c2 ty_color rfl rfl rfl rfl (HO.out.at 0 rfl)) rfl ⟨rfl, HO.out.k⟩
set_option maxHeartbeats 1000000 in
theorem at_yes (W H x y k : Int) (l : List Int) (v : Value) (w : World) (hS : Sl w v (iv l)) (hi : Tx.ints l) (hc : Tx.chk W H l = 0) (hk : Tx.is k = true) (hx : -1048576 ≤ x ∧ x ≤ 1048576) (hy : -1048576 ≤ y ∧ y ≤ 1048576) :
    Calls Try.prog 8 #[.agg #[.int .i64 W, .int .i64 H, v], .int .i64 x, .int .i64 y, .int .i64 k] w fun e w' => e = .returned (.tuple #[.agg #[.int .i64 (Tn.part (Tx.px W H l x y k) 0), .int .i64 (Tn.part (Tx.px W H l x y k) 1), .int .i64 (Tn.part (Tx.px W H l x y k) 2), .int .i64 (Tn.part (Tx.px W H l x y k) 3)], .int .i64 0]) ∧ Kp w.heap.size w w' := by
  have C1 := fun U (hk : Kp w.heap.size w U) => check_any W H l v U (hS.next hk) hi
  have R1 := fun U (hk2 : Kp w.heap.size w U) => read_yes W H x y k l v U (hS.next hk2) hc hk hx hy
  rw [hc] at C1
  have HO := Lib.hid (((Ow.refl w).newAt w.heap.size rfl (.int .i64 W) [.int .i64 H, v] 24).newAt (w.heap.size + 1) (by simp) (.int .i64 0) [.int .i64 0, .int .i64 0, .int .i64 0] 29)
  have c0 := (HO.out.at 1 rfl).cell 0 rfl
  generalize Tx.px W H l x y k = px at *
  clear hS hi hc hk hx hy c0
  go_enter Try.func8, Try.ntmps8
  go_wp2_with (first | ((with_reducible show wpList _ _ _ ({ dst := _, op := Op.load 24 _, type := _, pos := _, after := _, guard := _ } :: _) _ _); refine wpList_ldr ty_tex rfl _ rfl _ rfl _ rfl (HO.out.at 1 rfl) ?_) | (go_at_call 10; refine (C1 _ HO.out.k).mono ?_; rintro e w1 ⟨rfl, hk1⟩; have l2 := HO.out.call hk1; clear HO hk1; have HO := Lib.hid l2; clear l2) | (go_at_call 22; refine (R1 _ HO.out.k).mono ?_; rintro e w1 ⟨rfl, hk1⟩; have l2 := HO.out.call hk1; clear HO hk1; have HO := Lib.hid l2; clear l2) | ((with_reducible show wpList _ _ _ ({ dst := _, op := Op.store 29 _ _, type := _, pos := _, after := _, guard := _ } :: _) _ _); refine wpList_sto ty_color HO.out 0 [.int .i64 (Tn.part px 0), .int .i64 (Tn.part px 1), .int .i64 (Tn.part px 2), .int .i64 (Tn.part px 3)] rfl _ _ rfl _ rfl rfl _ rfl rfl rfl rfl ?_; intro w2 l2; clear HO; have HO := Lib.hid l2; clear l2))
  exact bodyPost_ret (results_c2 ty_color rfl rfl rfl rfl (HO.out.at 0 rfl)) rfl ⟨rfl, HO.out.k⟩
end Go.Proofs.Ytbhpjklomnjkfaa
