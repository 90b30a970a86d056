/-
  Contracts of layer 15 (clip): Cut, At, All.
-/
import Derived.Test.YtfhlnldiljldcaaClipCheck
import Derived.Test.YtfhlnldiljldcaaClipRest
import Derived.Test.YtfhlnldiljldcaaClipRefAll
import Derived.BigGuard
namespace Go.Proofs.Ytfhlnldiljldcaa
open Go.RowKit

theorem Cl.cutE_chk {k : Int} {a b : Cn} (h : Cl.atE k [a, b] ≠ 0) : Cl.cutE k a b = Cl.atE k [a, b] := by
  unfold Cl.atE Cl.cutE at *
  rw [Cl.chk_two] at *
  cases hp : Cl.pl k <;> cases hm : (Cl.mayB a && Cl.mayB b) <;> simp_all
theorem Cl.cutE_ok {k : Int} {a b : Cn} (h : Cl.atE k [a, b] = 0) : Cl.pl k = true ∧ Cl.mayB a = true ∧ Cl.mayB b = true := by
  unfold Cl.atE at h
  rw [Cl.chk_two] at h
  cases hp : Cl.pl k
  · rw [hp] at h; simp at h
  · cases hm : (Cl.mayB a && Cl.mayB b)
    · rw [hp, hm] at h; simp at h
    · exact ⟨rfl, by simpa using hm⟩
set_option linter.unusedSimpArgs false in
set_option maxRecDepth 100000 in
set_option maxHeartbeats 8000000 in
theorem cut_no (k : Int) (a b : Cn) (w : World) (h : Cl.cutE k a b ≠ 0) :
    Calls Try.prog 7 #[.int .i64 k, .agg #[.int .i64 (a 0), .int .i64 (a 1), .int .i64 (a 2), .int .i64 (a 3), .int .i64 (a 4), .int .i64 (a 5), .int .i64 (a 6), .int .i64 (a 7), .int .i64 (a 8), .int .i64 (a 9)], .agg #[.int .i64 (b 0), .int .i64 (b 1), .int .i64 (b 2), .int .i64 (b 3), .int .i64 (b 4), .int .i64 (b 5), .int .i64 (b 6), .int .i64 (b 7), .int .i64 (b 8), .int .i64 (b 9)]] w fun e w' => e = .returned (.tuple #[.agg #[.int .i64 0, .int .i64 0, .int .i64 0, .int .i64 0, .int .i64 0, .int .i64 0, .int .i64 0, .int .i64 0, .int .i64 0, .int .i64 0], .int .i64 (Cl.cutE k a b)]) ∧ Kp w.heap.size w w' := by
  have C1 := fun v W hS => check_any k [a, b] v W hS
  have HO : Hid (Ow w _ [(w.heap.size + 2, [.int .i64 0, .int .i64 0, .int .i64 0, .int .i64 0, .int .i64 0, .int .i64 0, .int .i64 0, .int .i64 0, .int .i64 0, .int .i64 0]), (w.heap.size + 1, [.int .i64 (b 0), .int .i64 (b 1), .int .i64 (b 2), .int .i64 (b 3), .int .i64 (b 4), .int .i64 (b 5), .int .i64 (b 6), .int .i64 (b 7), .int .i64 (b 8), .int .i64 (b 9)]), (w.heap.size, [.int .i64 (a 0), .int .i64 (a 1), .int .i64 (a 2), .int .i64 (a 3), .int .i64 (a 4), .int .i64 (a 5), .int .i64 (a 6), .int .i64 (a 7), .int .i64 (a 8), .int .i64 (a 9)])]) := Lib.hid (((Ow.refl w).newAt w.heap.size rfl (.int .i64 (a 0)) [.int .i64 (a 1), .int .i64 (a 2), .int .i64 (a 3), .int .i64 (a 4), .int .i64 (a 5), .int .i64 (a 6), .int .i64 (a 7), .int .i64 (a 8), .int .i64 (a 9)] 26).newAt (w.heap.size + 1) (by simp) (.int .i64 (b 0)) [.int .i64 (b 1), .int .i64 (b 2), .int .i64 (b 3), .int .i64 (b 4), .int .i64 (b 5), .int .i64 (b 6), .int .i64 (b 7), .int .i64 (b 8), .int .i64 (b 9)] 26 |>.newAt (w.heap.size + 2) (by simp) (.int .i64 0) [.int .i64 0, .int .i64 0, .int .i64 0, .int .i64 0, .int .i64 0, .int .i64 0, .int .i64 0, .int .i64 0, .int .i64 0] 26)
  by_cases hc : Cl.atE k [a, b] = 0
  · obtain ⟨hp, hma, hmb⟩ := Cl.cutE_ok hc
    have hp2 := Cl.pl_iff.1 hp
    rw [hc] at C1
    obtain ⟨k, rfl⟩ : ∃ n : Nat, k = n := ⟨k.toNat, by omega⟩
    have N1 := fun W => within_any k a W (by omega) (Cl.may_iff.1 hma).1
    have N2 := fun W => within_any k b W (by omega) (Cl.may_iff.1 hmb).1
    have hE : (Cl.inn k a && !Cl.inn k b) = false := by
      rw [← Bool.not_eq_true]
      intro h2
      apply h
      unfold Cl.cutE
      rw [hp, hma, hmb]
      simp only [Bool.and_self, if_true, Int.toNat_natCast, h2]
    have HE := Lib.hid (Cl.cutE_form (k := k) (a := a) (b := b) hp (by rw [hma, hmb]; rfl) (by rw [Int.toNat_natCast]; exact hE))
    generalize Cl.cutE k a b = r at *
    obtain rfl : r = 6 := HE.out
    clear HE
    cases ha : Cl.inn k a
    · rw [ha] at N1
      clear hc hE ha hma hmb hp hp2 h N2
      go_enter Try.func7, Try.ntmps7
      go_wp2_with (first | go_big_skip | ((with_reducible show wpList _ _ _ ({ dst := _, op := Op.load 26 (Operand.tmp 4), type := _, pos := _, after := _, guard := _ } :: _) _ _); refine wpList_ldr ty_corner rfl _ rfl _ rfl _ rfl (HO.out.at 2 rfl) ?_) | ((with_reducible show wpList _ _ _ ({ dst := _, op := Op.load 26 (Operand.tmp 5), type := _, pos := _, after := _, guard := _ } :: _) _ _); refine wpList_ldr ty_corner rfl _ rfl _ rfl _ rfl (HO.out.at 1 rfl) ?_) | (go_at_call 20; refine (C1 _ _ ?_).mono ?_; (exact Sp.two _ a b _ _ (Nat.le_refl _) (show Rc _ _ ([.int .i64 (a 0), .int .i64 (a 1), .int .i64 (a 2), .int .i64 (a 3), .int .i64 (a 4), .int .i64 (a 5), .int .i64 (a 6), .int .i64 (a 7), .int .i64 (a 8), .int .i64 (a 9)] ++ [.int .i64 (b 0), .int .i64 (b 1), .int .i64 (b 2), .int .i64 (b 3), .int .i64 (b 4), .int .i64 (b 5), .int .i64 (b 6), .int .i64 (b 7), .int .i64 (b 8), .int .i64 (b 9)]) from Rc.new _ _ _ (by simp))); rintro e wz ⟨rfl, hk1⟩; have l2 := (HO.out.call (Kp.new _ _ _)).call hk1; clear HO hk1; have HO := Lib.hid l2; clear l2) | (go_at_call 21; (first | (with_reducible refine (N1 _).mono ?_) | (with_reducible refine (N2 _).mono ?_)); rintro e wz ⟨rfl, hk1⟩; have l2 := HO.out.call hk1; clear HO hk1; have HO := Lib.hid l2; clear l2) | ((with_reducible show wpList _ _ _ ({ dst := _, op := Op.store 26 _ _, type := _, pos := _, after := _, guard := _ } :: _) _ _); refine wpList_sto ty_corner HO.out 0 [.int .i64 0, .int .i64 0, .int .i64 0, .int .i64 0, .int .i64 0, .int .i64 0, .int .i64 0, .int .i64 0, .int .i64 0, .int .i64 0] rfl _ _ rfl _ rfl rfl _ rfl rfl rfl rfl ?_; intro w2 l2; clear HO; have HO := Lib.hid l2; clear l2))
      exact bodyPost_ret (results_c2 ty_corner rfl rfl rfl rfl (HO.out.at 0 rfl)) rfl ⟨rfl, HO.out.k⟩
    · cases hb : Cl.inn k b
      · rw [ha, hb] at hE; cases hE
      · rw [ha] at N1
        rw [hb] at N2
        clear hc hE ha hb hma hmb hp hp2 h
        go_enter Try.func7, Try.ntmps7
        go_wp2_with (first | go_big_skip | ((with_reducible show wpList _ _ _ ({ dst := _, op := Op.load 26 (Operand.tmp 4), type := _, pos := _, after := _, guard := _ } :: _) _ _); refine wpList_ldr ty_corner rfl _ rfl _ rfl _ rfl (HO.out.at 2 rfl) ?_) | ((with_reducible show wpList _ _ _ ({ dst := _, op := Op.load 26 (Operand.tmp 5), type := _, pos := _, after := _, guard := _ } :: _) _ _); refine wpList_ldr ty_corner rfl _ rfl _ rfl _ rfl (HO.out.at 1 rfl) ?_) | (go_at_call 20; refine (C1 _ _ ?_).mono ?_; (exact Sp.two _ a b _ _ (Nat.le_refl _) (show Rc _ _ ([.int .i64 (a 0), .int .i64 (a 1), .int .i64 (a 2), .int .i64 (a 3), .int .i64 (a 4), .int .i64 (a 5), .int .i64 (a 6), .int .i64 (a 7), .int .i64 (a 8), .int .i64 (a 9)] ++ [.int .i64 (b 0), .int .i64 (b 1), .int .i64 (b 2), .int .i64 (b 3), .int .i64 (b 4), .int .i64 (b 5), .int .i64 (b 6), .int .i64 (b 7), .int .i64 (b 8), .int .i64 (b 9)]) from Rc.new _ _ _ (by simp))); rintro e wz ⟨rfl, hk1⟩; have l2 := (HO.out.call (Kp.new _ _ _)).call hk1; clear HO hk1; have HO := Lib.hid l2; clear l2) | (go_at_call 21; (first | (with_reducible refine (N1 _).mono ?_) | (with_reducible refine (N2 _).mono ?_)); rintro e wz ⟨rfl, hk1⟩; have l2 := HO.out.call hk1; clear HO hk1; have HO := Lib.hid l2; clear l2) | ((with_reducible show wpList _ _ _ ({ dst := _, op := Op.store 26 _ _, type := _, pos := _, after := _, guard := _ } :: _) _ _); refine wpList_sto ty_corner HO.out 0 [.int .i64 0, .int .i64 0, .int .i64 0, .int .i64 0, .int .i64 0, .int .i64 0, .int .i64 0, .int .i64 0, .int .i64 0, .int .i64 0] rfl _ _ rfl _ rfl rfl _ rfl rfl rfl rfl ?_; intro w2 l2; clear HO; have HO := Lib.hid l2; clear l2))
        exact bodyPost_ret (results_c2 ty_corner rfl rfl rfl rfl (HO.out.at 0 rfl)) rfl ⟨rfl, HO.out.k⟩
  · rw [Cl.cutE_chk hc]
    generalize Cl.atE k [a, b] = r at *
    have q1 : (r != 0) = true := by simpa using hc
    clear h hc
    go_enter Try.func7, Try.ntmps7
    go_wp2_with (first | go_big_skip | ((with_reducible show wpList _ _ _ ({ dst := _, op := Op.load 26 (Operand.tmp 4), type := _, pos := _, after := _, guard := _ } :: _) _ _); refine wpList_ldr ty_corner rfl _ rfl _ rfl _ rfl (HO.out.at 2 rfl) ?_) | ((with_reducible show wpList _ _ _ ({ dst := _, op := Op.load 26 (Operand.tmp 5), type := _, pos := _, after := _, guard := _ } :: _) _ _); refine wpList_ldr ty_corner rfl _ rfl _ rfl _ rfl (HO.out.at 1 rfl) ?_) | (go_at_call 20; refine (C1 _ _ ?_).mono ?_; (exact Sp.two _ a b _ _ (Nat.le_refl _) (show Rc _ _ ([.int .i64 (a 0), .int .i64 (a 1), .int .i64 (a 2), .int .i64 (a 3), .int .i64 (a 4), .int .i64 (a 5), .int .i64 (a 6), .int .i64 (a 7), .int .i64 (a 8), .int .i64 (a 9)] ++ [.int .i64 (b 0), .int .i64 (b 1), .int .i64 (b 2), .int .i64 (b 3), .int .i64 (b 4), .int .i64 (b 5), .int .i64 (b 6), .int .i64 (b 7), .int .i64 (b 8), .int .i64 (b 9)]) from Rc.new _ _ _ (by simp))); rintro e wz ⟨rfl, hk1⟩; have l2 := (HO.out.call (Kp.new _ _ _)).call hk1; clear HO hk1; have HO := Lib.hid l2; clear l2) | ((with_reducible show wpList _ _ _ ({ dst := _, op := Op.store 26 _ _, type := _, pos := _, after := _, guard := _ } :: _) _ _); refine wpList_sto ty_corner HO.out 0 [.int .i64 0, .int .i64 0, .int .i64 0, .int .i64 0, .int .i64 0, .int .i64 0, .int .i64 0, .int .i64 0, .int .i64 0, .int .i64 0] rfl _ _ rfl _ rfl rfl _ rfl rfl rfl rfl ?_; intro w2 l2; clear HO; have HO := Lib.hid l2; clear l2))
    exact bodyPost_ret (results_c2 ty_corner rfl rfl rfl rfl (HO.out.at 0 rfl)) rfl ⟨rfl, HO.out.k⟩
set_option linter.unusedSimpArgs false in
set_option maxRecDepth 100000 in
set_option maxHeartbeats 8000000 in
theorem cut_yes (k : Nat) (a b : Cn) (w : World) (hk : k < 7) (ha : Cl.May a) (hb : Cl.May b) (h0 : 0 ≤ Cl.far k a) (h1 : Cl.far k b < 0) :
    Calls Try.prog 7 #[.int .i64 k, .agg #[.int .i64 (a 0), .int .i64 (a 1), .int .i64 (a 2), .int .i64 (a 3), .int .i64 (a 4), .int .i64 (a 5), .int .i64 (a 6), .int .i64 (a 7), .int .i64 (a 8), .int .i64 (a 9)], .agg #[.int .i64 (b 0), .int .i64 (b 1), .int .i64 (b 2), .int .i64 (b 3), .int .i64 (b 4), .int .i64 (b 5), .int .i64 (b 6), .int .i64 (b 7), .int .i64 (b 8), .int .i64 (b 9)]] w fun e w' => e = .returned (.tuple #[.agg #[.int .i64 ((Cl.cut k a b) 0), .int .i64 ((Cl.cut k a b) 1), .int .i64 ((Cl.cut k a b) 2), .int .i64 ((Cl.cut k a b) 3), .int .i64 ((Cl.cut k a b) 4), .int .i64 ((Cl.cut k a b) 5), .int .i64 ((Cl.cut k a b) 6), .int .i64 ((Cl.cut k a b) 7), .int .i64 ((Cl.cut k a b) 8), .int .i64 ((Cl.cut k a b) 9)], .int .i64 0]) ∧ Kp w.heap.size w w' := by
  have C1 := fun v W hS => check_any k [a, b] v W hS
  rw [show Cl.atE k [a, b] = 0 by rw [Cl.atE_chk (Cl.pl_iff.2 (by omega)), Cl.chk_two, Cl.may_iff.2 ha, Cl.may_iff.2 hb]; rfl] at C1
  have N1 := fun W => within_any k a W hk ha.1
  have N2 := fun W => within_any k b W hk hb.1
  rw [Cl.inn_iff.2 h0] at N1
  rw [Cl.inn_no.2 h1] at N2
  have C2 := fun W => cutc_any k a b W hk ha hb h0 h1
  generalize Cl.cut k a b = q at *
  have HO : Hid (Ow w _ [(w.heap.size + 2, [.int .i64 0, .int .i64 0, .int .i64 0, .int .i64 0, .int .i64 0, .int .i64 0, .int .i64 0, .int .i64 0, .int .i64 0, .int .i64 0]), (w.heap.size + 1, [.int .i64 (b 0), .int .i64 (b 1), .int .i64 (b 2), .int .i64 (b 3), .int .i64 (b 4), .int .i64 (b 5), .int .i64 (b 6), .int .i64 (b 7), .int .i64 (b 8), .int .i64 (b 9)]), (w.heap.size, [.int .i64 (a 0), .int .i64 (a 1), .int .i64 (a 2), .int .i64 (a 3), .int .i64 (a 4), .int .i64 (a 5), .int .i64 (a 6), .int .i64 (a 7), .int .i64 (a 8), .int .i64 (a 9)])]) := Lib.hid (((Ow.refl w).newAt w.heap.size rfl (.int .i64 (a 0)) [.int .i64 (a 1), .int .i64 (a 2), .int .i64 (a 3), .int .i64 (a 4), .int .i64 (a 5), .int .i64 (a 6), .int .i64 (a 7), .int .i64 (a 8), .int .i64 (a 9)] 26).newAt (w.heap.size + 1) (by simp) (.int .i64 (b 0)) [.int .i64 (b 1), .int .i64 (b 2), .int .i64 (b 3), .int .i64 (b 4), .int .i64 (b 5), .int .i64 (b 6), .int .i64 (b 7), .int .i64 (b 8), .int .i64 (b 9)] 26 |>.newAt (w.heap.size + 2) (by simp) (.int .i64 0) [.int .i64 0, .int .i64 0, .int .i64 0, .int .i64 0, .int .i64 0, .int .i64 0, .int .i64 0, .int .i64 0, .int .i64 0] 26)
  clear ha hb h0 h1
  go_enter Try.func7, Try.ntmps7
  go_wp2_with (first | go_big_skip | ((with_reducible show wpList _ _ _ ({ dst := _, op := Op.load 26 (Operand.tmp 4), type := _, pos := _, after := _, guard := _ } :: _) _ _); refine wpList_ldr ty_corner rfl _ rfl _ rfl _ rfl (HO.out.at 2 rfl) ?_) | ((with_reducible show wpList _ _ _ ({ dst := _, op := Op.load 26 (Operand.tmp 5), type := _, pos := _, after := _, guard := _ } :: _) _ _); refine wpList_ldr ty_corner rfl _ rfl _ rfl _ rfl (HO.out.at 1 rfl) ?_) | (go_at_call 20; refine (C1 _ _ ?_).mono ?_; (exact Sp.two _ a b _ _ (Nat.le_refl _) (show Rc _ _ ([.int .i64 (a 0), .int .i64 (a 1), .int .i64 (a 2), .int .i64 (a 3), .int .i64 (a 4), .int .i64 (a 5), .int .i64 (a 6), .int .i64 (a 7), .int .i64 (a 8), .int .i64 (a 9)] ++ [.int .i64 (b 0), .int .i64 (b 1), .int .i64 (b 2), .int .i64 (b 3), .int .i64 (b 4), .int .i64 (b 5), .int .i64 (b 6), .int .i64 (b 7), .int .i64 (b 8), .int .i64 (b 9)]) from Rc.new _ _ _ (by simp))); rintro e wz ⟨rfl, hk1⟩; have l2 := (HO.out.call (Kp.new _ _ _)).call hk1; clear HO hk1; have HO := Lib.hid l2; clear l2) | (go_at_call 21; (first | (with_reducible refine (N1 _).mono ?_) | (with_reducible refine (N2 _).mono ?_)); rintro e wz ⟨rfl, hk1⟩; have l2 := HO.out.call hk1; clear HO hk1; have HO := Lib.hid l2; clear l2) | (go_at_call 22; (with_reducible refine (C2 _).mono ?_); rintro e wz ⟨rfl, hk1⟩; have l2 := HO.out.call hk1; clear HO hk1; have HO := Lib.hid l2; clear l2) | ((with_reducible show wpList _ _ _ ({ dst := _, op := Op.store 26 _ _, type := _, pos := _, after := _, guard := _ } :: _) _ _); refine wpList_sto ty_corner HO.out 0 [.int .i64 (q 0), .int .i64 (q 1), .int .i64 (q 2), .int .i64 (q 3), .int .i64 (q 4), .int .i64 (q 5), .int .i64 (q 6), .int .i64 (q 7), .int .i64 (q 8), .int .i64 (q 9)] rfl _ _ rfl _ rfl rfl _ rfl rfl rfl rfl ?_; intro w2 l2; clear HO; have HO := Lib.hid l2; clear l2))
  exact bodyPost_ret (results_c2 ty_corner rfl rfl rfl rfl (HO.out.at 0 rfl)) rfl ⟨rfl, HO.out.k⟩
set_option linter.unusedSimpArgs false in
set_option maxRecDepth 100000 in
set_option maxHeartbeats 8000000 in
theorem at_yes (k : Nat) (l : List Cn) (v : Value) (w : World) (hS : Sp w v l) (hk : k < 7) (h : Cl.chk l = 0) :
    Calls Try.prog 13 #[.int .i64 k, v] w fun e w' => PAt w (Cl.at k l) 0 e w' := by
  obtain ⟨hl, hm⟩ := Cl.chk_ok.1 h
  have C1 := fun W hS => check_any k l v W hS
  rw [show Cl.atE k l = 0 by rw [Cl.atE_chk (Cl.pl_iff.2 (by omega)), h]] at C1
  have R1 := fun W hS => rest_any k l v W hS hk hm (by omega)
  have HS := Lib.hid hS
  generalize Cl.at k l = l2 at *
  clear h hS hl hm
  go_enter Try.func13, Try.ntmps13
  go_wp2_with (first | (go_at_call 20; refine (C1 _ HS.out).mono ?_; rintro e wz ⟨rfl, hk1⟩; have HS2 := Lib.hid (HS.out.next hk1); have HK := Lib.hid hk1; clear hk1 HS) | (go_at_call 26; refine (R1 _ HS2.out).mono ?_; rintro e wy ⟨u, rfl, hs3, hb3⟩; have HS3 := Lib.hid hs3; have HB3 := Lib.hid hb3; clear hs3 hb3))
  go_ret2
  exact ⟨_, rfl, HS3.out, HK.out.below.trans (HB3.out.mono HK.out.size)⟩
set_option linter.unusedSimpArgs false in
set_option maxRecDepth 100000 in
set_option maxHeartbeats 8000000 in
theorem all_yes (l : List Cn) (v : Value) (w : World) (hS : Sp w v l) (h : Cl.chk l = 0) :
    Calls Try.prog 17 #[v] w fun e w' => PAt w (Cl.all l 7) 0 e w' := by
  obtain ⟨hl, hm⟩ := Cl.chk_ok.1 h
  have C1 := fun W hS => check_any 0 l v W hS
  rw [show Cl.atE 0 l = 0 from h] at C1
  have HS := Lib.hid hS
  clear h hS
  go_enter Try.func17, Try.ntmps17
  go_wp2_with (go_at_call 20; refine (C1 _ HS.out).mono ?_; rintro e wz ⟨rfl, hk1⟩; have HS2 := Lib.hid (HS.out.next hk1); have HB2 := Lib.hid hk1.below; clear hk1 HS)
  go_loopw [11, 0] (fun i u wr => ∃ (j : Nat), j ≤ 7 ∧ i = .int .i64 j ∧ Sp wr u (Cl.all l j) ∧ Below w.heap.size w wr) (fun i _ _ => 7 - (intOf i).toNat)
  case atStart => exact ⟨0, by omega, rfl, HS2.out, HB2.out⟩
  case round =>
    clear HS2 HB2
    obtain ⟨j, hj, rfl, hs, hb⟩ := hrel
    by_cases hlt : j < 7
    · have z1 : decide ((j : Int) < 7) = true := decide_eq_true (by omega)
      have hlen := Cl.all_len l j
      have hpow : 2 ^ j ≤ 128 := by have := Nat.pow_le_pow_right (show 0 < 2 by omega) (show j ≤ 7 by omega); simpa using this
      have hlen2 : (Cl.all l j).length ≤ 100000 := by
        have : 2 ^ j * l.length ≤ 128 * 16 := Nat.mul_le_mul hpow hl
        omega
      have A1 := rest_any j (Cl.all l j) u0 wr hs hlt (Cl.all_may hm j) hlen2
      have HB := Lib.hid hb
      have HX : Hid (Cl.at j (Cl.all l j) = Cl.all l (j + 1)) := Lib.hid rfl
      generalize Cl.at j (Cl.all l j) = l2 at *
      clear hs hb hlen hpow hlen2
      go_wp2_with (go_at_call 26; refine A1.mono ?_; rintro e wy ⟨u, rfl, hs2, hb2⟩; have HS2 := Lib.hid hs2; have HB2 := Lib.hid hb2; clear hs2 hb2)
      go_roundw
      case rel => exact ⟨j + 1, by omega, by go_num, by rw [← HX.out]; exact HS2.out, HB.out.trans (HB2.out.mono HB.out.size)⟩
      case measure => simp [intOf]; omega
    · have z1 : decide ((j : Int) < 7) = false := decide_eq_false (by omega)
      obtain rfl : j = 7 := by omega
      have HS := Lib.hid hs
      have HB := Lib.hid hb
      clear hs hb
      go_wp2
      go_ret2
      exact ⟨_, rfl, HS.out, HB.out⟩
end Go.Proofs.Ytfhlnldiljldcaa
