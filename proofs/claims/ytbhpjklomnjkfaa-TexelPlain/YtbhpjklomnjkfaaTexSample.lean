/-
  Contracts of layer 14 (texel): Sample.
-/
import Derived.Test.YtbhpjklomnjkfaaTexMixed
import Derived.BigGuard
namespace Go.Proofs.Ytbhpjklomnjkfaa
open Go.RowKit

/-- the error of Sample -/
def Tx.smpE (W H : Int) (l : List Int) (k u v : Int) : Int := if Tx.chk W H l = 0 then (if Tx.is k then (if Tx.within 65536 u && Tx.within 65536 v then 0 else 3) else 9) else Tx.chk W H l
theorem Tx.smpE_chk {W H : Int} {l : List Int} {k u v : Int} (h : Tx.chk W H l ≠ 0) : Tx.smpE W H l k u v = Tx.chk W H l := by unfold Tx.smpE; rw [if_neg h]
theorem Tx.smpE_kind {W H : Int} {l : List Int} {k u v : Int} (h : Tx.chk W H l = 0) (hk : Tx.is k = false) : Tx.smpE W H l k u v = 9 := by unfold Tx.smpE; rw [if_pos h, hk]; rfl
theorem Tx.smpE_out {W H : Int} {l : List Int} {k u v : Int} (h : Tx.chk W H l = 0) (hk : Tx.is k = true) (hn : (Tx.within 65536 u && Tx.within 65536 v) = false) : Tx.smpE W H l k u v = 3 := by unfold Tx.smpE; rw [if_pos h, hk, hn]; rfl
theorem Tx.smpE_ok {W H : Int} {l : List Int} {k u v : Int} (h : Tx.chk W H l = 0) (hk : Tx.is k = true) (hu : Tx.within 65536 u = true) (hv : Tx.within 65536 v = true) : Tx.smpE W H l k u v = 0 := by unfold Tx.smpE; rw [if_pos h, hk, hu, hv]; rfl
set_option maxHeartbeats 2000000 in
theorem sample_no (W H u v k : Int) (soft : Bool) (l : List Int) (t : Value) (w : World) (hS : Sl w t (iv l)) (hi : Tx.ints l) (h : Tx.smpE W H l k u v ≠ 0) :
    Calls Try.prog 7 #[.agg #[.int .i64 W, .int .i64 H, t], .int .i64 u, .int .i64 v, .int .i64 k, .bool soft] w fun e w' => e = .returned (.tuple #[.agg #[.int .i64 0, .int .i64 0, .int .i64 0, .int .i64 0], .int .i64 (Tx.smpE W H l k u v)]) ∧ Kp w.heap.size w w' := by
  have C1 := fun U (hk : Kp w.heap.size w U) => check_any W H l t U (hS.next hk) hi
  have K1 := fun U => kind_any k U
  have W1 := fun U => within_any 65536 u U (by omega)
  have W2 := fun U => within_any 65536 v U (by omega)
  have HO := Lib.hid (((Ow.refl w).newAt w.heap.size rfl (.int .i64 W) [.int .i64 H, t] 24).newAt (w.heap.size + 1) (by simp) (.int .i64 0) [.int .i64 0, .int .i64 0, .int .i64 0] 29)
  by_cases hc : Tx.chk W H l = 0
  · rw [hc] at C1
    cases hk : Tx.is k
    · rw [Tx.smpE_kind hc hk]
      rw [hk] at K1
      clear hS hi h hc hk
      go_enter Try.func7, Try.ntmps7
      go_wp2_with (first | ((with_reducible show wpList _ _ _ ({ dst := _, op := Op.load 24 _, type := _, pos := _, after := _, guard := _ } :: _) _ _); refine wpList_ldr ty_tex rfl _ rfl _ rfl _ rfl (HO.out.at 1 rfl) ?_) | (go_at_call 10; refine (C1 _ HO.out.k).mono ?_; rintro e wz ⟨rfl, hk1⟩; have l2 := HO.out.call hk1; clear HO hk1; have HO := Lib.hid l2; clear l2) | (go_at_call 18; refine (K1 _).mono ?_; rintro e w' ⟨rfl, rfl⟩) | ((with_reducible show wpList _ _ _ ({ dst := _, op := Op.store 29 _ _, type := _, pos := _, after := _, guard := _ } :: _) _ _); refine wpList_sto ty_color HO.out 0 [.int .i64 0, .int .i64 0, .int .i64 0, .int .i64 0] rfl _ _ rfl _ rfl rfl _ rfl rfl rfl rfl ?_; intro w2 l2; clear HO; have HO := Lib.hid l2; clear l2))
      exact bodyPost_ret (results_c2 ty_color rfl rfl rfl rfl (HO.out.at 0 rfl)) rfl ⟨rfl, HO.out.k⟩
    · rw [hk] at K1
      cases hu : Tx.within 65536 u
      · rw [Tx.smpE_out hc hk (by rw [hu]; rfl)]
        rw [hu] at W1
        clear hS hi h hc hk hu
        go_enter Try.func7, Try.ntmps7
        go_wp2_with (first | go_big_skip | ((with_reducible show wpList _ _ _ ({ dst := _, op := Op.load 24 _, type := _, pos := _, after := _, guard := _ } :: _) _ _); refine wpList_ldr ty_tex rfl _ rfl _ rfl _ rfl (HO.out.at 1 rfl) ?_) | (go_at_call 10; refine (C1 _ HO.out.k).mono ?_; rintro e wz ⟨rfl, hk1⟩; have l2 := HO.out.call hk1; clear HO hk1; have HO := Lib.hid l2; clear l2) | (go_at_call 18; refine (K1 _).mono ?_; rintro e w' ⟨rfl, rfl⟩) | (go_at_call 19; refine (W1 _).mono ?_; rintro e w' ⟨rfl, rfl⟩) | ((with_reducible show wpList _ _ _ ({ dst := _, op := Op.store 29 _ _, type := _, pos := _, after := _, guard := _ } :: _) _ _); refine wpList_sto ty_color HO.out 0 [.int .i64 0, .int .i64 0, .int .i64 0, .int .i64 0] rfl _ _ rfl _ rfl rfl _ rfl rfl rfl rfl ?_; intro w2 l2; clear HO; have HO := Lib.hid l2; clear l2))
        exact bodyPost_ret (results_c2 ty_color rfl rfl rfl rfl (HO.out.at 0 rfl)) rfl ⟨rfl, HO.out.k⟩
      · cases hv : Tx.within 65536 v
        · rw [Tx.smpE_out hc hk (by rw [hu, hv]; rfl)]
          rw [hu] at W1
          rw [hv] at W2
          clear hS hi h hc hk hu hv
          go_enter Try.func7, Try.ntmps7
          go_wp2_with (first | go_big_skip | ((with_reducible show wpList _ _ _ ({ dst := _, op := Op.load 24 _, type := _, pos := _, after := _, guard := _ } :: _) _ _); refine wpList_ldr ty_tex rfl _ rfl _ rfl _ rfl (HO.out.at 1 rfl) ?_) | (go_at_call 10; refine (C1 _ HO.out.k).mono ?_; rintro e wz ⟨rfl, hk1⟩; have l2 := HO.out.call hk1; clear HO hk1; have HO := Lib.hid l2; clear l2) | (go_at_call 18; refine (K1 _).mono ?_; rintro e w' ⟨rfl, rfl⟩) | (go_at_call 19; (first | (with_reducible refine (W1 _).mono ?_) | (with_reducible refine (W2 _).mono ?_)); rintro e w' ⟨rfl, rfl⟩) | ((with_reducible show wpList _ _ _ ({ dst := _, op := Op.store 29 _ _, type := _, pos := _, after := _, guard := _ } :: _) _ _); refine wpList_sto ty_color HO.out 0 [.int .i64 0, .int .i64 0, .int .i64 0, .int .i64 0] rfl _ _ rfl _ rfl rfl _ rfl rfl rfl rfl ?_; intro w2 l2; clear HO; have HO := Lib.hid l2; clear l2))
          exact bodyPost_ret (results_c2 ty_color rfl rfl rfl rfl (HO.out.at 0 rfl)) rfl ⟨rfl, HO.out.k⟩
        · exact absurd (Tx.smpE_ok hc hk hu hv) h
  · rw [Tx.smpE_chk hc]
    have hc2 : (Tx.chk W H l == 0) = false := by simpa using hc
    generalize Tx.chk W H l = e0 at *
    clear hS hi h hc K1 W1 W2
    go_enter Try.func7, Try.ntmps7
    go_wp2_with (first | ((with_reducible show wpList _ _ _ ({ dst := _, op := Op.load 24 _, type := _, pos := _, after := _, guard := _ } :: _) _ _); refine wpList_ldr ty_tex rfl _ rfl _ rfl _ rfl (HO.out.at 1 rfl) ?_) | (go_at_call 10; refine (C1 _ HO.out.k).mono ?_; rintro e wz ⟨rfl, hk1⟩; have l2 := HO.out.call hk1; clear HO hk1; have HO := Lib.hid l2; clear l2) | ((with_reducible show wpList _ _ _ ({ dst := _, op := Op.store 29 _ _, type := _, pos := _, after := _, guard := _ } :: _) _ _); refine wpList_sto ty_color HO.out 0 [.int .i64 0, .int .i64 0, .int .i64 0, .int .i64 0] rfl _ _ rfl _ rfl rfl _ rfl rfl rfl rfl ?_; intro w2 l2; clear HO; have HO := Lib.hid l2; clear l2))
    exact bodyPost_ret (results_c2 ty_color rfl rfl rfl rfl (HO.out.at 0 rfl)) rfl ⟨rfl, HO.out.k⟩
set_option maxHeartbeats 2000000 in
theorem sample_yes (W H u v k : Int) (soft : Bool) (l : List Int) (t : Value) (w : World) (hS : Sl w t (iv l)) (hi : Tx.ints l) (hc : Tx.chk W H l = 0) (hk : Tx.is k = true) (hu : -65536 ≤ u ∧ u ≤ 65536) (hv : -65536 ≤ v ∧ v ≤ 65536) :
    Calls Try.prog 7 #[.agg #[.int .i64 W, .int .i64 H, t], .int .i64 u, .int .i64 v, .int .i64 k, .bool soft] w fun e w' => e = .returned (.tuple #[.agg #[.int .i64 (Tx.smp W H l u v k soft 0), .int .i64 (Tx.smp W H l u v k soft 1), .int .i64 (Tx.smp W H l u v k soft 2), .int .i64 (Tx.smp W H l u v k soft 3)], .int .i64 0]) ∧ Kp w.heap.size w w' := by
  have C1 := fun U (hk : Kp w.heap.size w U) => check_any W H l t U (hS.next hk) hi
  have K1 := fun U => kind_any k U
  have W1 := fun U => within_any 65536 u U (by omega)
  have W2 := fun U => within_any 65536 v U (by omega)
  have D1 := fun U => split_any u U (by omega) (by omega)
  have D2 := fun U => split_any v U (by omega) (by omega)
  rw [hc] at C1
  rw [hk] at K1
  rw [Tx.within_iff.2 hu] at W1
  rw [Tx.within_iff.2 hv] at W2
  have HO := Lib.hid (((Ow.refl w).newAt w.heap.size rfl (.int .i64 W) [.int .i64 H, t] 24).newAt (w.heap.size + 1) (by simp) (.int .i64 0) [.int .i64 0, .int .i64 0, .int .i64 0] 29)
  cases soft
  · have R1 : ∀ U, Kp w.heap.size w U → Calls Try.prog 22 #[.agg #[.int .i64 W, .int .i64 H, t], .int .i64 (u / 256), .int .i64 (v / 256), .int .i64 k] U fun e w' => e = .returned (.tuple #[.agg #[.int .i64 (Tx.smp W H l u v k false 0), .int .i64 (Tx.smp W H l u v k false 1), .int .i64 (Tx.smp W H l u v k false 2), .int .i64 (Tx.smp W H l u v k false 3)], .int .i64 0]) ∧ Kp U.heap.size U w' :=
      fun U hk2 => read_yes W H (u / 256) (v / 256) k l t U (hS.next hk2) hc hk (by omega) (by omega)
    generalize Tx.smp W H l u v k false = F at *
    clear hS hi hc hk hu hv
    go_enter Try.func7, Try.ntmps7
    go_wp2_with (first | go_big_skip | ((with_reducible show wpList _ _ _ ({ dst := _, op := Op.load 24 _, type := _, pos := _, after := _, guard := _ } :: _) _ _); refine wpList_ldr ty_tex rfl _ rfl _ rfl _ rfl (HO.out.at 1 rfl) ?_) | (go_at_call 10; refine (C1 _ HO.out.k).mono ?_; rintro e wz ⟨rfl, hk1⟩; have l2 := HO.out.call hk1; clear HO hk1; have HO := Lib.hid l2; clear l2) | (go_at_call 18; refine (K1 _).mono ?_; rintro e w' ⟨rfl, rfl⟩) | (go_at_call 19; (first | (with_reducible refine (W1 _).mono ?_) | (with_reducible refine (W2 _).mono ?_)); rintro e w' ⟨rfl, rfl⟩) | (go_at_call 21; (first | (with_reducible refine (D1 _).mono ?_) | (with_reducible refine (D2 _).mono ?_)); rintro e w' ⟨rfl, rfl⟩) | (go_at_call 22; refine (R1 _ HO.out.k).mono ?_; rintro e wz ⟨rfl, hk1⟩; have l2 := HO.out.call hk1; clear HO hk1; have HO := Lib.hid l2; clear l2) | ((with_reducible show wpList _ _ _ ({ dst := _, op := Op.store 29 _ _, type := _, pos := _, after := _, guard := _ } :: _) _ _); refine wpList_sto ty_color HO.out 0 [.int .i64 (F 0), .int .i64 (F 1), .int .i64 (F 2), .int .i64 (F 3)] rfl _ _ rfl _ rfl rfl _ rfl rfl rfl rfl ?_; intro w2 l2; clear HO; have HO := Lib.hid l2; clear l2))
    exact bodyPost_ret (results_c2 ty_color rfl rfl rfl rfl (HO.out.at 0 rfl)) rfl ⟨rfl, HO.out.k⟩
  · have R1 : ∀ U, Kp w.heap.size w U → Calls Try.prog 20 #[.agg #[.int .i64 W, .int .i64 H, t], .int .i64 u, .int .i64 v, .int .i64 k] U fun e w' => e = .returned (.tuple #[.agg #[.int .i64 (Tx.smp W H l u v k true 0), .int .i64 (Tx.smp W H l u v k true 1), .int .i64 (Tx.smp W H l u v k true 2), .int .i64 (Tx.smp W H l u v k true 3)], .int .i64 0]) ∧ Kp U.heap.size U w' :=
      fun U hk2 => mixed_yes W H u v k l t U (hS.next hk2) hc hk hu hv
    generalize Tx.smp W H l u v k true = F at *
    clear hS hi hc hk hu hv D1 D2
    go_enter Try.func7, Try.ntmps7
    go_wp2_with (first | go_big_skip | ((with_reducible show wpList _ _ _ ({ dst := _, op := Op.load 24 _, type := _, pos := _, after := _, guard := _ } :: _) _ _); refine wpList_ldr ty_tex rfl _ rfl _ rfl _ rfl (HO.out.at 1 rfl) ?_) | (go_at_call 10; refine (C1 _ HO.out.k).mono ?_; rintro e wz ⟨rfl, hk1⟩; have l2 := HO.out.call hk1; clear HO hk1; have HO := Lib.hid l2; clear l2) | (go_at_call 18; refine (K1 _).mono ?_; rintro e w' ⟨rfl, rfl⟩) | (go_at_call 19; (first | (with_reducible refine (W1 _).mono ?_) | (with_reducible refine (W2 _).mono ?_)); rintro e w' ⟨rfl, rfl⟩) | (go_at_call 20; refine (R1 _ HO.out.k).mono ?_; rintro e wz ⟨rfl, hk1⟩; have l2 := HO.out.call hk1; clear HO hk1; have HO := Lib.hid l2; clear l2) | ((with_reducible show wpList _ _ _ ({ dst := _, op := Op.store 29 _ _, type := _, pos := _, after := _, guard := _ } :: _) _ _); refine wpList_sto ty_color HO.out 0 [.int .i64 (F 0), .int .i64 (F 1), .int .i64 (F 2), .int .i64 (F 3)] rfl _ _ rfl _ rfl rfl _ rfl rfl rfl rfl ?_; intro w2 l2; clear HO; have HO := Lib.hid l2; clear l2))
    exact bodyPost_ret (results_c2 ty_color rfl rfl rfl rfl (HO.out.at 0 rfl)) rfl ⟨rfl, HO.out.k⟩
end Go.Proofs.Ytbhpjklomnjkfaa
