/-
  TexelSamples: its Go text returns true.
-/
import Derived.Test.YtbhpjklomnjkfaaTexSample
import Derived.Test.YtbhpjklomnjkfaaTexRef2
import Derived.Test.YtbhpjklomnjkfaaTintEq
import Derived.Test.YtbhpjklomnjkfaaTintWalks2
import Derived.BigGuard
namespace Go.Proofs.Ytbhpjklomnjkfaa
open Go.RowKit

set_option linter.unusedSimpArgs false in
set_option maxRecDepth 100000 in
set_option maxHeartbeats 8000000 in
theorem samples_chk (n m x y k : Int) (s : Bool) (l : List Int) (a : Option Addr) (c : Nat) (w : World) (hS : Sl w (.slice a l.length c) (iv l)) (hi : Tx.ints l) (hl : l.length ≤ 5000) (hc : Tx.chk n m l ≠ 0) :
    Calls Try.prog 3 #[.agg #[.int .i64 n, .int .i64 m, .slice a l.length c], .agg #[.int .i64 x, .int .i64 y, .int .i64 k, .bool s]] w fun e w' => e = .returned (.bool true) ∧ Kp w.heap.size w w' := by
  have z1 : (l.length : Int) ≤ 5000 := by omega
  have RC := fun U (hk2 : Kp w.heap.size w U) => rcheck_any n m l _ U (hS.next hk2)
  have CK := fun U (hk2 : Kp w.heap.size w U) => check_any n m l _ U (hS.next hk2) hi
  have SA := fun U (hk2 : Kp w.heap.size w U) => sample_no n m x y k s l _ U (hS.next hk2) hi (by rw [Tx.smpE_chk hc]; exact hc)
  have AT := fun U (hk2 : Kp w.heap.size w U) => at_no n m x y k l _ U (hS.next hk2) hi (by unfold Tx.atE; rw [if_neg hc]; exact hc)
  have e1 : Tx.smpE n m l k x y = Tx.chk n m l := Tx.smpE_chk hc
  have e2 : Tx.atE n m l k x y = Tx.chk n m l := by unfold Tx.atE; rw [if_neg hc]
  rw [e1] at SA
  rw [e2] at AT
  clear e1 e2
  have hE := run_eqC_same 0 0 0 0
  have g1 : (Tx.chk n m l == 0) = false := by simpa using hc
  have g2 : (Tx.chk n m l != 0) = true := by simpa using hc
  generalize Tx.chk n m l = e0 at *
  clear hS hi hl hc
  have HO := Lib.hid (((Ow.refl w).newAt w.heap.size rfl (.int .i64 n) [.int .i64 m, .slice a l.length c] 24).newAt (w.heap.size + 1) (by simp) (.int .i64 x) [.int .i64 y, .int .i64 k, .bool s] 26)
  have t2 := (HO.out.at 1 rfl).cell 2 rfl
  have c0 := (HO.out.at 0 rfl).cell 0 rfl
  have c1 := (HO.out.at 0 rfl).cell 1 rfl
  have c2 := (HO.out.at 0 rfl).cell 2 rfl
  have c3 := (HO.out.at 0 rfl).cell 3 rfl
  go_enter Try.func3, Try.ntmps3
  go_upto_region 3 with fail
  clear t2
  go_upto_region 4 with (first | ((with_reducible show wpList _ _ _ ({ dst := _, op := Op.load 24 _, type := _, pos := _, after := _, guard := _ } :: _) _ _); refine wpList_ldr ty_tex rfl _ rfl _ rfl _ rfl (HO.out.at 1 rfl) ?_) | (go_at_call 7; (with_reducible refine (SA _ HO.out.k).mono ?_); rintro e w1 ⟨rfl, hk1⟩; have l2 := (HO.out.call hk1).newAt w1.heap.size rfl (.int .i64 0) [.int .i64 0, .int .i64 0, .int .i64 0] 29; clear HO hk1 c0 c1 c2 c3; have HO := Lib.hid l2; clear l2))
  generalize w1.heap.size = p5 at *
  clear SA
  have c0 := (HO.out.at 1 rfl).cell 0 rfl
  have c1 := (HO.out.at 1 rfl).cell 1 rfl
  have c2 := (HO.out.at 1 rfl).cell 2 rfl
  have c3 := (HO.out.at 1 rfl).cell 3 rfl
  go_upto_region 5 with (first | ((with_reducible show wpList _ _ _ ({ dst := _, op := Op.load 24 _, type := _, pos := _, after := _, guard := _ } :: _) _ _); refine wpList_ldr ty_tex rfl _ rfl _ rfl _ rfl (HO.out.at 2 rfl) ?_) | (go_at_call 8; (with_reducible refine (AT _ HO.out.k).mono ?_); rintro e w2 ⟨rfl, hk1⟩; have l2 := (HO.out.call hk1).newAt w2.heap.size rfl (.int .i64 0) [.int .i64 0, .int .i64 0, .int .i64 0] 29; clear HO hk1 c0 c1 c2 c3; have HO := Lib.hid l2; clear l2))
  generalize w2.heap.size = p7 at *
  clear AT
  go_upto_region 6 with (first | ((with_reducible show wpList _ _ _ ({ dst := _, op := Op.load 24 _, type := _, pos := _, after := _, guard := _ } :: _) _ _); refine wpList_ldr ty_tex rfl _ rfl _ rfl _ rfl (HO.out.at 3 rfl) ?_) | (go_at_call 9; (with_reducible refine (RC _ HO.out.k).mono ?_); rintro e wz ⟨rfl, hk1⟩; have l2 := HO.out.call hk1; clear HO hk1; have HO := Lib.hid l2; clear l2))
  go_upto_region 8 with (first | ((with_reducible show wpList _ _ _ ({ dst := _, op := Op.load 24 _, type := _, pos := _, after := _, guard := _ } :: _) _ _); refine wpList_ldr ty_tex rfl _ rfl _ rfl _ rfl (HO.out.at 3 rfl) ?_) | (go_at_call 10; (with_reducible refine (CK _ HO.out.k).mono ?_); rintro e wz ⟨rfl, hk1⟩; have l2 := HO.out.call hk1; clear HO hk1; have HO := Lib.hid l2; clear l2))
  clear RC CK
  have c0 := (HO.out.at 2 rfl).cell 0 rfl
  have c1 := (HO.out.at 2 rfl).cell 1 rfl
  have c2 := (HO.out.at 2 rfl).cell 2 rfl
  have c3 := (HO.out.at 2 rfl).cell 3 rfl
  go_wp2_with (first | go_big_skip | ((with_reducible show wpList _ _ _ ({ dst := _, op := Op.load 29 (Operand.tmp 5), type := _, pos := _, after := _, guard := _ } :: _) _ _); refine wpList_ldr ty_color rfl _ rfl _ rfl _ rfl (HO.out.at 1 rfl) ?_) | ((with_reducible show wpList _ _ _ ({ dst := _, op := Op.load 29 (Operand.tmp 7), type := _, pos := _, after := _, guard := _ } :: _) _ _); refine wpList_ldr ty_color rfl _ rfl _ rfl _ rfl (HO.out.at 0 rfl) ?_) | (go_at_call 6; refine (awake_any _).mono ?_; rintro e w' ⟨rfl, rfl⟩))
  go_ret
  exact ⟨rfl, HO.out.k⟩
set_option linter.unusedSimpArgs false in
set_option maxRecDepth 100000 in
set_option maxHeartbeats 8000000 in
theorem samples_kind (n m x y k : Int) (s : Bool) (l : List Int) (a : Option Addr) (c : Nat) (w : World) (hS : Sl w (.slice a l.length c) (iv l)) (hi : Tx.ints l) (hl : l.length ≤ 5000) (hc : Tx.chk n m l = 0) (hk : Tx.is k = false) :
    Calls Try.prog 3 #[.agg #[.int .i64 n, .int .i64 m, .slice a l.length c], .agg #[.int .i64 x, .int .i64 y, .int .i64 k, .bool s]] w fun e w' => e = .returned (.bool true) ∧ Kp w.heap.size w w' := by
  have z1 : (l.length : Int) ≤ 5000 := by omega
  have RC := fun U (hk2 : Kp w.heap.size w U) => rcheck_any n m l _ U (hS.next hk2)
  have CK := fun U (hk2 : Kp w.heap.size w U) => check_any n m l _ U (hS.next hk2) hi
  have e1 : Tx.smpE n m l k x y = 9 := Tx.smpE_kind hc hk
  have e2 : Tx.atE n m l k x y = 9 := by unfold Tx.atE; rw [if_pos hc]; exact Tx.readE_kind hk
  have SA := fun U (hk2 : Kp w.heap.size w U) => sample_no n m x y k s l _ U (hS.next hk2) hi (by rw [e1]; decide)
  have AT := fun U (hk2 : Kp w.heap.size w U) => at_no n m x y k l _ U (hS.next hk2) hi (by rw [e2]; decide)
  rw [e1] at SA
  rw [e2] at AT
  rw [hc] at RC CK
  have hE := run_eqC_same 0 0 0 0
  have hx : k < 0 ∨ ¬ k < 0 ∧ 2 < k := by have := Tx.is_no.1 hk; omega
  clear e1 e2 hS hi hl hc hk
  rcases hx with h1 | ⟨h1, h2⟩
  · have q1 : decide (k < 0) = true := decide_eq_true h1
    clear h1
    have HO := Lib.hid (((Ow.refl w).newAt w.heap.size rfl (.int .i64 n) [.int .i64 m, .slice a l.length c] 24).newAt (w.heap.size + 1) (by simp) (.int .i64 x) [.int .i64 y, .int .i64 k, .bool s] 26)
    have t2 := (HO.out.at 1 rfl).cell 2 rfl
    have c0 := (HO.out.at 0 rfl).cell 0 rfl
    have c1 := (HO.out.at 0 rfl).cell 1 rfl
    have c2 := (HO.out.at 0 rfl).cell 2 rfl
    have c3 := (HO.out.at 0 rfl).cell 3 rfl
    go_enter Try.func3, Try.ntmps3
    go_upto_region 3 with fail
    clear t2
    go_upto_region 4 with (first | ((with_reducible show wpList _ _ _ ({ dst := _, op := Op.load 24 _, type := _, pos := _, after := _, guard := _ } :: _) _ _); refine wpList_ldr ty_tex rfl _ rfl _ rfl _ rfl (HO.out.at 1 rfl) ?_) | (go_at_call 7; (with_reducible refine (SA _ HO.out.k).mono ?_); rintro e w1 ⟨rfl, hk1⟩; have l2 := (HO.out.call hk1).newAt w1.heap.size rfl (.int .i64 0) [.int .i64 0, .int .i64 0, .int .i64 0] 29; clear HO hk1 c0 c1 c2 c3; have HO := Lib.hid l2; clear l2))
    generalize w1.heap.size = p5 at *
    clear SA
    have c0 := (HO.out.at 1 rfl).cell 0 rfl
    have c1 := (HO.out.at 1 rfl).cell 1 rfl
    have c2 := (HO.out.at 1 rfl).cell 2 rfl
    have c3 := (HO.out.at 1 rfl).cell 3 rfl
    go_upto_region 5 with (first | ((with_reducible show wpList _ _ _ ({ dst := _, op := Op.load 24 _, type := _, pos := _, after := _, guard := _ } :: _) _ _); refine wpList_ldr ty_tex rfl _ rfl _ rfl _ rfl (HO.out.at 2 rfl) ?_) | (go_at_call 8; (with_reducible refine (AT _ HO.out.k).mono ?_); rintro e w2 ⟨rfl, hk1⟩; have l2 := (HO.out.call hk1).newAt w2.heap.size rfl (.int .i64 0) [.int .i64 0, .int .i64 0, .int .i64 0] 29; clear HO hk1 c0 c1 c2 c3; have HO := Lib.hid l2; clear l2))
    generalize w2.heap.size = p7 at *
    clear AT
    go_upto_region 6 with (first | ((with_reducible show wpList _ _ _ ({ dst := _, op := Op.load 24 _, type := _, pos := _, after := _, guard := _ } :: _) _ _); refine wpList_ldr ty_tex rfl _ rfl _ rfl _ rfl (HO.out.at 3 rfl) ?_) | (go_at_call 9; (with_reducible refine (RC _ HO.out.k).mono ?_); rintro e wz ⟨rfl, hk1⟩; have l2 := HO.out.call hk1; clear HO hk1; have HO := Lib.hid l2; clear l2))
    go_upto_region 8 with (first | ((with_reducible show wpList _ _ _ ({ dst := _, op := Op.load 24 _, type := _, pos := _, after := _, guard := _ } :: _) _ _); refine wpList_ldr ty_tex rfl _ rfl _ rfl _ rfl (HO.out.at 3 rfl) ?_) | (go_at_call 10; (with_reducible refine (CK _ HO.out.k).mono ?_); rintro e wz ⟨rfl, hk1⟩; have l2 := HO.out.call hk1; clear HO hk1; have HO := Lib.hid l2; clear l2))
    clear RC CK
    have c0 := (HO.out.at 2 rfl).cell 0 rfl
    have c1 := (HO.out.at 2 rfl).cell 1 rfl
    have c2 := (HO.out.at 2 rfl).cell 2 rfl
    have c3 := (HO.out.at 2 rfl).cell 3 rfl
    go_wp2_with (first | go_big_skip | ((with_reducible show wpList _ _ _ ({ dst := _, op := Op.load 29 (Operand.tmp 5), type := _, pos := _, after := _, guard := _ } :: _) _ _); refine wpList_ldr ty_color rfl _ rfl _ rfl _ rfl (HO.out.at 1 rfl) ?_) | ((with_reducible show wpList _ _ _ ({ dst := _, op := Op.load 29 (Operand.tmp 7), type := _, pos := _, after := _, guard := _ } :: _) _ _); refine wpList_ldr ty_color rfl _ rfl _ rfl _ rfl (HO.out.at 0 rfl) ?_) | (go_at_call 6; refine (awake_any _).mono ?_; rintro e w' ⟨rfl, rfl⟩))
    go_ret
    exact ⟨rfl, HO.out.k⟩
  · have q1 : decide (k < 0) = false := decide_eq_false h1
    have q2 : decide (2 < k) = true := decide_eq_true h2
    clear h1 h2
    have HO := Lib.hid (((Ow.refl w).newAt w.heap.size rfl (.int .i64 n) [.int .i64 m, .slice a l.length c] 24).newAt (w.heap.size + 1) (by simp) (.int .i64 x) [.int .i64 y, .int .i64 k, .bool s] 26)
    have t2 := (HO.out.at 1 rfl).cell 2 rfl
    have c0 := (HO.out.at 0 rfl).cell 0 rfl
    have c1 := (HO.out.at 0 rfl).cell 1 rfl
    have c2 := (HO.out.at 0 rfl).cell 2 rfl
    have c3 := (HO.out.at 0 rfl).cell 3 rfl
    go_enter Try.func3, Try.ntmps3
    go_upto_region 3 with fail
    clear t2
    go_upto_region 4 with (first | ((with_reducible show wpList _ _ _ ({ dst := _, op := Op.load 24 _, type := _, pos := _, after := _, guard := _ } :: _) _ _); refine wpList_ldr ty_tex rfl _ rfl _ rfl _ rfl (HO.out.at 1 rfl) ?_) | (go_at_call 7; (with_reducible refine (SA _ HO.out.k).mono ?_); rintro e w1 ⟨rfl, hk1⟩; have l2 := (HO.out.call hk1).newAt w1.heap.size rfl (.int .i64 0) [.int .i64 0, .int .i64 0, .int .i64 0] 29; clear HO hk1 c0 c1 c2 c3; have HO := Lib.hid l2; clear l2))
    generalize w1.heap.size = p5 at *
    clear SA
    have c0 := (HO.out.at 1 rfl).cell 0 rfl
    have c1 := (HO.out.at 1 rfl).cell 1 rfl
    have c2 := (HO.out.at 1 rfl).cell 2 rfl
    have c3 := (HO.out.at 1 rfl).cell 3 rfl
    go_upto_region 5 with (first | ((with_reducible show wpList _ _ _ ({ dst := _, op := Op.load 24 _, type := _, pos := _, after := _, guard := _ } :: _) _ _); refine wpList_ldr ty_tex rfl _ rfl _ rfl _ rfl (HO.out.at 2 rfl) ?_) | (go_at_call 8; (with_reducible refine (AT _ HO.out.k).mono ?_); rintro e w2 ⟨rfl, hk1⟩; have l2 := (HO.out.call hk1).newAt w2.heap.size rfl (.int .i64 0) [.int .i64 0, .int .i64 0, .int .i64 0] 29; clear HO hk1 c0 c1 c2 c3; have HO := Lib.hid l2; clear l2))
    generalize w2.heap.size = p7 at *
    clear AT
    go_upto_region 6 with (first | ((with_reducible show wpList _ _ _ ({ dst := _, op := Op.load 24 _, type := _, pos := _, after := _, guard := _ } :: _) _ _); refine wpList_ldr ty_tex rfl _ rfl _ rfl _ rfl (HO.out.at 3 rfl) ?_) | (go_at_call 9; (with_reducible refine (RC _ HO.out.k).mono ?_); rintro e wz ⟨rfl, hk1⟩; have l2 := HO.out.call hk1; clear HO hk1; have HO := Lib.hid l2; clear l2))
    go_upto_region 8 with (first | ((with_reducible show wpList _ _ _ ({ dst := _, op := Op.load 24 _, type := _, pos := _, after := _, guard := _ } :: _) _ _); refine wpList_ldr ty_tex rfl _ rfl _ rfl _ rfl (HO.out.at 3 rfl) ?_) | (go_at_call 10; (with_reducible refine (CK _ HO.out.k).mono ?_); rintro e wz ⟨rfl, hk1⟩; have l2 := HO.out.call hk1; clear HO hk1; have HO := Lib.hid l2; clear l2))
    clear RC CK
    have c0 := (HO.out.at 2 rfl).cell 0 rfl
    have c1 := (HO.out.at 2 rfl).cell 1 rfl
    have c2 := (HO.out.at 2 rfl).cell 2 rfl
    have c3 := (HO.out.at 2 rfl).cell 3 rfl
    go_wp2_with (first | go_big_skip | ((with_reducible show wpList _ _ _ ({ dst := _, op := Op.load 29 (Operand.tmp 5), type := _, pos := _, after := _, guard := _ } :: _) _ _); refine wpList_ldr ty_color rfl _ rfl _ rfl _ rfl (HO.out.at 1 rfl) ?_) | ((with_reducible show wpList _ _ _ ({ dst := _, op := Op.load 29 (Operand.tmp 7), type := _, pos := _, after := _, guard := _ } :: _) _ _); refine wpList_ldr ty_color rfl _ rfl _ rfl _ rfl (HO.out.at 0 rfl) ?_) | (go_at_call 6; refine (awake_any _).mono ?_; rintro e w' ⟨rfl, rfl⟩))
    go_ret
    exact ⟨rfl, HO.out.k⟩
set_option linter.unusedSimpArgs false in
set_option maxRecDepth 100000 in
set_option maxHeartbeats 8000000 in
theorem samples_out (n m x y k : Int) (s : Bool) (l : List Int) (a : Option Addr) (c : Nat) (w : World) (hS : Sl w (.slice a l.length c) (iv l)) (hi : Tx.ints l) (hl : l.length ≤ 5000) (hc : Tx.chk n m l = 0) (hk : Tx.is k = true) (ho : (Tx.within 1048576 x && Tx.within 1048576 y) = false) :
    Calls Try.prog 3 #[.agg #[.int .i64 n, .int .i64 m, .slice a l.length c], .agg #[.int .i64 x, .int .i64 y, .int .i64 k, .bool s]] w fun e w' => e = .returned (.bool true) ∧ Kp w.heap.size w w' := by
  have z1 : (l.length : Int) ≤ 5000 := by omega
  have RC := fun U (hk2 : Kp w.heap.size w U) => rcheck_any n m l _ U (hS.next hk2)
  have CK := fun U (hk2 : Kp w.heap.size w U) => check_any n m l _ U (hS.next hk2) hi
  have ho2 : (Tx.within 65536 x && Tx.within 65536 y) = false := by
    rw [Bool.and_eq_false_iff, Tx.within_no, Tx.within_no] at ho ⊢; omega
  have e1 : Tx.smpE n m l k x y = 3 := Tx.smpE_out hc hk ho2
  have e2 : Tx.atE n m l k x y = 3 := by unfold Tx.atE; rw [if_pos hc]; exact Tx.readE_out hk ho
  have SA := fun U (hk2 : Kp w.heap.size w U) => sample_no n m x y k s l _ U (hS.next hk2) hi (by rw [e1]; decide)
  have AT := fun U (hk2 : Kp w.heap.size w U) => at_no n m x y k l _ U (hS.next hk2) hi (by rw [e2]; decide)
  rw [e1] at SA
  rw [e2] at AT
  rw [hc] at RC CK
  have hE := run_eqC_same 0 0 0 0
  obtain ⟨k1, k2⟩ := Tx.is_iff.1 hk
  have r1 : decide (k < 0) = false := decide_eq_false (by omega)
  have r2 : decide (2 < k) = false := decide_eq_false (by omega)
  clear k1 k2
  clear e1 e2 hS hi hl hc hk ho2
  have hx : x < -1048576 ∨ ¬ x < -1048576 ∧ 1048576 < x ∨ ¬ x < -1048576 ∧ ¬ 1048576 < x ∧ y < -1048576 ∨ ¬ x < -1048576 ∧ ¬ 1048576 < x ∧ ¬ y < -1048576 ∧ 1048576 < y := by
    rw [Bool.and_eq_false_iff, Tx.within_no, Tx.within_no] at ho; omega
  clear ho
  rcases hx with h1 | ⟨h1, h2⟩ | ⟨h1, h2, h3⟩ | ⟨h1, h2, h3, h4⟩
  · have q1 : decide (x < -1048576) = true := decide_eq_true h1
    clear h1
    have HO := Lib.hid (((Ow.refl w).newAt w.heap.size rfl (.int .i64 n) [.int .i64 m, .slice a l.length c] 24).newAt (w.heap.size + 1) (by simp) (.int .i64 x) [.int .i64 y, .int .i64 k, .bool s] 26)
    have t2 := (HO.out.at 1 rfl).cell 2 rfl
    have c0 := (HO.out.at 0 rfl).cell 0 rfl
    have c1 := (HO.out.at 0 rfl).cell 1 rfl
    have c2 := (HO.out.at 0 rfl).cell 2 rfl
    have c3 := (HO.out.at 0 rfl).cell 3 rfl
    go_enter Try.func3, Try.ntmps3
    go_upto_region 3 with fail
    clear t2
    go_upto_region 4 with (first | ((with_reducible show wpList _ _ _ ({ dst := _, op := Op.load 24 _, type := _, pos := _, after := _, guard := _ } :: _) _ _); refine wpList_ldr ty_tex rfl _ rfl _ rfl _ rfl (HO.out.at 1 rfl) ?_) | (go_at_call 7; (with_reducible refine (SA _ HO.out.k).mono ?_); rintro e w1 ⟨rfl, hk1⟩; have l2 := (HO.out.call hk1).newAt w1.heap.size rfl (.int .i64 0) [.int .i64 0, .int .i64 0, .int .i64 0] 29; clear HO hk1 c0 c1 c2 c3; have HO := Lib.hid l2; clear l2))
    generalize w1.heap.size = p5 at *
    clear SA
    have c0 := (HO.out.at 1 rfl).cell 0 rfl
    have c1 := (HO.out.at 1 rfl).cell 1 rfl
    have c2 := (HO.out.at 1 rfl).cell 2 rfl
    have c3 := (HO.out.at 1 rfl).cell 3 rfl
    go_upto_region 5 with (first | ((with_reducible show wpList _ _ _ ({ dst := _, op := Op.load 24 _, type := _, pos := _, after := _, guard := _ } :: _) _ _); refine wpList_ldr ty_tex rfl _ rfl _ rfl _ rfl (HO.out.at 2 rfl) ?_) | (go_at_call 8; (with_reducible refine (AT _ HO.out.k).mono ?_); rintro e w2 ⟨rfl, hk1⟩; have l2 := (HO.out.call hk1).newAt w2.heap.size rfl (.int .i64 0) [.int .i64 0, .int .i64 0, .int .i64 0] 29; clear HO hk1 c0 c1 c2 c3; have HO := Lib.hid l2; clear l2))
    generalize w2.heap.size = p7 at *
    clear AT
    go_upto_region 6 with (first | ((with_reducible show wpList _ _ _ ({ dst := _, op := Op.load 24 _, type := _, pos := _, after := _, guard := _ } :: _) _ _); refine wpList_ldr ty_tex rfl _ rfl _ rfl _ rfl (HO.out.at 3 rfl) ?_) | (go_at_call 9; (with_reducible refine (RC _ HO.out.k).mono ?_); rintro e wz ⟨rfl, hk1⟩; have l2 := HO.out.call hk1; clear HO hk1; have HO := Lib.hid l2; clear l2))
    go_upto_region 8 with (first | ((with_reducible show wpList _ _ _ ({ dst := _, op := Op.load 24 _, type := _, pos := _, after := _, guard := _ } :: _) _ _); refine wpList_ldr ty_tex rfl _ rfl _ rfl _ rfl (HO.out.at 3 rfl) ?_) | (go_at_call 10; (with_reducible refine (CK _ HO.out.k).mono ?_); rintro e wz ⟨rfl, hk1⟩; have l2 := HO.out.call hk1; clear HO hk1; have HO := Lib.hid l2; clear l2))
    clear RC CK
    have c0 := (HO.out.at 2 rfl).cell 0 rfl
    have c1 := (HO.out.at 2 rfl).cell 1 rfl
    have c2 := (HO.out.at 2 rfl).cell 2 rfl
    have c3 := (HO.out.at 2 rfl).cell 3 rfl
    go_wp2_with (first | go_big_skip | ((with_reducible show wpList _ _ _ ({ dst := _, op := Op.load 29 (Operand.tmp 5), type := _, pos := _, after := _, guard := _ } :: _) _ _); refine wpList_ldr ty_color rfl _ rfl _ rfl _ rfl (HO.out.at 1 rfl) ?_) | ((with_reducible show wpList _ _ _ ({ dst := _, op := Op.load 29 (Operand.tmp 7), type := _, pos := _, after := _, guard := _ } :: _) _ _); refine wpList_ldr ty_color rfl _ rfl _ rfl _ rfl (HO.out.at 0 rfl) ?_) | (go_at_call 6; refine (awake_any _).mono ?_; rintro e w' ⟨rfl, rfl⟩))
    go_ret
    exact ⟨rfl, HO.out.k⟩
  · have q1 : decide (x < -1048576) = false := decide_eq_false h1
    have q2 : decide (1048576 < x) = true := decide_eq_true h2
    clear h1 h2
    have HO := Lib.hid (((Ow.refl w).newAt w.heap.size rfl (.int .i64 n) [.int .i64 m, .slice a l.length c] 24).newAt (w.heap.size + 1) (by simp) (.int .i64 x) [.int .i64 y, .int .i64 k, .bool s] 26)
    have t2 := (HO.out.at 1 rfl).cell 2 rfl
    have c0 := (HO.out.at 0 rfl).cell 0 rfl
    have c1 := (HO.out.at 0 rfl).cell 1 rfl
    have c2 := (HO.out.at 0 rfl).cell 2 rfl
    have c3 := (HO.out.at 0 rfl).cell 3 rfl
    go_enter Try.func3, Try.ntmps3
    go_upto_region 3 with fail
    clear t2
    go_upto_region 4 with (first | ((with_reducible show wpList _ _ _ ({ dst := _, op := Op.load 24 _, type := _, pos := _, after := _, guard := _ } :: _) _ _); refine wpList_ldr ty_tex rfl _ rfl _ rfl _ rfl (HO.out.at 1 rfl) ?_) | (go_at_call 7; (with_reducible refine (SA _ HO.out.k).mono ?_); rintro e w1 ⟨rfl, hk1⟩; have l2 := (HO.out.call hk1).newAt w1.heap.size rfl (.int .i64 0) [.int .i64 0, .int .i64 0, .int .i64 0] 29; clear HO hk1 c0 c1 c2 c3; have HO := Lib.hid l2; clear l2))
    generalize w1.heap.size = p5 at *
    clear SA
    have c0 := (HO.out.at 1 rfl).cell 0 rfl
    have c1 := (HO.out.at 1 rfl).cell 1 rfl
    have c2 := (HO.out.at 1 rfl).cell 2 rfl
    have c3 := (HO.out.at 1 rfl).cell 3 rfl
    go_upto_region 5 with (first | ((with_reducible show wpList _ _ _ ({ dst := _, op := Op.load 24 _, type := _, pos := _, after := _, guard := _ } :: _) _ _); refine wpList_ldr ty_tex rfl _ rfl _ rfl _ rfl (HO.out.at 2 rfl) ?_) | (go_at_call 8; (with_reducible refine (AT _ HO.out.k).mono ?_); rintro e w2 ⟨rfl, hk1⟩; have l2 := (HO.out.call hk1).newAt w2.heap.size rfl (.int .i64 0) [.int .i64 0, .int .i64 0, .int .i64 0] 29; clear HO hk1 c0 c1 c2 c3; have HO := Lib.hid l2; clear l2))
    generalize w2.heap.size = p7 at *
    clear AT
    go_upto_region 6 with (first | ((with_reducible show wpList _ _ _ ({ dst := _, op := Op.load 24 _, type := _, pos := _, after := _, guard := _ } :: _) _ _); refine wpList_ldr ty_tex rfl _ rfl _ rfl _ rfl (HO.out.at 3 rfl) ?_) | (go_at_call 9; (with_reducible refine (RC _ HO.out.k).mono ?_); rintro e wz ⟨rfl, hk1⟩; have l2 := HO.out.call hk1; clear HO hk1; have HO := Lib.hid l2; clear l2))
    go_upto_region 8 with (first | ((with_reducible show wpList _ _ _ ({ dst := _, op := Op.load 24 _, type := _, pos := _, after := _, guard := _ } :: _) _ _); refine wpList_ldr ty_tex rfl _ rfl _ rfl _ rfl (HO.out.at 3 rfl) ?_) | (go_at_call 10; (with_reducible refine (CK _ HO.out.k).mono ?_); rintro e wz ⟨rfl, hk1⟩; have l2 := HO.out.call hk1; clear HO hk1; have HO := Lib.hid l2; clear l2))
    clear RC CK
    have c0 := (HO.out.at 2 rfl).cell 0 rfl
    have c1 := (HO.out.at 2 rfl).cell 1 rfl
    have c2 := (HO.out.at 2 rfl).cell 2 rfl
    have c3 := (HO.out.at 2 rfl).cell 3 rfl
    go_wp2_with (first | go_big_skip | ((with_reducible show wpList _ _ _ ({ dst := _, op := Op.load 29 (Operand.tmp 5), type := _, pos := _, after := _, guard := _ } :: _) _ _); refine wpList_ldr ty_color rfl _ rfl _ rfl _ rfl (HO.out.at 1 rfl) ?_) | ((with_reducible show wpList _ _ _ ({ dst := _, op := Op.load 29 (Operand.tmp 7), type := _, pos := _, after := _, guard := _ } :: _) _ _); refine wpList_ldr ty_color rfl _ rfl _ rfl _ rfl (HO.out.at 0 rfl) ?_) | (go_at_call 6; refine (awake_any _).mono ?_; rintro e w' ⟨rfl, rfl⟩))
    go_ret
    exact ⟨rfl, HO.out.k⟩
  · have q1 : decide (x < -1048576) = false := decide_eq_false h1
    have q2 : decide (1048576 < x) = false := decide_eq_false h2
    have q3 : decide (y < -1048576) = true := decide_eq_true h3
    clear h1 h2 h3
    have HO := Lib.hid (((Ow.refl w).newAt w.heap.size rfl (.int .i64 n) [.int .i64 m, .slice a l.length c] 24).newAt (w.heap.size + 1) (by simp) (.int .i64 x) [.int .i64 y, .int .i64 k, .bool s] 26)
    have t2 := (HO.out.at 1 rfl).cell 2 rfl
    have c0 := (HO.out.at 0 rfl).cell 0 rfl
    have c1 := (HO.out.at 0 rfl).cell 1 rfl
    have c2 := (HO.out.at 0 rfl).cell 2 rfl
    have c3 := (HO.out.at 0 rfl).cell 3 rfl
    go_enter Try.func3, Try.ntmps3
    go_upto_region 3 with fail
    clear t2
    go_upto_region 4 with (first | ((with_reducible show wpList _ _ _ ({ dst := _, op := Op.load 24 _, type := _, pos := _, after := _, guard := _ } :: _) _ _); refine wpList_ldr ty_tex rfl _ rfl _ rfl _ rfl (HO.out.at 1 rfl) ?_) | (go_at_call 7; (with_reducible refine (SA _ HO.out.k).mono ?_); rintro e w1 ⟨rfl, hk1⟩; have l2 := (HO.out.call hk1).newAt w1.heap.size rfl (.int .i64 0) [.int .i64 0, .int .i64 0, .int .i64 0] 29; clear HO hk1 c0 c1 c2 c3; have HO := Lib.hid l2; clear l2))
    generalize w1.heap.size = p5 at *
    clear SA
    have c0 := (HO.out.at 1 rfl).cell 0 rfl
    have c1 := (HO.out.at 1 rfl).cell 1 rfl
    have c2 := (HO.out.at 1 rfl).cell 2 rfl
    have c3 := (HO.out.at 1 rfl).cell 3 rfl
    go_upto_region 5 with (first | ((with_reducible show wpList _ _ _ ({ dst := _, op := Op.load 24 _, type := _, pos := _, after := _, guard := _ } :: _) _ _); refine wpList_ldr ty_tex rfl _ rfl _ rfl _ rfl (HO.out.at 2 rfl) ?_) | (go_at_call 8; (with_reducible refine (AT _ HO.out.k).mono ?_); rintro e w2 ⟨rfl, hk1⟩; have l2 := (HO.out.call hk1).newAt w2.heap.size rfl (.int .i64 0) [.int .i64 0, .int .i64 0, .int .i64 0] 29; clear HO hk1 c0 c1 c2 c3; have HO := Lib.hid l2; clear l2))
    generalize w2.heap.size = p7 at *
    clear AT
    go_upto_region 6 with (first | ((with_reducible show wpList _ _ _ ({ dst := _, op := Op.load 24 _, type := _, pos := _, after := _, guard := _ } :: _) _ _); refine wpList_ldr ty_tex rfl _ rfl _ rfl _ rfl (HO.out.at 3 rfl) ?_) | (go_at_call 9; (with_reducible refine (RC _ HO.out.k).mono ?_); rintro e wz ⟨rfl, hk1⟩; have l2 := HO.out.call hk1; clear HO hk1; have HO := Lib.hid l2; clear l2))
    go_upto_region 8 with (first | ((with_reducible show wpList _ _ _ ({ dst := _, op := Op.load 24 _, type := _, pos := _, after := _, guard := _ } :: _) _ _); refine wpList_ldr ty_tex rfl _ rfl _ rfl _ rfl (HO.out.at 3 rfl) ?_) | (go_at_call 10; (with_reducible refine (CK _ HO.out.k).mono ?_); rintro e wz ⟨rfl, hk1⟩; have l2 := HO.out.call hk1; clear HO hk1; have HO := Lib.hid l2; clear l2))
    clear RC CK
    have c0 := (HO.out.at 2 rfl).cell 0 rfl
    have c1 := (HO.out.at 2 rfl).cell 1 rfl
    have c2 := (HO.out.at 2 rfl).cell 2 rfl
    have c3 := (HO.out.at 2 rfl).cell 3 rfl
    go_wp2_with (first | go_big_skip | ((with_reducible show wpList _ _ _ ({ dst := _, op := Op.load 29 (Operand.tmp 5), type := _, pos := _, after := _, guard := _ } :: _) _ _); refine wpList_ldr ty_color rfl _ rfl _ rfl _ rfl (HO.out.at 1 rfl) ?_) | ((with_reducible show wpList _ _ _ ({ dst := _, op := Op.load 29 (Operand.tmp 7), type := _, pos := _, after := _, guard := _ } :: _) _ _); refine wpList_ldr ty_color rfl _ rfl _ rfl _ rfl (HO.out.at 0 rfl) ?_) | (go_at_call 6; refine (awake_any _).mono ?_; rintro e w' ⟨rfl, rfl⟩))
    go_ret
    exact ⟨rfl, HO.out.k⟩
  · have q1 : decide (x < -1048576) = false := decide_eq_false h1
    have q2 : decide (1048576 < x) = false := decide_eq_false h2
    have q3 : decide (y < -1048576) = false := decide_eq_false h3
    have q4 : decide (1048576 < y) = true := decide_eq_true h4
    clear h1 h2 h3 h4
    have HO := Lib.hid (((Ow.refl w).newAt w.heap.size rfl (.int .i64 n) [.int .i64 m, .slice a l.length c] 24).newAt (w.heap.size + 1) (by simp) (.int .i64 x) [.int .i64 y, .int .i64 k, .bool s] 26)
    have t2 := (HO.out.at 1 rfl).cell 2 rfl
    have c0 := (HO.out.at 0 rfl).cell 0 rfl
    have c1 := (HO.out.at 0 rfl).cell 1 rfl
    have c2 := (HO.out.at 0 rfl).cell 2 rfl
    have c3 := (HO.out.at 0 rfl).cell 3 rfl
    go_enter Try.func3, Try.ntmps3
    go_upto_region 3 with fail
    clear t2
    go_upto_region 4 with (first | ((with_reducible show wpList _ _ _ ({ dst := _, op := Op.load 24 _, type := _, pos := _, after := _, guard := _ } :: _) _ _); refine wpList_ldr ty_tex rfl _ rfl _ rfl _ rfl (HO.out.at 1 rfl) ?_) | (go_at_call 7; (with_reducible refine (SA _ HO.out.k).mono ?_); rintro e w1 ⟨rfl, hk1⟩; have l2 := (HO.out.call hk1).newAt w1.heap.size rfl (.int .i64 0) [.int .i64 0, .int .i64 0, .int .i64 0] 29; clear HO hk1 c0 c1 c2 c3; have HO := Lib.hid l2; clear l2))
    generalize w1.heap.size = p5 at *
    clear SA
    have c0 := (HO.out.at 1 rfl).cell 0 rfl
    have c1 := (HO.out.at 1 rfl).cell 1 rfl
    have c2 := (HO.out.at 1 rfl).cell 2 rfl
    have c3 := (HO.out.at 1 rfl).cell 3 rfl
    go_upto_region 5 with (first | ((with_reducible show wpList _ _ _ ({ dst := _, op := Op.load 24 _, type := _, pos := _, after := _, guard := _ } :: _) _ _); refine wpList_ldr ty_tex rfl _ rfl _ rfl _ rfl (HO.out.at 2 rfl) ?_) | (go_at_call 8; (with_reducible refine (AT _ HO.out.k).mono ?_); rintro e w2 ⟨rfl, hk1⟩; have l2 := (HO.out.call hk1).newAt w2.heap.size rfl (.int .i64 0) [.int .i64 0, .int .i64 0, .int .i64 0] 29; clear HO hk1 c0 c1 c2 c3; have HO := Lib.hid l2; clear l2))
    generalize w2.heap.size = p7 at *
    clear AT
    go_upto_region 6 with (first | ((with_reducible show wpList _ _ _ ({ dst := _, op := Op.load 24 _, type := _, pos := _, after := _, guard := _ } :: _) _ _); refine wpList_ldr ty_tex rfl _ rfl _ rfl _ rfl (HO.out.at 3 rfl) ?_) | (go_at_call 9; (with_reducible refine (RC _ HO.out.k).mono ?_); rintro e wz ⟨rfl, hk1⟩; have l2 := HO.out.call hk1; clear HO hk1; have HO := Lib.hid l2; clear l2))
    go_upto_region 8 with (first | ((with_reducible show wpList _ _ _ ({ dst := _, op := Op.load 24 _, type := _, pos := _, after := _, guard := _ } :: _) _ _); refine wpList_ldr ty_tex rfl _ rfl _ rfl _ rfl (HO.out.at 3 rfl) ?_) | (go_at_call 10; (with_reducible refine (CK _ HO.out.k).mono ?_); rintro e wz ⟨rfl, hk1⟩; have l2 := HO.out.call hk1; clear HO hk1; have HO := Lib.hid l2; clear l2))
    clear RC CK
    have c0 := (HO.out.at 2 rfl).cell 0 rfl
    have c1 := (HO.out.at 2 rfl).cell 1 rfl
    have c2 := (HO.out.at 2 rfl).cell 2 rfl
    have c3 := (HO.out.at 2 rfl).cell 3 rfl
    go_wp2_with (first | go_big_skip | ((with_reducible show wpList _ _ _ ({ dst := _, op := Op.load 29 (Operand.tmp 5), type := _, pos := _, after := _, guard := _ } :: _) _ _); refine wpList_ldr ty_color rfl _ rfl _ rfl _ rfl (HO.out.at 1 rfl) ?_) | ((with_reducible show wpList _ _ _ ({ dst := _, op := Op.load 29 (Operand.tmp 7), type := _, pos := _, after := _, guard := _ } :: _) _ _); refine wpList_ldr ty_color rfl _ rfl _ rfl _ rfl (HO.out.at 0 rfl) ?_) | (go_at_call 6; refine (awake_any _).mono ?_; rintro e w' ⟨rfl, rfl⟩))
    go_ret
    exact ⟨rfl, HO.out.k⟩
set_option linter.unusedSimpArgs false in
set_option maxRecDepth 100000 in
set_option maxHeartbeats 8000000 in
theorem samples_far (n m x y k : Int) (s : Bool) (l : List Int) (a : Option Addr) (c : Nat) (w : World) (hS : Sl w (.slice a l.length c) (iv l)) (hi : Tx.ints l) (hl : l.length ≤ 5000) (hc : Tx.chk n m l = 0) (hk : Tx.is k = true) (hx0 : Tx.within 1048576 x = true) (hy0 : Tx.within 1048576 y = true) (ho : (Tx.within 65536 x && Tx.within 65536 y) = false) :
    Calls Try.prog 3 #[.agg #[.int .i64 n, .int .i64 m, .slice a l.length c], .agg #[.int .i64 x, .int .i64 y, .int .i64 k, .bool s]] w fun e w' => e = .returned (.bool true) ∧ Kp w.heap.size w w' := by
  have z1 : (l.length : Int) ≤ 5000 := by omega
  have RC := fun U (hk2 : Kp w.heap.size w U) => rcheck_any n m l _ U (hS.next hk2)
  have CK := fun U (hk2 : Kp w.heap.size w U) => check_any n m l _ U (hS.next hk2) hi
  have e1 : Tx.smpE n m l k x y = 3 := Tx.smpE_out hc hk ho
  have SA := fun U (hk2 : Kp w.heap.size w U) => sample_no n m x y k s l _ U (hS.next hk2) hi (by rw [e1]; decide)
  rw [e1] at SA
  have RA := fun U (hk2 : Kp w.heap.size w U) => rat_any n m x y k l _ U (hS.next hk2) hc hk (Tx.within_iff.1 hx0) (Tx.within_iff.1 hy0)
  have AT := fun U (hk2 : Kp w.heap.size w U) => at_yes n m x y k l _ U (hS.next hk2) hi hc hk (Tx.within_iff.1 hx0) (Tx.within_iff.1 hy0)
  have s1 : decide (x < -1048576) = false := decide_eq_false (by have := Tx.within_iff.1 hx0; omega)
  have s2 : decide (1048576 < x) = false := decide_eq_false (by have := Tx.within_iff.1 hx0; omega)
  have s3 : decide (y < -1048576) = false := decide_eq_false (by have := Tx.within_iff.1 hy0; omega)
  have s4 : decide (1048576 < y) = false := decide_eq_false (by have := Tx.within_iff.1 hy0; omega)
  rw [hc] at RC CK
  have hE := run_eqC_same
  generalize Tx.px n m l x y k = px at *
  obtain ⟨k1, k2⟩ := Tx.is_iff.1 hk
  have r1 : decide (k < 0) = false := decide_eq_false (by omega)
  have r2 : decide (2 < k) = false := decide_eq_false (by omega)
  clear k1 k2
  clear e1 hS hi hl hc hk hx0 hy0
  have hx : x < -65536 ∨ ¬ x < -65536 ∧ 65536 < x ∨ ¬ x < -65536 ∧ ¬ 65536 < x ∧ y < -65536 ∨ ¬ x < -65536 ∧ ¬ 65536 < x ∧ ¬ y < -65536 ∧ 65536 < y := by
    rw [Bool.and_eq_false_iff, Tx.within_no, Tx.within_no] at ho; omega
  clear ho
  rcases hx with h1 | ⟨h1, h2⟩ | ⟨h1, h2, h3⟩ | ⟨h1, h2, h3, h4⟩
  · have q1 : decide (x < -65536) = true := decide_eq_true h1
    clear h1
    have HO := Lib.hid (((Ow.refl w).newAt w.heap.size rfl (.int .i64 n) [.int .i64 m, .slice a l.length c] 24).newAt (w.heap.size + 1) (by simp) (.int .i64 x) [.int .i64 y, .int .i64 k, .bool s] 26)
    have t2 := (HO.out.at 1 rfl).cell 2 rfl
    have c0 := (HO.out.at 0 rfl).cell 0 rfl
    have c1 := (HO.out.at 0 rfl).cell 1 rfl
    have c2 := (HO.out.at 0 rfl).cell 2 rfl
    have c3 := (HO.out.at 0 rfl).cell 3 rfl
    go_enter Try.func3, Try.ntmps3
    go_upto_region 3 with fail
    clear t2
    go_upto_region 4 with (first | ((with_reducible show wpList _ _ _ ({ dst := _, op := Op.load 24 _, type := _, pos := _, after := _, guard := _ } :: _) _ _); refine wpList_ldr ty_tex rfl _ rfl _ rfl _ rfl (HO.out.at 1 rfl) ?_) | (go_at_call 7; (with_reducible refine (SA _ HO.out.k).mono ?_); rintro e w1 ⟨rfl, hk1⟩; have l2 := (HO.out.call hk1).newAt w1.heap.size rfl (.int .i64 0) [.int .i64 0, .int .i64 0, .int .i64 0] 29; clear HO hk1 c0 c1 c2 c3; have HO := Lib.hid l2; clear l2))
    generalize w1.heap.size = p5 at *
    clear SA
    have c0 := (HO.out.at 1 rfl).cell 0 rfl
    have c1 := (HO.out.at 1 rfl).cell 1 rfl
    have c2 := (HO.out.at 1 rfl).cell 2 rfl
    have c3 := (HO.out.at 1 rfl).cell 3 rfl
    go_upto_region 5 with (first | ((with_reducible show wpList _ _ _ ({ dst := _, op := Op.load 24 _, type := _, pos := _, after := _, guard := _ } :: _) _ _); refine wpList_ldr ty_tex rfl _ rfl _ rfl _ rfl (HO.out.at 2 rfl) ?_) | (go_at_call 8; (with_reducible refine (AT _ HO.out.k).mono ?_); rintro e w2 ⟨rfl, hk1⟩; have l2 := (HO.out.call hk1).newAt w2.heap.size rfl (.int .i64 (Tn.part px 0)) [.int .i64 (Tn.part px 1), .int .i64 (Tn.part px 2), .int .i64 (Tn.part px 3)] 29; clear HO hk1 c0 c1 c2 c3; have HO := Lib.hid l2; clear l2))
    generalize w2.heap.size = p7 at *
    clear AT
    go_upto_region 6 with (first | ((with_reducible show wpList _ _ _ ({ dst := _, op := Op.load 24 _, type := _, pos := _, after := _, guard := _ } :: _) _ _); refine wpList_ldr ty_tex rfl _ rfl _ rfl _ rfl (HO.out.at 3 rfl) ?_) | (go_at_call 9; (with_reducible refine (RC _ HO.out.k).mono ?_); rintro e wz ⟨rfl, hk1⟩; have l2 := HO.out.call hk1; clear HO hk1; have HO := Lib.hid l2; clear l2))
    go_upto_region 8 with (first | ((with_reducible show wpList _ _ _ ({ dst := _, op := Op.load 24 _, type := _, pos := _, after := _, guard := _ } :: _) _ _); refine wpList_ldr ty_tex rfl _ rfl _ rfl _ rfl (HO.out.at 3 rfl) ?_) | (go_at_call 10; (with_reducible refine (CK _ HO.out.k).mono ?_); rintro e wz ⟨rfl, hk1⟩; have l2 := HO.out.call hk1; clear HO hk1; have HO := Lib.hid l2; clear l2))
    clear RC CK
    have c0 := (HO.out.at 2 rfl).cell 0 rfl
    have c1 := (HO.out.at 2 rfl).cell 1 rfl
    have c2 := (HO.out.at 2 rfl).cell 2 rfl
    have c3 := (HO.out.at 2 rfl).cell 3 rfl
    go_upto_region 14 with go_big_skip
    clear c0 c1 c2 c3
    refine Rg.region (I := fun _ W => Ow w W [(p7, [.int .i64 (Tn.part px 0), .int .i64 (Tn.part px 1), .int .i64 (Tn.part px 2), .int .i64 (Tn.part px 3)]), (p5, [.int .i64 0, .int .i64 0, .int .i64 0, .int .i64 0]), (w.heap.size + 1, [.int .i64 x, .int .i64 y, .int .i64 k, .bool s]), (w.heap.size, [.int .i64 n, .int .i64 m, .slice a l.length c])]) (dem := fun _ => false) (m := 14) (g := 0) (T := fun listed bs st => ∀ W, Ow w W [(p7, [.int .i64 (Tn.part px 0), .int .i64 (Tn.part px 1), .int .i64 (Tn.part px 2), .int .i64 (Tn.part px 3)]), (p5, [.int .i64 0, .int .i64 0, .int .i64 0, .int .i64 0]), (w.heap.size + 1, [.int .i64 x, .int .i64 y, .int .i64 k, .bool s]), (w.heap.size, [.int .i64 n, .int .i64 m, .slice a l.length c])] → wpAny Try.prog .any _ _ 0 listed st W) (by kernel_rfl) HO.out.drew rfl (fun _ _ _ _ h hI => h _ hI) ?_
    clear HO
    refine Rg.take 0 (v := .int .i64 0) rfl rfl (by kernel_rfl) (by kernel_rfl) (by kernel_rfl) (by kernel_rfl) (by kernel_rfl) (.inl ⟨rfl, fun bs wq hI => ?_⟩) ?_
    · go_simp
    simp only [Act.put, List.getElem_toArray, List.getElem_cons_zero, List.getElem_cons_succ, List.setIfInBounds_toArray, List.set_cons_zero, List.set_cons_succ]
    refine Rg.take 1 (v := .bool false) rfl rfl (by kernel_rfl) (by kernel_rfl) (by kernel_rfl) (by kernel_rfl) (by kernel_rfl) (.inl ⟨rfl, fun bs wq hI => ?_⟩) ?_
    · go_simp
    simp only [Act.put, List.getElem_toArray, List.getElem_cons_zero, List.getElem_cons_succ, List.setIfInBounds_toArray, List.set_cons_zero, List.set_cons_succ]
    refine Rg.take 2 (v := .bool false) rfl rfl (by kernel_rfl) (by kernel_rfl) (by kernel_rfl) (by kernel_rfl) (by kernel_rfl) (.inl ⟨rfl, fun bs wq hI => ?_⟩) ?_
    · go_simp
    simp only [Act.put, List.getElem_toArray, List.getElem_cons_zero, List.getElem_cons_succ, List.setIfInBounds_toArray, List.set_cons_zero, List.set_cons_succ]
    refine Rg.take 3 (v := .agg #[.int .i64 (Tn.part px 0), .int .i64 (Tn.part px 1), .int .i64 (Tn.part px 2), .int .i64 (Tn.part px 3)]) rfl rfl (by kernel_rfl) (by kernel_rfl) (by kernel_rfl) (by kernel_rfl) (by kernel_rfl) (.inl ⟨rfl, fun bs wq hI => ?_⟩) ?_
    · exact quiet_ldr ty_color (.tmp 7) rfl rfl rfl (hI.at 0 rfl)
    simp only [Act.put, List.getElem_toArray, List.getElem_cons_zero, List.getElem_cons_succ, List.setIfInBounds_toArray, List.set_cons_zero, List.set_cons_succ]
    refine Rg.take 4 (v := .agg #[.int .i64 n, .int .i64 m, .slice a l.length c]) rfl rfl (by kernel_rfl) (by kernel_rfl) (by kernel_rfl) (by kernel_rfl) (by kernel_rfl) (.inl ⟨rfl, fun bs wq hI => ?_⟩) ?_
    · exact quiet_ldr ty_tex (.tmp 2) rfl rfl rfl (hI.at 3 rfl)
    simp only [Act.put, List.getElem_toArray, List.getElem_cons_zero, List.getElem_cons_succ, List.setIfInBounds_toArray, List.set_cons_zero, List.set_cons_succ]
    refine Rg.take 5 (v := .pointer (some ⟨w.heap.size + 1, 0, none⟩)) rfl rfl (by kernel_rfl) (by kernel_rfl) (by kernel_rfl) (by kernel_rfl) (by kernel_rfl) (.inl ⟨rfl, fun bs wq hI => ?_⟩) ?_
    · go_simp
    simp only [Act.put, List.getElem_toArray, List.getElem_cons_zero, List.getElem_cons_succ, List.setIfInBounds_toArray, List.set_cons_zero, List.set_cons_succ]
    refine Rg.take 6 (v := .int .i64 x) rfl rfl (by kernel_rfl) (by kernel_rfl) (by kernel_rfl) (by kernel_rfl) (by kernel_rfl) (.inl ⟨rfl, fun bs wq hI => ?_⟩) ?_
    · (have hc := (hI.at 2 rfl).cell 0 rfl; go_simp)
    simp only [Act.put, List.getElem_toArray, List.getElem_cons_zero, List.getElem_cons_succ, List.setIfInBounds_toArray, List.set_cons_zero, List.set_cons_succ]
    refine Rg.take 7 (v := .pointer (some ⟨w.heap.size + 1, 1, none⟩)) rfl rfl (by kernel_rfl) (by kernel_rfl) (by kernel_rfl) (by kernel_rfl) (by kernel_rfl) (.inl ⟨rfl, fun bs wq hI => ?_⟩) ?_
    · go_simp
    simp only [Act.put, List.getElem_toArray, List.getElem_cons_zero, List.getElem_cons_succ, List.setIfInBounds_toArray, List.set_cons_zero, List.set_cons_succ]
    refine Rg.take 8 (v := .int .i64 y) rfl rfl (by kernel_rfl) (by kernel_rfl) (by kernel_rfl) (by kernel_rfl) (by kernel_rfl) (.inl ⟨rfl, fun bs wq hI => ?_⟩) ?_
    · (have hc := (hI.at 2 rfl).cell 1 rfl; go_simp)
    simp only [Act.put, List.getElem_toArray, List.getElem_cons_zero, List.getElem_cons_succ, List.setIfInBounds_toArray, List.set_cons_zero, List.set_cons_succ]
    refine Rg.take 9 (v := .pointer (some ⟨w.heap.size + 1, 2, none⟩)) rfl rfl (by kernel_rfl) (by kernel_rfl) (by kernel_rfl) (by kernel_rfl) (by kernel_rfl) (.inl ⟨rfl, fun bs wq hI => ?_⟩) ?_
    · go_simp
    simp only [Act.put, List.getElem_toArray, List.getElem_cons_zero, List.getElem_cons_succ, List.setIfInBounds_toArray, List.set_cons_zero, List.set_cons_succ]
    refine Rg.take 10 (v := .int .i64 k) rfl rfl (by kernel_rfl) (by kernel_rfl) (by kernel_rfl) (by kernel_rfl) (by kernel_rfl) (.inl ⟨rfl, fun bs wq hI => ?_⟩) ?_
    · (have hc := (hI.at 2 rfl).cell 2 rfl; go_simp)
    simp only [Act.put, List.getElem_toArray, List.getElem_cons_zero, List.getElem_cons_succ, List.setIfInBounds_toArray, List.set_cons_zero, List.set_cons_succ]
    refine Rg.take 11 (v := .agg #[.int .i64 (Tn.part px 0), .int .i64 (Tn.part px 1), .int .i64 (Tn.part px 2), .int .i64 (Tn.part px 3)]) rfl rfl (by kernel_rfl) (by kernel_rfl) (by kernel_rfl) (by kernel_rfl) (by kernel_rfl) (.inl ⟨rfl, fun bs wq hI => ?_⟩) ?_
    · (go_simp; exact (RA _ hI.k).mono fun e w2 h => ⟨h.1, hI.call h.2⟩)
    simp only [Act.put, List.getElem_toArray, List.getElem_cons_zero, List.getElem_cons_succ, List.setIfInBounds_toArray, List.set_cons_zero, List.set_cons_succ]
    refine Rg.take 12 (v := .bool false) rfl rfl (by kernel_rfl) (by kernel_rfl) (by kernel_rfl) (by kernel_rfl) (by kernel_rfl) (.inl ⟨rfl, fun bs wq hI => ?_⟩) ?_
    · go_simp
    simp only [Act.put, List.getElem_toArray, List.getElem_cons_zero, List.getElem_cons_succ, List.setIfInBounds_toArray, List.set_cons_zero, List.set_cons_succ]
    refine Rg.take 13 (v := .bool false) rfl rfl (by kernel_rfl) (by kernel_rfl) (by kernel_rfl) (by kernel_rfl) (by kernel_rfl) (.inl ⟨rfl, fun bs wq hI => ?_⟩) ?_
    · go_simp
    simp only [Act.put, List.getElem_toArray, List.getElem_cons_zero, List.getElem_cons_succ, List.setIfInBounds_toArray, List.set_cons_zero, List.set_cons_succ]
    refine Rg.done (rs := []) (by kernel_rfl) (by decide) (fun W hI => ?_)
    have HO := Lib.hid hI
    clear hI
    refine wpAny_done (by kernel_rfl) ?_ _
    have c0 := (HO.out.at 2 rfl).cell 0 rfl
    have c1 := (HO.out.at 2 rfl).cell 1 rfl
    have c2 := (HO.out.at 2 rfl).cell 2 rfl
    have c3 := (HO.out.at 2 rfl).cell 3 rfl
    go_wp2_with (first | go_big_skip | ((with_reducible show wpList _ _ _ ({ dst := _, op := Op.load 29 (Operand.tmp 5), type := _, pos := _, after := _, guard := _ } :: _) _ _); refine wpList_ldr ty_color rfl _ rfl _ rfl _ rfl (HO.out.at 1 rfl) ?_) | (go_at_call 6; refine (awake_any _).mono ?_; rintro e w' ⟨rfl, rfl⟩))
    go_ret
    exact ⟨rfl, HO.out.k⟩
  · have q1 : decide (x < -65536) = false := decide_eq_false h1
    have q2 : decide (65536 < x) = true := decide_eq_true h2
    clear h1 h2
    have HO := Lib.hid (((Ow.refl w).newAt w.heap.size rfl (.int .i64 n) [.int .i64 m, .slice a l.length c] 24).newAt (w.heap.size + 1) (by simp) (.int .i64 x) [.int .i64 y, .int .i64 k, .bool s] 26)
    have t2 := (HO.out.at 1 rfl).cell 2 rfl
    have c0 := (HO.out.at 0 rfl).cell 0 rfl
    have c1 := (HO.out.at 0 rfl).cell 1 rfl
    have c2 := (HO.out.at 0 rfl).cell 2 rfl
    have c3 := (HO.out.at 0 rfl).cell 3 rfl
    go_enter Try.func3, Try.ntmps3
    go_upto_region 3 with fail
    clear t2
    go_upto_region 4 with (first | ((with_reducible show wpList _ _ _ ({ dst := _, op := Op.load 24 _, type := _, pos := _, after := _, guard := _ } :: _) _ _); refine wpList_ldr ty_tex rfl _ rfl _ rfl _ rfl (HO.out.at 1 rfl) ?_) | (go_at_call 7; (with_reducible refine (SA _ HO.out.k).mono ?_); rintro e w1 ⟨rfl, hk1⟩; have l2 := (HO.out.call hk1).newAt w1.heap.size rfl (.int .i64 0) [.int .i64 0, .int .i64 0, .int .i64 0] 29; clear HO hk1 c0 c1 c2 c3; have HO := Lib.hid l2; clear l2))
    generalize w1.heap.size = p5 at *
    clear SA
    have c0 := (HO.out.at 1 rfl).cell 0 rfl
    have c1 := (HO.out.at 1 rfl).cell 1 rfl
    have c2 := (HO.out.at 1 rfl).cell 2 rfl
    have c3 := (HO.out.at 1 rfl).cell 3 rfl
    go_upto_region 5 with (first | ((with_reducible show wpList _ _ _ ({ dst := _, op := Op.load 24 _, type := _, pos := _, after := _, guard := _ } :: _) _ _); refine wpList_ldr ty_tex rfl _ rfl _ rfl _ rfl (HO.out.at 2 rfl) ?_) | (go_at_call 8; (with_reducible refine (AT _ HO.out.k).mono ?_); rintro e w2 ⟨rfl, hk1⟩; have l2 := (HO.out.call hk1).newAt w2.heap.size rfl (.int .i64 (Tn.part px 0)) [.int .i64 (Tn.part px 1), .int .i64 (Tn.part px 2), .int .i64 (Tn.part px 3)] 29; clear HO hk1 c0 c1 c2 c3; have HO := Lib.hid l2; clear l2))
    generalize w2.heap.size = p7 at *
    clear AT
    go_upto_region 6 with (first | ((with_reducible show wpList _ _ _ ({ dst := _, op := Op.load 24 _, type := _, pos := _, after := _, guard := _ } :: _) _ _); refine wpList_ldr ty_tex rfl _ rfl _ rfl _ rfl (HO.out.at 3 rfl) ?_) | (go_at_call 9; (with_reducible refine (RC _ HO.out.k).mono ?_); rintro e wz ⟨rfl, hk1⟩; have l2 := HO.out.call hk1; clear HO hk1; have HO := Lib.hid l2; clear l2))
    go_upto_region 8 with (first | ((with_reducible show wpList _ _ _ ({ dst := _, op := Op.load 24 _, type := _, pos := _, after := _, guard := _ } :: _) _ _); refine wpList_ldr ty_tex rfl _ rfl _ rfl _ rfl (HO.out.at 3 rfl) ?_) | (go_at_call 10; (with_reducible refine (CK _ HO.out.k).mono ?_); rintro e wz ⟨rfl, hk1⟩; have l2 := HO.out.call hk1; clear HO hk1; have HO := Lib.hid l2; clear l2))
    clear RC CK
    have c0 := (HO.out.at 2 rfl).cell 0 rfl
    have c1 := (HO.out.at 2 rfl).cell 1 rfl
    have c2 := (HO.out.at 2 rfl).cell 2 rfl
    have c3 := (HO.out.at 2 rfl).cell 3 rfl
    go_upto_region 14 with go_big_skip
    clear c0 c1 c2 c3
    refine Rg.region (I := fun _ W => Ow w W [(p7, [.int .i64 (Tn.part px 0), .int .i64 (Tn.part px 1), .int .i64 (Tn.part px 2), .int .i64 (Tn.part px 3)]), (p5, [.int .i64 0, .int .i64 0, .int .i64 0, .int .i64 0]), (w.heap.size + 1, [.int .i64 x, .int .i64 y, .int .i64 k, .bool s]), (w.heap.size, [.int .i64 n, .int .i64 m, .slice a l.length c])]) (dem := fun _ => false) (m := 14) (g := 0) (T := fun listed bs st => ∀ W, Ow w W [(p7, [.int .i64 (Tn.part px 0), .int .i64 (Tn.part px 1), .int .i64 (Tn.part px 2), .int .i64 (Tn.part px 3)]), (p5, [.int .i64 0, .int .i64 0, .int .i64 0, .int .i64 0]), (w.heap.size + 1, [.int .i64 x, .int .i64 y, .int .i64 k, .bool s]), (w.heap.size, [.int .i64 n, .int .i64 m, .slice a l.length c])] → wpAny Try.prog .any _ _ 0 listed st W) (by kernel_rfl) HO.out.drew rfl (fun _ _ _ _ h hI => h _ hI) ?_
    clear HO
    refine Rg.take 0 (v := .int .i64 0) rfl rfl (by kernel_rfl) (by kernel_rfl) (by kernel_rfl) (by kernel_rfl) (by kernel_rfl) (.inl ⟨rfl, fun bs wq hI => ?_⟩) ?_
    · go_simp
    simp only [Act.put, List.getElem_toArray, List.getElem_cons_zero, List.getElem_cons_succ, List.setIfInBounds_toArray, List.set_cons_zero, List.set_cons_succ]
    refine Rg.take 1 (v := .bool false) rfl rfl (by kernel_rfl) (by kernel_rfl) (by kernel_rfl) (by kernel_rfl) (by kernel_rfl) (.inl ⟨rfl, fun bs wq hI => ?_⟩) ?_
    · go_simp
    simp only [Act.put, List.getElem_toArray, List.getElem_cons_zero, List.getElem_cons_succ, List.setIfInBounds_toArray, List.set_cons_zero, List.set_cons_succ]
    refine Rg.take 2 (v := .bool false) rfl rfl (by kernel_rfl) (by kernel_rfl) (by kernel_rfl) (by kernel_rfl) (by kernel_rfl) (.inl ⟨rfl, fun bs wq hI => ?_⟩) ?_
    · go_simp
    simp only [Act.put, List.getElem_toArray, List.getElem_cons_zero, List.getElem_cons_succ, List.setIfInBounds_toArray, List.set_cons_zero, List.set_cons_succ]
    refine Rg.take 3 (v := .agg #[.int .i64 (Tn.part px 0), .int .i64 (Tn.part px 1), .int .i64 (Tn.part px 2), .int .i64 (Tn.part px 3)]) rfl rfl (by kernel_rfl) (by kernel_rfl) (by kernel_rfl) (by kernel_rfl) (by kernel_rfl) (.inl ⟨rfl, fun bs wq hI => ?_⟩) ?_
    · exact quiet_ldr ty_color (.tmp 7) rfl rfl rfl (hI.at 0 rfl)
    simp only [Act.put, List.getElem_toArray, List.getElem_cons_zero, List.getElem_cons_succ, List.setIfInBounds_toArray, List.set_cons_zero, List.set_cons_succ]
    refine Rg.take 4 (v := .agg #[.int .i64 n, .int .i64 m, .slice a l.length c]) rfl rfl (by kernel_rfl) (by kernel_rfl) (by kernel_rfl) (by kernel_rfl) (by kernel_rfl) (.inl ⟨rfl, fun bs wq hI => ?_⟩) ?_
    · exact quiet_ldr ty_tex (.tmp 2) rfl rfl rfl (hI.at 3 rfl)
    simp only [Act.put, List.getElem_toArray, List.getElem_cons_zero, List.getElem_cons_succ, List.setIfInBounds_toArray, List.set_cons_zero, List.set_cons_succ]
    refine Rg.take 5 (v := .pointer (some ⟨w.heap.size + 1, 0, none⟩)) rfl rfl (by kernel_rfl) (by kernel_rfl) (by kernel_rfl) (by kernel_rfl) (by kernel_rfl) (.inl ⟨rfl, fun bs wq hI => ?_⟩) ?_
    · go_simp
    simp only [Act.put, List.getElem_toArray, List.getElem_cons_zero, List.getElem_cons_succ, List.setIfInBounds_toArray, List.set_cons_zero, List.set_cons_succ]
    refine Rg.take 6 (v := .int .i64 x) rfl rfl (by kernel_rfl) (by kernel_rfl) (by kernel_rfl) (by kernel_rfl) (by kernel_rfl) (.inl ⟨rfl, fun bs wq hI => ?_⟩) ?_
    · (have hc := (hI.at 2 rfl).cell 0 rfl; go_simp)
    simp only [Act.put, List.getElem_toArray, List.getElem_cons_zero, List.getElem_cons_succ, List.setIfInBounds_toArray, List.set_cons_zero, List.set_cons_succ]
    refine Rg.take 7 (v := .pointer (some ⟨w.heap.size + 1, 1, none⟩)) rfl rfl (by kernel_rfl) (by kernel_rfl) (by kernel_rfl) (by kernel_rfl) (by kernel_rfl) (.inl ⟨rfl, fun bs wq hI => ?_⟩) ?_
    · go_simp
    simp only [Act.put, List.getElem_toArray, List.getElem_cons_zero, List.getElem_cons_succ, List.setIfInBounds_toArray, List.set_cons_zero, List.set_cons_succ]
    refine Rg.take 8 (v := .int .i64 y) rfl rfl (by kernel_rfl) (by kernel_rfl) (by kernel_rfl) (by kernel_rfl) (by kernel_rfl) (.inl ⟨rfl, fun bs wq hI => ?_⟩) ?_
    · (have hc := (hI.at 2 rfl).cell 1 rfl; go_simp)
    simp only [Act.put, List.getElem_toArray, List.getElem_cons_zero, List.getElem_cons_succ, List.setIfInBounds_toArray, List.set_cons_zero, List.set_cons_succ]
    refine Rg.take 9 (v := .pointer (some ⟨w.heap.size + 1, 2, none⟩)) rfl rfl (by kernel_rfl) (by kernel_rfl) (by kernel_rfl) (by kernel_rfl) (by kernel_rfl) (.inl ⟨rfl, fun bs wq hI => ?_⟩) ?_
    · go_simp
    simp only [Act.put, List.getElem_toArray, List.getElem_cons_zero, List.getElem_cons_succ, List.setIfInBounds_toArray, List.set_cons_zero, List.set_cons_succ]
    refine Rg.take 10 (v := .int .i64 k) rfl rfl (by kernel_rfl) (by kernel_rfl) (by kernel_rfl) (by kernel_rfl) (by kernel_rfl) (.inl ⟨rfl, fun bs wq hI => ?_⟩) ?_
    · (have hc := (hI.at 2 rfl).cell 2 rfl; go_simp)
    simp only [Act.put, List.getElem_toArray, List.getElem_cons_zero, List.getElem_cons_succ, List.setIfInBounds_toArray, List.set_cons_zero, List.set_cons_succ]
    refine Rg.take 11 (v := .agg #[.int .i64 (Tn.part px 0), .int .i64 (Tn.part px 1), .int .i64 (Tn.part px 2), .int .i64 (Tn.part px 3)]) rfl rfl (by kernel_rfl) (by kernel_rfl) (by kernel_rfl) (by kernel_rfl) (by kernel_rfl) (.inl ⟨rfl, fun bs wq hI => ?_⟩) ?_
    · (go_simp; exact (RA _ hI.k).mono fun e w2 h => ⟨h.1, hI.call h.2⟩)
    simp only [Act.put, List.getElem_toArray, List.getElem_cons_zero, List.getElem_cons_succ, List.setIfInBounds_toArray, List.set_cons_zero, List.set_cons_succ]
    refine Rg.take 12 (v := .bool false) rfl rfl (by kernel_rfl) (by kernel_rfl) (by kernel_rfl) (by kernel_rfl) (by kernel_rfl) (.inl ⟨rfl, fun bs wq hI => ?_⟩) ?_
    · go_simp
    simp only [Act.put, List.getElem_toArray, List.getElem_cons_zero, List.getElem_cons_succ, List.setIfInBounds_toArray, List.set_cons_zero, List.set_cons_succ]
    refine Rg.take 13 (v := .bool false) rfl rfl (by kernel_rfl) (by kernel_rfl) (by kernel_rfl) (by kernel_rfl) (by kernel_rfl) (.inl ⟨rfl, fun bs wq hI => ?_⟩) ?_
    · go_simp
    simp only [Act.put, List.getElem_toArray, List.getElem_cons_zero, List.getElem_cons_succ, List.setIfInBounds_toArray, List.set_cons_zero, List.set_cons_succ]
    refine Rg.done (rs := []) (by kernel_rfl) (by decide) (fun W hI => ?_)
    have HO := Lib.hid hI
    clear hI
    refine wpAny_done (by kernel_rfl) ?_ _
    have c0 := (HO.out.at 2 rfl).cell 0 rfl
    have c1 := (HO.out.at 2 rfl).cell 1 rfl
    have c2 := (HO.out.at 2 rfl).cell 2 rfl
    have c3 := (HO.out.at 2 rfl).cell 3 rfl
    go_wp2_with (first | go_big_skip | ((with_reducible show wpList _ _ _ ({ dst := _, op := Op.load 29 (Operand.tmp 5), type := _, pos := _, after := _, guard := _ } :: _) _ _); refine wpList_ldr ty_color rfl _ rfl _ rfl _ rfl (HO.out.at 1 rfl) ?_) | (go_at_call 6; refine (awake_any _).mono ?_; rintro e w' ⟨rfl, rfl⟩))
    go_ret
    exact ⟨rfl, HO.out.k⟩
  · have q1 : decide (x < -65536) = false := decide_eq_false h1
    have q2 : decide (65536 < x) = false := decide_eq_false h2
    have q3 : decide (y < -65536) = true := decide_eq_true h3
    clear h1 h2 h3
    have HO := Lib.hid (((Ow.refl w).newAt w.heap.size rfl (.int .i64 n) [.int .i64 m, .slice a l.length c] 24).newAt (w.heap.size + 1) (by simp) (.int .i64 x) [.int .i64 y, .int .i64 k, .bool s] 26)
    have t2 := (HO.out.at 1 rfl).cell 2 rfl
    have c0 := (HO.out.at 0 rfl).cell 0 rfl
    have c1 := (HO.out.at 0 rfl).cell 1 rfl
    have c2 := (HO.out.at 0 rfl).cell 2 rfl
    have c3 := (HO.out.at 0 rfl).cell 3 rfl
    go_enter Try.func3, Try.ntmps3
    go_upto_region 3 with fail
    clear t2
    go_upto_region 4 with (first | ((with_reducible show wpList _ _ _ ({ dst := _, op := Op.load 24 _, type := _, pos := _, after := _, guard := _ } :: _) _ _); refine wpList_ldr ty_tex rfl _ rfl _ rfl _ rfl (HO.out.at 1 rfl) ?_) | (go_at_call 7; (with_reducible refine (SA _ HO.out.k).mono ?_); rintro e w1 ⟨rfl, hk1⟩; have l2 := (HO.out.call hk1).newAt w1.heap.size rfl (.int .i64 0) [.int .i64 0, .int .i64 0, .int .i64 0] 29; clear HO hk1 c0 c1 c2 c3; have HO := Lib.hid l2; clear l2))
    generalize w1.heap.size = p5 at *
    clear SA
    have c0 := (HO.out.at 1 rfl).cell 0 rfl
    have c1 := (HO.out.at 1 rfl).cell 1 rfl
    have c2 := (HO.out.at 1 rfl).cell 2 rfl
    have c3 := (HO.out.at 1 rfl).cell 3 rfl
    go_upto_region 5 with (first | ((with_reducible show wpList _ _ _ ({ dst := _, op := Op.load 24 _, type := _, pos := _, after := _, guard := _ } :: _) _ _); refine wpList_ldr ty_tex rfl _ rfl _ rfl _ rfl (HO.out.at 2 rfl) ?_) | (go_at_call 8; (with_reducible refine (AT _ HO.out.k).mono ?_); rintro e w2 ⟨rfl, hk1⟩; have l2 := (HO.out.call hk1).newAt w2.heap.size rfl (.int .i64 (Tn.part px 0)) [.int .i64 (Tn.part px 1), .int .i64 (Tn.part px 2), .int .i64 (Tn.part px 3)] 29; clear HO hk1 c0 c1 c2 c3; have HO := Lib.hid l2; clear l2))
    generalize w2.heap.size = p7 at *
    clear AT
    go_upto_region 6 with (first | ((with_reducible show wpList _ _ _ ({ dst := _, op := Op.load 24 _, type := _, pos := _, after := _, guard := _ } :: _) _ _); refine wpList_ldr ty_tex rfl _ rfl _ rfl _ rfl (HO.out.at 3 rfl) ?_) | (go_at_call 9; (with_reducible refine (RC _ HO.out.k).mono ?_); rintro e wz ⟨rfl, hk1⟩; have l2 := HO.out.call hk1; clear HO hk1; have HO := Lib.hid l2; clear l2))
    go_upto_region 8 with (first | ((with_reducible show wpList _ _ _ ({ dst := _, op := Op.load 24 _, type := _, pos := _, after := _, guard := _ } :: _) _ _); refine wpList_ldr ty_tex rfl _ rfl _ rfl _ rfl (HO.out.at 3 rfl) ?_) | (go_at_call 10; (with_reducible refine (CK _ HO.out.k).mono ?_); rintro e wz ⟨rfl, hk1⟩; have l2 := HO.out.call hk1; clear HO hk1; have HO := Lib.hid l2; clear l2))
    clear RC CK
    have c0 := (HO.out.at 2 rfl).cell 0 rfl
    have c1 := (HO.out.at 2 rfl).cell 1 rfl
    have c2 := (HO.out.at 2 rfl).cell 2 rfl
    have c3 := (HO.out.at 2 rfl).cell 3 rfl
    go_upto_region 14 with go_big_skip
    clear c0 c1 c2 c3
    refine Rg.region (I := fun _ W => Ow w W [(p7, [.int .i64 (Tn.part px 0), .int .i64 (Tn.part px 1), .int .i64 (Tn.part px 2), .int .i64 (Tn.part px 3)]), (p5, [.int .i64 0, .int .i64 0, .int .i64 0, .int .i64 0]), (w.heap.size + 1, [.int .i64 x, .int .i64 y, .int .i64 k, .bool s]), (w.heap.size, [.int .i64 n, .int .i64 m, .slice a l.length c])]) (dem := fun _ => false) (m := 14) (g := 0) (T := fun listed bs st => ∀ W, Ow w W [(p7, [.int .i64 (Tn.part px 0), .int .i64 (Tn.part px 1), .int .i64 (Tn.part px 2), .int .i64 (Tn.part px 3)]), (p5, [.int .i64 0, .int .i64 0, .int .i64 0, .int .i64 0]), (w.heap.size + 1, [.int .i64 x, .int .i64 y, .int .i64 k, .bool s]), (w.heap.size, [.int .i64 n, .int .i64 m, .slice a l.length c])] → wpAny Try.prog .any _ _ 0 listed st W) (by kernel_rfl) HO.out.drew rfl (fun _ _ _ _ h hI => h _ hI) ?_
    clear HO
    refine Rg.take 0 (v := .int .i64 0) rfl rfl (by kernel_rfl) (by kernel_rfl) (by kernel_rfl) (by kernel_rfl) (by kernel_rfl) (.inl ⟨rfl, fun bs wq hI => ?_⟩) ?_
    · go_simp
    simp only [Act.put, List.getElem_toArray, List.getElem_cons_zero, List.getElem_cons_succ, List.setIfInBounds_toArray, List.set_cons_zero, List.set_cons_succ]
    refine Rg.take 1 (v := .bool false) rfl rfl (by kernel_rfl) (by kernel_rfl) (by kernel_rfl) (by kernel_rfl) (by kernel_rfl) (.inl ⟨rfl, fun bs wq hI => ?_⟩) ?_
    · go_simp
    simp only [Act.put, List.getElem_toArray, List.getElem_cons_zero, List.getElem_cons_succ, List.setIfInBounds_toArray, List.set_cons_zero, List.set_cons_succ]
    refine Rg.take 2 (v := .bool false) rfl rfl (by kernel_rfl) (by kernel_rfl) (by kernel_rfl) (by kernel_rfl) (by kernel_rfl) (.inl ⟨rfl, fun bs wq hI => ?_⟩) ?_
    · go_simp
    simp only [Act.put, List.getElem_toArray, List.getElem_cons_zero, List.getElem_cons_succ, List.setIfInBounds_toArray, List.set_cons_zero, List.set_cons_succ]
    refine Rg.take 3 (v := .agg #[.int .i64 (Tn.part px 0), .int .i64 (Tn.part px 1), .int .i64 (Tn.part px 2), .int .i64 (Tn.part px 3)]) rfl rfl (by kernel_rfl) (by kernel_rfl) (by kernel_rfl) (by kernel_rfl) (by kernel_rfl) (.inl ⟨rfl, fun bs wq hI => ?_⟩) ?_
    · exact quiet_ldr ty_color (.tmp 7) rfl rfl rfl (hI.at 0 rfl)
    simp only [Act.put, List.getElem_toArray, List.getElem_cons_zero, List.getElem_cons_succ, List.setIfInBounds_toArray, List.set_cons_zero, List.set_cons_succ]
    refine Rg.take 4 (v := .agg #[.int .i64 n, .int .i64 m, .slice a l.length c]) rfl rfl (by kernel_rfl) (by kernel_rfl) (by kernel_rfl) (by kernel_rfl) (by kernel_rfl) (.inl ⟨rfl, fun bs wq hI => ?_⟩) ?_
    · exact quiet_ldr ty_tex (.tmp 2) rfl rfl rfl (hI.at 3 rfl)
    simp only [Act.put, List.getElem_toArray, List.getElem_cons_zero, List.getElem_cons_succ, List.setIfInBounds_toArray, List.set_cons_zero, List.set_cons_succ]
    refine Rg.take 5 (v := .pointer (some ⟨w.heap.size + 1, 0, none⟩)) rfl rfl (by kernel_rfl) (by kernel_rfl) (by kernel_rfl) (by kernel_rfl) (by kernel_rfl) (.inl ⟨rfl, fun bs wq hI => ?_⟩) ?_
    · go_simp
    simp only [Act.put, List.getElem_toArray, List.getElem_cons_zero, List.getElem_cons_succ, List.setIfInBounds_toArray, List.set_cons_zero, List.set_cons_succ]
    refine Rg.take 6 (v := .int .i64 x) rfl rfl (by kernel_rfl) (by kernel_rfl) (by kernel_rfl) (by kernel_rfl) (by kernel_rfl) (.inl ⟨rfl, fun bs wq hI => ?_⟩) ?_
    · (have hc := (hI.at 2 rfl).cell 0 rfl; go_simp)
    simp only [Act.put, List.getElem_toArray, List.getElem_cons_zero, List.getElem_cons_succ, List.setIfInBounds_toArray, List.set_cons_zero, List.set_cons_succ]
    refine Rg.take 7 (v := .pointer (some ⟨w.heap.size + 1, 1, none⟩)) rfl rfl (by kernel_rfl) (by kernel_rfl) (by kernel_rfl) (by kernel_rfl) (by kernel_rfl) (.inl ⟨rfl, fun bs wq hI => ?_⟩) ?_
    · go_simp
    simp only [Act.put, List.getElem_toArray, List.getElem_cons_zero, List.getElem_cons_succ, List.setIfInBounds_toArray, List.set_cons_zero, List.set_cons_succ]
    refine Rg.take 8 (v := .int .i64 y) rfl rfl (by kernel_rfl) (by kernel_rfl) (by kernel_rfl) (by kernel_rfl) (by kernel_rfl) (.inl ⟨rfl, fun bs wq hI => ?_⟩) ?_
    · (have hc := (hI.at 2 rfl).cell 1 rfl; go_simp)
    simp only [Act.put, List.getElem_toArray, List.getElem_cons_zero, List.getElem_cons_succ, List.setIfInBounds_toArray, List.set_cons_zero, List.set_cons_succ]
    refine Rg.take 9 (v := .pointer (some ⟨w.heap.size + 1, 2, none⟩)) rfl rfl (by kernel_rfl) (by kernel_rfl) (by kernel_rfl) (by kernel_rfl) (by kernel_rfl) (.inl ⟨rfl, fun bs wq hI => ?_⟩) ?_
    · go_simp
    simp only [Act.put, List.getElem_toArray, List.getElem_cons_zero, List.getElem_cons_succ, List.setIfInBounds_toArray, List.set_cons_zero, List.set_cons_succ]
    refine Rg.take 10 (v := .int .i64 k) rfl rfl (by kernel_rfl) (by kernel_rfl) (by kernel_rfl) (by kernel_rfl) (by kernel_rfl) (.inl ⟨rfl, fun bs wq hI => ?_⟩) ?_
    · (have hc := (hI.at 2 rfl).cell 2 rfl; go_simp)
    simp only [Act.put, List.getElem_toArray, List.getElem_cons_zero, List.getElem_cons_succ, List.setIfInBounds_toArray, List.set_cons_zero, List.set_cons_succ]
    refine Rg.take 11 (v := .agg #[.int .i64 (Tn.part px 0), .int .i64 (Tn.part px 1), .int .i64 (Tn.part px 2), .int .i64 (Tn.part px 3)]) rfl rfl (by kernel_rfl) (by kernel_rfl) (by kernel_rfl) (by kernel_rfl) (by kernel_rfl) (.inl ⟨rfl, fun bs wq hI => ?_⟩) ?_
    · (go_simp; exact (RA _ hI.k).mono fun e w2 h => ⟨h.1, hI.call h.2⟩)
    simp only [Act.put, List.getElem_toArray, List.getElem_cons_zero, List.getElem_cons_succ, List.setIfInBounds_toArray, List.set_cons_zero, List.set_cons_succ]
    refine Rg.take 12 (v := .bool false) rfl rfl (by kernel_rfl) (by kernel_rfl) (by kernel_rfl) (by kernel_rfl) (by kernel_rfl) (.inl ⟨rfl, fun bs wq hI => ?_⟩) ?_
    · go_simp
    simp only [Act.put, List.getElem_toArray, List.getElem_cons_zero, List.getElem_cons_succ, List.setIfInBounds_toArray, List.set_cons_zero, List.set_cons_succ]
    refine Rg.take 13 (v := .bool false) rfl rfl (by kernel_rfl) (by kernel_rfl) (by kernel_rfl) (by kernel_rfl) (by kernel_rfl) (.inl ⟨rfl, fun bs wq hI => ?_⟩) ?_
    · go_simp
    simp only [Act.put, List.getElem_toArray, List.getElem_cons_zero, List.getElem_cons_succ, List.setIfInBounds_toArray, List.set_cons_zero, List.set_cons_succ]
    refine Rg.done (rs := []) (by kernel_rfl) (by decide) (fun W hI => ?_)
    have HO := Lib.hid hI
    clear hI
    refine wpAny_done (by kernel_rfl) ?_ _
    have c0 := (HO.out.at 2 rfl).cell 0 rfl
    have c1 := (HO.out.at 2 rfl).cell 1 rfl
    have c2 := (HO.out.at 2 rfl).cell 2 rfl
    have c3 := (HO.out.at 2 rfl).cell 3 rfl
    go_wp2_with (first | go_big_skip | ((with_reducible show wpList _ _ _ ({ dst := _, op := Op.load 29 (Operand.tmp 5), type := _, pos := _, after := _, guard := _ } :: _) _ _); refine wpList_ldr ty_color rfl _ rfl _ rfl _ rfl (HO.out.at 1 rfl) ?_) | (go_at_call 6; refine (awake_any _).mono ?_; rintro e w' ⟨rfl, rfl⟩))
    go_ret
    exact ⟨rfl, HO.out.k⟩
  · have q1 : decide (x < -65536) = false := decide_eq_false h1
    have q2 : decide (65536 < x) = false := decide_eq_false h2
    have q3 : decide (y < -65536) = false := decide_eq_false h3
    have q4 : decide (65536 < y) = true := decide_eq_true h4
    clear h1 h2 h3 h4
    have HO := Lib.hid (((Ow.refl w).newAt w.heap.size rfl (.int .i64 n) [.int .i64 m, .slice a l.length c] 24).newAt (w.heap.size + 1) (by simp) (.int .i64 x) [.int .i64 y, .int .i64 k, .bool s] 26)
    have t2 := (HO.out.at 1 rfl).cell 2 rfl
    have c0 := (HO.out.at 0 rfl).cell 0 rfl
    have c1 := (HO.out.at 0 rfl).cell 1 rfl
    have c2 := (HO.out.at 0 rfl).cell 2 rfl
    have c3 := (HO.out.at 0 rfl).cell 3 rfl
    go_enter Try.func3, Try.ntmps3
    go_upto_region 3 with fail
    clear t2
    go_upto_region 4 with (first | ((with_reducible show wpList _ _ _ ({ dst := _, op := Op.load 24 _, type := _, pos := _, after := _, guard := _ } :: _) _ _); refine wpList_ldr ty_tex rfl _ rfl _ rfl _ rfl (HO.out.at 1 rfl) ?_) | (go_at_call 7; (with_reducible refine (SA _ HO.out.k).mono ?_); rintro e w1 ⟨rfl, hk1⟩; have l2 := (HO.out.call hk1).newAt w1.heap.size rfl (.int .i64 0) [.int .i64 0, .int .i64 0, .int .i64 0] 29; clear HO hk1 c0 c1 c2 c3; have HO := Lib.hid l2; clear l2))
    generalize w1.heap.size = p5 at *
    clear SA
    have c0 := (HO.out.at 1 rfl).cell 0 rfl
    have c1 := (HO.out.at 1 rfl).cell 1 rfl
    have c2 := (HO.out.at 1 rfl).cell 2 rfl
    have c3 := (HO.out.at 1 rfl).cell 3 rfl
    go_upto_region 5 with (first | ((with_reducible show wpList _ _ _ ({ dst := _, op := Op.load 24 _, type := _, pos := _, after := _, guard := _ } :: _) _ _); refine wpList_ldr ty_tex rfl _ rfl _ rfl _ rfl (HO.out.at 2 rfl) ?_) | (go_at_call 8; (with_reducible refine (AT _ HO.out.k).mono ?_); rintro e w2 ⟨rfl, hk1⟩; have l2 := (HO.out.call hk1).newAt w2.heap.size rfl (.int .i64 (Tn.part px 0)) [.int .i64 (Tn.part px 1), .int .i64 (Tn.part px 2), .int .i64 (Tn.part px 3)] 29; clear HO hk1 c0 c1 c2 c3; have HO := Lib.hid l2; clear l2))
    generalize w2.heap.size = p7 at *
    clear AT
    go_upto_region 6 with (first | ((with_reducible show wpList _ _ _ ({ dst := _, op := Op.load 24 _, type := _, pos := _, after := _, guard := _ } :: _) _ _); refine wpList_ldr ty_tex rfl _ rfl _ rfl _ rfl (HO.out.at 3 rfl) ?_) | (go_at_call 9; (with_reducible refine (RC _ HO.out.k).mono ?_); rintro e wz ⟨rfl, hk1⟩; have l2 := HO.out.call hk1; clear HO hk1; have HO := Lib.hid l2; clear l2))
    go_upto_region 8 with (first | ((with_reducible show wpList _ _ _ ({ dst := _, op := Op.load 24 _, type := _, pos := _, after := _, guard := _ } :: _) _ _); refine wpList_ldr ty_tex rfl _ rfl _ rfl _ rfl (HO.out.at 3 rfl) ?_) | (go_at_call 10; (with_reducible refine (CK _ HO.out.k).mono ?_); rintro e wz ⟨rfl, hk1⟩; have l2 := HO.out.call hk1; clear HO hk1; have HO := Lib.hid l2; clear l2))
    clear RC CK
    have c0 := (HO.out.at 2 rfl).cell 0 rfl
    have c1 := (HO.out.at 2 rfl).cell 1 rfl
    have c2 := (HO.out.at 2 rfl).cell 2 rfl
    have c3 := (HO.out.at 2 rfl).cell 3 rfl
    go_upto_region 14 with go_big_skip
    clear c0 c1 c2 c3
    refine Rg.region (I := fun _ W => Ow w W [(p7, [.int .i64 (Tn.part px 0), .int .i64 (Tn.part px 1), .int .i64 (Tn.part px 2), .int .i64 (Tn.part px 3)]), (p5, [.int .i64 0, .int .i64 0, .int .i64 0, .int .i64 0]), (w.heap.size + 1, [.int .i64 x, .int .i64 y, .int .i64 k, .bool s]), (w.heap.size, [.int .i64 n, .int .i64 m, .slice a l.length c])]) (dem := fun _ => false) (m := 14) (g := 0) (T := fun listed bs st => ∀ W, Ow w W [(p7, [.int .i64 (Tn.part px 0), .int .i64 (Tn.part px 1), .int .i64 (Tn.part px 2), .int .i64 (Tn.part px 3)]), (p5, [.int .i64 0, .int .i64 0, .int .i64 0, .int .i64 0]), (w.heap.size + 1, [.int .i64 x, .int .i64 y, .int .i64 k, .bool s]), (w.heap.size, [.int .i64 n, .int .i64 m, .slice a l.length c])] → wpAny Try.prog .any _ _ 0 listed st W) (by kernel_rfl) HO.out.drew rfl (fun _ _ _ _ h hI => h _ hI) ?_
    clear HO
    refine Rg.take 0 (v := .int .i64 0) rfl rfl (by kernel_rfl) (by kernel_rfl) (by kernel_rfl) (by kernel_rfl) (by kernel_rfl) (.inl ⟨rfl, fun bs wq hI => ?_⟩) ?_
    · go_simp
    simp only [Act.put, List.getElem_toArray, List.getElem_cons_zero, List.getElem_cons_succ, List.setIfInBounds_toArray, List.set_cons_zero, List.set_cons_succ]
    refine Rg.take 1 (v := .bool false) rfl rfl (by kernel_rfl) (by kernel_rfl) (by kernel_rfl) (by kernel_rfl) (by kernel_rfl) (.inl ⟨rfl, fun bs wq hI => ?_⟩) ?_
    · go_simp
    simp only [Act.put, List.getElem_toArray, List.getElem_cons_zero, List.getElem_cons_succ, List.setIfInBounds_toArray, List.set_cons_zero, List.set_cons_succ]
    refine Rg.take 2 (v := .bool false) rfl rfl (by kernel_rfl) (by kernel_rfl) (by kernel_rfl) (by kernel_rfl) (by kernel_rfl) (.inl ⟨rfl, fun bs wq hI => ?_⟩) ?_
    · go_simp
    simp only [Act.put, List.getElem_toArray, List.getElem_cons_zero, List.getElem_cons_succ, List.setIfInBounds_toArray, List.set_cons_zero, List.set_cons_succ]
    refine Rg.take 3 (v := .agg #[.int .i64 (Tn.part px 0), .int .i64 (Tn.part px 1), .int .i64 (Tn.part px 2), .int .i64 (Tn.part px 3)]) rfl rfl (by kernel_rfl) (by kernel_rfl) (by kernel_rfl) (by kernel_rfl) (by kernel_rfl) (.inl ⟨rfl, fun bs wq hI => ?_⟩) ?_
    · exact quiet_ldr ty_color (.tmp 7) rfl rfl rfl (hI.at 0 rfl)
    simp only [Act.put, List.getElem_toArray, List.getElem_cons_zero, List.getElem_cons_succ, List.setIfInBounds_toArray, List.set_cons_zero, List.set_cons_succ]
    refine Rg.take 4 (v := .agg #[.int .i64 n, .int .i64 m, .slice a l.length c]) rfl rfl (by kernel_rfl) (by kernel_rfl) (by kernel_rfl) (by kernel_rfl) (by kernel_rfl) (.inl ⟨rfl, fun bs wq hI => ?_⟩) ?_
    · exact quiet_ldr ty_tex (.tmp 2) rfl rfl rfl (hI.at 3 rfl)
    simp only [Act.put, List.getElem_toArray, List.getElem_cons_zero, List.getElem_cons_succ, List.setIfInBounds_toArray, List.set_cons_zero, List.set_cons_succ]
    refine Rg.take 5 (v := .pointer (some ⟨w.heap.size + 1, 0, none⟩)) rfl rfl (by kernel_rfl) (by kernel_rfl) (by kernel_rfl) (by kernel_rfl) (by kernel_rfl) (.inl ⟨rfl, fun bs wq hI => ?_⟩) ?_
    · go_simp
    simp only [Act.put, List.getElem_toArray, List.getElem_cons_zero, List.getElem_cons_succ, List.setIfInBounds_toArray, List.set_cons_zero, List.set_cons_succ]
    refine Rg.take 6 (v := .int .i64 x) rfl rfl (by kernel_rfl) (by kernel_rfl) (by kernel_rfl) (by kernel_rfl) (by kernel_rfl) (.inl ⟨rfl, fun bs wq hI => ?_⟩) ?_
    · (have hc := (hI.at 2 rfl).cell 0 rfl; go_simp)
    simp only [Act.put, List.getElem_toArray, List.getElem_cons_zero, List.getElem_cons_succ, List.setIfInBounds_toArray, List.set_cons_zero, List.set_cons_succ]
    refine Rg.take 7 (v := .pointer (some ⟨w.heap.size + 1, 1, none⟩)) rfl rfl (by kernel_rfl) (by kernel_rfl) (by kernel_rfl) (by kernel_rfl) (by kernel_rfl) (.inl ⟨rfl, fun bs wq hI => ?_⟩) ?_
    · go_simp
    simp only [Act.put, List.getElem_toArray, List.getElem_cons_zero, List.getElem_cons_succ, List.setIfInBounds_toArray, List.set_cons_zero, List.set_cons_succ]
    refine Rg.take 8 (v := .int .i64 y) rfl rfl (by kernel_rfl) (by kernel_rfl) (by kernel_rfl) (by kernel_rfl) (by kernel_rfl) (.inl ⟨rfl, fun bs wq hI => ?_⟩) ?_
    · (have hc := (hI.at 2 rfl).cell 1 rfl; go_simp)
    simp only [Act.put, List.getElem_toArray, List.getElem_cons_zero, List.getElem_cons_succ, List.setIfInBounds_toArray, List.set_cons_zero, List.set_cons_succ]
    refine Rg.take 9 (v := .pointer (some ⟨w.heap.size + 1, 2, none⟩)) rfl rfl (by kernel_rfl) (by kernel_rfl) (by kernel_rfl) (by kernel_rfl) (by kernel_rfl) (.inl ⟨rfl, fun bs wq hI => ?_⟩) ?_
    · go_simp
    simp only [Act.put, List.getElem_toArray, List.getElem_cons_zero, List.getElem_cons_succ, List.setIfInBounds_toArray, List.set_cons_zero, List.set_cons_succ]
    refine Rg.take 10 (v := .int .i64 k) rfl rfl (by kernel_rfl) (by kernel_rfl) (by kernel_rfl) (by kernel_rfl) (by kernel_rfl) (.inl ⟨rfl, fun bs wq hI => ?_⟩) ?_
    · (have hc := (hI.at 2 rfl).cell 2 rfl; go_simp)
    simp only [Act.put, List.getElem_toArray, List.getElem_cons_zero, List.getElem_cons_succ, List.setIfInBounds_toArray, List.set_cons_zero, List.set_cons_succ]
    refine Rg.take 11 (v := .agg #[.int .i64 (Tn.part px 0), .int .i64 (Tn.part px 1), .int .i64 (Tn.part px 2), .int .i64 (Tn.part px 3)]) rfl rfl (by kernel_rfl) (by kernel_rfl) (by kernel_rfl) (by kernel_rfl) (by kernel_rfl) (.inl ⟨rfl, fun bs wq hI => ?_⟩) ?_
    · (go_simp; exact (RA _ hI.k).mono fun e w2 h => ⟨h.1, hI.call h.2⟩)
    simp only [Act.put, List.getElem_toArray, List.getElem_cons_zero, List.getElem_cons_succ, List.setIfInBounds_toArray, List.set_cons_zero, List.set_cons_succ]
    refine Rg.take 12 (v := .bool false) rfl rfl (by kernel_rfl) (by kernel_rfl) (by kernel_rfl) (by kernel_rfl) (by kernel_rfl) (.inl ⟨rfl, fun bs wq hI => ?_⟩) ?_
    · go_simp
    simp only [Act.put, List.getElem_toArray, List.getElem_cons_zero, List.getElem_cons_succ, List.setIfInBounds_toArray, List.set_cons_zero, List.set_cons_succ]
    refine Rg.take 13 (v := .bool false) rfl rfl (by kernel_rfl) (by kernel_rfl) (by kernel_rfl) (by kernel_rfl) (by kernel_rfl) (.inl ⟨rfl, fun bs wq hI => ?_⟩) ?_
    · go_simp
    simp only [Act.put, List.getElem_toArray, List.getElem_cons_zero, List.getElem_cons_succ, List.setIfInBounds_toArray, List.set_cons_zero, List.set_cons_succ]
    refine Rg.done (rs := []) (by kernel_rfl) (by decide) (fun W hI => ?_)
    have HO := Lib.hid hI
    clear hI
    refine wpAny_done (by kernel_rfl) ?_ _
    have c0 := (HO.out.at 2 rfl).cell 0 rfl
    have c1 := (HO.out.at 2 rfl).cell 1 rfl
    have c2 := (HO.out.at 2 rfl).cell 2 rfl
    have c3 := (HO.out.at 2 rfl).cell 3 rfl
    go_wp2_with (first | go_big_skip | ((with_reducible show wpList _ _ _ ({ dst := _, op := Op.load 29 (Operand.tmp 5), type := _, pos := _, after := _, guard := _ } :: _) _ _); refine wpList_ldr ty_color rfl _ rfl _ rfl _ rfl (HO.out.at 1 rfl) ?_) | (go_at_call 6; refine (awake_any _).mono ?_; rintro e w' ⟨rfl, rfl⟩))
    go_ret
    exact ⟨rfl, HO.out.k⟩
set_option linter.unusedSimpArgs false in
set_option maxRecDepth 100000 in
set_option maxHeartbeats 8000000 in
theorem samples_in (n m x y k : Int) (s : Bool) (l : List Int) (a : Option Addr) (c : Nat) (w : World) (hS : Sl w (.slice a l.length c) (iv l)) (hi : Tx.ints l) (hl : l.length ≤ 5000) (hc : Tx.chk n m l = 0) (hk : Tx.is k = true) (hx : Tx.within 65536 x = true) (hy : Tx.within 65536 y = true) :
    Calls Try.prog 3 #[.agg #[.int .i64 n, .int .i64 m, .slice a l.length c], .agg #[.int .i64 x, .int .i64 y, .int .i64 k, .bool s]] w fun e w' => e = .returned (.bool true) ∧ Kp w.heap.size w w' := by
  have z1 : (l.length : Int) ≤ 5000 := by omega
  have RC := fun U (hk2 : Kp w.heap.size w U) => rcheck_any n m l _ U (hS.next hk2)
  have CK := fun U (hk2 : Kp w.heap.size w U) => check_any n m l _ U (hS.next hk2) hi
  have hx0 : Tx.within 1048576 x = true := Tx.within_iff.2 (by have := Tx.within_iff.1 hx; omega)
  have hy0 : Tx.within 1048576 y = true := Tx.within_iff.2 (by have := Tx.within_iff.1 hy; omega)
  have SA := fun U (hk2 : Kp w.heap.size w U) => sample_yes n m x y k s l _ U (hS.next hk2) hi hc hk (Tx.within_iff.1 hx) (Tx.within_iff.1 hy)
  have RS := fun U (hk2 : Kp w.heap.size w U) => rsample_any n m x y k s l _ U (hS.next hk2) hc hk (Tx.within_iff.1 hx) (Tx.within_iff.1 hy)
  have RR := fun U => rright_any (Tx.smp n m l x y k s 0) (Tx.smp n m l x y k s 1) (Tx.smp n m l x y k s 2) (Tx.smp n m l x y k s 3) U
  rw [Tx.smp_right] at RR
  have RA := fun U (hk2 : Kp w.heap.size w U) => rat_any n m x y k l _ U (hS.next hk2) hc hk (Tx.within_iff.1 hx0) (Tx.within_iff.1 hy0)
  have AT := fun U (hk2 : Kp w.heap.size w U) => at_yes n m x y k l _ U (hS.next hk2) hi hc hk (Tx.within_iff.1 hx0) (Tx.within_iff.1 hy0)
  have s1 : decide (x < -1048576) = false := decide_eq_false (by have := Tx.within_iff.1 hx0; omega)
  have s2 : decide (1048576 < x) = false := decide_eq_false (by have := Tx.within_iff.1 hx0; omega)
  have s3 : decide (y < -1048576) = false := decide_eq_false (by have := Tx.within_iff.1 hy0; omega)
  have s4 : decide (1048576 < y) = false := decide_eq_false (by have := Tx.within_iff.1 hy0; omega)
  have q1 : decide (x < -65536) = false := decide_eq_false (by have := Tx.within_iff.1 hx; omega)
  have q2 : decide (65536 < x) = false := decide_eq_false (by have := Tx.within_iff.1 hx; omega)
  have q3 : decide (y < -65536) = false := decide_eq_false (by have := Tx.within_iff.1 hy; omega)
  have q4 : decide (65536 < y) = false := decide_eq_false (by have := Tx.within_iff.1 hy; omega)
  rw [hc] at RC CK
  have hE := run_eqC_same
  generalize Tx.px n m l x y k = px at *
  generalize Tx.smp n m l x y k s = F at *
  obtain ⟨k1, k2⟩ := Tx.is_iff.1 hk
  have r1 : decide (k < 0) = false := decide_eq_false (by omega)
  have r2 : decide (2 < k) = false := decide_eq_false (by omega)
  clear k1 k2
  clear hS hi hl hc hk hx0 hy0 hx hy
  have HO := Lib.hid (((Ow.refl w).newAt w.heap.size rfl (.int .i64 n) [.int .i64 m, .slice a l.length c] 24).newAt (w.heap.size + 1) (by simp) (.int .i64 x) [.int .i64 y, .int .i64 k, .bool s] 26)
  have t2 := (HO.out.at 1 rfl).cell 2 rfl
  have c0 := (HO.out.at 0 rfl).cell 0 rfl
  have c1 := (HO.out.at 0 rfl).cell 1 rfl
  have c2 := (HO.out.at 0 rfl).cell 2 rfl
  have c3 := (HO.out.at 0 rfl).cell 3 rfl
  go_enter Try.func3, Try.ntmps3
  go_upto_region 3 with fail
  clear t2
  go_upto_region 4 with (first | ((with_reducible show wpList _ _ _ ({ dst := _, op := Op.load 24 _, type := _, pos := _, after := _, guard := _ } :: _) _ _); refine wpList_ldr ty_tex rfl _ rfl _ rfl _ rfl (HO.out.at 1 rfl) ?_) | (go_at_call 7; (with_reducible refine (SA _ HO.out.k).mono ?_); rintro e w1 ⟨rfl, hk1⟩; have l2 := (HO.out.call hk1).newAt w1.heap.size rfl (.int .i64 (F 0)) [.int .i64 (F 1), .int .i64 (F 2), .int .i64 (F 3)] 29; clear HO hk1 c0 c1 c2 c3; have HO := Lib.hid l2; clear l2))
  generalize w1.heap.size = p5 at *
  clear SA
  have c0 := (HO.out.at 1 rfl).cell 0 rfl
  have c1 := (HO.out.at 1 rfl).cell 1 rfl
  have c2 := (HO.out.at 1 rfl).cell 2 rfl
  have c3 := (HO.out.at 1 rfl).cell 3 rfl
  go_upto_region 5 with (first | ((with_reducible show wpList _ _ _ ({ dst := _, op := Op.load 24 _, type := _, pos := _, after := _, guard := _ } :: _) _ _); refine wpList_ldr ty_tex rfl _ rfl _ rfl _ rfl (HO.out.at 2 rfl) ?_) | (go_at_call 8; (with_reducible refine (AT _ HO.out.k).mono ?_); rintro e w2 ⟨rfl, hk1⟩; have l2 := (HO.out.call hk1).newAt w2.heap.size rfl (.int .i64 (Tn.part px 0)) [.int .i64 (Tn.part px 1), .int .i64 (Tn.part px 2), .int .i64 (Tn.part px 3)] 29; clear HO hk1 c0 c1 c2 c3; have HO := Lib.hid l2; clear l2))
  generalize w2.heap.size = p7 at *
  clear AT
  go_upto_region 6 with (first | ((with_reducible show wpList _ _ _ ({ dst := _, op := Op.load 24 _, type := _, pos := _, after := _, guard := _ } :: _) _ _); refine wpList_ldr ty_tex rfl _ rfl _ rfl _ rfl (HO.out.at 3 rfl) ?_) | (go_at_call 9; (with_reducible refine (RC _ HO.out.k).mono ?_); rintro e wz ⟨rfl, hk1⟩; have l2 := HO.out.call hk1; clear HO hk1; have HO := Lib.hid l2; clear l2))
  go_upto_region 8 with (first | ((with_reducible show wpList _ _ _ ({ dst := _, op := Op.load 24 _, type := _, pos := _, after := _, guard := _ } :: _) _ _); refine wpList_ldr ty_tex rfl _ rfl _ rfl _ rfl (HO.out.at 3 rfl) ?_) | (go_at_call 10; (with_reducible refine (CK _ HO.out.k).mono ?_); rintro e wz ⟨rfl, hk1⟩; have l2 := HO.out.call hk1; clear HO hk1; have HO := Lib.hid l2; clear l2))
  clear RC CK
  have c0 := (HO.out.at 2 rfl).cell 0 rfl
  have c1 := (HO.out.at 2 rfl).cell 1 rfl
  have c2 := (HO.out.at 2 rfl).cell 2 rfl
  have c3 := (HO.out.at 2 rfl).cell 3 rfl
  go_upto_region 14 with go_big_skip
  clear c0 c1 c2 c3
  refine Rg.region (I := fun _ W => Ow w W [(p7, [.int .i64 (Tn.part px 0), .int .i64 (Tn.part px 1), .int .i64 (Tn.part px 2), .int .i64 (Tn.part px 3)]), (p5, [.int .i64 (F 0), .int .i64 (F 1), .int .i64 (F 2), .int .i64 (F 3)]), (w.heap.size + 1, [.int .i64 x, .int .i64 y, .int .i64 k, .bool s]), (w.heap.size, [.int .i64 n, .int .i64 m, .slice a l.length c])]) (dem := fun _ => false) (m := 14) (g := 0) (T := fun listed bs st => ∀ W, Ow w W [(p7, [.int .i64 (Tn.part px 0), .int .i64 (Tn.part px 1), .int .i64 (Tn.part px 2), .int .i64 (Tn.part px 3)]), (p5, [.int .i64 (F 0), .int .i64 (F 1), .int .i64 (F 2), .int .i64 (F 3)]), (w.heap.size + 1, [.int .i64 x, .int .i64 y, .int .i64 k, .bool s]), (w.heap.size, [.int .i64 n, .int .i64 m, .slice a l.length c])] → wpAny Try.prog .any _ _ 0 listed st W) (by kernel_rfl) HO.out.drew rfl (fun _ _ _ _ h hI => h _ hI) ?_
  clear HO
  refine Rg.take 0 (v := .int .i64 0) rfl rfl (by kernel_rfl) (by kernel_rfl) (by kernel_rfl) (by kernel_rfl) (by kernel_rfl) (.inl ⟨rfl, fun bs wq hI => ?_⟩) ?_
  · go_simp
  simp only [Act.put, List.getElem_toArray, List.getElem_cons_zero, List.getElem_cons_succ, List.setIfInBounds_toArray, List.set_cons_zero, List.set_cons_succ]
  refine Rg.take 1 (v := .bool false) rfl rfl (by kernel_rfl) (by kernel_rfl) (by kernel_rfl) (by kernel_rfl) (by kernel_rfl) (.inl ⟨rfl, fun bs wq hI => ?_⟩) ?_
  · go_simp
  simp only [Act.put, List.getElem_toArray, List.getElem_cons_zero, List.getElem_cons_succ, List.setIfInBounds_toArray, List.set_cons_zero, List.set_cons_succ]
  refine Rg.take 2 (v := .bool false) rfl rfl (by kernel_rfl) (by kernel_rfl) (by kernel_rfl) (by kernel_rfl) (by kernel_rfl) (.inl ⟨rfl, fun bs wq hI => ?_⟩) ?_
  · go_simp
  simp only [Act.put, List.getElem_toArray, List.getElem_cons_zero, List.getElem_cons_succ, List.setIfInBounds_toArray, List.set_cons_zero, List.set_cons_succ]
  refine Rg.take 3 (v := .agg #[.int .i64 (Tn.part px 0), .int .i64 (Tn.part px 1), .int .i64 (Tn.part px 2), .int .i64 (Tn.part px 3)]) rfl rfl (by kernel_rfl) (by kernel_rfl) (by kernel_rfl) (by kernel_rfl) (by kernel_rfl) (.inl ⟨rfl, fun bs wq hI => ?_⟩) ?_
  · exact quiet_ldr ty_color (.tmp 7) rfl rfl rfl (hI.at 0 rfl)
  simp only [Act.put, List.getElem_toArray, List.getElem_cons_zero, List.getElem_cons_succ, List.setIfInBounds_toArray, List.set_cons_zero, List.set_cons_succ]
  refine Rg.take 4 (v := .agg #[.int .i64 n, .int .i64 m, .slice a l.length c]) rfl rfl (by kernel_rfl) (by kernel_rfl) (by kernel_rfl) (by kernel_rfl) (by kernel_rfl) (.inl ⟨rfl, fun bs wq hI => ?_⟩) ?_
  · exact quiet_ldr ty_tex (.tmp 2) rfl rfl rfl (hI.at 3 rfl)
  simp only [Act.put, List.getElem_toArray, List.getElem_cons_zero, List.getElem_cons_succ, List.setIfInBounds_toArray, List.set_cons_zero, List.set_cons_succ]
  refine Rg.take 5 (v := .pointer (some ⟨w.heap.size + 1, 0, none⟩)) rfl rfl (by kernel_rfl) (by kernel_rfl) (by kernel_rfl) (by kernel_rfl) (by kernel_rfl) (.inl ⟨rfl, fun bs wq hI => ?_⟩) ?_
  · go_simp
  simp only [Act.put, List.getElem_toArray, List.getElem_cons_zero, List.getElem_cons_succ, List.setIfInBounds_toArray, List.set_cons_zero, List.set_cons_succ]
  refine Rg.take 6 (v := .int .i64 x) rfl rfl (by kernel_rfl) (by kernel_rfl) (by kernel_rfl) (by kernel_rfl) (by kernel_rfl) (.inl ⟨rfl, fun bs wq hI => ?_⟩) ?_
  · (have hc := (hI.at 2 rfl).cell 0 rfl; go_simp)
  simp only [Act.put, List.getElem_toArray, List.getElem_cons_zero, List.getElem_cons_succ, List.setIfInBounds_toArray, List.set_cons_zero, List.set_cons_succ]
  refine Rg.take 7 (v := .pointer (some ⟨w.heap.size + 1, 1, none⟩)) rfl rfl (by kernel_rfl) (by kernel_rfl) (by kernel_rfl) (by kernel_rfl) (by kernel_rfl) (.inl ⟨rfl, fun bs wq hI => ?_⟩) ?_
  · go_simp
  simp only [Act.put, List.getElem_toArray, List.getElem_cons_zero, List.getElem_cons_succ, List.setIfInBounds_toArray, List.set_cons_zero, List.set_cons_succ]
  refine Rg.take 8 (v := .int .i64 y) rfl rfl (by kernel_rfl) (by kernel_rfl) (by kernel_rfl) (by kernel_rfl) (by kernel_rfl) (.inl ⟨rfl, fun bs wq hI => ?_⟩) ?_
  · (have hc := (hI.at 2 rfl).cell 1 rfl; go_simp)
  simp only [Act.put, List.getElem_toArray, List.getElem_cons_zero, List.getElem_cons_succ, List.setIfInBounds_toArray, List.set_cons_zero, List.set_cons_succ]
  refine Rg.take 9 (v := .pointer (some ⟨w.heap.size + 1, 2, none⟩)) rfl rfl (by kernel_rfl) (by kernel_rfl) (by kernel_rfl) (by kernel_rfl) (by kernel_rfl) (.inl ⟨rfl, fun bs wq hI => ?_⟩) ?_
  · go_simp
  simp only [Act.put, List.getElem_toArray, List.getElem_cons_zero, List.getElem_cons_succ, List.setIfInBounds_toArray, List.set_cons_zero, List.set_cons_succ]
  refine Rg.take 10 (v := .int .i64 k) rfl rfl (by kernel_rfl) (by kernel_rfl) (by kernel_rfl) (by kernel_rfl) (by kernel_rfl) (.inl ⟨rfl, fun bs wq hI => ?_⟩) ?_
  · (have hc := (hI.at 2 rfl).cell 2 rfl; go_simp)
  simp only [Act.put, List.getElem_toArray, List.getElem_cons_zero, List.getElem_cons_succ, List.setIfInBounds_toArray, List.set_cons_zero, List.set_cons_succ]
  refine Rg.take 11 (v := .agg #[.int .i64 (Tn.part px 0), .int .i64 (Tn.part px 1), .int .i64 (Tn.part px 2), .int .i64 (Tn.part px 3)]) rfl rfl (by kernel_rfl) (by kernel_rfl) (by kernel_rfl) (by kernel_rfl) (by kernel_rfl) (.inl ⟨rfl, fun bs wq hI => ?_⟩) ?_
  · (go_simp; exact (RA _ hI.k).mono fun e w2 h => ⟨h.1, hI.call h.2⟩)
  simp only [Act.put, List.getElem_toArray, List.getElem_cons_zero, List.getElem_cons_succ, List.setIfInBounds_toArray, List.set_cons_zero, List.set_cons_succ]
  refine Rg.take 12 (v := .bool false) rfl rfl (by kernel_rfl) (by kernel_rfl) (by kernel_rfl) (by kernel_rfl) (by kernel_rfl) (.inl ⟨rfl, fun bs wq hI => ?_⟩) ?_
  · go_simp
  simp only [Act.put, List.getElem_toArray, List.getElem_cons_zero, List.getElem_cons_succ, List.setIfInBounds_toArray, List.set_cons_zero, List.set_cons_succ]
  refine Rg.take 13 (v := .bool false) rfl rfl (by kernel_rfl) (by kernel_rfl) (by kernel_rfl) (by kernel_rfl) (by kernel_rfl) (.inl ⟨rfl, fun bs wq hI => ?_⟩) ?_
  · go_simp
  simp only [Act.put, List.getElem_toArray, List.getElem_cons_zero, List.getElem_cons_succ, List.setIfInBounds_toArray, List.set_cons_zero, List.set_cons_succ]
  refine Rg.done (rs := []) (by kernel_rfl) (by decide) (fun W hI => ?_)
  have HO := Lib.hid hI
  clear hI
  refine wpAny_done (by kernel_rfl) ?_ _
  have c0 := (HO.out.at 2 rfl).cell 0 rfl
  have c1 := (HO.out.at 2 rfl).cell 1 rfl
  have c2 := (HO.out.at 2 rfl).cell 2 rfl
  have c3 := (HO.out.at 2 rfl).cell 3 rfl
  go_upto_region 18 with go_big_skip
  clear c0 c1 c2 c3
  refine Rg.region (I := fun _ W => Ow w W [(p7, [.int .i64 (Tn.part px 0), .int .i64 (Tn.part px 1), .int .i64 (Tn.part px 2), .int .i64 (Tn.part px 3)]), (p5, [.int .i64 (F 0), .int .i64 (F 1), .int .i64 (F 2), .int .i64 (F 3)]), (w.heap.size + 1, [.int .i64 x, .int .i64 y, .int .i64 k, .bool s]), (w.heap.size, [.int .i64 n, .int .i64 m, .slice a l.length c])]) (dem := fun _ => false) (m := 24) (g := 0) (T := fun listed bs st => ∀ W, Ow w W [(p7, [.int .i64 (Tn.part px 0), .int .i64 (Tn.part px 1), .int .i64 (Tn.part px 2), .int .i64 (Tn.part px 3)]), (p5, [.int .i64 (F 0), .int .i64 (F 1), .int .i64 (F 2), .int .i64 (F 3)]), (w.heap.size + 1, [.int .i64 x, .int .i64 y, .int .i64 k, .bool s]), (w.heap.size, [.int .i64 n, .int .i64 m, .slice a l.length c])] → wpAny Try.prog .any _ _ 0 listed st W) (by kernel_rfl) HO.out.drew rfl (fun _ _ _ _ h hI => h _ hI) ?_
  clear HO
  refine Rg.take 0 (v := .int .i64 0) rfl rfl (by kernel_rfl) (by kernel_rfl) (by kernel_rfl) (by kernel_rfl) (by kernel_rfl) (.inl ⟨rfl, fun bs wq hI => ?_⟩) ?_
  · go_simp
  simp only [Act.put, List.getElem_toArray, List.getElem_cons_zero, List.getElem_cons_succ, List.setIfInBounds_toArray, List.set_cons_zero, List.set_cons_succ]
  refine Rg.take 1 (v := .bool true) rfl rfl (by kernel_rfl) (by kernel_rfl) (by kernel_rfl) (by kernel_rfl) (by kernel_rfl) (.inl ⟨rfl, fun bs wq hI => ?_⟩) ?_
  · go_simp
  simp only [Act.put, List.getElem_toArray, List.getElem_cons_zero, List.getElem_cons_succ, List.setIfInBounds_toArray, List.set_cons_zero, List.set_cons_succ]
  refine Rg.take 2 (v := .bool true) rfl rfl (by kernel_rfl) (by kernel_rfl) (by kernel_rfl) (by kernel_rfl) (by kernel_rfl) (.inl ⟨rfl, fun bs wq hI => ?_⟩) ?_
  · go_simp
  simp only [Act.put, List.getElem_toArray, List.getElem_cons_zero, List.getElem_cons_succ, List.setIfInBounds_toArray, List.set_cons_zero, List.set_cons_succ]
  refine Rg.take 3 (v := .agg #[.int .i64 (F 0), .int .i64 (F 1), .int .i64 (F 2), .int .i64 (F 3)]) rfl rfl (by kernel_rfl) (by kernel_rfl) (by kernel_rfl) (by kernel_rfl) (by kernel_rfl) (.inl ⟨rfl, fun bs wq hI => ?_⟩) ?_
  · exact quiet_ldr ty_color (.tmp 5) rfl rfl rfl (hI.at 1 rfl)
  simp only [Act.put, List.getElem_toArray, List.getElem_cons_zero, List.getElem_cons_succ, List.setIfInBounds_toArray, List.set_cons_zero, List.set_cons_succ]
  refine Rg.take 4 (v := .agg #[.int .i64 n, .int .i64 m, .slice a l.length c]) rfl rfl (by kernel_rfl) (by kernel_rfl) (by kernel_rfl) (by kernel_rfl) (by kernel_rfl) (.inl ⟨rfl, fun bs wq hI => ?_⟩) ?_
  · exact quiet_ldr ty_tex (.tmp 2) rfl rfl rfl (hI.at 3 rfl)
  simp only [Act.put, List.getElem_toArray, List.getElem_cons_zero, List.getElem_cons_succ, List.setIfInBounds_toArray, List.set_cons_zero, List.set_cons_succ]
  refine Rg.take 5 (v := .pointer (some ⟨w.heap.size + 1, 0, none⟩)) rfl rfl (by kernel_rfl) (by kernel_rfl) (by kernel_rfl) (by kernel_rfl) (by kernel_rfl) (.inl ⟨rfl, fun bs wq hI => ?_⟩) ?_
  · go_simp
  simp only [Act.put, List.getElem_toArray, List.getElem_cons_zero, List.getElem_cons_succ, List.setIfInBounds_toArray, List.set_cons_zero, List.set_cons_succ]
  refine Rg.take 6 (v := .int .i64 x) rfl rfl (by kernel_rfl) (by kernel_rfl) (by kernel_rfl) (by kernel_rfl) (by kernel_rfl) (.inl ⟨rfl, fun bs wq hI => ?_⟩) ?_
  · (have hc := (hI.at 2 rfl).cell 0 rfl; go_simp)
  simp only [Act.put, List.getElem_toArray, List.getElem_cons_zero, List.getElem_cons_succ, List.setIfInBounds_toArray, List.set_cons_zero, List.set_cons_succ]
  refine Rg.take 7 (v := .pointer (some ⟨w.heap.size + 1, 1, none⟩)) rfl rfl (by kernel_rfl) (by kernel_rfl) (by kernel_rfl) (by kernel_rfl) (by kernel_rfl) (.inl ⟨rfl, fun bs wq hI => ?_⟩) ?_
  · go_simp
  simp only [Act.put, List.getElem_toArray, List.getElem_cons_zero, List.getElem_cons_succ, List.setIfInBounds_toArray, List.set_cons_zero, List.set_cons_succ]
  refine Rg.take 8 (v := .int .i64 y) rfl rfl (by kernel_rfl) (by kernel_rfl) (by kernel_rfl) (by kernel_rfl) (by kernel_rfl) (.inl ⟨rfl, fun bs wq hI => ?_⟩) ?_
  · (have hc := (hI.at 2 rfl).cell 1 rfl; go_simp)
  simp only [Act.put, List.getElem_toArray, List.getElem_cons_zero, List.getElem_cons_succ, List.setIfInBounds_toArray, List.set_cons_zero, List.set_cons_succ]
  refine Rg.take 9 (v := .pointer (some ⟨w.heap.size + 1, 2, none⟩)) rfl rfl (by kernel_rfl) (by kernel_rfl) (by kernel_rfl) (by kernel_rfl) (by kernel_rfl) (.inl ⟨rfl, fun bs wq hI => ?_⟩) ?_
  · go_simp
  simp only [Act.put, List.getElem_toArray, List.getElem_cons_zero, List.getElem_cons_succ, List.setIfInBounds_toArray, List.set_cons_zero, List.set_cons_succ]
  refine Rg.take 10 (v := .int .i64 k) rfl rfl (by kernel_rfl) (by kernel_rfl) (by kernel_rfl) (by kernel_rfl) (by kernel_rfl) (.inl ⟨rfl, fun bs wq hI => ?_⟩) ?_
  · (have hc := (hI.at 2 rfl).cell 2 rfl; go_simp)
  simp only [Act.put, List.getElem_toArray, List.getElem_cons_zero, List.getElem_cons_succ, List.setIfInBounds_toArray, List.set_cons_zero, List.set_cons_succ]
  refine Rg.take 11 (v := .pointer (some ⟨w.heap.size + 1, 3, none⟩)) rfl rfl (by kernel_rfl) (by kernel_rfl) (by kernel_rfl) (by kernel_rfl) (by kernel_rfl) (.inl ⟨rfl, fun bs wq hI => ?_⟩) ?_
  · go_simp
  simp only [Act.put, List.getElem_toArray, List.getElem_cons_zero, List.getElem_cons_succ, List.setIfInBounds_toArray, List.set_cons_zero, List.set_cons_succ]
  refine Rg.take 12 (v := .bool s) rfl rfl (by kernel_rfl) (by kernel_rfl) (by kernel_rfl) (by kernel_rfl) (by kernel_rfl) (.inl ⟨rfl, fun bs wq hI => ?_⟩) ?_
  · (have hc := (hI.at 2 rfl).cell 3 rfl; go_simp)
  simp only [Act.put, List.getElem_toArray, List.getElem_cons_zero, List.getElem_cons_succ, List.setIfInBounds_toArray, List.set_cons_zero, List.set_cons_succ]
  refine Rg.take 13 (v := .agg #[.int .i64 (F 0), .int .i64 (F 1), .int .i64 (F 2), .int .i64 (F 3)]) rfl rfl (by kernel_rfl) (by kernel_rfl) (by kernel_rfl) (by kernel_rfl) (by kernel_rfl) (.inl ⟨rfl, fun bs wq hI => ?_⟩) ?_
  · (go_simp; exact (RS _ hI.k).mono fun e w2 h => ⟨h.1, hI.call h.2⟩)
  simp only [Act.put, List.getElem_toArray, List.getElem_cons_zero, List.getElem_cons_succ, List.setIfInBounds_toArray, List.set_cons_zero, List.set_cons_succ]
  refine Rg.take 14 (v := .bool true) rfl rfl (by kernel_rfl) (by kernel_rfl) (by kernel_rfl) (by kernel_rfl) (by kernel_rfl) (.inl ⟨rfl, fun bs wq hI => ?_⟩) ?_
  · go_simp
  simp only [Act.put, List.getElem_toArray, List.getElem_cons_zero, List.getElem_cons_succ, List.setIfInBounds_toArray, List.set_cons_zero, List.set_cons_succ]
  refine Rg.take 15 (v := .bool true) rfl rfl (by kernel_rfl) (by kernel_rfl) (by kernel_rfl) (by kernel_rfl) (by kernel_rfl) (.inl ⟨rfl, fun bs wq hI => ?_⟩) ?_
  · go_simp
  simp only [Act.put, List.getElem_toArray, List.getElem_cons_zero, List.getElem_cons_succ, List.setIfInBounds_toArray, List.set_cons_zero, List.set_cons_succ]
  refine Rg.take 16 (v := .bool true) rfl rfl (by kernel_rfl) (by kernel_rfl) (by kernel_rfl) (by kernel_rfl) (by kernel_rfl) (.inl ⟨rfl, fun bs wq hI => ?_⟩) ?_
  · go_simp
  simp only [Act.put, List.getElem_toArray, List.getElem_cons_zero, List.getElem_cons_succ, List.setIfInBounds_toArray, List.set_cons_zero, List.set_cons_succ]
  refine Rg.take 17 (v := .agg #[.int .i64 (F 0), .int .i64 (F 1), .int .i64 (F 2), .int .i64 (F 3)]) rfl rfl (by kernel_rfl) (by kernel_rfl) (by kernel_rfl) (by kernel_rfl) (by kernel_rfl) (.inl ⟨rfl, fun bs wq hI => ?_⟩) ?_
  · exact quiet_ldr ty_color (.tmp 5) rfl rfl rfl (hI.at 1 rfl)
  simp only [Act.put, List.getElem_toArray, List.getElem_cons_zero, List.getElem_cons_succ, List.setIfInBounds_toArray, List.set_cons_zero, List.set_cons_succ]
  refine Rg.take 18 (v := .bool true) rfl rfl (by kernel_rfl) (by kernel_rfl) (by kernel_rfl) (by kernel_rfl) (by kernel_rfl) (.inl ⟨rfl, fun bs wq hI => ?_⟩) ?_
  · (go_simp; exact (RR _).mono fun e w2 h => ⟨h.1, hI.call h.2⟩)
  simp only [Act.put, List.getElem_toArray, List.getElem_cons_zero, List.getElem_cons_succ, List.setIfInBounds_toArray, List.set_cons_zero, List.set_cons_succ]
  refine Rg.take 19 (v := .bool true) rfl rfl (by kernel_rfl) (by kernel_rfl) (by kernel_rfl) (by kernel_rfl) (by kernel_rfl) (.inl ⟨rfl, fun bs wq hI => ?_⟩) ?_
  · go_simp
  simp only [Act.put, List.getElem_toArray, List.getElem_cons_zero, List.getElem_cons_succ, List.setIfInBounds_toArray, List.set_cons_zero, List.set_cons_succ]
  refine Rg.take 20 (v := .bool true) rfl rfl (by kernel_rfl) (by kernel_rfl) (by kernel_rfl) (by kernel_rfl) (by kernel_rfl) (.inl ⟨rfl, fun bs wq hI => ?_⟩) ?_
  · go_simp
  simp only [Act.put, List.getElem_toArray, List.getElem_cons_zero, List.getElem_cons_succ, List.setIfInBounds_toArray, List.set_cons_zero, List.set_cons_succ]
  refine Rg.take 21 (v := .bool true) rfl rfl (by kernel_rfl) (by kernel_rfl) (by kernel_rfl) (by kernel_rfl) (by kernel_rfl) (.inl ⟨rfl, fun bs wq hI => ?_⟩) ?_
  · (go_simp; exact (awake_any _).mono fun e w2 h => ⟨h.1, h.2 ▸ hI⟩)
  simp only [Act.put, List.getElem_toArray, List.getElem_cons_zero, List.getElem_cons_succ, List.setIfInBounds_toArray, List.set_cons_zero, List.set_cons_succ]
  refine Rg.take 22 (v := .bool true) rfl rfl (by kernel_rfl) (by kernel_rfl) (by kernel_rfl) (by kernel_rfl) (by kernel_rfl) (.inl ⟨rfl, fun bs wq hI => ?_⟩) ?_
  · go_simp
  simp only [Act.put, List.getElem_toArray, List.getElem_cons_zero, List.getElem_cons_succ, List.setIfInBounds_toArray, List.set_cons_zero, List.set_cons_succ]
  refine Rg.take 23 (v := .bool true) rfl rfl (by kernel_rfl) (by kernel_rfl) (by kernel_rfl) (by kernel_rfl) (by kernel_rfl) (.inl ⟨rfl, fun bs wq hI => ?_⟩) ?_
  · go_simp
  simp only [Act.put, List.getElem_toArray, List.getElem_cons_zero, List.getElem_cons_succ, List.setIfInBounds_toArray, List.set_cons_zero, List.set_cons_succ]
  refine Rg.done (rs := []) (by kernel_rfl) (by decide) (fun W hI => ?_)
  have HO := Lib.hid hI
  clear hI
  refine wpAny_done (by kernel_rfl) ?_ _
  go_wp2_with fail
  go_ret
  exact ⟨rfl, HO.out.k⟩
set_option linter.unusedSimpArgs false in
set_option maxRecDepth 100000 in
set_option maxHeartbeats 8000000 in
theorem samples_walk (n m : Int) (t : Value) (l : List Int) (x y k : Int) (s : Bool) (w : World) (hS : Sl w t (iv l)) (hi : Tx.ints l) :
    Calls Try.prog 3 #[.agg #[.int .i64 n, .int .i64 m, t], .agg #[.int .i64 x, .int .i64 y, .int .i64 k, .bool s]] w fun e w' => e = .returned (.bool true) ∧ Kp w.heap.size w w' := by
  obtain ⟨a, c, rfl, -, -⟩ := hS.parts
  rw [iv_len] at hS ⊢
  by_cases hl : l.length ≤ 5000
  · by_cases hc : Tx.chk n m l = 0
    · cases hk : Tx.is k
      · exact samples_kind n m x y k s l a c w hS hi hl hc hk
      · cases h1 : Tx.within 1048576 x
        · exact samples_out n m x y k s l a c w hS hi hl hc hk (by rw [h1]; rfl)
        · cases h2 : Tx.within 1048576 y
          · exact samples_out n m x y k s l a c w hS hi hl hc hk (by rw [h1, h2]; rfl)
          · cases h3 : Tx.within 65536 x
            · exact samples_far n m x y k s l a c w hS hi hl hc hk h1 h2 (by rw [h3]; rfl)
            · cases h4 : Tx.within 65536 y
              · exact samples_far n m x y k s l a c w hS hi hl hc hk h1 h2 (by rw [h3, h4]; rfl)
              · exact samples_in n m x y k s l a c w hS hi hl hc hk h3 h4
    · exact samples_chk n m x y k s l a c w hS hi hl hc
  · have z1 : (5000 : Int) < (l.length : Int) := by omega
    clear hS hi hl
    have HO := Lib.hid (((Ow.refl w).newAt w.heap.size rfl (.int .i64 n) [.int .i64 m, .slice a l.length c] 24).newAt (w.heap.size + 1) (by simp) (.int .i64 x) [.int .i64 y, .int .i64 k, .bool s] 26)
    have t2 := (HO.out.at 1 rfl).cell 2 rfl
    go_enter Try.func3, Try.ntmps3
    go_wp2_with (go_at_call 6; refine (awake_any _).mono ?_; rintro e w' ⟨rfl, rfl⟩)
    go_ret
    exact ⟨rfl, HO.out.k⟩
end Go.Proofs.Ytbhpjklomnjkfaa
