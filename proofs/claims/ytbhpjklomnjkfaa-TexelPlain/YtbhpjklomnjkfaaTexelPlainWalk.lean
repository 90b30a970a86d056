/-
  TexelPlain: its Go text returns true.
-/
import Derived.Test.YtbhpjklomnjkfaaTexSample
import Derived.Test.YtbhpjklomnjkfaaTexRef2
import Derived.Test.YtbhpjklomnjkfaaTintEq
import Derived.Test.YtbhpjklomnjkfaaTexRows
import Derived.BigGuard
namespace Go.Proofs.Ytbhpjklomnjkfaa
open Go.RowKit

set_option linter.unusedSimpArgs false in
set_option maxRecDepth 100000 in
set_option maxHeartbeats 8000000 in
theorem plain_out (n m x y k q : Int) (s : Bool) (l : List Int) (a : Option Addr) (c : Nat) (w : World) (hS : Sl w (.slice a l.length c) (iv l)) (hx : 5000 < l.length ∨ (¬ 5000 < l.length ∧ (Tx.chk n m l ≠ 0 ∨ Tx.chk n m l = 0 ∧ (k < 0 ∨ ¬ k < 0 ∧ 2 < k ∨ ¬ k < 0 ∧ ¬ 2 < k ∧ x < -60000 ∨ ¬ k < 0 ∧ ¬ 2 < k ∧ ¬ x < -60000 ∧ 60000 < x ∨ ¬ k < 0 ∧ ¬ 2 < k ∧ ¬ x < -60000 ∧ ¬ 60000 < x ∧ y < -60000 ∨ ¬ k < 0 ∧ ¬ 2 < k ∧ ¬ x < -60000 ∧ ¬ 60000 < x ∧ ¬ y < -60000 ∧ 60000 < y)))) :
    Calls Try.prog 4 #[.agg #[.int .i64 n, .int .i64 m, .slice a l.length c], .agg #[.int .i64 x, .int .i64 y, .int .i64 k, .bool s], .int .i64 q] w fun e w' => e = .returned (.bool true) ∧ Below w.heap.size w w' := by
  have RC := fun U (hk2 : Kp w.heap.size w U) => rcheck_any n m l _ U (hS.next hk2)
  clear hS
  rcases hx with hl | ⟨hl, hx⟩
  · have z1 : (5000 : Int) < (l.length : Int) := by omega
    clear hl RC
    have HO := Lib.hid (((Ow.refl w).newAt w.heap.size rfl (.int .i64 n) [.int .i64 m, .slice a l.length c] 24).newAt (w.heap.size + 1) (by simp) (.int .i64 x) [.int .i64 y, .int .i64 k, .bool s] 26)
    have t2 := (HO.out.at 1 rfl).cell 2 rfl
    have c0 := (HO.out.at 0 rfl).cell 0 rfl
    have c1 := (HO.out.at 0 rfl).cell 1 rfl
    have c2 := (HO.out.at 0 rfl).cell 2 rfl
    have c3 := (HO.out.at 0 rfl).cell 3 rfl
    go_enter Try.func4, Try.ntmps4
    go_wp2_with (first | go_big_skip | (go_at_call 6; refine (awake_any _).mono ?_; rintro e w' ⟨rfl, rfl⟩))
    go_ret
    exact ⟨rfl, HO.out.k.below⟩
  have z1 : decide ((5000 : Int) < (l.length : Int)) = false := decide_eq_false (by omega)
  clear hl
  rcases hx with hc | ⟨hc, hx⟩
  · have g2 : (Tx.chk n m l != 0) = true := by simpa using hc
    generalize Tx.chk n m l = e0 at *
    clear hc
    have HO := Lib.hid (((Ow.refl w).newAt w.heap.size rfl (.int .i64 n) [.int .i64 m, .slice a l.length c] 24).newAt (w.heap.size + 1) (by simp) (.int .i64 x) [.int .i64 y, .int .i64 k, .bool s] 26)
    have t2 := (HO.out.at 1 rfl).cell 2 rfl
    have c0 := (HO.out.at 0 rfl).cell 0 rfl
    have c1 := (HO.out.at 0 rfl).cell 1 rfl
    have c2 := (HO.out.at 0 rfl).cell 2 rfl
    have c3 := (HO.out.at 0 rfl).cell 3 rfl
    go_enter Try.func4, Try.ntmps4
    go_wp2_with (first | go_big_skip | ((with_reducible show wpList _ _ _ ({ dst := _, op := Op.load 24 _, type := _, pos := _, after := _, guard := _ } :: _) _ _); refine wpList_ldr ty_tex rfl _ rfl _ rfl _ rfl (HO.out.at 1 rfl) ?_) | (go_at_call 9; (with_reducible refine (RC _ HO.out.k).mono ?_); rintro e wz ⟨rfl, hk1⟩; have l2 := HO.out.call hk1; clear HO hk1 c0 c1 c2 c3 t2; have HO := Lib.hid l2; clear l2; have c0 := (HO.out.at 0 rfl).cell 0 rfl; have c1 := (HO.out.at 0 rfl).cell 1 rfl; have c2 := (HO.out.at 0 rfl).cell 2 rfl; have c3 := (HO.out.at 0 rfl).cell 3 rfl) | (go_at_call 6; refine (awake_any _).mono ?_; rintro e w' ⟨rfl, rfl⟩))
    go_ret
    exact ⟨rfl, HO.out.k.below⟩
  rw [hc] at RC
  clear hc
  rcases hx with h1 | ⟨h1, h2⟩ | ⟨h1, h2, h3⟩ | ⟨h1, h2, h3, h4⟩ | ⟨h1, h2, h3, h4, h5⟩ | ⟨h1, h2, h3, h4, h5, h6⟩
  · have q1 : decide (k < 0) = true := decide_eq_true h1
    clear h1
    have HO := Lib.hid (((Ow.refl w).newAt w.heap.size rfl (.int .i64 n) [.int .i64 m, .slice a l.length c] 24).newAt (w.heap.size + 1) (by simp) (.int .i64 x) [.int .i64 y, .int .i64 k, .bool s] 26)
    have t2 := (HO.out.at 1 rfl).cell 2 rfl
    have c0 := (HO.out.at 0 rfl).cell 0 rfl
    have c1 := (HO.out.at 0 rfl).cell 1 rfl
    have c2 := (HO.out.at 0 rfl).cell 2 rfl
    have c3 := (HO.out.at 0 rfl).cell 3 rfl
    go_enter Try.func4, Try.ntmps4
    go_wp2_with (first | go_big_skip | ((with_reducible show wpList _ _ _ ({ dst := _, op := Op.load 24 _, type := _, pos := _, after := _, guard := _ } :: _) _ _); refine wpList_ldr ty_tex rfl _ rfl _ rfl _ rfl (HO.out.at 1 rfl) ?_) | (go_at_call 9; (with_reducible refine (RC _ HO.out.k).mono ?_); rintro e wz ⟨rfl, hk1⟩; have l2 := HO.out.call hk1; clear HO hk1 c0 c1 c2 c3 t2; have HO := Lib.hid l2; clear l2; have c0 := (HO.out.at 0 rfl).cell 0 rfl; have c1 := (HO.out.at 0 rfl).cell 1 rfl; have c2 := (HO.out.at 0 rfl).cell 2 rfl; have c3 := (HO.out.at 0 rfl).cell 3 rfl) | (go_at_call 6; refine (awake_any _).mono ?_; rintro e w' ⟨rfl, rfl⟩))
    go_ret
    exact ⟨rfl, HO.out.k.below⟩
  · have q1 : decide (k < 0) = false := decide_eq_false h1
    have q2 : decide (2 < k) = true := decide_eq_true h2
    clear h1 h2
    have HO := Lib.hid (((Ow.refl w).newAt w.heap.size rfl (.int .i64 n) [.int .i64 m, .slice a l.length c] 24).newAt (w.heap.size + 1) (by simp) (.int .i64 x) [.int .i64 y, .int .i64 k, .bool s] 26)
    have t2 := (HO.out.at 1 rfl).cell 2 rfl
    have c0 := (HO.out.at 0 rfl).cell 0 rfl
    have c1 := (HO.out.at 0 rfl).cell 1 rfl
    have c2 := (HO.out.at 0 rfl).cell 2 rfl
    have c3 := (HO.out.at 0 rfl).cell 3 rfl
    go_enter Try.func4, Try.ntmps4
    go_wp2_with (first | go_big_skip | ((with_reducible show wpList _ _ _ ({ dst := _, op := Op.load 24 _, type := _, pos := _, after := _, guard := _ } :: _) _ _); refine wpList_ldr ty_tex rfl _ rfl _ rfl _ rfl (HO.out.at 1 rfl) ?_) | (go_at_call 9; (with_reducible refine (RC _ HO.out.k).mono ?_); rintro e wz ⟨rfl, hk1⟩; have l2 := HO.out.call hk1; clear HO hk1 c0 c1 c2 c3 t2; have HO := Lib.hid l2; clear l2; have c0 := (HO.out.at 0 rfl).cell 0 rfl; have c1 := (HO.out.at 0 rfl).cell 1 rfl; have c2 := (HO.out.at 0 rfl).cell 2 rfl; have c3 := (HO.out.at 0 rfl).cell 3 rfl) | (go_at_call 6; refine (awake_any _).mono ?_; rintro e w' ⟨rfl, rfl⟩))
    go_ret
    exact ⟨rfl, HO.out.k.below⟩
  · have q1 : decide (k < 0) = false := decide_eq_false h1
    have q2 : decide (2 < k) = false := decide_eq_false h2
    have q3 : decide (x < -60000) = true := decide_eq_true h3
    clear h1 h2 h3
    have HO := Lib.hid (((Ow.refl w).newAt w.heap.size rfl (.int .i64 n) [.int .i64 m, .slice a l.length c] 24).newAt (w.heap.size + 1) (by simp) (.int .i64 x) [.int .i64 y, .int .i64 k, .bool s] 26)
    have t2 := (HO.out.at 1 rfl).cell 2 rfl
    have c0 := (HO.out.at 0 rfl).cell 0 rfl
    have c1 := (HO.out.at 0 rfl).cell 1 rfl
    have c2 := (HO.out.at 0 rfl).cell 2 rfl
    have c3 := (HO.out.at 0 rfl).cell 3 rfl
    go_enter Try.func4, Try.ntmps4
    go_wp2_with (first | go_big_skip | ((with_reducible show wpList _ _ _ ({ dst := _, op := Op.load 24 _, type := _, pos := _, after := _, guard := _ } :: _) _ _); refine wpList_ldr ty_tex rfl _ rfl _ rfl _ rfl (HO.out.at 1 rfl) ?_) | (go_at_call 9; (with_reducible refine (RC _ HO.out.k).mono ?_); rintro e wz ⟨rfl, hk1⟩; have l2 := HO.out.call hk1; clear HO hk1 c0 c1 c2 c3 t2; have HO := Lib.hid l2; clear l2; have c0 := (HO.out.at 0 rfl).cell 0 rfl; have c1 := (HO.out.at 0 rfl).cell 1 rfl; have c2 := (HO.out.at 0 rfl).cell 2 rfl; have c3 := (HO.out.at 0 rfl).cell 3 rfl) | (go_at_call 6; refine (awake_any _).mono ?_; rintro e w' ⟨rfl, rfl⟩))
    go_ret
    exact ⟨rfl, HO.out.k.below⟩
  · have q1 : decide (k < 0) = false := decide_eq_false h1
    have q2 : decide (2 < k) = false := decide_eq_false h2
    have q3 : decide (x < -60000) = false := decide_eq_false h3
    have q4 : decide (60000 < x) = true := decide_eq_true h4
    clear h1 h2 h3 h4
    have HO := Lib.hid (((Ow.refl w).newAt w.heap.size rfl (.int .i64 n) [.int .i64 m, .slice a l.length c] 24).newAt (w.heap.size + 1) (by simp) (.int .i64 x) [.int .i64 y, .int .i64 k, .bool s] 26)
    have t2 := (HO.out.at 1 rfl).cell 2 rfl
    have c0 := (HO.out.at 0 rfl).cell 0 rfl
    have c1 := (HO.out.at 0 rfl).cell 1 rfl
    have c2 := (HO.out.at 0 rfl).cell 2 rfl
    have c3 := (HO.out.at 0 rfl).cell 3 rfl
    go_enter Try.func4, Try.ntmps4
    go_wp2_with (first | go_big_skip | ((with_reducible show wpList _ _ _ ({ dst := _, op := Op.load 24 _, type := _, pos := _, after := _, guard := _ } :: _) _ _); refine wpList_ldr ty_tex rfl _ rfl _ rfl _ rfl (HO.out.at 1 rfl) ?_) | (go_at_call 9; (with_reducible refine (RC _ HO.out.k).mono ?_); rintro e wz ⟨rfl, hk1⟩; have l2 := HO.out.call hk1; clear HO hk1 c0 c1 c2 c3 t2; have HO := Lib.hid l2; clear l2; have c0 := (HO.out.at 0 rfl).cell 0 rfl; have c1 := (HO.out.at 0 rfl).cell 1 rfl; have c2 := (HO.out.at 0 rfl).cell 2 rfl; have c3 := (HO.out.at 0 rfl).cell 3 rfl) | (go_at_call 6; refine (awake_any _).mono ?_; rintro e w' ⟨rfl, rfl⟩))
    go_ret
    exact ⟨rfl, HO.out.k.below⟩
  · have q1 : decide (k < 0) = false := decide_eq_false h1
    have q2 : decide (2 < k) = false := decide_eq_false h2
    have q3 : decide (x < -60000) = false := decide_eq_false h3
    have q4 : decide (60000 < x) = false := decide_eq_false h4
    have q5 : decide (y < -60000) = true := decide_eq_true h5
    clear h1 h2 h3 h4 h5
    have HO := Lib.hid (((Ow.refl w).newAt w.heap.size rfl (.int .i64 n) [.int .i64 m, .slice a l.length c] 24).newAt (w.heap.size + 1) (by simp) (.int .i64 x) [.int .i64 y, .int .i64 k, .bool s] 26)
    have t2 := (HO.out.at 1 rfl).cell 2 rfl
    have c0 := (HO.out.at 0 rfl).cell 0 rfl
    have c1 := (HO.out.at 0 rfl).cell 1 rfl
    have c2 := (HO.out.at 0 rfl).cell 2 rfl
    have c3 := (HO.out.at 0 rfl).cell 3 rfl
    go_enter Try.func4, Try.ntmps4
    go_wp2_with (first | go_big_skip | ((with_reducible show wpList _ _ _ ({ dst := _, op := Op.load 24 _, type := _, pos := _, after := _, guard := _ } :: _) _ _); refine wpList_ldr ty_tex rfl _ rfl _ rfl _ rfl (HO.out.at 1 rfl) ?_) | (go_at_call 9; (with_reducible refine (RC _ HO.out.k).mono ?_); rintro e wz ⟨rfl, hk1⟩; have l2 := HO.out.call hk1; clear HO hk1 c0 c1 c2 c3 t2; have HO := Lib.hid l2; clear l2; have c0 := (HO.out.at 0 rfl).cell 0 rfl; have c1 := (HO.out.at 0 rfl).cell 1 rfl; have c2 := (HO.out.at 0 rfl).cell 2 rfl; have c3 := (HO.out.at 0 rfl).cell 3 rfl) | (go_at_call 6; refine (awake_any _).mono ?_; rintro e w' ⟨rfl, rfl⟩))
    go_ret
    exact ⟨rfl, HO.out.k.below⟩
  · have q1 : decide (k < 0) = false := decide_eq_false h1
    have q2 : decide (2 < k) = false := decide_eq_false h2
    have q3 : decide (x < -60000) = false := decide_eq_false h3
    have q4 : decide (60000 < x) = false := decide_eq_false h4
    have q5 : decide (y < -60000) = false := decide_eq_false h5
    have q6 : decide (60000 < y) = true := decide_eq_true h6
    clear h1 h2 h3 h4 h5 h6
    have HO := Lib.hid (((Ow.refl w).newAt w.heap.size rfl (.int .i64 n) [.int .i64 m, .slice a l.length c] 24).newAt (w.heap.size + 1) (by simp) (.int .i64 x) [.int .i64 y, .int .i64 k, .bool s] 26)
    have t2 := (HO.out.at 1 rfl).cell 2 rfl
    have c0 := (HO.out.at 0 rfl).cell 0 rfl
    have c1 := (HO.out.at 0 rfl).cell 1 rfl
    have c2 := (HO.out.at 0 rfl).cell 2 rfl
    have c3 := (HO.out.at 0 rfl).cell 3 rfl
    go_enter Try.func4, Try.ntmps4
    go_wp2_with (first | go_big_skip | ((with_reducible show wpList _ _ _ ({ dst := _, op := Op.load 24 _, type := _, pos := _, after := _, guard := _ } :: _) _ _); refine wpList_ldr ty_tex rfl _ rfl _ rfl _ rfl (HO.out.at 1 rfl) ?_) | (go_at_call 9; (with_reducible refine (RC _ HO.out.k).mono ?_); rintro e wz ⟨rfl, hk1⟩; have l2 := HO.out.call hk1; clear HO hk1 c0 c1 c2 c3 t2; have HO := Lib.hid l2; clear l2; have c0 := (HO.out.at 0 rfl).cell 0 rfl; have c1 := (HO.out.at 0 rfl).cell 1 rfl; have c2 := (HO.out.at 0 rfl).cell 2 rfl; have c3 := (HO.out.at 0 rfl).cell 3 rfl) | (go_at_call 6; refine (awake_any _).mono ?_; rintro e w' ⟨rfl, rfl⟩))
    go_ret
    exact ⟨rfl, HO.out.k.below⟩
set_option linter.unusedSimpArgs false in
set_option maxRecDepth 100000 in
set_option maxHeartbeats 8000000 in
theorem plain_no (n m x y k q : Int) (s : Bool) (l : List Int) (a : Option Addr) (c : Nat) (w : World) (hS : Sl w (.slice a l.length c) (iv l)) (hi : Tx.ints l) (hl : l.length ≤ 5000) (hc : Tx.chk n m l = 0) (hk : Tx.is k = true) (hx : -60000 ≤ x ∧ x ≤ 60000) (hy : -60000 ≤ y ∧ y ≤ 60000) (hq : q < 0 ∨ 4294967295 < q) :
    Calls Try.prog 4 #[.agg #[.int .i64 n, .int .i64 m, .slice a l.length c], .agg #[.int .i64 x, .int .i64 y, .int .i64 k, .bool s], .int .i64 q] w fun e w' => e = .returned (.bool true) ∧ Below w.heap.size w w' := by
  have U1 := fun U => runpack_no q U hq
  have RC := fun U (hk2 : Kp w.heap.size w U) => rcheck_any n m l _ U (hS.next hk2)
  rw [hc] at RC
  have z1 : decide ((5000 : Int) < (l.length : Int)) = false := decide_eq_false (by omega)
  have q1 : decide (k < 0) = false := decide_eq_false (by have := Tx.is_iff.1 hk; omega)
  have q2 : decide (2 < k) = false := decide_eq_false (by have := Tx.is_iff.1 hk; omega)
  have q3 : decide (x < -60000) = false := decide_eq_false (by omega)
  have q4 : decide (60000 < x) = false := decide_eq_false (by omega)
  have q5 : decide (y < -60000) = false := decide_eq_false (by omega)
  have q6 : decide (60000 < y) = false := decide_eq_false (by omega)
  have F1 := fun U => rfloor_pos x 256 U (by omega) (by omega)
  have F2 := fun U => rfloor_pos y 256 U (by omega) (by omega)
  obtain ⟨x1, x2⟩ : -250 ≤ x / 256 ∧ x / 256 ≤ 250 := by omega
  obtain ⟨y1, y2⟩ : -250 ≤ y / 256 ∧ y / 256 ≤ 250 := by omega
  generalize x / 256 = X at *
  generalize y / 256 = Y at *
  have V1 := Lib.hid (show IntKind.i64.wrap (256 * X) = 256 * X by rw [IntKind.wrap_i64]; omega)
  have V2 := Lib.hid (show IntKind.i64.wrap (256 * X + 128) = 256 * X + 128 by rw [IntKind.wrap_i64]; omega)
  have V3 := Lib.hid (show IntKind.i64.wrap (256 * Y) = 256 * Y by rw [IntKind.wrap_i64]; omega)
  have V4 := Lib.hid (show IntKind.i64.wrap (256 * Y + 128) = 256 * Y + 128 by rw [IntKind.wrap_i64]; omega)
  have SA := fun U (hk2 : Kp w.heap.size w U) => sample_yes n m (256 * X + 128) (256 * Y + 128) k true l _ U (hS.next hk2) hi hc hk (by omega) (by omega)
  have SB := fun U (hk2 : Kp w.heap.size w U) => sample_yes n m (256 * X + 128) (256 * Y + 128) k false l _ U (hS.next hk2) hi hc hk (by omega) (by omega)
  simp only [Tx.middle] at SA
  have hE := run_eqC_same
  generalize Tx.smp n m l (256 * X + 128) (256 * Y + 128) k false = M at *
  have HO := Lib.hid (((Ow.refl w).newAt w.heap.size rfl (.int .i64 n) [.int .i64 m, .slice a l.length c] 24).newAt (w.heap.size + 1) (by simp) (.int .i64 x) [.int .i64 y, .int .i64 k, .bool s] 26)
  have t2 := (HO.out.at 1 rfl).cell 2 rfl
  have c0 := (HO.out.at 0 rfl).cell 0 rfl
  have c1 := (HO.out.at 0 rfl).cell 1 rfl
  have c2 := (HO.out.at 0 rfl).cell 2 rfl
  have c3 := (HO.out.at 0 rfl).cell 3 rfl
  clear hS hi hl hc hk hx hy hq
  go_enter Try.func4, Try.ntmps4
  go_upto_region 3 with (first | go_big_skip | ((with_reducible show wpList _ _ _ ({ dst := _, op := Op.load 24 _, type := _, pos := _, after := _, guard := _ } :: _) _ _); refine wpList_ldr ty_tex rfl _ rfl _ rfl _ rfl (HO.out.at 1 rfl) ?_) | (go_at_call 9; (with_reducible refine (RC _ HO.out.k).mono ?_); rintro e wz ⟨rfl, hk1⟩; have l2 := HO.out.call hk1; clear HO hk1 c0 c1 c2 c3 t2; have HO := Lib.hid l2; clear l2; have c0 := (HO.out.at 0 rfl).cell 0 rfl; have c1 := (HO.out.at 0 rfl).cell 1 rfl; have c2 := (HO.out.at 0 rfl).cell 2 rfl; have c3 := (HO.out.at 0 rfl).cell 3 rfl) | (go_at_call 6; refine (awake_any _).mono ?_; rintro e w' ⟨rfl, rfl⟩))
  clear c0 c1 c2 c3 q1 q2 q3 q4 q5 q6 z1 RC
  refine Rg.region (I := fun _ W => Ow w W [(w.heap.size + 1, [.int .i64 x, .int .i64 y, .int .i64 k, .bool s]), (w.heap.size, [.int .i64 n, .int .i64 m, .slice a l.length c])]) (dem := fun _ => false) (m := 12) (g := 0) (T := fun listed bs st => ∀ W, Ow w W [(w.heap.size + 1, [.int .i64 x, .int .i64 y, .int .i64 k, .bool s]), (w.heap.size, [.int .i64 n, .int .i64 m, .slice a l.length c])] → wpAny Try.prog .any _ _ 0 listed st W) (by kernel_rfl) HO.out.drew rfl (fun _ _ _ _ h hI => h _ hI) ?_
  clear HO
  refine Rg.take 0 (v := .pointer (some ⟨w.heap.size + 1, 0, none⟩)) rfl rfl (by kernel_rfl) (by kernel_rfl) (by kernel_rfl) (by kernel_rfl) (by kernel_rfl) (.inl ⟨rfl, fun bs wq hI => ?_⟩) ?_
  · go_simp
  simp only [Act.put, List.getElem_toArray, List.getElem_cons_zero, List.getElem_cons_succ, List.setIfInBounds_toArray, List.set_cons_zero, List.set_cons_succ]
  refine Rg.take 1 (v := .int .i64 x) rfl rfl (by kernel_rfl) (by kernel_rfl) (by kernel_rfl) (by kernel_rfl) (by kernel_rfl) (.inl ⟨rfl, fun bs wq hI => ?_⟩) ?_
  · (have hc := (hI.at 0 rfl).cell 0 rfl; go_simp)
  simp only [Act.put, List.getElem_toArray, List.getElem_cons_zero, List.getElem_cons_succ, List.setIfInBounds_toArray, List.set_cons_zero, List.set_cons_succ]
  refine Rg.take 2 (v := .int .i64 X) rfl rfl (by kernel_rfl) (by kernel_rfl) (by kernel_rfl) (by kernel_rfl) (by kernel_rfl) (.inl ⟨rfl, fun bs wq hI => ?_⟩) ?_
  · (go_simp; exact (F1 _).mono fun e w2 h => ⟨h.1, h.2 ▸ hI⟩)
  simp only [Act.put, List.getElem_toArray, List.getElem_cons_zero, List.getElem_cons_succ, List.setIfInBounds_toArray, List.set_cons_zero, List.set_cons_succ]
  refine Rg.take 3 (v := .int .i64 (256 * X)) rfl rfl (by kernel_rfl) (by kernel_rfl) (by kernel_rfl) (by kernel_rfl) (by kernel_rfl) (.inl ⟨rfl, fun bs wq hI => ?_⟩) ?_
  · (go_simp <;> exact V1.out)
  simp only [Act.put, List.getElem_toArray, List.getElem_cons_zero, List.getElem_cons_succ, List.setIfInBounds_toArray, List.set_cons_zero, List.set_cons_succ]
  refine Rg.take 4 (v := .int .i64 (256 * X + 128)) rfl rfl (by kernel_rfl) (by kernel_rfl) (by kernel_rfl) (by kernel_rfl) (by kernel_rfl) (.inl ⟨rfl, fun bs wq hI => ?_⟩) ?_
  · (go_simp <;> exact V2.out)
  simp only [Act.put, List.getElem_toArray, List.getElem_cons_zero, List.getElem_cons_succ, List.setIfInBounds_toArray, List.set_cons_zero, List.set_cons_succ]
  refine Rg.take 5 (v := .pointer (some ⟨w.heap.size + 1, 1, none⟩)) rfl rfl (by kernel_rfl) (by kernel_rfl) (by kernel_rfl) (by kernel_rfl) (by kernel_rfl) (.inl ⟨rfl, fun bs wq hI => ?_⟩) ?_
  · go_simp
  simp only [Act.put, List.getElem_toArray, List.getElem_cons_zero, List.getElem_cons_succ, List.setIfInBounds_toArray, List.set_cons_zero, List.set_cons_succ]
  refine Rg.take 6 (v := .int .i64 y) rfl rfl (by kernel_rfl) (by kernel_rfl) (by kernel_rfl) (by kernel_rfl) (by kernel_rfl) (.inl ⟨rfl, fun bs wq hI => ?_⟩) ?_
  · (have hc := (hI.at 0 rfl).cell 1 rfl; go_simp)
  simp only [Act.put, List.getElem_toArray, List.getElem_cons_zero, List.getElem_cons_succ, List.setIfInBounds_toArray, List.set_cons_zero, List.set_cons_succ]
  refine Rg.take 7 (v := .int .i64 Y) rfl rfl (by kernel_rfl) (by kernel_rfl) (by kernel_rfl) (by kernel_rfl) (by kernel_rfl) (.inl ⟨rfl, fun bs wq hI => ?_⟩) ?_
  · (go_simp; exact (F2 _).mono fun e w2 h => ⟨h.1, h.2 ▸ hI⟩)
  simp only [Act.put, List.getElem_toArray, List.getElem_cons_zero, List.getElem_cons_succ, List.setIfInBounds_toArray, List.set_cons_zero, List.set_cons_succ]
  refine Rg.take 8 (v := .int .i64 (256 * Y)) rfl rfl (by kernel_rfl) (by kernel_rfl) (by kernel_rfl) (by kernel_rfl) (by kernel_rfl) (.inl ⟨rfl, fun bs wq hI => ?_⟩) ?_
  · (go_simp <;> exact V3.out)
  simp only [Act.put, List.getElem_toArray, List.getElem_cons_zero, List.getElem_cons_succ, List.setIfInBounds_toArray, List.set_cons_zero, List.set_cons_succ]
  refine Rg.take 9 (v := .int .i64 (256 * Y + 128)) rfl rfl (by kernel_rfl) (by kernel_rfl) (by kernel_rfl) (by kernel_rfl) (by kernel_rfl) (.inl ⟨rfl, fun bs wq hI => ?_⟩) ?_
  · (go_simp <;> exact V4.out)
  simp only [Act.put, List.getElem_toArray, List.getElem_cons_zero, List.getElem_cons_succ, List.setIfInBounds_toArray, List.set_cons_zero, List.set_cons_succ]
  refine Rg.take 10 (v := .int .i64 (256 * X + 128)) rfl rfl (by kernel_rfl) (by kernel_rfl) (by kernel_rfl) (by kernel_rfl) (by kernel_rfl) (.inl ⟨rfl, fun bs wq hI => ?_⟩) ?_
  · go_simp
  simp only [Act.put, List.getElem_toArray, List.getElem_cons_zero, List.getElem_cons_succ, List.setIfInBounds_toArray, List.set_cons_zero, List.set_cons_succ]
  refine Rg.take 11 (v := .int .i64 (256 * Y + 128)) rfl rfl (by kernel_rfl) (by kernel_rfl) (by kernel_rfl) (by kernel_rfl) (by kernel_rfl) (.inl ⟨rfl, fun bs wq hI => ?_⟩) ?_
  · go_simp
  simp only [Act.put, List.getElem_toArray, List.getElem_cons_zero, List.getElem_cons_succ, List.setIfInBounds_toArray, List.set_cons_zero, List.set_cons_succ]
  refine Rg.done (rs := []) (by kernel_rfl) (by decide) (fun W hI => ?_)
  have HO := Lib.hid hI
  clear hI
  refine wpAny_done (by kernel_rfl) ?_ _
  clear V1 V2 V3 V4 F1 F2 x1 x2 y1 y2
  have c2 := (HO.out.at 0 rfl).cell 2 rfl
  go_upto_region 5 with (first | ((with_reducible show wpList _ _ _ ({ dst := _, op := Op.load 24 _, type := _, pos := _, after := _, guard := _ } :: _) _ _); refine wpList_ldr ty_tex rfl _ rfl _ rfl _ rfl (HO.out.at 1 rfl) ?_) | (go_at_call 7; (with_reducible refine (SA _ HO.out.k).mono ?_); rintro e w1 ⟨rfl, hk1⟩; have l2 := (HO.out.call hk1).newAt w1.heap.size rfl (.int .i64 (M 0)) [.int .i64 (M 1), .int .i64 (M 2), .int .i64 (M 3)] 29; clear HO hk1 c2; have HO := Lib.hid l2; clear l2))
  generalize w1.heap.size = p9 at *
  clear SA
  have c2 := (HO.out.at 1 rfl).cell 2 rfl
  go_upto_region 6 with (first | ((with_reducible show wpList _ _ _ ({ dst := _, op := Op.load 24 _, type := _, pos := _, after := _, guard := _ } :: _) _ _); refine wpList_ldr ty_tex rfl _ rfl _ rfl _ rfl (HO.out.at 2 rfl) ?_) | (go_at_call 7; (with_reducible refine (SB _ HO.out.k).mono ?_); rintro e w2 ⟨rfl, hk1⟩; have l2 := (HO.out.call hk1).newAt w2.heap.size rfl (.int .i64 (M 0)) [.int .i64 (M 1), .int .i64 (M 2), .int .i64 (M 3)] 29; clear HO hk1 c2; have HO := Lib.hid l2; clear l2))
  generalize w2.heap.size = p11 at *
  clear SB
  go_upto_region 8 with (first | go_big_skip | ((with_reducible show wpList _ _ _ ({ dst := _, op := Op.load 29 (Operand.tmp 9), type := _, pos := _, after := _, guard := _ } :: _) _ _); refine wpList_ldr ty_color rfl _ rfl _ rfl _ rfl (HO.out.at 1 rfl) ?_) | ((with_reducible show wpList _ _ _ ({ dst := _, op := Op.load 29 (Operand.tmp 11), type := _, pos := _, after := _, guard := _ } :: _) _ _); refine wpList_ldr ty_color rfl _ rfl _ rfl _ rfl (HO.out.at 0 rfl) ?_))
  go_wp2_with (first | (go_at_call 15; refine (U1 _).mono ?_; rintro e w3 ⟨rfl, hk1⟩; have l2 := (HO.out.call hk1).newAt w3.heap.size rfl (.int .i64 0) [.int .i64 0, .int .i64 0, .int .i64 0] 29; clear HO hk1; have HO := Lib.hid l2; clear l2) | (go_at_call 6; refine (awake_any _).mono ?_; rintro e w' ⟨rfl, rfl⟩))
  go_ret
  exact ⟨rfl, HO.out.k.below⟩
/-- how many rounds are left -/
def msrP (z : Nat) (i : Value) : Nat := z - (intOf i).toNat
theorem iv_rep (j : Nat) (q : Int) : iv (List.replicate (j + 1) q) = iv (List.replicate j q) ++ [.int .i64 q] := by rw [List.replicate_succ']; simp [iv]
set_option linter.unusedSimpArgs false in
set_option maxRecDepth 100000 in
set_option maxHeartbeats 8000000 in
theorem plain_yes (n m x y k q : Int) (s : Bool) (l : List Int) (a : Option Addr) (c : Nat) (w : World) (hS : Sl w (.slice a l.length c) (iv l)) (hi : Tx.ints l) (hl : l.length ≤ 5000) (hc : Tx.chk n m l = 0) (hk : Tx.is k = true) (hx : -60000 ≤ x ∧ x ≤ 60000) (hy : -60000 ≤ y ∧ y ≤ 60000) (hq : 0 ≤ q ∧ q ≤ 4294967295) :
    Calls Try.prog 4 #[.agg #[.int .i64 n, .int .i64 m, .slice a l.length c], .agg #[.int .i64 x, .int .i64 y, .int .i64 k, .bool s], .int .i64 q] w fun e w' => e = .returned (.bool true) ∧ Below w.heap.size w w' := by
  have U1 := fun U => runpack_yes q U hq
  have SC : ∀ (U : World) (v : Value), Sl U v (iv (List.replicate l.length q)) → Calls Try.prog 7 #[.agg #[.int .i64 n, .int .i64 m, v], .int .i64 x, .int .i64 y, .int .i64 k, .bool s] U fun e w' => e = .returned (.tuple #[.agg #[.int .i64 (Tn.part q 0), .int .i64 (Tn.part q 1), .int .i64 (Tn.part q 2), .int .i64 (Tn.part q 3)], .int .i64 0]) ∧ Kp U.heap.size U w' := fun U v hv => by
    have hcs := Tx.chk_same hc hq
    have := sample_yes n m x y k s _ v U hv (fun z hz => by rw [List.eq_of_mem_replicate hz]; omega) hcs hk (by omega) (by omega)
    rw [Tx.smp_same s 0 hcs, Tx.smp_same s 1 hcs, Tx.smp_same s 2 hcs, Tx.smp_same s 3 hcs] at this
    exact this
  obtain ⟨i0, hi0, hz0, hz1, hz3⟩ := info_parts infoInt
  have RC := fun U (hk2 : Kp w.heap.size w U) => rcheck_any n m l _ U (hS.next hk2)
  rw [hc] at RC
  have z1 : decide ((5000 : Int) < (l.length : Int)) = false := decide_eq_false (by omega)
  have q1 : decide (k < 0) = false := decide_eq_false (by have := Tx.is_iff.1 hk; omega)
  have q2 : decide (2 < k) = false := decide_eq_false (by have := Tx.is_iff.1 hk; omega)
  have q3 : decide (x < -60000) = false := decide_eq_false (by omega)
  have q4 : decide (60000 < x) = false := decide_eq_false (by omega)
  have q5 : decide (y < -60000) = false := decide_eq_false (by omega)
  have q6 : decide (60000 < y) = false := decide_eq_false (by omega)
  have F1 := fun U => rfloor_pos x 256 U (by omega) (by omega)
  have F2 := fun U => rfloor_pos y 256 U (by omega) (by omega)
  obtain ⟨x1, x2⟩ : -250 ≤ x / 256 ∧ x / 256 ≤ 250 := by omega
  obtain ⟨y1, y2⟩ : -250 ≤ y / 256 ∧ y / 256 ≤ 250 := by omega
  generalize x / 256 = X at *
  generalize y / 256 = Y at *
  have V1 := Lib.hid (show IntKind.i64.wrap (256 * X) = 256 * X by rw [IntKind.wrap_i64]; omega)
  have V2 := Lib.hid (show IntKind.i64.wrap (256 * X + 128) = 256 * X + 128 by rw [IntKind.wrap_i64]; omega)
  have V3 := Lib.hid (show IntKind.i64.wrap (256 * Y) = 256 * Y by rw [IntKind.wrap_i64]; omega)
  have V4 := Lib.hid (show IntKind.i64.wrap (256 * Y + 128) = 256 * Y + 128 by rw [IntKind.wrap_i64]; omega)
  have SA := fun U (hk2 : Kp w.heap.size w U) => sample_yes n m (256 * X + 128) (256 * Y + 128) k true l _ U (hS.next hk2) hi hc hk (by omega) (by omega)
  have SB := fun U (hk2 : Kp w.heap.size w U) => sample_yes n m (256 * X + 128) (256 * Y + 128) k false l _ U (hS.next hk2) hi hc hk (by omega) (by omega)
  simp only [Tx.middle] at SA
  have hE := run_eqC_same
  generalize Tx.smp n m l (256 * X + 128) (256 * Y + 128) k false = M at *
  have HO := Lib.hid (((Ow.refl w).newAt w.heap.size rfl (.int .i64 n) [.int .i64 m, .slice a l.length c] 24).newAt (w.heap.size + 1) (by simp) (.int .i64 x) [.int .i64 y, .int .i64 k, .bool s] 26)
  have t2 := (HO.out.at 1 rfl).cell 2 rfl
  have c0 := (HO.out.at 0 rfl).cell 0 rfl
  have c1 := (HO.out.at 0 rfl).cell 1 rfl
  have c2 := (HO.out.at 0 rfl).cell 2 rfl
  have c3 := (HO.out.at 0 rfl).cell 3 rfl
  have hl2 : (l.length : Int) ≤ 5000 := by omega
  clear hS hi hl hc hk hx hy hq
  go_enter Try.func4, Try.ntmps4
  go_upto_region 3 with (first | go_big_skip | ((with_reducible show wpList _ _ _ ({ dst := _, op := Op.load 24 _, type := _, pos := _, after := _, guard := _ } :: _) _ _); refine wpList_ldr ty_tex rfl _ rfl _ rfl _ rfl (HO.out.at 1 rfl) ?_) | (go_at_call 9; (with_reducible refine (RC _ HO.out.k).mono ?_); rintro e wz ⟨rfl, hk1⟩; have l2 := HO.out.call hk1; clear HO hk1 c0 c1 c2 c3 t2; have HO := Lib.hid l2; clear l2; have c0 := (HO.out.at 0 rfl).cell 0 rfl; have c1 := (HO.out.at 0 rfl).cell 1 rfl; have c2 := (HO.out.at 0 rfl).cell 2 rfl; have c3 := (HO.out.at 0 rfl).cell 3 rfl) | (go_at_call 6; refine (awake_any _).mono ?_; rintro e w' ⟨rfl, rfl⟩))
  clear c0 c1 c2 c3 q1 q2 q3 q4 q5 q6 z1 RC
  refine Rg.region (I := fun _ W => Ow w W [(w.heap.size + 1, [.int .i64 x, .int .i64 y, .int .i64 k, .bool s]), (w.heap.size, [.int .i64 n, .int .i64 m, .slice a l.length c])]) (dem := fun _ => false) (m := 12) (g := 0) (T := fun listed bs st => ∀ W, Ow w W [(w.heap.size + 1, [.int .i64 x, .int .i64 y, .int .i64 k, .bool s]), (w.heap.size, [.int .i64 n, .int .i64 m, .slice a l.length c])] → wpAny Try.prog .any _ _ 0 listed st W) (by kernel_rfl) HO.out.drew rfl (fun _ _ _ _ h hI => h _ hI) ?_
  clear HO
  refine Rg.take 0 (v := .pointer (some ⟨w.heap.size + 1, 0, none⟩)) rfl rfl (by kernel_rfl) (by kernel_rfl) (by kernel_rfl) (by kernel_rfl) (by kernel_rfl) (.inl ⟨rfl, fun bs wq hI => ?_⟩) ?_
  · go_simp
  simp only [Act.put, List.getElem_toArray, List.getElem_cons_zero, List.getElem_cons_succ, List.setIfInBounds_toArray, List.set_cons_zero, List.set_cons_succ]
  refine Rg.take 1 (v := .int .i64 x) rfl rfl (by kernel_rfl) (by kernel_rfl) (by kernel_rfl) (by kernel_rfl) (by kernel_rfl) (.inl ⟨rfl, fun bs wq hI => ?_⟩) ?_
  · (have hc := (hI.at 0 rfl).cell 0 rfl; go_simp)
  simp only [Act.put, List.getElem_toArray, List.getElem_cons_zero, List.getElem_cons_succ, List.setIfInBounds_toArray, List.set_cons_zero, List.set_cons_succ]
  refine Rg.take 2 (v := .int .i64 X) rfl rfl (by kernel_rfl) (by kernel_rfl) (by kernel_rfl) (by kernel_rfl) (by kernel_rfl) (.inl ⟨rfl, fun bs wq hI => ?_⟩) ?_
  · (go_simp; exact (F1 _).mono fun e w2 h => ⟨h.1, h.2 ▸ hI⟩)
  simp only [Act.put, List.getElem_toArray, List.getElem_cons_zero, List.getElem_cons_succ, List.setIfInBounds_toArray, List.set_cons_zero, List.set_cons_succ]
  refine Rg.take 3 (v := .int .i64 (256 * X)) rfl rfl (by kernel_rfl) (by kernel_rfl) (by kernel_rfl) (by kernel_rfl) (by kernel_rfl) (.inl ⟨rfl, fun bs wq hI => ?_⟩) ?_
  · (go_simp <;> exact V1.out)
  simp only [Act.put, List.getElem_toArray, List.getElem_cons_zero, List.getElem_cons_succ, List.setIfInBounds_toArray, List.set_cons_zero, List.set_cons_succ]
  refine Rg.take 4 (v := .int .i64 (256 * X + 128)) rfl rfl (by kernel_rfl) (by kernel_rfl) (by kernel_rfl) (by kernel_rfl) (by kernel_rfl) (.inl ⟨rfl, fun bs wq hI => ?_⟩) ?_
  · (go_simp <;> exact V2.out)
  simp only [Act.put, List.getElem_toArray, List.getElem_cons_zero, List.getElem_cons_succ, List.setIfInBounds_toArray, List.set_cons_zero, List.set_cons_succ]
  refine Rg.take 5 (v := .pointer (some ⟨w.heap.size + 1, 1, none⟩)) rfl rfl (by kernel_rfl) (by kernel_rfl) (by kernel_rfl) (by kernel_rfl) (by kernel_rfl) (.inl ⟨rfl, fun bs wq hI => ?_⟩) ?_
  · go_simp
  simp only [Act.put, List.getElem_toArray, List.getElem_cons_zero, List.getElem_cons_succ, List.setIfInBounds_toArray, List.set_cons_zero, List.set_cons_succ]
  refine Rg.take 6 (v := .int .i64 y) rfl rfl (by kernel_rfl) (by kernel_rfl) (by kernel_rfl) (by kernel_rfl) (by kernel_rfl) (.inl ⟨rfl, fun bs wq hI => ?_⟩) ?_
  · (have hc := (hI.at 0 rfl).cell 1 rfl; go_simp)
  simp only [Act.put, List.getElem_toArray, List.getElem_cons_zero, List.getElem_cons_succ, List.setIfInBounds_toArray, List.set_cons_zero, List.set_cons_succ]
  refine Rg.take 7 (v := .int .i64 Y) rfl rfl (by kernel_rfl) (by kernel_rfl) (by kernel_rfl) (by kernel_rfl) (by kernel_rfl) (.inl ⟨rfl, fun bs wq hI => ?_⟩) ?_
  · (go_simp; exact (F2 _).mono fun e w2 h => ⟨h.1, h.2 ▸ hI⟩)
  simp only [Act.put, List.getElem_toArray, List.getElem_cons_zero, List.getElem_cons_succ, List.setIfInBounds_toArray, List.set_cons_zero, List.set_cons_succ]
  refine Rg.take 8 (v := .int .i64 (256 * Y)) rfl rfl (by kernel_rfl) (by kernel_rfl) (by kernel_rfl) (by kernel_rfl) (by kernel_rfl) (.inl ⟨rfl, fun bs wq hI => ?_⟩) ?_
  · (go_simp <;> exact V3.out)
  simp only [Act.put, List.getElem_toArray, List.getElem_cons_zero, List.getElem_cons_succ, List.setIfInBounds_toArray, List.set_cons_zero, List.set_cons_succ]
  refine Rg.take 9 (v := .int .i64 (256 * Y + 128)) rfl rfl (by kernel_rfl) (by kernel_rfl) (by kernel_rfl) (by kernel_rfl) (by kernel_rfl) (.inl ⟨rfl, fun bs wq hI => ?_⟩) ?_
  · (go_simp <;> exact V4.out)
  simp only [Act.put, List.getElem_toArray, List.getElem_cons_zero, List.getElem_cons_succ, List.setIfInBounds_toArray, List.set_cons_zero, List.set_cons_succ]
  refine Rg.take 10 (v := .int .i64 (256 * X + 128)) rfl rfl (by kernel_rfl) (by kernel_rfl) (by kernel_rfl) (by kernel_rfl) (by kernel_rfl) (.inl ⟨rfl, fun bs wq hI => ?_⟩) ?_
  · go_simp
  simp only [Act.put, List.getElem_toArray, List.getElem_cons_zero, List.getElem_cons_succ, List.setIfInBounds_toArray, List.set_cons_zero, List.set_cons_succ]
  refine Rg.take 11 (v := .int .i64 (256 * Y + 128)) rfl rfl (by kernel_rfl) (by kernel_rfl) (by kernel_rfl) (by kernel_rfl) (by kernel_rfl) (.inl ⟨rfl, fun bs wq hI => ?_⟩) ?_
  · go_simp
  simp only [Act.put, List.getElem_toArray, List.getElem_cons_zero, List.getElem_cons_succ, List.setIfInBounds_toArray, List.set_cons_zero, List.set_cons_succ]
  refine Rg.done (rs := []) (by kernel_rfl) (by decide) (fun W hI => ?_)
  have HO := Lib.hid hI
  clear hI
  refine wpAny_done (by kernel_rfl) ?_ _
  clear V1 V2 V3 V4 F1 F2 x1 x2 y1 y2
  have c2 := (HO.out.at 0 rfl).cell 2 rfl
  go_upto_region 5 with (first | ((with_reducible show wpList _ _ _ ({ dst := _, op := Op.load 24 _, type := _, pos := _, after := _, guard := _ } :: _) _ _); refine wpList_ldr ty_tex rfl _ rfl _ rfl _ rfl (HO.out.at 1 rfl) ?_) | (go_at_call 7; (with_reducible refine (SA _ HO.out.k).mono ?_); rintro e w1 ⟨rfl, hk1⟩; have l2 := (HO.out.call hk1).newAt w1.heap.size rfl (.int .i64 (M 0)) [.int .i64 (M 1), .int .i64 (M 2), .int .i64 (M 3)] 29; clear HO hk1 c2; have HO := Lib.hid l2; clear l2))
  generalize w1.heap.size = p9 at *
  clear SA
  have c2 := (HO.out.at 1 rfl).cell 2 rfl
  go_upto_region 6 with (first | ((with_reducible show wpList _ _ _ ({ dst := _, op := Op.load 24 _, type := _, pos := _, after := _, guard := _ } :: _) _ _); refine wpList_ldr ty_tex rfl _ rfl _ rfl _ rfl (HO.out.at 2 rfl) ?_) | (go_at_call 7; (with_reducible refine (SB _ HO.out.k).mono ?_); rintro e w2 ⟨rfl, hk1⟩; have l2 := (HO.out.call hk1).newAt w2.heap.size rfl (.int .i64 (M 0)) [.int .i64 (M 1), .int .i64 (M 2), .int .i64 (M 3)] 29; clear HO hk1 c2; have HO := Lib.hid l2; clear l2))
  generalize w2.heap.size = p11 at *
  clear SB
  go_upto_region 8 with (first | go_big_skip | ((with_reducible show wpList _ _ _ ({ dst := _, op := Op.load 29 (Operand.tmp 9), type := _, pos := _, after := _, guard := _ } :: _) _ _); refine wpList_ldr ty_color rfl _ rfl _ rfl _ rfl (HO.out.at 1 rfl) ?_) | ((with_reducible show wpList _ _ _ ({ dst := _, op := Op.load 29 (Operand.tmp 11), type := _, pos := _, after := _, guard := _ } :: _) _ _); refine wpList_ldr ty_color rfl _ rfl _ rfl _ rfl (HO.out.at 0 rfl) ?_))
  go_upto_region 11 with (first | (go_at_call 15; refine (U1 _).mono ?_; rintro e w3 ⟨rfl, hk1⟩; have l2 := (HO.out.call hk1).newAt w3.heap.size rfl (.int .i64 (Tn.part q 0)) [.int .i64 (Tn.part q 1), .int .i64 (Tn.part q 2), .int .i64 (Tn.part q 3)] 29; clear HO hk1; have HO := Lib.hid l2; clear l2))
  generalize w3.heap.size = p13 at *
  clear U1
  have d0 := (HO.out.at 4 rfl).cell 0 rfl
  have d1 := (HO.out.at 4 rfl).cell 1 rfl
  generalize hW : World.alloc _ _ = W3 at *
  clear hW
  have l2 := HO.out.newAt W3.heap.size rfl (.int .i64 n) [.int .i64 m, .slice none 0 0] 24
  have HB : Hid (w.heap.size ≤ W3.heap.size) := Lib.hid HO.out.k.size
  go_wp2_with fail
  clear d0 d1 HO
  generalize hW : World.alloc _ _ = W4 at *
  clear hW
  generalize W3.heap.size = p15 at *
  have hnd := (List.pairwise_cons.1 l2.nd)
  have HN : Hid (∀ v : Value, ((p15, [.int .i64 n, .int .i64 m, v]) :: [(p13, [.int .i64 (Tn.part q 0), .int .i64 (Tn.part q 1), .int .i64 (Tn.part q 2), .int .i64 (Tn.part q 3)]), (p11, [.int .i64 (M 0), .int .i64 (M 1), .int .i64 (M 2), .int .i64 (M 3)]), (p9, [.int .i64 (M 0), .int .i64 (M 1), .int .i64 (M 2), .int .i64 (M 3)]), (w.heap.size + 1, [.int .i64 x, .int .i64 y, .int .i64 k, .bool s]), (w.heap.size, [.int .i64 n, .int .i64 m, .slice a l.length c])]).Pairwise fun p q => p.1 ≠ q.1) := Lib.hid fun v => List.pairwise_cons.2 ⟨fun q hq => hnd.1 q hq, hnd.2⟩
  have HO := Lib.hid (Ro.start l2)
  clear l2 hnd
  go_loopw [16] (fun i wr => ∃ (j : Nat) (v : Value), j ≤ l.length ∧ i = .int .i64 j ∧ Ro w wr v (iv (List.replicate j q)) ((p15, [.int .i64 n, .int .i64 m, v]) :: [(p13, [.int .i64 (Tn.part q 0), .int .i64 (Tn.part q 1), .int .i64 (Tn.part q 2), .int .i64 (Tn.part q 3)]), (p11, [.int .i64 (M 0), .int .i64 (M 1), .int .i64 (M 2), .int .i64 (M 3)]), (p9, [.int .i64 (M 0), .int .i64 (M 1), .int .i64 (M 2), .int .i64 (M 3)]), (w.heap.size + 1, [.int .i64 x, .int .i64 y, .int .i64 k, .bool s]), (w.heap.size, [.int .i64 n, .int .i64 m, .slice a l.length c])])) (fun i _ => msrP l.length i)
  case atStart => exact ⟨0, _, Nat.zero_le _, rfl, HO.out⟩
  case round =>
    clear HO
    obtain ⟨j, v, hj, rfl, ho⟩ := hrel
    by_cases hlt : j < l.length
    · have z1 : decide ((j : Int) < (l.length : Int)) = true := decide_eq_true (by omega)
      have t2 := (ho.at 5 rfl).cell 2 rfl
      have t3 := (ho.at 0 rfl).cell 2 rfl
      have HX := Lib.hid (iv_rep j q)
      have K1 : Hid ((iv (List.replicate j q)).length + 1 ≤ maxLen) := Lib.hid (by rw [iv_len, List.length_replicate]; unfold maxLen; omega)
      have K2 : Hid (((iv (List.replicate j q)).length + 1) * 8 ≤ 140737488355328) := Lib.hid (by rw [iv_len, List.length_replicate]; omega)
      have K3 : Hid (w.heap.size ≤ wr.heap.size) := Lib.hid ho.bl.size
      have HO := Lib.hid ho
      clear ho
      generalize iv (List.replicate j q) = ys at *
      go_wp2_with (at_builtin; refine wpList_append_lies _ rfl (.tmp 119) (.tmp 121) 22 rfl w.heap.size 3 i0 (.int .i64 0) 1 8 Try.underlying22 hi0 hz0 hz1 hz3 rfl (by decide) _ _ _ rfl (HO.out.own.alloc _) ⟨wr.heap.size, 0, none⟩ 1 1 [.int .i64 q] rfl rfl (news1 _ _ _) (one1 _ rfl) (by decide) K1.out K2.out (Nat.le_trans K3.out (by simp)) (wr.heap.size + 1) (by simp) ?_)
      intro g cap w4 h1 h2 h3 h4
      have HO2 := Lib.hid (HO.out.put h1 h2 h3)
      clear h1 h2 h3 h4 HO K1 K2 K3 t2 t3
      have t4 := (HO2.out.at 0 rfl).cell 2 rfl
      have t5 := (HO2.out.at 0 rfl).froz 2 (by simp)
      go_wp2
      go_roundw
      case rel => exact ⟨j + 1, _, by omega, by go_num, by rw [HX.out]; exact HO2.out.set1 (HN.out _) 0 rfl HB.out 2 (by simp) _⟩
      case measure => simp [msrP, intOf]; omega
    · have z1 : decide ((j : Int) < (l.length : Int)) = false := decide_eq_false (by omega)
      obtain rfl : j = l.length := by omega
      have t2 := (ho.at 5 rfl).cell 2 rfl
      have S1 := SC _ _ (by have := Sl.of_own ho.own; exact this)
      have HW := Lib.hid ho.bl
      have R15 := ho.at 0 rfl
      have R13 := ho.at 1 rfl
      have R4 := ho.at 4 rfl
      have c0 := R4.cell 0 rfl
      have c1 := R4.cell 1 rfl
      have c2 := R4.cell 2 rfl
      have c3 := R4.cell 3 rfl
      have H15 := Lib.hid R15
      have H13 := Lib.hid R13
      clear ho SC R15 R13 R4 HN HB
      have HO := Lib.hid (Ow.refl wr)
      go_upto_region 17 with (first | ((with_reducible show wpList _ _ _ ({ dst := _, op := Op.load 24 _, type := _, pos := _, after := _, guard := _ } :: _) _ _); refine wpList_ldr ty_tex rfl _ rfl _ rfl _ rfl H15.out ?_) | (go_at_call 7; (with_reducible refine S1.mono ?_); rintro e w5 ⟨rfl, hk1⟩; have l2 := (HO.out.call hk1).newAt w5.heap.size rfl (.int .i64 (Tn.part q 0)) [.int .i64 (Tn.part q 1), .int .i64 (Tn.part q 2), .int .i64 (Tn.part q 3)] 29; clear HO hk1 c0 c1 c2 c3 t2; have HO := Lib.hid l2; clear l2))
      have H13b := Lib.hid (H13.out.kp HO.out.k (H13.out.lt (by simp)))
      clear S1 H15 H13
      go_wp2_with (first | go_big_skip | ((with_reducible show wpList _ _ _ ({ dst := _, op := Op.load 29 (Operand.tmp 17), type := _, pos := _, after := _, guard := _ } :: _) _ _); refine wpList_ldr ty_color rfl _ rfl _ rfl _ rfl (HO.out.at 0 rfl) ?_) | ((with_reducible show wpList _ _ _ ({ dst := _, op := Op.load 29 _, type := _, pos := _, after := _, guard := _ } :: _) _ _); refine wpList_ldr ty_color rfl _ rfl _ rfl _ rfl H13b.out ?_) | (go_at_call 6; refine (awake_any _).mono ?_; rintro e w' ⟨rfl, rfl⟩))
      go_ret
      exact ⟨rfl, HW.out.trans (HO.out.k.below.mono HW.out.size)⟩
set_option linter.unusedSimpArgs false in
set_option maxRecDepth 100000 in
set_option maxHeartbeats 8000000 in
theorem plain_walk (n m : Int) (t : Value) (l : List Int) (x y k : Int) (s : Bool) (q : Int) (w : World) (hS : Sl w t (iv l)) (hi : Tx.ints l) :
    Calls Try.prog 4 #[.agg #[.int .i64 n, .int .i64 m, t], .agg #[.int .i64 x, .int .i64 y, .int .i64 k, .bool s], .int .i64 q] w fun e w' => e = .returned (.bool true) ∧ Below w.heap.size w w' := by
  obtain ⟨a, c, rfl, -, -⟩ := hS.parts
  rw [iv_len] at hS ⊢
  by_cases hl : 5000 < l.length
  · exact plain_out n m x y k q s l a c w hS (.inl hl)
  by_cases hc : Tx.chk n m l = 0
  · by_cases hx : 0 ≤ k ∧ k ≤ 2 ∧ -60000 ≤ x ∧ x ≤ 60000 ∧ -60000 ≤ y ∧ y ≤ 60000
    · obtain ⟨h1, h2, h3, h4, h5, h6⟩ := hx
      by_cases hq : 0 ≤ q ∧ q ≤ 4294967295
      · exact plain_yes n m x y k q s l a c w hS hi (by omega) hc (Tx.is_iff.2 ⟨h1, h2⟩) ⟨h3, h4⟩ ⟨h5, h6⟩ hq
      · exact plain_no n m x y k q s l a c w hS hi (by omega) hc (Tx.is_iff.2 ⟨h1, h2⟩) ⟨h3, h4⟩ ⟨h5, h6⟩ (by omega)
    · exact plain_out n m x y k q s l a c w hS (.inr ⟨hl, .inr ⟨hc, by omega⟩⟩)
  · exact plain_out n m x y k q s l a c w hS (.inr ⟨hl, .inl hc⟩)
end Go.Proofs.Ytbhpjklomnjkfaa
