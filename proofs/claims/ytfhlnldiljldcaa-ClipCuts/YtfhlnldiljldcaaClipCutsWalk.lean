/-
  ClipCuts: its Go text returns true.
-/
import Derived.Test.YtfhlnldiljldcaaClipAwake
import Derived.Test.YtfhlnldiljldcaaClipRefCut
import Derived.BigGuard
namespace Go.Proofs.Ytfhlnldiljldcaa
open Go.RowKit

theorem run_eqZ (w : World) : (Op.equalIn 10000 26 (.agg #[.int .i64 0, .int .i64 0, .int .i64 0, .int .i64 0, .int .i64 0, .int .i64 0, .int .i64 0, .int .i64 0, .int .i64 0, .int .i64 0]) (.agg #[.int .i64 0, .int .i64 0, .int .i64 0, .int .i64 0, .int .i64 0, .int .i64 0, .int .i64 0, .int .i64 0, .int .i64 0, .int .i64 0])).run Try.prog w = .ok true w := run_eqN_same (fun _ => 0) w
set_option linter.unusedSimpArgs false in
set_option maxRecDepth 100000 in
set_option maxHeartbeats 8000000 in
theorem cuts_pl (k : Int) (a b : Cn) (w : World) (hk : Cl.pl k = false) :
    Calls Try.prog 3 #[.int .i64 k, .agg #[.int .i64 (a 0), .int .i64 (a 1), .int .i64 (a 2), .int .i64 (a 3), .int .i64 (a 4), .int .i64 (a 5), .int .i64 (a 6), .int .i64 (a 7), .int .i64 (a 8), .int .i64 (a 9)], .agg #[.int .i64 (b 0), .int .i64 (b 1), .int .i64 (b 2), .int .i64 (b 3), .int .i64 (b 4), .int .i64 (b 5), .int .i64 (b 6), .int .i64 (b 7), .int .i64 (b 8), .int .i64 (b 9)]] w fun e w' => e = .returned (.bool true) ∧ Kp w.heap.size w w' := by
  have CU := fun W => cut_no k a b W (by rw [Cl.cutE_pl hk]; decide)
  have FA := fun W => far_no k a W (by rw [Cl.farE_pl hk]; decide)
  rw [Cl.cutE_pl hk] at CU
  rw [Cl.farE_pl hk] at FA
  have hE := run_eqZ
  rcases Cl.pl_no.1 hk with h1 | h1
  · have q1 : decide (k < 0) = true := decide_eq_true h1
    clear hk h1
    have HO := Lib.hid (((Ow.refl w).newAt w.heap.size rfl (.int .i64 (a 0)) [.int .i64 (a 1), .int .i64 (a 2), .int .i64 (a 3), .int .i64 (a 4), .int .i64 (a 5), .int .i64 (a 6), .int .i64 (a 7), .int .i64 (a 8), .int .i64 (a 9)] 26).newAt (w.heap.size + 1) (by simp) (.int .i64 (b 0)) [.int .i64 (b 1), .int .i64 (b 2), .int .i64 (b 3), .int .i64 (b 4), .int .i64 (b 5), .int .i64 (b 6), .int .i64 (b 7), .int .i64 (b 8), .int .i64 (b 9)] 26)
    go_enter Try.func3, Try.ntmps3
    go_upto_region 2 with (first | ((with_reducible show wpList _ _ _ ({ dst := _, op := Op.load 26 (Operand.tmp 4), type := _, pos := _, after := _, guard := _ } :: _) _ _); refine wpList_ldr ty_corner rfl _ rfl _ rfl _ rfl (HO.out.at 1 rfl) ?_) | ((with_reducible show wpList _ _ _ ({ dst := _, op := Op.load 26 (Operand.tmp 5), type := _, pos := _, after := _, guard := _ } :: _) _ _); refine wpList_ldr ty_corner rfl _ rfl _ rfl _ rfl (HO.out.at 0 rfl) ?_) | (go_at_call 7; (with_reducible refine (CU _).mono ?_); rintro e w1 ⟨rfl, hk1⟩; have l2 := (HO.out.call hk1).newAt w1.heap.size rfl (.int .i64 0) [.int .i64 0, .int .i64 0, .int .i64 0, .int .i64 0, .int .i64 0, .int .i64 0, .int .i64 0, .int .i64 0, .int .i64 0] 26; clear HO hk1; have HO := Lib.hid l2; clear l2))
    generalize w1.heap.size = p7 at *
    go_upto_region 3 with (first | ((with_reducible show wpList _ _ _ ({ dst := _, op := Op.load 26 (Operand.tmp 4), type := _, pos := _, after := _, guard := _ } :: _) _ _); refine wpList_ldr ty_corner rfl _ rfl _ rfl _ rfl (HO.out.at 2 rfl) ?_) | (go_at_call 8; (with_reducible refine (FA _).mono ?_); rintro e wz ⟨rfl, hk1⟩; have l2 := HO.out.call hk1; clear HO hk1; have HO := Lib.hid l2; clear l2))
    go_wp2_with (first | go_big_skip | ((with_reducible show wpList _ _ _ ({ dst := _, op := Op.load 26 (Operand.tmp 7), type := _, pos := _, after := _, guard := _ } :: _) _ _); refine wpList_ldr ty_corner rfl _ rfl _ rfl _ rfl (HO.out.at 0 rfl) ?_) | ((with_reducible show wpList _ _ _ ({ dst := _, op := Op.load 26 (Operand.tmp 4), type := _, pos := _, after := _, guard := _ } :: _) _ _); refine wpList_ldr ty_corner rfl _ rfl _ rfl _ rfl (HO.out.at 2 rfl) ?_) | ((with_reducible show wpList _ _ _ ({ dst := _, op := Op.load 26 (Operand.tmp 5), type := _, pos := _, after := _, guard := _ } :: _) _ _); refine wpList_ldr ty_corner rfl _ rfl _ rfl _ rfl (HO.out.at 1 rfl) ?_) | (go_at_call 9; refine (awake_any _).mono ?_; rintro e wz ⟨rfl, hk1⟩; have l2 := HO.out.call hk1; clear HO hk1; have HO := Lib.hid l2; clear l2))
    go_ret
    exact ⟨rfl, HO.out.k⟩
  · have q1 : decide (k < 0) = false := decide_eq_false (by omega)
    have q2 : decide (6 < k) = true := decide_eq_true h1
    clear hk h1
    have HO := Lib.hid (((Ow.refl w).newAt w.heap.size rfl (.int .i64 (a 0)) [.int .i64 (a 1), .int .i64 (a 2), .int .i64 (a 3), .int .i64 (a 4), .int .i64 (a 5), .int .i64 (a 6), .int .i64 (a 7), .int .i64 (a 8), .int .i64 (a 9)] 26).newAt (w.heap.size + 1) (by simp) (.int .i64 (b 0)) [.int .i64 (b 1), .int .i64 (b 2), .int .i64 (b 3), .int .i64 (b 4), .int .i64 (b 5), .int .i64 (b 6), .int .i64 (b 7), .int .i64 (b 8), .int .i64 (b 9)] 26)
    go_enter Try.func3, Try.ntmps3
    go_upto_region 2 with (first | ((with_reducible show wpList _ _ _ ({ dst := _, op := Op.load 26 (Operand.tmp 4), type := _, pos := _, after := _, guard := _ } :: _) _ _); refine wpList_ldr ty_corner rfl _ rfl _ rfl _ rfl (HO.out.at 1 rfl) ?_) | ((with_reducible show wpList _ _ _ ({ dst := _, op := Op.load 26 (Operand.tmp 5), type := _, pos := _, after := _, guard := _ } :: _) _ _); refine wpList_ldr ty_corner rfl _ rfl _ rfl _ rfl (HO.out.at 0 rfl) ?_) | (go_at_call 7; (with_reducible refine (CU _).mono ?_); rintro e w1 ⟨rfl, hk1⟩; have l2 := (HO.out.call hk1).newAt w1.heap.size rfl (.int .i64 0) [.int .i64 0, .int .i64 0, .int .i64 0, .int .i64 0, .int .i64 0, .int .i64 0, .int .i64 0, .int .i64 0, .int .i64 0] 26; clear HO hk1; have HO := Lib.hid l2; clear l2))
    generalize w1.heap.size = p7 at *
    go_upto_region 3 with (first | ((with_reducible show wpList _ _ _ ({ dst := _, op := Op.load 26 (Operand.tmp 4), type := _, pos := _, after := _, guard := _ } :: _) _ _); refine wpList_ldr ty_corner rfl _ rfl _ rfl _ rfl (HO.out.at 2 rfl) ?_) | (go_at_call 8; (with_reducible refine (FA _).mono ?_); rintro e wz ⟨rfl, hk1⟩; have l2 := HO.out.call hk1; clear HO hk1; have HO := Lib.hid l2; clear l2))
    go_wp2_with (first | go_big_skip | ((with_reducible show wpList _ _ _ ({ dst := _, op := Op.load 26 (Operand.tmp 7), type := _, pos := _, after := _, guard := _ } :: _) _ _); refine wpList_ldr ty_corner rfl _ rfl _ rfl _ rfl (HO.out.at 0 rfl) ?_) | ((with_reducible show wpList _ _ _ ({ dst := _, op := Op.load 26 (Operand.tmp 4), type := _, pos := _, after := _, guard := _ } :: _) _ _); refine wpList_ldr ty_corner rfl _ rfl _ rfl _ rfl (HO.out.at 2 rfl) ?_) | ((with_reducible show wpList _ _ _ ({ dst := _, op := Op.load 26 (Operand.tmp 5), type := _, pos := _, after := _, guard := _ } :: _) _ _); refine wpList_ldr ty_corner rfl _ rfl _ rfl _ rfl (HO.out.at 1 rfl) ?_) | (go_at_call 9; refine (awake_any _).mono ?_; rintro e wz ⟨rfl, hk1⟩; have l2 := HO.out.call hk1; clear HO hk1; have HO := Lib.hid l2; clear l2))
    go_ret
    exact ⟨rfl, HO.out.k⟩
set_option linter.unusedSimpArgs false in
set_option maxRecDepth 100000 in
set_option maxHeartbeats 8000000 in
theorem cuts_a (k : Nat) (a b : Cn) (w : World) (hk : k < 7) (ha : Cl.mayB a = false) :
    Calls Try.prog 3 #[.int .i64 k, .agg #[.int .i64 (a 0), .int .i64 (a 1), .int .i64 (a 2), .int .i64 (a 3), .int .i64 (a 4), .int .i64 (a 5), .int .i64 (a 6), .int .i64 (a 7), .int .i64 (a 8), .int .i64 (a 9)], .agg #[.int .i64 (b 0), .int .i64 (b 1), .int .i64 (b 2), .int .i64 (b 3), .int .i64 (b 4), .int .i64 (b 5), .int .i64 (b 6), .int .i64 (b 7), .int .i64 (b 8), .int .i64 (b 9)]] w fun e w' => e = .returned (.bool true) ∧ Kp w.heap.size w w' := by
  have q1 : decide ((k : Int) < 0) = false := decide_eq_false (by omega)
  have q2 : decide (6 < (k : Int)) = false := decide_eq_false (by omega)
  have hp : Cl.pl (k : Int) = true := Cl.pl_iff.2 (by omega)
  have hx : (Cl.mayB a && Cl.mayB b) = false := by rw [ha]; rfl
  have CU := fun W => cut_no k a b W (by rw [Cl.cutE_may hp hx]; decide)
  have FA := fun W => far_no k a W (by rw [Cl.farE_may hp ha]; decide)
  rw [Cl.cutE_may hp hx] at CU
  rw [Cl.farE_may hp ha] at FA
  have M1 := fun W => rmay_any a W
  rw [ha] at M1
  have hE := run_eqZ
  clear hp hx ha
  have HO := Lib.hid (((Ow.refl w).newAt w.heap.size rfl (.int .i64 (a 0)) [.int .i64 (a 1), .int .i64 (a 2), .int .i64 (a 3), .int .i64 (a 4), .int .i64 (a 5), .int .i64 (a 6), .int .i64 (a 7), .int .i64 (a 8), .int .i64 (a 9)] 26).newAt (w.heap.size + 1) (by simp) (.int .i64 (b 0)) [.int .i64 (b 1), .int .i64 (b 2), .int .i64 (b 3), .int .i64 (b 4), .int .i64 (b 5), .int .i64 (b 6), .int .i64 (b 7), .int .i64 (b 8), .int .i64 (b 9)] 26)
  go_enter Try.func3, Try.ntmps3
  go_upto_region 2 with (first | ((with_reducible show wpList _ _ _ ({ dst := _, op := Op.load 26 (Operand.tmp 4), type := _, pos := _, after := _, guard := _ } :: _) _ _); refine wpList_ldr ty_corner rfl _ rfl _ rfl _ rfl (HO.out.at 1 rfl) ?_) | ((with_reducible show wpList _ _ _ ({ dst := _, op := Op.load 26 (Operand.tmp 5), type := _, pos := _, after := _, guard := _ } :: _) _ _); refine wpList_ldr ty_corner rfl _ rfl _ rfl _ rfl (HO.out.at 0 rfl) ?_) | (go_at_call 7; (with_reducible refine (CU _).mono ?_); rintro e w1 ⟨rfl, hk1⟩; have l2 := (HO.out.call hk1).newAt w1.heap.size rfl (.int .i64 0) [.int .i64 0, .int .i64 0, .int .i64 0, .int .i64 0, .int .i64 0, .int .i64 0, .int .i64 0, .int .i64 0, .int .i64 0] 26; clear HO hk1; have HO := Lib.hid l2; clear l2))
  generalize w1.heap.size = p7 at *
  go_upto_region 3 with (first | ((with_reducible show wpList _ _ _ ({ dst := _, op := Op.load 26 (Operand.tmp 4), type := _, pos := _, after := _, guard := _ } :: _) _ _); refine wpList_ldr ty_corner rfl _ rfl _ rfl _ rfl (HO.out.at 2 rfl) ?_) | (go_at_call 8; (with_reducible refine (FA _).mono ?_); rintro e wz ⟨rfl, hk1⟩; have l2 := HO.out.call hk1; clear HO hk1; have HO := Lib.hid l2; clear l2))
  go_wp2_with (first | go_big_skip | ((with_reducible show wpList _ _ _ ({ dst := _, op := Op.load 26 (Operand.tmp 7), type := _, pos := _, after := _, guard := _ } :: _) _ _); refine wpList_ldr ty_corner rfl _ rfl _ rfl _ rfl (HO.out.at 0 rfl) ?_) | ((with_reducible show wpList _ _ _ ({ dst := _, op := Op.load 26 (Operand.tmp 4), type := _, pos := _, after := _, guard := _ } :: _) _ _); refine wpList_ldr ty_corner rfl _ rfl _ rfl _ rfl (HO.out.at 2 rfl) ?_) | ((with_reducible show wpList _ _ _ ({ dst := _, op := Op.load 26 (Operand.tmp 5), type := _, pos := _, after := _, guard := _ } :: _) _ _); refine wpList_ldr ty_corner rfl _ rfl _ rfl _ rfl (HO.out.at 1 rfl) ?_) | (go_at_call 10; (with_reducible refine (M1 _).mono ?_); rintro e wz ⟨rfl, hk1⟩; have l2 := HO.out.call hk1; clear HO hk1; have HO := Lib.hid l2; clear l2) | (go_at_call 9; refine (awake_any _).mono ?_; rintro e wz ⟨rfl, hk1⟩; have l2 := HO.out.call hk1; clear HO hk1; have HO := Lib.hid l2; clear l2))
  go_ret
  exact ⟨rfl, HO.out.k⟩
set_option linter.unusedSimpArgs false in
set_option maxRecDepth 100000 in
set_option maxHeartbeats 8000000 in
theorem cuts_b (k : Nat) (a b : Cn) (w : World) (hk : k < 7) (ha : Cl.mayB a = true) (hb : Cl.mayB b = false) :
    Calls Try.prog 3 #[.int .i64 k, .agg #[.int .i64 (a 0), .int .i64 (a 1), .int .i64 (a 2), .int .i64 (a 3), .int .i64 (a 4), .int .i64 (a 5), .int .i64 (a 6), .int .i64 (a 7), .int .i64 (a 8), .int .i64 (a 9)], .agg #[.int .i64 (b 0), .int .i64 (b 1), .int .i64 (b 2), .int .i64 (b 3), .int .i64 (b 4), .int .i64 (b 5), .int .i64 (b 6), .int .i64 (b 7), .int .i64 (b 8), .int .i64 (b 9)]] w fun e w' => e = .returned (.bool true) ∧ Kp w.heap.size w w' := by
  have q1 : decide ((k : Int) < 0) = false := decide_eq_false (by omega)
  have q2 : decide (6 < (k : Int)) = false := decide_eq_false (by omega)
  have hp : Cl.pl (k : Int) = true := Cl.pl_iff.2 (by omega)
  have FA := fun W => far_yes k a W hk (Cl.may_iff.1 ha)
  have M1 := fun W => rmay_any a W
  have M2 := fun W => rmay_any b W
  have R1 := fun W => rfar_any k a W hk (Cl.may_iff.1 ha).1
  rw [ha] at M1
  have hx : (Cl.mayB a && Cl.mayB b) = false := by rw [ha, hb]; rfl
  have CU := fun W => cut_no k a b W (by rw [Cl.cutE_may hp hx]; decide)
  rw [Cl.cutE_may hp hx] at CU
  rw [hb] at M2
  have hE := run_eqZ
  generalize Cl.far k a = fa at *
  clear hp hx ha hb
  have HO := Lib.hid (((Ow.refl w).newAt w.heap.size rfl (.int .i64 (a 0)) [.int .i64 (a 1), .int .i64 (a 2), .int .i64 (a 3), .int .i64 (a 4), .int .i64 (a 5), .int .i64 (a 6), .int .i64 (a 7), .int .i64 (a 8), .int .i64 (a 9)] 26).newAt (w.heap.size + 1) (by simp) (.int .i64 (b 0)) [.int .i64 (b 1), .int .i64 (b 2), .int .i64 (b 3), .int .i64 (b 4), .int .i64 (b 5), .int .i64 (b 6), .int .i64 (b 7), .int .i64 (b 8), .int .i64 (b 9)] 26)
  go_enter Try.func3, Try.ntmps3
  go_upto_region 2 with (first | ((with_reducible show wpList _ _ _ ({ dst := _, op := Op.load 26 (Operand.tmp 4), type := _, pos := _, after := _, guard := _ } :: _) _ _); refine wpList_ldr ty_corner rfl _ rfl _ rfl _ rfl (HO.out.at 1 rfl) ?_) | ((with_reducible show wpList _ _ _ ({ dst := _, op := Op.load 26 (Operand.tmp 5), type := _, pos := _, after := _, guard := _ } :: _) _ _); refine wpList_ldr ty_corner rfl _ rfl _ rfl _ rfl (HO.out.at 0 rfl) ?_) | (go_at_call 7; (with_reducible refine (CU _).mono ?_); rintro e w1 ⟨rfl, hk1⟩; have l2 := (HO.out.call hk1).newAt w1.heap.size rfl (.int .i64 0) [.int .i64 0, .int .i64 0, .int .i64 0, .int .i64 0, .int .i64 0, .int .i64 0, .int .i64 0, .int .i64 0, .int .i64 0] 26; clear HO hk1; have HO := Lib.hid l2; clear l2))
  generalize w1.heap.size = p7 at *
  go_upto_region 3 with (first | ((with_reducible show wpList _ _ _ ({ dst := _, op := Op.load 26 (Operand.tmp 4), type := _, pos := _, after := _, guard := _ } :: _) _ _); refine wpList_ldr ty_corner rfl _ rfl _ rfl _ rfl (HO.out.at 2 rfl) ?_) | (go_at_call 8; (with_reducible refine (FA _).mono ?_); rintro e wz ⟨rfl, hk1⟩; have l2 := HO.out.call hk1; clear HO hk1; have HO := Lib.hid l2; clear l2))
  go_wp2_with (first | go_big_skip | ((with_reducible show wpList _ _ _ ({ dst := _, op := Op.load 26 (Operand.tmp 7), type := _, pos := _, after := _, guard := _ } :: _) _ _); refine wpList_ldr ty_corner rfl _ rfl _ rfl _ rfl (HO.out.at 0 rfl) ?_) | ((with_reducible show wpList _ _ _ ({ dst := _, op := Op.load 26 (Operand.tmp 4), type := _, pos := _, after := _, guard := _ } :: _) _ _); refine wpList_ldr ty_corner rfl _ rfl _ rfl _ rfl (HO.out.at 2 rfl) ?_) | ((with_reducible show wpList _ _ _ ({ dst := _, op := Op.load 26 (Operand.tmp 5), type := _, pos := _, after := _, guard := _ } :: _) _ _); refine wpList_ldr ty_corner rfl _ rfl _ rfl _ rfl (HO.out.at 1 rfl) ?_) | (go_at_call 10; (with_reducible refine (M1 _).mono ?_); rintro e wz ⟨rfl, hk1⟩; have l2 := HO.out.call hk1; clear HO hk1; have HO := Lib.hid l2; clear l2) | (go_at_call 10; (with_reducible refine (M2 _).mono ?_); rintro e wz ⟨rfl, hk1⟩; have l2 := HO.out.call hk1; clear HO hk1; have HO := Lib.hid l2; clear l2) | ((with_reducible show wpList _ _ _ ({ dst := _, op := Op.load 23 (Operand.tmp 74), type := _, pos := _, after := _, guard := _ } :: _) _ _); refine wpList_ldm ty_vec rfl _ rfl _ _ rfl _ rfl (Rc.vec (c := a) (HO.out.at 2 rfl)) ?_) | (go_at_call 11; (with_reducible refine (R1 _).mono ?_); rintro e wz ⟨rfl, hk1⟩; have l2 := HO.out.call hk1; clear HO hk1; have HO := Lib.hid l2; clear l2) | (go_at_call 9; refine (awake_any _).mono ?_; rintro e wz ⟨rfl, hk1⟩; have l2 := HO.out.call hk1; clear HO hk1; have HO := Lib.hid l2; clear l2))
  go_ret
  exact ⟨rfl, HO.out.k⟩
set_option linter.unusedSimpArgs false in
set_option maxRecDepth 100000 in
set_option maxHeartbeats 8000000 in
theorem cuts_form (k : Nat) (a b : Cn) (w : World) (hk : k < 7) (ha : Cl.mayB a = true) (hb : Cl.mayB b = true) (hf : (Cl.inn k a && !Cl.inn k b) = false) :
    Calls Try.prog 3 #[.int .i64 k, .agg #[.int .i64 (a 0), .int .i64 (a 1), .int .i64 (a 2), .int .i64 (a 3), .int .i64 (a 4), .int .i64 (a 5), .int .i64 (a 6), .int .i64 (a 7), .int .i64 (a 8), .int .i64 (a 9)], .agg #[.int .i64 (b 0), .int .i64 (b 1), .int .i64 (b 2), .int .i64 (b 3), .int .i64 (b 4), .int .i64 (b 5), .int .i64 (b 6), .int .i64 (b 7), .int .i64 (b 8), .int .i64 (b 9)]] w fun e w' => e = .returned (.bool true) ∧ Kp w.heap.size w w' := by
  have q1 : decide ((k : Int) < 0) = false := decide_eq_false (by omega)
  have q2 : decide (6 < (k : Int)) = false := decide_eq_false (by omega)
  have hp : Cl.pl (k : Int) = true := Cl.pl_iff.2 (by omega)
  have FA := fun W => far_yes k a W hk (Cl.may_iff.1 ha)
  have M1 := fun W => rmay_any a W
  have M2 := fun W => rmay_any b W
  have R1 := fun W => rfar_any k a W hk (Cl.may_iff.1 ha).1
  rw [ha] at M1
  have R2 := fun W => rfar_any k b W hk (Cl.may_iff.1 hb).1
  have hx : (Cl.mayB a && Cl.mayB b) = true := by rw [ha, hb]; rfl
  have CU := fun W => cut_no k a b W (by rw [Cl.cutE_form hp hx hf]; decide)
  rw [Cl.cutE_form hp hx hf] at CU
  rw [hb] at M2
  have hE := run_eqZ
  by_cases h1 : Cl.far k a < 0
  · have q3 : decide (Cl.far k a < 0) = true := decide_eq_true h1
    generalize Cl.far k a = fa at *
    generalize Cl.far k b = fb at *
    clear hp hx ha hb hf h1
    have HO := Lib.hid (((Ow.refl w).newAt w.heap.size rfl (.int .i64 (a 0)) [.int .i64 (a 1), .int .i64 (a 2), .int .i64 (a 3), .int .i64 (a 4), .int .i64 (a 5), .int .i64 (a 6), .int .i64 (a 7), .int .i64 (a 8), .int .i64 (a 9)] 26).newAt (w.heap.size + 1) (by simp) (.int .i64 (b 0)) [.int .i64 (b 1), .int .i64 (b 2), .int .i64 (b 3), .int .i64 (b 4), .int .i64 (b 5), .int .i64 (b 6), .int .i64 (b 7), .int .i64 (b 8), .int .i64 (b 9)] 26)
    go_enter Try.func3, Try.ntmps3
    go_upto_region 2 with (first | ((with_reducible show wpList _ _ _ ({ dst := _, op := Op.load 26 (Operand.tmp 4), type := _, pos := _, after := _, guard := _ } :: _) _ _); refine wpList_ldr ty_corner rfl _ rfl _ rfl _ rfl (HO.out.at 1 rfl) ?_) | ((with_reducible show wpList _ _ _ ({ dst := _, op := Op.load 26 (Operand.tmp 5), type := _, pos := _, after := _, guard := _ } :: _) _ _); refine wpList_ldr ty_corner rfl _ rfl _ rfl _ rfl (HO.out.at 0 rfl) ?_) | (go_at_call 7; (with_reducible refine (CU _).mono ?_); rintro e w1 ⟨rfl, hk1⟩; have l2 := (HO.out.call hk1).newAt w1.heap.size rfl (.int .i64 0) [.int .i64 0, .int .i64 0, .int .i64 0, .int .i64 0, .int .i64 0, .int .i64 0, .int .i64 0, .int .i64 0, .int .i64 0] 26; clear HO hk1; have HO := Lib.hid l2; clear l2))
    generalize w1.heap.size = p7 at *
    go_upto_region 3 with (first | ((with_reducible show wpList _ _ _ ({ dst := _, op := Op.load 26 (Operand.tmp 4), type := _, pos := _, after := _, guard := _ } :: _) _ _); refine wpList_ldr ty_corner rfl _ rfl _ rfl _ rfl (HO.out.at 2 rfl) ?_) | (go_at_call 8; (with_reducible refine (FA _).mono ?_); rintro e wz ⟨rfl, hk1⟩; have l2 := HO.out.call hk1; clear HO hk1; have HO := Lib.hid l2; clear l2))
    go_wp2_with (first | go_big_skip | ((with_reducible show wpList _ _ _ ({ dst := _, op := Op.load 26 (Operand.tmp 7), type := _, pos := _, after := _, guard := _ } :: _) _ _); refine wpList_ldr ty_corner rfl _ rfl _ rfl _ rfl (HO.out.at 0 rfl) ?_) | ((with_reducible show wpList _ _ _ ({ dst := _, op := Op.load 26 (Operand.tmp 4), type := _, pos := _, after := _, guard := _ } :: _) _ _); refine wpList_ldr ty_corner rfl _ rfl _ rfl _ rfl (HO.out.at 2 rfl) ?_) | ((with_reducible show wpList _ _ _ ({ dst := _, op := Op.load 26 (Operand.tmp 5), type := _, pos := _, after := _, guard := _ } :: _) _ _); refine wpList_ldr ty_corner rfl _ rfl _ rfl _ rfl (HO.out.at 1 rfl) ?_) | (go_at_call 10; (with_reducible refine (M1 _).mono ?_); rintro e wz ⟨rfl, hk1⟩; have l2 := HO.out.call hk1; clear HO hk1; have HO := Lib.hid l2; clear l2) | (go_at_call 10; (with_reducible refine (M2 _).mono ?_); rintro e wz ⟨rfl, hk1⟩; have l2 := HO.out.call hk1; clear HO hk1; have HO := Lib.hid l2; clear l2) | ((with_reducible show wpList _ _ _ ({ dst := _, op := Op.load 23 (Operand.tmp 74), type := _, pos := _, after := _, guard := _ } :: _) _ _); refine wpList_ldm ty_vec rfl _ rfl _ _ rfl _ rfl (Rc.vec (c := a) (HO.out.at 2 rfl)) ?_) | (go_at_call 11; (with_reducible refine (R1 _).mono ?_); rintro e wz ⟨rfl, hk1⟩; have l2 := HO.out.call hk1; clear HO hk1; have HO := Lib.hid l2; clear l2) | (go_at_call 9; refine (awake_any _).mono ?_; rintro e wz ⟨rfl, hk1⟩; have l2 := HO.out.call hk1; clear HO hk1; have HO := Lib.hid l2; clear l2))
    go_ret
    exact ⟨rfl, HO.out.k⟩
  · have q3 : decide (Cl.far k a < 0) = false := decide_eq_false h1
    have h2 : 0 ≤ Cl.far k b := by
      have h3 : Cl.inn k a = true := Cl.inn_iff.2 (by omega)
      rw [h3] at hf
      have h4 : Cl.inn k b = true := by simpa using hf
      exact Cl.inn_iff.1 h4
    have q4 : decide (0 ≤ Cl.far k b) = true := decide_eq_true h2
    clear hp hx ha hb hf h1 h2
    generalize Cl.far k a = fa at *
    generalize Cl.far k b = fb at *
    have HO := Lib.hid (((Ow.refl w).newAt w.heap.size rfl (.int .i64 (a 0)) [.int .i64 (a 1), .int .i64 (a 2), .int .i64 (a 3), .int .i64 (a 4), .int .i64 (a 5), .int .i64 (a 6), .int .i64 (a 7), .int .i64 (a 8), .int .i64 (a 9)] 26).newAt (w.heap.size + 1) (by simp) (.int .i64 (b 0)) [.int .i64 (b 1), .int .i64 (b 2), .int .i64 (b 3), .int .i64 (b 4), .int .i64 (b 5), .int .i64 (b 6), .int .i64 (b 7), .int .i64 (b 8), .int .i64 (b 9)] 26)
    go_enter Try.func3, Try.ntmps3
    go_upto_region 2 with (first | ((with_reducible show wpList _ _ _ ({ dst := _, op := Op.load 26 (Operand.tmp 4), type := _, pos := _, after := _, guard := _ } :: _) _ _); refine wpList_ldr ty_corner rfl _ rfl _ rfl _ rfl (HO.out.at 1 rfl) ?_) | ((with_reducible show wpList _ _ _ ({ dst := _, op := Op.load 26 (Operand.tmp 5), type := _, pos := _, after := _, guard := _ } :: _) _ _); refine wpList_ldr ty_corner rfl _ rfl _ rfl _ rfl (HO.out.at 0 rfl) ?_) | (go_at_call 7; (with_reducible refine (CU _).mono ?_); rintro e w1 ⟨rfl, hk1⟩; have l2 := (HO.out.call hk1).newAt w1.heap.size rfl (.int .i64 0) [.int .i64 0, .int .i64 0, .int .i64 0, .int .i64 0, .int .i64 0, .int .i64 0, .int .i64 0, .int .i64 0, .int .i64 0] 26; clear HO hk1; have HO := Lib.hid l2; clear l2))
    generalize w1.heap.size = p7 at *
    go_upto_region 3 with (first | ((with_reducible show wpList _ _ _ ({ dst := _, op := Op.load 26 (Operand.tmp 4), type := _, pos := _, after := _, guard := _ } :: _) _ _); refine wpList_ldr ty_corner rfl _ rfl _ rfl _ rfl (HO.out.at 2 rfl) ?_) | (go_at_call 8; (with_reducible refine (FA _).mono ?_); rintro e wz ⟨rfl, hk1⟩; have l2 := HO.out.call hk1; clear HO hk1; have HO := Lib.hid l2; clear l2))
    go_wp2_with (first | go_big_skip | ((with_reducible show wpList _ _ _ ({ dst := _, op := Op.load 26 (Operand.tmp 7), type := _, pos := _, after := _, guard := _ } :: _) _ _); refine wpList_ldr ty_corner rfl _ rfl _ rfl _ rfl (HO.out.at 0 rfl) ?_) | ((with_reducible show wpList _ _ _ ({ dst := _, op := Op.load 26 (Operand.tmp 4), type := _, pos := _, after := _, guard := _ } :: _) _ _); refine wpList_ldr ty_corner rfl _ rfl _ rfl _ rfl (HO.out.at 2 rfl) ?_) | ((with_reducible show wpList _ _ _ ({ dst := _, op := Op.load 26 (Operand.tmp 5), type := _, pos := _, after := _, guard := _ } :: _) _ _); refine wpList_ldr ty_corner rfl _ rfl _ rfl _ rfl (HO.out.at 1 rfl) ?_) | (go_at_call 10; (with_reducible refine (M1 _).mono ?_); rintro e wz ⟨rfl, hk1⟩; have l2 := HO.out.call hk1; clear HO hk1; have HO := Lib.hid l2; clear l2) | (go_at_call 10; (with_reducible refine (M2 _).mono ?_); rintro e wz ⟨rfl, hk1⟩; have l2 := HO.out.call hk1; clear HO hk1; have HO := Lib.hid l2; clear l2) | ((with_reducible show wpList _ _ _ ({ dst := _, op := Op.load 23 (Operand.tmp 74), type := _, pos := _, after := _, guard := _ } :: _) _ _); refine wpList_ldm ty_vec rfl _ rfl _ _ rfl _ rfl (Rc.vec (c := a) (HO.out.at 2 rfl)) ?_) | ((with_reducible show wpList _ _ _ ({ dst := _, op := Op.load 23 (Operand.tmp 96), type := _, pos := _, after := _, guard := _ } :: _) _ _); refine wpList_ldm ty_vec rfl _ rfl _ _ rfl _ rfl (Rc.vec (c := b) (HO.out.at 1 rfl)) ?_) | (go_at_call 11; (with_reducible refine (R1 _).mono ?_); rintro e wz ⟨rfl, hk1⟩; have l2 := HO.out.call hk1; clear HO hk1; have HO := Lib.hid l2; clear l2) | (go_at_call 11; (with_reducible refine (R2 _).mono ?_); rintro e wz ⟨rfl, hk1⟩; have l2 := HO.out.call hk1; clear HO hk1; have HO := Lib.hid l2; clear l2) | (go_at_call 9; refine (awake_any _).mono ?_; rintro e wz ⟨rfl, hk1⟩; have l2 := HO.out.call hk1; clear HO hk1; have HO := Lib.hid l2; clear l2))
    go_ret
    exact ⟨rfl, HO.out.k⟩
set_option linter.unusedSimpArgs false in
set_option maxRecDepth 100000 in
set_option maxHeartbeats 8000000 in
theorem cuts_yes (k : Nat) (a b : Cn) (w : World) (hk : k < 7) (ha : Cl.mayB a = true) (hb : Cl.mayB b = true) (h0 : Cl.inn k a = true) (h1 : Cl.inn k b = false) :
    Calls Try.prog 3 #[.int .i64 k, .agg #[.int .i64 (a 0), .int .i64 (a 1), .int .i64 (a 2), .int .i64 (a 3), .int .i64 (a 4), .int .i64 (a 5), .int .i64 (a 6), .int .i64 (a 7), .int .i64 (a 8), .int .i64 (a 9)], .agg #[.int .i64 (b 0), .int .i64 (b 1), .int .i64 (b 2), .int .i64 (b 3), .int .i64 (b 4), .int .i64 (b 5), .int .i64 (b 6), .int .i64 (b 7), .int .i64 (b 8), .int .i64 (b 9)]] w fun e w' => e = .returned (.bool true) ∧ Kp w.heap.size w w' := by
  have q1 : decide ((k : Int) < 0) = false := decide_eq_false (by omega)
  have q2 : decide (6 < (k : Int)) = false := decide_eq_false (by omega)
  have hp : Cl.pl (k : Int) = true := Cl.pl_iff.2 (by omega)
  have FA := fun W => far_yes k a W hk (Cl.may_iff.1 ha)
  have M1 := fun W => rmay_any a W
  have M2 := fun W => rmay_any b W
  have R1 := fun W => rfar_any k a W hk (Cl.may_iff.1 ha).1
  rw [ha] at M1
  have R2 := fun W => rfar_any k b W hk (Cl.may_iff.1 hb).1
  have CU := fun W => cut_yes k a b W hk (Cl.may_iff.1 ha) (Cl.may_iff.1 hb) (Cl.inn_iff.1 h0) (Cl.inn_no.1 h1)
  have RC := fun W => rcut_any k a b W hk (Cl.may_iff.1 ha) (Cl.may_iff.1 hb) (Cl.inn_iff.1 h0) (Cl.inn_no.1 h1)
  have hmc := Cl.cut_may (Cl.may_iff.1 ha) (Cl.may_iff.1 hb) (Cl.inn_iff.1 h0) (Cl.inn_no.1 h1)
  have RF := fun W => rfar_any k (Cl.cut k a b) W hk hmc.1
  rw [Cl.cut_far] at RF
  have RM := fun W => rmay_any (Cl.cut k a b) W
  rw [Cl.may_iff.2 hmc] at RM
  rw [hb] at M2
  have hE := run_eqN_same (Cl.cut k a b)
  have q3 : decide (Cl.far k a < 0) = false := decide_eq_false (by have := Cl.inn_iff.1 h0; omega)
  have q4 : decide (0 ≤ Cl.far k b) = false := h1
  clear hp ha hb h0 h1 hmc
  generalize Cl.cut k a b = c at *
  generalize Cl.far k a = fa at *
  generalize Cl.far k b = fb at *
  have HO := Lib.hid (((Ow.refl w).newAt w.heap.size rfl (.int .i64 (a 0)) [.int .i64 (a 1), .int .i64 (a 2), .int .i64 (a 3), .int .i64 (a 4), .int .i64 (a 5), .int .i64 (a 6), .int .i64 (a 7), .int .i64 (a 8), .int .i64 (a 9)] 26).newAt (w.heap.size + 1) (by simp) (.int .i64 (b 0)) [.int .i64 (b 1), .int .i64 (b 2), .int .i64 (b 3), .int .i64 (b 4), .int .i64 (b 5), .int .i64 (b 6), .int .i64 (b 7), .int .i64 (b 8), .int .i64 (b 9)] 26)
  go_enter Try.func3, Try.ntmps3
  go_upto_region 2 with (first | ((with_reducible show wpList _ _ _ ({ dst := _, op := Op.load 26 (Operand.tmp 4), type := _, pos := _, after := _, guard := _ } :: _) _ _); refine wpList_ldr ty_corner rfl _ rfl _ rfl _ rfl (HO.out.at 1 rfl) ?_) | ((with_reducible show wpList _ _ _ ({ dst := _, op := Op.load 26 (Operand.tmp 5), type := _, pos := _, after := _, guard := _ } :: _) _ _); refine wpList_ldr ty_corner rfl _ rfl _ rfl _ rfl (HO.out.at 0 rfl) ?_) | (go_at_call 7; (with_reducible refine (CU _).mono ?_); rintro e w1 ⟨rfl, hk1⟩; have l2 := (HO.out.call hk1).newAt w1.heap.size rfl (.int .i64 (c 0)) [.int .i64 (c 1), .int .i64 (c 2), .int .i64 (c 3), .int .i64 (c 4), .int .i64 (c 5), .int .i64 (c 6), .int .i64 (c 7), .int .i64 (c 8), .int .i64 (c 9)] 26; clear HO hk1; have HO := Lib.hid l2; clear l2))
  generalize w1.heap.size = p7 at *
  go_upto_region 3 with (first | ((with_reducible show wpList _ _ _ ({ dst := _, op := Op.load 26 (Operand.tmp 4), type := _, pos := _, after := _, guard := _ } :: _) _ _); refine wpList_ldr ty_corner rfl _ rfl _ rfl _ rfl (HO.out.at 2 rfl) ?_) | (go_at_call 8; (with_reducible refine (FA _).mono ?_); rintro e wz ⟨rfl, hk1⟩; have l2 := HO.out.call hk1; clear HO hk1; have HO := Lib.hid l2; clear l2))
  go_upto_region 13 with (first | go_big_skip | ((with_reducible show wpList _ _ _ ({ dst := _, op := Op.load 26 (Operand.tmp 4), type := _, pos := _, after := _, guard := _ } :: _) _ _); refine wpList_ldr ty_corner rfl _ rfl _ rfl _ rfl (HO.out.at 2 rfl) ?_) | ((with_reducible show wpList _ _ _ ({ dst := _, op := Op.load 26 (Operand.tmp 5), type := _, pos := _, after := _, guard := _ } :: _) _ _); refine wpList_ldr ty_corner rfl _ rfl _ rfl _ rfl (HO.out.at 1 rfl) ?_) | (go_at_call 10; (with_reducible refine (M1 _).mono ?_); rintro e wz ⟨rfl, hk1⟩; have l2 := HO.out.call hk1; clear HO hk1; have HO := Lib.hid l2; clear l2) | (go_at_call 10; (with_reducible refine (M2 _).mono ?_); rintro e wz ⟨rfl, hk1⟩; have l2 := HO.out.call hk1; clear HO hk1; have HO := Lib.hid l2; clear l2) | ((with_reducible show wpList _ _ _ ({ dst := _, op := Op.load 23 (Operand.tmp 74), type := _, pos := _, after := _, guard := _ } :: _) _ _); refine wpList_ldm ty_vec rfl _ rfl _ _ rfl _ rfl (Rc.vec (c := a) (HO.out.at 2 rfl)) ?_) | ((with_reducible show wpList _ _ _ ({ dst := _, op := Op.load 23 (Operand.tmp 96), type := _, pos := _, after := _, guard := _ } :: _) _ _); refine wpList_ldm ty_vec rfl _ rfl _ _ rfl _ rfl (Rc.vec (c := b) (HO.out.at 1 rfl)) ?_) | (go_at_call 11; (with_reducible refine (R1 _).mono ?_); rintro e wz ⟨rfl, hk1⟩; have l2 := HO.out.call hk1; clear HO hk1; have HO := Lib.hid l2; clear l2) | (go_at_call 11; (with_reducible refine (R2 _).mono ?_); rintro e wz ⟨rfl, hk1⟩; have l2 := HO.out.call hk1; clear HO hk1; have HO := Lib.hid l2; clear l2))
  refine Rg.region (I := fun _ W => Ow w W [(p7, [.int .i64 (c 0), .int .i64 (c 1), .int .i64 (c 2), .int .i64 (c 3), .int .i64 (c 4), .int .i64 (c 5), .int .i64 (c 6), .int .i64 (c 7), .int .i64 (c 8), .int .i64 (c 9)]), (w.heap.size + 1, [.int .i64 (b 0), .int .i64 (b 1), .int .i64 (b 2), .int .i64 (b 3), .int .i64 (b 4), .int .i64 (b 5), .int .i64 (b 6), .int .i64 (b 7), .int .i64 (b 8), .int .i64 (b 9)]), (w.heap.size, [.int .i64 (a 0), .int .i64 (a 1), .int .i64 (a 2), .int .i64 (a 3), .int .i64 (a 4), .int .i64 (a 5), .int .i64 (a 6), .int .i64 (a 7), .int .i64 (a 8), .int .i64 (a 9)])]) (dem := fun _ => false) (m := 25) (g := 0) (T := fun listed bs st => ∀ W, Ow w W [(p7, [.int .i64 (c 0), .int .i64 (c 1), .int .i64 (c 2), .int .i64 (c 3), .int .i64 (c 4), .int .i64 (c 5), .int .i64 (c 6), .int .i64 (c 7), .int .i64 (c 8), .int .i64 (c 9)]), (w.heap.size + 1, [.int .i64 (b 0), .int .i64 (b 1), .int .i64 (b 2), .int .i64 (b 3), .int .i64 (b 4), .int .i64 (b 5), .int .i64 (b 6), .int .i64 (b 7), .int .i64 (b 8), .int .i64 (b 9)]), (w.heap.size, [.int .i64 (a 0), .int .i64 (a 1), .int .i64 (a 2), .int .i64 (a 3), .int .i64 (a 4), .int .i64 (a 5), .int .i64 (a 6), .int .i64 (a 7), .int .i64 (a 8), .int .i64 (a 9)])] → wpAny Try.prog .any _ _ 0 listed st W) (by kernel_rfl) HO.out.drew rfl (fun _ _ _ _ h hI => h _ hI) ?_
  clear HO
  refine Rg.take 0 (v := .int .i64 0) rfl rfl (by kernel_rfl) (by kernel_rfl) (by kernel_rfl) (by kernel_rfl) (by kernel_rfl) (.inl ⟨rfl, fun bs wq hI => ?_⟩) ?_
  · go_simp
  simp only [Act.put, List.getElem_toArray, List.getElem_cons_zero, List.getElem_cons_succ, List.setIfInBounds_toArray, List.set_cons_zero, List.set_cons_succ]
  refine Rg.take 1 (v := .bool true) rfl rfl (by kernel_rfl) (by kernel_rfl) (by kernel_rfl) (by kernel_rfl) (by kernel_rfl) (.inl ⟨rfl, fun bs wq hI => ?_⟩) ?_
  · go_simp
  simp only [Act.put, List.getElem_toArray, List.getElem_cons_zero, List.getElem_cons_succ, List.setIfInBounds_toArray, List.set_cons_zero, List.set_cons_succ]
  refine Rg.take 2 (v := .bool true) rfl rfl (by kernel_rfl) (by kernel_rfl) (by kernel_rfl) (by kernel_rfl) (by kernel_rfl) (.inl ⟨rfl, fun bs wq hI => ?_⟩) ?_
  · go_simp
  simp only [Act.put, List.getElem_toArray, List.getElem_cons_zero, List.getElem_cons_succ, List.setIfInBounds_toArray, List.set_cons_zero, List.set_cons_succ]
  refine Rg.take 3 (v := .agg #[.int .i64 (c 0), .int .i64 (c 1), .int .i64 (c 2), .int .i64 (c 3), .int .i64 (c 4), .int .i64 (c 5), .int .i64 (c 6), .int .i64 (c 7), .int .i64 (c 8), .int .i64 (c 9)]) rfl rfl (by kernel_rfl) (by kernel_rfl) (by kernel_rfl) (by kernel_rfl) (by kernel_rfl) (.inl ⟨rfl, fun bs wq hI => ?_⟩) ?_
  · exact quiet_ldr ty_corner (.tmp 7) rfl rfl rfl (hI.at 0 rfl)
  simp only [Act.put, List.getElem_toArray, List.getElem_cons_zero, List.getElem_cons_succ, List.setIfInBounds_toArray, List.set_cons_zero, List.set_cons_succ]
  refine Rg.take 4 (v := .int .i64 k) rfl rfl (by kernel_rfl) (by kernel_rfl) (by kernel_rfl) (by kernel_rfl) (by kernel_rfl) (.inl ⟨rfl, fun bs wq hI => ?_⟩) ?_
  · go_simp
  simp only [Act.put, List.getElem_toArray, List.getElem_cons_zero, List.getElem_cons_succ, List.setIfInBounds_toArray, List.set_cons_zero, List.set_cons_succ]
  refine Rg.take 5 (v := .agg #[.int .i64 (a 0), .int .i64 (a 1), .int .i64 (a 2), .int .i64 (a 3), .int .i64 (a 4), .int .i64 (a 5), .int .i64 (a 6), .int .i64 (a 7), .int .i64 (a 8), .int .i64 (a 9)]) rfl rfl (by kernel_rfl) (by kernel_rfl) (by kernel_rfl) (by kernel_rfl) (by kernel_rfl) (.inl ⟨rfl, fun bs wq hI => ?_⟩) ?_
  · exact quiet_ldr ty_corner (.tmp 4) rfl rfl rfl (hI.at 2 rfl)
  simp only [Act.put, List.getElem_toArray, List.getElem_cons_zero, List.getElem_cons_succ, List.setIfInBounds_toArray, List.set_cons_zero, List.set_cons_succ]
  refine Rg.take 6 (v := .agg #[.int .i64 (b 0), .int .i64 (b 1), .int .i64 (b 2), .int .i64 (b 3), .int .i64 (b 4), .int .i64 (b 5), .int .i64 (b 6), .int .i64 (b 7), .int .i64 (b 8), .int .i64 (b 9)]) rfl rfl (by kernel_rfl) (by kernel_rfl) (by kernel_rfl) (by kernel_rfl) (by kernel_rfl) (.inl ⟨rfl, fun bs wq hI => ?_⟩) ?_
  · exact quiet_ldr ty_corner (.tmp 5) rfl rfl rfl (hI.at 1 rfl)
  simp only [Act.put, List.getElem_toArray, List.getElem_cons_zero, List.getElem_cons_succ, List.setIfInBounds_toArray, List.set_cons_zero, List.set_cons_succ]
  refine Rg.take 7 (v := .agg #[.int .i64 (c 0), .int .i64 (c 1), .int .i64 (c 2), .int .i64 (c 3), .int .i64 (c 4), .int .i64 (c 5), .int .i64 (c 6), .int .i64 (c 7), .int .i64 (c 8), .int .i64 (c 9)]) rfl rfl (by kernel_rfl) (by kernel_rfl) (by kernel_rfl) (by kernel_rfl) (by kernel_rfl) (.inl ⟨rfl, fun bs wq hI => ?_⟩) ?_
  · (go_simp; exact (RC _).mono fun e w2 h => ⟨h.1, hI.call h.2⟩)
  simp only [Act.put, List.getElem_toArray, List.getElem_cons_zero, List.getElem_cons_succ, List.setIfInBounds_toArray, List.set_cons_zero, List.set_cons_succ]
  refine Rg.take 8 (v := .bool true) rfl rfl (by kernel_rfl) (by kernel_rfl) (by kernel_rfl) (by kernel_rfl) (by kernel_rfl) (.inl ⟨rfl, fun bs wq hI => ?_⟩) ?_
  · go_simp
  simp only [Act.put, List.getElem_toArray, List.getElem_cons_zero, List.getElem_cons_succ, List.setIfInBounds_toArray, List.set_cons_zero, List.set_cons_succ]
  refine Rg.take 9 (v := .bool true) rfl rfl (by kernel_rfl) (by kernel_rfl) (by kernel_rfl) (by kernel_rfl) (by kernel_rfl) (.inl ⟨rfl, fun bs wq hI => ?_⟩) ?_
  · go_simp
  simp only [Act.put, List.getElem_toArray, List.getElem_cons_zero, List.getElem_cons_succ, List.setIfInBounds_toArray, List.set_cons_zero, List.set_cons_succ]
  refine Rg.take 10 (v := .bool true) rfl rfl (by kernel_rfl) (by kernel_rfl) (by kernel_rfl) (by kernel_rfl) (by kernel_rfl) (.inl ⟨rfl, fun bs wq hI => ?_⟩) ?_
  · go_simp
  simp only [Act.put, List.getElem_toArray, List.getElem_cons_zero, List.getElem_cons_succ, List.setIfInBounds_toArray, List.set_cons_zero, List.set_cons_succ]
  refine Rg.take 11 (v := .int .i64 k) rfl rfl (by kernel_rfl) (by kernel_rfl) (by kernel_rfl) (by kernel_rfl) (by kernel_rfl) (.inl ⟨rfl, fun bs wq hI => ?_⟩) ?_
  · go_simp
  simp only [Act.put, List.getElem_toArray, List.getElem_cons_zero, List.getElem_cons_succ, List.setIfInBounds_toArray, List.set_cons_zero, List.set_cons_succ]
  refine Rg.take 12 (v := .pointer (some ⟨p7, 0, none⟩)) rfl rfl (by kernel_rfl) (by kernel_rfl) (by kernel_rfl) (by kernel_rfl) (by kernel_rfl) (.inl ⟨rfl, fun bs wq hI => ?_⟩) ?_
  · go_simp
  simp only [Act.put, List.getElem_toArray, List.getElem_cons_zero, List.getElem_cons_succ, List.setIfInBounds_toArray, List.set_cons_zero, List.set_cons_succ]
  refine Rg.take 13 (v := .agg #[.int .i64 (c 0), .int .i64 (c 1), .int .i64 (c 2), .int .i64 (c 3)]) rfl rfl (by kernel_rfl) (by kernel_rfl) (by kernel_rfl) (by kernel_rfl) (by kernel_rfl) (.inl ⟨rfl, fun bs wq hI => ?_⟩) ?_
  · exact quiet_ldm ty_vec (.tmp 123) rfl rfl rfl (Rc.vec (c := c) (hI.at 0 rfl))
  simp only [Act.put, List.getElem_toArray, List.getElem_cons_zero, List.getElem_cons_succ, List.setIfInBounds_toArray, List.set_cons_zero, List.set_cons_succ]
  refine Rg.take 14 (v := .int .i64 0) rfl rfl (by kernel_rfl) (by kernel_rfl) (by kernel_rfl) (by kernel_rfl) (by kernel_rfl) (.inl ⟨rfl, fun bs wq hI => ?_⟩) ?_
  · (go_simp; exact (RF _).mono fun e w2 h => ⟨h.1, hI.call h.2⟩)
  simp only [Act.put, List.getElem_toArray, List.getElem_cons_zero, List.getElem_cons_succ, List.setIfInBounds_toArray, List.set_cons_zero, List.set_cons_succ]
  refine Rg.take 15 (v := .bool true) rfl rfl (by kernel_rfl) (by kernel_rfl) (by kernel_rfl) (by kernel_rfl) (by kernel_rfl) (.inl ⟨rfl, fun bs wq hI => ?_⟩) ?_
  · go_simp
  simp only [Act.put, List.getElem_toArray, List.getElem_cons_zero, List.getElem_cons_succ, List.setIfInBounds_toArray, List.set_cons_zero, List.set_cons_succ]
  refine Rg.take 16 (v := .bool true) rfl rfl (by kernel_rfl) (by kernel_rfl) (by kernel_rfl) (by kernel_rfl) (by kernel_rfl) (.inl ⟨rfl, fun bs wq hI => ?_⟩) ?_
  · go_simp
  simp only [Act.put, List.getElem_toArray, List.getElem_cons_zero, List.getElem_cons_succ, List.setIfInBounds_toArray, List.set_cons_zero, List.set_cons_succ]
  refine Rg.take 17 (v := .bool true) rfl rfl (by kernel_rfl) (by kernel_rfl) (by kernel_rfl) (by kernel_rfl) (by kernel_rfl) (.inl ⟨rfl, fun bs wq hI => ?_⟩) ?_
  · go_simp
  simp only [Act.put, List.getElem_toArray, List.getElem_cons_zero, List.getElem_cons_succ, List.setIfInBounds_toArray, List.set_cons_zero, List.set_cons_succ]
  refine Rg.take 18 (v := .agg #[.int .i64 (c 0), .int .i64 (c 1), .int .i64 (c 2), .int .i64 (c 3), .int .i64 (c 4), .int .i64 (c 5), .int .i64 (c 6), .int .i64 (c 7), .int .i64 (c 8), .int .i64 (c 9)]) rfl rfl (by kernel_rfl) (by kernel_rfl) (by kernel_rfl) (by kernel_rfl) (by kernel_rfl) (.inl ⟨rfl, fun bs wq hI => ?_⟩) ?_
  · exact quiet_ldr ty_corner (.tmp 7) rfl rfl rfl (hI.at 0 rfl)
  simp only [Act.put, List.getElem_toArray, List.getElem_cons_zero, List.getElem_cons_succ, List.setIfInBounds_toArray, List.set_cons_zero, List.set_cons_succ]
  refine Rg.take 19 (v := .bool true) rfl rfl (by kernel_rfl) (by kernel_rfl) (by kernel_rfl) (by kernel_rfl) (by kernel_rfl) (.inl ⟨rfl, fun bs wq hI => ?_⟩) ?_
  · (go_simp; exact (RM _).mono fun e w2 h => ⟨h.1, hI.call h.2⟩)
  simp only [Act.put, List.getElem_toArray, List.getElem_cons_zero, List.getElem_cons_succ, List.setIfInBounds_toArray, List.set_cons_zero, List.set_cons_succ]
  refine Rg.take 20 (v := .bool true) rfl rfl (by kernel_rfl) (by kernel_rfl) (by kernel_rfl) (by kernel_rfl) (by kernel_rfl) (.inl ⟨rfl, fun bs wq hI => ?_⟩) ?_
  · go_simp
  simp only [Act.put, List.getElem_toArray, List.getElem_cons_zero, List.getElem_cons_succ, List.setIfInBounds_toArray, List.set_cons_zero, List.set_cons_succ]
  refine Rg.take 21 (v := .bool true) rfl rfl (by kernel_rfl) (by kernel_rfl) (by kernel_rfl) (by kernel_rfl) (by kernel_rfl) (.inl ⟨rfl, fun bs wq hI => ?_⟩) ?_
  · go_simp
  simp only [Act.put, List.getElem_toArray, List.getElem_cons_zero, List.getElem_cons_succ, List.setIfInBounds_toArray, List.set_cons_zero, List.set_cons_succ]
  refine Rg.take 22 (v := .bool true) rfl rfl (by kernel_rfl) (by kernel_rfl) (by kernel_rfl) (by kernel_rfl) (by kernel_rfl) (.inl ⟨rfl, fun bs wq hI => ?_⟩) ?_
  · (go_simp; exact (awake_any _).mono fun e w2 h => ⟨h.1, hI.call h.2⟩)
  simp only [Act.put, List.getElem_toArray, List.getElem_cons_zero, List.getElem_cons_succ, List.setIfInBounds_toArray, List.set_cons_zero, List.set_cons_succ]
  refine Rg.take 23 (v := .bool true) rfl rfl (by kernel_rfl) (by kernel_rfl) (by kernel_rfl) (by kernel_rfl) (by kernel_rfl) (.inl ⟨rfl, fun bs wq hI => ?_⟩) ?_
  · go_simp
  simp only [Act.put, List.getElem_toArray, List.getElem_cons_zero, List.getElem_cons_succ, List.setIfInBounds_toArray, List.set_cons_zero, List.set_cons_succ]
  refine Rg.take 24 (v := .bool true) rfl rfl (by kernel_rfl) (by kernel_rfl) (by kernel_rfl) (by kernel_rfl) (by kernel_rfl) (.inl ⟨rfl, fun bs wq hI => ?_⟩) ?_
  · go_simp
  simp only [Act.put, List.getElem_toArray, List.getElem_cons_zero, List.getElem_cons_succ, List.setIfInBounds_toArray, List.set_cons_zero, List.set_cons_succ]
  refine Rg.done (rs := []) (by kernel_rfl) (by decide) (fun W hI => ?_)
  have HO := Lib.hid hI
  clear hI
  refine wpAny_done (by kernel_rfl) ?_ _
  go_wp2_with fail
  go_ret
  exact ⟨rfl, HO.out.k⟩
theorem cuts_walk (k : Int) (a b : Cn) (w : World) :
    Calls Try.prog 3 #[.int .i64 k, .agg #[.int .i64 (a 0), .int .i64 (a 1), .int .i64 (a 2), .int .i64 (a 3), .int .i64 (a 4), .int .i64 (a 5), .int .i64 (a 6), .int .i64 (a 7), .int .i64 (a 8), .int .i64 (a 9)], .agg #[.int .i64 (b 0), .int .i64 (b 1), .int .i64 (b 2), .int .i64 (b 3), .int .i64 (b 4), .int .i64 (b 5), .int .i64 (b 6), .int .i64 (b 7), .int .i64 (b 8), .int .i64 (b 9)]] w fun e w' => e = .returned (.bool true) ∧ Kp w.heap.size w w' := by
  cases hp : Cl.pl k
  · exact cuts_pl k a b w hp
  obtain ⟨k1, k2⟩ := Cl.pl_iff.1 hp
  obtain ⟨z, rfl⟩ : ∃ z : Nat, k = (z : Int) := ⟨k.toNat, by omega⟩
  have hz : z < 7 := by omega
  cases ha : Cl.mayB a
  · exact cuts_a z a b w hz ha
  cases hb : Cl.mayB b
  · exact cuts_b z a b w hz ha hb
  cases hf : (Cl.inn z a && !Cl.inn z b)
  · exact cuts_form z a b w hz ha hb hf
  · rw [Bool.and_eq_true, Bool.not_eq_true'] at hf
    exact cuts_yes z a b w hz ha hb hf.1 hf.2
end Go.Proofs.Ytfhlnldiljldcaa
