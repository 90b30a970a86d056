/-
  ViewOrders: its Go text returns true.
-/
import Derived.Test.YthhfhkenpkfioaaViewAwake
import Derived.Test.YthhfhkenpkfioaaMem4
import Derived.BigGuard
namespace Go.Proofs.Ythhfhkenpkfioaa
open Go.RowKit

theorem orders_tests {n m a b : Int} (h1 : n ≤ m → a ≤ b) (h2 : m ≤ n → b ≤ a) : (decide (n ≤ m) = true ∧ decide (a ≤ b) = true) ∨ (decide (n ≤ m) = false ∧ decide (m ≤ n) = true ∧ decide (b ≤ a) = true) := by
  by_cases h : n ≤ m
  · exact .inl ⟨decide_eq_true h, decide_eq_true (h1 h)⟩
  · exact .inr ⟨decide_eq_false h, decide_eq_true (by omega), decide_eq_true (h2 (by omega))⟩
set_option linter.unusedSimpArgs false in
set_option maxRecDepth 100000 in
set_option maxHeartbeats 8000000 in
theorem orders_is (c d : Cn) (x y z u : Int) (w : World) (h : Vw.is x y z u = false) :
    Calls Try.prog 4 #[.agg #[.int .i64 (c 0), .int .i64 (c 1), .int .i64 (c 2), .int .i64 (c 3), .int .i64 (c 4), .int .i64 (c 5), .int .i64 (c 6), .int .i64 (c 7), .int .i64 (c 8), .int .i64 (c 9)], .agg #[.int .i64 (d 0), .int .i64 (d 1), .int .i64 (d 2), .int .i64 (d 3), .int .i64 (d 4), .int .i64 (d 5), .int .i64 (d 6), .int .i64 (d 7), .int .i64 (d 8), .int .i64 (d 9)], .agg #[.int .i64 x, .int .i64 y, .int .i64 z, .int .i64 u]] w fun e w' => e = .returned (.bool true) ∧ Kp w.heap.size w w' := by
  have I1 := fun W => ris16_any x y z u W
  have M1 := fun W => rmay16_any c W
  have M2 := fun W => rmay16_any (Cl.set d 3 (c 3)) W
  rw [h] at I1
  clear h
  have HO : Hid (Ow w _ [(w.heap.size + 2, [.int .i64 x, .int .i64 y, .int .i64 z, .int .i64 u]), (w.heap.size + 1, [.int .i64 (d 0), .int .i64 (d 1), .int .i64 (d 2), .int .i64 (c 3), .int .i64 (d 4), .int .i64 (d 5), .int .i64 (d 6), .int .i64 (d 7), .int .i64 (d 8), .int .i64 (d 9)]), (w.heap.size, [.int .i64 (c 0), .int .i64 (c 1), .int .i64 (c 2), .int .i64 (c 3), .int .i64 (c 4), .int .i64 (c 5), .int .i64 (c 6), .int .i64 (c 7), .int .i64 (c 8), .int .i64 (c 9)])]) := Lib.hid (((Ow.refl w).newAt w.heap.size rfl (.int .i64 (c 0)) [.int .i64 (c 1), .int .i64 (c 2), .int .i64 (c 3), .int .i64 (c 4), .int .i64 (c 5), .int .i64 (c 6), .int .i64 (c 7), .int .i64 (c 8), .int .i64 (c 9)] 26).newAt (w.heap.size + 1) (by simp) (.int .i64 (d 0)) [.int .i64 (d 1), .int .i64 (d 2), .int .i64 (c 3), .int .i64 (d 4), .int .i64 (d 5), .int .i64 (d 6), .int .i64 (d 7), .int .i64 (d 8), .int .i64 (d 9)] 26 |>.newAt (w.heap.size + 2) (by simp) (.int .i64 x) [.int .i64 y, .int .i64 z, .int .i64 u] 28)
  go_enter Try.func4, Try.ntmps4
  go_upto_region 2 with fail
  generalize hV : World.alloc _ _ = V0 at *
  clear hV
  have l2 : Ow w V0 [(w.heap.size + 2, [.int .i64 x, .int .i64 y, .int .i64 z, .int .i64 u]), (w.heap.size + 1, [.int .i64 ((Cl.set d 3 (c 3)) 0), .int .i64 ((Cl.set d 3 (c 3)) 1), .int .i64 ((Cl.set d 3 (c 3)) 2), .int .i64 ((Cl.set d 3 (c 3)) 3), .int .i64 ((Cl.set d 3 (c 3)) 4), .int .i64 ((Cl.set d 3 (c 3)) 5), .int .i64 ((Cl.set d 3 (c 3)) 6), .int .i64 ((Cl.set d 3 (c 3)) 7), .int .i64 ((Cl.set d 3 (c 3)) 8), .int .i64 ((Cl.set d 3 (c 3)) 9)]), (w.heap.size, [.int .i64 (c 0), .int .i64 (c 1), .int .i64 (c 2), .int .i64 (c 3), .int .i64 (c 4), .int .i64 (c 5), .int .i64 (c 6), .int .i64 (c 7), .int .i64 (c 8), .int .i64 (c 9)])] := HO.out
  clear HO
  have HO := Lib.hid l2
  clear l2
  generalize Cl.set d 3 (c 3) = q at *
  go_wp2_with (first | go_big_skip | ((with_reducible show wpList _ _ _ ({ dst := _, op := Op.load 28 (Operand.tmp 5), type := _, pos := _, after := _, guard := _ } :: _) _ _); refine wpList_ldr ty_rect rfl _ rfl _ rfl _ rfl (HO.out.at 0 rfl) ?_) | ((with_reducible show wpList _ _ _ ({ dst := _, op := Op.load 26 (Operand.tmp 3), type := _, pos := _, after := _, guard := _ } :: _) _ _); refine wpList_ldr ty_corner rfl _ rfl _ rfl _ rfl (HO.out.at 2 rfl) ?_) | ((with_reducible show wpList _ _ _ ({ dst := _, op := Op.load 26 (Operand.tmp 4), type := _, pos := _, after := _, guard := _ } :: _) _ _); refine wpList_ldr ty_corner rfl _ rfl _ rfl _ rfl (HO.out.at 1 rfl) ?_) | (go_at_call 8; (with_reducible refine (I1 _).mono ?_); rintro e wz ⟨rfl, hk1⟩; have l2 := HO.out.call hk1; clear HO hk1; have HO := Lib.hid l2; clear l2) | (go_at_call 10; (first | (with_reducible refine (M1 _).mono ?_) | (with_reducible refine (M2 _).mono ?_)); rintro e wz ⟨rfl, hk1⟩; have l2 := HO.out.call hk1; clear HO hk1; have HO := Lib.hid l2; clear l2) | (go_at_call 9; refine (awake_any _).mono ?_; rintro e wz ⟨rfl, hk1⟩; have l2 := HO.out.call hk1; clear HO hk1; have HO := Lib.hid l2; clear l2))
  go_ret
  exact ⟨rfl, HO.out.k⟩
set_option linter.unusedSimpArgs false in
set_option maxRecDepth 100000 in
set_option maxHeartbeats 8000000 in
theorem orders_c (c d : Cn) (x y z u : Int) (w : World) (h : Vw.is x y z u = true) (hc : Vw.hasB c = false) :
    Calls Try.prog 4 #[.agg #[.int .i64 (c 0), .int .i64 (c 1), .int .i64 (c 2), .int .i64 (c 3), .int .i64 (c 4), .int .i64 (c 5), .int .i64 (c 6), .int .i64 (c 7), .int .i64 (c 8), .int .i64 (c 9)], .agg #[.int .i64 (d 0), .int .i64 (d 1), .int .i64 (d 2), .int .i64 (d 3), .int .i64 (d 4), .int .i64 (d 5), .int .i64 (d 6), .int .i64 (d 7), .int .i64 (d 8), .int .i64 (d 9)], .agg #[.int .i64 x, .int .i64 y, .int .i64 z, .int .i64 u]] w fun e w' => e = .returned (.bool true) ∧ Kp w.heap.size w w' := by
  have I1 := fun W => ris16_any x y z u W
  have M1 := fun W => rmay16_any c W
  have M2 := fun W => rmay16_any (Cl.set d 3 (c 3)) W
  rw [h] at I1
  rw [hc] at M1
  clear h hc
  have HO : Hid (Ow w _ [(w.heap.size + 2, [.int .i64 x, .int .i64 y, .int .i64 z, .int .i64 u]), (w.heap.size + 1, [.int .i64 (d 0), .int .i64 (d 1), .int .i64 (d 2), .int .i64 (c 3), .int .i64 (d 4), .int .i64 (d 5), .int .i64 (d 6), .int .i64 (d 7), .int .i64 (d 8), .int .i64 (d 9)]), (w.heap.size, [.int .i64 (c 0), .int .i64 (c 1), .int .i64 (c 2), .int .i64 (c 3), .int .i64 (c 4), .int .i64 (c 5), .int .i64 (c 6), .int .i64 (c 7), .int .i64 (c 8), .int .i64 (c 9)])]) := Lib.hid (((Ow.refl w).newAt w.heap.size rfl (.int .i64 (c 0)) [.int .i64 (c 1), .int .i64 (c 2), .int .i64 (c 3), .int .i64 (c 4), .int .i64 (c 5), .int .i64 (c 6), .int .i64 (c 7), .int .i64 (c 8), .int .i64 (c 9)] 26).newAt (w.heap.size + 1) (by simp) (.int .i64 (d 0)) [.int .i64 (d 1), .int .i64 (d 2), .int .i64 (c 3), .int .i64 (d 4), .int .i64 (d 5), .int .i64 (d 6), .int .i64 (d 7), .int .i64 (d 8), .int .i64 (d 9)] 26 |>.newAt (w.heap.size + 2) (by simp) (.int .i64 x) [.int .i64 y, .int .i64 z, .int .i64 u] 28)
  go_enter Try.func4, Try.ntmps4
  go_upto_region 2 with fail
  generalize hV : World.alloc _ _ = V0 at *
  clear hV
  have l2 : Ow w V0 [(w.heap.size + 2, [.int .i64 x, .int .i64 y, .int .i64 z, .int .i64 u]), (w.heap.size + 1, [.int .i64 ((Cl.set d 3 (c 3)) 0), .int .i64 ((Cl.set d 3 (c 3)) 1), .int .i64 ((Cl.set d 3 (c 3)) 2), .int .i64 ((Cl.set d 3 (c 3)) 3), .int .i64 ((Cl.set d 3 (c 3)) 4), .int .i64 ((Cl.set d 3 (c 3)) 5), .int .i64 ((Cl.set d 3 (c 3)) 6), .int .i64 ((Cl.set d 3 (c 3)) 7), .int .i64 ((Cl.set d 3 (c 3)) 8), .int .i64 ((Cl.set d 3 (c 3)) 9)]), (w.heap.size, [.int .i64 (c 0), .int .i64 (c 1), .int .i64 (c 2), .int .i64 (c 3), .int .i64 (c 4), .int .i64 (c 5), .int .i64 (c 6), .int .i64 (c 7), .int .i64 (c 8), .int .i64 (c 9)])] := HO.out
  clear HO
  have HO := Lib.hid l2
  clear l2
  generalize Cl.set d 3 (c 3) = q at *
  go_wp2_with (first | go_big_skip | ((with_reducible show wpList _ _ _ ({ dst := _, op := Op.load 28 (Operand.tmp 5), type := _, pos := _, after := _, guard := _ } :: _) _ _); refine wpList_ldr ty_rect rfl _ rfl _ rfl _ rfl (HO.out.at 0 rfl) ?_) | ((with_reducible show wpList _ _ _ ({ dst := _, op := Op.load 26 (Operand.tmp 3), type := _, pos := _, after := _, guard := _ } :: _) _ _); refine wpList_ldr ty_corner rfl _ rfl _ rfl _ rfl (HO.out.at 2 rfl) ?_) | ((with_reducible show wpList _ _ _ ({ dst := _, op := Op.load 26 (Operand.tmp 4), type := _, pos := _, after := _, guard := _ } :: _) _ _); refine wpList_ldr ty_corner rfl _ rfl _ rfl _ rfl (HO.out.at 1 rfl) ?_) | (go_at_call 8; (with_reducible refine (I1 _).mono ?_); rintro e wz ⟨rfl, hk1⟩; have l2 := HO.out.call hk1; clear HO hk1; have HO := Lib.hid l2; clear l2) | (go_at_call 10; (first | (with_reducible refine (M1 _).mono ?_) | (with_reducible refine (M2 _).mono ?_)); rintro e wz ⟨rfl, hk1⟩; have l2 := HO.out.call hk1; clear HO hk1; have HO := Lib.hid l2; clear l2) | (go_at_call 9; refine (awake_any _).mono ?_; rintro e wz ⟨rfl, hk1⟩; have l2 := HO.out.call hk1; clear HO hk1; have HO := Lib.hid l2; clear l2))
  go_ret
  exact ⟨rfl, HO.out.k⟩
set_option linter.unusedSimpArgs false in
set_option maxRecDepth 100000 in
set_option maxHeartbeats 8000000 in
theorem orders_d (c d : Cn) (x y z u : Int) (w : World) (h : Vw.is x y z u = true) (hc : Vw.hasB c = true) (hd : Vw.hasB (Cl.set d 3 (c 3)) = false) :
    Calls Try.prog 4 #[.agg #[.int .i64 (c 0), .int .i64 (c 1), .int .i64 (c 2), .int .i64 (c 3), .int .i64 (c 4), .int .i64 (c 5), .int .i64 (c 6), .int .i64 (c 7), .int .i64 (c 8), .int .i64 (c 9)], .agg #[.int .i64 (d 0), .int .i64 (d 1), .int .i64 (d 2), .int .i64 (d 3), .int .i64 (d 4), .int .i64 (d 5), .int .i64 (d 6), .int .i64 (d 7), .int .i64 (d 8), .int .i64 (d 9)], .agg #[.int .i64 x, .int .i64 y, .int .i64 z, .int .i64 u]] w fun e w' => e = .returned (.bool true) ∧ Kp w.heap.size w w' := by
  have I1 := fun W => ris16_any x y z u W
  have M1 := fun W => rmay16_any c W
  have M2 := fun W => rmay16_any (Cl.set d 3 (c 3)) W
  rw [h] at I1
  rw [hc] at M1
  rw [hd] at M2
  clear h hc hd
  have HO : Hid (Ow w _ [(w.heap.size + 2, [.int .i64 x, .int .i64 y, .int .i64 z, .int .i64 u]), (w.heap.size + 1, [.int .i64 (d 0), .int .i64 (d 1), .int .i64 (d 2), .int .i64 (c 3), .int .i64 (d 4), .int .i64 (d 5), .int .i64 (d 6), .int .i64 (d 7), .int .i64 (d 8), .int .i64 (d 9)]), (w.heap.size, [.int .i64 (c 0), .int .i64 (c 1), .int .i64 (c 2), .int .i64 (c 3), .int .i64 (c 4), .int .i64 (c 5), .int .i64 (c 6), .int .i64 (c 7), .int .i64 (c 8), .int .i64 (c 9)])]) := Lib.hid (((Ow.refl w).newAt w.heap.size rfl (.int .i64 (c 0)) [.int .i64 (c 1), .int .i64 (c 2), .int .i64 (c 3), .int .i64 (c 4), .int .i64 (c 5), .int .i64 (c 6), .int .i64 (c 7), .int .i64 (c 8), .int .i64 (c 9)] 26).newAt (w.heap.size + 1) (by simp) (.int .i64 (d 0)) [.int .i64 (d 1), .int .i64 (d 2), .int .i64 (c 3), .int .i64 (d 4), .int .i64 (d 5), .int .i64 (d 6), .int .i64 (d 7), .int .i64 (d 8), .int .i64 (d 9)] 26 |>.newAt (w.heap.size + 2) (by simp) (.int .i64 x) [.int .i64 y, .int .i64 z, .int .i64 u] 28)
  go_enter Try.func4, Try.ntmps4
  go_upto_region 2 with fail
  generalize hV : World.alloc _ _ = V0 at *
  clear hV
  have l2 : Ow w V0 [(w.heap.size + 2, [.int .i64 x, .int .i64 y, .int .i64 z, .int .i64 u]), (w.heap.size + 1, [.int .i64 ((Cl.set d 3 (c 3)) 0), .int .i64 ((Cl.set d 3 (c 3)) 1), .int .i64 ((Cl.set d 3 (c 3)) 2), .int .i64 ((Cl.set d 3 (c 3)) 3), .int .i64 ((Cl.set d 3 (c 3)) 4), .int .i64 ((Cl.set d 3 (c 3)) 5), .int .i64 ((Cl.set d 3 (c 3)) 6), .int .i64 ((Cl.set d 3 (c 3)) 7), .int .i64 ((Cl.set d 3 (c 3)) 8), .int .i64 ((Cl.set d 3 (c 3)) 9)]), (w.heap.size, [.int .i64 (c 0), .int .i64 (c 1), .int .i64 (c 2), .int .i64 (c 3), .int .i64 (c 4), .int .i64 (c 5), .int .i64 (c 6), .int .i64 (c 7), .int .i64 (c 8), .int .i64 (c 9)])] := HO.out
  clear HO
  have HO := Lib.hid l2
  clear l2
  generalize Cl.set d 3 (c 3) = q at *
  go_wp2_with (first | go_big_skip | ((with_reducible show wpList _ _ _ ({ dst := _, op := Op.load 28 (Operand.tmp 5), type := _, pos := _, after := _, guard := _ } :: _) _ _); refine wpList_ldr ty_rect rfl _ rfl _ rfl _ rfl (HO.out.at 0 rfl) ?_) | ((with_reducible show wpList _ _ _ ({ dst := _, op := Op.load 26 (Operand.tmp 3), type := _, pos := _, after := _, guard := _ } :: _) _ _); refine wpList_ldr ty_corner rfl _ rfl _ rfl _ rfl (HO.out.at 2 rfl) ?_) | ((with_reducible show wpList _ _ _ ({ dst := _, op := Op.load 26 (Operand.tmp 4), type := _, pos := _, after := _, guard := _ } :: _) _ _); refine wpList_ldr ty_corner rfl _ rfl _ rfl _ rfl (HO.out.at 1 rfl) ?_) | (go_at_call 8; (with_reducible refine (I1 _).mono ?_); rintro e wz ⟨rfl, hk1⟩; have l2 := HO.out.call hk1; clear HO hk1; have HO := Lib.hid l2; clear l2) | (go_at_call 10; (first | (with_reducible refine (M1 _).mono ?_) | (with_reducible refine (M2 _).mono ?_)); rintro e wz ⟨rfl, hk1⟩; have l2 := HO.out.call hk1; clear HO hk1; have HO := Lib.hid l2; clear l2) | (go_at_call 9; refine (awake_any _).mono ?_; rintro e wz ⟨rfl, hk1⟩; have l2 := HO.out.call hk1; clear HO hk1; have HO := Lib.hid l2; clear l2))
  go_ret
  exact ⟨rfl, HO.out.k⟩
set_option linter.unusedSimpArgs false in
set_option maxRecDepth 100000 in
set_option maxHeartbeats 8000000 in
theorem orders_yes (c d : Cn) (x y z u : Int) (w : World) (h : Vw.is x y z u = true) (hc : Vw.hasB c = true) (hd : Vw.hasB (Cl.set d 3 (c 3)) = true) :
    Calls Try.prog 4 #[.agg #[.int .i64 (c 0), .int .i64 (c 1), .int .i64 (c 2), .int .i64 (c 3), .int .i64 (c 4), .int .i64 (c 5), .int .i64 (c 6), .int .i64 (c 7), .int .i64 (c 8), .int .i64 (c 9)], .agg #[.int .i64 (d 0), .int .i64 (d 1), .int .i64 (d 2), .int .i64 (d 3), .int .i64 (d 4), .int .i64 (d 5), .int .i64 (d 6), .int .i64 (d 7), .int .i64 (d 8), .int .i64 (d 9)], .agg #[.int .i64 x, .int .i64 y, .int .i64 z, .int .i64 u]] w fun e w' => e = .returned (.bool true) ∧ Kp w.heap.size w w' := by
  have I1 := fun W => ris16_any x y z u W
  have M1 := fun W => rmay16_any c W
  have M2 := fun W => rmay16_any (Cl.set d 3 (c 3)) W
  rw [h] at I1
  rw [hc] at M1
  rw [hd] at M2
  have S1 := fun W => vsnap_yes c x y z u W h hc
  have S2 := fun W => vsnap_yes (Cl.set d 3 (c 3)) x y z u W h hd
  have hw := (Vw.hasB_iff.1 hc).2
  obtain ⟨-, -, vz, vu⟩ := Vw.is_iff.1 h
  have e3 : Cl.set d 3 (c 3) 3 = c 3 := by simp [Cl.set]
  have e4 : Hid (Cl.set d 3 (c 3) 3 = c 3) := Lib.hid e3
  have T1 : Hid ((decide (c 0 ≤ Cl.set d 3 (c 3) 0) = true ∧ decide (Vw.spot c x y z u 0 ≤ Vw.spot (Cl.set d 3 (c 3)) x y z u 0) = true) ∨ (decide (c 0 ≤ Cl.set d 3 (c 3) 0) = false ∧ decide (Cl.set d 3 (c 3) 0 ≤ c 0) = true ∧ decide (Vw.spot (Cl.set d 3 (c 3)) x y z u 0 ≤ Vw.spot c x y z u 0) = true)) := Lib.hid (orders_tests (fun hh => Vw.x_mono hw e3 vz.1 hh) (fun hh => Vw.x_mono (by omega) e3.symm vz.1 hh))
  have T2 : Hid ((decide (c 1 ≤ Cl.set d 3 (c 3) 1) = true ∧ decide (Vw.spot (Cl.set d 3 (c 3)) x y z u 1 ≤ Vw.spot c x y z u 1) = true) ∨ (decide (c 1 ≤ Cl.set d 3 (c 3) 1) = false ∧ decide (Cl.set d 3 (c 3) 1 ≤ c 1) = true ∧ decide (Vw.spot c x y z u 1 ≤ Vw.spot (Cl.set d 3 (c 3)) x y z u 1) = true)) := Lib.hid (orders_tests (fun hh => Vw.y_mono hw e3 vu.1 hh) (fun hh => Vw.y_mono (by omega) e3.symm vu.1 hh))
  have T3 : Hid ((decide (c 2 ≤ Cl.set d 3 (c 3) 2) = true ∧ decide (Vw.spot c x y z u 2 ≤ Vw.spot (Cl.set d 3 (c 3)) x y z u 2) = true) ∨ (decide (c 2 ≤ Cl.set d 3 (c 3) 2) = false ∧ decide (Cl.set d 3 (c 3) 2 ≤ c 2) = true ∧ decide (Vw.spot (Cl.set d 3 (c 3)) x y z u 2 ≤ Vw.spot c x y z u 2) = true)) := Lib.hid (orders_tests (fun hh => Vw.z_mono hw e3 hh) (fun hh => Vw.z_mono (by omega) e3.symm hh))
  generalize Vw.spot c x y z u = s at *
  generalize Vw.spot (Cl.set d 3 (c 3)) x y z u = t at *
  clear h hc hd hw vz vu e3
  have HO : Hid (Ow w _ [(w.heap.size + 2, [.int .i64 x, .int .i64 y, .int .i64 z, .int .i64 u]), (w.heap.size + 1, [.int .i64 (d 0), .int .i64 (d 1), .int .i64 (d 2), .int .i64 (c 3), .int .i64 (d 4), .int .i64 (d 5), .int .i64 (d 6), .int .i64 (d 7), .int .i64 (d 8), .int .i64 (d 9)]), (w.heap.size, [.int .i64 (c 0), .int .i64 (c 1), .int .i64 (c 2), .int .i64 (c 3), .int .i64 (c 4), .int .i64 (c 5), .int .i64 (c 6), .int .i64 (c 7), .int .i64 (c 8), .int .i64 (c 9)])]) := Lib.hid (((Ow.refl w).newAt w.heap.size rfl (.int .i64 (c 0)) [.int .i64 (c 1), .int .i64 (c 2), .int .i64 (c 3), .int .i64 (c 4), .int .i64 (c 5), .int .i64 (c 6), .int .i64 (c 7), .int .i64 (c 8), .int .i64 (c 9)] 26).newAt (w.heap.size + 1) (by simp) (.int .i64 (d 0)) [.int .i64 (d 1), .int .i64 (d 2), .int .i64 (c 3), .int .i64 (d 4), .int .i64 (d 5), .int .i64 (d 6), .int .i64 (d 7), .int .i64 (d 8), .int .i64 (d 9)] 26 |>.newAt (w.heap.size + 2) (by simp) (.int .i64 x) [.int .i64 y, .int .i64 z, .int .i64 u] 28)
  go_enter Try.func4, Try.ntmps4
  go_upto_region 2 with fail
  generalize hV : World.alloc _ _ = V0 at *
  clear hV
  have l2 : Ow w V0 [(w.heap.size + 2, [.int .i64 x, .int .i64 y, .int .i64 z, .int .i64 u]), (w.heap.size + 1, [.int .i64 ((Cl.set d 3 (c 3)) 0), .int .i64 ((Cl.set d 3 (c 3)) 1), .int .i64 ((Cl.set d 3 (c 3)) 2), .int .i64 ((Cl.set d 3 (c 3)) 3), .int .i64 ((Cl.set d 3 (c 3)) 4), .int .i64 ((Cl.set d 3 (c 3)) 5), .int .i64 ((Cl.set d 3 (c 3)) 6), .int .i64 ((Cl.set d 3 (c 3)) 7), .int .i64 ((Cl.set d 3 (c 3)) 8), .int .i64 ((Cl.set d 3 (c 3)) 9)]), (w.heap.size, [.int .i64 (c 0), .int .i64 (c 1), .int .i64 (c 2), .int .i64 (c 3), .int .i64 (c 4), .int .i64 (c 5), .int .i64 (c 6), .int .i64 (c 7), .int .i64 (c 8), .int .i64 (c 9)])] := HO.out
  clear HO
  have HO := Lib.hid l2
  clear l2
  generalize Cl.set d 3 (c 3) = q at *
  go_upto_region 5 with (first
    | go_big_skip | ((with_reducible show wpList _ _ _ ({ dst := _, op := Op.load 28 (Operand.tmp 5), type := _, pos := _, after := _, guard := _ } :: _) _ _); refine wpList_ldr ty_rect rfl _ rfl _ rfl _ rfl (HO.out.at 0 rfl) ?_) | ((with_reducible show wpList _ _ _ ({ dst := _, op := Op.load 26 (Operand.tmp 3), type := _, pos := _, after := _, guard := _ } :: _) _ _); refine wpList_ldr ty_corner rfl _ rfl _ rfl _ rfl (HO.out.at 2 rfl) ?_) | ((with_reducible show wpList _ _ _ ({ dst := _, op := Op.load 26 (Operand.tmp 4), type := _, pos := _, after := _, guard := _ } :: _) _ _); refine wpList_ldr ty_corner rfl _ rfl _ rfl _ rfl (HO.out.at 1 rfl) ?_) | (go_at_call 8; (with_reducible refine (I1 _).mono ?_); rintro e wz ⟨rfl, hk1⟩; have l2 := HO.out.call hk1; clear HO hk1; have HO := Lib.hid l2; clear l2) | (go_at_call 10; (first | (with_reducible refine (M1 _).mono ?_) | (with_reducible refine (M2 _).mono ?_)); rintro e wz ⟨rfl, hk1⟩; have l2 := HO.out.call hk1; clear HO hk1; have HO := Lib.hid l2; clear l2) | (go_at_call 9; refine (awake_any _).mono ?_; rintro e wz ⟨rfl, hk1⟩; have l2 := HO.out.call hk1; clear HO hk1; have HO := Lib.hid l2; clear l2)
    | (go_at_call 6; (with_reducible refine (S1 _).mono ?_); clear S1; rintro e w1 ⟨rfl, hk1⟩; have l2 := (HO.out.call hk1).newAt w1.heap.size rfl (.int .i64 (s 0)) [.int .i64 (s 1), .int .i64 (s 2), .int .i64 (s 3), .int .i64 (s 4), .int .i64 (s 5), .int .i64 (s 6), .int .i64 (s 7), .int .i64 (s 8)] 32; clear HO hk1; have HO := Lib.hid l2; clear l2))
  generalize w1.heap.size = p7 at *
  go_upto_region 6 with (first
    | ((with_reducible show wpList _ _ _ ({ dst := _, op := Op.load 28 (Operand.tmp 5), type := _, pos := _, after := _, guard := _ } :: _) _ _); refine wpList_ldr ty_rect rfl _ rfl _ rfl _ rfl (HO.out.at 1 rfl) ?_)
    | ((with_reducible show wpList _ _ _ ({ dst := _, op := Op.load 26 (Operand.tmp 4), type := _, pos := _, after := _, guard := _ } :: _) _ _); refine wpList_ldr ty_corner rfl _ rfl _ rfl _ rfl (HO.out.at 2 rfl) ?_)
    | (go_at_call 6; (with_reducible refine (S2 _).mono ?_); clear S2; rintro e w2 ⟨rfl, hk1⟩; have l2 := (HO.out.call hk1).newAt w2.heap.size rfl (.int .i64 (t 0)) [.int .i64 (t 1), .int .i64 (t 2), .int .i64 (t 3), .int .i64 (t 4), .int .i64 (t 5), .int .i64 (t 6), .int .i64 (t 7), .int .i64 (t 8)] 32; clear HO hk1; have HO := Lib.hid l2; clear l2))
  clear I1 M1 M2 e4
  generalize hV : World.alloc _ _ = V1 at *
  clear hV
  generalize w2.heap.size = p8 at *
  have k1 := (HO.out.at 4 rfl).cell 0 rfl
  have k2 := (HO.out.at 4 rfl).cell 1 rfl
  have k3 := (HO.out.at 4 rfl).cell 2 rfl
  have k4 := (HO.out.at 3 rfl).cell 0 rfl
  have k5 := (HO.out.at 3 rfl).cell 1 rfl
  have k6 := (HO.out.at 3 rfl).cell 2 rfl
  have k7 := (HO.out.at 1 rfl).cell 0 rfl
  have k8 := (HO.out.at 1 rfl).cell 1 rfl
  have k9 := (HO.out.at 1 rfl).cell 2 rfl
  have m1 := (HO.out.at 0 rfl).cell 0 rfl
  have m2 := (HO.out.at 0 rfl).cell 1 rfl
  have m3 := (HO.out.at 0 rfl).cell 2 rfl
  have HK := Lib.hid HO.out.k
  clear HO
  have t1 := T1.out
  have t2 := T2.out
  have t3 := T3.out
  clear T1 T2 T3
  generalize c 0 = c0 at *
  generalize c 1 = c1 at *
  generalize c 2 = c2 at *
  generalize q 0 = q0 at *
  generalize q 1 = q1 at *
  generalize q 2 = q2 at *
  generalize s 0 = s0 at *
  generalize s 1 = s1 at *
  generalize s 2 = s2 at *
  generalize t 0 = t0 at *
  generalize t 1 = t1' at *
  generalize t 2 = t2' at *
  obtain ⟨a1, a2⟩ | ⟨a1, a2, a3⟩ := t1 <;> obtain ⟨b1, b2⟩ | ⟨b1, b2, b3⟩ := t2 <;> obtain ⟨d1, d2⟩ | ⟨d1, d2, d3⟩ := t3
  all_goals
    go_wp2_with (first | go_big_skip | (go_at_call 9; refine (awake_any _).mono ?_; rintro e wz ⟨rfl, hk1⟩; have l2 := HK.out.next hk1; clear HK hk1; have HK := Lib.hid l2; clear l2))
    go_ret
    exact ⟨rfl, HK.out⟩
theorem orders_walk (c d : Cn) (x y z u : Int) (w : World) :
    Calls Try.prog 4 #[.agg #[.int .i64 (c 0), .int .i64 (c 1), .int .i64 (c 2), .int .i64 (c 3), .int .i64 (c 4), .int .i64 (c 5), .int .i64 (c 6), .int .i64 (c 7), .int .i64 (c 8), .int .i64 (c 9)], .agg #[.int .i64 (d 0), .int .i64 (d 1), .int .i64 (d 2), .int .i64 (d 3), .int .i64 (d 4), .int .i64 (d 5), .int .i64 (d 6), .int .i64 (d 7), .int .i64 (d 8), .int .i64 (d 9)], .agg #[.int .i64 x, .int .i64 y, .int .i64 z, .int .i64 u]] w fun e w' => e = .returned (.bool true) ∧ Kp w.heap.size w w' := by
  cases h : Vw.is x y z u
  · exact orders_is c d x y z u w h
  cases hc : Vw.hasB c
  · exact orders_c c d x y z u w h hc
  cases hd : Vw.hasB (Cl.set d 3 (c 3))
  · exact orders_d c d x y z u w h hc hd
  · exact orders_yes c d x y z u w h hc hd
end Go.Proofs.Ythhfhkenpkfioaa
