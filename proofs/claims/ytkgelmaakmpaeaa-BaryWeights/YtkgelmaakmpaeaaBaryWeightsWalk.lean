/-
  BaryWeights: its Go text returns true.
-/
import Derived.Test.YtkgelmaakmpaeaaBaryRef
import Derived.BigGuard
namespace Go.Proofs.Ytkgelmaakmpaeaa
open Go.RowKit

set_option linter.unusedSimpArgs false in
set_option maxRecDepth 100000 in
set_option maxHeartbeats 8000000 in
theorem bweights_walk (a1 a2 b1 b2 c1 c2 p1 p2 : Int) (w : World) :
    Calls Try.prog 3 #[.agg #[.int .i64 a1, .int .i64 a2, .int .i64 b1, .int .i64 b2, .int .i64 c1, .int .i64 c2], .agg #[.int .i64 p1, .int .i64 p2]] w fun e w' => e = .returned (.bool true) ∧ Kp w.heap.size w w' := by
  have HO := (((Ow.refl w).newAt w.heap.size rfl (.int .i64 a1) [.int .i64 a2, .int .i64 b1, .int .i64 b2, .int .i64 c1, .int .i64 c2] 24).newAt (w.heap.size + 1) (by simp) (.int .i64 p1) [.int .i64 p2] 23)
  obtain ⟨ms, hms⟩ : ∃ ms : List (Nat × List Value), ms = [(w.heap.size + 1, [.int .i64 p1, .int .i64 p2]), (w.heap.size, [.int .i64 a1, .int .i64 a2, .int .i64 b1, .int .i64 b2, .int .i64 c1, .int .i64 c2])] := ⟨_, rfl⟩
  have HT : Hid ((w.heap.size, [.int .i64 a1, .int .i64 a2, .int .i64 b1, .int .i64 b2, .int .i64 c1, .int .i64 c2]) ∈ ms) := Lib.hid (by rw [hms]; simp)
  have HP : Hid ((w.heap.size + 1, [.int .i64 p1, .int .i64 p2]) ∈ ms) := Lib.hid (by rw [hms]; simp)
  rw [← hms] at HO
  have HO := Lib.hid HO
  clear hms
  have Y1 := fun W => rmay_any a1 a2 W
  have Y2 := fun W => rmay_any b1 b2 W
  have Y3 := fun W => rmay_any c1 c2 W
  have Y4 := fun W => rmay_any p1 p2 W
  by_cases h : (Eg.may b1 b2 && Eg.may c1 c2 && Eg.may p1 p2) = false ∨ Eg.may a1 a2 = false
  · have W1 : ∀ W, Calls Try.prog 6 #[.agg #[.int .i64 a1, .int .i64 a2, .int .i64 b1, .int .i64 b2, .int .i64 c1, .int .i64 c2], .agg #[.int .i64 p1, .int .i64 p2]] W fun e w' => e = .returned (.tuple #[.agg #[.int .i64 0, .int .i64 0, .int .i64 0], .int .i64 3]) ∧ Kp W.heap.size W w' := fun W => by
      by_cases h2 : (Eg.may b1 b2 && Eg.may c1 c2 && Eg.may p1 p2) = false
      · exact weights_no1 a1 a2 b1 b2 c1 c2 p1 p2 W h2
      · have h3 : Eg.may a1 a2 = false := h.resolve_left h2
        simp only [Bool.not_eq_false, Bool.and_eq_true] at h2
        exact weights_no2 a1 a2 b1 b2 c1 c2 p1 p2 W h2.1.1 h2.1.2 h2.2 h3
    have hE := run_eq3_same 0 0 0
    cases h1 : Eg.may a1 a2
    · rw [h1] at Y1
      clear h h1 Y2 Y3 Y4
      go_enter Try.func3, Try.ntmps3
      go_wp2_with (first   | go_big_skip   | ((with_reducible show wpList _ _ _ ({ dst := _, op := Op.load 23 _, type := _, pos := _, after := _, guard := _ } :: _) _ _); refine wpList_ldo ty_point rfl _ rfl _ _ rfl [.int .i64 a1, .int .i64 a2, .int .i64 b1, .int .i64 b2, .int .i64 c1, .int .i64 c2] rfl (HO.out.mem HT.out).some ?_; intro us hus; dsimp only [List.drop, List.take] at hus; subst hus)   | ((with_reducible show wpList _ _ _ ({ dst := _, op := Op.load 24 _, type := _, pos := _, after := _, guard := _ } :: _) _ _); refine wpList_ldr ty_three rfl _ rfl _ rfl _ rfl (HO.out.mem HT.out) ?_)   | ((with_reducible show wpList _ _ _ ({ dst := _, op := Op.load 23 (Operand.tmp 3), type := _, pos := _, after := _, guard := _ } :: _) _ _); refine wpList_ldr ty_point rfl _ rfl _ rfl _ rfl (HO.out.mem HP.out) ?_)   | ((with_reducible show wpList _ _ _ ({ dst := _, op := Op.load 25 _, type := _, pos := _, after := _, guard := _ } :: _) _ _); refine wpList_ldr ty_i3 rfl _ rfl _ rfl _ rfl (HO.out.at 0 rfl) ?_)   | (go_at_call 6; (with_reducible refine (W1 _).mono ?_); rintro e wb ⟨rfl, hk1⟩; have l2 := (HO.out.call hk1).newAt wb.heap.size rfl (.int .i64 0) [.int .i64 0, .int .i64 0] 25; clear HO hk1; have HO := Lib.hid l2; clear l2; have HTo := Lib.hid (HT.out); have HPo := Lib.hid (HP.out); clear HT HP; have HT : Hid ((w.heap.size, [.int .i64 a1, .int .i64 a2, .int .i64 b1, .int .i64 b2, .int .i64 c1, .int .i64 c2]) ∈ (wb.heap.size, [.int .i64 0, .int .i64 0, .int .i64 0]) :: ms) := Lib.hid (List.mem_cons_of_mem _ HTo.out); have HP : Hid ((w.heap.size + 1, [.int .i64 p1, .int .i64 p2]) ∈ (wb.heap.size, [.int .i64 0, .int .i64 0, .int .i64 0]) :: ms) := Lib.hid (List.mem_cons_of_mem _ HPo.out); clear HTo HPo)   | (go_at_call 7; (with_reducible refine (Y1 _).mono ?_); rintro e wz ⟨rfl, hk1⟩; have l2 := HO.out.call hk1; clear HO hk1; have HO := Lib.hid l2; clear l2)   | (go_at_call 7; (with_reducible refine (Y2 _).mono ?_); rintro e wz ⟨rfl, hk1⟩; have l2 := HO.out.call hk1; clear HO hk1; have HO := Lib.hid l2; clear l2)   | (go_at_call 7; (with_reducible refine (Y3 _).mono ?_); rintro e wz ⟨rfl, hk1⟩; have l2 := HO.out.call hk1; clear HO hk1; have HO := Lib.hid l2; clear l2)   | (go_at_call 7; (with_reducible refine (Y4 _).mono ?_); rintro e wz ⟨rfl, hk1⟩; have l2 := HO.out.call hk1; clear HO hk1; have HO := Lib.hid l2; clear l2)   | (go_at_call 8; refine (awake_any _).mono ?_; rintro e wz ⟨rfl, hk1⟩; have l2 := HO.out.call hk1; clear HO hk1; have HO := Lib.hid l2; clear l2))
      go_ret
      exact ⟨rfl, HO.out.k⟩
    cases h2 : Eg.may b1 b2
    · rw [h1] at Y1
      rw [h2] at Y2
      clear h h1 h2 Y3 Y4
      go_enter Try.func3, Try.ntmps3
      go_wp2_with (first   | go_big_skip   | ((with_reducible show wpList _ _ _ ({ dst := _, op := Op.load 23 _, type := _, pos := _, after := _, guard := _ } :: _) _ _); refine wpList_ldo ty_point rfl _ rfl _ _ rfl [.int .i64 a1, .int .i64 a2, .int .i64 b1, .int .i64 b2, .int .i64 c1, .int .i64 c2] rfl (HO.out.mem HT.out).some ?_; intro us hus; dsimp only [List.drop, List.take] at hus; subst hus)   | ((with_reducible show wpList _ _ _ ({ dst := _, op := Op.load 24 _, type := _, pos := _, after := _, guard := _ } :: _) _ _); refine wpList_ldr ty_three rfl _ rfl _ rfl _ rfl (HO.out.mem HT.out) ?_)   | ((with_reducible show wpList _ _ _ ({ dst := _, op := Op.load 23 (Operand.tmp 3), type := _, pos := _, after := _, guard := _ } :: _) _ _); refine wpList_ldr ty_point rfl _ rfl _ rfl _ rfl (HO.out.mem HP.out) ?_)   | ((with_reducible show wpList _ _ _ ({ dst := _, op := Op.load 25 _, type := _, pos := _, after := _, guard := _ } :: _) _ _); refine wpList_ldr ty_i3 rfl _ rfl _ rfl _ rfl (HO.out.at 0 rfl) ?_)   | (go_at_call 6; (with_reducible refine (W1 _).mono ?_); rintro e wb ⟨rfl, hk1⟩; have l2 := (HO.out.call hk1).newAt wb.heap.size rfl (.int .i64 0) [.int .i64 0, .int .i64 0] 25; clear HO hk1; have HO := Lib.hid l2; clear l2; have HTo := Lib.hid (HT.out); have HPo := Lib.hid (HP.out); clear HT HP; have HT : Hid ((w.heap.size, [.int .i64 a1, .int .i64 a2, .int .i64 b1, .int .i64 b2, .int .i64 c1, .int .i64 c2]) ∈ (wb.heap.size, [.int .i64 0, .int .i64 0, .int .i64 0]) :: ms) := Lib.hid (List.mem_cons_of_mem _ HTo.out); have HP : Hid ((w.heap.size + 1, [.int .i64 p1, .int .i64 p2]) ∈ (wb.heap.size, [.int .i64 0, .int .i64 0, .int .i64 0]) :: ms) := Lib.hid (List.mem_cons_of_mem _ HPo.out); clear HTo HPo)   | (go_at_call 7; (with_reducible refine (Y1 _).mono ?_); rintro e wz ⟨rfl, hk1⟩; have l2 := HO.out.call hk1; clear HO hk1; have HO := Lib.hid l2; clear l2)   | (go_at_call 7; (with_reducible refine (Y2 _).mono ?_); rintro e wz ⟨rfl, hk1⟩; have l2 := HO.out.call hk1; clear HO hk1; have HO := Lib.hid l2; clear l2)   | (go_at_call 7; (with_reducible refine (Y3 _).mono ?_); rintro e wz ⟨rfl, hk1⟩; have l2 := HO.out.call hk1; clear HO hk1; have HO := Lib.hid l2; clear l2)   | (go_at_call 7; (with_reducible refine (Y4 _).mono ?_); rintro e wz ⟨rfl, hk1⟩; have l2 := HO.out.call hk1; clear HO hk1; have HO := Lib.hid l2; clear l2)   | (go_at_call 8; refine (awake_any _).mono ?_; rintro e wz ⟨rfl, hk1⟩; have l2 := HO.out.call hk1; clear HO hk1; have HO := Lib.hid l2; clear l2))
      go_ret
      exact ⟨rfl, HO.out.k⟩
    cases h3 : Eg.may c1 c2
    · rw [h1] at Y1
      rw [h2] at Y2
      rw [h3] at Y3
      clear h h1 h2 h3 Y4
      go_enter Try.func3, Try.ntmps3
      go_wp2_with (first   | go_big_skip   | ((with_reducible show wpList _ _ _ ({ dst := _, op := Op.load 23 _, type := _, pos := _, after := _, guard := _ } :: _) _ _); refine wpList_ldo ty_point rfl _ rfl _ _ rfl [.int .i64 a1, .int .i64 a2, .int .i64 b1, .int .i64 b2, .int .i64 c1, .int .i64 c2] rfl (HO.out.mem HT.out).some ?_; intro us hus; dsimp only [List.drop, List.take] at hus; subst hus)   | ((with_reducible show wpList _ _ _ ({ dst := _, op := Op.load 24 _, type := _, pos := _, after := _, guard := _ } :: _) _ _); refine wpList_ldr ty_three rfl _ rfl _ rfl _ rfl (HO.out.mem HT.out) ?_)   | ((with_reducible show wpList _ _ _ ({ dst := _, op := Op.load 23 (Operand.tmp 3), type := _, pos := _, after := _, guard := _ } :: _) _ _); refine wpList_ldr ty_point rfl _ rfl _ rfl _ rfl (HO.out.mem HP.out) ?_)   | ((with_reducible show wpList _ _ _ ({ dst := _, op := Op.load 25 _, type := _, pos := _, after := _, guard := _ } :: _) _ _); refine wpList_ldr ty_i3 rfl _ rfl _ rfl _ rfl (HO.out.at 0 rfl) ?_)   | (go_at_call 6; (with_reducible refine (W1 _).mono ?_); rintro e wb ⟨rfl, hk1⟩; have l2 := (HO.out.call hk1).newAt wb.heap.size rfl (.int .i64 0) [.int .i64 0, .int .i64 0] 25; clear HO hk1; have HO := Lib.hid l2; clear l2; have HTo := Lib.hid (HT.out); have HPo := Lib.hid (HP.out); clear HT HP; have HT : Hid ((w.heap.size, [.int .i64 a1, .int .i64 a2, .int .i64 b1, .int .i64 b2, .int .i64 c1, .int .i64 c2]) ∈ (wb.heap.size, [.int .i64 0, .int .i64 0, .int .i64 0]) :: ms) := Lib.hid (List.mem_cons_of_mem _ HTo.out); have HP : Hid ((w.heap.size + 1, [.int .i64 p1, .int .i64 p2]) ∈ (wb.heap.size, [.int .i64 0, .int .i64 0, .int .i64 0]) :: ms) := Lib.hid (List.mem_cons_of_mem _ HPo.out); clear HTo HPo)   | (go_at_call 7; (with_reducible refine (Y1 _).mono ?_); rintro e wz ⟨rfl, hk1⟩; have l2 := HO.out.call hk1; clear HO hk1; have HO := Lib.hid l2; clear l2)   | (go_at_call 7; (with_reducible refine (Y2 _).mono ?_); rintro e wz ⟨rfl, hk1⟩; have l2 := HO.out.call hk1; clear HO hk1; have HO := Lib.hid l2; clear l2)   | (go_at_call 7; (with_reducible refine (Y3 _).mono ?_); rintro e wz ⟨rfl, hk1⟩; have l2 := HO.out.call hk1; clear HO hk1; have HO := Lib.hid l2; clear l2)   | (go_at_call 7; (with_reducible refine (Y4 _).mono ?_); rintro e wz ⟨rfl, hk1⟩; have l2 := HO.out.call hk1; clear HO hk1; have HO := Lib.hid l2; clear l2)   | (go_at_call 8; refine (awake_any _).mono ?_; rintro e wz ⟨rfl, hk1⟩; have l2 := HO.out.call hk1; clear HO hk1; have HO := Lib.hid l2; clear l2))
      go_ret
      exact ⟨rfl, HO.out.k⟩
    cases h4 : Eg.may p1 p2
    · rw [h1] at Y1
      rw [h2] at Y2
      rw [h3] at Y3
      rw [h4] at Y4
      clear h h1 h2 h3 h4
      go_enter Try.func3, Try.ntmps3
      go_wp2_with (first   | go_big_skip   | ((with_reducible show wpList _ _ _ ({ dst := _, op := Op.load 23 _, type := _, pos := _, after := _, guard := _ } :: _) _ _); refine wpList_ldo ty_point rfl _ rfl _ _ rfl [.int .i64 a1, .int .i64 a2, .int .i64 b1, .int .i64 b2, .int .i64 c1, .int .i64 c2] rfl (HO.out.mem HT.out).some ?_; intro us hus; dsimp only [List.drop, List.take] at hus; subst hus)   | ((with_reducible show wpList _ _ _ ({ dst := _, op := Op.load 24 _, type := _, pos := _, after := _, guard := _ } :: _) _ _); refine wpList_ldr ty_three rfl _ rfl _ rfl _ rfl (HO.out.mem HT.out) ?_)   | ((with_reducible show wpList _ _ _ ({ dst := _, op := Op.load 23 (Operand.tmp 3), type := _, pos := _, after := _, guard := _ } :: _) _ _); refine wpList_ldr ty_point rfl _ rfl _ rfl _ rfl (HO.out.mem HP.out) ?_)   | ((with_reducible show wpList _ _ _ ({ dst := _, op := Op.load 25 _, type := _, pos := _, after := _, guard := _ } :: _) _ _); refine wpList_ldr ty_i3 rfl _ rfl _ rfl _ rfl (HO.out.at 0 rfl) ?_)   | (go_at_call 6; (with_reducible refine (W1 _).mono ?_); rintro e wb ⟨rfl, hk1⟩; have l2 := (HO.out.call hk1).newAt wb.heap.size rfl (.int .i64 0) [.int .i64 0, .int .i64 0] 25; clear HO hk1; have HO := Lib.hid l2; clear l2; have HTo := Lib.hid (HT.out); have HPo := Lib.hid (HP.out); clear HT HP; have HT : Hid ((w.heap.size, [.int .i64 a1, .int .i64 a2, .int .i64 b1, .int .i64 b2, .int .i64 c1, .int .i64 c2]) ∈ (wb.heap.size, [.int .i64 0, .int .i64 0, .int .i64 0]) :: ms) := Lib.hid (List.mem_cons_of_mem _ HTo.out); have HP : Hid ((w.heap.size + 1, [.int .i64 p1, .int .i64 p2]) ∈ (wb.heap.size, [.int .i64 0, .int .i64 0, .int .i64 0]) :: ms) := Lib.hid (List.mem_cons_of_mem _ HPo.out); clear HTo HPo)   | (go_at_call 7; (with_reducible refine (Y1 _).mono ?_); rintro e wz ⟨rfl, hk1⟩; have l2 := HO.out.call hk1; clear HO hk1; have HO := Lib.hid l2; clear l2)   | (go_at_call 7; (with_reducible refine (Y2 _).mono ?_); rintro e wz ⟨rfl, hk1⟩; have l2 := HO.out.call hk1; clear HO hk1; have HO := Lib.hid l2; clear l2)   | (go_at_call 7; (with_reducible refine (Y3 _).mono ?_); rintro e wz ⟨rfl, hk1⟩; have l2 := HO.out.call hk1; clear HO hk1; have HO := Lib.hid l2; clear l2)   | (go_at_call 7; (with_reducible refine (Y4 _).mono ?_); rintro e wz ⟨rfl, hk1⟩; have l2 := HO.out.call hk1; clear HO hk1; have HO := Lib.hid l2; clear l2)   | (go_at_call 8; refine (awake_any _).mono ?_; rintro e wz ⟨rfl, hk1⟩; have l2 := HO.out.call hk1; clear HO hk1; have HO := Lib.hid l2; clear l2))
      go_ret
      exact ⟨rfl, HO.out.k⟩
    · simp [h1, h2, h3, h4] at h
  · simp only [not_or, Bool.not_eq_false, Bool.and_eq_true] at h
    obtain ⟨⟨⟨hb, hc⟩, hp⟩, ha⟩ := h
    rw [ha] at Y1
    rw [hb] at Y2
    rw [hc] at Y3
    rw [hp] at Y4
    have W1 := fun W => weights_yes a1 a2 b1 b2 c1 c2 p1 p2 W ha hb hc hp
    have R1 := fun W => rweights_any a1 a2 b1 b2 c1 c2 p1 p2 W ha hb hc hp
    have R2 := fun W => rside_any a1 a2 b1 b2 c1 c2 W ha hb hc
    have HS : Hid (Eg.side b1 b2 c1 c2 p1 p2 + Eg.side c1 c2 a1 a2 p1 p2 + Eg.side a1 a2 b1 b2 p1 p2 = Eg.side a1 a2 b1 b2 c1 c2) := Lib.hid (by have := Eg.side_sum a1 a2 b1 b2 c1 c2 p1 p2; omega)
    have B1 := By.side_bd hb hc hp
    have B2 := By.side_bd hc ha hp
    have B3 := By.side_bd ha hb hp
    clear ha hb hc hp
    generalize Eg.side b1 b2 c1 c2 p1 p2 = x at *
    generalize Eg.side c1 c2 a1 a2 p1 p2 = y at *
    generalize Eg.side a1 a2 b1 b2 p1 p2 = z at *
    generalize Eg.side a1 a2 b1 b2 c1 c2 = s at *
    have hE := run_eq3_same x y z
    have V1 : IntKind.i64.wrap (x + y) = x + y := By.wrap (by omega) (by omega)
    have V2 : IntKind.i64.wrap (x + y + z) = x + y + z := By.wrap (by omega) (by omega)
    have V1 := Lib.hid V1
    have V2 := Lib.hid V2
    have B4 := Lib.hid B1
    have B5 := Lib.hid B2
    have B6 := Lib.hid B3
    clear B1 B2 B3
    go_enter Try.func3, Try.ntmps3
    go_upto_region 4 with (first
      | go_big_skip
      | ((with_reducible show wpList _ _ _ ({ dst := _, op := Op.load 23 _, type := _, pos := _, after := _, guard := _ } :: _) _ _); refine wpList_ldo ty_point rfl _ rfl _ _ rfl [.int .i64 a1, .int .i64 a2, .int .i64 b1, .int .i64 b2, .int .i64 c1, .int .i64 c2] rfl (HO.out.mem HT.out).some ?_; intro us hus; dsimp only [List.drop, List.take] at hus; subst hus)
      | ((with_reducible show wpList _ _ _ ({ dst := _, op := Op.load 24 _, type := _, pos := _, after := _, guard := _ } :: _) _ _); refine wpList_ldr ty_three rfl _ rfl _ rfl _ rfl (HO.out.mem HT.out) ?_)
      | ((with_reducible show wpList _ _ _ ({ dst := _, op := Op.load 23 (Operand.tmp 3), type := _, pos := _, after := _, guard := _ } :: _) _ _); refine wpList_ldr ty_point rfl _ rfl _ rfl _ rfl (HO.out.mem HP.out) ?_)
      | (go_at_call 6; (with_reducible refine (W1 _).mono ?_); rintro e wb ⟨rfl, hk1⟩; have l2 := (HO.out.call hk1).newAt wb.heap.size rfl (.int .i64 x) [.int .i64 y, .int .i64 z] 25; clear HO hk1; have HO := Lib.hid l2; clear l2; have HTo := Lib.hid (HT.out); have HPo := Lib.hid (HP.out); clear HT HP; have HT : Hid ((w.heap.size, [.int .i64 a1, .int .i64 a2, .int .i64 b1, .int .i64 b2, .int .i64 c1, .int .i64 c2]) ∈ (wb.heap.size, [.int .i64 x, .int .i64 y, .int .i64 z]) :: ms) := Lib.hid (List.mem_cons_of_mem _ HTo.out); have HP : Hid ((w.heap.size + 1, [.int .i64 p1, .int .i64 p2]) ∈ (wb.heap.size, [.int .i64 x, .int .i64 y, .int .i64 z]) :: ms) := Lib.hid (List.mem_cons_of_mem _ HPo.out); clear HTo HPo)
      | (go_at_call 7; (with_reducible refine (Y1 _).mono ?_); rintro e wz ⟨rfl, hk1⟩; have l2 := HO.out.call hk1; clear HO hk1; have HO := Lib.hid l2; clear l2)
      | (go_at_call 7; (with_reducible refine (Y2 _).mono ?_); rintro e wz ⟨rfl, hk1⟩; have l2 := HO.out.call hk1; clear HO hk1; have HO := Lib.hid l2; clear l2)
      | (go_at_call 7; (with_reducible refine (Y3 _).mono ?_); rintro e wz ⟨rfl, hk1⟩; have l2 := HO.out.call hk1; clear HO hk1; have HO := Lib.hid l2; clear l2)
      | (go_at_call 7; (with_reducible refine (Y4 _).mono ?_); rintro e wz ⟨rfl, hk1⟩; have l2 := HO.out.call hk1; clear HO hk1; have HO := Lib.hid l2; clear l2))
    obtain ⟨ns, hns⟩ : ∃ ns : List (Nat × List Value), ns = (wb.heap.size, [.int .i64 x, .int .i64 y, .int .i64 z]) :: ms := ⟨_, rfl⟩
    have HW : Hid ((wb.heap.size, [.int .i64 x, .int .i64 y, .int .i64 z]) ∈ ns) := Lib.hid (by rw [hns]; simp)
    have hI0 := HO.out
    have hT0 := HT.out
    have hP0 := HP.out
    rw [← hns] at hI0 hT0 hP0
    clear HO HT HP hns
    have HO := Lib.hid hI0
    have HT := Lib.hid hT0
    have HP := Lib.hid hP0
    clear hI0 hT0 hP0
    refine Rg.region (I := fun _ W => Ow w W ns) (dem := fun _ => false) (m := 36) (g := 0) (T := fun listed bs st => ∀ W, Ow w W ns → wpAny Try.prog .any _ _ 0 listed st W) (by kernel_rfl) HO.out.drew rfl (fun _ _ _ _ h hI => h _ hI) ?_
    clear HO
    refine Rg.take 0 (v := .int .i64 0) rfl rfl (by kernel_rfl) (by kernel_rfl) (by kernel_rfl) (by kernel_rfl) (by kernel_rfl) (.inl ⟨rfl, fun bs wq hI => ?_⟩) ?_
    · go_simp
    simp only [Act.put, List.getElem_toArray, List.getElem_cons_zero, List.getElem_cons_succ, List.setIfInBounds_toArray, List.set_cons_zero, List.set_cons_succ]
    refine Rg.take 1 (v := .bool true) rfl rfl (by kernel_rfl) (by kernel_rfl) (by kernel_rfl) (by kernel_rfl) (by kernel_rfl) (.inl ⟨rfl, fun bs wq hI => ?_⟩) ?_
    · go_simp
    simp only [Act.put, List.getElem_toArray, List.getElem_cons_zero, List.getElem_cons_succ, List.setIfInBounds_toArray, List.set_cons_zero, List.set_cons_succ]
    refine Rg.take 2 (v := .bool true) rfl rfl (by kernel_rfl) (by kernel_rfl) (by kernel_rfl) (by kernel_rfl) (by kernel_rfl) (.inl ⟨rfl, fun bs wq hI => ?_⟩) ?_
    · go_simp
    simp only [Act.put, List.getElem_toArray, List.getElem_cons_zero, List.getElem_cons_succ, List.setIfInBounds_toArray, List.set_cons_zero, List.set_cons_succ]
    refine Rg.take 3 (v := .agg #[.int .i64 x, .int .i64 y, .int .i64 z]) rfl rfl (by kernel_rfl) (by kernel_rfl) (by kernel_rfl) (by kernel_rfl) (by kernel_rfl) (.inl ⟨rfl, fun bs wq hI => ?_⟩) ?_
    · exact quiet_ldr ty_i3 (.tmp 5) rfl rfl rfl (hI.mem HW.out)
    simp only [Act.put, List.getElem_toArray, List.getElem_cons_zero, List.getElem_cons_succ, List.setIfInBounds_toArray, List.set_cons_zero, List.set_cons_succ]
    refine Rg.take 4 (v := .pointer (some ⟨w.heap.size, 0, none⟩)) rfl rfl (by kernel_rfl) (by kernel_rfl) (by kernel_rfl) (by kernel_rfl) (by kernel_rfl) (.inl ⟨rfl, fun bs wq hI => ?_⟩) ?_
    · go_simp
    simp only [Act.put, List.getElem_toArray, List.getElem_cons_zero, List.getElem_cons_succ, List.setIfInBounds_toArray, List.set_cons_zero, List.set_cons_succ]
    refine Rg.take 5 (v := .agg #[.int .i64 a1, .int .i64 a2]) rfl rfl (by kernel_rfl) (by kernel_rfl) (by kernel_rfl) (by kernel_rfl) (by kernel_rfl) (.inl ⟨rfl, fun bs wq hI => ?_⟩) ?_
    · exact quiet_ldo (vs := [.int .i64 a1, .int .i64 a2, .int .i64 b1, .int .i64 b2, .int .i64 c1, .int .i64 c2]) (us := [.int .i64 a1, .int .i64 a2]) ty_point (.tmp 48) rfl rfl rfl rfl (hI.mem HT.out)
    simp only [Act.put, List.getElem_toArray, List.getElem_cons_zero, List.getElem_cons_succ, List.setIfInBounds_toArray, List.set_cons_zero, List.set_cons_succ]
    refine Rg.take 6 (v := .pointer (some ⟨w.heap.size, 2, none⟩)) rfl rfl (by kernel_rfl) (by kernel_rfl) (by kernel_rfl) (by kernel_rfl) (by kernel_rfl) (.inl ⟨rfl, fun bs wq hI => ?_⟩) ?_
    · go_simp
    simp only [Act.put, List.getElem_toArray, List.getElem_cons_zero, List.getElem_cons_succ, List.setIfInBounds_toArray, List.set_cons_zero, List.set_cons_succ]
    refine Rg.take 7 (v := .agg #[.int .i64 b1, .int .i64 b2]) rfl rfl (by kernel_rfl) (by kernel_rfl) (by kernel_rfl) (by kernel_rfl) (by kernel_rfl) (.inl ⟨rfl, fun bs wq hI => ?_⟩) ?_
    · exact quiet_ldo (vs := [.int .i64 a1, .int .i64 a2, .int .i64 b1, .int .i64 b2, .int .i64 c1, .int .i64 c2]) (us := [.int .i64 b1, .int .i64 b2]) ty_point (.tmp 50) rfl rfl rfl rfl (hI.mem HT.out)
    simp only [Act.put, List.getElem_toArray, List.getElem_cons_zero, List.getElem_cons_succ, List.setIfInBounds_toArray, List.set_cons_zero, List.set_cons_succ]
    refine Rg.take 8 (v := .pointer (some ⟨w.heap.size, 4, none⟩)) rfl rfl (by kernel_rfl) (by kernel_rfl) (by kernel_rfl) (by kernel_rfl) (by kernel_rfl) (.inl ⟨rfl, fun bs wq hI => ?_⟩) ?_
    · go_simp
    simp only [Act.put, List.getElem_toArray, List.getElem_cons_zero, List.getElem_cons_succ, List.setIfInBounds_toArray, List.set_cons_zero, List.set_cons_succ]
    refine Rg.take 9 (v := .agg #[.int .i64 c1, .int .i64 c2]) rfl rfl (by kernel_rfl) (by kernel_rfl) (by kernel_rfl) (by kernel_rfl) (by kernel_rfl) (.inl ⟨rfl, fun bs wq hI => ?_⟩) ?_
    · exact quiet_ldo (vs := [.int .i64 a1, .int .i64 a2, .int .i64 b1, .int .i64 b2, .int .i64 c1, .int .i64 c2]) (us := [.int .i64 c1, .int .i64 c2]) ty_point (.tmp 52) rfl rfl rfl rfl (hI.mem HT.out)
    simp only [Act.put, List.getElem_toArray, List.getElem_cons_zero, List.getElem_cons_succ, List.setIfInBounds_toArray, List.set_cons_zero, List.set_cons_succ]
    refine Rg.take 10 (v := .agg #[.int .i64 p1, .int .i64 p2]) rfl rfl (by kernel_rfl) (by kernel_rfl) (by kernel_rfl) (by kernel_rfl) (by kernel_rfl) (.inl ⟨rfl, fun bs wq hI => ?_⟩) ?_
    · exact quiet_ldr ty_point (.tmp 3) rfl rfl rfl (hI.mem HP.out)
    simp only [Act.put, List.getElem_toArray, List.getElem_cons_zero, List.getElem_cons_succ, List.setIfInBounds_toArray, List.set_cons_zero, List.set_cons_succ]
    refine Rg.take 11 (v := .agg #[.int .i64 x, .int .i64 y, .int .i64 z]) rfl rfl (by kernel_rfl) (by kernel_rfl) (by kernel_rfl) (by kernel_rfl) (by kernel_rfl) (.inl ⟨rfl, fun bs wq hI => ?_⟩) ?_
    · (go_simp; exact (R1 _).mono fun e w2 h => ⟨h.1, hI.call h.2⟩)
    simp only [Act.put, List.getElem_toArray, List.getElem_cons_zero, List.getElem_cons_succ, List.setIfInBounds_toArray, List.set_cons_zero, List.set_cons_succ]
    refine Rg.take 12 (v := .bool true) rfl rfl (by kernel_rfl) (by kernel_rfl) (by kernel_rfl) (by kernel_rfl) (by kernel_rfl) (.inl ⟨rfl, fun bs wq hI => ?_⟩) ?_
    · go_simp
    simp only [Act.put, List.getElem_toArray, List.getElem_cons_zero, List.getElem_cons_succ, List.setIfInBounds_toArray, List.set_cons_zero, List.set_cons_succ]
    refine Rg.take 13 (v := .bool true) rfl rfl (by kernel_rfl) (by kernel_rfl) (by kernel_rfl) (by kernel_rfl) (by kernel_rfl) (.inl ⟨rfl, fun bs wq hI => ?_⟩) ?_
    · go_simp
    simp only [Act.put, List.getElem_toArray, List.getElem_cons_zero, List.getElem_cons_succ, List.setIfInBounds_toArray, List.set_cons_zero, List.set_cons_succ]
    refine Rg.take 14 (v := .bool true) rfl rfl (by kernel_rfl) (by kernel_rfl) (by kernel_rfl) (by kernel_rfl) (by kernel_rfl) (.inl ⟨rfl, fun bs wq hI => ?_⟩) ?_
    · go_simp
    simp only [Act.put, List.getElem_toArray, List.getElem_cons_zero, List.getElem_cons_succ, List.setIfInBounds_toArray, List.set_cons_zero, List.set_cons_succ]
    refine Rg.take 15 (v := .pointer (some ⟨wb.heap.size, 0, none⟩)) rfl rfl (by kernel_rfl) (by kernel_rfl) (by kernel_rfl) (by kernel_rfl) (by kernel_rfl) (.inl ⟨rfl, fun bs wq hI => ?_⟩) ?_
    · go_simp
    simp only [Act.put, List.getElem_toArray, List.getElem_cons_zero, List.getElem_cons_succ, List.setIfInBounds_toArray, List.set_cons_zero, List.set_cons_succ]
    refine Rg.take 16 (v := .int .i64 x) rfl rfl (by kernel_rfl) (by kernel_rfl) (by kernel_rfl) (by kernel_rfl) (by kernel_rfl) (.inl ⟨rfl, fun bs wq hI => ?_⟩) ?_
    · (have hc := (hI.mem HW.out).cell 0 rfl; go_simp)
    simp only [Act.put, List.getElem_toArray, List.getElem_cons_zero, List.getElem_cons_succ, List.setIfInBounds_toArray, List.set_cons_zero, List.set_cons_succ]
    refine Rg.take 17 (v := .pointer (some ⟨wb.heap.size, 1, none⟩)) rfl rfl (by kernel_rfl) (by kernel_rfl) (by kernel_rfl) (by kernel_rfl) (by kernel_rfl) (.inl ⟨rfl, fun bs wq hI => ?_⟩) ?_
    · go_simp
    simp only [Act.put, List.getElem_toArray, List.getElem_cons_zero, List.getElem_cons_succ, List.setIfInBounds_toArray, List.set_cons_zero, List.set_cons_succ]
    refine Rg.take 18 (v := .int .i64 y) rfl rfl (by kernel_rfl) (by kernel_rfl) (by kernel_rfl) (by kernel_rfl) (by kernel_rfl) (.inl ⟨rfl, fun bs wq hI => ?_⟩) ?_
    · (have hc := (hI.mem HW.out).cell 1 rfl; go_simp)
    simp only [Act.put, List.getElem_toArray, List.getElem_cons_zero, List.getElem_cons_succ, List.setIfInBounds_toArray, List.set_cons_zero, List.set_cons_succ]
    refine Rg.take 19 (v := .int .i64 (x + y)) rfl rfl (by kernel_rfl) (by kernel_rfl) (by kernel_rfl) (by kernel_rfl) (by kernel_rfl) (.inl ⟨rfl, fun bs wq hI => ?_⟩) ?_
    · (go_simp <;> exact V1.out)
    simp only [Act.put, List.getElem_toArray, List.getElem_cons_zero, List.getElem_cons_succ, List.setIfInBounds_toArray, List.set_cons_zero, List.set_cons_succ]
    refine Rg.take 20 (v := .pointer (some ⟨wb.heap.size, 2, none⟩)) rfl rfl (by kernel_rfl) (by kernel_rfl) (by kernel_rfl) (by kernel_rfl) (by kernel_rfl) (.inl ⟨rfl, fun bs wq hI => ?_⟩) ?_
    · go_simp
    simp only [Act.put, List.getElem_toArray, List.getElem_cons_zero, List.getElem_cons_succ, List.setIfInBounds_toArray, List.set_cons_zero, List.set_cons_succ]
    refine Rg.take 21 (v := .int .i64 z) rfl rfl (by kernel_rfl) (by kernel_rfl) (by kernel_rfl) (by kernel_rfl) (by kernel_rfl) (.inl ⟨rfl, fun bs wq hI => ?_⟩) ?_
    · (have hc := (hI.mem HW.out).cell 2 rfl; go_simp)
    simp only [Act.put, List.getElem_toArray, List.getElem_cons_zero, List.getElem_cons_succ, List.setIfInBounds_toArray, List.set_cons_zero, List.set_cons_succ]
    refine Rg.take 22 (v := .int .i64 (x + y + z)) rfl rfl (by kernel_rfl) (by kernel_rfl) (by kernel_rfl) (by kernel_rfl) (by kernel_rfl) (.inl ⟨rfl, fun bs wq hI => ?_⟩) ?_
    · (go_simp <;> exact V2.out)
    simp only [Act.put, List.getElem_toArray, List.getElem_cons_zero, List.getElem_cons_succ, List.setIfInBounds_toArray, List.set_cons_zero, List.set_cons_succ]
    refine Rg.take 23 (v := .pointer (some ⟨w.heap.size, 0, none⟩)) rfl rfl (by kernel_rfl) (by kernel_rfl) (by kernel_rfl) (by kernel_rfl) (by kernel_rfl) (.inl ⟨rfl, fun bs wq hI => ?_⟩) ?_
    · go_simp
    simp only [Act.put, List.getElem_toArray, List.getElem_cons_zero, List.getElem_cons_succ, List.setIfInBounds_toArray, List.set_cons_zero, List.set_cons_succ]
    refine Rg.take 24 (v := .agg #[.int .i64 a1, .int .i64 a2]) rfl rfl (by kernel_rfl) (by kernel_rfl) (by kernel_rfl) (by kernel_rfl) (by kernel_rfl) (.inl ⟨rfl, fun bs wq hI => ?_⟩) ?_
    · exact quiet_ldo (vs := [.int .i64 a1, .int .i64 a2, .int .i64 b1, .int .i64 b2, .int .i64 c1, .int .i64 c2]) (us := [.int .i64 a1, .int .i64 a2]) ty_point (.tmp 67) rfl rfl rfl rfl (hI.mem HT.out)
    simp only [Act.put, List.getElem_toArray, List.getElem_cons_zero, List.getElem_cons_succ, List.setIfInBounds_toArray, List.set_cons_zero, List.set_cons_succ]
    refine Rg.take 25 (v := .pointer (some ⟨w.heap.size, 2, none⟩)) rfl rfl (by kernel_rfl) (by kernel_rfl) (by kernel_rfl) (by kernel_rfl) (by kernel_rfl) (.inl ⟨rfl, fun bs wq hI => ?_⟩) ?_
    · go_simp
    simp only [Act.put, List.getElem_toArray, List.getElem_cons_zero, List.getElem_cons_succ, List.setIfInBounds_toArray, List.set_cons_zero, List.set_cons_succ]
    refine Rg.take 26 (v := .agg #[.int .i64 b1, .int .i64 b2]) rfl rfl (by kernel_rfl) (by kernel_rfl) (by kernel_rfl) (by kernel_rfl) (by kernel_rfl) (.inl ⟨rfl, fun bs wq hI => ?_⟩) ?_
    · exact quiet_ldo (vs := [.int .i64 a1, .int .i64 a2, .int .i64 b1, .int .i64 b2, .int .i64 c1, .int .i64 c2]) (us := [.int .i64 b1, .int .i64 b2]) ty_point (.tmp 69) rfl rfl rfl rfl (hI.mem HT.out)
    simp only [Act.put, List.getElem_toArray, List.getElem_cons_zero, List.getElem_cons_succ, List.setIfInBounds_toArray, List.set_cons_zero, List.set_cons_succ]
    refine Rg.take 27 (v := .pointer (some ⟨w.heap.size, 4, none⟩)) rfl rfl (by kernel_rfl) (by kernel_rfl) (by kernel_rfl) (by kernel_rfl) (by kernel_rfl) (.inl ⟨rfl, fun bs wq hI => ?_⟩) ?_
    · go_simp
    simp only [Act.put, List.getElem_toArray, List.getElem_cons_zero, List.getElem_cons_succ, List.setIfInBounds_toArray, List.set_cons_zero, List.set_cons_succ]
    refine Rg.take 28 (v := .agg #[.int .i64 c1, .int .i64 c2]) rfl rfl (by kernel_rfl) (by kernel_rfl) (by kernel_rfl) (by kernel_rfl) (by kernel_rfl) (.inl ⟨rfl, fun bs wq hI => ?_⟩) ?_
    · exact quiet_ldo (vs := [.int .i64 a1, .int .i64 a2, .int .i64 b1, .int .i64 b2, .int .i64 c1, .int .i64 c2]) (us := [.int .i64 c1, .int .i64 c2]) ty_point (.tmp 71) rfl rfl rfl rfl (hI.mem HT.out)
    simp only [Act.put, List.getElem_toArray, List.getElem_cons_zero, List.getElem_cons_succ, List.setIfInBounds_toArray, List.set_cons_zero, List.set_cons_succ]
    refine Rg.take 29 (v := .int .i64 s) rfl rfl (by kernel_rfl) (by kernel_rfl) (by kernel_rfl) (by kernel_rfl) (by kernel_rfl) (.inl ⟨rfl, fun bs wq hI => ?_⟩) ?_
    · (go_simp; exact (R2 _).mono fun e w2 h => ⟨h.1, hI.call h.2⟩)
    simp only [Act.put, List.getElem_toArray, List.getElem_cons_zero, List.getElem_cons_succ, List.setIfInBounds_toArray, List.set_cons_zero, List.set_cons_succ]
    refine Rg.take 30 (v := .bool true) rfl rfl (by kernel_rfl) (by kernel_rfl) (by kernel_rfl) (by kernel_rfl) (by kernel_rfl) (.inl ⟨rfl, fun bs wq hI => ?_⟩) ?_
    · (go_simp <;> exact HS.out)
    simp only [Act.put, List.getElem_toArray, List.getElem_cons_zero, List.getElem_cons_succ, List.setIfInBounds_toArray, List.set_cons_zero, List.set_cons_succ]
    refine Rg.take 31 (v := .bool true) rfl rfl (by kernel_rfl) (by kernel_rfl) (by kernel_rfl) (by kernel_rfl) (by kernel_rfl) (.inl ⟨rfl, fun bs wq hI => ?_⟩) ?_
    · go_simp
    simp only [Act.put, List.getElem_toArray, List.getElem_cons_zero, List.getElem_cons_succ, List.setIfInBounds_toArray, List.set_cons_zero, List.set_cons_succ]
    refine Rg.take 32 (v := .bool true) rfl rfl (by kernel_rfl) (by kernel_rfl) (by kernel_rfl) (by kernel_rfl) (by kernel_rfl) (.inl ⟨rfl, fun bs wq hI => ?_⟩) ?_
    · go_simp
    simp only [Act.put, List.getElem_toArray, List.getElem_cons_zero, List.getElem_cons_succ, List.setIfInBounds_toArray, List.set_cons_zero, List.set_cons_succ]
    refine Rg.take 33 (v := .bool true) rfl rfl (by kernel_rfl) (by kernel_rfl) (by kernel_rfl) (by kernel_rfl) (by kernel_rfl) (.inl ⟨rfl, fun bs wq hI => ?_⟩) ?_
    · (go_simp; exact (awake_any _).mono fun e w2 h => ⟨h.1, hI.call h.2⟩)
    simp only [Act.put, List.getElem_toArray, List.getElem_cons_zero, List.getElem_cons_succ, List.setIfInBounds_toArray, List.set_cons_zero, List.set_cons_succ]
    refine Rg.take 34 (v := .bool true) rfl rfl (by kernel_rfl) (by kernel_rfl) (by kernel_rfl) (by kernel_rfl) (by kernel_rfl) (.inl ⟨rfl, fun bs wq hI => ?_⟩) ?_
    · go_simp
    simp only [Act.put, List.getElem_toArray, List.getElem_cons_zero, List.getElem_cons_succ, List.setIfInBounds_toArray, List.set_cons_zero, List.set_cons_succ]
    refine Rg.take 35 (v := .bool true) rfl rfl (by kernel_rfl) (by kernel_rfl) (by kernel_rfl) (by kernel_rfl) (by kernel_rfl) (.inl ⟨rfl, fun bs wq hI => ?_⟩) ?_
    · go_simp
    simp only [Act.put, List.getElem_toArray, List.getElem_cons_zero, List.getElem_cons_succ, List.setIfInBounds_toArray, List.set_cons_zero, List.set_cons_succ]
    refine Rg.done (rs := []) (by kernel_rfl) (by decide) (fun W hI => ?_)
    have HO := Lib.hid hI
    clear hI
    refine wpAny_done (by kernel_rfl) ?_ _
    go_wp2_with fail
    go_ret
    exact ⟨rfl, HO.out.k⟩
end Go.Proofs.Ytkgelmaakmpaeaa
