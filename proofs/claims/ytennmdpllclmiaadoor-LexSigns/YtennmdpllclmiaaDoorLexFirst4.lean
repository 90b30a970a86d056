/-
  Contracts of layer 4 (lex): what the document reads at a text's head.
-/
import Derived.Test.YtennmdpllclmiaaDoorLexFirst
set_option linter.unusedVariables false
namespace Go.Proofs.YtennmdpllclmiaaDoor
open Go.RowKit
set_option maxHeartbeats 1000000 in
set_option maxRecDepth 100000 in
theorem first_4y (s : ByteArray) (w : World) (h0 : 0 < s.size) (hs : s.size ≤ 1000000) (hnz : ((s.size : Int) == 0) = false) (g1 : (240 : Int) ≤ ((s[0]'h0).toNat : Int)) (g2 : ((s[0]'h0).toNat : Int) < 256) (g3 : ((s[0]'h0).toNat : Int) < 256) (HC : Hid (Lx.fc s.data.toList 0 = ((s[0]'h0).toNat : Int) - 240)) (HD : Hid (Lib.decodeL s.data.toList = ((Lx.fc s.data.toList (4 - 1)).toNat, 4))) (hz : (4 : Int) ≤ (s.size : Int)) (H1 : Hid (Lx.sgn (Lx.fc s.data.toList (4 - 1)) = true)) (H2 : Hid (Lib.encodeRune (Lx.fc s.data.toList (4 - 1)) = s.data.toList.take 4)) (HB : Hid (¬ hb s.data.toList)) :
    Calls Tryd.prog 22 #[.string s] w fun e w' => FP s.data.toList w e w' := by
  go_enter Tryd.func22, Tryd.ntmps22
  go_wp2
  go_loop [5, 6] (fun c i => FL s.data.toList 4 c i) (fun _ i => msr 4 i)
  case atStart =>
    have := fc_bd s.data.toList 0 (by omega)
    rw [HC.out] at this
    exact FL.mk 0 _ (by omega) rfl rfl (Lib.hid HC.out.symm) this
  case round =>
    obtain ⟨k, hk, rfl, C, rfl, hC, hC1, hC2⟩ := hrel
    by_cases hlt : (k : Int) + 1 < 4
    · have hi : k + 1 < s.size := by omega
      have hc := (s[k+1]'hi).toNat_lt
      have HN : Hid (C * 64 + (s[k+1]'hi).toNat - 128 = Lx.fc s.data.toList (k + 1)) := Lib.hid (by show _ = Lx.fc _ _ * 64 + _ - 128; rw [get_list s (k + 1) hi, hC.out])
      have hbd := fc_bd s.data.toList (k + 1) (by omega)
      rw [← HN.out] at hbd
      go_wp2
      go_round
      case rel => exact FL.mk (k + 1) _ (by omega) (by go_num) rfl HN hbd
      case measure => simp [msr, intOf]; omega
    · obtain rfl : k = 4 - 1 := by omega
      obtain rfl : C = Lx.fc s.data.toList (4 - 1) := hC.out
      clear hC HC
      generalize Lx.fc s.data.toList (4 - 1) = C at *
      have hC0 : 0 ≤ C := by have := (Lx.sgn_iff C).1 H1.out; omega
      have S1 : ∀ W, Calls Tryd.prog 13 #[.int .i64 C] W fun e w' => e = .returned (.bool true) ∧ w' = W := fun W => by have := sign_any C W; rwa [H1.out] at this
      have L1 : ∀ W, Calls Tryd.prog 14 #[.int .i64 C] W fun e w' => ∃ v, e = .returned v ∧ Bytes w' v (Lib.encodeRune C) ∧ Bl W w' := fun W => lay_any C W H1.out
      have HQ : (Lib.encodeRune C == (s.extract 0 4).toList) = true := by rw [ext_list, H2.out, beq_iff_eq]
      clear H2
      go_wp2_with fail
      go_region_with (first
        | (go_at_call 13; (with_reducible refine (S1 _).mono ?_); rintro e w1 ⟨rfl, rfl⟩)
        | (go_at_call 14; (with_reducible refine (L1 _).mono ?_); rintro e w1 ⟨v, rfl, hv, hk⟩; have cv := hv.conv; have cv2 := (hv.next (Bl.refl _).drew).conv; have HK := Lib.hid hk; clear hk hv))
      all_goals
        go_wp2
        go_ret2
        exact FP.some HD.out hC0 HB.out rfl (Bl.next (Bl.refl _).drew HK.out)

set_option maxHeartbeats 1000000 in
set_option maxRecDepth 100000 in
theorem first_4n (s : ByteArray) (w : World) (h0 : 0 < s.size) (hs : s.size ≤ 1000000) (hnz : ((s.size : Int) == 0) = false) (g1 : (240 : Int) ≤ ((s[0]'h0).toNat : Int)) (g2 : ((s[0]'h0).toNat : Int) < 256) (g3 : ((s[0]'h0).toNat : Int) < 256) (HC : Hid (Lx.fc s.data.toList 0 = ((s[0]'h0).toNat : Int) - 240)) (HD : Hid (Lib.decodeL s.data.toList = (65533, 1))) (hz : (4 : Int) ≤ (s.size : Int)) (H1 : Hid (Lx.sgn (Lx.fc s.data.toList (4 - 1)) = false)) :
    Calls Tryd.prog 22 #[.string s] w fun e w' => FP s.data.toList w e w' := by
  go_enter Tryd.func22, Tryd.ntmps22
  go_wp2
  go_loop [5, 6] (fun c i => FL s.data.toList 4 c i) (fun _ i => msr 4 i)
  case atStart =>
    have := fc_bd s.data.toList 0 (by omega)
    rw [HC.out] at this
    exact FL.mk 0 _ (by omega) rfl rfl (Lib.hid HC.out.symm) this
  case round =>
    obtain ⟨k, hk, rfl, C, rfl, hC, hC1, hC2⟩ := hrel
    by_cases hlt : (k : Int) + 1 < 4
    · have hi : k + 1 < s.size := by omega
      have hc := (s[k+1]'hi).toNat_lt
      have HN : Hid (C * 64 + (s[k+1]'hi).toNat - 128 = Lx.fc s.data.toList (k + 1)) := Lib.hid (by show _ = Lx.fc _ _ * 64 + _ - 128; rw [get_list s (k + 1) hi, hC.out])
      have hbd := fc_bd s.data.toList (k + 1) (by omega)
      rw [← HN.out] at hbd
      go_wp2
      go_round
      case rel => exact FL.mk (k + 1) _ (by omega) (by go_num) rfl HN hbd
      case measure => simp [msr, intOf]; omega
    · obtain rfl : k = 4 - 1 := by omega
      obtain rfl : C = Lx.fc s.data.toList (4 - 1) := hC.out
      clear hC HC
      generalize Lx.fc s.data.toList (4 - 1) = C at *
      have S1 : ∀ W, Calls Tryd.prog 13 #[.int .i64 C] W fun e w' => e = .returned (.bool false) ∧ w' = W := fun W => by have := sign_any C W; rwa [H1.out] at this
      go_wp2_with fail
      go_quiet (first | (go_at_call 13; exact Calls.quiet_of_same (S1 _)))
      go_wp2
      go_ret2
      exact FP.none HD.out rfl (Bl.drewN (Bl.refl _) _)

set_option maxHeartbeats 1000000 in
set_option maxRecDepth 100000 in
theorem first_4m (s : ByteArray) (w : World) (h0 : 0 < s.size) (hs : s.size ≤ 1000000) (hnz : ((s.size : Int) == 0) = false) (g1 : (240 : Int) ≤ ((s[0]'h0).toNat : Int)) (g2 : ((s[0]'h0).toNat : Int) < 256) (g3 : ((s[0]'h0).toNat : Int) < 256) (HC : Hid (Lx.fc s.data.toList 0 = ((s[0]'h0).toNat : Int) - 240)) (HD : Hid (Lib.decodeL s.data.toList = (65533, 1))) (hz : (4 : Int) ≤ (s.size : Int)) (H1 : Hid (Lx.sgn (Lx.fc s.data.toList (4 - 1)) = true)) (H2 : Hid (¬ Lib.encodeRune (Lx.fc s.data.toList (4 - 1)) = s.data.toList.take 4)) :
    Calls Tryd.prog 22 #[.string s] w fun e w' => FP s.data.toList w e w' := by
  go_enter Tryd.func22, Tryd.ntmps22
  go_wp2
  go_loop [5, 6] (fun c i => FL s.data.toList 4 c i) (fun _ i => msr 4 i)
  case atStart =>
    have := fc_bd s.data.toList 0 (by omega)
    rw [HC.out] at this
    exact FL.mk 0 _ (by omega) rfl rfl (Lib.hid HC.out.symm) this
  case round =>
    obtain ⟨k, hk, rfl, C, rfl, hC, hC1, hC2⟩ := hrel
    by_cases hlt : (k : Int) + 1 < 4
    · have hi : k + 1 < s.size := by omega
      have hc := (s[k+1]'hi).toNat_lt
      have HN : Hid (C * 64 + (s[k+1]'hi).toNat - 128 = Lx.fc s.data.toList (k + 1)) := Lib.hid (by show _ = Lx.fc _ _ * 64 + _ - 128; rw [get_list s (k + 1) hi, hC.out])
      have hbd := fc_bd s.data.toList (k + 1) (by omega)
      rw [← HN.out] at hbd
      go_wp2
      go_round
      case rel => exact FL.mk (k + 1) _ (by omega) (by go_num) rfl HN hbd
      case measure => simp [msr, intOf]; omega
    · obtain rfl : k = 4 - 1 := by omega
      obtain rfl : C = Lx.fc s.data.toList (4 - 1) := hC.out
      clear hC HC
      generalize Lx.fc s.data.toList (4 - 1) = C at *
      have S1 : ∀ W, Calls Tryd.prog 13 #[.int .i64 C] W fun e w' => e = .returned (.bool true) ∧ w' = W := fun W => by have := sign_any C W; rwa [H1.out] at this
      have L1 : ∀ W, Calls Tryd.prog 14 #[.int .i64 C] W fun e w' => ∃ v, e = .returned v ∧ Bytes w' v (Lib.encodeRune C) ∧ Bl W w' := fun W => lay_any C W H1.out
      have HQ : (Lib.encodeRune C == (s.extract 0 4).toList) = false := by rw [ext_list, beq_eq_false_iff_ne]; exact H2.out
      clear H2
      go_wp2_with fail
      go_region_with (first
        | (go_at_call 13; (with_reducible refine (S1 _).mono ?_); rintro e w1 ⟨rfl, rfl⟩)
        | (go_at_call 14; (with_reducible refine (L1 _).mono ?_); rintro e w1 ⟨v, rfl, hv, hk⟩; have cv := hv.conv; have cv2 := (hv.next (Bl.refl _).drew).conv; have HK := Lib.hid hk; clear hk hv))
      all_goals
        go_wp2
        go_ret2
        exact FP.none HD.out rfl (Bl.next (Bl.refl _).drew HK.out)

set_option maxHeartbeats 1000000 in
set_option maxRecDepth 100000 in
theorem first_4s (s : ByteArray) (w : World) (h0 : 0 < s.size) (hs : s.size ≤ 1000000) (hnz : ((s.size : Int) == 0) = false) (g1 : (240 : Int) ≤ ((s[0]'h0).toNat : Int)) (g2 : ((s[0]'h0).toNat : Int) < 256) (g3 : ((s[0]'h0).toNat : Int) < 256) (HC : Hid (Lx.fc s.data.toList 0 = ((s[0]'h0).toNat : Int) - 240)) (HD : Hid (Lib.decodeL s.data.toList = (65533, 1))) (hz : (s.size : Int) < 4) :
    Calls Tryd.prog 22 #[.string s] w fun e w' => FP s.data.toList w e w' := by
  go_enter Tryd.func22, Tryd.ntmps22
  go_wp2
  go_ret2
  exact FP.none HD.out rfl (Bl.refl _)

theorem first_4 (s : ByteArray) (w : World) (h0 : 0 < s.size) (hs : s.size ≤ 1000000) (hnz : ((s.size : Int) == 0) = false) (g1 : (240 : Int) ≤ ((s[0]'h0).toNat : Int)) (g2 : ((s[0]'h0).toNat : Int) < 256) (g3 : ((s[0]'h0).toNat : Int) < 256) (HC : Hid (Lx.fc s.data.toList 0 = ((s[0]'h0).toNat : Int) - 240)) (HD : Hid (Lib.decodeL s.data.toList = Lib.decodeL s.data.toList)) (hne : s.data.toList ≠ []) (eN : Lx.ln (s.data.toList.getD 0 0).toNat = 4) :
    Calls Tryd.prog 22 #[.string s] w fun e w' => FP s.data.toList w e w' := by
  rcases Lx.head s.data.toList hne with ⟨h, hd⟩ | ⟨h, hs1, he1, hd, hb1⟩ | ⟨h, hn1, hd⟩
  · rw [eN, len_list] at h
    exact first_4s s w h0 hs hnz g1 g2 g3 HC (Lib.hid hd) (by omega)
  · rw [eN, len_list] at h
    rw [eN] at hs1 he1 hd
    exact first_4y s w h0 hs hnz g1 g2 g3 HC (Lib.hid hd) (by omega) (Lib.hid hs1) (Lib.hid he1) (Lib.hid hb1)
  · rw [eN, len_list] at h
    rw [eN] at hn1
    cases hs1 : Lx.sgn (Lx.fc s.data.toList (4 - 1)) with
    | false => exact first_4n s w h0 hs hnz g1 g2 g3 HC (Lib.hid hd) (by omega) (Lib.hid hs1)
    | true => exact first_4m s w h0 hs hnz g1 g2 g3 HC (Lib.hid hd) (by omega) (Lib.hid hs1) (Lib.hid (fun h => hn1 ⟨hs1, h⟩))
end Go.Proofs.YtennmdpllclmiaaDoor
