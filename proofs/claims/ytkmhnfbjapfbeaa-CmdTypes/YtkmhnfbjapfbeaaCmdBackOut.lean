/-
  CmdBack: its Go text returns true where a command is far too great, or of no kind.
-/
import Derived.Test.YtkmhnfbjapfbeaaCmdAwake
import Derived.Test.YtkmhnfbjapfbeaaCmdOfA
import Derived.Test.YtkmhnfbjapfbeaaCmdOfB
import Derived.Test.YtkmhnfbjapfbeaaCmdRefOwn
import Derived.BigGuard
namespace Go.Proofs.Ytkmhnfbjapfbeaa
open Go.RowKit

set_option linter.unusedSimpArgs false in
set_option maxRecDepth 100000 in
set_option maxHeartbeats 8000000 in
theorem cmdback_heavy (o h a b c d : Int) (a1 a2 : Option Addr) (n1 c1 n2 c2 : Nat) (w : World) (LT : ∀ W, Calls Try.prog 6 #[.agg #[.int .i64 o, .int .i64 h, .int .i64 a, .int .i64 b, .int .i64 c, .int .i64 d, .slice a1 n1 c1, .slice a2 n2 c2]] W fun e w' => e = .returned (.bool false) ∧ Kp W.heap.size W w') :
    Calls Try.prog 3 #[.agg #[.int .i64 o, .int .i64 h, .int .i64 a, .int .i64 b, .int .i64 c, .int .i64 d, .slice a1 n1 c1, .slice a2 n2 c2]] w fun e w' => e = .returned (.bool true) ∧ Kp w.heap.size w w' := by
  have HO := Lib.hid ((Ow.refl w).newAt (w.heap.size) rfl (.int .i64 o) [.int .i64 h, .int .i64 a, .int .i64 b, .int .i64 c, .int .i64 d, .slice a1 n1 c1, .slice a2 n2 c2] 25)
  go_enter Try.func3, Try.ntmps3
  go_wp2_with (first
    | go_big_skip
    | ((with_reducible show wpList _ _ _ ({ dst := _, op := Op.load 25 (Operand.tmp 1), type := _, pos := _, after := _, guard := _ } :: _) _ _); refine wpList_ldr ty_cmd rfl _ rfl _ rfl _ rfl (HO.out.at 0 rfl) ?_)
    | (go_at_call 6; with_reducible refine (LT _).mono ?_; rintro e wz ⟨rfl, hk1⟩; have l2 := HO.out.call hk1; clear HO hk1; have HO := Lib.hid l2; clear l2)
    | (go_at_call 7; refine (awake_any _).mono ?_; rintro e wz ⟨rfl, hk1⟩; have l2 := HO.out.call hk1; clear HO hk1; have HO := Lib.hid l2; clear l2))
  go_ret
  exact ⟨rfl, HO.out.k⟩
set_option linter.unusedSimpArgs false in
set_option maxRecDepth 100000 in
set_option maxHeartbeats 8000000 in
theorem cmdback_out (o h a b c d o9 h9 a9 b9 c9 d9 : Int) (a1 a2 : Option Addr) (n1 c1 n2 c2 : Nat) (rv ru : Value) (l9 : List Int) (s9 : List (Nat → Int)) (w : World) (LT : ∀ W, Calls Try.prog 6 #[.agg #[.int .i64 o, .int .i64 h, .int .i64 a, .int .i64 b, .int .i64 c, .int .i64 d, .slice a1 n1 c1, .slice a2 n2 c2]] W fun e w' => e = .returned (.bool true) ∧ Kp W.heap.size W w') (OW : ∀ W, Kp w.heap.size w W → Calls Try.prog 8 #[.agg #[.int .i64 o, .int .i64 h, .int .i64 a, .int .i64 b, .int .i64 c, .int .i64 d, .slice a1 n1 c1, .slice a2 n2 c2]] W fun e w' => ∃ v' u', e = .returned (.agg #[.int .i64 o9, .int .i64 h9, .int .i64 a9, .int .i64 b9, .int .i64 c9, .int .i64 d9, v', u']) ∧ SlF W.heap.size w' v' (iv l9) ∧ SpF Cm.vt 9 W.heap.size w' u' s9 ∧ Kp W.heap.size W w') (OF : ∀ W, Kp w.heap.size w W → Calls Try.prog 9 #[.agg #[.int .i64 o, .int .i64 h, .int .i64 a, .int .i64 b, .int .i64 c, .int .i64 d, .slice a1 n1 c1, .slice a2 n2 c2]] W fun e w' => ∃ v' u', e = .returned (.tuple #[.nilIface, .int .i64 9]) ∧ SlF W.heap.size w' v' (iv l9) ∧ SpF Cm.vt 9 W.heap.size w' u' s9 ∧ Kp W.heap.size W w') (RO : ∀ W, Calls Try.prog 11 #[.agg #[.int .i64 o, .int .i64 h, .int .i64 a, .int .i64 b, .int .i64 c, .int .i64 d, .slice a1 n1 c1, .slice a2 n2 c2]] W fun e w' => e = .returned (.agg #[.int .i64 o9, .int .i64 h9, .int .i64 a9, .int .i64 b9, .int .i64 c9, .int .i64 d9, rv, ru]) ∧ Kp W.heap.size W w') (hR : Sl w rv (iv l9)) (hRV : Ro.Sp Cm.vt 9 w ru s9) (hl9 : l9.length ≤ 5000) (hs9 : s9.length ≤ 5000) (hk : ¬ (1 ≤ o ∧ o ≤ 19)) :
    Calls Try.prog 3 #[.agg #[.int .i64 o, .int .i64 h, .int .i64 a, .int .i64 b, .int .i64 c, .int .i64 d, .slice a1 n1 c1, .slice a2 n2 c2]] w fun e w' => e = .returned (.bool true) ∧ Kp w.heap.size w w' := by
  by_cases h1 : o < 1
  · skip
    have z1 : decide (o < 1) = true := decide_eq_true (by omega)
    have z2 : decide (19 < o) = false := decide_eq_false (by omega)
    have qn := nil_nil
    clear hk
    have HO := Lib.hid ((Ow.refl w).newAt (w.heap.size) rfl (.int .i64 o) [.int .i64 h, .int .i64 a, .int .i64 b, .int .i64 c, .int .i64 d, .slice a1 n1 c1, .slice a2 n2 c2] 25)
    go_enter Try.func3, Try.ntmps3
    go_wp2_with (first
        | go_big_skip
        | (go_at_call 6; with_reducible refine (LT _).mono ?_; rintro e wz ⟨rfl, hk1⟩; have l2 := HO.out.call hk1; clear HO hk1; have HO := Lib.hid l2; clear l2)
        | (go_at_call 8; refine (OW _ HO.out.k).mono ?_; rintro e w3 ⟨v', u', rfl, f1, f2, hk1⟩; obtain ⟨a5, n5, c5, rfl⟩ := f1.shape; obtain ⟨a6, n6, c6, rfl⟩ := f2.shape; have l3 := SlF.keeps.kp _ _ (f1.mono HO.out.k.size) (Kp.new w3 #[.int .i64 o9, .int .i64 h9, .int .i64 a9, .int .i64 b9, .int .i64 c9, .int .i64 d9, .slice a5 n5 c5, .slice a6 n6 c6] 25); have l4 := SpF.keeps.kp _ _ (f2.mono HO.out.k.size) (Kp.new w3 #[.int .i64 o9, .int .i64 h9, .int .i64 a9, .int .i64 b9, .int .i64 c9, .int .i64 d9, .slice a5 n5 c5, .slice a6 n6 c6] 25); have l2 := (HO.out.call hk1).newAt (w3.heap.size) rfl (.int .i64 o9) [.int .i64 h9, .int .i64 a9, .int .i64 b9, .int .i64 c9, .int .i64 d9, .slice a5 n5 c5, .slice a6 n6 c6] 25; clear HO hk1 f1 f2; have HO := Lib.hid l2; have HQ := Lib.hid (And.intro l3 l4); clear l2 l3 l4)
        | (go_at_call 9; refine (OF _ HO.out.k).mono ?_; rintro e w4 ⟨v', u', rfl, f1, f2, hk1⟩; have l3 := And.intro (SlF.keeps.kp _ _ HQ.out.1 hk1) (SpF.keeps.kp _ _ HQ.out.2 hk1); have l2 := HO.out.call hk1; clear HO HQ hk1 f1 f2; have HO := Lib.hid l2; have HQ := Lib.hid l3; clear l2 l3)
        | ((with_reducible show wpList _ _ _ ({ dst := _, op := Op.load 25 (Operand.tmp 1), type := _, pos := _, after := _, guard := _ } :: _) _ _); refine wpList_ldr ty_cmd rfl _ rfl _ rfl _ rfl (HO.out.at 0 rfl) ?_)
        | ((with_reducible show wpList _ _ _ ({ dst := _, op := Op.load 25 (Operand.tmp 1), type := _, pos := _, after := _, guard := _ } :: _) _ _); refine wpList_ldr ty_cmd rfl _ rfl _ rfl _ rfl (HO.out.at 1 rfl) ?_))
    generalize w3.heap.size = bo at *
    have KQ := Lib.hid (show Keeps w.heap.size (fun W => (SlF w.heap.size W (.slice a5 n5 c5) (iv l9) ∧ SpF Cm.vt 9 w.heap.size W (.slice a6 n6 c6) s9)) from (SlF.keeps.and SpF.keeps))
    refine Rg.region (I := fun _ W => Ow w W [(bo, [.int .i64 o9, .int .i64 h9, .int .i64 a9, .int .i64 b9, .int .i64 c9, .int .i64 d9, .slice a5 n5 c5, .slice a6 n6 c6]), (w.heap.size, [.int .i64 o, .int .i64 h, .int .i64 a, .int .i64 b, .int .i64 c, .int .i64 d, .slice a1 n1 c1, .slice a2 n2 c2])] ∧ (SlF w.heap.size W (.slice a5 n5 c5) (iv l9) ∧ SpF Cm.vt 9 w.heap.size W (.slice a6 n6 c6) s9)) (dem := fun _ => false) (m := 5) (g := 0) (T := fun listed bs st => ∀ W, (Ow w W [(bo, [.int .i64 o9, .int .i64 h9, .int .i64 a9, .int .i64 b9, .int .i64 c9, .int .i64 d9, .slice a5 n5 c5, .slice a6 n6 c6]), (w.heap.size, [.int .i64 o, .int .i64 h, .int .i64 a, .int .i64 b, .int .i64 c, .int .i64 d, .slice a1 n1 c1, .slice a2 n2 c2])] ∧ (SlF w.heap.size W (.slice a5 n5 c5) (iv l9) ∧ SpF Cm.vt 9 w.heap.size W (.slice a6 n6 c6) s9)) → wpAny Try.prog .any _ _ 0 listed st W) (by kernel_rfl) ⟨HO.out.drew, KQ.out.kp _ _ HQ.out (Kp.refl _ _).drew⟩ rfl (fun _ _ _ _ h hI => h _ hI) ?_
    clear HO HQ
    refine Rg.take 0 (v := .agg #[.int .i64 o9, .int .i64 h9, .int .i64 a9, .int .i64 b9, .int .i64 c9, .int .i64 d9, .slice a5 n5 c5, .slice a6 n6 c6]) rfl rfl (by kernel_rfl) (by kernel_rfl) (by kernel_rfl) (by kernel_rfl) (by kernel_rfl) (.inl ⟨rfl, fun bs wq hI => ?_⟩) ?_
    · exact quiet_ldr ty_cmd (.tmp 3) rfl rfl rfl (hI.1.at 0 rfl)
    simp only [Act.put, List.getElem_toArray, List.getElem_cons_zero, List.getElem_cons_succ, List.setIfInBounds_toArray, List.set_cons_zero, List.set_cons_succ]
    refine Rg.take 1 (v := .agg #[.int .i64 o, .int .i64 h, .int .i64 a, .int .i64 b, .int .i64 c, .int .i64 d, .slice a1 n1 c1, .slice a2 n2 c2]) rfl rfl (by kernel_rfl) (by kernel_rfl) (by kernel_rfl) (by kernel_rfl) (by kernel_rfl) (.inl ⟨rfl, fun bs wq hI => ?_⟩) ?_
    · exact quiet_ldr ty_cmd (.tmp 1) rfl rfl rfl (hI.1.at 1 rfl)
    simp only [Act.put, List.getElem_toArray, List.getElem_cons_zero, List.getElem_cons_succ, List.setIfInBounds_toArray, List.set_cons_zero, List.set_cons_succ]
    refine Rg.take 2 (v := .agg #[.int .i64 o9, .int .i64 h9, .int .i64 a9, .int .i64 b9, .int .i64 c9, .int .i64 d9, rv, ru]) rfl rfl (by kernel_rfl) (by kernel_rfl) (by kernel_rfl) (by kernel_rfl) (by kernel_rfl) (.inl ⟨rfl, fun bs wq hI => ?_⟩) ?_
    · (go_simp; exact (RO _).mono fun e w2 h => ⟨h.1, hI.1.call h.2, KQ.out.kp _ _ hI.2 h.2⟩)
    simp only [Act.put, List.getElem_toArray, List.getElem_cons_zero, List.getElem_cons_succ, List.setIfInBounds_toArray, List.set_cons_zero, List.set_cons_succ]
    refine Rg.take 3 (v := .bool true) rfl rfl (by kernel_rfl) (by kernel_rfl) (by kernel_rfl) (by kernel_rfl) (by kernel_rfl) (.inl ⟨rfl, fun bs wq hI => ?_⟩) ?_
    · (go_simp; exact (rsame_yes o9 h9 a9 b9 c9 d9 (.slice a5 n5 c5) (.slice a6 n6 c6) rv ru l9 s9 _ hI.2.1.sl (hR.next hI.1.k) hI.2.2.sp (hRV.next hI.1.k) hl9 hs9).mono fun e w2 h => ⟨h.1, hI.1.call h.2, KQ.out.kp _ _ hI.2 h.2⟩)
    simp only [Act.put, List.getElem_toArray, List.getElem_cons_zero, List.getElem_cons_succ, List.setIfInBounds_toArray, List.set_cons_zero, List.set_cons_succ]
    refine Rg.take 4 (v := .bool false) rfl rfl (by kernel_rfl) (by kernel_rfl) (by kernel_rfl) (by kernel_rfl) (by kernel_rfl) (.inl ⟨rfl, fun bs wq hI => ?_⟩) ?_
    · go_simp
    simp only [Act.put, List.getElem_toArray, List.getElem_cons_zero, List.getElem_cons_succ, List.setIfInBounds_toArray, List.set_cons_zero, List.set_cons_succ]
    refine Rg.done (rs := []) (by kernel_rfl) (by decide) (fun W hI => ?_)
    have HO := Lib.hid hI.1
    have HQ := Lib.hid hI.2
    clear hI
    refine wpAny_done (by kernel_rfl) ?_ _
    clear RO hR hRV
    go_wp2_with (first
        | go_big_skip
        | ((with_reducible show wpList _ _ _ ({ dst := _, op := Op.load 3 (Operand.tmp 24), type := _, pos := _, after := _, guard := _ } :: _) _ _); refine wpList_ld1 rfl 0 (.int .i64 o) (HO.out.at 1 rfl) rfl (fun cc K hK => by go_simp; exact hK) ?_)
        | ((with_reducible show wpList _ _ _ ({ dst := _, op := Op.load 3 (Operand.tmp 28), type := _, pos := _, after := _, guard := _ } :: _) _ _); refine wpList_ld1 rfl 0 (.int .i64 o) (HO.out.at 1 rfl) rfl (fun cc K hK => by go_simp; exact hK) ?_)
        | (go_at_call 7; refine (awake_any _).mono ?_; rintro e wz ⟨rfl, hk1⟩; have l2 := HO.out.call hk1; clear HO hk1; have HO := Lib.hid l2; clear l2))
    go_ret
    exact ⟨rfl, HO.out.k⟩
  · skip
    have z1 : decide (o < 1) = false := decide_eq_false (by omega)
    have z2 : decide (19 < o) = true := decide_eq_true (by omega)
    have z3 : 19 < o := by omega
    have qn := nil_nil
    clear hk
    have HO := Lib.hid ((Ow.refl w).newAt (w.heap.size) rfl (.int .i64 o) [.int .i64 h, .int .i64 a, .int .i64 b, .int .i64 c, .int .i64 d, .slice a1 n1 c1, .slice a2 n2 c2] 25)
    go_enter Try.func3, Try.ntmps3
    go_wp2_with (first
        | go_big_skip
        | (go_at_call 6; with_reducible refine (LT _).mono ?_; rintro e wz ⟨rfl, hk1⟩; have l2 := HO.out.call hk1; clear HO hk1; have HO := Lib.hid l2; clear l2)
        | (go_at_call 8; refine (OW _ HO.out.k).mono ?_; rintro e w3 ⟨v', u', rfl, f1, f2, hk1⟩; obtain ⟨a5, n5, c5, rfl⟩ := f1.shape; obtain ⟨a6, n6, c6, rfl⟩ := f2.shape; have l3 := SlF.keeps.kp _ _ (f1.mono HO.out.k.size) (Kp.new w3 #[.int .i64 o9, .int .i64 h9, .int .i64 a9, .int .i64 b9, .int .i64 c9, .int .i64 d9, .slice a5 n5 c5, .slice a6 n6 c6] 25); have l4 := SpF.keeps.kp _ _ (f2.mono HO.out.k.size) (Kp.new w3 #[.int .i64 o9, .int .i64 h9, .int .i64 a9, .int .i64 b9, .int .i64 c9, .int .i64 d9, .slice a5 n5 c5, .slice a6 n6 c6] 25); have l2 := (HO.out.call hk1).newAt (w3.heap.size) rfl (.int .i64 o9) [.int .i64 h9, .int .i64 a9, .int .i64 b9, .int .i64 c9, .int .i64 d9, .slice a5 n5 c5, .slice a6 n6 c6] 25; clear HO hk1 f1 f2; have HO := Lib.hid l2; have HQ := Lib.hid (And.intro l3 l4); clear l2 l3 l4)
        | (go_at_call 9; refine (OF _ HO.out.k).mono ?_; rintro e w4 ⟨v', u', rfl, f1, f2, hk1⟩; have l3 := And.intro (SlF.keeps.kp _ _ HQ.out.1 hk1) (SpF.keeps.kp _ _ HQ.out.2 hk1); have l2 := HO.out.call hk1; clear HO HQ hk1 f1 f2; have HO := Lib.hid l2; have HQ := Lib.hid l3; clear l2 l3)
        | ((with_reducible show wpList _ _ _ ({ dst := _, op := Op.load 25 (Operand.tmp 1), type := _, pos := _, after := _, guard := _ } :: _) _ _); refine wpList_ldr ty_cmd rfl _ rfl _ rfl _ rfl (HO.out.at 0 rfl) ?_)
        | ((with_reducible show wpList _ _ _ ({ dst := _, op := Op.load 25 (Operand.tmp 1), type := _, pos := _, after := _, guard := _ } :: _) _ _); refine wpList_ldr ty_cmd rfl _ rfl _ rfl _ rfl (HO.out.at 1 rfl) ?_))
    generalize w3.heap.size = bo at *
    have KQ := Lib.hid (show Keeps w.heap.size (fun W => (SlF w.heap.size W (.slice a5 n5 c5) (iv l9) ∧ SpF Cm.vt 9 w.heap.size W (.slice a6 n6 c6) s9)) from (SlF.keeps.and SpF.keeps))
    refine Rg.region (I := fun _ W => Ow w W [(bo, [.int .i64 o9, .int .i64 h9, .int .i64 a9, .int .i64 b9, .int .i64 c9, .int .i64 d9, .slice a5 n5 c5, .slice a6 n6 c6]), (w.heap.size, [.int .i64 o, .int .i64 h, .int .i64 a, .int .i64 b, .int .i64 c, .int .i64 d, .slice a1 n1 c1, .slice a2 n2 c2])] ∧ (SlF w.heap.size W (.slice a5 n5 c5) (iv l9) ∧ SpF Cm.vt 9 w.heap.size W (.slice a6 n6 c6) s9)) (dem := fun _ => false) (m := 5) (g := 0) (T := fun listed bs st => ∀ W, (Ow w W [(bo, [.int .i64 o9, .int .i64 h9, .int .i64 a9, .int .i64 b9, .int .i64 c9, .int .i64 d9, .slice a5 n5 c5, .slice a6 n6 c6]), (w.heap.size, [.int .i64 o, .int .i64 h, .int .i64 a, .int .i64 b, .int .i64 c, .int .i64 d, .slice a1 n1 c1, .slice a2 n2 c2])] ∧ (SlF w.heap.size W (.slice a5 n5 c5) (iv l9) ∧ SpF Cm.vt 9 w.heap.size W (.slice a6 n6 c6) s9)) → wpAny Try.prog .any _ _ 0 listed st W) (by kernel_rfl) ⟨HO.out.drew, KQ.out.kp _ _ HQ.out (Kp.refl _ _).drew⟩ rfl (fun _ _ _ _ h hI => h _ hI) ?_
    clear HO HQ
    refine Rg.take 0 (v := .agg #[.int .i64 o9, .int .i64 h9, .int .i64 a9, .int .i64 b9, .int .i64 c9, .int .i64 d9, .slice a5 n5 c5, .slice a6 n6 c6]) rfl rfl (by kernel_rfl) (by kernel_rfl) (by kernel_rfl) (by kernel_rfl) (by kernel_rfl) (.inl ⟨rfl, fun bs wq hI => ?_⟩) ?_
    · exact quiet_ldr ty_cmd (.tmp 3) rfl rfl rfl (hI.1.at 0 rfl)
    simp only [Act.put, List.getElem_toArray, List.getElem_cons_zero, List.getElem_cons_succ, List.setIfInBounds_toArray, List.set_cons_zero, List.set_cons_succ]
    refine Rg.take 1 (v := .agg #[.int .i64 o, .int .i64 h, .int .i64 a, .int .i64 b, .int .i64 c, .int .i64 d, .slice a1 n1 c1, .slice a2 n2 c2]) rfl rfl (by kernel_rfl) (by kernel_rfl) (by kernel_rfl) (by kernel_rfl) (by kernel_rfl) (.inl ⟨rfl, fun bs wq hI => ?_⟩) ?_
    · exact quiet_ldr ty_cmd (.tmp 1) rfl rfl rfl (hI.1.at 1 rfl)
    simp only [Act.put, List.getElem_toArray, List.getElem_cons_zero, List.getElem_cons_succ, List.setIfInBounds_toArray, List.set_cons_zero, List.set_cons_succ]
    refine Rg.take 2 (v := .agg #[.int .i64 o9, .int .i64 h9, .int .i64 a9, .int .i64 b9, .int .i64 c9, .int .i64 d9, rv, ru]) rfl rfl (by kernel_rfl) (by kernel_rfl) (by kernel_rfl) (by kernel_rfl) (by kernel_rfl) (.inl ⟨rfl, fun bs wq hI => ?_⟩) ?_
    · (go_simp; exact (RO _).mono fun e w2 h => ⟨h.1, hI.1.call h.2, KQ.out.kp _ _ hI.2 h.2⟩)
    simp only [Act.put, List.getElem_toArray, List.getElem_cons_zero, List.getElem_cons_succ, List.setIfInBounds_toArray, List.set_cons_zero, List.set_cons_succ]
    refine Rg.take 3 (v := .bool true) rfl rfl (by kernel_rfl) (by kernel_rfl) (by kernel_rfl) (by kernel_rfl) (by kernel_rfl) (.inl ⟨rfl, fun bs wq hI => ?_⟩) ?_
    · (go_simp; exact (rsame_yes o9 h9 a9 b9 c9 d9 (.slice a5 n5 c5) (.slice a6 n6 c6) rv ru l9 s9 _ hI.2.1.sl (hR.next hI.1.k) hI.2.2.sp (hRV.next hI.1.k) hl9 hs9).mono fun e w2 h => ⟨h.1, hI.1.call h.2, KQ.out.kp _ _ hI.2 h.2⟩)
    simp only [Act.put, List.getElem_toArray, List.getElem_cons_zero, List.getElem_cons_succ, List.setIfInBounds_toArray, List.set_cons_zero, List.set_cons_succ]
    refine Rg.take 4 (v := .bool false) rfl rfl (by kernel_rfl) (by kernel_rfl) (by kernel_rfl) (by kernel_rfl) (by kernel_rfl) (.inl ⟨rfl, fun bs wq hI => ?_⟩) ?_
    · go_simp
    simp only [Act.put, List.getElem_toArray, List.getElem_cons_zero, List.getElem_cons_succ, List.setIfInBounds_toArray, List.set_cons_zero, List.set_cons_succ]
    refine Rg.done (rs := []) (by kernel_rfl) (by decide) (fun W hI => ?_)
    have HO := Lib.hid hI.1
    have HQ := Lib.hid hI.2
    clear hI
    refine wpAny_done (by kernel_rfl) ?_ _
    clear RO hR hRV
    go_wp2_with (first
        | go_big_skip
        | ((with_reducible show wpList _ _ _ ({ dst := _, op := Op.load 3 (Operand.tmp 24), type := _, pos := _, after := _, guard := _ } :: _) _ _); refine wpList_ld1 rfl 0 (.int .i64 o) (HO.out.at 1 rfl) rfl (fun cc K hK => by go_simp; exact hK) ?_)
        | ((with_reducible show wpList _ _ _ ({ dst := _, op := Op.load 3 (Operand.tmp 28), type := _, pos := _, after := _, guard := _ } :: _) _ _); refine wpList_ld1 rfl 0 (.int .i64 o) (HO.out.at 1 rfl) rfl (fun cc K hK => by go_simp; exact hK) ?_)
        | (go_at_call 7; refine (awake_any _).mono ?_; rintro e wz ⟨rfl, hk1⟩; have l2 := HO.out.call hk1; clear HO hk1; have HO := Lib.hid l2; clear l2))
    go_ret
    exact ⟨rfl, HO.out.k⟩
end Go.Proofs.Ytkmhnfbjapfbeaa
