/-
  CmdBack: its Go text returns true where a command is of a kind.
-/
import Derived.Test.YtkmhnfbjapfbeaaCmdBackOut
import Derived.BigGuard
namespace Go.Proofs.Ytkmhnfbjapfbeaa
open Go.RowKit

set_option linter.unusedSimpArgs false in
set_option maxRecDepth 100000 in
set_option maxHeartbeats 8000000 in
theorem cmdback_in (T : TypeId) (y : Value → Value → Value) (fm : FuncId) (o h a b c d o9 h9 a9 b9 c9 d9 : Int) (a1 a2 : Option Addr) (n1 c1 n2 c2 : Nat) (rv ru : Value) (l9 : List Int) (s9 : List (Nat → Int)) (w : World) (LT : ∀ W, Calls Try.prog 6 #[.agg #[.int .i64 o, .int .i64 h, .int .i64 a, .int .i64 b, .int .i64 c, .int .i64 d, .slice a1 n1 c1, .slice a2 n2 c2]] W fun e w' => e = .returned (.bool true) ∧ Kp W.heap.size W w') (OW : ∀ W, Kp w.heap.size w W → Calls Try.prog 8 #[.agg #[.int .i64 o, .int .i64 h, .int .i64 a, .int .i64 b, .int .i64 c, .int .i64 d, .slice a1 n1 c1, .slice a2 n2 c2]] W fun e w' => ∃ v' u', e = .returned (.agg #[.int .i64 o9, .int .i64 h9, .int .i64 a9, .int .i64 b9, .int .i64 c9, .int .i64 d9, v', u']) ∧ SlF W.heap.size w' v' (iv l9) ∧ SpF Cm.vt 9 W.heap.size w' u' s9 ∧ Kp W.heap.size W w') (OF : ∀ W, Kp w.heap.size w W → Calls Try.prog 9 #[.agg #[.int .i64 o, .int .i64 h, .int .i64 a, .int .i64 b, .int .i64 c, .int .i64 d, .slice a1 n1 c1, .slice a2 n2 c2]] W fun e w' => ∃ v' u', e = .returned (.tuple #[.iface T (y v' u'), .int .i64 0]) ∧ SlF W.heap.size w' v' (iv l9) ∧ SpF Cm.vt 9 W.heap.size w' u' s9 ∧ Kp W.heap.size W w') (RO : ∀ W, Calls Try.prog 11 #[.agg #[.int .i64 o, .int .i64 h, .int .i64 a, .int .i64 b, .int .i64 c, .int .i64 d, .slice a1 n1 c1, .slice a2 n2 c2]] W fun e w' => e = .returned (.agg #[.int .i64 o9, .int .i64 h9, .int .i64 a9, .int .i64 b9, .int .i64 c9, .int .i64 d9, rv, ru]) ∧ Kp W.heap.size W w') (hR : Sl w rv (iv l9)) (hRV : Ro.Sp Cm.vt 9 w ru s9) (hl9 : l9.length ≤ 5000) (hs9 : s9.length ≤ 5000) (hk : 1 ≤ o ∧ o ≤ 19)
    (FL : ∀ W v' u', Sl W v' (iv l9) → Ro.Sp Cm.vt 9 W u' s9 → Calls Try.prog 12 #[.iface T (y v' u')] W fun e w' => ∃ v'' u'', e = .returned (.tuple #[.agg #[.int .i64 o9, .int .i64 h9, .int .i64 a9, .int .i64 b9, .int .i64 c9, .int .i64 d9, v'', u''], .int .i64 0]) ∧ SlF W.heap.size w' v'' (iv l9) ∧ SpF Cm.vt 9 W.heap.size w' u'' s9 ∧ Kp W.heap.size W w')
    (OP : ∀ W v' u', Calls Try.prog fm #[y v' u'] W fun e w' => e = .returned (.int .i64 o) ∧ Kp W.heap.size W w')
    (MT : ∀ v' u' W, (method 189 T (y v' u') "Op").run Try.prog W = .ok (fm, y v' u') W) (CF : ∀ args W, (callFunc fm args).run Try.prog W = .ok (.enter fm args) W) :
    Calls Try.prog 3 #[.agg #[.int .i64 o, .int .i64 h, .int .i64 a, .int .i64 b, .int .i64 c, .int .i64 d, .slice a1 n1 c1, .slice a2 n2 c2]] w fun e w' => e = .returned (.bool true) ∧ Kp w.heap.size w w' := by
  have z1 : decide (o < 1) = false := decide_eq_false (by omega)
  have z2 : decide (19 < o) = false := decide_eq_false (by omega)
  have z3 : ¬ 19 < o := by omega
  have z4 : ¬ o < 1 := by omega
  have qn := fun (v' u' : Value) (W : World) => iface_nil T (y v' u') W
  clear hk
  have HO := Lib.hid ((Ow.refl w).newAt (w.heap.size) rfl (.int .i64 o) [.int .i64 h, .int .i64 a, .int .i64 b, .int .i64 c, .int .i64 d, .slice a1 n1 c1, .slice a2 n2 c2] 25)
  go_enter Try.func3, Try.ntmps3
  go_wp2_with (first
    | go_big_skip
    | (go_at_call 6; with_reducible refine (LT _).mono ?_; rintro e wz ⟨rfl, hk1⟩; have l2 := HO.out.call hk1; clear HO hk1; have HO := Lib.hid l2; clear l2)
    | (go_at_call 8; refine (OW _ HO.out.k).mono ?_; rintro e w3 ⟨v', u', rfl, f1, f2, hk1⟩; obtain ⟨a5, n5, c5, rfl⟩ := f1.shape; obtain ⟨a6, n6, c6, rfl⟩ := f2.shape; have l3 := SlF.keeps.kp _ _ (f1.mono HO.out.k.size) (Kp.new w3 #[.int .i64 o9, .int .i64 h9, .int .i64 a9, .int .i64 b9, .int .i64 c9, .int .i64 d9, .slice a5 n5 c5, .slice a6 n6 c6] 25); have l4 := SpF.keeps.kp _ _ (f2.mono HO.out.k.size) (Kp.new w3 #[.int .i64 o9, .int .i64 h9, .int .i64 a9, .int .i64 b9, .int .i64 c9, .int .i64 d9, .slice a5 n5 c5, .slice a6 n6 c6] 25); have l2 := (HO.out.call hk1).newAt (w3.heap.size) rfl (.int .i64 o9) [.int .i64 h9, .int .i64 a9, .int .i64 b9, .int .i64 c9, .int .i64 d9, .slice a5 n5 c5, .slice a6 n6 c6] 25; clear HO hk1 f1 f2; have HO := Lib.hid l2; have HQ := Lib.hid (And.intro l3 l4); clear l2 l3 l4)
    | (go_at_call 9; refine (OF _ HO.out.k).mono ?_; rintro e w4 ⟨v', u', rfl, f1, f2, hk1⟩; have l3 := And.intro (And.intro (SlF.keeps.kp _ _ HQ.out.1 hk1) (SpF.keeps.kp _ _ HQ.out.2 hk1)) (And.intro (f1.mono HO.out.k.size) (f2.mono HO.out.k.size)); have l2 := HO.out.call hk1; clear HO HQ hk1 f1 f2; have HO := Lib.hid l2; have HQ := Lib.hid l3; clear l2 l3)
    | ((with_reducible show wpList _ _ _ ({ dst := _, op := Op.load 25 (Operand.tmp 1), type := _, pos := _, after := _, guard := _ } :: _) _ _); refine wpList_ldr ty_cmd rfl _ rfl _ rfl _ rfl (HO.out.at 0 rfl) ?_)
    | ((with_reducible show wpList _ _ _ ({ dst := _, op := Op.load 25 (Operand.tmp 1), type := _, pos := _, after := _, guard := _ } :: _) _ _); refine wpList_ldr ty_cmd rfl _ rfl _ rfl _ rfl (HO.out.at 1 rfl) ?_))
  generalize w3.heap.size = bo at *
  have KQ := Lib.hid (show Keeps w.heap.size (fun W => (SlF w.heap.size W (.slice a5 n5 c5) (iv l9) ∧ SpF Cm.vt 9 w.heap.size W (.slice a6 n6 c6) s9) ∧ (SlF w.heap.size W (v') (iv l9) ∧ SpF Cm.vt 9 w.heap.size W (u') s9)) from Keeps.and (SlF.keeps.and SpF.keeps) (SlF.keeps.and SpF.keeps))
  refine Rg.region (I := fun _ W => Ow w W [(bo, [.int .i64 o9, .int .i64 h9, .int .i64 a9, .int .i64 b9, .int .i64 c9, .int .i64 d9, .slice a5 n5 c5, .slice a6 n6 c6]), (w.heap.size, [.int .i64 o, .int .i64 h, .int .i64 a, .int .i64 b, .int .i64 c, .int .i64 d, .slice a1 n1 c1, .slice a2 n2 c2])] ∧ (SlF w.heap.size W (.slice a5 n5 c5) (iv l9) ∧ SpF Cm.vt 9 w.heap.size W (.slice a6 n6 c6) s9) ∧ (SlF w.heap.size W (v') (iv l9) ∧ SpF Cm.vt 9 w.heap.size W (u') s9)) (dem := fun _ => false) (m := 5) (g := 0) (T := fun listed bs st => ∀ W, (Ow w W [(bo, [.int .i64 o9, .int .i64 h9, .int .i64 a9, .int .i64 b9, .int .i64 c9, .int .i64 d9, .slice a5 n5 c5, .slice a6 n6 c6]), (w.heap.size, [.int .i64 o, .int .i64 h, .int .i64 a, .int .i64 b, .int .i64 c, .int .i64 d, .slice a1 n1 c1, .slice a2 n2 c2])] ∧ (SlF w.heap.size W (.slice a5 n5 c5) (iv l9) ∧ SpF Cm.vt 9 w.heap.size W (.slice a6 n6 c6) s9) ∧ (SlF w.heap.size W (v') (iv l9) ∧ SpF Cm.vt 9 w.heap.size W (u') s9)) → wpAny Try.prog .any _ _ 0 listed st W) (by kernel_rfl) ⟨HO.out.drew, KQ.out.kp _ _ HQ.out (Kp.refl _ _).drew⟩ rfl (fun _ _ _ _ h hI => h _ hI) ?_
  clear HO HQ
  refine Rg.take 0 (v := .agg #[.int .i64 o9, .int .i64 h9, .int .i64 a9, .int .i64 b9, .int .i64 c9, .int .i64 d9, .slice a5 n5 c5, .slice a6 n6 c6]) rfl rfl (by kernel_rfl) (by kernel_rfl) (by kernel_rfl) (by kernel_rfl) (by kernel_rfl) (.inl ⟨rfl, fun bs wq hI => ?_⟩) ?_
  · exact quiet_ldr ty_cmd (.tmp 3) rfl rfl rfl (hI.1.at 0 rfl)
  simp only [Act.put, List.getElem_toArray, List.getElem_cons_zero, List.getElem_cons_succ, List.setIfInBounds_toArray, List.set_cons_zero, List.set_cons_succ]
  refine Rg.take 1 (v := .agg #[.int .i64 o, .int .i64 h, .int .i64 a, .int .i64 b, .int .i64 c, .int .i64 d, .slice a1 n1 c1, .slice a2 n2 c2]) rfl rfl (by kernel_rfl) (by kernel_rfl) (by kernel_rfl) (by kernel_rfl) (by kernel_rfl) (.inl ⟨rfl, fun bs wq hI => ?_⟩) ?_
  · exact quiet_ldr ty_cmd (.tmp 1) rfl rfl rfl (hI.1.at 1 rfl)
  simp only [Act.put, List.getElem_toArray, List.getElem_cons_zero, List.getElem_cons_succ, List.setIfInBounds_toArray, List.set_cons_zero, List.set_cons_succ]
  refine Rg.take 2 (v := .agg #[.int .i64 o9, .int .i64 h9, .int .i64 a9, .int .i64 b9, .int .i64 c9, .int .i64 d9, rv, ru]) rfl rfl (by kernel_rfl) (by kernel_rfl) (by kernel_rfl) (by kernel_rfl) (by kernel_rfl) (.inl ⟨rfl, fun bs wq hI => ?_⟩) ?_
  · (go_simp; exact (RO _).mono fun e w2 h => ⟨h.1, hI.1.call h.2, KQ.out.kp _ _ hI.2 h.2⟩)
  simp only [Act.put, List.getElem_toArray, List.getElem_cons_zero, List.getElem_cons_succ, List.setIfInBounds_toArray, List.set_cons_zero, List.set_cons_succ]
  refine Rg.take 3 (v := .bool true) rfl rfl (by kernel_rfl) (by kernel_rfl) (by kernel_rfl) (by kernel_rfl) (by kernel_rfl) (.inl ⟨rfl, fun bs wq hI => ?_⟩) ?_
  · (go_simp; exact (rsame_yes o9 h9 a9 b9 c9 d9 (.slice a5 n5 c5) (.slice a6 n6 c6) rv ru l9 s9 _ hI.2.1.1.sl (hR.next hI.1.k) hI.2.1.2.sp (hRV.next hI.1.k) hl9 hs9).mono fun e w2 h => ⟨h.1, hI.1.call h.2, KQ.out.kp _ _ hI.2 h.2⟩)
  simp only [Act.put, List.getElem_toArray, List.getElem_cons_zero, List.getElem_cons_succ, List.setIfInBounds_toArray, List.set_cons_zero, List.set_cons_succ]
  refine Rg.take 4 (v := .bool false) rfl rfl (by kernel_rfl) (by kernel_rfl) (by kernel_rfl) (by kernel_rfl) (by kernel_rfl) (.inl ⟨rfl, fun bs wq hI => ?_⟩) ?_
  · go_simp
  simp only [Act.put, List.getElem_toArray, List.getElem_cons_zero, List.getElem_cons_succ, List.setIfInBounds_toArray, List.set_cons_zero, List.set_cons_succ]
  refine Rg.done (rs := []) (by kernel_rfl) (by decide) (fun W hI => ?_)
  have HO := Lib.hid hI.1
  have HQ := Lib.hid hI.2
  clear hI
  refine wpAny_done (by kernel_rfl) ?_ _
  clear RO hR hRV KQ
  go_wp2_with (first
    | go_big_skip
    | ((with_reducible show wpList _ _ _ ({ dst := _, op := Op.load 3 (Operand.tmp 24), type := _, pos := _, after := _, guard := _ } :: _) _ _); refine wpList_ld1 rfl 0 (.int .i64 o) (HO.out.at 1 rfl) rfl (fun cc K hK => by go_simp; exact hK) ?_)
    | ((with_reducible show wpList _ _ _ ({ dst := _, op := Op.load 3 (Operand.tmp 28), type := _, pos := _, after := _, guard := _ } :: _) _ _); refine wpList_ld1 rfl 0 (.int .i64 o) (HO.out.at 1 rfl) rfl (fun cc K hK => by go_simp; exact hK) ?_)
    | (go_at_call 12; refine (FL _ v' u' HQ.out.2.1.sl HQ.out.2.2.sp).mono ?_; rintro e w6 ⟨v9, u9, rfl, f1, f2, hk1⟩; obtain ⟨a7, n7, c7, rfl⟩ := f1.shape; obtain ⟨a8, n8, c8, rfl⟩ := f2.shape; have kn := Kp.new w6 #[.int .i64 o9, .int .i64 h9, .int .i64 a9, .int .i64 b9, .int .i64 c9, .int .i64 d9, .slice a7 n7 c7, .slice a8 n8 c8] 25; have l3 := And.intro (And.intro (SlF.keeps.kp _ _ (SlF.keeps.kp _ _ HQ.out.1.1 hk1) kn) (SpF.keeps.kp _ _ (SpF.keeps.kp _ _ HQ.out.1.2 hk1) kn)) (And.intro (SlF.keeps.kp _ _ (f1.mono HO.out.k.size) kn) (SpF.keeps.kp _ _ (f2.mono HO.out.k.size) kn)); have l2 := (HO.out.call hk1).newAt (w6.heap.size) rfl (.int .i64 o9) [.int .i64 h9, .int .i64 a9, .int .i64 b9, .int .i64 c9, .int .i64 d9, .slice a7 n7 c7, .slice a8 n8 c8] 25; clear HO HQ hk1 f1 f2 kn; have HO := Lib.hid l2; have HQ := Lib.hid l3; clear l2 l3))
  generalize w6.heap.size = bk at *
  have KQ := Lib.hid (show Keeps w.heap.size (fun W => (SlF w.heap.size W (.slice a5 n5 c5) (iv l9) ∧ SpF Cm.vt 9 w.heap.size W (.slice a6 n6 c6) s9) ∧ (SlF w.heap.size W (.slice a7 n7 c7) (iv l9) ∧ SpF Cm.vt 9 w.heap.size W (.slice a8 n8 c8) s9)) from Keeps.and (SlF.keeps.and SpF.keeps) (SlF.keeps.and SpF.keeps))
  have HP := OP
  clear OP
  refine Rg.region (I := fun _ W => Ow w W [(bk, [.int .i64 o9, .int .i64 h9, .int .i64 a9, .int .i64 b9, .int .i64 c9, .int .i64 d9, .slice a7 n7 c7, .slice a8 n8 c8]), (bo, [.int .i64 o9, .int .i64 h9, .int .i64 a9, .int .i64 b9, .int .i64 c9, .int .i64 d9, .slice a5 n5 c5, .slice a6 n6 c6]), (w.heap.size, [.int .i64 o, .int .i64 h, .int .i64 a, .int .i64 b, .int .i64 c, .int .i64 d, .slice a1 n1 c1, .slice a2 n2 c2])] ∧ (SlF w.heap.size W (.slice a5 n5 c5) (iv l9) ∧ SpF Cm.vt 9 w.heap.size W (.slice a6 n6 c6) s9) ∧ (SlF w.heap.size W (.slice a7 n7 c7) (iv l9) ∧ SpF Cm.vt 9 w.heap.size W (.slice a8 n8 c8) s9)) (dem := fun _ => false) (m := 18) (g := 0) (T := fun listed bs st => ∀ W, (Ow w W [(bk, [.int .i64 o9, .int .i64 h9, .int .i64 a9, .int .i64 b9, .int .i64 c9, .int .i64 d9, .slice a7 n7 c7, .slice a8 n8 c8]), (bo, [.int .i64 o9, .int .i64 h9, .int .i64 a9, .int .i64 b9, .int .i64 c9, .int .i64 d9, .slice a5 n5 c5, .slice a6 n6 c6]), (w.heap.size, [.int .i64 o, .int .i64 h, .int .i64 a, .int .i64 b, .int .i64 c, .int .i64 d, .slice a1 n1 c1, .slice a2 n2 c2])] ∧ (SlF w.heap.size W (.slice a5 n5 c5) (iv l9) ∧ SpF Cm.vt 9 w.heap.size W (.slice a6 n6 c6) s9) ∧ (SlF w.heap.size W (.slice a7 n7 c7) (iv l9) ∧ SpF Cm.vt 9 w.heap.size W (.slice a8 n8 c8) s9)) → wpAny Try.prog .any _ _ 0 listed st W) (by kernel_rfl) ⟨HO.out.drew, KQ.out.kp _ _ HQ.out (Kp.refl _ _).drew⟩ rfl (fun _ _ _ _ h hI => h _ hI) ?_
  clear HO HQ
  refine Rg.take 0 (v := .int .i64 0) rfl rfl (by kernel_rfl) (by kernel_rfl) (by kernel_rfl) (by kernel_rfl) (by kernel_rfl) (.inl ⟨rfl, fun bs wq hI => ?_⟩) ?_
  · go_simp
  simp only [Act.put, List.getElem_toArray, List.getElem_cons_zero, List.getElem_cons_succ, List.setIfInBounds_toArray, List.set_cons_zero, List.set_cons_succ]
  refine Rg.take 1 (v := .bool true) rfl rfl (by kernel_rfl) (by kernel_rfl) (by kernel_rfl) (by kernel_rfl) (by kernel_rfl) (.inl ⟨rfl, fun bs wq hI => ?_⟩) ?_
  · go_simp
  simp only [Act.put, List.getElem_toArray, List.getElem_cons_zero, List.getElem_cons_succ, List.setIfInBounds_toArray, List.set_cons_zero, List.set_cons_succ]
  refine Rg.take 2 (v := .bool true) rfl rfl (by kernel_rfl) (by kernel_rfl) (by kernel_rfl) (by kernel_rfl) (by kernel_rfl) (.inl ⟨rfl, fun bs wq hI => ?_⟩) ?_
  · go_simp
  simp only [Act.put, List.getElem_toArray, List.getElem_cons_zero, List.getElem_cons_succ, List.setIfInBounds_toArray, List.set_cons_zero, List.set_cons_succ]
  refine Rg.take 3 (v := .agg #[.int .i64 o9, .int .i64 h9, .int .i64 a9, .int .i64 b9, .int .i64 c9, .int .i64 d9, .slice a7 n7 c7, .slice a8 n8 c8]) rfl rfl (by kernel_rfl) (by kernel_rfl) (by kernel_rfl) (by kernel_rfl) (by kernel_rfl) (.inl ⟨rfl, fun bs wq hI => ?_⟩) ?_
  · exact quiet_ldr ty_cmd (.tmp 6) rfl rfl rfl (hI.1.at 0 rfl)
  simp only [Act.put, List.getElem_toArray, List.getElem_cons_zero, List.getElem_cons_succ, List.setIfInBounds_toArray, List.set_cons_zero, List.set_cons_succ]
  refine Rg.take 4 (v := .agg #[.int .i64 o9, .int .i64 h9, .int .i64 a9, .int .i64 b9, .int .i64 c9, .int .i64 d9, .slice a5 n5 c5, .slice a6 n6 c6]) rfl rfl (by kernel_rfl) (by kernel_rfl) (by kernel_rfl) (by kernel_rfl) (by kernel_rfl) (.inl ⟨rfl, fun bs wq hI => ?_⟩) ?_
  · exact quiet_ldr ty_cmd (.tmp 3) rfl rfl rfl (hI.1.at 1 rfl)
  simp only [Act.put, List.getElem_toArray, List.getElem_cons_zero, List.getElem_cons_succ, List.setIfInBounds_toArray, List.set_cons_zero, List.set_cons_succ]
  refine Rg.take 5 (v := .bool true) rfl rfl (by kernel_rfl) (by kernel_rfl) (by kernel_rfl) (by kernel_rfl) (by kernel_rfl) (.inl ⟨rfl, fun bs wq hI => ?_⟩) ?_
  · (go_simp; exact (rsame_yes o9 h9 a9 b9 c9 d9 (.slice a7 n7 c7) (.slice a8 n8 c8) (.slice a5 n5 c5) (.slice a6 n6 c6) l9 s9 _ hI.2.2.1.sl hI.2.1.1.sl hI.2.2.2.sp hI.2.1.2.sp hl9 hs9).mono fun e w2 h => ⟨h.1, hI.1.call h.2, KQ.out.kp _ _ hI.2 h.2⟩)
  simp only [Act.put, List.getElem_toArray, List.getElem_cons_zero, List.getElem_cons_succ, List.setIfInBounds_toArray, List.set_cons_zero, List.set_cons_succ]
  refine Rg.take 6 (v := .bool true) rfl rfl (by kernel_rfl) (by kernel_rfl) (by kernel_rfl) (by kernel_rfl) (by kernel_rfl) (.inl ⟨rfl, fun bs wq hI => ?_⟩) ?_
  · go_simp
  simp only [Act.put, List.getElem_toArray, List.getElem_cons_zero, List.getElem_cons_succ, List.setIfInBounds_toArray, List.set_cons_zero, List.set_cons_succ]
  refine Rg.take 7 (v := .bool true) rfl rfl (by kernel_rfl) (by kernel_rfl) (by kernel_rfl) (by kernel_rfl) (by kernel_rfl) (.inl ⟨rfl, fun bs wq hI => ?_⟩) ?_
  · go_simp
  simp only [Act.put, List.getElem_toArray, List.getElem_cons_zero, List.getElem_cons_succ, List.setIfInBounds_toArray, List.set_cons_zero, List.set_cons_succ]
  refine Rg.take 8 (v := .iface T (y v' u')) rfl rfl (by kernel_rfl) (by kernel_rfl) (by kernel_rfl) (by kernel_rfl) (by kernel_rfl) (.inl ⟨rfl, fun bs wq hI => ?_⟩) ?_
  · go_simp
  simp only [Act.put, List.getElem_toArray, List.getElem_cons_zero, List.getElem_cons_succ, List.setIfInBounds_toArray, List.set_cons_zero, List.set_cons_succ]
  refine Rg.take 9 (v := .int .i64 o) rfl rfl (by kernel_rfl) (by kernel_rfl) (by kernel_rfl) (by kernel_rfl) (by kernel_rfl) (.inl ⟨rfl, fun bs wq hI => ?_⟩) ?_
  · (go_simp; exact (HP _ v' u').mono fun e w2 h => ⟨h.1, hI.1.call h.2, KQ.out.kp _ _ hI.2 h.2⟩)
  simp only [Act.put, List.getElem_toArray, List.getElem_cons_zero, List.getElem_cons_succ, List.setIfInBounds_toArray, List.set_cons_zero, List.set_cons_succ]
  refine Rg.take 10 (v := .pointer (some ⟨w.heap.size, 0, none⟩)) rfl rfl (by kernel_rfl) (by kernel_rfl) (by kernel_rfl) (by kernel_rfl) (by kernel_rfl) (.inl ⟨rfl, fun bs wq hI => ?_⟩) ?_
  · go_simp
  simp only [Act.put, List.getElem_toArray, List.getElem_cons_zero, List.getElem_cons_succ, List.setIfInBounds_toArray, List.set_cons_zero, List.set_cons_succ]
  refine Rg.take 11 (v := .int .i64 o) rfl rfl (by kernel_rfl) (by kernel_rfl) (by kernel_rfl) (by kernel_rfl) (by kernel_rfl) (.inl ⟨rfl, fun bs wq hI => ?_⟩) ?_
  · (have hc := (hI.1.at 2 rfl).cell 0 rfl; go_simp)
  simp only [Act.put, List.getElem_toArray, List.getElem_cons_zero, List.getElem_cons_succ, List.setIfInBounds_toArray, List.set_cons_zero, List.set_cons_succ]
  refine Rg.take 12 (v := .bool true) rfl rfl (by kernel_rfl) (by kernel_rfl) (by kernel_rfl) (by kernel_rfl) (by kernel_rfl) (.inl ⟨rfl, fun bs wq hI => ?_⟩) ?_
  · (go_simp <;> simp)
  simp only [Act.put, List.getElem_toArray, List.getElem_cons_zero, List.getElem_cons_succ, List.setIfInBounds_toArray, List.set_cons_zero, List.set_cons_succ]
  refine Rg.take 13 (v := .bool true) rfl rfl (by kernel_rfl) (by kernel_rfl) (by kernel_rfl) (by kernel_rfl) (by kernel_rfl) (.inl ⟨rfl, fun bs wq hI => ?_⟩) ?_
  · go_simp
  simp only [Act.put, List.getElem_toArray, List.getElem_cons_zero, List.getElem_cons_succ, List.setIfInBounds_toArray, List.set_cons_zero, List.set_cons_succ]
  refine Rg.take 14 (v := .bool true) rfl rfl (by kernel_rfl) (by kernel_rfl) (by kernel_rfl) (by kernel_rfl) (by kernel_rfl) (.inl ⟨rfl, fun bs wq hI => ?_⟩) ?_
  · go_simp
  simp only [Act.put, List.getElem_toArray, List.getElem_cons_zero, List.getElem_cons_succ, List.setIfInBounds_toArray, List.set_cons_zero, List.set_cons_succ]
  refine Rg.take 15 (v := .bool true) rfl rfl (by kernel_rfl) (by kernel_rfl) (by kernel_rfl) (by kernel_rfl) (by kernel_rfl) (.inl ⟨rfl, fun bs wq hI => ?_⟩) ?_
  · (go_simp; exact (awake_any _).mono fun e w2 h => ⟨h.1, hI.1.call h.2, KQ.out.kp _ _ hI.2 h.2⟩)
  simp only [Act.put, List.getElem_toArray, List.getElem_cons_zero, List.getElem_cons_succ, List.setIfInBounds_toArray, List.set_cons_zero, List.set_cons_succ]
  refine Rg.take 16 (v := .bool true) rfl rfl (by kernel_rfl) (by kernel_rfl) (by kernel_rfl) (by kernel_rfl) (by kernel_rfl) (.inl ⟨rfl, fun bs wq hI => ?_⟩) ?_
  · go_simp
  simp only [Act.put, List.getElem_toArray, List.getElem_cons_zero, List.getElem_cons_succ, List.setIfInBounds_toArray, List.set_cons_zero, List.set_cons_succ]
  refine Rg.take 17 (v := .bool true) rfl rfl (by kernel_rfl) (by kernel_rfl) (by kernel_rfl) (by kernel_rfl) (by kernel_rfl) (.inl ⟨rfl, fun bs wq hI => ?_⟩) ?_
  · go_simp
  simp only [Act.put, List.getElem_toArray, List.getElem_cons_zero, List.getElem_cons_succ, List.setIfInBounds_toArray, List.set_cons_zero, List.set_cons_succ]
  refine Rg.done (rs := []) (by kernel_rfl) (by decide) (fun W hI => ?_)
  have HO := Lib.hid hI.1
  have HQ := Lib.hid hI.2
  clear hI
  refine wpAny_done (by kernel_rfl) ?_ _
  go_wp2_with go_big_skip
  go_ret
  exact ⟨rfl, HO.out.k⟩
end Go.Proofs.Ytkmhnfbjapfbeaa
