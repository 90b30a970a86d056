/-
  CmdTypes: its Go text returns true.
-/
import Derived.Test.YtkmhnfbjapfbeaaCmdTypes_a
import Derived.Test.YtkmhnfbjapfbeaaCmdTypes_l
import Derived.Test.YtkmhnfbjapfbeaaCmdTypes_g
import Derived.Test.YtkmhnfbjapfbeaaCmdTypes_15
import Derived.Test.YtkmhnfbjapfbeaaCmdTypes_19
import Derived.Test.YtkmhnfbjapfbeaaCmdTypes_16
import Derived.Test.YtkmhnfbjapfbeaaCmdTypes_17
import Derived.Test.YtkmhnfbjapfbeaaCmdBackWalk
import Derived.BigGuard
namespace Go.Proofs.Ytkmhnfbjapfbeaa
open Go.RowKit

set_option linter.unusedSimpArgs false in
set_option maxRecDepth 100000 in
set_option maxHeartbeats 8000000 in
theorem types_heavy (k o h a b c d : Int) (a1 a2 : Option Addr) (n1 c1 n2 c2 : Nat) (w : World) (LT : ∀ W, Calls Try.prog 6 #[.agg #[.int .i64 o, .int .i64 h, .int .i64 a, .int .i64 b, .int .i64 c, .int .i64 d, .slice a1 n1 c1, .slice a2 n2 c2]] W fun e w' => e = .returned (.bool false) ∧ Kp W.heap.size W w') :
    Calls Try.prog 4 #[.int .i64 k, .agg #[.int .i64 o, .int .i64 h, .int .i64 a, .int .i64 b, .int .i64 c, .int .i64 d, .slice a1 n1 c1, .slice a2 n2 c2]] w fun e w' => e = .returned (.bool true) ∧ Kp w.heap.size w w' := by
  have HO := Lib.hid ((Ow.refl w).newAt (w.heap.size) rfl (.int .i64 o) [.int .i64 h, .int .i64 a, .int .i64 b, .int .i64 c, .int .i64 d, .slice a1 n1 c1, .slice a2 n2 c2] 25)
  go_enter Try.func4, Try.ntmps4
  go_wp2_with (first
    | go_big_skip
    | (go_at_call 6; with_reducible refine (LT _).mono ?_; rintro e wz ⟨rfl, hk1⟩; have l2 := HO.out.call hk1; clear HO hk1; have HO := Lib.hid l2; clear l2)
    | (go_at_call 7; refine (awake_any _).mono ?_; rintro e wz ⟨rfl, hk1⟩; have l2 := HO.out.call hk1; clear HO hk1; have HO := Lib.hid l2; clear l2)
    | ((with_reducible show wpList _ _ _ ({ dst := _, op := Op.load 25 (Operand.tmp 1), type := _, pos := _, after := _, guard := _ } :: _) _ _); refine wpList_ldr ty_cmd rfl _ rfl _ rfl _ rfl (HO.out.at 0 rfl) ?_))
  go_ret
  exact ⟨rfl, HO.out.k⟩
set_option linter.unusedSimpArgs false in
set_option maxRecDepth 100000 in
set_option maxHeartbeats 8000000 in
theorem types_ka (k o h a b c d : Int) (a1 a2 : Option Addr) (c1 c2 : Nat) (l : List Int) (s : List (Nat → Int)) (w : World) (LT : ∀ W, Calls Try.prog 6 #[.agg #[.int .i64 o, .int .i64 h, .int .i64 a, .int .i64 b, .int .i64 c, .int .i64 d, .slice a1 l.length c1, .slice a2 s.length c2]] W fun e w' => e = .returned (.bool true) ∧ Kp W.heap.size W w') (hk : 1 ≤ k ∧ k ≤ 4) (hS : Sl w (.slice a1 l.length c1) (iv l)) (hV : Ro.Sp Cm.vt 9 w (.slice a2 s.length c2) s) (hl : l.length ≤ 5000) (hn : s.length ≤ 5000) :
    Calls Try.prog 4 #[.int .i64 k, .agg #[.int .i64 o, .int .i64 h, .int .i64 a, .int .i64 b, .int .i64 c, .int .i64 d, .slice a1 l.length c1, .slice a2 s.length c2]] w fun e w' => e = .returned (.bool true) ∧ Kp w.heap.size w w' := by
  have HK : Cm.marks k = false := by
    unfold Cm.marks
    simp only [Bool.or_eq_false_iff, beq_eq_false_iff_ne]
    omega
  have OW : ∀ W, Kp w.heap.size w W → Cm.OwnSays o h a b c d (.slice a1 l.length c1) (.slice a2 s.length c2) l s W := fun W hk => own_any o h a b c d _ _ l s W (hS.next hk) (hV.next hk) hl hn
  have HSy : ∀ b : Bool, b = Cm.sets o → Cm.sets o = b := fun _ e => e.symm
  by_cases h1 : 5 ≤ o
  · by_cases h2 : o ≤ 12
    · have hs : Cm.sets o = true := by unfold Cm.sets; simp only [Bool.and_eq_true, decide_eq_true_eq]; omega
      exact types_a_s k o h a b c d _ _ _ _ _ _ a1 a2 _ c1 _ c2 _ _ _ _ w LT (fun W => make_yes k W (by omega)) (fun W => mark_no k W HK) (fun W hk => set_yes o h a b c d a1 a2 _ c1 _ c2 l s W hs fun W' hk' => OW W' (hk.next hk')) (fun W => rown_any o h a b c d a1 a2 _ c1 _ c2 W) (ps_sl _ hS) (ps_sp _ hV) (Nat.le_trans (Cm.pl_len _ _) hl) (Nat.le_trans (Cm.pl_len _ _) hn) (decide_eq_true (by omega)) (decide_eq_true (by omega)) (by omega) (by omega) (beq_eq_false_iff_ne.2 (by omega)) (beq_eq_false_iff_ne.2 (by omega)) (beq_eq_false_iff_ne.2 (by omega)) (beq_eq_false_iff_ne.2 (by omega)) (decide_eq_true (by omega)) (decide_eq_true (by omega)) (by omega) (by omega)
    · have hs : Cm.sets o = false := by unfold Cm.sets; rw [Bool.and_eq_false_iff]; simp only [decide_eq_false_iff_not]; omega
      exact types_a_g k o h a b c d 0 0 0 0 0 0 a1 a2 _ c1 _ c2 undef undef [] [] w LT (fun W => make_yes k W (by omega)) (fun W => mark_no k W HK) (fun W hk => set_no o h a b c d a1 a2 _ c1 _ c2 W hs) (decide_eq_true (by omega)) (decide_eq_true (by omega)) (by omega) (by omega) (beq_eq_false_iff_ne.2 (by omega)) (beq_eq_false_iff_ne.2 (by omega)) (beq_eq_false_iff_ne.2 (by omega)) (beq_eq_false_iff_ne.2 (by omega)) (decide_eq_true (by omega)) (decide_eq_false (by omega)) (by omega) (by omega)
  · have hs : Cm.sets o = false := by unfold Cm.sets; rw [Bool.and_eq_false_iff]; simp only [decide_eq_false_iff_not]; omega
    exact types_a_l k o h a b c d 0 0 0 0 0 0 a1 a2 _ c1 _ c2 undef undef [] [] w LT (fun W => make_yes k W (by omega)) (fun W => mark_no k W HK) (fun W hk => set_no o h a b c d a1 a2 _ c1 _ c2 W hs) (decide_eq_true (by omega)) (decide_eq_true (by omega)) (by omega) (by omega) (beq_eq_false_iff_ne.2 (by omega)) (beq_eq_false_iff_ne.2 (by omega)) (beq_eq_false_iff_ne.2 (by omega)) (beq_eq_false_iff_ne.2 (by omega)) (decide_eq_false (by omega)) (by omega)
set_option linter.unusedSimpArgs false in
set_option maxRecDepth 100000 in
set_option maxHeartbeats 8000000 in
theorem types_kl (k o h a b c d : Int) (a1 a2 : Option Addr) (c1 c2 : Nat) (l : List Int) (s : List (Nat → Int)) (w : World) (LT : ∀ W, Calls Try.prog 6 #[.agg #[.int .i64 o, .int .i64 h, .int .i64 a, .int .i64 b, .int .i64 c, .int .i64 d, .slice a1 l.length c1, .slice a2 s.length c2]] W fun e w' => e = .returned (.bool true) ∧ Kp W.heap.size W w') (hk : k < 1) (hS : Sl w (.slice a1 l.length c1) (iv l)) (hV : Ro.Sp Cm.vt 9 w (.slice a2 s.length c2) s) (hl : l.length ≤ 5000) (hn : s.length ≤ 5000) :
    Calls Try.prog 4 #[.int .i64 k, .agg #[.int .i64 o, .int .i64 h, .int .i64 a, .int .i64 b, .int .i64 c, .int .i64 d, .slice a1 l.length c1, .slice a2 s.length c2]] w fun e w' => e = .returned (.bool true) ∧ Kp w.heap.size w w' := by
  have HM : Cm.makes k = false := by unfold Cm.makes; rw [Bool.and_eq_false_iff]; simp only [decide_eq_false_iff_not]; omega
  have HK : Cm.marks k = false := by
    unfold Cm.marks
    simp only [Bool.or_eq_false_iff, beq_eq_false_iff_ne]
    omega
  have OW : ∀ W, Kp w.heap.size w W → Cm.OwnSays o h a b c d (.slice a1 l.length c1) (.slice a2 s.length c2) l s W := fun W hk => own_any o h a b c d _ _ l s W (hS.next hk) (hV.next hk) hl hn
  have HSy : ∀ b : Bool, b = Cm.sets o → Cm.sets o = b := fun _ e => e.symm
  by_cases h1 : 5 ≤ o
  · by_cases h2 : o ≤ 12
    · have hs : Cm.sets o = true := by unfold Cm.sets; simp only [Bool.and_eq_true, decide_eq_true_eq]; omega
      exact types_l_s k o h a b c d _ _ _ _ _ _ a1 a2 _ c1 _ c2 _ _ _ _ w LT (fun W => make_no k W (HM)) (fun W => mark_no k W HK) (fun W hk => set_yes o h a b c d a1 a2 _ c1 _ c2 l s W hs fun W' hk' => OW W' (hk.next hk')) (fun W => rown_any o h a b c d a1 a2 _ c1 _ c2 W) (ps_sl _ hS) (ps_sp _ hV) (Nat.le_trans (Cm.pl_len _ _) hl) (Nat.le_trans (Cm.pl_len _ _) hn) (decide_eq_false (by omega)) (by omega) (beq_eq_false_iff_ne.2 (by omega)) (beq_eq_false_iff_ne.2 (by omega)) (beq_eq_false_iff_ne.2 (by omega)) (beq_eq_false_iff_ne.2 (by omega)) (decide_eq_true (by omega)) (decide_eq_true (by omega)) (by omega) (by omega)
    · have hs : Cm.sets o = false := by unfold Cm.sets; rw [Bool.and_eq_false_iff]; simp only [decide_eq_false_iff_not]; omega
      exact types_l_g k o h a b c d 0 0 0 0 0 0 a1 a2 _ c1 _ c2 undef undef [] [] w LT (fun W => make_no k W (HM)) (fun W => mark_no k W HK) (fun W hk => set_no o h a b c d a1 a2 _ c1 _ c2 W hs) (decide_eq_false (by omega)) (by omega) (beq_eq_false_iff_ne.2 (by omega)) (beq_eq_false_iff_ne.2 (by omega)) (beq_eq_false_iff_ne.2 (by omega)) (beq_eq_false_iff_ne.2 (by omega)) (decide_eq_true (by omega)) (decide_eq_false (by omega)) (by omega) (by omega)
  · have hs : Cm.sets o = false := by unfold Cm.sets; rw [Bool.and_eq_false_iff]; simp only [decide_eq_false_iff_not]; omega
    exact types_l_l k o h a b c d 0 0 0 0 0 0 a1 a2 _ c1 _ c2 undef undef [] [] w LT (fun W => make_no k W (HM)) (fun W => mark_no k W HK) (fun W hk => set_no o h a b c d a1 a2 _ c1 _ c2 W hs) (decide_eq_false (by omega)) (by omega) (beq_eq_false_iff_ne.2 (by omega)) (beq_eq_false_iff_ne.2 (by omega)) (beq_eq_false_iff_ne.2 (by omega)) (beq_eq_false_iff_ne.2 (by omega)) (decide_eq_false (by omega)) (by omega)
set_option linter.unusedSimpArgs false in
set_option maxRecDepth 100000 in
set_option maxHeartbeats 8000000 in
theorem types_kg (k o h a b c d : Int) (a1 a2 : Option Addr) (c1 c2 : Nat) (l : List Int) (s : List (Nat → Int)) (w : World) (LT : ∀ W, Calls Try.prog 6 #[.agg #[.int .i64 o, .int .i64 h, .int .i64 a, .int .i64 b, .int .i64 c, .int .i64 d, .slice a1 l.length c1, .slice a2 s.length c2]] W fun e w' => e = .returned (.bool true) ∧ Kp W.heap.size W w') (hk : 4 < k ∧ ¬ (k = 15 ∨ k = 16 ∨ k = 17 ∨ k = 19)) (hS : Sl w (.slice a1 l.length c1) (iv l)) (hV : Ro.Sp Cm.vt 9 w (.slice a2 s.length c2) s) (hl : l.length ≤ 5000) (hn : s.length ≤ 5000) :
    Calls Try.prog 4 #[.int .i64 k, .agg #[.int .i64 o, .int .i64 h, .int .i64 a, .int .i64 b, .int .i64 c, .int .i64 d, .slice a1 l.length c1, .slice a2 s.length c2]] w fun e w' => e = .returned (.bool true) ∧ Kp w.heap.size w w' := by
  have HM : Cm.makes k = false := by unfold Cm.makes; rw [Bool.and_eq_false_iff]; simp only [decide_eq_false_iff_not]; omega
  have HK : Cm.marks k = false := by
    unfold Cm.marks
    simp only [Bool.or_eq_false_iff, beq_eq_false_iff_ne]
    omega
  have OW : ∀ W, Kp w.heap.size w W → Cm.OwnSays o h a b c d (.slice a1 l.length c1) (.slice a2 s.length c2) l s W := fun W hk => own_any o h a b c d _ _ l s W (hS.next hk) (hV.next hk) hl hn
  have HSy : ∀ b : Bool, b = Cm.sets o → Cm.sets o = b := fun _ e => e.symm
  by_cases h1 : 5 ≤ o
  · by_cases h2 : o ≤ 12
    · have hs : Cm.sets o = true := by unfold Cm.sets; simp only [Bool.and_eq_true, decide_eq_true_eq]; omega
      exact types_g_s k o h a b c d _ _ _ _ _ _ a1 a2 _ c1 _ c2 _ _ _ _ w LT (fun W => make_no k W (HM)) (fun W => mark_no k W HK) (fun W hk => set_yes o h a b c d a1 a2 _ c1 _ c2 l s W hs fun W' hk' => OW W' (hk.next hk')) (fun W => rown_any o h a b c d a1 a2 _ c1 _ c2 W) (ps_sl _ hS) (ps_sp _ hV) (Nat.le_trans (Cm.pl_len _ _) hl) (Nat.le_trans (Cm.pl_len _ _) hn) (decide_eq_true (by omega)) (decide_eq_false (by omega)) (by omega) (by omega) (beq_eq_false_iff_ne.2 (by omega)) (beq_eq_false_iff_ne.2 (by omega)) (beq_eq_false_iff_ne.2 (by omega)) (beq_eq_false_iff_ne.2 (by omega)) (decide_eq_true (by omega)) (decide_eq_true (by omega)) (by omega) (by omega)
    · have hs : Cm.sets o = false := by unfold Cm.sets; rw [Bool.and_eq_false_iff]; simp only [decide_eq_false_iff_not]; omega
      exact types_g_g k o h a b c d 0 0 0 0 0 0 a1 a2 _ c1 _ c2 undef undef [] [] w LT (fun W => make_no k W (HM)) (fun W => mark_no k W HK) (fun W hk => set_no o h a b c d a1 a2 _ c1 _ c2 W hs) (decide_eq_true (by omega)) (decide_eq_false (by omega)) (by omega) (by omega) (beq_eq_false_iff_ne.2 (by omega)) (beq_eq_false_iff_ne.2 (by omega)) (beq_eq_false_iff_ne.2 (by omega)) (beq_eq_false_iff_ne.2 (by omega)) (decide_eq_true (by omega)) (decide_eq_false (by omega)) (by omega) (by omega)
  · have hs : Cm.sets o = false := by unfold Cm.sets; rw [Bool.and_eq_false_iff]; simp only [decide_eq_false_iff_not]; omega
    exact types_g_l k o h a b c d 0 0 0 0 0 0 a1 a2 _ c1 _ c2 undef undef [] [] w LT (fun W => make_no k W (HM)) (fun W => mark_no k W HK) (fun W hk => set_no o h a b c d a1 a2 _ c1 _ c2 W hs) (decide_eq_true (by omega)) (decide_eq_false (by omega)) (by omega) (by omega) (beq_eq_false_iff_ne.2 (by omega)) (beq_eq_false_iff_ne.2 (by omega)) (beq_eq_false_iff_ne.2 (by omega)) (beq_eq_false_iff_ne.2 (by omega)) (decide_eq_false (by omega)) (by omega)
set_option linter.unusedSimpArgs false in
set_option maxRecDepth 100000 in
set_option maxHeartbeats 8000000 in
theorem types_k15 (o h a b c d : Int) (a1 a2 : Option Addr) (c1 c2 : Nat) (l : List Int) (s : List (Nat → Int)) (w : World) (LT : ∀ W, Calls Try.prog 6 #[.agg #[.int .i64 o, .int .i64 h, .int .i64 a, .int .i64 b, .int .i64 c, .int .i64 d, .slice a1 l.length c1, .slice a2 s.length c2]] W fun e w' => e = .returned (.bool true) ∧ Kp W.heap.size W w') (hS : Sl w (.slice a1 l.length c1) (iv l)) (hV : Ro.Sp Cm.vt 9 w (.slice a2 s.length c2) s) (hl : l.length ≤ 5000) (hn : s.length ≤ 5000) :
    Calls Try.prog 4 #[.int .i64 15, .agg #[.int .i64 o, .int .i64 h, .int .i64 a, .int .i64 b, .int .i64 c, .int .i64 d, .slice a1 l.length c1, .slice a2 s.length c2]] w fun e w' => e = .returned (.bool true) ∧ Kp w.heap.size w w' := by
  have HM : Cm.makes 15 = false := by decide
  have OW : ∀ W, Kp w.heap.size w W → Cm.OwnSays o h a b c d (.slice a1 l.length c1) (.slice a2 s.length c2) l s W := fun W hk => own_any o h a b c d _ _ l s W (hS.next hk) (hV.next hk) hl hn
  have HSy : ∀ b : Bool, b = Cm.sets o → Cm.sets o = b := fun _ e => e.symm
  by_cases h1 : 5 ≤ o
  · by_cases h2 : o ≤ 12
    · have hs : Cm.sets o = true := by unfold Cm.sets; simp only [Bool.and_eq_true, decide_eq_true_eq]; omega
      exact types_15_s  o h a b c d _ _ _ _ _ _ a1 a2 _ c1 _ c2 _ _ _ _ w LT (fun W => make_no 15 W (HM)) (fun W => mark_15 W) (fun W hk => set_yes o h a b c d a1 a2 _ c1 _ c2 l s W hs fun W' hk' => OW W' (hk.next hk')) (fun W => rown_any o h a b c d a1 a2 _ c1 _ c2 W) (ps_sl _ hS) (ps_sp _ hV) (Nat.le_trans (Cm.pl_len _ _) hl) (Nat.le_trans (Cm.pl_len _ _) hn)  (decide_eq_true (by omega)) (decide_eq_true (by omega)) (by omega) (by omega)
    · have hs : Cm.sets o = false := by unfold Cm.sets; rw [Bool.and_eq_false_iff]; simp only [decide_eq_false_iff_not]; omega
      exact types_15_g  o h a b c d 0 0 0 0 0 0 a1 a2 _ c1 _ c2 undef undef [] [] w LT (fun W => make_no 15 W (HM)) (fun W => mark_15 W) (fun W hk => set_no o h a b c d a1 a2 _ c1 _ c2 W hs)  (decide_eq_true (by omega)) (decide_eq_false (by omega)) (by omega) (by omega)
  · have hs : Cm.sets o = false := by unfold Cm.sets; rw [Bool.and_eq_false_iff]; simp only [decide_eq_false_iff_not]; omega
    exact types_15_l  o h a b c d 0 0 0 0 0 0 a1 a2 _ c1 _ c2 undef undef [] [] w LT (fun W => make_no 15 W (HM)) (fun W => mark_15 W) (fun W hk => set_no o h a b c d a1 a2 _ c1 _ c2 W hs)  (decide_eq_false (by omega)) (by omega)
set_option linter.unusedSimpArgs false in
set_option maxRecDepth 100000 in
set_option maxHeartbeats 8000000 in
theorem types_k19 (o h a b c d : Int) (a1 a2 : Option Addr) (c1 c2 : Nat) (l : List Int) (s : List (Nat → Int)) (w : World) (LT : ∀ W, Calls Try.prog 6 #[.agg #[.int .i64 o, .int .i64 h, .int .i64 a, .int .i64 b, .int .i64 c, .int .i64 d, .slice a1 l.length c1, .slice a2 s.length c2]] W fun e w' => e = .returned (.bool true) ∧ Kp W.heap.size W w') (hS : Sl w (.slice a1 l.length c1) (iv l)) (hV : Ro.Sp Cm.vt 9 w (.slice a2 s.length c2) s) (hl : l.length ≤ 5000) (hn : s.length ≤ 5000) :
    Calls Try.prog 4 #[.int .i64 19, .agg #[.int .i64 o, .int .i64 h, .int .i64 a, .int .i64 b, .int .i64 c, .int .i64 d, .slice a1 l.length c1, .slice a2 s.length c2]] w fun e w' => e = .returned (.bool true) ∧ Kp w.heap.size w w' := by
  have HM : Cm.makes 19 = false := by decide
  have OW : ∀ W, Kp w.heap.size w W → Cm.OwnSays o h a b c d (.slice a1 l.length c1) (.slice a2 s.length c2) l s W := fun W hk => own_any o h a b c d _ _ l s W (hS.next hk) (hV.next hk) hl hn
  have HSy : ∀ b : Bool, b = Cm.sets o → Cm.sets o = b := fun _ e => e.symm
  by_cases h1 : 5 ≤ o
  · by_cases h2 : o ≤ 12
    · have hs : Cm.sets o = true := by unfold Cm.sets; simp only [Bool.and_eq_true, decide_eq_true_eq]; omega
      exact types_19_s  o h a b c d _ _ _ _ _ _ a1 a2 _ c1 _ c2 _ _ _ _ w LT (fun W => make_no 19 W (HM)) (fun W => mark_19 W) (fun W hk => set_yes o h a b c d a1 a2 _ c1 _ c2 l s W hs fun W' hk' => OW W' (hk.next hk')) (fun W => rown_any o h a b c d a1 a2 _ c1 _ c2 W) (ps_sl _ hS) (ps_sp _ hV) (Nat.le_trans (Cm.pl_len _ _) hl) (Nat.le_trans (Cm.pl_len _ _) hn)  (decide_eq_true (by omega)) (decide_eq_true (by omega)) (by omega) (by omega)
    · have hs : Cm.sets o = false := by unfold Cm.sets; rw [Bool.and_eq_false_iff]; simp only [decide_eq_false_iff_not]; omega
      exact types_19_g  o h a b c d 0 0 0 0 0 0 a1 a2 _ c1 _ c2 undef undef [] [] w LT (fun W => make_no 19 W (HM)) (fun W => mark_19 W) (fun W hk => set_no o h a b c d a1 a2 _ c1 _ c2 W hs)  (decide_eq_true (by omega)) (decide_eq_false (by omega)) (by omega) (by omega)
  · have hs : Cm.sets o = false := by unfold Cm.sets; rw [Bool.and_eq_false_iff]; simp only [decide_eq_false_iff_not]; omega
    exact types_19_l  o h a b c d 0 0 0 0 0 0 a1 a2 _ c1 _ c2 undef undef [] [] w LT (fun W => make_no 19 W (HM)) (fun W => mark_19 W) (fun W hk => set_no o h a b c d a1 a2 _ c1 _ c2 W hs)  (decide_eq_false (by omega)) (by omega)
set_option linter.unusedSimpArgs false in
set_option maxRecDepth 100000 in
set_option maxHeartbeats 8000000 in
theorem types_k16 (o h a b c d : Int) (a1 a2 : Option Addr) (c1 c2 : Nat) (l : List Int) (s : List (Nat → Int)) (w : World) (LT : ∀ W, Calls Try.prog 6 #[.agg #[.int .i64 o, .int .i64 h, .int .i64 a, .int .i64 b, .int .i64 c, .int .i64 d, .slice a1 l.length c1, .slice a2 s.length c2]] W fun e w' => e = .returned (.bool true) ∧ Kp W.heap.size W w') (hS : Sl w (.slice a1 l.length c1) (iv l)) (hV : Ro.Sp Cm.vt 9 w (.slice a2 s.length c2) s) (hl : l.length ≤ 5000) (hn : s.length ≤ 5000) :
    Calls Try.prog 4 #[.int .i64 16, .agg #[.int .i64 o, .int .i64 h, .int .i64 a, .int .i64 b, .int .i64 c, .int .i64 d, .slice a1 l.length c1, .slice a2 s.length c2]] w fun e w' => e = .returned (.bool true) ∧ Kp w.heap.size w w' := by
  have HM : Cm.makes 16 = false := by decide
  have OW : ∀ W, Kp w.heap.size w W → Cm.OwnSays o h a b c d (.slice a1 l.length c1) (.slice a2 s.length c2) l s W := fun W hk => own_any o h a b c d _ _ l s W (hS.next hk) (hV.next hk) hl hn
  have HSy : ∀ b : Bool, b = Cm.sets o → Cm.sets o = b := fun _ e => e.symm
  by_cases h1 : 5 ≤ o
  · by_cases h2 : o ≤ 12
    · have hs : Cm.sets o = true := by unfold Cm.sets; simp only [Bool.and_eq_true, decide_eq_true_eq]; omega
      exact types_16_s  o h a b c d _ _ _ _ _ _ a1 a2 _ c1 _ c2 _ _ _ _ w LT (fun W => make_no 16 W (HM)) (fun W => mark_16 W) (fun W hk => set_yes o h a b c d a1 a2 _ c1 _ c2 l s W hs fun W' hk' => OW W' (hk.next hk')) (fun W => rown_any o h a b c d a1 a2 _ c1 _ c2 W) (ps_sl _ hS) (ps_sp _ hV) (Nat.le_trans (Cm.pl_len _ _) hl) (Nat.le_trans (Cm.pl_len _ _) hn)  (decide_eq_true (by omega)) (decide_eq_true (by omega)) (by omega) (by omega)
    · have hs : Cm.sets o = false := by unfold Cm.sets; rw [Bool.and_eq_false_iff]; simp only [decide_eq_false_iff_not]; omega
      exact types_16_g  o h a b c d 0 0 0 0 0 0 a1 a2 _ c1 _ c2 undef undef [] [] w LT (fun W => make_no 16 W (HM)) (fun W => mark_16 W) (fun W hk => set_no o h a b c d a1 a2 _ c1 _ c2 W hs)  (decide_eq_true (by omega)) (decide_eq_false (by omega)) (by omega) (by omega)
  · have hs : Cm.sets o = false := by unfold Cm.sets; rw [Bool.and_eq_false_iff]; simp only [decide_eq_false_iff_not]; omega
    exact types_16_l  o h a b c d 0 0 0 0 0 0 a1 a2 _ c1 _ c2 undef undef [] [] w LT (fun W => make_no 16 W (HM)) (fun W => mark_16 W) (fun W hk => set_no o h a b c d a1 a2 _ c1 _ c2 W hs)  (decide_eq_false (by omega)) (by omega)
set_option linter.unusedSimpArgs false in
set_option maxRecDepth 100000 in
set_option maxHeartbeats 8000000 in
theorem types_k17 (o h a b c d : Int) (a1 a2 : Option Addr) (c1 c2 : Nat) (l : List Int) (s : List (Nat → Int)) (w : World) (LT : ∀ W, Calls Try.prog 6 #[.agg #[.int .i64 o, .int .i64 h, .int .i64 a, .int .i64 b, .int .i64 c, .int .i64 d, .slice a1 l.length c1, .slice a2 s.length c2]] W fun e w' => e = .returned (.bool true) ∧ Kp W.heap.size W w') (hS : Sl w (.slice a1 l.length c1) (iv l)) (hV : Ro.Sp Cm.vt 9 w (.slice a2 s.length c2) s) (hl : l.length ≤ 5000) (hn : s.length ≤ 5000) :
    Calls Try.prog 4 #[.int .i64 17, .agg #[.int .i64 o, .int .i64 h, .int .i64 a, .int .i64 b, .int .i64 c, .int .i64 d, .slice a1 l.length c1, .slice a2 s.length c2]] w fun e w' => e = .returned (.bool true) ∧ Kp w.heap.size w w' := by
  have HM : Cm.makes 17 = false := by decide
  have OW : ∀ W, Kp w.heap.size w W → Cm.OwnSays o h a b c d (.slice a1 l.length c1) (.slice a2 s.length c2) l s W := fun W hk => own_any o h a b c d _ _ l s W (hS.next hk) (hV.next hk) hl hn
  have HSy : ∀ b : Bool, b = Cm.sets o → Cm.sets o = b := fun _ e => e.symm
  by_cases h1 : 5 ≤ o
  · by_cases h2 : o ≤ 12
    · have hs : Cm.sets o = true := by unfold Cm.sets; simp only [Bool.and_eq_true, decide_eq_true_eq]; omega
      exact types_17_s  o h a b c d _ _ _ _ _ _ a1 a2 _ c1 _ c2 _ _ _ _ w LT (fun W => make_no 17 W (HM)) (fun W => mark_17 W) (fun W hk => set_yes o h a b c d a1 a2 _ c1 _ c2 l s W hs fun W' hk' => OW W' (hk.next hk')) (fun W => rown_any o h a b c d a1 a2 _ c1 _ c2 W) (ps_sl _ hS) (ps_sp _ hV) (Nat.le_trans (Cm.pl_len _ _) hl) (Nat.le_trans (Cm.pl_len _ _) hn)  (decide_eq_true (by omega)) (decide_eq_true (by omega)) (by omega) (by omega)
    · have hs : Cm.sets o = false := by unfold Cm.sets; rw [Bool.and_eq_false_iff]; simp only [decide_eq_false_iff_not]; omega
      exact types_17_g  o h a b c d 0 0 0 0 0 0 a1 a2 _ c1 _ c2 undef undef [] [] w LT (fun W => make_no 17 W (HM)) (fun W => mark_17 W) (fun W hk => set_no o h a b c d a1 a2 _ c1 _ c2 W hs)  (decide_eq_true (by omega)) (decide_eq_false (by omega)) (by omega) (by omega)
  · have hs : Cm.sets o = false := by unfold Cm.sets; rw [Bool.and_eq_false_iff]; simp only [decide_eq_false_iff_not]; omega
    exact types_17_l  o h a b c d 0 0 0 0 0 0 a1 a2 _ c1 _ c2 undef undef [] [] w LT (fun W => make_no 17 W (HM)) (fun W => mark_17 W) (fun W hk => set_no o h a b c d a1 a2 _ c1 _ c2 W hs)  (decide_eq_false (by omega)) (by omega)
set_option linter.unusedSimpArgs false in
set_option maxRecDepth 100000 in
set_option maxHeartbeats 8000000 in
theorem cmdtypes_walk (k o h a b c d : Int) (v u : Value) (l : List Int) (s : List (Nat → Int)) (w : World) (hS : Sl w v (iv l)) (hV : Ro.Sp Cm.vt 9 w u s) :
    Calls Try.prog 4 #[.int .i64 k, .agg #[.int .i64 o, .int .i64 h, .int .i64 a, .int .i64 b, .int .i64 c, .int .i64 d, v, u]] w fun e w' => e = .returned (.bool true) ∧ Kp w.heap.size w w' := by
  obtain ⟨a1, c1, rfl, -, -⟩ := hS.keptN
  obtain ⟨a2, c2, rfl, -, -⟩ := hV.each
  have LT := fun W => light_any o h a b c d a1 a2 l.length c1 s.length c2 W
  cases hb : (decide ((l.length : Int) ≤ 5000) && decide ((s.length : Int) ≤ 1100))
  · rw [hb] at LT
    exact types_heavy k o h a b c d a1 a2 _ c1 _ c2 w LT
  rw [hb] at LT
  rw [Bool.and_eq_true, decide_eq_true_eq, decide_eq_true_eq] at hb
  have hl : l.length ≤ 5000 := by omega
  have hn : s.length ≤ 5000 := by omega
  by_cases g1 : k < 1
  · exact types_kl k o h a b c d a1 a2 c1 c2 l s w LT g1 hS hV hl hn
  by_cases g2 : k ≤ 4
  · exact types_ka k o h a b c d a1 a2 c1 c2 l s w LT ⟨by omega, g2⟩ hS hV hl hn
  by_cases g3 : k = 15 ∨ k = 16 ∨ k = 17 ∨ k = 19
  · rcases g3 with rfl | rfl | rfl | rfl
    · exact types_k15 o h a b c d a1 a2 c1 c2 l s w LT hS hV hl hn
    · exact types_k16 o h a b c d a1 a2 c1 c2 l s w LT hS hV hl hn
    · exact types_k17 o h a b c d a1 a2 c1 c2 l s w LT hS hV hl hn
    · exact types_k19 o h a b c d a1 a2 c1 c2 l s w LT hS hV hl hn
  exact types_kg k o h a b c d a1 a2 c1 c2 l s w LT ⟨by omega, g3⟩ hS hV hl hn
end Go.Proofs.Ytkmhnfbjapfbeaa
