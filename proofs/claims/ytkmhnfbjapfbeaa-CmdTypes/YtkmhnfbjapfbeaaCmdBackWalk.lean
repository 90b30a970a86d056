/-
  CmdBack: its Go text returns true.
-/
import Derived.Test.YtkmhnfbjapfbeaaCmdBackIn
import Derived.BigGuard
namespace Go.Proofs.Ytkmhnfbjapfbeaa
open Go.RowKit

theorem ps_sl {w : World} {v : Value} {l : List Int} (x : Bool) (h : Sl w v (iv l)) : Sl w (Cm.ps x v) (iv (Cm.pl x l)) := by
  cases x
  · exact Sl.nil w
  · exact h
theorem ps_sp {α : Type} {cs : α → List Value} {n : Nat} {w : World} {v : Value} {l : List α} (x : Bool) (h : Ro.Sp cs n w v l) : Ro.Sp cs n w (Cm.ps x v) (Cm.pl x l) := by
  cases x
  · exact Ro.Sp.nil w
  · exact h
set_option linter.unusedSimpArgs false in
set_option maxRecDepth 100000 in
set_option maxHeartbeats 8000000 in
theorem cmdback_Make (o h a b c d : Int) (a1 a2 : Option Addr) (c1 c2 : Nat) (l : List Int) (s : List (Nat → Int)) (w : World) (LT : ∀ W, Calls Try.prog 6 #[.agg #[.int .i64 o, .int .i64 h, .int .i64 a, .int .i64 b, .int .i64 c, .int .i64 d, .slice a1 l.length c1, .slice a2 s.length c2]] W fun e w' => e = .returned (.bool true) ∧ Kp W.heap.size W w') (hk : o = 1 ∨ o = 2 ∨ o = 3 ∨ o = 4) (hS : Sl w (.slice a1 l.length c1) (iv l)) (hV : Ro.Sp Cm.vt 9 w (.slice a2 s.length c2) s) (hl : l.length ≤ 5000) (hn : s.length ≤ 5000) :
    Calls Try.prog 3 #[.agg #[.int .i64 o, .int .i64 h, .int .i64 a, .int .i64 b, .int .i64 c, .int .i64 d, .slice a1 l.length c1, .slice a2 s.length c2]] w fun e w' => e = .returned (.bool true) ∧ Kp w.heap.size w w' := by
  have OW : ∀ W, Kp w.heap.size w W → Cm.OwnSays o h a b c d (.slice a1 l.length c1) (.slice a2 s.length c2) l s W := fun W hk => own_any o h a b c d _ _ l s W (hS.next hk) (hV.next hk) hl hn
  have h1 := ps_sl (Cm.hL o) hS
  have h2 := ps_sp (Cm.hV o) hV
  have h3 : (Cm.pl (Cm.hL o) l).length ≤ 5000 := Nat.le_trans (Cm.pl_len _ _) hl
  have h4 : (Cm.pl (Cm.hV o) s).length ≤ 5000 := Nat.le_trans (Cm.pl_len _ _) hn
  unfold Cm.OwnSays at OW
  rcases hk with rfl | rfl | rfl | rfl
  all_goals
    exact cmdback_in 39 (fun v' u' => .agg #[.int .i64 (Cm.op _), .int .i64 (Cm.pk (Cm.hH _) h), .int .i64 (Cm.pk (Cm.hA _) a), .int .i64 (Cm.pk (Cm.hB _) b), v', u']) 41 _ h a b c d _ _ _ _ _ _ a1 a2 l.length c1 s.length c2 _ _ _ _ w LT OW
      (fun W hk => of_Make _ h a b c d _ _ _ _ _ _ _ _ _ _ W (fun W' hk' => OW W' (hk.next hk')) (fun W => makes_any _ W))
      (fun W => rown_any _ h a b c d a1 a2 _ c1 _ c2 W) h1 h2 h3 h4 (by decide)
      (fun W v' u' k1 k2 => back_Make _ h a b c d v' u' l s W (by decide) k1 k2 hl hn)
      (fun W v' u' => op_Make _ _ _ _ 0 0 v' u' W) (fun v' u' W => by kernel_rfl) (fun args W => by kernel_rfl)
set_option linter.unusedSimpArgs false in
set_option maxRecDepth 100000 in
set_option maxHeartbeats 8000000 in
theorem cmdback_Set (o h a b c d : Int) (a1 a2 : Option Addr) (c1 c2 : Nat) (l : List Int) (s : List (Nat → Int)) (w : World) (LT : ∀ W, Calls Try.prog 6 #[.agg #[.int .i64 o, .int .i64 h, .int .i64 a, .int .i64 b, .int .i64 c, .int .i64 d, .slice a1 l.length c1, .slice a2 s.length c2]] W fun e w' => e = .returned (.bool true) ∧ Kp W.heap.size W w') (hk : o = 5 ∨ o = 6 ∨ o = 7 ∨ o = 8 ∨ o = 9 ∨ o = 10 ∨ o = 11 ∨ o = 12) (hS : Sl w (.slice a1 l.length c1) (iv l)) (hV : Ro.Sp Cm.vt 9 w (.slice a2 s.length c2) s) (hl : l.length ≤ 5000) (hn : s.length ≤ 5000) :
    Calls Try.prog 3 #[.agg #[.int .i64 o, .int .i64 h, .int .i64 a, .int .i64 b, .int .i64 c, .int .i64 d, .slice a1 l.length c1, .slice a2 s.length c2]] w fun e w' => e = .returned (.bool true) ∧ Kp w.heap.size w w' := by
  have OW : ∀ W, Kp w.heap.size w W → Cm.OwnSays o h a b c d (.slice a1 l.length c1) (.slice a2 s.length c2) l s W := fun W hk => own_any o h a b c d _ _ l s W (hS.next hk) (hV.next hk) hl hn
  have h1 := ps_sl (Cm.hL o) hS
  have h2 := ps_sp (Cm.hV o) hV
  have h3 : (Cm.pl (Cm.hL o) l).length ≤ 5000 := Nat.le_trans (Cm.pl_len _ _) hl
  have h4 : (Cm.pl (Cm.hV o) s).length ≤ 5000 := Nat.le_trans (Cm.pl_len _ _) hn
  unfold Cm.OwnSays at OW
  rcases hk with rfl | rfl | rfl | rfl | rfl | rfl | rfl | rfl
  all_goals
    exact cmdback_in 43 (fun v' u' => .agg #[.int .i64 (Cm.op _), .int .i64 (Cm.pk (Cm.hH _) h), .int .i64 (Cm.pk (Cm.hA _) a), .int .i64 (Cm.pk (Cm.hB _) b), .int .i64 (Cm.pk (Cm.hC _) c), .int .i64 (Cm.pk (Cm.hD _) d), v', u']) 43 _ h a b c d _ _ _ _ _ _ a1 a2 l.length c1 s.length c2 _ _ _ _ w LT OW
      (fun W hk => of_Set _ h a b c d _ _ _ _ _ _ _ _ _ _ W (fun W' hk' => OW W' (hk.next hk')) (fun W => makes_any _ W) (fun W => sets_any _ W))
      (fun W => rown_any _ h a b c d a1 a2 _ c1 _ c2 W) h1 h2 h3 h4 (by decide)
      (fun W v' u' k1 k2 => back_Set _ h a b c d v' u' l s W (by decide) k1 k2 hl hn)
      (fun W v' u' => op_Set _ _ _ _ _ _ v' u' W) (fun v' u' W => by kernel_rfl) (fun args W => by kernel_rfl)
set_option linter.unusedSimpArgs false in
set_option maxRecDepth 100000 in
set_option maxHeartbeats 8000000 in
theorem cmdback_Wipe (o h a b c d : Int) (a1 a2 : Option Addr) (c1 c2 : Nat) (l : List Int) (s : List (Nat → Int)) (w : World) (LT : ∀ W, Calls Try.prog 6 #[.agg #[.int .i64 o, .int .i64 h, .int .i64 a, .int .i64 b, .int .i64 c, .int .i64 d, .slice a1 l.length c1, .slice a2 s.length c2]] W fun e w' => e = .returned (.bool true) ∧ Kp W.heap.size W w') (hk : o = 13) (hS : Sl w (.slice a1 l.length c1) (iv l)) (hV : Ro.Sp Cm.vt 9 w (.slice a2 s.length c2) s) (hl : l.length ≤ 5000) (hn : s.length ≤ 5000) :
    Calls Try.prog 3 #[.agg #[.int .i64 o, .int .i64 h, .int .i64 a, .int .i64 b, .int .i64 c, .int .i64 d, .slice a1 l.length c1, .slice a2 s.length c2]] w fun e w' => e = .returned (.bool true) ∧ Kp w.heap.size w w' := by
  have OW : ∀ W, Kp w.heap.size w W → Cm.OwnSays o h a b c d (.slice a1 l.length c1) (.slice a2 s.length c2) l s W := fun W hk => own_any o h a b c d _ _ l s W (hS.next hk) (hV.next hk) hl hn
  have h1 := ps_sl (Cm.hL o) hS
  have h2 := ps_sp (Cm.hV o) hV
  have h3 : (Cm.pl (Cm.hL o) l).length ≤ 5000 := Nat.le_trans (Cm.pl_len _ _) hl
  have h4 : (Cm.pl (Cm.hV o) s).length ≤ 5000 := Nat.le_trans (Cm.pl_len _ _) hn
  unfold Cm.OwnSays at OW
  rcases hk with rfl
  all_goals
    exact cmdback_in 63 (fun v' u' => .agg #[.int .i64 (Cm.pk (Cm.hA _) a), .int .i64 (Cm.pk (Cm.hB _) b), .int .i64 (Cm.pk (Cm.hC _) c), .int .i64 (Cm.pk (Cm.hD _) d)]) 45 _ h a b c d _ _ _ _ _ _ a1 a2 l.length c1 s.length c2 _ _ _ _ w LT OW
      (fun W hk => of_Wipe _ h a b c d _ _ _ _ _ _ _ _ _ _ W (fun W' hk' => OW W' (hk.next hk')) (fun W => makes_any _ W) (fun W => sets_any _ W) rfl)
      (fun W => rown_any _ h a b c d a1 a2 _ c1 _ c2 W) h1 h2 h3 h4 (by decide)
      (fun W v' u' k1 k2 => back_Wipe _ h a b c d v' u' l s W (by decide) k1 k2 hl hn)
      (fun W v' u' => op_Wipe 0 0 _ _ _ _ v' u' W) (fun v' u' W => by kernel_rfl) (fun args W => by kernel_rfl)
set_option linter.unusedSimpArgs false in
set_option maxRecDepth 100000 in
set_option maxHeartbeats 8000000 in
theorem cmdback_Draw (o h a b c d : Int) (a1 a2 : Option Addr) (c1 c2 : Nat) (l : List Int) (s : List (Nat → Int)) (w : World) (LT : ∀ W, Calls Try.prog 6 #[.agg #[.int .i64 o, .int .i64 h, .int .i64 a, .int .i64 b, .int .i64 c, .int .i64 d, .slice a1 l.length c1, .slice a2 s.length c2]] W fun e w' => e = .returned (.bool true) ∧ Kp W.heap.size W w') (hk : o = 14) (hS : Sl w (.slice a1 l.length c1) (iv l)) (hV : Ro.Sp Cm.vt 9 w (.slice a2 s.length c2) s) (hl : l.length ≤ 5000) (hn : s.length ≤ 5000) :
    Calls Try.prog 3 #[.agg #[.int .i64 o, .int .i64 h, .int .i64 a, .int .i64 b, .int .i64 c, .int .i64 d, .slice a1 l.length c1, .slice a2 s.length c2]] w fun e w' => e = .returned (.bool true) ∧ Kp w.heap.size w w' := by
  have OW : ∀ W, Kp w.heap.size w W → Cm.OwnSays o h a b c d (.slice a1 l.length c1) (.slice a2 s.length c2) l s W := fun W hk => own_any o h a b c d _ _ l s W (hS.next hk) (hV.next hk) hl hn
  have h1 := ps_sl (Cm.hL o) hS
  have h2 := ps_sp (Cm.hV o) hV
  have h3 : (Cm.pl (Cm.hL o) l).length ≤ 5000 := Nat.le_trans (Cm.pl_len _ _) hl
  have h4 : (Cm.pl (Cm.hV o) s).length ≤ 5000 := Nat.le_trans (Cm.pl_len _ _) hn
  unfold Cm.OwnSays at OW
  rcases hk with rfl
  all_goals
    exact cmdback_in 49 (fun v' u' => .agg #[.int .i64 (Cm.pk (Cm.hH _) h), .int .i64 (Cm.pk (Cm.hA _) a), .int .i64 (Cm.pk (Cm.hB _) b), .int .i64 (Cm.pk (Cm.hC _) c)]) 44 _ h a b c d _ _ _ _ _ _ a1 a2 l.length c1 s.length c2 _ _ _ _ w LT OW
      (fun W hk => of_Draw _ h a b c d _ _ _ _ _ _ _ _ _ _ W (fun W' hk' => OW W' (hk.next hk')) (fun W => makes_any _ W) (fun W => sets_any _ W) rfl rfl)
      (fun W => rown_any _ h a b c d a1 a2 _ c1 _ c2 W) h1 h2 h3 h4 (by decide)
      (fun W v' u' k1 k2 => back_Draw _ h a b c d v' u' l s W (by decide) k1 k2 hl hn)
      (fun W v' u' => op_Draw 0 _ _ _ _ 0 v' u' W) (fun v' u' W => by kernel_rfl) (fun args W => by kernel_rfl)
set_option linter.unusedSimpArgs false in
set_option maxRecDepth 100000 in
set_option maxHeartbeats 8000000 in
theorem cmdback_Mark (o h a b c d : Int) (a1 a2 : Option Addr) (c1 c2 : Nat) (l : List Int) (s : List (Nat → Int)) (w : World) (LT : ∀ W, Calls Try.prog 6 #[.agg #[.int .i64 o, .int .i64 h, .int .i64 a, .int .i64 b, .int .i64 c, .int .i64 d, .slice a1 l.length c1, .slice a2 s.length c2]] W fun e w' => e = .returned (.bool true) ∧ Kp W.heap.size W w') (hk : o = 15 ∨ o = 16 ∨ o = 17 ∨ o = 19) (hS : Sl w (.slice a1 l.length c1) (iv l)) (hV : Ro.Sp Cm.vt 9 w (.slice a2 s.length c2) s) (hl : l.length ≤ 5000) (hn : s.length ≤ 5000) :
    Calls Try.prog 3 #[.agg #[.int .i64 o, .int .i64 h, .int .i64 a, .int .i64 b, .int .i64 c, .int .i64 d, .slice a1 l.length c1, .slice a2 s.length c2]] w fun e w' => e = .returned (.bool true) ∧ Kp w.heap.size w w' := by
  have OW : ∀ W, Kp w.heap.size w W → Cm.OwnSays o h a b c d (.slice a1 l.length c1) (.slice a2 s.length c2) l s W := fun W hk => own_any o h a b c d _ _ l s W (hS.next hk) (hV.next hk) hl hn
  have h1 := ps_sl (Cm.hL o) hS
  have h2 := ps_sp (Cm.hV o) hV
  have h3 : (Cm.pl (Cm.hL o) l).length ≤ 5000 := Nat.le_trans (Cm.pl_len _ _) hl
  have h4 : (Cm.pl (Cm.hV o) s).length ≤ 5000 := Nat.le_trans (Cm.pl_len _ _) hn
  unfold Cm.OwnSays at OW
  rcases hk with rfl | rfl | rfl | rfl
  all_goals
    exact cmdback_in 41 (fun v' u' => .agg #[.int .i64 (Cm.op _), .int .i64 (Cm.pk (Cm.hA _) a)]) 42 _ h a b c d _ _ _ _ _ _ a1 a2 l.length c1 s.length c2 _ _ _ _ w LT OW
      (fun W hk => of_Mark _ h a b c d _ _ _ _ _ _ _ _ _ _ W (fun W' hk' => OW W' (hk.next hk')) (fun W => makes_any _ W) (fun W => sets_any _ W) rfl rfl (fun W => marks_any _ W))
      (fun W => rown_any _ h a b c d a1 a2 _ c1 _ c2 W) h1 h2 h3 h4 (by decide)
      (fun W v' u' k1 k2 => back_Mark _ h a b c d v' u' l s W (by decide) k1 k2 hl hn)
      (fun W v' u' => op_Mark _ 0 _ 0 0 0 v' u' W) (fun v' u' W => by kernel_rfl) (fun args W => by kernel_rfl)
set_option linter.unusedSimpArgs false in
set_option maxRecDepth 100000 in
set_option maxHeartbeats 8000000 in
theorem cmdback_Look (o h a b c d : Int) (a1 a2 : Option Addr) (c1 c2 : Nat) (l : List Int) (s : List (Nat → Int)) (w : World) (LT : ∀ W, Calls Try.prog 6 #[.agg #[.int .i64 o, .int .i64 h, .int .i64 a, .int .i64 b, .int .i64 c, .int .i64 d, .slice a1 l.length c1, .slice a2 s.length c2]] W fun e w' => e = .returned (.bool true) ∧ Kp W.heap.size W w') (hk : o = 18) (hS : Sl w (.slice a1 l.length c1) (iv l)) (hV : Ro.Sp Cm.vt 9 w (.slice a2 s.length c2) s) (hl : l.length ≤ 5000) (hn : s.length ≤ 5000) :
    Calls Try.prog 3 #[.agg #[.int .i64 o, .int .i64 h, .int .i64 a, .int .i64 b, .int .i64 c, .int .i64 d, .slice a1 l.length c1, .slice a2 s.length c2]] w fun e w' => e = .returned (.bool true) ∧ Kp w.heap.size w w' := by
  have OW : ∀ W, Kp w.heap.size w W → Cm.OwnSays o h a b c d (.slice a1 l.length c1) (.slice a2 s.length c2) l s W := fun W hk => own_any o h a b c d _ _ l s W (hS.next hk) (hV.next hk) hl hn
  have h1 := ps_sl (Cm.hL o) hS
  have h2 := ps_sp (Cm.hV o) hV
  have h3 : (Cm.pl (Cm.hL o) l).length ≤ 5000 := Nat.le_trans (Cm.pl_len _ _) hl
  have h4 : (Cm.pl (Cm.hV o) s).length ≤ 5000 := Nat.le_trans (Cm.pl_len _ _) hn
  unfold Cm.OwnSays at OW
  rcases hk with rfl
  all_goals
    exact cmdback_in 65 (fun v' u' => .agg #[.int .i64 (Cm.pk (Cm.hH _) h), .int .i64 (Cm.pk (Cm.hA _) a), .int .i64 (Cm.pk (Cm.hB _) b), .int .i64 (Cm.pk (Cm.hC _) c), .int .i64 (Cm.pk (Cm.hD _) d)]) 46 _ h a b c d _ _ _ _ _ _ a1 a2 l.length c1 s.length c2 _ _ _ _ w LT OW
      (fun W hk => of_Look _ h a b c d _ _ _ _ _ _ _ _ _ _ W (fun W' hk' => OW W' (hk.next hk')) (fun W => makes_any _ W) (fun W => sets_any _ W) rfl rfl (fun W => marks_any _ W) rfl)
      (fun W => rown_any _ h a b c d a1 a2 _ c1 _ c2 W) h1 h2 h3 h4 (by decide)
      (fun W v' u' k1 k2 => back_Look _ h a b c d v' u' l s W (by decide) k1 k2 hl hn)
      (fun W v' u' => op_Look 0 _ _ _ _ _ v' u' W) (fun v' u' W => by kernel_rfl) (fun args W => by kernel_rfl)
set_option linter.unusedSimpArgs false in
set_option maxRecDepth 100000 in
set_option maxHeartbeats 8000000 in
theorem cmdback_walk (o h a b c d : Int) (v u : Value) (l : List Int) (s : List (Nat → Int)) (w : World) (hS : Sl w v (iv l)) (hV : Ro.Sp Cm.vt 9 w u s) :
    Calls Try.prog 3 #[.agg #[.int .i64 o, .int .i64 h, .int .i64 a, .int .i64 b, .int .i64 c, .int .i64 d, v, u]] w fun e w' => e = .returned (.bool true) ∧ Kp w.heap.size w w' := by
  obtain ⟨a1, c1, rfl, -, -⟩ := hS.keptN
  obtain ⟨a2, c2, rfl, -, -⟩ := hV.each
  have LT := fun W => light_any o h a b c d a1 a2 l.length c1 s.length c2 W
  cases hb : (decide ((l.length : Int) ≤ 5000) && decide ((s.length : Int) ≤ 1100))
  · rw [hb] at LT
    exact cmdback_heavy o h a b c d a1 a2 _ c1 _ c2 w LT
  rw [hb] at LT
  rw [Bool.and_eq_true, decide_eq_true_eq, decide_eq_true_eq] at hb
  have hl : l.length ≤ 5000 := by omega
  have hn : s.length ≤ 5000 := by omega
  by_cases hk : 1 ≤ o ∧ o ≤ 19
  · rcases (show ((o = 1 ∨ o = 2 ∨ o = 3 ∨ o = 4) ∨ (o = 5 ∨ o = 6 ∨ o = 7 ∨ o = 8 ∨ o = 9 ∨ o = 10 ∨ o = 11 ∨ o = 12) ∨ (o = 13) ∨ (o = 14) ∨ (o = 15 ∨ o = 16 ∨ o = 17 ∨ o = 19) ∨ (o = 18)) by omega) with hk | hk | hk | hk | hk | hk
    · exact cmdback_Make o h a b c d a1 a2 c1 c2 l s w LT hk hS hV hl hn
    · exact cmdback_Set o h a b c d a1 a2 c1 c2 l s w LT hk hS hV hl hn
    · exact cmdback_Wipe o h a b c d a1 a2 c1 c2 l s w LT hk hS hV hl hn
    · exact cmdback_Draw o h a b c d a1 a2 c1 c2 l s w LT hk hS hV hl hn
    · exact cmdback_Mark o h a b c d a1 a2 c1 c2 l s w LT hk hS hV hl hn
    · exact cmdback_Look o h a b c d a1 a2 c1 c2 l s w LT hk hS hV hl hn
  · have OW : ∀ W, Kp w.heap.size w W → Cm.OwnSays o h a b c d (.slice a1 l.length c1) (.slice a2 s.length c2) l s W := fun W hk => own_any o h a b c d _ _ l s W (hS.next hk) (hV.next hk) hl hn
    have h1 := ps_sl (Cm.hL o) hS
    have h2 := ps_sp (Cm.hV o) hV
    have h3 : (Cm.pl (Cm.hL o) l).length ≤ 5000 := Nat.le_trans (Cm.pl_len _ _) hl
    have h4 : (Cm.pl (Cm.hV o) s).length ≤ 5000 := Nat.le_trans (Cm.pl_len _ _) hn
    have e0 : Cm.op o = 0 := Cm.op_out hk
    unfold Cm.OwnSays at OW
    have RO := fun W => rown_any o h a b c d a1 a2 l.length c1 s.length c2 W
    rw [e0] at OW RO
    exact cmdback_out o h a b c d _ _ _ _ _ _ a1 a2 l.length c1 s.length c2 _ _ _ _ w LT OW
      (fun W hk => of_No o h a b c d _ _ _ _ _ _ _ _ _ _ W (fun W' hk' => OW W' (hk.next hk')) (fun W => makes_any _ W) (fun W => sets_any _ W) rfl rfl (fun W => marks_any _ W) rfl)
      RO h1 h2 h3 h4 hk
end Go.Proofs.Ytkmhnfbjapfbeaa
