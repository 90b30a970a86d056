/-
  Contracts of layer 20 (cmd): Flat of a Make, a Mark, a Set of whatever kind.
-/
import Derived.Test.YtkmhnfbjapfbeaaCmdBackP
import Derived.BigGuard
namespace Go.Proofs.Ytkmhnfbjapfbeaa
open Go.RowKit

set_option linter.unusedSimpArgs false in
set_option maxRecDepth 100000 in
set_option maxHeartbeats 8000000 in
theorem make_yes (k : Int) (w : World) (hk : k = 1 ∨ k = 2 ∨ k = 3 ∨ k = 4) : Calls Try.prog 12 #[.iface 39 (.agg #[.int .i64 k, .int .i64 1, .int .i64 0, .int .i64 0, .slice none 0 0, .slice none 0 0])] w fun e w' => ∃ v' u', e = .returned (.tuple #[.agg #[.int .i64 k, .int .i64 1, .int .i64 0, .int .i64 0, .int .i64 0, .int .i64 0, v', u'], .int .i64 0]) ∧ SlF w.heap.size w' v' (iv []) ∧ SpF Cm.vt 9 w.heap.size w' u' [] ∧ Kp w.heap.size w w' := by
  rcases hk with rfl | rfl | rfl | rfl
  · exact flat_yes 39 _ 1 1 0 0 0 0 1 1 0 0 0 0 none none 0 0 0 0 (iv []) [] w (fun W => fields_Make 1 1 0 0 0 0 none none 0 0 0 0 W) (fun W hk => own_1 1 0 0 0 0 _ _ [] [] W (Sl.nil W) (Ro.Sp.nil W) (by simp) (by simp))
  · exact flat_yes 39 _ 2 1 0 0 0 0 2 1 0 0 0 0 none none 0 0 0 0 (iv []) [] w (fun W => fields_Make 2 1 0 0 0 0 none none 0 0 0 0 W) (fun W hk => own_2 1 0 0 0 0 _ _ [] [] W (Sl.nil W) (Ro.Sp.nil W) (by simp) (by simp))
  · exact flat_yes 39 _ 3 1 0 0 0 0 3 1 0 0 0 0 none none 0 0 0 0 (iv []) [] w (fun W => fields_Make 3 1 0 0 0 0 none none 0 0 0 0 W) (fun W hk => own_3 1 0 0 0 0 _ _ [] [] W (Sl.nil W) (Ro.Sp.nil W) (by simp) (by simp))
  · exact flat_yes 39 _ 4 1 0 0 0 0 4 1 0 0 0 0 none none 0 0 0 0 (iv []) [] w (fun W => fields_Make 4 1 0 0 0 0 none none 0 0 0 0 W) (fun W hk => own_4 1 0 0 0 0 _ _ [] [] W (Sl.nil W) (Ro.Sp.nil W) (by simp) (by simp))
set_option linter.unusedSimpArgs false in
set_option maxRecDepth 100000 in
set_option maxHeartbeats 8000000 in
theorem make_no (k : Int) (w : World) (hk : Cm.makes k = false) : Calls Try.prog 12 #[.iface 39 (.agg #[.int .i64 k, .int .i64 1, .int .i64 0, .int .i64 0, .slice none 0 0, .slice none 0 0])] w fun e w' => ∃ v' u', e = .returned (.tuple #[.agg #[.int .i64 0, .int .i64 0, .int .i64 0, .int .i64 0, .int .i64 0, .int .i64 0, v', u'], .int .i64 9]) ∧ SlF w.heap.size w' v' (iv []) ∧ SpF Cm.vt 9 w.heap.size w' u' [] ∧ Kp w.heap.size w w' := by
  have FL : ∀ W, Calls Try.prog 23 #[.iface 39 (.agg #[.int .i64 k, .int .i64 1, .int .i64 0, .int .i64 0, .slice none 0 0, .slice none 0 0])] W fun e w' => e = .returned (.tuple #[.agg #[.int .i64 k, .int .i64 1, .int .i64 0, .int .i64 0, .int .i64 0, .int .i64 0, .slice none 0 0, .slice none 0 0], .bool false]) ∧ Kp W.heap.size W w' := fun W => by
    have h := fields_Make k 1 0 0 0 0 none none 0 0 0 0 W
    rwa [hk] at h
  exact (flat_no 39 _ _ _ _ _ _ _ _ _ _ _ _ _ w FL).mono fun e w' h => ⟨_, _, h.1, SlF.nil _ _, SpF.nil _ _, h.2⟩
set_option linter.unusedSimpArgs false in
set_option maxRecDepth 100000 in
set_option maxHeartbeats 8000000 in
theorem mark_15 (w : World) : Calls Try.prog 12 #[.iface 41 (.agg #[.int .i64 15, .int .i64 2])] w fun e w' => ∃ v' u', e = .returned (.tuple #[.agg #[.int .i64 15, .int .i64 0, .int .i64 0, .int .i64 0, .int .i64 0, .int .i64 0, v', u'], .int .i64 0]) ∧ SlF w.heap.size w' v' (iv []) ∧ SpF Cm.vt 9 w.heap.size w' u' [] ∧ Kp w.heap.size w w' := flat_yes 41 _ 15 0 2 0 0 0 15 0 0 0 0 0 none none 0 0 0 0 (iv []) [] w (fun W => fields_Mark 15 0 2 0 0 0 none none 0 0 0 0 W) (fun W hk => own_15 0 2 0 0 0 _ _ [] [] W (Sl.nil W) (Ro.Sp.nil W) (by simp) (by simp))
set_option linter.unusedSimpArgs false in
set_option maxRecDepth 100000 in
set_option maxHeartbeats 8000000 in
theorem mark_19 (w : World) : Calls Try.prog 12 #[.iface 41 (.agg #[.int .i64 19, .int .i64 2])] w fun e w' => ∃ v' u', e = .returned (.tuple #[.agg #[.int .i64 19, .int .i64 0, .int .i64 0, .int .i64 0, .int .i64 0, .int .i64 0, v', u'], .int .i64 0]) ∧ SlF w.heap.size w' v' (iv []) ∧ SpF Cm.vt 9 w.heap.size w' u' [] ∧ Kp w.heap.size w w' := flat_yes 41 _ 19 0 2 0 0 0 19 0 0 0 0 0 none none 0 0 0 0 (iv []) [] w (fun W => fields_Mark 19 0 2 0 0 0 none none 0 0 0 0 W) (fun W hk => own_19 0 2 0 0 0 _ _ [] [] W (Sl.nil W) (Ro.Sp.nil W) (by simp) (by simp))
set_option linter.unusedSimpArgs false in
set_option maxRecDepth 100000 in
set_option maxHeartbeats 8000000 in
theorem mark_16 (w : World) : Calls Try.prog 12 #[.iface 41 (.agg #[.int .i64 16, .int .i64 2])] w fun e w' => ∃ v' u', e = .returned (.tuple #[.agg #[.int .i64 16, .int .i64 0, .int .i64 2, .int .i64 0, .int .i64 0, .int .i64 0, v', u'], .int .i64 0]) ∧ SlF w.heap.size w' v' (iv []) ∧ SpF Cm.vt 9 w.heap.size w' u' [] ∧ Kp w.heap.size w w' := flat_yes 41 _ 16 0 2 0 0 0 16 0 2 0 0 0 none none 0 0 0 0 (iv []) [] w (fun W => fields_Mark 16 0 2 0 0 0 none none 0 0 0 0 W) (fun W hk => own_16 0 2 0 0 0 _ _ [] [] W (Sl.nil W) (Ro.Sp.nil W) (by simp) (by simp))
set_option linter.unusedSimpArgs false in
set_option maxRecDepth 100000 in
set_option maxHeartbeats 8000000 in
theorem mark_17 (w : World) : Calls Try.prog 12 #[.iface 41 (.agg #[.int .i64 17, .int .i64 2])] w fun e w' => ∃ v' u', e = .returned (.tuple #[.agg #[.int .i64 17, .int .i64 0, .int .i64 2, .int .i64 0, .int .i64 0, .int .i64 0, v', u'], .int .i64 0]) ∧ SlF w.heap.size w' v' (iv []) ∧ SpF Cm.vt 9 w.heap.size w' u' [] ∧ Kp w.heap.size w w' := flat_yes 41 _ 17 0 2 0 0 0 17 0 2 0 0 0 none none 0 0 0 0 (iv []) [] w (fun W => fields_Mark 17 0 2 0 0 0 none none 0 0 0 0 W) (fun W hk => own_17 0 2 0 0 0 _ _ [] [] W (Sl.nil W) (Ro.Sp.nil W) (by simp) (by simp))
set_option linter.unusedSimpArgs false in
set_option maxRecDepth 100000 in
set_option maxHeartbeats 8000000 in
theorem mark_no (k : Int) (w : World) (hk : Cm.marks k = false) : Calls Try.prog 12 #[.iface 41 (.agg #[.int .i64 k, .int .i64 2])] w fun e w' => ∃ v' u', e = .returned (.tuple #[.agg #[.int .i64 0, .int .i64 0, .int .i64 0, .int .i64 0, .int .i64 0, .int .i64 0, v', u'], .int .i64 9]) ∧ SlF w.heap.size w' v' (iv []) ∧ SpF Cm.vt 9 w.heap.size w' u' [] ∧ Kp w.heap.size w w' := by
  have FL : ∀ W, Calls Try.prog 23 #[.iface 41 (.agg #[.int .i64 k, .int .i64 2])] W fun e w' => e = .returned (.tuple #[.agg #[.int .i64 k, .int .i64 0, .int .i64 2, .int .i64 0, .int .i64 0, .int .i64 0, .slice none 0 0, .slice none 0 0], .bool false]) ∧ Kp W.heap.size W w' := fun W => by
    have h := fields_Mark k 0 2 0 0 0 none none 0 0 0 0 W
    rwa [hk] at h
  exact (flat_no 41 _ _ _ _ _ _ _ _ _ _ _ _ _ w FL).mono fun e w' h => ⟨_, _, h.1, SlF.nil _ _, SpF.nil _ _, h.2⟩
set_option linter.unusedSimpArgs false in
set_option maxRecDepth 100000 in
set_option maxHeartbeats 8000000 in
theorem set_no (o h a b c d : Int) (a1 a2 : Option Addr) (n1 c1 n2 c2 : Nat) (w : World) (hk : Cm.sets o = false) : Calls Try.prog 12 #[.iface 43 (.agg #[.int .i64 o, .int .i64 h, .int .i64 a, .int .i64 b, .int .i64 c, .int .i64 d, .slice a1 n1 c1, .slice a2 n2 c2])] w fun e w' => ∃ v' u', e = .returned (.tuple #[.agg #[.int .i64 0, .int .i64 0, .int .i64 0, .int .i64 0, .int .i64 0, .int .i64 0, v', u'], .int .i64 9]) ∧ SlF w.heap.size w' v' (iv []) ∧ SpF Cm.vt 9 w.heap.size w' u' [] ∧ Kp w.heap.size w w' := by
  have FL : ∀ W, Calls Try.prog 23 #[.iface 43 (.agg #[.int .i64 o, .int .i64 h, .int .i64 a, .int .i64 b, .int .i64 c, .int .i64 d, .slice a1 n1 c1, .slice a2 n2 c2])] W fun e w' => e = .returned (.tuple #[.agg #[.int .i64 o, .int .i64 h, .int .i64 a, .int .i64 b, .int .i64 c, .int .i64 d, .slice a1 n1 c1, .slice a2 n2 c2], .bool false]) ∧ Kp W.heap.size W w' := fun W => by
    have h := fields_Set o h a b c d a1 a2 n1 c1 n2 c2 W
    rwa [hk] at h
  exact (flat_no 43 _ _ _ _ _ _ _ _ _ _ _ _ _ w FL).mono fun e w' h => ⟨_, _, h.1, SlF.nil _ _, SpF.nil _ _, h.2⟩
set_option linter.unusedSimpArgs false in
set_option maxRecDepth 100000 in
set_option maxHeartbeats 8000000 in
theorem set_yes (o h a b c d : Int) (a1 a2 : Option Addr) (n1 c1 n2 c2 : Nat) (l : List Int) (s : List (Nat → Int)) (w : World) (hk : Cm.sets o = true) (OW : ∀ W, Kp w.heap.size w W → Cm.OwnSays o h a b c d (.slice a1 n1 c1) (.slice a2 n2 c2) l s W) : Calls Try.prog 12 #[.iface 43 (.agg #[.int .i64 o, .int .i64 h, .int .i64 a, .int .i64 b, .int .i64 c, .int .i64 d, .slice a1 n1 c1, .slice a2 n2 c2])] w fun e w' => ∃ v' u', e = .returned (.tuple #[.agg #[.int .i64 ((Cm.op o)), .int .i64 ((Cm.pk (Cm.hH o) h)), .int .i64 ((Cm.pk (Cm.hA o) a)), .int .i64 ((Cm.pk (Cm.hB o) b)), .int .i64 ((Cm.pk (Cm.hC o) c)), .int .i64 ((Cm.pk (Cm.hD o) d)), v', u'], .int .i64 0]) ∧ SlF w.heap.size w' v' (iv (Cm.pl (Cm.hL o) l)) ∧ SpF Cm.vt 9 w.heap.size w' u' (Cm.pl (Cm.hV o) s) ∧ Kp w.heap.size w w' := by
  have FL : ∀ W, Calls Try.prog 23 #[.iface 43 (.agg #[.int .i64 o, .int .i64 h, .int .i64 a, .int .i64 b, .int .i64 c, .int .i64 d, .slice a1 n1 c1, .slice a2 n2 c2])] W fun e w' => e = .returned (.tuple #[.agg #[.int .i64 o, .int .i64 h, .int .i64 a, .int .i64 b, .int .i64 c, .int .i64 d, .slice a1 n1 c1, .slice a2 n2 c2], .bool true]) ∧ Kp W.heap.size W w' := fun W => by
    have h := fields_Set o h a b c d a1 a2 n1 c1 n2 c2 W
    rwa [hk] at h
  unfold Cm.OwnSays at OW
  exact flat_yes 43 _ _ _ _ _ _ _ _ _ _ _ _ _ _ _ _ _ _ _ _ _ w FL OW
end Go.Proofs.Ytkmhnfbjapfbeaa
