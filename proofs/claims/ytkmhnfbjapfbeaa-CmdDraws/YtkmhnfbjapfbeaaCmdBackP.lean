/-
  Contracts of layer 20 (cmd): Flat of what Of answered is the command's own fields.
-/
import Derived.Test.YtkmhnfbjapfbeaaCmdFlat
import Derived.Test.YtkmhnfbjapfbeaaCmdFldsA
import Derived.Test.YtkmhnfbjapfbeaaCmdFldsB
import Derived.Test.YtkmhnfbjapfbeaaCmdFldsC
import Derived.BigGuard
namespace Go.Proofs.Ytkmhnfbjapfbeaa
open Go.RowKit

theorem Sl.shape {w : World} {v : Value} {xs : List Value} (h : Sl w v xs) : ∃ a n c, v = .slice a n c := by obtain ⟨a, c, h1, _⟩ := h; exact ⟨a, _, c, h1⟩
theorem Ro.Sp.shape {α : Type} {cs : α → List Value} {n : Nat} {w : World} {v : Value} {l : List α} (h : Ro.Sp cs n w v l) : ∃ a n c, v = .slice a n c := by obtain ⟨a, c, h1, _⟩ := h; exact ⟨a, _, c, h1⟩
set_option linter.unusedSimpArgs false in
set_option maxRecDepth 100000 in
set_option maxHeartbeats 8000000 in
set_option linter.unusedVariables false in
theorem back_Make (o h a b c d : Int) (v u : Value) (l : List Int) (s : List (Nat → Int)) (w : World) (hk : o = 1 ∨ o = 2 ∨ o = 3 ∨ o = 4) (hS : Sl w v (iv (Cm.pl (Cm.hL o) l))) (hV : Ro.Sp Cm.vt 9 w u (Cm.pl (Cm.hV o) s)) (hl : l.length ≤ 5000) (hn : s.length ≤ 5000) :
    Calls Try.prog 12 #[.iface 39 (.agg #[.int .i64 (Cm.op o), .int .i64 (Cm.pk (Cm.hH o) h), .int .i64 (Cm.pk (Cm.hA o) a), .int .i64 (Cm.pk (Cm.hB o) b), v, u])] w fun e w' => ∃ v' u', e = .returned (.tuple #[.agg #[.int .i64 (Cm.op o), .int .i64 (Cm.pk (Cm.hH o) h), .int .i64 (Cm.pk (Cm.hA o) a), .int .i64 (Cm.pk (Cm.hB o) b), .int .i64 (Cm.pk (Cm.hC o) c), .int .i64 (Cm.pk (Cm.hD o) d), v', u'], .int .i64 0]) ∧ SlF w.heap.size w' v' (iv (Cm.pl (Cm.hL o) l)) ∧ SpF Cm.vt 9 w.heap.size w' u' (Cm.pl (Cm.hV o) s) ∧ Kp w.heap.size w w' := by
  obtain ⟨a3, n3, c3, rfl⟩ := hS.shape
  obtain ⟨a4, n4, c4, rfl⟩ := hV.shape
  rcases hk with rfl | rfl | rfl | rfl
  · exact flat_yes 39 _ 1 h 0 0 0 0 1 h 0 0 0 0 a3 a4 n3 c3 n4 c4 (iv []) s w (fun W => fields_Make 1 h 0 0 0 0 a3 a4 n3 c3 n4 c4 W) (fun W hk => own_1 h 0 0 0 0 _ _ [] s W (hS.next hk) (hV.next hk) (by simp) (hn))
  · exact flat_yes 39 _ 2 h 0 0 0 0 2 h 0 0 0 0 a3 a4 n3 c3 n4 c4 (iv l) [] w (fun W => fields_Make 2 h 0 0 0 0 a3 a4 n3 c3 n4 c4 W) (fun W hk => own_2 h 0 0 0 0 _ _ l [] W (hS.next hk) (hV.next hk) (hl) (by simp))
  · exact flat_yes 39 _ 3 h a b 0 0 3 h a b 0 0 a3 a4 n3 c3 n4 c4 (iv l) [] w (fun W => fields_Make 3 h a b 0 0 a3 a4 n3 c3 n4 c4 W) (fun W hk => own_3 h a b 0 0 _ _ l [] W (hS.next hk) (hV.next hk) (hl) (by simp))
  · exact flat_yes 39 _ 4 h 0 0 0 0 4 h 0 0 0 0 a3 a4 n3 c3 n4 c4 (iv []) [] w (fun W => fields_Make 4 h 0 0 0 0 a3 a4 n3 c3 n4 c4 W) (fun W hk => own_4 h 0 0 0 0 _ _ [] [] W (hS.next hk) (hV.next hk) (by simp) (by simp))
set_option linter.unusedSimpArgs false in
set_option maxRecDepth 100000 in
set_option maxHeartbeats 8000000 in
set_option linter.unusedVariables false in
theorem back_Set (o h a b c d : Int) (v u : Value) (l : List Int) (s : List (Nat → Int)) (w : World) (hk : o = 5 ∨ o = 6 ∨ o = 7 ∨ o = 8 ∨ o = 9 ∨ o = 10 ∨ o = 11 ∨ o = 12) (hS : Sl w v (iv (Cm.pl (Cm.hL o) l))) (hV : Ro.Sp Cm.vt 9 w u (Cm.pl (Cm.hV o) s)) (hl : l.length ≤ 5000) (hn : s.length ≤ 5000) :
    Calls Try.prog 12 #[.iface 43 (.agg #[.int .i64 (Cm.op o), .int .i64 (Cm.pk (Cm.hH o) h), .int .i64 (Cm.pk (Cm.hA o) a), .int .i64 (Cm.pk (Cm.hB o) b), .int .i64 (Cm.pk (Cm.hC o) c), .int .i64 (Cm.pk (Cm.hD o) d), v, u])] w fun e w' => ∃ v' u', e = .returned (.tuple #[.agg #[.int .i64 (Cm.op o), .int .i64 (Cm.pk (Cm.hH o) h), .int .i64 (Cm.pk (Cm.hA o) a), .int .i64 (Cm.pk (Cm.hB o) b), .int .i64 (Cm.pk (Cm.hC o) c), .int .i64 (Cm.pk (Cm.hD o) d), v', u'], .int .i64 0]) ∧ SlF w.heap.size w' v' (iv (Cm.pl (Cm.hL o) l)) ∧ SpF Cm.vt 9 w.heap.size w' u' (Cm.pl (Cm.hV o) s) ∧ Kp w.heap.size w w' := by
  obtain ⟨a3, n3, c3, rfl⟩ := hS.shape
  obtain ⟨a4, n4, c4, rfl⟩ := hV.shape
  rcases hk with rfl | rfl | rfl | rfl | rfl | rfl | rfl | rfl
  · exact flat_yes 43 _ 5 0 0 0 0 0 5 0 0 0 0 0 a3 a4 n3 c3 n4 c4 (iv l) [] w (fun W => fields_Set 5 0 0 0 0 0 a3 a4 n3 c3 n4 c4 W) (fun W hk => own_5 0 0 0 0 0 _ _ l [] W (hS.next hk) (hV.next hk) (hl) (by simp))
  · exact flat_yes 43 _ 6 0 a b c d 6 0 a b c d a3 a4 n3 c3 n4 c4 (iv []) [] w (fun W => fields_Set 6 0 a b c d a3 a4 n3 c3 n4 c4 W) (fun W hk => own_6 0 a b c d _ _ [] [] W (hS.next hk) (hV.next hk) (by simp) (by simp))
  · exact flat_yes 43 _ 7 0 a b c d 7 0 a b c d a3 a4 n3 c3 n4 c4 (iv []) [] w (fun W => fields_Set 7 0 a b c d a3 a4 n3 c3 n4 c4 W) (fun W hk => own_7 0 a b c d _ _ [] [] W (hS.next hk) (hV.next hk) (by simp) (by simp))
  · exact flat_yes 43 _ 8 0 a b 0 0 8 0 a b 0 0 a3 a4 n3 c3 n4 c4 (iv []) [] w (fun W => fields_Set 8 0 a b 0 0 a3 a4 n3 c3 n4 c4 W) (fun W hk => own_8 0 a b 0 0 _ _ [] [] W (hS.next hk) (hV.next hk) (by simp) (by simp))
  · exact flat_yes 43 _ 9 0 0 0 0 0 9 0 0 0 0 0 a3 a4 n3 c3 n4 c4 (iv l) [] w (fun W => fields_Set 9 0 0 0 0 0 a3 a4 n3 c3 n4 c4 W) (fun W hk => own_9 0 0 0 0 0 _ _ l [] W (hS.next hk) (hV.next hk) (hl) (by simp))
  · exact flat_yes 43 _ 10 0 a b c d 10 0 a b c d a3 a4 n3 c3 n4 c4 (iv []) [] w (fun W => fields_Set 10 0 a b c d a3 a4 n3 c3 n4 c4 W) (fun W hk => own_10 0 a b c d _ _ [] [] W (hS.next hk) (hV.next hk) (by simp) (by simp))
  · exact flat_yes 43 _ 11 0 a 0 0 0 11 0 a 0 0 0 a3 a4 n3 c3 n4 c4 (iv []) [] w (fun W => fields_Set 11 0 a 0 0 0 a3 a4 n3 c3 n4 c4 W) (fun W hk => own_11 0 a 0 0 0 _ _ [] [] W (hS.next hk) (hV.next hk) (by simp) (by simp))
  · exact flat_yes 43 _ 12 h a b 0 0 12 h a b 0 0 a3 a4 n3 c3 n4 c4 (iv []) [] w (fun W => fields_Set 12 h a b 0 0 a3 a4 n3 c3 n4 c4 W) (fun W hk => own_12 h a b 0 0 _ _ [] [] W (hS.next hk) (hV.next hk) (by simp) (by simp))
set_option linter.unusedSimpArgs false in
set_option maxRecDepth 100000 in
set_option maxHeartbeats 8000000 in
set_option linter.unusedVariables false in
theorem back_Wipe (o h a b c d : Int) (v u : Value) (l : List Int) (s : List (Nat → Int)) (w : World) (hk : o = 13) (hS : Sl w v (iv (Cm.pl (Cm.hL o) l))) (hV : Ro.Sp Cm.vt 9 w u (Cm.pl (Cm.hV o) s)) (hl : l.length ≤ 5000) (hn : s.length ≤ 5000) :
    Calls Try.prog 12 #[.iface 63 (.agg #[.int .i64 (Cm.pk (Cm.hA o) a), .int .i64 (Cm.pk (Cm.hB o) b), .int .i64 (Cm.pk (Cm.hC o) c), .int .i64 (Cm.pk (Cm.hD o) d)])] w fun e w' => ∃ v' u', e = .returned (.tuple #[.agg #[.int .i64 (Cm.op o), .int .i64 (Cm.pk (Cm.hH o) h), .int .i64 (Cm.pk (Cm.hA o) a), .int .i64 (Cm.pk (Cm.hB o) b), .int .i64 (Cm.pk (Cm.hC o) c), .int .i64 (Cm.pk (Cm.hD o) d), v', u'], .int .i64 0]) ∧ SlF w.heap.size w' v' (iv (Cm.pl (Cm.hL o) l)) ∧ SpF Cm.vt 9 w.heap.size w' u' (Cm.pl (Cm.hV o) s) ∧ Kp w.heap.size w w' := by
  obtain ⟨a3, n3, c3, rfl⟩ := hS.shape
  obtain ⟨a4, n4, c4, rfl⟩ := hV.shape
  rcases hk with rfl
  exact flat_yes 63 _ 13 0 a b c d 13 0 a b c d none none 0 0 0 0 (iv []) [] w (fun W => fields_Wipe 0 0 a b c d none none 0 0 0 0 W) (fun W hk => own_13 0 a b c d _ _ [] [] W (Sl.nil W) (Ro.Sp.nil W) (by simp) (by simp))
set_option linter.unusedSimpArgs false in
set_option maxRecDepth 100000 in
set_option maxHeartbeats 8000000 in
set_option linter.unusedVariables false in
theorem back_Draw (o h a b c d : Int) (v u : Value) (l : List Int) (s : List (Nat → Int)) (w : World) (hk : o = 14) (hS : Sl w v (iv (Cm.pl (Cm.hL o) l))) (hV : Ro.Sp Cm.vt 9 w u (Cm.pl (Cm.hV o) s)) (hl : l.length ≤ 5000) (hn : s.length ≤ 5000) :
    Calls Try.prog 12 #[.iface 49 (.agg #[.int .i64 (Cm.pk (Cm.hH o) h), .int .i64 (Cm.pk (Cm.hA o) a), .int .i64 (Cm.pk (Cm.hB o) b), .int .i64 (Cm.pk (Cm.hC o) c)])] w fun e w' => ∃ v' u', e = .returned (.tuple #[.agg #[.int .i64 (Cm.op o), .int .i64 (Cm.pk (Cm.hH o) h), .int .i64 (Cm.pk (Cm.hA o) a), .int .i64 (Cm.pk (Cm.hB o) b), .int .i64 (Cm.pk (Cm.hC o) c), .int .i64 (Cm.pk (Cm.hD o) d), v', u'], .int .i64 0]) ∧ SlF w.heap.size w' v' (iv (Cm.pl (Cm.hL o) l)) ∧ SpF Cm.vt 9 w.heap.size w' u' (Cm.pl (Cm.hV o) s) ∧ Kp w.heap.size w w' := by
  obtain ⟨a3, n3, c3, rfl⟩ := hS.shape
  obtain ⟨a4, n4, c4, rfl⟩ := hV.shape
  rcases hk with rfl
  exact flat_yes 49 _ 14 h a b c 0 14 h a b c 0 none none 0 0 0 0 (iv []) [] w (fun W => fields_Draw 0 h a b c 0 none none 0 0 0 0 W) (fun W hk => own_14 h a b c 0 _ _ [] [] W (Sl.nil W) (Ro.Sp.nil W) (by simp) (by simp))
set_option linter.unusedSimpArgs false in
set_option maxRecDepth 100000 in
set_option maxHeartbeats 8000000 in
set_option linter.unusedVariables false in
theorem back_Mark (o h a b c d : Int) (v u : Value) (l : List Int) (s : List (Nat → Int)) (w : World) (hk : o = 15 ∨ o = 16 ∨ o = 17 ∨ o = 19) (hS : Sl w v (iv (Cm.pl (Cm.hL o) l))) (hV : Ro.Sp Cm.vt 9 w u (Cm.pl (Cm.hV o) s)) (hl : l.length ≤ 5000) (hn : s.length ≤ 5000) :
    Calls Try.prog 12 #[.iface 41 (.agg #[.int .i64 (Cm.op o), .int .i64 (Cm.pk (Cm.hA o) a)])] w fun e w' => ∃ v' u', e = .returned (.tuple #[.agg #[.int .i64 (Cm.op o), .int .i64 (Cm.pk (Cm.hH o) h), .int .i64 (Cm.pk (Cm.hA o) a), .int .i64 (Cm.pk (Cm.hB o) b), .int .i64 (Cm.pk (Cm.hC o) c), .int .i64 (Cm.pk (Cm.hD o) d), v', u'], .int .i64 0]) ∧ SlF w.heap.size w' v' (iv (Cm.pl (Cm.hL o) l)) ∧ SpF Cm.vt 9 w.heap.size w' u' (Cm.pl (Cm.hV o) s) ∧ Kp w.heap.size w w' := by
  obtain ⟨a3, n3, c3, rfl⟩ := hS.shape
  obtain ⟨a4, n4, c4, rfl⟩ := hV.shape
  rcases hk with rfl | rfl | rfl | rfl
  · exact flat_yes 41 _ 15 0 0 0 0 0 15 0 0 0 0 0 none none 0 0 0 0 (iv []) [] w (fun W => fields_Mark 15 0 0 0 0 0 none none 0 0 0 0 W) (fun W hk => own_15 0 0 0 0 0 _ _ [] [] W (Sl.nil W) (Ro.Sp.nil W) (by simp) (by simp))
  · exact flat_yes 41 _ 16 0 a 0 0 0 16 0 a 0 0 0 none none 0 0 0 0 (iv []) [] w (fun W => fields_Mark 16 0 a 0 0 0 none none 0 0 0 0 W) (fun W hk => own_16 0 a 0 0 0 _ _ [] [] W (Sl.nil W) (Ro.Sp.nil W) (by simp) (by simp))
  · exact flat_yes 41 _ 17 0 a 0 0 0 17 0 a 0 0 0 none none 0 0 0 0 (iv []) [] w (fun W => fields_Mark 17 0 a 0 0 0 none none 0 0 0 0 W) (fun W hk => own_17 0 a 0 0 0 _ _ [] [] W (Sl.nil W) (Ro.Sp.nil W) (by simp) (by simp))
  · exact flat_yes 41 _ 19 0 0 0 0 0 19 0 0 0 0 0 none none 0 0 0 0 (iv []) [] w (fun W => fields_Mark 19 0 0 0 0 0 none none 0 0 0 0 W) (fun W hk => own_19 0 0 0 0 0 _ _ [] [] W (Sl.nil W) (Ro.Sp.nil W) (by simp) (by simp))
set_option linter.unusedSimpArgs false in
set_option maxRecDepth 100000 in
set_option maxHeartbeats 8000000 in
set_option linter.unusedVariables false in
theorem back_Look (o h a b c d : Int) (v u : Value) (l : List Int) (s : List (Nat → Int)) (w : World) (hk : o = 18) (hS : Sl w v (iv (Cm.pl (Cm.hL o) l))) (hV : Ro.Sp Cm.vt 9 w u (Cm.pl (Cm.hV o) s)) (hl : l.length ≤ 5000) (hn : s.length ≤ 5000) :
    Calls Try.prog 12 #[.iface 65 (.agg #[.int .i64 (Cm.pk (Cm.hH o) h), .int .i64 (Cm.pk (Cm.hA o) a), .int .i64 (Cm.pk (Cm.hB o) b), .int .i64 (Cm.pk (Cm.hC o) c), .int .i64 (Cm.pk (Cm.hD o) d)])] w fun e w' => ∃ v' u', e = .returned (.tuple #[.agg #[.int .i64 (Cm.op o), .int .i64 (Cm.pk (Cm.hH o) h), .int .i64 (Cm.pk (Cm.hA o) a), .int .i64 (Cm.pk (Cm.hB o) b), .int .i64 (Cm.pk (Cm.hC o) c), .int .i64 (Cm.pk (Cm.hD o) d), v', u'], .int .i64 0]) ∧ SlF w.heap.size w' v' (iv (Cm.pl (Cm.hL o) l)) ∧ SpF Cm.vt 9 w.heap.size w' u' (Cm.pl (Cm.hV o) s) ∧ Kp w.heap.size w w' := by
  obtain ⟨a3, n3, c3, rfl⟩ := hS.shape
  obtain ⟨a4, n4, c4, rfl⟩ := hV.shape
  rcases hk with rfl
  exact flat_yes 65 _ 18 h a b c d 18 h a b c d none none 0 0 0 0 (iv []) [] w (fun W => fields_Look 0 h a b c d none none 0 0 0 0 W) (fun W hk => own_18 h a b c d _ _ [] [] W (Sl.nil W) (Ro.Sp.nil W) (by simp) (by simp))
end Go.Proofs.Ytkmhnfbjapfbeaa
