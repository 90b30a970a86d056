/-
  What Of answers, asked for a draw; AsDraw and draw (layer 20).
-/
import Derived.Test.YtkmhnfbjapfbeaaCmdOfA
import Derived.Test.YtkmhnfbjapfbeaaCmdOfB
import Derived.Test.YtkmhnfbjapfbeaaCmdAssert
import Derived.BigGuard
namespace Go.Proofs.Ytkmhnfbjapfbeaa
open Go.RowKit

namespace Cm
/-- a draw, by its four numbers -/
def dr (d : Nat → Int) : List Value := [.int .i64 (d 0), .int .i64 (d 1), .int .i64 (d 2), .int .i64 (d 3)]
theorem dr_len (d : Nat → Int) : (dr d).length = 4 := rfl
def of4 (x y z u : Int) : Nat → Int
  | 0 => x | 1 => y | 2 => z | _ => u
/-- what a failed assertion's panic points to -/
noncomputable def tae : TypeId := match Try.prog.underlying Try.prog.rt.typeAssertionError with | some (.pointer e) => e | _ => 0
/-- a command by its interface: is it a draw, and which? -/
structure Bx (x : Value) (is : Bool) (d : Nat → Int) : Prop where
  ask : ∀ w, (Instr.typeAssert x 30 49 true).run Try.prog w = .ok (.tuple #[.agg #[.int .i64 (d 0), .int .i64 (d 1), .int .i64 (d 2), .int .i64 (d 3)], .bool is]) w
  yes : is = true → ∀ w, (Instr.typeAssert x 30 49 false).run Try.prog w = .ok (.agg #[.int .i64 (d 0), .int .i64 (d 1), .int .i64 (d 2), .int .i64 (d 3)]) w
  no : is = false → ∃ cs, ∀ w : World, (Instr.typeAssert x 30 49 false).run Try.prog w = .halt (.panic (.iface Try.prog.rt.typeAssertionError (.pointer (some ⟨w.heap.size, 0, none⟩)))) (w.alloc (.cells cs tae))
  shape : x = .nilIface ∨ ∃ T y, x = .iface T y
end Cm
theorem bx_Make (y : Value) : Cm.Bx (.iface 39 y) false (fun _ => 0) :=
  ⟨fun w => as_Make_Draw y w, fun e => (by cases e), fun _ => ⟨#[typeHandle Try.prog 30, typeHandle Try.prog 39, typeHandle Try.prog 49, strVal ""], fun w => by kernel_rfl⟩, .inr ⟨_, _, rfl⟩⟩
theorem bx_Set (y : Value) : Cm.Bx (.iface 43 y) false (fun _ => 0) :=
  ⟨fun w => as_Set_Draw y w, fun e => (by cases e), fun _ => ⟨#[typeHandle Try.prog 30, typeHandle Try.prog 43, typeHandle Try.prog 49, strVal ""], fun w => by kernel_rfl⟩, .inr ⟨_, _, rfl⟩⟩
theorem bx_Wipe (y : Value) : Cm.Bx (.iface 63 y) false (fun _ => 0) :=
  ⟨fun w => as_Wipe_Draw y w, fun e => (by cases e), fun _ => ⟨#[typeHandle Try.prog 30, typeHandle Try.prog 63, typeHandle Try.prog 49, strVal ""], fun w => by kernel_rfl⟩, .inr ⟨_, _, rfl⟩⟩
theorem bx_Mark (y : Value) : Cm.Bx (.iface 41 y) false (fun _ => 0) :=
  ⟨fun w => as_Mark_Draw y w, fun e => (by cases e), fun _ => ⟨#[typeHandle Try.prog 30, typeHandle Try.prog 41, typeHandle Try.prog 49, strVal ""], fun w => by kernel_rfl⟩, .inr ⟨_, _, rfl⟩⟩
theorem bx_Look (y : Value) : Cm.Bx (.iface 65 y) false (fun _ => 0) :=
  ⟨fun w => as_Look_Draw y w, fun e => (by cases e), fun _ => ⟨#[typeHandle Try.prog 30, typeHandle Try.prog 65, typeHandle Try.prog 49, strVal ""], fun w => by kernel_rfl⟩, .inr ⟨_, _, rfl⟩⟩
theorem bx_nil : Cm.Bx .nilIface false (fun _ => 0) :=
  ⟨fun w => as_no_Draw w, fun e => (by cases e), fun _ => ⟨#[typeHandle Try.prog 30, .pointer none, typeHandle Try.prog 49, strVal ""], fun w => by kernel_rfl⟩, .inl rfl⟩
theorem bx_Draw (h a b c : Int) : Cm.Bx (.iface 49 (.agg #[.int .i64 h, .int .i64 a, .int .i64 b, .int .i64 c])) true (Cm.of4 h a b c) :=
  ⟨fun w => as_Draw_Draw _ w, fun _ w => as_draw _ w, fun e => (by cases e), .inr ⟨_, _, rfl⟩⟩
set_option linter.unusedSimpArgs false in
set_option maxRecDepth 100000 in
set_option maxHeartbeats 8000000 in
theorem asd_any {x : Value} {is : Bool} {d : Nat → Int} (hB : Cm.Bx x is d) (w : World) : Calls Try.prog 13 #[x] w fun e w' => e = .returned (.tuple #[.agg #[.int .i64 (d 0), .int .i64 (d 1), .int .i64 (d 2), .int .i64 (d 3)], .bool is]) ∧ Kp w.heap.size w w' := by
  have A0 := hB.ask
  clear hB
  have HO := Lib.hid (((Ow.refl w).newAt (w.heap.size) rfl (.int .i64 (d 0)) [.int .i64 (d 1), .int .i64 (d 2), .int .i64 (d 3)] 49).newAt (w.heap.size + 1) (by simp) (.int .i64 (d 0)) [.int .i64 (d 1), .int .i64 (d 2), .int .i64 (d 3)] 49)
  go_enter Try.func13, Try.ntmps13
  go_wp2_with go_big_skip
  refine bodyPost_ret (results_c2 ty_draw rfl rfl rfl rfl (HO.out.at 1 rfl)) rfl ⟨rfl, HO.out.k⟩
set_option linter.unusedSimpArgs false in
set_option maxRecDepth 100000 in
set_option maxHeartbeats 8000000 in
theorem draw_yes {x : Value} {d : Nat → Int} (hB : Cm.Bx x true d) (w : World) : Calls Try.prog 25 #[x] w fun e w' => e = .returned (.agg #[.int .i64 (d 0), .int .i64 (d 1), .int .i64 (d 2), .int .i64 (d 3)]) ∧ Kp w.heap.size w w' := by
  have A0 := hB.yes rfl
  clear hB
  have HO := Lib.hid ((Ow.refl w).newAt (w.heap.size) rfl (.int .i64 (d 0)) [.int .i64 (d 1), .int .i64 (d 2), .int .i64 (d 3)] 49)
  go_enter Try.func25, Try.ntmps25
  go_wp2_with go_big_skip
  refine bodyPost_ret (results_c ty_draw rfl rfl rfl (HO.out.at 0 rfl)) rfl ⟨rfl, HO.out.k⟩
set_option linter.unusedSimpArgs false in
set_option maxRecDepth 100000 in
set_option maxHeartbeats 8000000 in
theorem draw_no {x : Value} {d : Nat → Int} (hB : Cm.Bx x false d) (w : World) : Calls Try.prog 25 #[x] w fun e w' => (∃ T pv, e = .panicked [{ v := .iface T pv, recovered := false }]) ∧ Kp w.heap.size w w' := by
  obtain ⟨cs, A0⟩ := hB.no rfl
  clear hB
  go_enter Try.func25, Try.ntmps25
  go_wp2_with go_big_skip
  exact ⟨rfl, ⟨_, _, rfl⟩, ((Kp.refl _ _).alloc (Nat.le_refl _) _ _).alloc (by simp) _ _⟩
set_option linter.unusedSimpArgs false in
set_option maxRecDepth 100000 in
set_option maxHeartbeats 8000000 in
theorem of_bx (o h a b c d : Int) (v u : Value) (l : List Int) (s : List (Nat → Int)) (w : World) (hS : Sl w v (iv l)) (hV : Ro.Sp Cm.vt 9 w u s) (hl : l.length ≤ 5000) (hn : s.length ≤ 5000) :
    Calls Try.prog 9 #[.agg #[.int .i64 o, .int .i64 h, .int .i64 a, .int .i64 b, .int .i64 c, .int .i64 d, v, u]] w fun e w' => ∃ x er, e = .returned (.tuple #[x, er]) ∧ Cm.Bx x (o == 14) (if o = 14 then Cm.of4 h a b c else fun _ => 0) ∧ Kp w.heap.size w w' := by
  have OW : ∀ W, Kp w.heap.size w W → Cm.OwnSays o h a b c d v u l s W := fun W hk => own_any o h a b c d _ _ l s W (hS.next hk) (hV.next hk) hl hn
  by_cases hk : 1 ≤ o ∧ o ≤ 19
  · unfold Cm.OwnSays at OW
    rcases (show ((o = 1 ∨ o = 2 ∨ o = 3 ∨ o = 4) ∨ (o = 5 ∨ o = 6 ∨ o = 7 ∨ o = 8 ∨ o = 9 ∨ o = 10 ∨ o = 11 ∨ o = 12) ∨ (o = 13) ∨ (o = 14) ∨ (o = 15 ∨ o = 16 ∨ o = 17 ∨ o = 19) ∨ (o = 18)) by omega) with hk | hk | hk | hk | hk | hk
    · have e1 : (o == 14) = false := beq_eq_false_iff_ne.2 (by omega)
      have e2 : ¬ o = 14 := by omega
      rw [e1, if_neg e2]
      rcases hk with rfl | rfl | rfl | rfl
      all_goals
        exact (of_Make _ h a b c d _ _ _ _ _ _ _ _ _ _ w OW (fun W => makes_any _ W)).mono fun e w' ⟨_, _, e1, _, _, hk⟩ => ⟨_, _, e1, bx_Make _, hk⟩
    · have e1 : (o == 14) = false := beq_eq_false_iff_ne.2 (by omega)
      have e2 : ¬ o = 14 := by omega
      rw [e1, if_neg e2]
      rcases hk with rfl | rfl | rfl | rfl | rfl | rfl | rfl | rfl
      all_goals
        exact (of_Set _ h a b c d _ _ _ _ _ _ _ _ _ _ w OW (fun W => makes_any _ W) (fun W => sets_any _ W)).mono fun e w' ⟨_, _, e1, _, _, hk⟩ => ⟨_, _, e1, bx_Set _, hk⟩
    · have e1 : (o == 14) = false := beq_eq_false_iff_ne.2 (by omega)
      have e2 : ¬ o = 14 := by omega
      rw [e1, if_neg e2]
      rcases hk with rfl
      all_goals
        exact (of_Wipe _ h a b c d _ _ _ _ _ _ _ _ _ _ w OW (fun W => makes_any _ W) (fun W => sets_any _ W) rfl).mono fun e w' ⟨_, _, e1, _, _, hk⟩ => ⟨_, _, e1, bx_Wipe _, hk⟩
    · subst hk
      exact (of_Draw 14 h a b c d 14 h a b c 0 v u (iv []) [] w (fun W hk => own_14 h a b c d v u l s W (hS.next hk) (hV.next hk) hl hn) (fun W => makes_any _ W) (fun W => sets_any _ W) rfl rfl).mono fun e w' ⟨_, _, e1, _, _, hk⟩ => ⟨_, _, e1, bx_Draw h a b c, hk⟩
    · have e1 : (o == 14) = false := beq_eq_false_iff_ne.2 (by omega)
      have e2 : ¬ o = 14 := by omega
      rw [e1, if_neg e2]
      rcases hk with rfl | rfl | rfl | rfl
      all_goals
        exact (of_Mark _ h a b c d _ _ _ _ _ _ _ _ _ _ w OW (fun W => makes_any _ W) (fun W => sets_any _ W) rfl rfl (fun W => marks_any _ W)).mono fun e w' ⟨_, _, e1, _, _, hk⟩ => ⟨_, _, e1, bx_Mark _, hk⟩
    · have e1 : (o == 14) = false := beq_eq_false_iff_ne.2 (by omega)
      have e2 : ¬ o = 14 := by omega
      rw [e1, if_neg e2]
      rcases hk with rfl
      all_goals
        exact (of_Look _ h a b c d _ _ _ _ _ _ _ _ _ _ w OW (fun W => makes_any _ W) (fun W => sets_any _ W) rfl rfl (fun W => marks_any _ W) rfl).mono fun e w' ⟨_, _, e1, _, _, hk⟩ => ⟨_, _, e1, bx_Look _, hk⟩
  · have e0 : Cm.op o = 0 := Cm.op_out hk
    have e1 : (o == 14) = false := beq_eq_false_iff_ne.2 (by omega)
    have e2 : ¬ o = 14 := by omega
    rw [e1, if_neg e2]
    unfold Cm.OwnSays at OW
    rw [e0] at OW
    exact (of_No o h a b c d _ _ _ _ _ _ _ _ _ _ w OW (fun W => makes_any _ W) (fun W => sets_any _ W) rfl rfl (fun W => marks_any _ W) rfl).mono fun e w' ⟨_, _, e1, _, _, hk⟩ => ⟨_, _, e1, bx_nil, hk⟩
end Go.Proofs.Ytkmhnfbjapfbeaa
