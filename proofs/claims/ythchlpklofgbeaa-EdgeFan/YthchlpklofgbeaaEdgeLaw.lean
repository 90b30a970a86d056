/-
  Contracts of layer 12's laws: what must come at any rate; does a triangle have a pixel, as a number.
-/
import Derived.Test.YthchlpklofgbeaaEdgeHasC
namespace Go.Proofs.Ythchlpklofgbeaa
open Go.RowKit

theorem awake_any (w : World) :
    Calls Try.prog 9 #[] w fun e w' => e = .returned (.bool true) ∧ Kp w.heap.size w w' := by
  have P1 : ∀ W, Calls Try.prog 13 #[.agg #[.int .i64 0, .int .i64 0, .int .i64 32, .int .i64 0, .int .i64 0, .int .i64 32], .int .i64 0, .int .i64 0] W fun e w' => e = .returned (.tuple #[.bool true, .int .i64 0]) ∧ Kp W.heap.size W w' := fun W => has_yes 0 0 32 0 0 32 0 0 W (by decide) (by decide) (by decide) (by decide)
  have P2 : ∀ W, Calls Try.prog 13 #[.agg #[.int .i64 0, .int .i64 0, .int .i64 32, .int .i64 0, .int .i64 0, .int .i64 32], .int .i64 1, .int .i64 0] W fun e w' => e = .returned (.tuple #[.bool false, .int .i64 0]) ∧ Kp W.heap.size W w' := fun W => has_yes 0 0 32 0 0 32 1 0 W (by decide) (by decide) (by decide) (by decide)
  have P3 : ∀ W, Calls Try.prog 10 #[.agg #[.int .i64 0, .int .i64 0], .agg #[.int .i64 1, .int .i64 0]] W fun e w' => e = .returned (.bool true) ∧ Kp W.heap.size W w' := fun W => owns_any 0 0 1 0 W
  have HO := Lib.hid ((Ow.refl w).newAt w.heap.size rfl (.int .i64 0) [.int .i64 0, .int .i64 32, .int .i64 0, .int .i64 0, .int .i64 32] 24)
  go_enter Try.func9, Try.ntmps9
  go_wp2_with (first
    | go_big_skip
    | ((with_reducible show wpList _ _ _ ({ dst := _, op := Op.load 24 _, type := _, pos := _, after := _, guard := _ } :: _) _ _); refine wpList_ldr ty_three rfl _ rfl _ rfl _ rfl (HO.out.at 0 rfl) ?_)
    | (go_at_call 13; (with_reducible refine (P1 _).mono ?_); rintro e w1 ⟨rfl, hk1⟩; have l2 := HO.out.call hk1; clear HO hk1; have HO := Lib.hid l2; clear l2)
    | (go_at_call 13; (with_reducible refine (P2 _).mono ?_); rintro e w1 ⟨rfl, hk1⟩; have l2 := HO.out.call hk1; clear HO hk1; have HO := Lib.hid l2; clear l2)
    | (go_at_call 10; refine (P3 _).mono ?_; rintro e w1 ⟨rfl, hk1⟩; have l2 := HO.out.call hk1; clear HO hk1; have HO := Lib.hid l2; clear l2))
  go_ret
  exact ⟨rfl, HO.out.k⟩

theorem lhas_any (a1 a2 b1 b2 c1 c2 x y : Int) (w : World) (ha : Eg.may a1 a2 = true) (hb : Eg.may b1 b2 = true) (hc : Eg.may c1 c2 = true) (hf : Eg.fits x y = true) :
    Calls Try.prog 19 #[.agg #[.int .i64 a1, .int .i64 a2], .agg #[.int .i64 b1, .int .i64 b2], .agg #[.int .i64 c1, .int .i64 c2], .int .i64 x, .int .i64 y] w fun e w' => e = .returned (.int .i64 (Eg.n (Eg.has a1 a2 b1 b2 c1 c2 (16 * x + 8) (16 * y + 8)))) ∧ Kp w.heap.size w w' := by
  have H1 := fun W => has_yes a1 a2 b1 b2 c1 c2 x y W ha hb hc hf
  clear ha hb hc hf
  generalize Eg.has a1 a2 b1 b2 c1 c2 (16 * x + 8) (16 * y + 8) = g at *
  have HO := Lib.hid ((((Ow.refl w).newAt w.heap.size rfl (.int .i64 a1) [.int .i64 a2] 23).newAt (w.heap.size + 1) (by simp) (.int .i64 b1) [.int .i64 b2] 23).newAt (w.heap.size + 2) (by simp) (.int .i64 c1) [.int .i64 c2] 23)
  cases g
  all_goals
    go_enter Try.func19, Try.ntmps19
    go_wp2_with (first
      | ((with_reducible show wpList _ _ _ ({ dst := _, op := Op.load 23 (Operand.tmp 5), type := _, pos := _, after := _, guard := _ } :: _) _ _); refine wpList_ldr ty_point rfl _ rfl _ rfl _ rfl (HO.out.at 2 rfl) ?_)
      | ((with_reducible show wpList _ _ _ ({ dst := _, op := Op.load 23 (Operand.tmp 6), type := _, pos := _, after := _, guard := _ } :: _) _ _); refine wpList_ldr ty_point rfl _ rfl _ rfl _ rfl (HO.out.at 1 rfl) ?_)
      | ((with_reducible show wpList _ _ _ ({ dst := _, op := Op.load 23 (Operand.tmp 7), type := _, pos := _, after := _, guard := _ } :: _) _ _); refine wpList_ldr ty_point rfl _ rfl _ rfl _ rfl (HO.out.at 0 rfl) ?_)
      | (go_at_call 13; refine (H1 _).mono ?_; rintro e w1 ⟨rfl, hk1⟩; have l2 := HO.out.call hk1; clear HO hk1; have HO := Lib.hid l2; clear l2))
    go_ret
    exact ⟨ret_int rfl, HO.out.k⟩

/-- a sum of two small numbers does not wrap round -/
theorem wrap_small {n : Int} (h1 : -9223372036854775808 ≤ n) (h2 : n ≤ 9223372036854775807) : IntKind.i64.wrap n = n := by
  rw [IntKind.wrap_i64]; omega
theorem alloc_point (W : World) : (Instr.alloc 23 true (.tuple #[])).run Try.prog W = .ok (.pointer (some ⟨W.heap.size, 0, none⟩)) (W.alloc (.cells [.int .i64 0, .int .i64 0].toArray 23)) := by
  simp [go_sem]
end Go.Proofs.Ythchlpklofgbeaa
