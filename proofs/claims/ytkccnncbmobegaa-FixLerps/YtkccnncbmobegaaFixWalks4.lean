/-
  Contracts of layer 1 (fix), fourth part: going from one number to another one, and what must come at any rate.
-/
import Derived.Test.YtkccnncbmobegaaFixWalks3
namespace Go.Proofs.Ytkccnncbmobegaa
open Go.RowKit

theorem Fx.lerp_bd (a b t : Int) : Fx.low a b ≤ Fx.lerp a b t ∧ Fx.lerp a b t ≤ Fx.high a b := by
  obtain ⟨s1, s2⟩ := Fx.sat_bd t 0 65536 (by omega)
  obtain ⟨m1, m2⟩ := Fx.mul_between (b - a) (Fx.sat t 0 65536) s1 s2
  unfold Fx.lerp Fx.low Fx.high
  generalize (b - a) * Fx.sat t 0 65536 = x at *
  rcases Int.le_total a b with h | h
  · have := m1 (by omega); (repeat' split) <;> omega
  · have := m2 (by omega); (repeat' split) <;> omega
theorem Fx.lerp_mul {a b : Int} (t : Int) (ha : -1099511627776 ≤ a ∧ a ≤ 1099511627776) (hb : -1099511627776 ≤ b ∧ b ≤ 1099511627776) : -144115188075855872 ≤ (b - a) * Fx.sat t 0 65536 ∧ (b - a) * Fx.sat t 0 65536 ≤ 144115188075855872 := by
  obtain ⟨s1, s2⟩ := Fx.sat_bd t 0 65536 (by omega)
  obtain ⟨m1, m2⟩ := Fx.mul_between (b - a) (Fx.sat t 0 65536) s1 s2
  generalize (b - a) * Fx.sat t 0 65536 = x at *
  rcases Int.le_total a b with h | h
  · have := m1 (by omega); omega
  · have := m2 (by omega); omega

set_option maxHeartbeats 400000 in
theorem beyond_any (n : Int) (w : World) :
    Calls Try.prog 29 #[.int .i64 n] w fun e w' => e = .returned (.bool (decide (n < -1099511627776 ∨ 1099511627776 < n))) ∧ w = w' := by
  go_enter Try.func29, Try.ntmps29
  go_wp2_with ((go_at_call 19; refine (sat_any _ _ _ _).mono ?_; rintro e w' ⟨rfl, rfl⟩))
  go_ret
  exact ⟨ret_bool (by rw [Bool.eq_iff_iff]; simp [Fx.sat]; (repeat' split) <;> omega), rfl⟩

theorem beyond_no (n : Int) (w : World) (h : -1099511627776 ≤ n ∧ n ≤ 1099511627776) :
    Calls Try.prog 29 #[.int .i64 n] w fun e w' => e = .returned (.bool false) ∧ w = w' := by
  have := beyond_any n w
  rwa [decide_eq_false (by omega)] at this
theorem beyond_yes (n : Int) (w : World) (h : ¬ (-1099511627776 ≤ n ∧ n ≤ 1099511627776)) :
    Calls Try.prog 29 #[.int .i64 n] w fun e w' => e = .returned (.bool true) ∧ w = w' := by
  have := beyond_any n w
  rwa [decide_eq_true (by omega)] at this

set_option maxHeartbeats 400000 in
theorem lerp_none (a b t : Int) (w : World) (h : ¬ (-1099511627776 ≤ a ∧ a ≤ 1099511627776) ∨ ¬ (-1099511627776 ≤ b ∧ b ≤ 1099511627776)) :
    Calls Try.prog 23 #[.int .i64 a, .int .i64 b, .int .i64 t] w fun e w' => e = .returned (.tuple #[.int .i64 0, .int .i64 3]) ∧ w = w' := by
  by_cases ha : -1099511627776 ≤ a ∧ a ≤ 1099511627776
  · have hb := h.resolve_left (fun k => k ha)
    clear h
    go_enter Try.func23, Try.ntmps23
    go_wp2_with fail
    refine (beyond_no _ _ ha).mono ?_
    rintro e w' ⟨rfl, rfl⟩
    go_wp2_with fail
    refine (beyond_yes _ _ hb).mono ?_
    rintro e w' ⟨rfl, rfl⟩
    go_wp2
    go_ret2
    exact ⟨rfl, rfl⟩
  · clear h
    go_enter Try.func23, Try.ntmps23
    go_wp2_with fail
    refine (beyond_yes _ _ ha).mono ?_
    rintro e w' ⟨rfl, rfl⟩
    go_wp2
    go_ret2
    exact ⟨rfl, rfl⟩

set_option maxHeartbeats 400000 in
theorem lerp_ok (a b t : Int) (w : World) (ha : -1099511627776 ≤ a ∧ a ≤ 1099511627776) (hb : -1099511627776 ≤ b ∧ b ≤ 1099511627776) :
    Calls Try.prog 23 #[.int .i64 a, .int .i64 b, .int .i64 t] w fun e w' => e = .returned (.tuple #[.int .i64 (Fx.lerp a b t), .int .i64 0]) ∧ w = w' := by
  obtain ⟨m1, m2⟩ := Fx.lerp_mul t ha hb
  have hl := Fx.lerp_bd a b t
  have hl1 : -1099511627776 ≤ Fx.lerp a b t := by unfold Fx.low at hl; split at hl <;> omega
  have hl2 : Fx.lerp a b t ≤ 1099511627776 := by unfold Fx.high at hl; split at hl <;> omega
  have ef := Fx.floor_pos (a := (b - a) * Fx.sat t 0 65536) (b := 65536) (by omega)
  have HF := Lib.hid ef
  unfold Fx.lerp at hl1 hl2 ⊢
  clear hl ef
  go_enter Try.func23, Try.ntmps23
  go_wp2_with fail
  refine (beyond_no _ _ ha).mono ?_
  rintro e w' ⟨rfl, rfl⟩
  go_wp2_with fail
  refine (beyond_no _ _ hb).mono ?_
  rintro e w' ⟨rfl, rfl⟩
  obtain ⟨ha1, ha2⟩ := ha
  obtain ⟨hb1, hb2⟩ := hb
  go_wp2_with fail
  refine (sat_any _ _ _ _).mono ?_
  rintro e w' ⟨rfl, rfl⟩
  go_wp2_with fail
  refine (floor_ok _ _ _ (by omega) (by omega)).mono ?_
  rintro e w' ⟨rfl, rfl⟩
  rw [HF.out]
  go_wp2
  go_ret2
  exact ⟨rfl, rfl⟩

set_option maxHeartbeats 400000 in
theorem rlerp_any (a b t : Int) (w : World) (ha : -1099511627776 ≤ a ∧ a ≤ 1099511627776) (hb : -1099511627776 ≤ b ∧ b ≤ 1099511627776) :
    Calls Try.prog 24 #[.int .i64 a, .int .i64 b, .int .i64 t] w fun e w' => e = .returned (.int .i64 (Fx.lerp a b t)) ∧ w = w' := by
  obtain ⟨m1, m2⟩ := Fx.lerp_mul t ha hb
  have hl := Fx.lerp_bd a b t
  have hl1 : -1099511627776 ≤ Fx.lerp a b t := by unfold Fx.low at hl; split at hl <;> omega
  have hl2 : Fx.lerp a b t ≤ 1099511627776 := by unfold Fx.high at hl; split at hl <;> omega
  have ef := Fx.floor_pos (a := (b - a) * Fx.sat t 0 65536) (b := 65536) (by omega)
  have HF := Lib.hid ef
  unfold Fx.lerp at hl1 hl2 ⊢
  clear hl ef
  obtain ⟨ha1, ha2⟩ := ha
  obtain ⟨hb1, hb2⟩ := hb
  go_enter Try.func24, Try.ntmps24
  go_wp2_with fail
  refine (rsat_any _ _ _ _).mono ?_
  rintro e w' ⟨rfl, rfl⟩
  go_wp2_with fail
  refine (rfloor_any _ _ _ (by omega) (by omega)).mono ?_
  rintro e w' ⟨rfl, rfl⟩
  rw [HF.out]
  go_wp2
  go_ret
  exact ⟨rfl, rfl⟩

set_option maxHeartbeats 400000 in
theorem awake_any (w : World) :
    Calls Try.prog 10 #[] w fun e w' => e = .returned (.bool true) ∧ w = w' := by
  have e1 : bits BinOp.and IntKind.i64 (-3) 1 = 1 := by decide
  have e2 : wrap64 (-1208925819614629174706176) = 0 := by unfold wrap64; omega
  go_enter Try.func10, Try.ntmps10
  go_wp2
  go_ret
  exact ⟨rfl, rfl⟩

end Go.Proofs.Ytkccnncbmobegaa
