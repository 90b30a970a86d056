/-
  Contracts of layer 6 (tint), the small functions: what they return, for every input; what stood in memory stands.
-/
import Derived.Test.YtbhpjklomnjkfaaMem
import Derived.Test.YtbhpjklomnjkfaaTintPlain
import Derived.ChangeKeysEq
import Derived.Laws.StructEq
namespace Go.Proofs.Ytbhpjklomnjkfaa
open Go.RowKit

theorem ty_color : Ty 29 4 := ⟨by kernel_rfl, _, Try.underlying29, rfl⟩

theorem sat_any (n lo hi : Int) (w : World) :
    Calls Try.prog 29 #[.int .i64 n, .int .i64 lo, .int .i64 hi] w fun e w' => e = .returned (.int .i64 (Tn.sat n lo hi)) ∧ w = w' := by
  go_enter Try.func29, Try.ntmps29
  go_wp2
  all_goals
    go_ret
    exact ⟨ret_int (by unfold Tn.sat; split <;> (try split) <;> omega), rfl⟩
theorem rsat_any (n lo hi : Int) (w : World) :
    Calls Try.prog 30 #[.int .i64 n, .int .i64 lo, .int .i64 hi] w fun e w' => e = .returned (.int .i64 (Tn.sat n lo hi)) ∧ w = w' := by
  go_enter Try.func30, Try.ntmps30
  go_wp2
  all_goals
    go_ret
    exact ⟨ret_int (by unfold Tn.sat; split <;> (try split) <;> omega), rfl⟩
theorem ris_any (x : Int) (w : World) :
    Calls Try.prog 26 #[.int .i64 x] w fun e w' => e = .returned (.bool (Tn.is x)) ∧ w = w' := by
  by_cases h : 0 ≤ x
  · go_enter Try.func26, Try.ntmps26
    go_wp2
    go_ret
    exact ⟨ret_bool (by simp [Tn.is, h]), rfl⟩
  · have hd : decide (0 ≤ x) = false := decide_eq_false h
    go_enter Try.func26, Try.ntmps26
    go_wp2
    go_ret
    exact ⟨ret_bool (by simp [Tn.is]; omega), rfl⟩
set_option maxHeartbeats 1000000 in
theorem runpack_no (n : Int) (w : World) (h : n < 0 ∨ 4294967295 < n) :
    Calls Try.prog 15 #[.int .i64 n] w fun e w' => e = .returned (.tuple #[.agg #[.int .i64 0, .int .i64 0, .int .i64 0, .int .i64 0], .bool false]) ∧ Kp w.heap.size w w' := by
  by_cases h1 : n < 0
  · go_enter Try.func15, Try.ntmps15
    go_wp2
    exact bodyPost_ret (results_c2 ty_color rfl rfl rfl rfl (Rc.new w [.int .i64 0, .int .i64 0, .int .i64 0, .int .i64 0] _ rfl)) rfl ⟨rfl, Kp.new _ _ _⟩
  · have hd : decide (n < 0) = false := decide_eq_false h1
    have h2 : 4294967295 < n := by omega
    go_enter Try.func15, Try.ntmps15
    go_wp2
    exact bodyPost_ret (results_c2 ty_color rfl rfl rfl rfl (Rc.new w [.int .i64 0, .int .i64 0, .int .i64 0, .int .i64 0] _ rfl)) rfl ⟨rfl, Kp.new _ _ _⟩
theorem ret_color2 {r g b a r' g' b' a' : Int} {v : Value} (h0 : r = r') (h1 : g = g') (h2 : b = b') (h3 : a = a') :
    Ending.returned (.tuple #[.agg #[.int .i64 r, .int .i64 g, .int .i64 b, .int .i64 a], v]) = .returned (.tuple #[.agg #[.int .i64 (r'), .int .i64 (g'), .int .i64 (b'), .int .i64 (a')], v]) := by subst h0 h1 h2 h3; rfl
set_option maxHeartbeats 1000000 in
theorem runpack_yes (n : Int) (w : World) (h : 0 ≤ n ∧ n ≤ 4294967295) :
    Calls Try.prog 15 #[.int .i64 n] w fun e w' => e = .returned (.tuple #[.agg #[.int .i64 (Tn.part n 0), .int .i64 (Tn.part n 1), .int .i64 (Tn.part n 2), .int .i64 (Tn.part n 3)], .bool true]) ∧ Kp w.heap.size w w' := by
  obtain ⟨h1, h2⟩ := h
  have d0 : 0 ≤ n / 16777216 ∧ n / 16777216 ≤ 255 := by omega
  have d1 : 0 ≤ n / 65536 ∧ n / 65536 ≤ 65535 := by omega
  have d2 : 0 ≤ n / 256 ∧ n / 256 ≤ 16777215 := by omega
  obtain ⟨d01, d02⟩ := d0
  obtain ⟨d11, d12⟩ := d1
  obtain ⟨d21, d22⟩ := d2
  have hd : decide (n < 0) = false := decide_eq_false (by omega)
  have hd2 : decide (4294967295 < n) = false := decide_eq_false (by omega)
  go_enter Try.func15, Try.ntmps15
  go_wp2
  exact bodyPost_ret (results_c2 ty_color rfl rfl rfl rfl (Rc.new w [.int .i64 _, .int .i64 _, .int .i64 _, .int .i64 _] _ rfl)) rfl ⟨ret_color2 (by rw [Tn.part0]; omega) (by rw [Tn.part1]) (by rw [Tn.part2]) (by rw [Tn.part3]), Kp.new _ _ _⟩
end Go.Proofs.Ytbhpjklomnjkfaa
