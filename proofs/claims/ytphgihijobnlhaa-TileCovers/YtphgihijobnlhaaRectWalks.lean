/-
  Contracts of layer 10 (rect), the small functions; the document's own.
-/
import Derived.Test.YtphgihijobnlhaaRectPlain
namespace Go.Proofs.Ytphgihijobnlhaa
open Go.RowKit

theorem ty_rect : Ty 33 4 := ⟨by kernel_rfl, _, Try.underlying33, rfl⟩
theorem run_eqR (r g b a r' g' b' a' : Int) (w : World) : (Op.equalIn 10000 33 (.agg #[.int .i64 r, .int .i64 g, .int .i64 b, .int .i64 a]) (.agg #[.int .i64 (r'), .int .i64 (g'), .int .i64 (b'), .int .i64 (a')])).run Try.prog w = .ok (r == r' && g == g' && b == b' && a == a') w := by
  rw [run_equalIn_struct w 9999 33 _ _ (by kernel_rfl) (by kernel_rfl)]
  simp only [Program.fieldsOf, Try.underlying33]
  rw [show (r == r' && g == g' && b == b' && a == a') = (r == r' && (g == g' && (b == b' && (a == a' && true)))) by simp [Bool.and_assoc]]
  refine eqStep (by decide) (eqInt r r' rfl rfl) (eqStep (by decide) (eqInt g g' rfl rfl) (eqStep (by decide) (eqInt b b' rfl rfl) (eqStep (by decide) (eqInt a a' rfl rfl) (by simp [Op.eqFields]))))
theorem run_eqR_same (r g b a : Int) (w : World) : (Op.equalIn 10000 33 (.agg #[.int .i64 r, .int .i64 g, .int .i64 b, .int .i64 a]) (.agg #[.int .i64 r, .int .i64 g, .int .i64 b, .int .i64 a])).run Try.prog w = .ok true w := by
  rw [run_eqR]; simp

theorem rlow_any (x y : Int) (w : World) :
    Calls Try.prog 26 #[.int .i64 x, .int .i64 y] w fun e w' => e = .returned (.int .i64 (Rt.mn x y)) ∧ w = w' := by
  go_enter Try.func26, Try.ntmps26
  go_wp2
  all_goals
    go_ret
    exact ⟨ret_int (by unfold Rt.mn; split <;> omega), rfl⟩
theorem rhigh_any (x y : Int) (w : World) :
    Calls Try.prog 29 #[.int .i64 x, .int .i64 y] w fun e w' => e = .returned (.int .i64 (Rt.mx x y)) ∧ w = w' := by
  go_enter Try.func29, Try.ntmps29
  go_wp2
  all_goals
    go_ret
    exact ⟨ret_int (by unfold Rt.mx; split <;> omega), rfl⟩

theorem empty_any (x0 y0 x1 y1 : Int) (w : World) :
    Calls Try.prog 28 #[.agg #[.int .i64 x0, .int .i64 y0, .int .i64 x1, .int .i64 y1]] w fun e w' => e = .returned (.bool (Rt.emp x0 y0 x1 y1)) ∧ Kp w.heap.size w w' := by
  cases h1 : decide (x1 ≤ x0)
  all_goals
    go_enter Try.func28, Try.ntmps28
    go_wp2_with go_skip
    go_ret
    exact ⟨ret_bool (by simp only [Rt.emp, h1, Bool.true_or, Bool.false_or]), Kp.new _ _ _⟩
theorem rempty_any (x0 y0 x1 y1 : Int) (w : World) :
    Calls Try.prog 15 #[.agg #[.int .i64 x0, .int .i64 y0, .int .i64 x1, .int .i64 y1]] w fun e w' => e = .returned (.bool (Rt.emp x0 y0 x1 y1)) ∧ Kp w.heap.size w w' := by
  cases h1 : decide (x1 ≤ x0)
  all_goals
    go_enter Try.func15, Try.ntmps15
    go_wp2_with go_skip
    go_ret
    exact ⟨ret_bool (by simp only [Rt.emp, h1, Bool.true_or, Bool.false_or]), Kp.new _ _ _⟩

set_option linter.unusedSimpArgs false in
theorem has_any (x0 y0 x1 y1 x y : Int) (w : World) :
    Calls Try.prog 19 #[.agg #[.int .i64 x0, .int .i64 y0, .int .i64 x1, .int .i64 y1], .int .i64 x, .int .i64 y] w fun e w' => e = .returned (.bool (Rt.has x0 y0 x1 y1 x y)) ∧ Kp w.heap.size w w' := by
  cases h1 : decide (x0 ≤ x)
  · skip
    go_enter Try.func19, Try.ntmps19
    go_wp2_with go_skip
    go_ret
    exact ⟨ret_bool (by simp only [Rt.has, h1, Bool.true_and, Bool.false_and]), Kp.new _ _ _⟩
  cases h2 : decide (x < x1)
  · skip
    go_enter Try.func19, Try.ntmps19
    go_wp2_with go_skip
    go_ret
    exact ⟨ret_bool (by simp only [Rt.has, h1, h2, Bool.true_and, Bool.false_and]), Kp.new _ _ _⟩
  cases h3 : decide (y0 ≤ y)
  · skip
    go_enter Try.func19, Try.ntmps19
    go_wp2_with go_skip
    go_ret
    exact ⟨ret_bool (by simp only [Rt.has, h1, h2, h3, Bool.true_and, Bool.false_and]), Kp.new _ _ _⟩
  · skip
    go_enter Try.func19, Try.ntmps19
    go_wp2_with go_skip
    go_ret
    exact ⟨ret_bool (by simp only [Rt.has, h1, h2, h3, Bool.true_and, Bool.false_and]), Kp.new _ _ _⟩
set_option linter.unusedSimpArgs false in
theorem rhas_any (x0 y0 x1 y1 x y : Int) (w : World) :
    Calls Try.prog 12 #[.agg #[.int .i64 x0, .int .i64 y0, .int .i64 x1, .int .i64 y1], .int .i64 x, .int .i64 y] w fun e w' => e = .returned (.bool (Rt.has x0 y0 x1 y1 x y)) ∧ Kp w.heap.size w w' := by
  cases h1 : decide (x0 ≤ x)
  · skip
    go_enter Try.func12, Try.ntmps12
    go_wp2_with go_skip
    go_ret
    exact ⟨ret_bool (by simp only [Rt.has, h1, Bool.true_and, Bool.false_and]), Kp.new _ _ _⟩
  cases h2 : decide (x < x1)
  · skip
    go_enter Try.func12, Try.ntmps12
    go_wp2_with go_skip
    go_ret
    exact ⟨ret_bool (by simp only [Rt.has, h1, h2, Bool.true_and, Bool.false_and]), Kp.new _ _ _⟩
  cases h3 : decide (y0 ≤ y)
  · skip
    go_enter Try.func12, Try.ntmps12
    go_wp2_with go_skip
    go_ret
    exact ⟨ret_bool (by simp only [Rt.has, h1, h2, h3, Bool.true_and, Bool.false_and]), Kp.new _ _ _⟩
  · skip
    go_enter Try.func12, Try.ntmps12
    go_wp2_with go_skip
    go_ret
    exact ⟨ret_bool (by simp only [Rt.has, h1, h2, h3, Bool.true_and, Bool.false_and]), Kp.new _ _ _⟩

/-- ints, as cells -/
def Rt.iv (l : List Int) : List Value := l.map (Value.int .i64)
theorem Rt.iv_get {l : List Int} {k : Nat} (h : k < l.length) : (Rt.iv l)[k]? = some (.int .i64 l[k]) := by unfold Rt.iv; rw [List.getElem?_map, List.getElem?_eq_getElem h]; rfl
def msrN (n : Nat) (i : Value) : Nat := n - (intOf i).toNat
theorem Rt.wi_no {lo hi : Int} {l : List Int} {k : Nat} (h : k < l.length) (hn : l[k] < lo ∨ hi < l[k]) : Rt.wi lo hi l = false := by
  unfold Rt.wi
  rw [List.all_eq_false]
  exact ⟨l[k], List.getElem_mem h, by simp; omega⟩
theorem Rt.wi_yes {lo hi : Int} {l : List Int} (h : ∀ j (hj : j < l.length), lo ≤ l[j] ∧ l[j] ≤ hi) : Rt.wi lo hi l = true := by
  unfold Rt.wi
  rw [List.all_eq_true]
  intro x hx
  obtain ⟨j, hj, rfl⟩ := List.getElem_of_mem hx
  have := h j hj
  simp [this]



end Go.Proofs.Ytphgihijobnlhaa
