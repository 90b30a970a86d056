/-
  Contracts of layer 10 (rect), the small functions; the document's own.
-/
import Derived.Test.YtfgeamidgaekjaaRectPlain
namespace Go.Proofs.Ytfgeamidgaekjaa
open Go.RowKit

theorem ty_rect : Ty 23 4 := ⟨by kernel_rfl, _, Try.underlying23, rfl⟩
theorem run_eqR (r g b a r' g' b' a' : Int) (w : World) : (Op.equalIn 10000 23 (.agg #[.int .i64 r, .int .i64 g, .int .i64 b, .int .i64 a]) (.agg #[.int .i64 (r'), .int .i64 (g'), .int .i64 (b'), .int .i64 (a')])).run Try.prog w = .ok (r == r' && g == g' && b == b' && a == a') w := by
  rw [run_equalIn_struct w 9999 23 _ _ (by kernel_rfl) (by kernel_rfl)]
  simp only [Program.fieldsOf, Try.underlying23]
  rw [show (r == r' && g == g' && b == b' && a == a') = (r == r' && (g == g' && (b == b' && (a == a' && true)))) by simp [Bool.and_assoc]]
  refine eqStep (by decide) (eqInt r r' rfl rfl) (eqStep (by decide) (eqInt g g' rfl rfl) (eqStep (by decide) (eqInt b b' rfl rfl) (eqStep (by decide) (eqInt a a' rfl rfl) (by simp [Op.eqFields]))))
theorem run_eqR_same (r g b a : Int) (w : World) : (Op.equalIn 10000 23 (.agg #[.int .i64 r, .int .i64 g, .int .i64 b, .int .i64 a]) (.agg #[.int .i64 r, .int .i64 g, .int .i64 b, .int .i64 a])).run Try.prog w = .ok true w := by
  rw [run_eqR]; simp

theorem rlow_any (x y : Int) (w : World) :
    Calls Try.prog 23 #[.int .i64 x, .int .i64 y] w fun e w' => e = .returned (.int .i64 (Rt.mn x y)) ∧ w = w' := by
  go_enter Try.func23, Try.ntmps23
  go_wp2
  all_goals
    go_ret
    exact ⟨ret_int (by unfold Rt.mn; split <;> omega), rfl⟩
theorem rhigh_any (x y : Int) (w : World) :
    Calls Try.prog 22 #[.int .i64 x, .int .i64 y] w fun e w' => e = .returned (.int .i64 (Rt.mx x y)) ∧ w = w' := by
  go_enter Try.func22, Try.ntmps22
  go_wp2
  all_goals
    go_ret
    exact ⟨ret_int (by unfold Rt.mx; split <;> omega), rfl⟩

theorem empty_any (x0 y0 x1 y1 : Int) (w : World) :
    Calls Try.prog 10 #[.agg #[.int .i64 x0, .int .i64 y0, .int .i64 x1, .int .i64 y1]] w fun e w' => e = .returned (.bool (Rt.emp x0 y0 x1 y1)) ∧ Kp w.heap.size w w' := by
  cases h1 : decide (x1 ≤ x0)
  all_goals
    go_enter Try.func10, Try.ntmps10
    go_wp2_with go_skip
    go_ret
    exact ⟨ret_bool (by simp only [Rt.emp, h1, Bool.true_or, Bool.false_or]), Kp.new _ _ _⟩
theorem rempty_any (x0 y0 x1 y1 : Int) (w : World) :
    Calls Try.prog 11 #[.agg #[.int .i64 x0, .int .i64 y0, .int .i64 x1, .int .i64 y1]] w fun e w' => e = .returned (.bool (Rt.emp x0 y0 x1 y1)) ∧ Kp w.heap.size w w' := by
  cases h1 : decide (x1 ≤ x0)
  all_goals
    go_enter Try.func11, Try.ntmps11
    go_wp2_with go_skip
    go_ret
    exact ⟨ret_bool (by simp only [Rt.emp, h1, Bool.true_or, Bool.false_or]), Kp.new _ _ _⟩

set_option linter.unusedSimpArgs false in
theorem has_any (x0 y0 x1 y1 x y : Int) (w : World) :
    Calls Try.prog 9 #[.agg #[.int .i64 x0, .int .i64 y0, .int .i64 x1, .int .i64 y1], .int .i64 x, .int .i64 y] w fun e w' => e = .returned (.bool (Rt.has x0 y0 x1 y1 x y)) ∧ Kp w.heap.size w w' := by
  cases h1 : decide (x0 ≤ x)
  · skip
    go_enter Try.func9, Try.ntmps9
    go_wp2_with go_skip
    go_ret
    exact ⟨ret_bool (by simp only [Rt.has, h1, Bool.true_and, Bool.false_and]), Kp.new _ _ _⟩
  cases h2 : decide (x < x1)
  · skip
    go_enter Try.func9, Try.ntmps9
    go_wp2_with go_skip
    go_ret
    exact ⟨ret_bool (by simp only [Rt.has, h1, h2, Bool.true_and, Bool.false_and]), Kp.new _ _ _⟩
  cases h3 : decide (y0 ≤ y)
  · skip
    go_enter Try.func9, Try.ntmps9
    go_wp2_with go_skip
    go_ret
    exact ⟨ret_bool (by simp only [Rt.has, h1, h2, h3, Bool.true_and, Bool.false_and]), Kp.new _ _ _⟩
  · skip
    go_enter Try.func9, Try.ntmps9
    go_wp2_with go_skip
    go_ret
    exact ⟨ret_bool (by simp only [Rt.has, h1, h2, h3, Bool.true_and, Bool.false_and]), Kp.new _ _ _⟩
set_option linter.unusedSimpArgs false in
theorem rhas_any (x0 y0 x1 y1 x y : Int) (w : World) :
    Calls Try.prog 8 #[.agg #[.int .i64 x0, .int .i64 y0, .int .i64 x1, .int .i64 y1], .int .i64 x, .int .i64 y] w fun e w' => e = .returned (.bool (Rt.has x0 y0 x1 y1 x y)) ∧ Kp w.heap.size w w' := by
  cases h1 : decide (x0 ≤ x)
  · skip
    go_enter Try.func8, Try.ntmps8
    go_wp2_with go_skip
    go_ret
    exact ⟨ret_bool (by simp only [Rt.has, h1, Bool.true_and, Bool.false_and]), Kp.new _ _ _⟩
  cases h2 : decide (x < x1)
  · skip
    go_enter Try.func8, Try.ntmps8
    go_wp2_with go_skip
    go_ret
    exact ⟨ret_bool (by simp only [Rt.has, h1, h2, Bool.true_and, Bool.false_and]), Kp.new _ _ _⟩
  cases h3 : decide (y0 ≤ y)
  · skip
    go_enter Try.func8, Try.ntmps8
    go_wp2_with go_skip
    go_ret
    exact ⟨ret_bool (by simp only [Rt.has, h1, h2, h3, Bool.true_and, Bool.false_and]), Kp.new _ _ _⟩
  · skip
    go_enter Try.func8, Try.ntmps8
    go_wp2_with go_skip
    go_ret
    exact ⟨ret_bool (by simp only [Rt.has, h1, h2, h3, Bool.true_and, Bool.false_and]), Kp.new _ _ _⟩

/-- ints, as cells -/
def Rt.iv (l : List Int) : List Value := l.map (Value.int .i64)
theorem Rt.iv_get {l : List Int} {k : Nat} (h : k < l.length) : (Rt.iv l)[k]? = some (.int .i64 l[k]) := by unfold Rt.iv; rw [List.getElem?_map, List.getElem?_eq_getElem h]; rfl
def msrN (n : Nat) (i : Value) : Nat := n - (intOf i).toNat
theorem Rt.wi_no {lo hi : Int} {l : List Int} {k : Nat} (h : k < l.length) (hn : l[k] < lo ∨ hi < l[k]) : Rt.wi lo hi l = false := by
  unfold Rt.wi
  rw [List.all_eq_false]
  exact ⟨l[k], List.getElem_mem h, by simp; omega⟩
theorem Rt.wi_yes {lo hi : Int} {l : List Int} (h : ∀ j (hj : j < l.length), lo ≤ l[j] ∧ l[j] ≤ hi) : Rt.wi lo hi l = true := by
  unfold Rt.wi
  rw [List.all_eq_true]
  intro x hx
  obtain ⟨j, hj, rfl⟩ := List.getElem_of_mem hx
  have := h j hj
  simp [this]
set_option maxHeartbeats 1000000 in
theorem within_any (lo hi : Int) (l : List Int) (n b : Nat) (w : World) (hn : n = l.length) (h4 : n ≤ 4) (hR : ∀ j v, (Rt.iv l)[j]? = some v → w.cell? ⟨b, j, none⟩ = some v) :
    Calls Try.prog 24 #[.int .i64 lo, .int .i64 hi, .slice (some ⟨b, 0, none⟩) n n] w fun e w' => e = .returned (.bool (Rt.wi lo hi l)) ∧ w = w' := by
  have HR := Lib.hid hR
  have HN := Lib.hid hn
  clear hR hn
  go_enter Try.func24, Try.ntmps24
  go_wp2
  go_loop [11] (fun i => ∃ k : Nat, k ≤ n ∧ i = .int .i64 k ∧ Hid (∀ j (hj : j < l.length), j < k → lo ≤ l[j] ∧ l[j] ≤ hi)) (fun i => msrN n i)
  case atStart => exact ⟨0, Nat.zero_le _, rfl, Lib.hid fun j _ hj => by omega⟩
  case round =>
    obtain ⟨k, hk, rfl, HA⟩ := hrel
    by_cases hlt : k < n
    · have hl : k < l.length := by rw [← HN.out]; exact hlt
      obtain ⟨x, hx⟩ : ∃ x, x = l[k] := ⟨_, rfl⟩
      have hcell : w.cell? ⟨b, k, none⟩ = some (.int .i64 x) := by rw [hx]; exact HR.out k _ (Rt.iv_get hl)
      have HX := Lib.hid (show ∀ h : k < l.length, x = l[k] from fun _ => hx)
      have HL := Lib.hid hl
      clear hx hl
      cases h1 : decide (x < lo)
      · cases h2 : decide (hi < x)
        · go_wp2
          go_round
          case rel =>
            refine ⟨k + 1, by omega, by go_num, Lib.hid fun j hj hjk => ?_⟩
            by_cases e : j = k
            · subst e; rw [← HX.out hj]; simp at h1 h2; omega
            · exact HA.out j hj (by omega)
          case measure => simp [msrN, intOf]; omega
        · go_wp2
          go_ret
          exact ⟨ret_bool (Rt.wi_no HL.out (by rw [← HX.out HL.out]; simp at h2; omega)).symm, rfl⟩
      · go_wp2_with go_skip
        go_ret
        exact ⟨ret_bool (Rt.wi_no HL.out (by rw [← HX.out HL.out]; simp at h1; omega)).symm, rfl⟩
    · go_wp2
      go_ret
      have hn := HN.out
      exact ⟨ret_bool (Rt.wi_yes fun j hj => HA.out j hj (by omega)).symm, rfl⟩

set_option maxHeartbeats 1000000 in
theorem small_any (x0 y0 x1 y1 : Int) (w : World) :
    Calls Try.prog 25 #[.agg #[.int .i64 x0, .int .i64 y0, .int .i64 x1, .int .i64 y1]] w fun e w' => e = .returned (.bool (Rt.small x0 y0 x1 y1)) ∧ Kp w.heap.size w w' := by
  go_enter Try.func25, Try.ntmps25
  go_wp2_with (go_at_call 24; refine (within_any (-1048576) 1048576 [x0, y0, x1, y1] 4 _ _ rfl (by decide) (fun j v hj => (Rc.new _ [.int .i64 x0, .int .i64 y0, .int .i64 x1, .int .i64 y1] _ (by simp)).cell j hj)).mono ?_; rintro e w' ⟨rfl, rfl⟩)
  go_ret
  exact ⟨rfl, (Kp.new _ _ _).next (Kp.new _ _ _)⟩

set_option linter.unusedSimpArgs false in
set_option maxHeartbeats 1000000 in
theorem rsmall_any (x0 y0 x1 y1 : Int) (w : World) :
    Calls Try.prog 18 #[.agg #[.int .i64 x0, .int .i64 y0, .int .i64 x1, .int .i64 y1]] w fun e w' => e = .returned (.bool (Rt.small x0 y0 x1 y1)) ∧ Kp w.heap.size w w' := by
  cases h1 : decide (-1048576 ≤ x0)
  · skip
    go_enter Try.func18, Try.ntmps18
    go_wp2_with go_skip
    go_ret
    exact ⟨ret_bool (by simp [Rt.small, Rt.wi, h1]), Kp.new _ _ _⟩
  cases h2 : decide (x0 ≤ 1048576)
  · skip
    go_enter Try.func18, Try.ntmps18
    go_wp2_with go_skip
    go_ret
    exact ⟨ret_bool (by simp [Rt.small, Rt.wi, h1, h2]), Kp.new _ _ _⟩
  cases h3 : decide (-1048576 ≤ y0)
  · skip
    go_enter Try.func18, Try.ntmps18
    go_wp2_with go_skip
    go_ret
    exact ⟨ret_bool (by simp [Rt.small, Rt.wi, h1, h2, h3]), Kp.new _ _ _⟩
  cases h4 : decide (y0 ≤ 1048576)
  · skip
    go_enter Try.func18, Try.ntmps18
    go_wp2_with go_skip
    go_ret
    exact ⟨ret_bool (by simp [Rt.small, Rt.wi, h1, h2, h3, h4]), Kp.new _ _ _⟩
  cases h5 : decide (-1048576 ≤ x1)
  · skip
    go_enter Try.func18, Try.ntmps18
    go_wp2_with go_skip
    go_ret
    exact ⟨ret_bool (by simp [Rt.small, Rt.wi, h1, h2, h3, h4, h5]), Kp.new _ _ _⟩
  cases h6 : decide (x1 ≤ 1048576)
  · skip
    go_enter Try.func18, Try.ntmps18
    go_wp2_with go_skip
    go_ret
    exact ⟨ret_bool (by simp [Rt.small, Rt.wi, h1, h2, h3, h4, h5, h6]), Kp.new _ _ _⟩
  cases h7 : decide (-1048576 ≤ y1)
  · skip
    go_enter Try.func18, Try.ntmps18
    go_wp2_with go_skip
    go_ret
    exact ⟨ret_bool (by simp [Rt.small, Rt.wi, h1, h2, h3, h4, h5, h6, h7]), Kp.new _ _ _⟩
  · skip
    go_enter Try.func18, Try.ntmps18
    go_wp2_with go_skip
    go_ret
    exact ⟨ret_bool (by simp [Rt.small, Rt.wi, h1, h2, h3, h4, h5, h6, h7]), Kp.new _ _ _⟩
end Go.Proofs.Ytfgeamidgaekjaa
