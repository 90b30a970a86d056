/-
  Contracts of layer 7 (blend): quotients by 255, cut downwards; the equations that are made for a kind.
-/
import Derived.Test.YtankjlpanmmogaaGreatJEdgeWalks
import Derived.Test.YtankjlpanmmogaaGreatJViewIs
namespace Go.Proofs.YtankjlpanmmogaaGreat
set_option maxRecDepth 100000
open Go.RowKit

theorem wraps_no (n : Int) (w : World) (h : -9223372036854775808 < n) :
    Calls Tryz.prog 143 #[.int .i64 n, .int .i64 255] w fun e w' => e = .returned (.bool false) ∧ w = w' := by
  have hd : (n == -9223372036854775808) = false := by simpa using (by omega : n ≠ -9223372036854775808)
  go_enter Tryz.func143, Tryz.ntmps143
  go_wp2
  go_ret
  exact ⟨rfl, rfl⟩
/-- cut off, and cut downwards -/
theorem cut_up {n : Int} (h : n ≤ 0) : n.tdiv 255 = -((-n) / 255) ∧ n.tmod 255 = -((-n) % 255) := by
  have h1 : n.tdiv 255 = -((-n) / 255) := by
    have := Int.neg_tdiv (-n) 255
    rw [Int.neg_neg, Int.tdiv_eq_ediv_of_nonneg (a := -n) (by omega)] at this; exact this
  refine ⟨h1, ?_⟩
  have h2 := Int.tmod_add_mul_tdiv n 255
  rw [h1] at h2; omega
theorem cut_off {n : Int} (h : n < 0) (hm : n.tmod 255 ≠ 0) : n.tdiv 255 - 1 = n / 255 := by
  have := cut_up (n := n) (by omega); omega
theorem cut_whole {n : Int} (h : n < 0) (hm : n.tmod 255 = 0) : n.tdiv 255 = n / 255 := by
  have := cut_up (n := n) (by omega); omega
theorem cut_bd {n : Int} (h : n < 0) (h1 : -1000000 ≤ n) : (-1000000 ≤ n.tdiv 255 ∧ n.tdiv 255 ≤ 0) ∧ (-255 ≤ n - n.tdiv 255 * 255 ∧ n - n.tdiv 255 * 255 ≤ 0) ∧ (n - n.tdiv 255 * 255 < 0 → n.tdiv 255 - 1 = n / 255) ∧ (¬ n - n.tdiv 255 * 255 < 0 → n.tdiv 255 = n / 255) := by
  have := cut_up (n := n) (by omega)
  refine ⟨?_, ?_, ?_, ?_⟩ <;> omega
theorem tup2 {a b : Int} {v : Value} (h : a = b) : Ending.returned (.tuple #[.int .i64 a, v]) = .returned (.tuple #[.int .i64 b, v]) := by rw [h]
set_option maxHeartbeats 1000000 in
theorem floor_255 (n : Int) (w : World) (h1 : -1000000 ≤ n) (h2 : n ≤ 1000000) :
    Calls Tryz.prog 120 #[.int .i64 n, .int .i64 255] w fun e w' => e = .returned (.tuple #[.int .i64 (n / 255), .int .i64 0]) ∧ w = w' := by
  by_cases hn : 0 ≤ n
  · have hd : decide (n < 0) = false := decide_eq_false (by omega)
    have ht1 : 0 ≤ n / 255 := by omega
    have ht2 : n / 255 ≤ 1000000 := by omega
    rcases hm : (n % 255 != 0) with _ | _
    all_goals
      go_enter Tryz.func120, Tryz.ntmps120
      go_wp2_with ((go_at_call 143; refine (wraps_no n _ (by omega)).mono ?_; rintro e w' ⟨rfl, rfl⟩))
      go_ret2
      exact ⟨rfl, rfl⟩
  · have hd : decide (n < 0) = true := decide_eq_true (by omega)
    obtain ⟨⟨ht1, ht2⟩, _⟩ := cut_bd (n := n) (by omega) h1
    rcases hm : (n.tmod 255 != 0) with _ | _
    · have HQ := Lib.hid (cut_whole (n := n) (by omega) (by simpa using hm))
      go_enter Tryz.func120, Tryz.ntmps120
      go_wp2_with ((go_at_call 143; refine (wraps_no n _ (by omega)).mono ?_; rintro e w' ⟨rfl, rfl⟩))
      go_ret2
      exact ⟨tup2 HQ.out, rfl⟩
    · have HQ := Lib.hid (cut_off (n := n) (by omega) (by simpa using hm))
      go_enter Tryz.func120, Tryz.ntmps120
      go_wp2_with ((go_at_call 143; refine (wraps_no n _ (by omega)).mono ?_; rintro e w' ⟨rfl, rfl⟩))
      go_ret2
      exact ⟨tup2 HQ.out, rfl⟩
theorem nearest_any (n : Int) (w : World) (h1 : -500000 ≤ n) (h2 : n ≤ 500000) :
    Calls Tryz.prog 146 #[.int .i64 n] w fun e w' => e = .returned (.int .i64 ((n + 127) / 255)) ∧ w = w' := by
  go_enter Tryz.func146, Tryz.ntmps146
  go_wp2_with ((go_at_call 120; refine (floor_255 (n + 127) _ (by omega) (by omega)).mono ?_; rintro e w' ⟨rfl, rfl⟩))
  go_ret
  exact ⟨rfl, rfl⟩
set_option maxHeartbeats 1000000 in
theorem rfloor_255 (n : Int) (w : World) (h1 : -1000000 ≤ n) (h2 : n ≤ 1000000) :
    Calls Tryz.prog 60 #[.int .i64 n, .int .i64 255] w fun e w' => e = .returned (.int .i64 (n / 255)) ∧ w = w' := by
  have hw : (n == -9223372036854775808) = false := by simpa using (by omega : n ≠ -9223372036854775808)
  by_cases hn : 0 ≤ n
  · have ht1 : 0 ≤ n / 255 := by omega
    have ht2 : n / 255 ≤ 1000000 := by omega
    have hz1 : 0 ≤ n - n / 255 * 255 := by omega
    have hz2 : n - n / 255 * 255 ≤ 254 := by omega
    have hd : decide (n - n / 255 * 255 < 0) = false := decide_eq_false (by omega)
    go_enter Tryz.func60, Tryz.ntmps60
    go_wp2
    all_goals
      go_ret
      exact ⟨rfl, rfl⟩
  · obtain ⟨⟨ht1, ht2⟩, ⟨hz1, hz2⟩, hy1, hy2⟩ := cut_bd (n := n) (by omega) h1
    have HY1 := Lib.hid hy1
    have HY2 := Lib.hid hy2
    clear hy1 hy2
    by_cases hm : n - n.tdiv 255 * 255 < 0
    · have hd : decide (n - n.tdiv 255 * 255 < 0) = true := decide_eq_true hm
      have HQ := Lib.hid (HY1.out hm)
      go_enter Tryz.func60, Tryz.ntmps60
      go_wp2
      all_goals
        go_ret
        exact ⟨ret_int HQ.out, rfl⟩
    · have hd : decide (n - n.tdiv 255 * 255 < 0) = false := decide_eq_false hm
      have HQ := Lib.hid (HY2.out hm)
      go_enter Tryz.func60, Tryz.ntmps60
      go_wp2
      all_goals
        go_ret
        exact ⟨ret_int HQ.out, rfl⟩

/-- a sum of two products, each added or taken off -/
theorem Bn.sum_bd {p q x y f g : Int} (hp : p = 1 ∨ p = -1) (hq : q = 1 ∨ q = -1) (hx : 0 ≤ x ∧ x ≤ 255) (hy : 0 ≤ y ∧ y ≤ 255) (hf : 0 ≤ f ∧ f ≤ 255) (hg : 0 ≤ g ∧ g ≤ 255) :
    (-255 ≤ p * x ∧ p * x ≤ 255) ∧ (-65025 ≤ p * x * f ∧ p * x * f ≤ 65025) ∧ (-255 ≤ q * y ∧ q * y ≤ 255) ∧ (-65025 ≤ q * y * g ∧ q * y * g ≤ 65025) := by
  have h1 := Bn.prod_bd hx hf
  have h2 := Bn.prod_bd hy hg
  rcases hp with rfl | rfl <;> rcases hq with rfl | rfl <;> simp only [Int.neg_mul, Int.one_mul] <;> omega
set_option maxHeartbeats 1000000 in
theorem weighed1_any (p q x y f g : Int) (bp bq : Nat) (w : World) (hP : Rc w bp [.int .i64 p]) (hQ : Rc w bq [.int .i64 q]) (hp : p = 1 ∨ p = -1) (hq : q = 1 ∨ q = -1)
    (hx : 0 ≤ x ∧ x ≤ 255) (hy : 0 ≤ y ∧ y ≤ 255) (hf : 0 ≤ f ∧ f ≤ 255) (hg : 0 ≤ g ∧ g ≤ 255) :
    Calls Tryz.prog 145 #[.agg #[.int .i64 x, .int .i64 y], .agg #[.int .i64 f, .int .i64 g], .pointer (some ⟨bp, 0, none⟩), .pointer (some ⟨bq, 0, none⟩)] w fun e w' => e = .returned (.int .i64 (Bn.near (Bn.sum p q x y f g))) ∧ Kp w.heap.size w w' := by
  obtain ⟨⟨a1, a2⟩, ⟨a3, a4⟩, ⟨a5, a6⟩, a7, a8⟩ := Bn.sum_bd hp hq hx hy hf hg
  have kk := (Kp.new w #[.int .i64 x, .int .i64 y] 150).next (Kp.new _ #[.int .i64 f, .int .i64 g] 150)
  have cp := (hP.kp kk (hP.lt (by simp))).cell 0 rfl
  have cq := (hQ.kp kk (hQ.lt (by simp))).cell 0 rfl
  have KK := Lib.hid kk
  clear kk hP hQ hp hq
  go_enter Tryz.func145, Tryz.ntmps145
  go_wp2_with (first
    | (go_at_call 146; refine (nearest_any _ _ (by omega) (by omega)).mono ?_; rintro e w' ⟨rfl, rfl⟩)
    | (go_at_call 49; refine (tsat_any _ _ _ _).mono ?_; rintro e w' ⟨rfl, rfl⟩))
  go_ret
  exact ⟨rfl, KK.out⟩
/-- the equation of both channels times their factors is a function with two numbers of its own -/
theorem weighed_any (p q : Int) (w : World) :
    Calls Tryz.prog 129 #[.int .i64 p, .int .i64 q] w fun e w' => ∃ bp bq : Nat, e = .returned (.func (Fn.func 145) #[] #[.pointer (some ⟨bp, 0, none⟩), .pointer (some ⟨bq, 0, none⟩)]) ∧ Ow w w' [(bq, [.int .i64 q]), (bp, [.int .i64 p])] := by
  have HO := Lib.hid (((Ow.refl w).newAt w.heap.size rfl (.int .i64 p) [] 3).newAt (w.heap.size + 1) (by simp) (.int .i64 q) [] 3)
  go_enter Tryz.func129, Tryz.ntmps129
  go_wp2
  go_ret
  exact ⟨_, _, rfl, HO.out⟩
theorem equation_sum (e : Int) (w : World) (h : Bn.am 5 e = true) (h3 : e ≠ 3) (h4 : e ≠ 4) :
    Calls Tryz.prog 109 #[.int .i64 e] w fun o w' => ∃ bp bq : Nat, o = .returned (.func (Fn.func 145) #[] #[.pointer (some ⟨bp, 0, none⟩), .pointer (some ⟨bq, 0, none⟩)]) ∧ Ow w w' [(bq, [.int .i64 (if e = 1 then -1 else 1)]), (bp, [.int .i64 (if e = 2 then -1 else 1)])] := by
  have h5 := Bn.am_iff.1 h
  obtain rfl | rfl | rfl : e = 0 ∨ e = 1 ∨ e = 2 := by omega
  all_goals
    clear h h3 h4 h5
    go_enter Tryz.func109, Tryz.ntmps109
    go_wp2_with (go_at_call 129; refine (weighed_any _ _ _).mono ?_; rintro e w' ⟨bp, bq, rfl, ho⟩; have HO := Lib.hid ho; clear ho)
    go_ret
    exact ⟨_, _, rfl, HO.out⟩
theorem equation_least (w : World) :
    Calls Tryz.prog 109 #[.int .i64 3] w fun o w' => o = .returned (.func (Fn.func 130) #[] #[]) ∧ Kp w.heap.size w w' := by
  go_enter Tryz.func109, Tryz.ntmps109
  go_wp2
  go_ret
  exact ⟨rfl, Kp.refl _ _⟩
theorem equation_most (w : World) :
    Calls Tryz.prog 109 #[.int .i64 4] w fun o w' => o = .returned (.func (Fn.func 131) #[] #[]) ∧ Kp w.heap.size w w' := by
  go_enter Tryz.func109, Tryz.ntmps109
  go_wp2
  go_ret
  exact ⟨rfl, Kp.refl _ _⟩
end Go.Proofs.YtankjlpanmmogaaGreat
