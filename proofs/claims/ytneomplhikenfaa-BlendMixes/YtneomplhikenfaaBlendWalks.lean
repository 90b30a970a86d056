/-
  Contracts of layer 7 (blend), the small functions: what they return, for every input; what stood in memory stands.
-/
import Derived.Test.YtneomplhikenfaaTintWalks3
import Derived.Test.YtneomplhikenfaaBlendPlain
namespace Go.Proofs.Ytneomplhikenfaa
open Go.RowKit

theorem ty_blend : Ty 23 4 := ⟨by kernel_rfl, _, Try.underlying23, rfl⟩

theorem among_any (c n : Int) (w : World) :
    Calls Try.prog 19 #[.int .i64 c, .int .i64 n] w fun e w' => e = .returned (.bool (Bn.am c n)) ∧ w = w' := by
  by_cases h : 0 ≤ n
  · go_enter Try.func19, Try.ntmps19
    go_wp2
    go_ret
    exact ⟨ret_bool (by simp [Bn.am, h]), rfl⟩
  · have hd : decide (0 ≤ n) = false := decide_eq_false h
    go_enter Try.func19, Try.ntmps19
    go_wp2
    go_ret
    exact ⟨ret_bool (by simp [Bn.am]; omega), rfl⟩
set_option maxHeartbeats 1000000 in
theorem check_any (s d e m : Int) (w : World) :
    Calls Try.prog 8 #[.agg #[.int .i64 s, .int .i64 d, .int .i64 e, .int .i64 m]] w fun o w' => o = .returned (.int .i64 (Bn.chk s d e m)) ∧ Kp w.heap.size w w' := by
  cases h0 : Bn.am 10 s
  · go_enter Try.func8, Try.ntmps8
    go_wp2_with (first | go_skip | (go_at_call 19; refine (among_any _ _ _).mono ?_; rintro e w' ⟨rfl, rfl⟩))
    go_ret
    exact ⟨ret_int (by simp [Bn.chk, h0]), Kp.new _ _ _⟩
  cases h1 : Bn.am 10 d
  · go_enter Try.func8, Try.ntmps8
    go_wp2_with (first | go_skip | (go_at_call 19; refine (among_any _ _ _).mono ?_; rintro e w' ⟨rfl, rfl⟩))
    go_ret
    exact ⟨ret_int (by simp [Bn.chk, h1]), Kp.new _ _ _⟩
  cases h2 : Bn.am 5 e
  · go_enter Try.func8, Try.ntmps8
    go_wp2_with (first | go_skip | (go_at_call 19; refine (among_any _ _ _).mono ?_; rintro e w' ⟨rfl, rfl⟩))
    go_ret
    exact ⟨ret_int (by simp [Bn.chk, h2]), Kp.new _ _ _⟩
  cases h3 : Bn.am 16 m
  · go_enter Try.func8, Try.ntmps8
    go_wp2_with (first | go_skip | (go_at_call 19; refine (among_any _ _ _).mono ?_; rintro e w' ⟨rfl, rfl⟩))
    go_ret
    exact ⟨ret_int (by simp [Bn.chk, h0, h1, h2, h3]), Kp.new _ _ _⟩
  · go_enter Try.func8, Try.ntmps8
    go_wp2_with (first | go_skip | (go_at_call 19; refine (among_any _ _ _).mono ?_; rintro e w' ⟨rfl, rfl⟩))
    go_ret
    exact ⟨ret_int (by simp [Bn.chk, h0, h1, h2, h3]), Kp.new _ _ _⟩

/-- a number that is not among so many is below 0, or beyond -/
theorem am_out {c n : Int} (h : Bn.am c n = false) : decide (n < 0) = true ∨ decide (n < 0) = false ∧ decide (c - 1 < n) = true := by
  have := Bn.am_no.1 h
  by_cases h1 : n < 0
  · exact .inl (decide_eq_true h1)
  · exact .inr ⟨decide_eq_false h1, decide_eq_true (by omega)⟩
theorem am_in {c n : Int} (h : Bn.am c n = true) : decide (n < 0) = false ∧ decide (c - 1 < n) = false := by
  have := Bn.am_iff.1 h
  exact ⟨decide_eq_false (by omega), decide_eq_false (by omega)⟩
set_option maxHeartbeats 2000000 in
theorem rcheck_any (s d e m : Int) (w : World) :
    Calls Try.prog 7 #[.agg #[.int .i64 s, .int .i64 d, .int .i64 e, .int .i64 m]] w fun o w' => o = .returned (.int .i64 (Bn.chk s d e m)) ∧ Kp w.heap.size w w' := by
  cases h0 : Bn.am 10 s
  · have hc : Bn.chk s d e m = 9 := by simp [Bn.chk, h0]
    have HC := Lib.hid hc
    rcases am_out h0 with p | ⟨p, q⟩
    all_goals
      try simp only [Int.reduceSub] at *
      clear hc
      go_enter Try.func7, Try.ntmps7
      go_wp2
      go_ret
      exact ⟨ret_int HC.out.symm, Kp.new _ _ _⟩
  obtain ⟨s1, s2⟩ := am_in h0
  cases h1 : Bn.am 10 d
  · have hc : Bn.chk s d e m = 9 := by simp [Bn.chk, h1]
    have HC := Lib.hid hc
    rcases am_out h1 with p | ⟨p, q⟩
    all_goals
      try simp only [Int.reduceSub] at *
      clear hc
      go_enter Try.func7, Try.ntmps7
      go_wp2
      go_ret
      exact ⟨ret_int HC.out.symm, Kp.new _ _ _⟩
  obtain ⟨d1, d2⟩ := am_in h1
  cases h2 : Bn.am 5 e
  · have hc : Bn.chk s d e m = 9 := by simp [Bn.chk, h2]
    have HC := Lib.hid hc
    rcases am_out h2 with p | ⟨p, q⟩
    all_goals
      try simp only [Int.reduceSub] at *
      clear hc
      go_enter Try.func7, Try.ntmps7
      go_wp2
      go_ret
      exact ⟨ret_int HC.out.symm, Kp.new _ _ _⟩
  obtain ⟨e1, e2⟩ := am_in h2
  cases h3 : Bn.am 16 m
  · have hc : Bn.chk s d e m = 3 := by simp [Bn.chk, h0, h1, h2, h3]
    have HC := Lib.hid hc
    rcases am_out h3 with p | ⟨p, q⟩
    all_goals
      try simp only [Int.reduceSub] at *
      clear hc
      go_enter Try.func7, Try.ntmps7
      go_wp2
      go_ret
      exact ⟨ret_int HC.out.symm, Kp.new _ _ _⟩
  · have hc : Bn.chk s d e m = 0 := by simp [Bn.chk, h0, h1, h2, h3]
    have HC := Lib.hid hc
    obtain ⟨p, q⟩ := am_in h3
    try simp only [Int.reduceSub] at *
    clear hc
    go_enter Try.func7, Try.ntmps7
    go_wp2
    go_ret
    exact ⟨ret_int HC.out.symm, Kp.new _ _ _⟩

theorem even_any (n : Int) (w : World) :
    Calls Try.prog 23 #[.int .i64 n] w fun o w' => o = .returned (.agg #[.int .i64 n, .int .i64 n, .int .i64 n, .int .i64 n]) ∧ Kp w.heap.size w w' := by
  go_enter Try.func23, Try.ntmps23
  go_wp2
  exact bodyPost_ret (results_c ty_color rfl rfl rfl (Rc.new w [.int .i64 _, .int .i64 _, .int .i64 _, .int .i64 _] _ rfl)) rfl ⟨rfl, Kp.new _ _ _⟩
theorem rest_any (r g b a : Int) (w : World) (h : Tn.right r g b a = true) :
    Calls Try.prog 24 #[.agg #[.int .i64 r, .int .i64 g, .int .i64 b, .int .i64 a]] w fun o w' => o = .returned (.agg #[.int .i64 (255 - r), .int .i64 (255 - g), .int .i64 (255 - b), .int .i64 (255 - a)]) ∧ Kp w.heap.size w w' := by
  obtain ⟨⟨h1, h2⟩, ⟨h3, h4⟩, ⟨h5, h6⟩, ⟨h7, h8⟩⟩ := Tn.right_iff.1 h
  clear h
  go_enter Try.func24, Try.ntmps24
  go_wp2
  exact bodyPost_ret (results_c ty_color rfl rfl rfl (Rc.new _ [.int .i64 _, .int .i64 _, .int .i64 _, .int .i64 _] _ (by simp))) rfl ⟨rfl, (Kp.new _ _ _).next (Kp.new _ _ _)⟩
theorem plain_any (w : World) :
    Calls Try.prog 14 #[] w fun o w' => o = .returned (.agg #[.int .i64 1, .int .i64 0, .int .i64 0, .int .i64 15]) ∧ Kp w.heap.size w w' := by
  go_enter Try.func14, Try.ntmps14
  go_wp2
  exact bodyPost_ret (results_c ty_blend rfl rfl rfl (Rc.new w [.int .i64 _, .int .i64 _, .int .i64 _, .int .i64 _] _ rfl)) rfl ⟨rfl, Kp.new _ _ _⟩

theorem rhigh_any (x y : Int) (w : World) :
    Calls Try.prog 29 #[.int .i64 x, .int .i64 y] w fun e w' => e = .returned (.int .i64 (Bn.high x y)) ∧ w = w' := by
  go_enter Try.func29, Try.ntmps29
  go_wp2
  all_goals
    go_ret
    exact ⟨ret_int (by unfold Bn.high; split <;> omega), rfl⟩
theorem least_any (x y f g : Int) (w : World) :
    Calls Try.prog 26 #[.agg #[.int .i64 x, .int .i64 y], .agg #[.int .i64 f, .int .i64 g]] w fun e w' => e = .returned (.int .i64 (Tn.low x y)) ∧ Kp w.heap.size w w' := by
  go_enter Try.func26, Try.ntmps26
  go_wp2
  all_goals
    go_ret
    exact ⟨ret_int (by unfold Tn.low; (repeat' split) <;> omega), (Kp.new _ _ _).next (Kp.new _ _ _)⟩
theorem most_any (x y f g : Int) (w : World) :
    Calls Try.prog 27 #[.agg #[.int .i64 x, .int .i64 y], .agg #[.int .i64 f, .int .i64 g]] w fun e w' => e = .returned (.int .i64 (Bn.high x y)) ∧ Kp w.heap.size w w' := by
  go_enter Try.func27, Try.ntmps27
  go_wp2
  all_goals
    go_ret
    exact ⟨ret_int (by unfold Bn.high; (repeat' split) <;> omega), (Kp.new _ _ _).next (Kp.new _ _ _)⟩
end Go.Proofs.Ytneomplhikenfaa
