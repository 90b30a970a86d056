/-
  Contracts of layer 11 (tile): the small functions, Count, At; the document's own.
-/
import Derived.Test.YtphgihijobnlhaaTilePlain
import Derived.BigGuard
namespace Go.Proofs.Ytphgihijobnlhaa
open Go.RowKit

theorem isSide_any (n : Int) (w : World) :
    Calls Try.prog 22 #[.int .i64 n] w fun e w' => e = .returned (.bool (Tl.side n)) ∧ w = w' := by
  cases h1 : decide (1 ≤ n)
  all_goals
    go_enter Try.func22, Try.ntmps22
    go_wp2_with go_skip
    go_ret
    exact ⟨ret_bool (by simp [Tl.side, h1]), rfl⟩
theorem begun_any (n : Int) (w : World) (h : 0 ≤ n) (h' : n ≤ 256) :
    Calls Try.prog 23 #[.int .i64 n] w fun e w' => e = .returned (.int .i64 (Tl.bg n)) ∧ w = w' := by
  have h2 : 0 ≤ n + 15 := by omega
  go_enter Try.func23, Try.ntmps23
  go_wp2
  go_ret
  exact ⟨ret_int (by unfold Tl.bg; first | omega | (rw [Int.tdiv_eq_ediv_of_nonneg (by omega)]; omega)), rfl⟩
theorem rcols_any (n : Int) (w : World) (h : 0 ≤ n) (h' : n ≤ 256) :
    Calls Try.prog 24 #[.int .i64 n] w fun e w' => e = .returned (.int .i64 (Tl.bg n)) ∧ w = w' := by
  have h2 : 0 ≤ n + 15 := by omega
  go_enter Try.func24, Try.ntmps24
  go_wp2
  go_ret
  exact ⟨ret_int (by unfold Tl.bg; first | omega | (rw [Int.tdiv_eq_ediv_of_nonneg (by omega)]; omega)), rfl⟩
theorem number_any (a c r : Int) (w : World) (h1 : 0 ≤ r * a) (h2 : r * a ≤ 256) (h3 : 0 ≤ c) (h4 : c ≤ 16) :
    Calls Try.prog 21 #[.int .i64 a, .int .i64 c, .int .i64 r] w fun e w' => e = .returned (.int .i64 (r * a + c)) ∧ w = w' := by
  go_enter Try.func21, Try.ntmps21
  go_wp2
  go_ret
  exact ⟨rfl, rfl⟩
theorem whole_any (n m : Int) (w : World) :
    Calls Try.prog 20 #[.int .i64 n, .int .i64 m] w fun e w' => e = .returned (.agg #[.int .i64 0, .int .i64 0, .int .i64 n, .int .i64 m]) ∧ Kp w.heap.size w w' := by
  have HO := Lib.hid ((Ow.refl w).newAt w.heap.size rfl (.int .i64 0) [.int .i64 0, .int .i64 0, .int .i64 0] 33)
  go_enter Try.func20, Try.ntmps20
  go_wp2_with ((with_reducible show wpList _ _ _ ({ dst := _, op := Op.store 33 _ _, type := _, pos := _, after := _, guard := _ } :: _) _ _); refine wpList_sto ty_rect HO.out 0 [.int .i64 0, .int .i64 0, .int .i64 n, .int .i64 m] rfl _ _ rfl _ rfl rfl _ rfl rfl rfl rfl ?_; intro w2 l2; clear HO; have HO := Lib.hid l2; clear l2)
  exact bodyPost_ret (results_c ty_rect rfl rfl rfl (HO.out.at 0 rfl)) rfl ⟨rfl, HO.out.k⟩
theorem ris_any (n m : Int) (w : World) :
    Calls Try.prog 8 #[.int .i64 n, .int .i64 m] w fun e w' => e = .returned (.bool (Tl.is n m)) ∧ w = w' := by
  cases h1 : decide (1 ≤ n) <;> cases h2 : decide (n ≤ 256) <;> cases h3 : decide (1 ≤ m)
  all_goals
    go_enter Try.func8, Try.ntmps8
    go_wp2_with go_big_skip
    go_ret
    exact ⟨ret_bool (by simp [Tl.is, Tl.side, h1, h2, h3]), rfl⟩
theorem rcount_any (n m : Int) (w : World) (h : Tl.is n m = true) :
    Calls Try.prog 10 #[.int .i64 n, .int .i64 m] w fun e w' => e = .returned (.int .i64 (Tl.bg n * Tl.bg m)) ∧ w = w' := by
  have h9 := Tl.is_iff.1 h
  obtain ⟨a1, a2⟩ := Tl.bg_le (n := n) (by omega) (by omega)
  obtain ⟨b1, b2⟩ := Tl.bg_le (n := m) (by omega) (by omega)
  obtain ⟨c1, c2⟩ := Tl.mul_le a1 a2 b1 b2
  have C1 := fun W => rcols_any n W (by omega) (by omega)
  have C2 := fun W => rcols_any m W (by omega) (by omega)
  clear h h9
  go_enter Try.func10, Try.ntmps10
  go_wp2_with (first
    | (go_at_call 24; (with_reducible refine (C1 _).mono ?_); rintro e w' ⟨rfl, rfl⟩)
    | (go_at_call 24; (with_reducible refine (C2 _).mono ?_); rintro e w' ⟨rfl, rfl⟩))
  go_ret
  exact ⟨rfl, rfl⟩
theorem rat_any (n x y : Int) (w : World) (h1 : 0 ≤ x) (h2 : x ≤ 255) (h3 : 0 ≤ y) (h4 : y ≤ 255) (h5 : 0 ≤ n) (h6 : n ≤ 256) :
    Calls Try.prog 13 #[.int .i64 n, .int .i64 x, .int .i64 y] w fun e w' => e = .returned (.int .i64 (y / 16 * Tl.bg n + x / 16)) ∧ w = w' := by
  obtain ⟨a1, a2⟩ := Tl.bg_le h5 h6
  obtain ⟨c1, c2⟩ := Tl.mul_le (a := y / 16) (by omega) (by omega) a1 a2
  have C1 := fun W => rcols_any n W h5 h6
  go_enter Try.func13, Try.ntmps13
  go_wp2_with (go_at_call 24; (with_reducible refine (C1 _).mono ?_); rintro e w' ⟨rfl, rfl⟩)
  go_ret
  exact ⟨rfl, rfl⟩

theorem count_no (n m : Int) (w : World) (h : Tl.is n m = false) :
    Calls Try.prog 7 #[.int .i64 n, .int .i64 m] w fun e w' => e = .returned (.tuple #[.int .i64 0, .int .i64 0, .int .i64 3]) ∧ w = w' := by
  cases h1 : Tl.side n
  · clear h
    go_enter Try.func7, Try.ntmps7
    go_wp2_with (first   | go_skip   | (go_at_call 22; (with_reducible refine (isSide_any n _).mono ?_); rintro e w' ⟨rfl, rfl⟩)   | (go_at_call 22; (with_reducible refine (isSide_any m _).mono ?_); rintro e w' ⟨rfl, rfl⟩)   | (go_at_call 23; (with_reducible refine (B1 _).mono ?_); rintro e w' ⟨rfl, rfl⟩)   | (go_at_call 23; (with_reducible refine (B2 _).mono ?_); rintro e w' ⟨rfl, rfl⟩))
    go_ret3
    exact ⟨rfl, rfl⟩
  · have h2 : Tl.side m = false := by rw [Tl.is, h1] at h; exact h
    clear h
    go_enter Try.func7, Try.ntmps7
    go_wp2_with (first   | go_skip   | (go_at_call 22; (with_reducible refine (isSide_any n _).mono ?_); rintro e w' ⟨rfl, rfl⟩)   | (go_at_call 22; (with_reducible refine (isSide_any m _).mono ?_); rintro e w' ⟨rfl, rfl⟩)   | (go_at_call 23; (with_reducible refine (B1 _).mono ?_); rintro e w' ⟨rfl, rfl⟩)   | (go_at_call 23; (with_reducible refine (B2 _).mono ?_); rintro e w' ⟨rfl, rfl⟩))
    go_ret3
    exact ⟨rfl, rfl⟩
theorem count_yes (n m : Int) (w : World) (h : Tl.is n m = true) :
    Calls Try.prog 7 #[.int .i64 n, .int .i64 m] w fun e w' => e = .returned (.tuple #[.int .i64 (Tl.bg n), .int .i64 (Tl.bg m), .int .i64 0]) ∧ w = w' := by
  obtain ⟨h1, h2⟩ : Tl.side n = true ∧ Tl.side m = true := by unfold Tl.is at h; simpa using h
  have h9 := Tl.is_iff.1 h
  have B1 := fun W => begun_any n W (by omega) (by omega)
  have B2 := fun W => begun_any m W (by omega) (by omega)
  clear h h9
  go_enter Try.func7, Try.ntmps7
  go_wp2_with (first   | go_skip   | (go_at_call 22; (with_reducible refine (isSide_any n _).mono ?_); rintro e w' ⟨rfl, rfl⟩)   | (go_at_call 22; (with_reducible refine (isSide_any m _).mono ?_); rintro e w' ⟨rfl, rfl⟩)   | (go_at_call 23; (with_reducible refine (B1 _).mono ?_); rintro e w' ⟨rfl, rfl⟩)   | (go_at_call 23; (with_reducible refine (B2 _).mono ?_); rintro e w' ⟨rfl, rfl⟩))
  go_ret3
  exact ⟨rfl, rfl⟩

theorem at_no1 (n m x y : Int) (w : World) (h : Tl.is n m = false) :
    Calls Try.prog 6 #[.int .i64 n, .int .i64 m, .int .i64 x, .int .i64 y] w fun e w' => e = .returned (.tuple #[.int .i64 0, .int .i64 3]) ∧ Kp w.heap.size w w' := by
  have C1 := fun W => count_no n m W h
  have HO := Lib.hid (Ow.refl w)
  clear h
  go_enter Try.func6, Try.ntmps6
  go_wp2_with (go_at_call 7; refine (C1 _).mono ?_; rintro e w' ⟨rfl, rfl⟩)
  go_ret2
  exact ⟨rfl, HO.out.k⟩
theorem at_no2 (n m x y : Int) (w : World) (h : Tl.is n m = true) (h1 : Rt.has 0 0 n m x y = false) :
    Calls Try.prog 6 #[.int .i64 n, .int .i64 m, .int .i64 x, .int .i64 y] w fun e w' => e = .returned (.tuple #[.int .i64 0, .int .i64 2]) ∧ Kp w.heap.size w w' := by
  have C1 := fun W => count_yes n m W h
  have HO := Lib.hid (Ow.refl w)
  clear h
  go_enter Try.func6, Try.ntmps6
  go_wp2_with (first
    | (go_at_call 7; refine (C1 _).mono ?_; rintro e w' ⟨rfl, rfl⟩)
    | (go_at_call 20; refine (whole_any n m _).mono ?_; rintro e w1 ⟨rfl, hk1⟩; have l2 := HO.out.call hk1; clear HO hk1; have HO := Lib.hid l2; clear l2)
    | (go_at_call 19; refine (has_any 0 0 n m x y _).mono ?_; rintro e w1 ⟨rfl, hk1⟩; have l2 := HO.out.call hk1; clear HO hk1; have HO := Lib.hid l2; clear l2))
  go_ret2
  exact ⟨rfl, HO.out.k⟩
theorem at_yes (n m x y : Int) (w : World) (h : Tl.is n m = true) (h1 : Rt.has 0 0 n m x y = true) :
    Calls Try.prog 6 #[.int .i64 n, .int .i64 m, .int .i64 x, .int .i64 y] w fun e w' => e = .returned (.tuple #[.int .i64 (y / 16 * Tl.bg n + x / 16), .int .i64 0]) ∧ Kp w.heap.size w w' := by
  have C1 := fun W => count_yes n m W h
  have h9 := Tl.is_iff.1 h
  have h8 := Rt.has_iff.1 h1
  obtain ⟨a1, a2⟩ := Tl.bg_le (n := n) (by omega) (by omega)
  obtain ⟨c1, c2⟩ := Tl.mul_le (a := y / 16) (by omega) (by omega) a1 a2
  have x0 : 0 ≤ x := by omega
  have x1 : x ≤ 255 := by omega
  have y0 : 0 ≤ y := by omega
  have y1 : y ≤ 255 := by omega
  have N1 := fun W => number_any (Tl.bg n) (x / 16) (y / 16) W c1 c2 (by omega) (by omega)
  have HO := Lib.hid (Ow.refl w)
  clear h h9 h8
  go_enter Try.func6, Try.ntmps6
  go_wp2_with (first   | (go_at_call 7; refine (C1 _).mono ?_; rintro e w' ⟨rfl, rfl⟩)   | (go_at_call 20; refine (whole_any n m _).mono ?_; rintro e w1 ⟨rfl, hk1⟩; have l2 := HO.out.call hk1; clear HO hk1; have HO := Lib.hid l2; clear l2)   | (go_at_call 19; refine (has_any 0 0 n m x y _).mono ?_; rintro e w1 ⟨rfl, hk1⟩; have l2 := HO.out.call hk1; clear HO hk1; have HO := Lib.hid l2; clear l2)   | (go_at_call 21; refine (N1 _).mono ?_; rintro e w' ⟨rfl, rfl⟩))
  go_ret2
  exact ⟨rfl, HO.out.k⟩
end Go.Proofs.Ytphgihijobnlhaa
