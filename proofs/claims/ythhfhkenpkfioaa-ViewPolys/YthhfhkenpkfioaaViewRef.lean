/-
  Contracts of the document's own answers for layer 16 (view): Is, May; spots held against each other.
-/
import Derived.Test.YthhfhkenpkfioaaViewCode
import Derived.BigGuard
namespace Go.Proofs.Ythhfhkenpkfioaa
open Go.RowKit

set_option maxHeartbeats 1000000 in
theorem ris16_any (x y z u : Int) (w : World) :
    Calls Try.prog 8 #[.agg #[.int .i64 x, .int .i64 y, .int .i64 z, .int .i64 u]] w fun e w' => e = .returned (.bool (Vw.is x y z u)) ∧ Kp w.heap.size w w' := by
  have HR : Hid (((-4096 ≤ x ∧ x ≤ 4096) ∧ (-4096 ≤ y ∧ y ≤ 4096) ∧ (x ≤ z ∧ z ≤ x + 4096) ∧ (y ≤ u ∧ u ≤ y + 4096) → Vw.is x y z u = true) ∧ (¬ ((-4096 ≤ x ∧ x ≤ 4096) ∧ (-4096 ≤ y ∧ y ≤ 4096) ∧ (x ≤ z ∧ z ≤ x + 4096) ∧ (y ≤ u ∧ u ≤ y + 4096)) → Vw.is x y z u = false)) :=
    Lib.hid ⟨Vw.is_iff.2, fun h => by rw [← Bool.not_eq_true, Vw.is_iff]; exact h⟩
  generalize Vw.is x y z u = r at *
  by_cases h0 : x < -4096
  · have q0 : decide (x < -4096) = true := decide_eq_true h0
    obtain rfl : r = false := HR.out.2 (by omega)
    clear HR h0
    go_enter Try.func8, Try.ntmps8
    go_wp2_with go_big_skip
    go_ret
    exact ⟨rfl, Kp.new _ _ _⟩
  have q0 : decide (x < -4096) = false := decide_eq_false h0
  have b0 : -4096 ≤ x := by omega
  by_cases h1 : 4096 < x
  · have q1 : decide (4096 < x) = true := decide_eq_true h1
    obtain rfl : r = false := HR.out.2 (by omega)
    clear HR h0 h1
    go_enter Try.func8, Try.ntmps8
    go_wp2_with go_big_skip
    go_ret
    exact ⟨rfl, Kp.new _ _ _⟩
  have q1 : decide (4096 < x) = false := decide_eq_false h1
  have b1 : x ≤ 4096 := by omega
  by_cases h2 : y < -4096
  · have q2 : decide (y < -4096) = true := decide_eq_true h2
    obtain rfl : r = false := HR.out.2 (by omega)
    clear HR h0 h1 h2
    go_enter Try.func8, Try.ntmps8
    go_wp2_with go_big_skip
    go_ret
    exact ⟨rfl, Kp.new _ _ _⟩
  have q2 : decide (y < -4096) = false := decide_eq_false h2
  have b2 : -4096 ≤ y := by omega
  by_cases h3 : 4096 < y
  · have q3 : decide (4096 < y) = true := decide_eq_true h3
    obtain rfl : r = false := HR.out.2 (by omega)
    clear HR h0 h1 h2 h3
    go_enter Try.func8, Try.ntmps8
    go_wp2_with go_big_skip
    go_ret
    exact ⟨rfl, Kp.new _ _ _⟩
  have q3 : decide (4096 < y) = false := decide_eq_false h3
  have b3 : y ≤ 4096 := by omega
  by_cases h4 : x ≤ z
  case neg =>
    have q4 : decide (x ≤ z) = false := decide_eq_false h4
    obtain rfl : r = false := HR.out.2 (by omega)
    clear HR h0 h1 h2 h3 h4
    go_enter Try.func8, Try.ntmps8
    go_wp2_with go_big_skip
    go_ret
    exact ⟨rfl, Kp.new _ _ _⟩
  have q4 : decide (x ≤ z) = true := decide_eq_true h4
  by_cases h5 : z ≤ x + 4096
  case neg =>
    have q5 : decide (z ≤ x + 4096) = false := decide_eq_false h5
    obtain rfl : r = false := HR.out.2 (by omega)
    clear HR h0 h1 h2 h3 h4 h5
    go_enter Try.func8, Try.ntmps8
    go_wp2_with go_big_skip
    go_ret
    exact ⟨rfl, Kp.new _ _ _⟩
  have q5 : decide (z ≤ x + 4096) = true := decide_eq_true h5
  by_cases h6 : y ≤ u
  case neg =>
    have q6 : decide (y ≤ u) = false := decide_eq_false h6
    obtain rfl : r = false := HR.out.2 (by omega)
    clear HR h0 h1 h2 h3 h4 h5 h6
    go_enter Try.func8, Try.ntmps8
    go_wp2_with go_big_skip
    go_ret
    exact ⟨rfl, Kp.new _ _ _⟩
  have q6 : decide (y ≤ u) = true := decide_eq_true h6
  by_cases h7 : u ≤ y + 4096
  case neg =>
    have q7 : decide (u ≤ y + 4096) = false := decide_eq_false h7
    obtain rfl : r = false := HR.out.2 (by omega)
    clear HR h0 h1 h2 h3 h4 h5 h6 h7
    go_enter Try.func8, Try.ntmps8
    go_wp2_with go_big_skip
    go_ret
    exact ⟨rfl, Kp.new _ _ _⟩
  have q7 : decide (u ≤ y + 4096) = true := decide_eq_true h7
  obtain rfl : r = true := HR.out.1 (by omega)
  clear HR h0 h1 h2 h3 h4 h5 h6 h7
  go_enter Try.func8, Try.ntmps8
  go_wp2_with go_big_skip
  go_ret
  exact ⟨rfl, Kp.new _ _ _⟩
theorem rmay16_any (c : Cn) (w : World) :
    Calls Try.prog 10 #[.agg #[.int .i64 (c 0), .int .i64 (c 1), .int .i64 (c 2), .int .i64 (c 3), .int .i64 (c 4), .int .i64 (c 5), .int .i64 (c 6), .int .i64 (c 7), .int .i64 (c 8), .int .i64 (c 9)]] w fun e w' => e = .returned (.bool (Vw.hasB c)) ∧ Kp w.heap.size w w' := by
  have M1 := fun W => rmay_any c W
  have HR : Hid (Vw.hasB c = (Cl.mayB c && decide (1 ≤ c 3))) := Lib.hid rfl
  generalize Vw.hasB c = r at *
  have HO : Hid (Ow w _ [(w.heap.size, [.int .i64 (c 0), .int .i64 (c 1), .int .i64 (c 2), .int .i64 (c 3), .int .i64 (c 4), .int .i64 (c 5), .int .i64 (c 6), .int .i64 (c 7), .int .i64 (c 8), .int .i64 (c 9)])]) := Lib.hid ((Ow.refl w).newAt w.heap.size rfl (.int .i64 (c 0)) [.int .i64 (c 1), .int .i64 (c 2), .int .i64 (c 3), .int .i64 (c 4), .int .i64 (c 5), .int .i64 (c 6), .int .i64 (c 7), .int .i64 (c 8), .int .i64 (c 9)] 26)
  cases hm : Cl.mayB c
  all_goals
    rw [hm] at M1
    go_enter Try.func10, Try.ntmps10
    go_wp2_with (first | go_big_skip | ((with_reducible show wpList _ _ _ ({ dst := _, op := Op.load 26 (Operand.tmp 1), type := _, pos := _, after := _, guard := _ } :: _) _ _); refine wpList_ldr ty_corner rfl _ rfl _ rfl _ rfl (HO.out.at 0 rfl) ?_) | (go_at_call 18; (with_reducible refine (M1 _).mono ?_); rintro e wz ⟨rfl, hk1⟩; have l2 := HO.out.call hk1; clear HO hk1; have HO := Lib.hid l2; clear l2; have cc := (HO.out.at 0 rfl).cell 3 rfl))
    go_ret
    exact ⟨ret_bool (by rw [HR.out, hm]; rfl), HO.out.k⟩

/-! ### spots held against each other -/
theorem run_eqPt (a b : Int) (w : World) : (Op.equalIn 9999 30 (.agg #[.int .i64 a, .int .i64 b]) (.agg #[.int .i64 a, .int .i64 b])).run Try.prog w = .ok (a == a && (b == b && true)) w := by
  rw [run_equalIn_struct w 9998 30 _ _ (by kernel_rfl) (by kernel_rfl)]
  simp only [Program.fieldsOf, Try.underlying30]
  exact eqStep (by decide) (eqInt8 _ _ rfl rfl) (eqStep (by decide) (eqInt8 _ _ rfl rfl) (by simp [Op.eqFields]))
theorem part_pt (s : Nat → Int) (w : World) : (part 30 #[.int .i64 (s 0), .int .i64 (s 1), .int .i64 (s 2), .int .i64 (s 3), .int .i64 (s 4), .int .i64 (s 5), .int .i64 (s 6), .int .i64 (s 7), .int .i64 (s 8)] 0).run Try.prog w = .ok (.agg #[.int .i64 (s 0), .int .i64 (s 1)]) w := by kernel_rfl
theorem part_six (s : Nat → Int) (w : World) : (part 24 #[.int .i64 (s 0), .int .i64 (s 1), .int .i64 (s 2), .int .i64 (s 3), .int .i64 (s 4), .int .i64 (s 5), .int .i64 (s 6), .int .i64 (s 7), .int .i64 (s 8)] 3).run Try.prog w = .ok (.agg #[.int .i64 (s 3), .int .i64 (s 4), .int .i64 (s 5), .int .i64 (s 6), .int .i64 (s 7), .int .i64 (s 8)]) w := by kernel_rfl
theorem run_eqS_same (s : Nat → Int) (w : World) : (Op.equalIn 10000 32 (.agg #[.int .i64 (s 0), .int .i64 (s 1), .int .i64 (s 2), .int .i64 (s 3), .int .i64 (s 4), .int .i64 (s 5), .int .i64 (s 6), .int .i64 (s 7), .int .i64 (s 8)]) (.agg #[.int .i64 (s 0), .int .i64 (s 1), .int .i64 (s 2), .int .i64 (s 3), .int .i64 (s 4), .int .i64 (s 5), .int .i64 (s 6), .int .i64 (s 7), .int .i64 (s 8)])).run Try.prog w = .ok true w := by
  rw [run_equalIn_struct w 9999 32 _ _ (by kernel_rfl) (by kernel_rfl)]
  simp only [Program.fieldsOf, Try.underlying32]
  have h3 := run_eqA (fun i => s (i - 1)) (fun i => s (i - 1)) w
  rw [show ((List.range 6).all fun i => (fun i => s (i - 1)) (4 + i) == (fun i => s (i - 1)) (4 + i)) = true by simp] at h3
  exact eqStep (r := true) (s := true) (by decide) ⟨_, _, part_pt s w, part_pt s w, (run_eqPt _ _ w).trans (by simp)⟩ (eqStep (r := true) (s := true) (by decide) (by have := eqInt (s 2) (s 2) (w := w) (xs := #[.int .i64 (s 0), .int .i64 (s 1), .int .i64 (s 2), .int .i64 (s 3), .int .i64 (s 4), .int .i64 (s 5), .int .i64 (s 6), .int .i64 (s 7), .int .i64 (s 8)]) (ys := #[.int .i64 (s 0), .int .i64 (s 1), .int .i64 (s 2), .int .i64 (s 3), .int .i64 (s 4), .int .i64 (s 5), .int .i64 (s 6), .int .i64 (s 7), .int .i64 (s 8)]) (o := 2) rfl rfl; rwa [beq_self_eq_true] at this) (eqStep (r := true) (s := true) (by decide) ⟨_, _, part_six s w, part_six s w, h3⟩ (by simp [Op.eqFields])))
end Go.Proofs.Ythhfhkenpkfioaa
