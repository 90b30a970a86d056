/-
  Two rows of digits held against each other.
-/
import Derived.Test.YtfhlnldiljldcaaRefWalks3
import Derived.ChangeKeysEq
namespace Go.Proofs.Ytfhlnldiljldcaa
open Go.RowKit

theorem eqItems_run (xs ys : Array Value) (f g : Nat → Int) (w : World) : ∀ is : List Nat, (∀ i, i ∈ is → xs[i]? = some (.int .i64 (f i)) ∧ ys[i]? = some (.int .i64 (g i))) →
    (Op.eqItems 9999 3 1 xs ys is).run Try.prog w = .ok (is.all fun i => f i == g i) w
  | [], _ => by simp [Op.eqItems]
  | i :: is, h => by
    obtain ⟨h1, h2⟩ := h i (by simp)
    have ih := eqItems_run xs ys f g w is (fun k hk => h k (by simp [hk]))
    have p1 : (part 3 xs (i * 1)).run Try.prog w = .ok (.int .i64 (f i)) w := run_part_plain w (by kernel_rfl) (by rw [Nat.mul_one]; exact h1)
    have p2 : (part 3 ys (i * 1)).run Try.prog w = .ok (.int .i64 (g i)) w := run_part_plain w (by kernel_rfl) (by rw [Nat.mul_one]; exact h2)
    have p3 : (Op.equalIn 9999 3 (.int .i64 (f i)) (.int .i64 (g i))).run Try.prog w = .ok (f i == g i) w := run_equalIn_int w 9998 _ _ _ _ _ Try.underlying3
    simp only [Op.eqItems, Sem.run_bind, p1, p2, p3, Result.andThen_ok, List.all_cons]
    cases hb : (f i == g i)
    · simp
    · simpa using ih

theorem run_eq8 (f g : Nat → Int) (w : World) :
    (Op.equalIn 10000 62 (.agg #[.int .i64 (f 0), .int .i64 (f 1), .int .i64 (f 2), .int .i64 (f 3), .int .i64 (f 4), .int .i64 (f 5), .int .i64 (f 6), .int .i64 (f 7)])
      (.agg #[.int .i64 (g 0), .int .i64 (g 1), .int .i64 (g 2), .int .i64 (g 3), .int .i64 (g 4), .int .i64 (g 5), .int .i64 (g 6), .int .i64 (g 7)])).run Try.prog w = .ok ((List.range 8).all fun i => f i == g i) w := by
  have hi : ∃ i, Try.prog.info? 3 = some i := Option.isSome_iff_exists.1 (by kernel_rfl)
  obtain ⟨i, hi⟩ := hi
  rw [run_equalIn_array w 9999 _ _ Try.underlying62 hi]
  have hc : Try.prog.cellsOf 3 = 1 := by kernel_rfl
  rw [hc]
  apply eqItems_run
  intro j hj
  have : j < 8 := List.mem_range.1 hj
  rcases j with _ | _ | _ | _ | _ | _ | _ | _ | j
  all_goals first | omega | exact ⟨rfl, rfl⟩

/-- the same digits: the same number modulo 2^128 -/
def Wd.eqD (x y : Int) : Bool := decide (x % 340282366920938463463374607431768211456 = y % 340282366920938463463374607431768211456)
theorem Wd.all_dg (x y : Int) : ((List.range 8).all fun i => Wd.dg x i == Wd.dg y i) = Wd.eqD x y := by
  rw [Bool.eq_iff_iff]
  unfold Wd.eqD
  simp only [List.all_eq_true, List.mem_range, beq_iff_eq, decide_eq_true_eq]
  constructor
  · intro h
    have h0 := h 0 (by omega); have h1 := h 1 (by omega); have h2 := h 2 (by omega); have h3 := h 3 (by omega)
    have h4 := h 4 (by omega); have h5 := h 5 (by omega); have h6 := h 6 (by omega); have h7 := h 7 (by omega)
    unfold Wd.dg at h0 h1 h2 h3 h4 h5 h6 h7
    simp only [Int.pow_succ, Int.pow_zero] at h0 h1 h2 h3 h4 h5 h6 h7
    omega
  · intro h j hj
    unfold Wd.dg
    rcases j with _ | _ | _ | _ | _ | _ | _ | _ | j
    all_goals first | omega | (simp only [Int.pow_succ, Int.pow_zero, Nat.reduceAdd]; omega)
theorem Wd.eqD_refl (x : Int) : Wd.eqD x x = true := by simp [Wd.eqD]
theorem Wd.dg_zero (i : Nat) : Wd.dg 0 i = 0 := by simp [Wd.dg]

theorem run_eqD (x y : Int) (w : World) : (Op.equalIn 10000 62 (.agg #[.int .i64 (Wd.dg (x) 0), .int .i64 (Wd.dg (x) 1), .int .i64 (Wd.dg (x) 2), .int .i64 (Wd.dg (x) 3), .int .i64 (Wd.dg (x) 4), .int .i64 (Wd.dg (x) 5), .int .i64 (Wd.dg (x) 6), .int .i64 (Wd.dg (x) 7)]) (.agg #[.int .i64 (Wd.dg (y) 0), .int .i64 (Wd.dg (y) 1), .int .i64 (Wd.dg (y) 2), .int .i64 (Wd.dg (y) 3), .int .i64 (Wd.dg (y) 4), .int .i64 (Wd.dg (y) 5), .int .i64 (Wd.dg (y) 6), .int .i64 (Wd.dg (y) 7)])).run Try.prog w = .ok (Wd.eqD x y) w := by
  rw [← Wd.all_dg]; exact run_eq8 (Wd.dg x) (Wd.dg y) w
theorem run_eqD_same (x : Int) (w : World) : (Op.equalIn 10000 62 (.agg #[.int .i64 (Wd.dg (x) 0), .int .i64 (Wd.dg (x) 1), .int .i64 (Wd.dg (x) 2), .int .i64 (Wd.dg (x) 3), .int .i64 (Wd.dg (x) 4), .int .i64 (Wd.dg (x) 5), .int .i64 (Wd.dg (x) 6), .int .i64 (Wd.dg (x) 7)]) (.agg #[.int .i64 (Wd.dg (x) 0), .int .i64 (Wd.dg (x) 1), .int .i64 (Wd.dg (x) 2), .int .i64 (Wd.dg (x) 3), .int .i64 (Wd.dg (x) 4), .int .i64 (Wd.dg (x) 5), .int .i64 (Wd.dg (x) 6), .int .i64 (Wd.dg (x) 7)])).run Try.prog w = .ok true w := by
  rw [run_eqD, Wd.eqD_refl]
theorem run_eqD_zero (x : Int) (w : World) : (Op.equalIn 10000 62 (.agg #[.int .i64 (Wd.dg (x) 0), .int .i64 (Wd.dg (x) 1), .int .i64 (Wd.dg (x) 2), .int .i64 (Wd.dg (x) 3), .int .i64 (Wd.dg (x) 4), .int .i64 (Wd.dg (x) 5), .int .i64 (Wd.dg (x) 6), .int .i64 (Wd.dg (x) 7)]) (.agg #[.int .i64 0, .int .i64 0, .int .i64 0, .int .i64 0, .int .i64 0, .int .i64 0, .int .i64 0, .int .i64 0])).run Try.prog w = .ok (Wd.eqD x 0) w := by
  have := run_eqD x 0 w
  simpa only [Wd.dg_zero] using this
end Go.Proofs.Ytfhlnldiljldcaa
