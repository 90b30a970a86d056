/-
  Contracts of the document's own answers for layer 15 (clip): Check, Same, Has; corners held against each other.
-/
import Derived.Test.YthhfhkenpkfioaaClipRef
import Derived.ChangeKeysEq
import Derived.Laws.StructEq
import Derived.BigGuard
namespace Go.Proofs.Ythhfhkenpkfioaa
open Go.RowKit

/-- may a polygon be? -/
def Cl.chk (l : List Cn) : Int := if 16 < l.length then 4 else if l.all Cl.mayB then 0 else 3
theorem Cl.chk_ok {l : List Cn} : Cl.chk l = 0 ↔ l.length ≤ 16 ∧ ∀ c ∈ l, Cl.May c := by
  unfold Cl.chk
  by_cases h : 16 < l.length
  · rw [if_pos h]; constructor
    · intro h2; cases h2
    · intro h2; omega
  · rw [if_neg h]
    cases hb : l.all Cl.mayB
    · refine ⟨fun h2 => (by cases h2), fun h2 => ?_⟩
      rw [← Bool.not_eq_true, List.all_eq_true] at hb
      exact absurd (fun c hc => Cl.may_iff.2 (h2.2 c hc)) hb
    · refine ⟨fun _ => ⟨by omega, fun c hc => Cl.may_iff.1 (List.all_eq_true.1 hb c hc)⟩, fun _ => rfl⟩
theorem Cl.all_take {l : List Cn} {k : Nat} (h : k < l.length) (f : Cn → Bool) : (l.take (k + 1)).all f = ((l.take k).all f && f l[k]) := by
  rw [List.take_succ_eq_append_getElem h, List.all_append]; simp
def msrL (n : Nat) (i : Value) : Nat := n - (intOf i).toNat

/-! ### corners held against each other -/
theorem eqCells (xs ys : Array Value) (f g : Nat → Int) (w : World) : ∀ is : List Nat, (∀ i, i ∈ is → xs[i]? = some (.int .i64 (f i)) ∧ ys[i]? = some (.int .i64 (g i))) →
    (Op.eqItems 9998 3 1 xs ys is).run Try.prog w = .ok (is.all fun i => f i == g i) w
  | [], _ => by simp [Op.eqItems]
  | i :: is, h => by
    obtain ⟨h1, h2⟩ := h i (by simp)
    have ih := eqCells xs ys f g w is (fun k hk => h k (by simp [hk]))
    have p1 : (part 3 xs (i * 1)).run Try.prog w = .ok (.int .i64 (f i)) w := run_part_plain w (by kernel_rfl) (by rw [Nat.mul_one]; exact h1)
    have p2 : (part 3 ys (i * 1)).run Try.prog w = .ok (.int .i64 (g i)) w := run_part_plain w (by kernel_rfl) (by rw [Nat.mul_one]; exact h2)
    have p3 : (Op.equalIn 9998 3 (.int .i64 (f i)) (.int .i64 (g i))).run Try.prog w = .ok (f i == g i) w := run_equalIn_int w 9997 _ _ _ _ _ Try.underlying3
    simp only [Op.eqItems, Sem.run_bind, p1, p2, p3, Result.andThen_ok, List.all_cons]
    cases hb : (f i == g i)
    · simp
    · simpa using ih
theorem eqInt8 (x y : Int) {w : World} {xs ys : Array Value} {o : Nat} (h1 : xs[o]? = some (.int .i64 x)) (h2 : ys[o]? = some (.int .i64 y)) :
    ∃ va vb, (part 3 xs o).run Try.prog w = .ok va w ∧ (part 3 ys o).run Try.prog w = .ok vb w ∧ (Op.equalIn 9998 3 va vb).run Try.prog w = .ok (x == y) w :=
  ⟨_, _, run_part_plain w (by kernel_rfl) h1, run_part_plain w (by kernel_rfl) h2, run_equalIn_int w 9997 _ _ _ _ _ Try.underlying3⟩
theorem run_eqV (a b : Cn) (w : World) : (Op.equalIn 9999 23 (.agg #[.int .i64 (a 0), .int .i64 (a 1), .int .i64 (a 2), .int .i64 (a 3)]) (.agg #[.int .i64 (b 0), .int .i64 (b 1), .int .i64 (b 2), .int .i64 (b 3)])).run Try.prog w = .ok (a 0 == b 0 && (a 1 == b 1 && (a 2 == b 2 && (a 3 == b 3 && true)))) w := by
  rw [run_equalIn_struct w 9998 23 _ _ (by kernel_rfl) (by kernel_rfl)]
  simp only [Program.fieldsOf, Try.underlying23]
  exact eqStep (by decide) (eqInt8 _ _ rfl rfl) (eqStep (by decide) (eqInt8 _ _ rfl rfl) (eqStep (by decide) (eqInt8 _ _ rfl rfl) (eqStep (by decide) (eqInt8 _ _ rfl rfl) (by simp [Op.eqFields]))))
theorem run_eqA (a b : Cn) (w : World) : (Op.equalIn 9999 24 (.agg #[.int .i64 (a 4), .int .i64 (a 5), .int .i64 (a 6), .int .i64 (a 7), .int .i64 (a 8), .int .i64 (a 9)]) (.agg #[.int .i64 (b 4), .int .i64 (b 5), .int .i64 (b 6), .int .i64 (b 7), .int .i64 (b 8), .int .i64 (b 9)])).run Try.prog w = .ok ((List.range 6).all fun i => a (4 + i) == b (4 + i)) w := by
  have hi : ∃ i, Try.prog.info? 3 = some i := Option.isSome_iff_exists.1 (by kernel_rfl)
  obtain ⟨i, hi⟩ := hi
  rw [run_equalIn_array w 9998 _ _ Try.underlying24 hi, show Try.prog.cellsOf 3 = 1 by kernel_rfl]
  apply eqCells
  intro j hj
  have : j < 6 := List.mem_range.1 hj
  rcases j with _ | _ | _ | _ | _ | _ | j
  all_goals first | omega | exact ⟨rfl, rfl⟩
theorem Cl.eq_split (a b : Cn) : Cl.eq a b = ((a 0 == b 0 && (a 1 == b 1 && (a 2 == b 2 && (a 3 == b 3 && true)))) && (((List.range 6).all fun i => a (4 + i) == b (4 + i)) && true)) := by
  simp [Cl.eq, show List.range 10 = [0, 1, 2, 3, 4, 5, 6, 7, 8, 9] from rfl, show List.range 6 = [0, 1, 2, 3, 4, 5] from rfl, Bool.and_assoc]
theorem part_vec (c : Cn) (w : World) : (part 23 #[.int .i64 (c 0), .int .i64 (c 1), .int .i64 (c 2), .int .i64 (c 3), .int .i64 (c 4), .int .i64 (c 5), .int .i64 (c 6), .int .i64 (c 7), .int .i64 (c 8), .int .i64 (c 9)] 0).run Try.prog w = .ok (.agg #[.int .i64 (c 0), .int .i64 (c 1), .int .i64 (c 2), .int .i64 (c 3)]) w := by kernel_rfl
theorem part_arr (c : Cn) (w : World) : (part 24 #[.int .i64 (c 0), .int .i64 (c 1), .int .i64 (c 2), .int .i64 (c 3), .int .i64 (c 4), .int .i64 (c 5), .int .i64 (c 6), .int .i64 (c 7), .int .i64 (c 8), .int .i64 (c 9)] 4).run Try.prog w = .ok (.agg #[.int .i64 (c 4), .int .i64 (c 5), .int .i64 (c 6), .int .i64 (c 7), .int .i64 (c 8), .int .i64 (c 9)]) w := by kernel_rfl
theorem run_eqN (a b : Cn) (w : World) : (Op.equalIn 10000 26 (.agg #[.int .i64 (a 0), .int .i64 (a 1), .int .i64 (a 2), .int .i64 (a 3), .int .i64 (a 4), .int .i64 (a 5), .int .i64 (a 6), .int .i64 (a 7), .int .i64 (a 8), .int .i64 (a 9)]) (.agg #[.int .i64 (b 0), .int .i64 (b 1), .int .i64 (b 2), .int .i64 (b 3), .int .i64 (b 4), .int .i64 (b 5), .int .i64 (b 6), .int .i64 (b 7), .int .i64 (b 8), .int .i64 (b 9)])).run Try.prog w = .ok (Cl.eq a b) w := by
  rw [run_equalIn_struct w 9999 26 _ _ (by kernel_rfl) (by kernel_rfl), Cl.eq_split]
  simp only [Program.fieldsOf, Try.underlying26]
  exact eqStep (by decide) ⟨_, _, part_vec a w, part_vec b w, run_eqV a b w⟩ (eqStep (by decide) ⟨_, _, part_arr a w, part_arr b w, run_eqA a b w⟩ (by simp [Op.eqFields]))
theorem run_eqN_same (a : Cn) (w : World) : (Op.equalIn 10000 26 (.agg #[.int .i64 (a 0), .int .i64 (a 1), .int .i64 (a 2), .int .i64 (a 3), .int .i64 (a 4), .int .i64 (a 5), .int .i64 (a 6), .int .i64 (a 7), .int .i64 (a 8), .int .i64 (a 9)]) (.agg #[.int .i64 (a 0), .int .i64 (a 1), .int .i64 (a 2), .int .i64 (a 3), .int .i64 (a 4), .int .i64 (a 5), .int .i64 (a 6), .int .i64 (a 7), .int .i64 (a 8), .int .i64 (a 9)])).run Try.prog w = .ok true w := by rw [run_eqN, Cl.eq_refl]

end Go.Proofs.Ythhfhkenpkfioaa
