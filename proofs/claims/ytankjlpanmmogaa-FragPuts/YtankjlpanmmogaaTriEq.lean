/-
  '==' of triangles, of rows of six ints, of rectangles: each with itself.
-/
import Derived.Test.YtankjlpanmmogaaJVecPlain
import Derived.ChangeKeysEq
import Derived.Laws.StructEq
import Derived.BigGuard
namespace Go.Proofs.Ytankjlpanmmogaa
set_option maxRecDepth 100000
open Go.RowKit

abbrev eqRun (d : Nat) (t : TypeId) (x y : Value) (w : World) : Prop := (Op.equalIn d t x y).run Try.prog w = .ok true w
theorem eqSame (d : Nat) (t : TypeId) {xs : Array Value} {o : Nat} (v : Value) {w : World} (h1 : (part t xs o).run Try.prog w = .ok v w) (h2 : eqRun d t v v w) :
    ∃ va vb, (part t xs o).run Try.prog w = .ok va w ∧ (part t xs o).run Try.prog w = .ok vb w ∧ (Op.equalIn d t va vb).run Try.prog w = .ok true w := ⟨v, v, h1, h1, h2⟩
theorem eqI (d : Nat) (x : Int) (w : World) : eqRun (d + 1) 3 (.int .i64 x) (.int .i64 x) w := by
  have h := run_equalIn_int (P := Try.prog) w d 3 .i64 .i64 x x Try.underlying3
  rwa [show (x == x) = true by simp] at h
theorem eqIs (d : Nat) {xs : Array Value} {o : Nat} (x : Int) {w : World} (h : xs[o]? = some (.int .i64 x)) :
    ∃ va vb, (part 3 xs o).run Try.prog w = .ok va w ∧ (part 3 xs o).run Try.prog w = .ok vb w ∧ (Op.equalIn (d + 1) 3 va vb).run Try.prog w = .ok true w :=
  eqSame _ _ _ (run_part_plain w (by kernel_rfl) h) (eqI d x w)
theorem eqItems_same (d : Nat) (t : TypeId) (n : Nat) (xs : Array Value) (w : World) : ∀ is : List Nat, (∀ i, i ∈ is → ∃ v, (part t xs (i * n)).run Try.prog w = .ok v w ∧ eqRun d t v v w) →
    (Op.eqItems d t n xs xs is).run Try.prog w = .ok true w
  | [], _ => by simp [Op.eqItems]
  | i :: is, h => by
    obtain ⟨v, h1, h2⟩ := h i (by simp)
    have ih := eqItems_same d t n xs w is (fun k hk => h k (by simp [hk]))
    have h3 : (Op.equalIn d t v v).run Try.prog w = .ok true w := h2
    simp only [Op.eqItems, Sem.run_bind, h1, h3, Result.andThen_ok]
    simpa using ih
theorem eqRect (d : Nat) (x y z u : Int) (w : World) : eqRun (d + 2) 31 (.agg #[.int .i64 x, .int .i64 y, .int .i64 z, .int .i64 u]) (.agg #[.int .i64 x, .int .i64 y, .int .i64 z, .int .i64 u]) w := by
  unfold eqRun
  rw [run_equalIn_struct w (d + 1) 31 _ _ (by kernel_rfl) (by kernel_rfl)]
  simp only [Program.fieldsOf, Try.underlying31]
  exact eqStep (r := true) (s := true) (by decide) (eqIs d x rfl) (eqStep (r := true) (s := true) (by decide) (eqIs d y rfl) (eqStep (r := true) (s := true) (by decide) (eqIs d z rfl) (eqStep (r := true) (s := true) (by decide) (eqIs d u rfl) (by simp [Op.eqFields]))))
theorem eqSix (d : Nat) (a b c e f g : Int) (w : World) : eqRun (d + 2) 83 (.agg #[.int .i64 a, .int .i64 b, .int .i64 c, .int .i64 e, .int .i64 f, .int .i64 g]) (.agg #[.int .i64 a, .int .i64 b, .int .i64 c, .int .i64 e, .int .i64 f, .int .i64 g]) w := by
  obtain ⟨i, hi⟩ : ∃ i, Try.prog.info? 3 = some i := Option.isSome_iff_exists.1 (by kernel_rfl)
  unfold eqRun
  rw [run_equalIn_array w (d + 1) _ _ Try.underlying83 hi, show Try.prog.cellsOf 3 = 1 by kernel_rfl]
  apply eqItems_same
  intro j hj
  have : j < 6 := List.mem_range.1 hj
  rcases j with _ | _ | _ | _ | _ | _ | j
  · exact ⟨.int .i64 a, run_part_plain w (by kernel_rfl) rfl, eqI d a w⟩
  · exact ⟨.int .i64 b, run_part_plain w (by kernel_rfl) rfl, eqI d b w⟩
  · exact ⟨.int .i64 c, run_part_plain w (by kernel_rfl) rfl, eqI d c w⟩
  · exact ⟨.int .i64 e, run_part_plain w (by kernel_rfl) rfl, eqI d e w⟩
  · exact ⟨.int .i64 f, run_part_plain w (by kernel_rfl) rfl, eqI d f w⟩
  · exact ⟨.int .i64 g, run_part_plain w (by kernel_rfl) rfl, eqI d g w⟩
  · omega
theorem run_eqRect (x y z u : Int) (w : World) : (Op.equalIn 10000 31 (.agg #[.int .i64 x, .int .i64 y, .int .i64 z, .int .i64 u]) (.agg #[.int .i64 x, .int .i64 y, .int .i64 z, .int .i64 u])).run Try.prog w = .ok true w := eqRect 9998 x y z u w
theorem run_eqSix (a b c e f g : Int) (w : World) : (Op.equalIn 10000 83 (.agg #[.int .i64 a, .int .i64 b, .int .i64 c, .int .i64 e, .int .i64 f, .int .i64 g]) (.agg #[.int .i64 a, .int .i64 b, .int .i64 c, .int .i64 e, .int .i64 f, .int .i64 g])).run Try.prog w = .ok true w := eqSix 9998 a b c e f g w
end Go.Proofs.Ytankjlpanmmogaa
