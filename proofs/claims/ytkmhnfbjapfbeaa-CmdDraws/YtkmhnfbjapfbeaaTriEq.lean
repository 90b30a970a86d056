/-
  '==' of triangles, of rows of six ints, of rectangles: each with itself.
-/
import Derived.Test.YtkmhnfbjapfbeaaMem
import Derived.ChangeKeysEq
import Derived.Laws.StructEq
import Derived.BigGuard
namespace Go.Proofs.Ytkmhnfbjapfbeaa
open Go.RowKit

abbrev eqRun (d : Nat) (t : TypeId) (x y : Value) (w : World) : Prop := (Op.equalIn d t x y).run Try.prog w = .ok true w
theorem eqSame (d : Nat) (t : TypeId) {xs : Array Value} {o : Nat} (v : Value) {w : World} (h1 : (part t xs o).run Try.prog w = .ok v w) (h2 : eqRun d t v v w) :
    ∃ va vb, (part t xs o).run Try.prog w = .ok va w ∧ (part t xs o).run Try.prog w = .ok vb w ∧ (Op.equalIn d t va vb).run Try.prog w = .ok true w := ⟨v, v, h1, h1, h2⟩
theorem eqI (d : Nat) (x : Int) (w : World) : eqRun (d + 1) 3 (.int .i64 x) (.int .i64 x) w := by
  have h := run_equalIn_int (P := Try.prog) w d 3 .i64 .i64 x x Try.underlying3
  rwa [show (x == x) = true by simp] at h
theorem eqIs (d : Nat) {xs : Array Value} {o : Nat} (x : Int) {w : World} (h : xs[o]? = some (.int .i64 x)) :
    ∃ va vb, (part 3 xs o).run Try.prog w = .ok va w ∧ (part 3 xs o).run Try.prog w = .ok vb w ∧ (Op.equalIn (d + 1) 3 va vb).run Try.prog w = .ok true w :=
  eqSame _ _ _ (run_part_plain w (by kernel_rfl) h) (eqI d x w)
theorem eqItems_same (d : Nat) (t : TypeId) (n : Nat) (xs : Array Value) (w : World) : ∀ is : List Nat, (∀ i, i ∈ is → ∃ v, (part t xs (i * n)).run Try.prog w = .ok v w ∧ eqRun d t v v w) →
    (Op.eqItems d t n xs xs is).run Try.prog w = .ok true w
  | [], _ => by simp [Op.eqItems]
  | i :: is, h => by
    obtain ⟨v, h1, h2⟩ := h i (by simp)
    have ih := eqItems_same d t n xs w is (fun k hk => h k (by simp [hk]))
    have h3 : (Op.equalIn d t v v).run Try.prog w = .ok true w := h2
    simp only [Op.eqItems, Sem.run_bind, h1, h3, Result.andThen_ok]
    simpa using ih
end Go.Proofs.Ytkmhnfbjapfbeaa
