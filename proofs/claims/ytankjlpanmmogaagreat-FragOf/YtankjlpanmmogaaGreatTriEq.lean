/-
  '==' of triangles, of rows of six ints, of rectangles: each with itself.
-/
import Derived.Test.YtankjlpanmmogaaGreatJVecPlain
import Derived.ChangeKeysEq
import Derived.Laws.StructEq
import Derived.BigGuard
namespace Go.Proofs.YtankjlpanmmogaaGreat
set_option maxRecDepth 100000
open Go.RowKit

abbrev eqRun (d : Nat) (t : TypeId) (x y : Value) (w : World) : Prop := (Op.equalIn d t x y).run Tryz.prog w = .ok true w
theorem eqSame (d : Nat) (t : TypeId) {xs : Array Value} {o : Nat} (v : Value) {w : World} (h1 : (part t xs o).run Tryz.prog w = .ok v w) (h2 : eqRun d t v v w) :
    ∃ va vb, (part t xs o).run Tryz.prog w = .ok va w ∧ (part t xs o).run Tryz.prog w = .ok vb w ∧ (Op.equalIn d t va vb).run Tryz.prog w = .ok true w := ⟨v, v, h1, h1, h2⟩
theorem eqI (d : Nat) (x : Int) (w : World) : eqRun (d + 1) 3 (.int .i64 x) (.int .i64 x) w := by
  have h := run_equalIn_int (P := Tryz.prog) w d 3 .i64 .i64 x x Tryz.underlying3
  rwa [show (x == x) = true by simp] at h
theorem eqIs (d : Nat) {xs : Array Value} {o : Nat} (x : Int) {w : World} (h : xs[o]? = some (.int .i64 x)) :
    ∃ va vb, (part 3 xs o).run Tryz.prog w = .ok va w ∧ (part 3 xs o).run Tryz.prog w = .ok vb w ∧ (Op.equalIn (d + 1) 3 va vb).run Tryz.prog w = .ok true w :=
  eqSame _ _ _ (run_part_plain w (by kernel_rfl) h) (eqI d x w)
theorem eqItems_same (d : Nat) (t : TypeId) (n : Nat) (xs : Array Value) (w : World) : ∀ is : List Nat, (∀ i, i ∈ is → ∃ v, (part t xs (i * n)).run Tryz.prog w = .ok v w ∧ eqRun d t v v w) →
    (Op.eqItems d t n xs xs is).run Tryz.prog w = .ok true w
  | [], _ => by simp [Op.eqItems]
  | i :: is, h => by
    obtain ⟨v, h1, h2⟩ := h i (by simp)
    have ih := eqItems_same d t n xs w is (fun k hk => h k (by simp [hk]))
    have h3 : (Op.equalIn d t v v).run Tryz.prog w = .ok true w := h2
    simp only [Op.eqItems, Sem.run_bind, h1, h3, Result.andThen_ok]
    simpa using ih
theorem eqP (d : Nat) (x y : Int) (w : World) : eqRun (d + 2) 23 (.agg #[.int .i64 x, .int .i64 y]) (.agg #[.int .i64 x, .int .i64 y]) w := by
  unfold eqRun
  rw [run_equalIn_struct w (d + 1) 23 _ _ (by kernel_rfl) (by kernel_rfl)]
  simp only [Program.fieldsOf, Tryz.underlying23]
  exact eqStep (r := true) (s := true) (by decide) (eqIs d x rfl) (eqStep (r := true) (s := true) (by decide) (eqIs d y rfl) (by simp [Op.eqFields]))
theorem eqRect (d : Nat) (x y z u : Int) (w : World) : eqRun (d + 2) 36 (.agg #[.int .i64 x, .int .i64 y, .int .i64 z, .int .i64 u]) (.agg #[.int .i64 x, .int .i64 y, .int .i64 z, .int .i64 u]) w := by
  unfold eqRun
  rw [run_equalIn_struct w (d + 1) 36 _ _ (by kernel_rfl) (by kernel_rfl)]
  simp only [Program.fieldsOf, Tryz.underlying36]
  exact eqStep (r := true) (s := true) (by decide) (eqIs d x rfl) (eqStep (r := true) (s := true) (by decide) (eqIs d y rfl) (eqStep (r := true) (s := true) (by decide) (eqIs d z rfl) (eqStep (r := true) (s := true) (by decide) (eqIs d u rfl) (by simp [Op.eqFields]))))
theorem eqSix (d : Nat) (a b c e f g : Int) (w : World) : eqRun (d + 2) 24 (.agg #[.int .i64 a, .int .i64 b, .int .i64 c, .int .i64 e, .int .i64 f, .int .i64 g]) (.agg #[.int .i64 a, .int .i64 b, .int .i64 c, .int .i64 e, .int .i64 f, .int .i64 g]) w := by
  obtain ⟨i, hi⟩ : ∃ i, Tryz.prog.info? 3 = some i := Option.isSome_iff_exists.1 (by kernel_rfl)
  unfold eqRun
  rw [run_equalIn_array w (d + 1) _ _ Tryz.underlying24 hi, show Tryz.prog.cellsOf 3 = 1 by kernel_rfl]
  apply eqItems_same
  intro j hj
  have : j < 6 := List.mem_range.1 hj
  rcases j with _ | _ | _ | _ | _ | _ | j
  · exact ⟨.int .i64 a, run_part_plain w (by kernel_rfl) rfl, eqI d a w⟩
  · exact ⟨.int .i64 b, run_part_plain w (by kernel_rfl) rfl, eqI d b w⟩
  · exact ⟨.int .i64 c, run_part_plain w (by kernel_rfl) rfl, eqI d c w⟩
  · exact ⟨.int .i64 e, run_part_plain w (by kernel_rfl) rfl, eqI d e w⟩
  · exact ⟨.int .i64 f, run_part_plain w (by kernel_rfl) rfl, eqI d f w⟩
  · exact ⟨.int .i64 g, run_part_plain w (by kernel_rfl) rfl, eqI d g w⟩
  · omega
theorem eqSpot (d : Nat) (s : Nat → Int) (w : World) : eqRun (d + 3) 26 (.agg #[.int .i64 (s 0), .int .i64 (s 1), .int .i64 (s 2), .int .i64 (s 3), .int .i64 (s 4), .int .i64 (s 5), .int .i64 (s 6), .int .i64 (s 7), .int .i64 (s 8)]) (.agg #[.int .i64 (s 0), .int .i64 (s 1), .int .i64 (s 2), .int .i64 (s 3), .int .i64 (s 4), .int .i64 (s 5), .int .i64 (s 6), .int .i64 (s 7), .int .i64 (s 8)]) w := by
  unfold eqRun
  rw [run_equalIn_struct w (d + 2) 26 _ _ (by kernel_rfl) (by kernel_rfl)]
  simp only [Program.fieldsOf, Tryz.underlying26]
  exact eqStep (r := true) (s := true) (by decide) (eqSame _ _ (.agg #[.int .i64 (s 0), .int .i64 (s 1)]) (by kernel_rfl) (eqP d _ _ w)) (eqStep (r := true) (s := true) (by decide) (eqIs (d + 1) (s 2) rfl) (eqStep (r := true) (s := true) (by decide) (eqSame _ _ (.agg #[.int .i64 (s 3), .int .i64 (s 4), .int .i64 (s 5), .int .i64 (s 6), .int .i64 (s 7), .int .i64 (s 8)]) (by kernel_rfl) (eqSix d _ _ _ _ _ _ w)) (by simp [Op.eqFields])))
theorem eqSpots (d : Nat) (a b c : Nat → Int) (w : World) : eqRun (d + 4) 27 (.agg #[.int .i64 (a 0), .int .i64 (a 1), .int .i64 (a 2), .int .i64 (a 3), .int .i64 (a 4), .int .i64 (a 5), .int .i64 (a 6), .int .i64 (a 7), .int .i64 (a 8), .int .i64 (b 0), .int .i64 (b 1), .int .i64 (b 2), .int .i64 (b 3), .int .i64 (b 4), .int .i64 (b 5), .int .i64 (b 6), .int .i64 (b 7), .int .i64 (b 8), .int .i64 (c 0), .int .i64 (c 1), .int .i64 (c 2), .int .i64 (c 3), .int .i64 (c 4), .int .i64 (c 5), .int .i64 (c 6), .int .i64 (c 7), .int .i64 (c 8)]) (.agg #[.int .i64 (a 0), .int .i64 (a 1), .int .i64 (a 2), .int .i64 (a 3), .int .i64 (a 4), .int .i64 (a 5), .int .i64 (a 6), .int .i64 (a 7), .int .i64 (a 8), .int .i64 (b 0), .int .i64 (b 1), .int .i64 (b 2), .int .i64 (b 3), .int .i64 (b 4), .int .i64 (b 5), .int .i64 (b 6), .int .i64 (b 7), .int .i64 (b 8), .int .i64 (c 0), .int .i64 (c 1), .int .i64 (c 2), .int .i64 (c 3), .int .i64 (c 4), .int .i64 (c 5), .int .i64 (c 6), .int .i64 (c 7), .int .i64 (c 8)]) w := by
  obtain ⟨i, hi⟩ : ∃ i, Tryz.prog.info? 26 = some i := Option.isSome_iff_exists.1 (by kernel_rfl)
  unfold eqRun
  rw [run_equalIn_array w (d + 3) _ _ Tryz.underlying27 hi, show Tryz.prog.cellsOf 26 = 9 by kernel_rfl]
  apply eqItems_same
  intro j hj
  have : j < 3 := List.mem_range.1 hj
  rcases j with _ | _ | _ | j
  · exact ⟨.agg #[.int .i64 (a 0), .int .i64 (a 1), .int .i64 (a 2), .int .i64 (a 3), .int .i64 (a 4), .int .i64 (a 5), .int .i64 (a 6), .int .i64 (a 7), .int .i64 (a 8)], by kernel_rfl, eqSpot d a w⟩
  · exact ⟨.agg #[.int .i64 (b 0), .int .i64 (b 1), .int .i64 (b 2), .int .i64 (b 3), .int .i64 (b 4), .int .i64 (b 5), .int .i64 (b 6), .int .i64 (b 7), .int .i64 (b 8)], by kernel_rfl, eqSpot d b w⟩
  · exact ⟨.agg #[.int .i64 (c 0), .int .i64 (c 1), .int .i64 (c 2), .int .i64 (c 3), .int .i64 (c 4), .int .i64 (c 5), .int .i64 (c 6), .int .i64 (c 7), .int .i64 (c 8)], by kernel_rfl, eqSpot d c w⟩
  · omega
theorem eqTri (d : Nat) (a b c : Nat → Int) (n : Int) (f : Nat → Int) (w : World) : eqRun (d + 5) 38 (.agg #[.int .i64 (a 0), .int .i64 (a 1), .int .i64 (a 2), .int .i64 (a 3), .int .i64 (a 4), .int .i64 (a 5), .int .i64 (a 6), .int .i64 (a 7), .int .i64 (a 8), .int .i64 (b 0), .int .i64 (b 1), .int .i64 (b 2), .int .i64 (b 3), .int .i64 (b 4), .int .i64 (b 5), .int .i64 (b 6), .int .i64 (b 7), .int .i64 (b 8), .int .i64 (c 0), .int .i64 (c 1), .int .i64 (c 2), .int .i64 (c 3), .int .i64 (c 4), .int .i64 (c 5), .int .i64 (c 6), .int .i64 (c 7), .int .i64 (c 8), .int .i64 n, .int .i64 (f 0), .int .i64 (f 1), .int .i64 (f 2), .int .i64 (f 3)]) (.agg #[.int .i64 (a 0), .int .i64 (a 1), .int .i64 (a 2), .int .i64 (a 3), .int .i64 (a 4), .int .i64 (a 5), .int .i64 (a 6), .int .i64 (a 7), .int .i64 (a 8), .int .i64 (b 0), .int .i64 (b 1), .int .i64 (b 2), .int .i64 (b 3), .int .i64 (b 4), .int .i64 (b 5), .int .i64 (b 6), .int .i64 (b 7), .int .i64 (b 8), .int .i64 (c 0), .int .i64 (c 1), .int .i64 (c 2), .int .i64 (c 3), .int .i64 (c 4), .int .i64 (c 5), .int .i64 (c 6), .int .i64 (c 7), .int .i64 (c 8), .int .i64 n, .int .i64 (f 0), .int .i64 (f 1), .int .i64 (f 2), .int .i64 (f 3)]) w := by
  unfold eqRun
  rw [run_equalIn_struct w (d + 4) 38 _ _ (by kernel_rfl) (by kernel_rfl)]
  simp only [Program.fieldsOf, Tryz.underlying38]
  exact eqStep (r := true) (s := true) (by decide) (eqSame _ _ (.agg #[.int .i64 (a 0), .int .i64 (a 1), .int .i64 (a 2), .int .i64 (a 3), .int .i64 (a 4), .int .i64 (a 5), .int .i64 (a 6), .int .i64 (a 7), .int .i64 (a 8), .int .i64 (b 0), .int .i64 (b 1), .int .i64 (b 2), .int .i64 (b 3), .int .i64 (b 4), .int .i64 (b 5), .int .i64 (b 6), .int .i64 (b 7), .int .i64 (b 8), .int .i64 (c 0), .int .i64 (c 1), .int .i64 (c 2), .int .i64 (c 3), .int .i64 (c 4), .int .i64 (c 5), .int .i64 (c 6), .int .i64 (c 7), .int .i64 (c 8)]) (by kernel_rfl) (eqSpots d a b c w)) (eqStep (r := true) (s := true) (by decide) (eqIs (d + 3) n rfl) (eqStep (r := true) (s := true) (by decide) (eqSame _ _ (.agg #[.int .i64 (f 0), .int .i64 (f 1), .int .i64 (f 2), .int .i64 (f 3)]) (by kernel_rfl) (eqRect (d + 2) _ _ _ _ w)) (by simp [Op.eqFields])))
/-- as the laws write it -/
theorem run_eqTri (a b c : Nat → Int) (n : Int) (f : Nat → Int) (w : World) : (Op.equalIn 10000 38 (.agg #[.int .i64 (a 0), .int .i64 (a 1), .int .i64 (a 2), .int .i64 (a 3), .int .i64 (a 4), .int .i64 (a 5), .int .i64 (a 6), .int .i64 (a 7), .int .i64 (a 8), .int .i64 (b 0), .int .i64 (b 1), .int .i64 (b 2), .int .i64 (b 3), .int .i64 (b 4), .int .i64 (b 5), .int .i64 (b 6), .int .i64 (b 7), .int .i64 (b 8), .int .i64 (c 0), .int .i64 (c 1), .int .i64 (c 2), .int .i64 (c 3), .int .i64 (c 4), .int .i64 (c 5), .int .i64 (c 6), .int .i64 (c 7), .int .i64 (c 8), .int .i64 n, .int .i64 (f 0), .int .i64 (f 1), .int .i64 (f 2), .int .i64 (f 3)]) (.agg #[.int .i64 (a 0), .int .i64 (a 1), .int .i64 (a 2), .int .i64 (a 3), .int .i64 (a 4), .int .i64 (a 5), .int .i64 (a 6), .int .i64 (a 7), .int .i64 (a 8), .int .i64 (b 0), .int .i64 (b 1), .int .i64 (b 2), .int .i64 (b 3), .int .i64 (b 4), .int .i64 (b 5), .int .i64 (b 6), .int .i64 (b 7), .int .i64 (b 8), .int .i64 (c 0), .int .i64 (c 1), .int .i64 (c 2), .int .i64 (c 3), .int .i64 (c 4), .int .i64 (c 5), .int .i64 (c 6), .int .i64 (c 7), .int .i64 (c 8), .int .i64 n, .int .i64 (f 0), .int .i64 (f 1), .int .i64 (f 2), .int .i64 (f 3)])).run Tryz.prog w = .ok true w := eqTri 9995 a b c n f w
theorem run_eqRect (x y z u : Int) (w : World) : (Op.equalIn 10000 36 (.agg #[.int .i64 x, .int .i64 y, .int .i64 z, .int .i64 u]) (.agg #[.int .i64 x, .int .i64 y, .int .i64 z, .int .i64 u])).run Tryz.prog w = .ok true w := eqRect 9998 x y z u w
theorem run_eqSix (a b c e f g : Int) (w : World) : (Op.equalIn 10000 24 (.agg #[.int .i64 a, .int .i64 b, .int .i64 c, .int .i64 e, .int .i64 f, .int .i64 g]) (.agg #[.int .i64 a, .int .i64 b, .int .i64 c, .int .i64 e, .int .i64 f, .int .i64 g])).run Tryz.prog w = .ok true w := eqSix 9998 a b c e f g w
end Go.Proofs.YtankjlpanmmogaaGreat
