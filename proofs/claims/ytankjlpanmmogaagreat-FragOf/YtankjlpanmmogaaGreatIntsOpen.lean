/-
  Rows of three ints by value: as arguments (what a reading of one says of its value, and back), held against each other; more on memory.
-/
import Derived.Test.YtankjlpanmmogaaGreatJVecPlain
import Derived.Test.YtankjlpanmmogaaGreatJRegionOw
import Derived.Laws.IdiomArrays
namespace Go.Proofs.YtankjlpanmmogaaGreat
set_option maxRecDepth 100000
open Go.ChangeShapes Go.WideShapes Go.ChangeAt Go.RowKit

theorem cellsI1 : Tryz.prog.cellsOf 3 = 1 := by kernel_rfl
theorem cellsI3 : Tryz.prog.cellsOf 94 = 3 := by kernel_rfl
theorem ty_i3 : Ty 94 3 := ⟨by kernel_rfl, _, Tryz.underlying94, rfl⟩
section
variable {H : Type} {enc : TypeId × Value → H} {W : World} {base b0 : Nat} {spare : Nat → Bool} {held : Bool}
theorem open_i3 {v : Value} {d : DataW H} {p : List MemPlace}
    (hv : Value.okWide Tryz.prog W .any b0 94 v) (h : DataW.Trod enc Tryz.prog W base spare held 94 v d p) :
    ∃ x0 x1 x2 : Int, v = .agg #[.int .i64 x0, .int .i64 x1, .int .i64 x2] ∧ d = .agg [.lit (.int .i64 x0), .lit (.int .i64 x1), .lit (.int .i64 x2)] ∧ p = [] ∧ (Lit.int .i64 x0).wf = true ∧ (Lit.int .i64 x1).wf = true ∧ (Lit.int .i64 x2).wf = true := by
  obtain ⟨⟨l⟩, rfl, hsz, _⟩ : ∃ cs, v = .agg cs ∧ cs.size = Tryz.prog.cellsOf 94 ∧ Row.okWide Tryz.prog W .any b0 94 cs := by
    simpa [Value.okWide, Tryz.underlying94] using hv
  rw [cellsI3] at hsz
  match l, hsz with
  | [c0, c1, c2], _ =>
    obtain ⟨fuel, hf⟩ := h
    obtain ⟨y0, y1, y2, m, hx, hy0, hy1, hy2⟩ := trod_array3 Tryz.underlying94 cellsI1 hf
    obtain ⟨x0, e0, rfl, w0⟩ := DataW.trod_int Tryz.underlying3 hy0
    obtain ⟨x1, e1, rfl, w1⟩ := DataW.trod_int Tryz.underlying3 hy1
    obtain ⟨x2, e2, rfl, w2⟩ := DataW.trod_int Tryz.underlying3 hy2
    simp at e0 e1 e2
    subst e0 e1 e2
    simp only [Prod.mk.injEq] at hx
    obtain ⟨rfl, rfl⟩ := hx
    exact ⟨x0, x1, x2, rfl, rfl, rfl, w0, w1, w2⟩
theorem shut_i3 {x0 x1 x2 : Int} (w0 : (Lit.int .i64 x0).wf = true) (w1 : (Lit.int .i64 x1).wf = true) (w2 : (Lit.int .i64 x2).wf = true) :
    DataW.Trod enc Tryz.prog W base spare held 94 (.agg #[.int .i64 x0, .int .i64 x1, .int .i64 x2]) (.agg [.lit (.int .i64 x0), .lit (.int .i64 x1), .lit (.int .i64 x2)]) [] :=
  ⟨2, by simp [DataW.trod, Value.cells, Tryz.underlying94, Tryz.underlying3, cellsI3, cellsI1, w0, w1, w2, show List.range 3 = [0, 1, 2] from rfl]⟩
end

/-- two rows of ints, item by item -/
theorem eqItems_run (xs ys : Array Value) (f g : Nat → Int) (w : World) : ∀ is : List Nat, (∀ i, i ∈ is → xs[i]? = some (.int .i64 (f i)) ∧ ys[i]? = some (.int .i64 (g i))) →
    (Op.eqItems 9999 3 1 xs ys is).run Tryz.prog w = .ok (is.all fun i => f i == g i) w
  | [], _ => by simp [Op.eqItems]
  | i :: is, h => by
    obtain ⟨h1, h2⟩ := h i (by simp)
    have ih := eqItems_run xs ys f g w is (fun k hk => h k (by simp [hk]))
    have p1 : (part 3 xs (i * 1)).run Tryz.prog w = .ok (.int .i64 (f i)) w := run_part_plain w (by kernel_rfl) (by rw [Nat.mul_one]; exact h1)
    have p2 : (part 3 ys (i * 1)).run Tryz.prog w = .ok (.int .i64 (g i)) w := run_part_plain w (by kernel_rfl) (by rw [Nat.mul_one]; exact h2)
    have p3 : (Op.equalIn 9999 3 (.int .i64 (f i)) (.int .i64 (g i))).run Tryz.prog w = .ok (f i == g i) w := run_equalIn_int w 9998 _ _ _ _ _ Tryz.underlying3
    simp only [Op.eqItems, Sem.run_bind, p1, p2, p3, Result.andThen_ok, List.all_cons]
    cases hb : (f i == g i)
    · simp
    · simpa using ih
def By.at (x y z : Int) (i : Nat) : Int := if i = 0 then x else if i = 1 then y else z
theorem run_eq3 (x y z x' y' z' : Int) (w : World) : (Op.equalIn 10000 94 (.agg #[.int .i64 x, .int .i64 y, .int .i64 z]) (.agg #[.int .i64 (x'), .int .i64 (y'), .int .i64 (z')])).run Tryz.prog w = .ok (x == x' && y == y' && z == z') w := by
  have hi : ∃ i, Tryz.prog.info? 3 = some i := Option.isSome_iff_exists.1 (by kernel_rfl)
  obtain ⟨i, hi⟩ := hi
  rw [run_equalIn_array w 9999 _ _ Tryz.underlying94 hi]
  rw [cellsI1]
  rw [show (x == x' && y == y' && z == z') = ((List.range 3).all fun i => By.at x y z i == By.at x' y' z' i) by simp [show List.range 3 = [0, 1, 2] from rfl, By.at, Bool.and_assoc]]
  apply eqItems_run
  intro j hj
  have : j < 3 := List.mem_range.1 hj
  rcases j with _ | _ | _ | j
  all_goals first | omega | exact ⟨rfl, rfl⟩
theorem run_eq3_same (x y z : Int) (w : World) : (Op.equalIn 10000 94 (.agg #[.int .i64 x, .int .i64 y, .int .i64 z]) (.agg #[.int .i64 x, .int .i64 y, .int .i64 z])).run Tryz.prog w = .ok true w := by
  rw [run_eq3]; simp

/-- an item of a row by value -/
theorem ix3_0 (x y z : Int) (w : World) : (Instr.index 94 (.agg #[.int .i64 x, .int .i64 y, .int .i64 z]) (.int .i64 0)).run Tryz.prog w = .ok (.int .i64 x) w := by kernel_rfl
theorem ix3_1 (x y z : Int) (w : World) : (Instr.index 94 (.agg #[.int .i64 x, .int .i64 y, .int .i64 z]) (.int .i64 1)).run Tryz.prog w = .ok (.int .i64 y) w := by kernel_rfl
theorem ix3_2 (x y z : Int) (w : World) : (Instr.index 94 (.agg #[.int .i64 x, .int .i64 y, .int .i64 z]) (.int .i64 2)).run Tryz.prog w = .ok (.int .i64 z) w := by kernel_rfl
end Go.Proofs.YtankjlpanmmogaaGreat
