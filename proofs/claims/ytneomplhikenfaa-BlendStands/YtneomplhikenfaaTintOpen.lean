/-
  Colours and rows of six numbers as arguments: what a reading of one says of its value, and back.
-/
import Derived.Test.YtneomplhikenfaaMem
import Derived.Lib.SmallJoins
import Derived.Laws.IdiomArrays
namespace Go.Proofs.Ytneomplhikenfaa
open Go.ChangeShapes Go.WideShapes Go.ChangeAt Go.RowKit

theorem cellsI : Try.prog.cellsOf 3 = 1 := by kernel_rfl
theorem cellsC : Try.prog.cellsOf 25 = 4 := by kernel_rfl
theorem cellsS : Try.prog.cellsOf 50 = 6 := by kernel_rfl

section
variable {H : Type} {enc : TypeId × Value → H} {W : World} {base b0 : Nat} {spare : Nat → Bool} {held : Bool}

theorem open_color {v : Value} {d : DataW H} {p : List MemPlace}
    (hv : Value.okWide Try.prog W .any b0 25 v) (h : DataW.Trod enc Try.prog W base spare held 25 v d p) :
    ∃ x y z u : Int, v = .agg #[.int .i64 x, .int .i64 y, .int .i64 z, .int .i64 u] ∧ d = .agg [.lit (.int .i64 x), .lit (.int .i64 y), .lit (.int .i64 z), .lit (.int .i64 u)] ∧ p = [] ∧
      (Lit.int .i64 x).wf = true ∧ (Lit.int .i64 y).wf = true ∧ (Lit.int .i64 z).wf = true ∧ (Lit.int .i64 u).wf = true := by
  obtain ⟨v0, v1, v2, v3, y0, y1, y2, y3, n, rfl, rfl, rfl, h0, h1, h2, h3⟩ := Joins.open_agg4 Try.underlying25 (by kernel_rfl) cellsC hv h
  obtain ⟨x0, e0, rfl, w0⟩ := DataW.trod_int Try.underlying3 h0
  obtain ⟨x1, e1, rfl, w1⟩ := DataW.trod_int Try.underlying3 h1
  obtain ⟨x2, e2, rfl, w2⟩ := DataW.trod_int Try.underlying3 h2
  obtain ⟨x3, e3, rfl, w3⟩ := DataW.trod_int Try.underlying3 h3
  simp at e0 e1 e2 e3
  subst e0 e1 e2 e3
  exact ⟨x0, x1, x2, x3, rfl, rfl, rfl, w0, w1, w2, w3⟩
theorem shut_color {x y z u : Int} (w0 : (Lit.int .i64 x).wf = true) (w1 : (Lit.int .i64 y).wf = true) (w2 : (Lit.int .i64 z).wf = true) (w3 : (Lit.int .i64 u).wf = true) :
    DataW.Trod enc Try.prog W base spare held 25 (.agg #[.int .i64 x, .int .i64 y, .int .i64 z, .int .i64 u]) (.agg [.lit (.int .i64 x), .lit (.int .i64 y), .lit (.int .i64 z), .lit (.int .i64 u)]) [] :=
  ⟨2, by simp [DataW.trod, Value.cells, Try.underlying25, Try.underlying3, cellsC, cellsI, w0, w1, w2, w3]⟩

theorem open_six {v : Value} {d : DataW H} {p : List MemPlace}
    (hv : Value.okWide Try.prog W .any b0 50 v) (h : DataW.Trod enc Try.prog W base spare held 50 v d p) :
    ∃ m : Nat → Int, v = .agg #[.int .i64 (m 0), .int .i64 (m 1), .int .i64 (m 2), .int .i64 (m 3), .int .i64 (m 4), .int .i64 (m 5)] ∧
      d = .agg [.lit (.int .i64 (m 0)), .lit (.int .i64 (m 1)), .lit (.int .i64 (m 2)), .lit (.int .i64 (m 3)), .lit (.int .i64 (m 4)), .lit (.int .i64 (m 5))] ∧ p = [] ∧ ∀ j, j < 6 → (Lit.int .i64 (m j)).wf = true := by
  obtain ⟨cs, rfl, hsz, _⟩ : ∃ cs, v = .agg cs ∧ cs.size = Try.prog.cellsOf 50 ∧ Row.okWide Try.prog W .any b0 50 cs := by
    simpa [Value.okWide, Try.underlying50] using hv
  rw [cellsS] at hsz
  obtain ⟨fuel, hf⟩ := h
  obtain ⟨xs, n, _, hx, _, hl, hi⟩ := DataW.trod_array Try.underlying50 hf
  have key : ∀ i, i < 6 → ∃ z : Int, cs[i]? = some (.int .i64 z) ∧ xs[i]? = some (.lit (.int .i64 z), []) ∧ (Lit.int .i64 z).wf = true := by
    intro i hi16
    have h1 := hi i hi16
    have hd : (cs.toList.drop i).take 1 = [cs[i]] := by
      rw [List.take_one]
      simp [List.head?_drop, hsz, hi16]
    have hv1 : ((Value.agg cs).cells.toList.drop (i * Try.prog.cellsOf 3)).take (Try.prog.cellsOf 3) = [cs[i]] := by
      rw [cellsI, Nat.mul_one]; exact hd
    rw [hv1] at h1
    have hxi : i < xs.length := by omega
    rw [List.getElem?_eq_getElem hxi] at h1
    obtain ⟨z, e1, e2, e3⟩ := DataW.trod_int Try.underlying3 h1
    refine ⟨z, ?_, ?_, e3⟩
    · simp at e1
      simp [hsz, hi16, e1]
    · rw [List.getElem?_eq_getElem hxi, e2]
  obtain ⟨m, hm⟩ : ∃ m : Nat → Int, ∀ i, i < 6 → cs[i]? = some (.int .i64 (m i)) ∧ xs[i]? = some (.lit (.int .i64 (m i)), []) ∧ (Lit.int .i64 (m i)).wf = true :=
    ⟨fun i => if h : i < 6 then (key i h).choose else 0, fun i h => by simp only [dif_pos h]; exact (key i h).choose_spec⟩
  clear key hi
  simp only [Prod.mk.injEq] at hx
  refine ⟨m, ?_, ?_, ?_, fun j hj => (hm j hj).2.2⟩
  · congr 1
    apply Array.ext_getElem?
    intro i
    by_cases hi16 : i < 6
    · rw [(hm i hi16).1]
      obtain rfl | rfl | rfl | rfl | rfl | rfl : i = 0 ∨ i = 1 ∨ i = 2 ∨ i = 3 ∨ i = 4 ∨ i = 5 := by omega
      all_goals rfl
    · rw [Array.getElem?_eq_none (by omega), Array.getElem?_eq_none (by simp; omega)]
  · rw [hx.1]
    congr 1
    apply List.ext_getElem?
    intro i
    by_cases hi16 : i < 6
    · rw [List.getElem?_map, (hm i hi16).2.1]
      obtain rfl | rfl | rfl | rfl | rfl | rfl : i = 0 ∨ i = 1 ∨ i = 2 ∨ i = 3 ∨ i = 4 ∨ i = 5 := by omega
      all_goals rfl
    · rw [List.getElem?_eq_none (by simp; omega), List.getElem?_eq_none (by simp; omega)]
  · rw [hx.2, List.flatMap_eq_nil_iff]
    intro y hy
    obtain ⟨i, hi1, hi2⟩ := List.getElem_of_mem hy
    have h9 := (hm i (by omega)).2.1
    rw [List.getElem?_eq_getElem hi1, Option.some.injEq] at h9
    rw [← hi2, h9]
theorem shut_six {m : Nat → Int} (h : ∀ j, j < 6 → (Lit.int .i64 (m j)).wf = true) :
    DataW.Trod enc Try.prog W base spare held 50 (.agg #[.int .i64 (m 0), .int .i64 (m 1), .int .i64 (m 2), .int .i64 (m 3), .int .i64 (m 4), .int .i64 (m 5)])
      (.agg [.lit (.int .i64 (m 0)), .lit (.int .i64 (m 1)), .lit (.int .i64 (m 2)), .lit (.int .i64 (m 3)), .lit (.int .i64 (m 4)), .lit (.int .i64 (m 5))]) [] := by
  have w0 := h 0 (by omega); have w1 := h 1 (by omega); have w2 := h 2 (by omega); have w3 := h 3 (by omega); have w4 := h 4 (by omega); have w5 := h 5 (by omega)
  refine ⟨2, ?_⟩
  simp [DataW.trod, Value.cells, Try.underlying50, Try.underlying3, cellsS, cellsI, w0, w1, w2, w3, w4, w5, show List.range 6 = [0, 1, 2, 3, 4, 5] from rfl]
end
end Go.Proofs.Ytneomplhikenfaa
