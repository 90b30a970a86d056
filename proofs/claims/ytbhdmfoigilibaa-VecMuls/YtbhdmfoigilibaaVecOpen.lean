/-
  Matrices and vectors as arguments: what a reading of one says of its value, and back.
-/
import Derived.Test.YtbhdmfoigilibaaVecWalks
import Derived.Lib.SmallJoins
import Derived.Laws.IdiomArrays
namespace Go.Proofs.Ytbhdmfoigilibaa
open Go.ChangeShapes Go.WideShapes Go.ChangeAt Go.RowKit

theorem cellsI : Try.prog.cellsOf 3 = 1 := by kernel_rfl
theorem cellsM : Try.prog.cellsOf 23 = 16 := by kernel_rfl
theorem cellsV : Try.prog.cellsOf 25 = 4 := by kernel_rfl

/-- what sixteen numbers read as -/
def Vc.dat (H : Type) (m : Nat → Int) : List (DataW H) := (List.range 16).map fun j => .lit (.int .i64 (m j))
section
variable {H : Type} {enc : TypeId × Value → H} {W : World} {base b0 : Nat} {spare : Nat → Bool} {held : Bool}

theorem open_mat {v : Value} {d : DataW H} {p : List MemPlace}
    (hv : Value.okWide Try.prog W .any b0 23 v) (h : DataW.Trod enc Try.prog W base spare held 23 v d p) :
    ∃ m : Nat → Int, v = .agg (Vc.ar m) ∧ d = .agg (Vc.dat H m) ∧ p = [] ∧ ∀ j, j < 16 → (Lit.int .i64 (m j)).wf = true := by
  obtain ⟨cs, rfl, hsz, _⟩ : ∃ cs, v = .agg cs ∧ cs.size = Try.prog.cellsOf 23 ∧ Row.okWide Try.prog W .any b0 23 cs := by
    simpa [Value.okWide, Try.underlying23] using hv
  rw [cellsM] at hsz
  obtain ⟨fuel, hf⟩ := h
  obtain ⟨xs, n, _, hx, _, hl, hi⟩ := DataW.trod_array Try.underlying23 hf
  have key : ∀ i, i < 16 → ∃ z : Int, cs[i]? = some (.int .i64 z) ∧ xs[i]? = some (.lit (.int .i64 z), []) ∧ (Lit.int .i64 z).wf = true := by
    intro i hi16
    have h1 := hi i hi16
    have hc : cs.toList[i]? = some cs[i] := by simp [hsz, hi16]
    have hd : (cs.toList.drop i).take 1 = [cs[i]] := by
      rw [List.take_one]
      simp [List.head?_drop, hsz, hi16]
    have hv1 : ((Value.agg cs).cells.toList.drop (i * Try.prog.cellsOf 3)).take (Try.prog.cellsOf 3) = [cs[i]] := by
      rw [cellsI, Nat.mul_one]; exact hd
    rw [hv1] at h1
    have hxi : i < xs.length := by omega
    rw [List.getElem?_eq_getElem hxi] at h1
    obtain ⟨z, e1, e2, e3⟩ := DataW.trod_int Try.underlying3 h1
    refine ⟨z, ?_, ?_, e3⟩
    · simp at e1
      simp [hsz, hi16, e1]
    · rw [List.getElem?_eq_getElem hxi, e2]
  obtain ⟨m, hm⟩ : ∃ m : Nat → Int, ∀ i, i < 16 → cs[i]? = some (.int .i64 (m i)) ∧ xs[i]? = some (.lit (.int .i64 (m i)), []) ∧ (Lit.int .i64 (m i)).wf = true :=
    ⟨fun i => if h : i < 16 then (key i h).choose else 0, fun i h => by simp only [dif_pos h]; exact (key i h).choose_spec⟩
  clear key hi
  simp only [Prod.mk.injEq] at hx
  refine ⟨m, ?_, ?_, ?_, fun j hj => (hm j hj).2.2⟩
  · congr 1
    apply Array.ext_getElem?
    intro i
    by_cases hi16 : i < 16
    · rw [Vc.ar_get _ hi16, (hm i hi16).1]
    · rw [Array.getElem?_eq_none (by omega), Array.getElem?_eq_none (by rw [Vc.ar_size]; omega)]
  · rw [hx.1]
    congr 1
    apply List.ext_getElem?
    intro i
    by_cases hi16 : i < 16
    · rw [List.getElem?_map, (hm i hi16).2.1]
      simp [Vc.dat, hi16]
    · rw [List.getElem?_eq_none (by simp; omega), List.getElem?_eq_none (by simp [Vc.dat]; omega)]
  · rw [hx.2, List.flatMap_eq_nil_iff]
    intro y hy
    obtain ⟨i, hi1, hi2⟩ := List.getElem_of_mem hy
    have h9 := (hm i (by omega)).2.1
    rw [List.getElem?_eq_getElem hi1, Option.some.injEq] at h9
    rw [← hi2, h9]

theorem shut_mat {m : Nat → Int} (h : ∀ j, j < 16 → (Lit.int .i64 (m j)).wf = true) :
    DataW.Trod enc Try.prog W base spare held 23 (.agg (Vc.ar m)) (.agg (Vc.dat H m)) [] := by
  have w0 := h 0 (by omega); have w1 := h 1 (by omega); have w2 := h 2 (by omega); have w3 := h 3 (by omega); have w4 := h 4 (by omega); have w5 := h 5 (by omega); have w6 := h 6 (by omega); have w7 := h 7 (by omega)
  have w8 := h 8 (by omega); have w9 := h 9 (by omega); have w10 := h 10 (by omega); have w11 := h 11 (by omega); have w12 := h 12 (by omega); have w13 := h 13 (by omega); have w14 := h 14 (by omega); have w15 := h 15 (by omega)
  refine ⟨2, ?_⟩
  simp [DataW.trod, Value.cells, Try.underlying23, Try.underlying3, cellsM, cellsI, Vc.ar, Vc.ls, Vc.dat, w0, w1, w2, w3, w4, w5, w6, w7, w8, w9, w10, w11, w12, w13, w14, w15, show List.range 16 = [0, 1, 2, 3, 4, 5, 6, 7, 8, 9, 10, 11, 12, 13, 14, 15] from rfl]

theorem open_vec {v : Value} {d : DataW H} {p : List MemPlace}
    (hv : Value.okWide Try.prog W .any b0 25 v) (h : DataW.Trod enc Try.prog W base spare held 25 v d p) :
    ∃ x y z u : Int, v = .agg #[.int .i64 x, .int .i64 y, .int .i64 z, .int .i64 u] ∧ d = .agg [.lit (.int .i64 x), .lit (.int .i64 y), .lit (.int .i64 z), .lit (.int .i64 u)] ∧ p = [] ∧
      (Lit.int .i64 x).wf = true ∧ (Lit.int .i64 y).wf = true ∧ (Lit.int .i64 z).wf = true ∧ (Lit.int .i64 u).wf = true := by
  obtain ⟨v0, v1, v2, v3, y0, y1, y2, y3, n, rfl, rfl, rfl, h0, h1, h2, h3⟩ := Joins.open_agg4 Try.underlying25 (by kernel_rfl) cellsV hv h
  obtain ⟨x0, e0, rfl, w0⟩ := DataW.trod_int Try.underlying3 h0
  obtain ⟨x1, e1, rfl, w1⟩ := DataW.trod_int Try.underlying3 h1
  obtain ⟨x2, e2, rfl, w2⟩ := DataW.trod_int Try.underlying3 h2
  obtain ⟨x3, e3, rfl, w3⟩ := DataW.trod_int Try.underlying3 h3
  simp at e0 e1 e2 e3
  subst e0 e1 e2 e3
  exact ⟨x0, x1, x2, x3, rfl, rfl, rfl, w0, w1, w2, w3⟩
theorem shut_vec {x y z u : Int} (w0 : (Lit.int .i64 x).wf = true) (w1 : (Lit.int .i64 y).wf = true) (w2 : (Lit.int .i64 z).wf = true) (w3 : (Lit.int .i64 u).wf = true) :
    DataW.Trod enc Try.prog W base spare held 25 (.agg #[.int .i64 x, .int .i64 y, .int .i64 z, .int .i64 u]) (.agg [.lit (.int .i64 x), .lit (.int .i64 y), .lit (.int .i64 z), .lit (.int .i64 u)]) [] :=
  ⟨2, by simp [DataW.trod, Value.cells, Try.underlying25, Try.underlying3, cellsV, cellsI, w0, w1, w2, w3]⟩
end
end Go.Proofs.Ytbhdmfoigilibaa
