/-
  Pixels and fragments as arguments: what a reading of one says of its value, and back (layer 19).
-/
import Derived.Test.YtankjlpanmmogaaJVecPlain
import Derived.Lib.SmallJoins
import Derived.Laws.IdiomArrays
import Derived.ChangeSlices
import Derived.Carry
import Derived.BigGuard
namespace Go.Proofs.Ytankjlpanmmogaa
set_option maxRecDepth 100000
open Go.RowKit

open Go.ChangeShapes Go.WideShapes Go.ChangeAt
theorem cellsZI : Try.prog.cellsOf 3 = 1 := by kernel_rfl
theorem cellsZC : Try.prog.cellsOf 23 = 4 := by kernel_rfl
theorem cellsZP : Try.prog.cellsOf 25 = 6 := by kernel_rfl
theorem cellsZF : Try.prog.cellsOf 27 = 5 := by kernel_rfl
theorem list_ofZ5 {α : Type} (l : List α) (h : l.length = 5) : ∃ c0 c1 c2 c3 c4, l = [c0, c1, c2, c3, c4] := by
  match l, h with
  | [c0, c1, c2, c3, c4], _ => exact ⟨c0, c1, c2, c3, c4, rfl⟩
theorem list_ofZ6 {α : Type} (l : List α) (h : l.length = 6) : ∃ c0 c1 c2 c3 c4 c5, l = [c0, c1, c2, c3, c4, c5] := by
  match l, h with
  | [c0, c1, c2, c3, c4, c5], _ => exact ⟨c0, c1, c2, c3, c4, c5, rfl⟩
set_option linter.unusedSimpArgs false
section
variable {H : Type} {enc : TypeId × Value → H} {W : World} {base b0 : Nat} {spare : Nat → Bool} {held : Bool}
set_option maxHeartbeats 2000000 in
theorem trod_colZ {a0 a1 a2 a3 : Value} {fuel : Nat} {x : DataW H × List MemPlace} (hf : DataW.trod enc Try.prog W base spare held fuel 23 [a0, a1, a2, a3] = some x) :
    ∃ c : Nat → Int, (a0 = .int .i64 (c 0) ∧ a1 = .int .i64 (c 1) ∧ a2 = .int .i64 (c 2) ∧ a3 = .int .i64 (c 3)) ∧
      x = (.agg [.lit (.int .i64 (c 0)), .lit (.int .i64 (c 1)), .lit (.int .i64 (c 2)), .lit (.int .i64 (c 3))], []) ∧ ∀ i, i < 4 → (Lit.int .i64 (c i)).wf = true := by
  obtain ⟨ys, m, _, hx, _, hl2, hfs⟩ := DataW.trod_struct Try.underlying23 hf
  match ys, hl2 with
  | [y0, y1, y2, y3], _ =>
    have h0 := hfs 0 _ rfl
    have h1 := hfs 1 _ rfl
    have h2 := hfs 2 _ rfl
    have h3 := hfs 3 _ rfl
    simp [cellsZI] at h0 h1 h2 h3
    obtain ⟨x0, e0, rfl, w0⟩ := DataW.trod_int Try.underlying3 h0
    obtain ⟨x1, e1, rfl, w1⟩ := DataW.trod_int Try.underlying3 h1
    obtain ⟨x2, e2, rfl, w2⟩ := DataW.trod_int Try.underlying3 h2
    obtain ⟨x3, e3, rfl, w3⟩ := DataW.trod_int Try.underlying3 h3
    simp at e0 e1 e2 e3
    subst e0 e1 e2 e3
    subst hx
    refine ⟨fun i => [x0, x1, x2, x3].getD i 0, ⟨rfl, rfl, rfl, rfl⟩, rfl, fun i hi => ?_⟩
    rcases i with _ | _ | _ | _ | i
    · exact w0
    · exact w1
    · exact w2
    · exact w3
    · omega
set_option linter.unusedSimpArgs false in
set_option maxRecDepth 100000 in
set_option maxHeartbeats 8000000 in
theorem open_px {v : Value} {d : DataW H} {pl : List MemPlace}
    (hv : Value.okWide Try.prog W .any b0 25 v) (h : DataW.Trod enc Try.prog W base spare held 25 v d pl) :
    ∃ p : Nat → Int, v = .agg #[.int .i64 (p 0), .int .i64 (p 1), .int .i64 (p 2), .int .i64 (p 3), .int .i64 (p 4), .int .i64 (p 5)] ∧ d = .agg [.agg [.lit (.int .i64 (p 0)), .lit (.int .i64 (p 1)), .lit (.int .i64 (p 2)), .lit (.int .i64 (p 3))], .lit (.int .i64 (p 4)), .lit (.int .i64 (p 5))] ∧ pl = [] ∧ ∀ i, i < 6 → (Lit.int .i64 (p i)).wf = true := by
  obtain ⟨⟨l⟩, rfl, hsz, _⟩ : ∃ cs, v = .agg cs ∧ cs.size = Try.prog.cellsOf 25 ∧ Row.okWide Try.prog W .any b0 25 cs := by
    simpa [Value.okWide, Try.underlying25] using hv
  rw [cellsZP] at hsz
  obtain ⟨fuel, hf⟩ := h
  obtain ⟨c0, c1, c2, c3, c4, c5, rfl⟩ := list_ofZ6 l hsz
  obtain ⟨ys, n, _, hx, _, hl, hfs⟩ := DataW.trod_struct Try.underlying25 hf
  match ys, hl with
  | [y0, y1, y2], _ =>
    have h0 := hfs 0 _ rfl
    have h1 := hfs 1 _ rfl
    have h2 := hfs 2 _ rfl
    simp [Value.cells, cellsZI, cellsZC] at h0 h1 h2
    clear hfs hf hv
    simp at hx
    obtain ⟨rfl, rfl⟩ := hx
    obtain ⟨m, ⟨rfl, rfl, rfl, rfl⟩, e0, w0⟩ := trod_colZ h0
    obtain ⟨x1, e1, rfl, w1⟩ := DataW.trod_int Try.underlying3 h1
    obtain ⟨x2, e2, rfl, w2⟩ := DataW.trod_int Try.underlying3 h2
    simp at e1 e2
    subst e0 e1 e2
    refine ⟨fun i => if i < 4 then m i else if i = 4 then x1 else x2, rfl, rfl, rfl, fun i hi => ?_⟩
    dsimp only
    split
    · exact w0 i (by assumption)
    split
    · exact w1
    · exact w2
set_option linter.unusedSimpArgs false in
set_option maxRecDepth 100000 in
set_option maxHeartbeats 8000000 in
theorem shut_px {p : Nat → Int} (w : ∀ i, i < 6 → (Lit.int .i64 (p i)).wf = true) :
    DataW.Trod enc Try.prog W base spare held 25 (.agg #[.int .i64 (p 0), .int .i64 (p 1), .int .i64 (p 2), .int .i64 (p 3), .int .i64 (p 4), .int .i64 (p 5)]) (.agg [.agg [.lit (.int .i64 (p 0)), .lit (.int .i64 (p 1)), .lit (.int .i64 (p 2)), .lit (.int .i64 (p 3))], .lit (.int .i64 (p 4)), .lit (.int .i64 (p 5))]) [] := by
  have w0 := w 0 (by omega)
  have w1 := w 1 (by omega)
  have w2 := w 2 (by omega)
  have w3 := w 3 (by omega)
  have w4 := w 4 (by omega)
  have w5 := w 5 (by omega)
  exact ⟨4, by simp [DataW.trod, Value.cells, Try.underlying25, Try.underlying23, Try.underlying3, cellsZI, cellsZC, cellsZP, w0, w1, w2, w3, w4, w5]⟩
set_option linter.unusedSimpArgs false in
set_option maxRecDepth 100000 in
set_option maxHeartbeats 8000000 in
theorem open_frag {v : Value} {d : DataW H} {pl : List MemPlace}
    (hv : Value.okWide Try.prog W .any b0 27 v) (h : DataW.Trod enc Try.prog W base spare held 27 v d pl) :
    ∃ p : Nat → Int, v = .agg #[.int .i64 (p 0), .int .i64 (p 1), .int .i64 (p 2), .int .i64 (p 3), .int .i64 (p 4)] ∧ d = .agg [.agg [.lit (.int .i64 (p 0)), .lit (.int .i64 (p 1)), .lit (.int .i64 (p 2)), .lit (.int .i64 (p 3))], .lit (.int .i64 (p 4))] ∧ pl = [] ∧ ∀ i, i < 5 → (Lit.int .i64 (p i)).wf = true := by
  obtain ⟨⟨l⟩, rfl, hsz, _⟩ : ∃ cs, v = .agg cs ∧ cs.size = Try.prog.cellsOf 27 ∧ Row.okWide Try.prog W .any b0 27 cs := by
    simpa [Value.okWide, Try.underlying27] using hv
  rw [cellsZF] at hsz
  obtain ⟨fuel, hf⟩ := h
  obtain ⟨c0, c1, c2, c3, c4, rfl⟩ := list_ofZ5 l hsz
  obtain ⟨ys, n, _, hx, _, hl, hfs⟩ := DataW.trod_struct Try.underlying27 hf
  match ys, hl with
  | [y0, y1], _ =>
    have h0 := hfs 0 _ rfl
    have h1 := hfs 1 _ rfl
    simp [Value.cells, cellsZI, cellsZC] at h0 h1
    clear hfs hf hv
    simp at hx
    obtain ⟨rfl, rfl⟩ := hx
    obtain ⟨m, ⟨rfl, rfl, rfl, rfl⟩, e0, w0⟩ := trod_colZ h0
    obtain ⟨x1, e1, rfl, w1⟩ := DataW.trod_int Try.underlying3 h1
    simp at e1
    subst e0 e1
    refine ⟨fun i => if i < 4 then m i else x1, rfl, rfl, rfl, fun i hi => ?_⟩
    dsimp only
    split
    · exact w0 i (by assumption)
    · exact w1
set_option linter.unusedSimpArgs false in
set_option maxRecDepth 100000 in
set_option maxHeartbeats 8000000 in
theorem shut_frag {p : Nat → Int} (w : ∀ i, i < 5 → (Lit.int .i64 (p i)).wf = true) :
    DataW.Trod enc Try.prog W base spare held 27 (.agg #[.int .i64 (p 0), .int .i64 (p 1), .int .i64 (p 2), .int .i64 (p 3), .int .i64 (p 4)]) (.agg [.agg [.lit (.int .i64 (p 0)), .lit (.int .i64 (p 1)), .lit (.int .i64 (p 2)), .lit (.int .i64 (p 3))], .lit (.int .i64 (p 4))]) [] := by
  have w0 := w 0 (by omega)
  have w1 := w 1 (by omega)
  have w2 := w 2 (by omega)
  have w3 := w 3 (by omega)
  have w4 := w 4 (by omega)
  exact ⟨4, by simp [DataW.trod, Value.cells, Try.underlying27, Try.underlying23, Try.underlying3, cellsZI, cellsZC, cellsZF, w0, w1, w2, w3, w4]⟩
end
end Go.Proofs.Ytankjlpanmmogaa
