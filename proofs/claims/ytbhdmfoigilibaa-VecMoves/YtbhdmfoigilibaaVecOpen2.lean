/-
  Three numbers and a vertex as arguments: what a reading of one says of its value, and back.
-/
import Derived.Test.YtbhdmfoigilibaaVecOpen
namespace Go.Proofs.Ytbhdmfoigilibaa
open Go.ChangeShapes Go.WideShapes Go.ChangeAt Go.RowKit

theorem cellsI3 : Try.prog.cellsOf 40 = 3 := by kernel_rfl
theorem cellsC : Try.prog.cellsOf 42 = 4 := by kernel_rfl
theorem cellsX : Try.prog.cellsOf 44 = 9 := by kernel_rfl
section
variable {H : Type} {enc : TypeId × Value → H} {W : World} {base b0 : Nat} {spare : Nat → Bool} {held : Bool}
theorem list3 {α : Type} (l : List α) (h : (⟨l⟩ : Array α).size = 3) : ∃ a b c, l = [a, b, c] := by
  match l, h with
  | [a, b, c], _ => exact ⟨a, b, c, rfl⟩
theorem list9 {α : Type} (l : List α) (h : (⟨l⟩ : Array α).size = 9) : ∃ a b c d e f g i j, l = [a, b, c, d, e, f, g, i, j] := by
  match l, h with
  | [a, b, c, d, e, f, g, i, j], _ => exact ⟨a, b, c, d, e, f, g, i, j, rfl⟩
theorem open_ints3 {v : Value} {d : DataW H} {p : List MemPlace}
    (hv : Value.okWide Try.prog W .any b0 40 v) (h : DataW.Trod enc Try.prog W base spare held 40 v d p) :
    ∃ x0 x1 x2 : Int, v = .agg #[.int .i64 x0, .int .i64 x1, .int .i64 x2] ∧ d = .agg [.lit (.int .i64 x0), .lit (.int .i64 x1), .lit (.int .i64 x2)] ∧ p = [] ∧ (Lit.int .i64 x0).wf = true ∧ (Lit.int .i64 x1).wf = true ∧ (Lit.int .i64 x2).wf = true := by
  obtain ⟨cs, rfl, hsz, _⟩ : ∃ cs, v = .agg cs ∧ cs.size = Try.prog.cellsOf 40 ∧ Row.okWide Try.prog W .any b0 40 cs := by
    simpa [Value.okWide, Try.underlying40] using hv
  rw [cellsI3] at hsz
  obtain ⟨l⟩ := cs
  obtain ⟨c0, c1, c2, rfl⟩ := list3 l hsz
  obtain ⟨fuel, hf⟩ := h
  obtain ⟨y0, y1, y2, m, hx, hy0, hy1, hy2⟩ := trod_array3 Try.underlying40 cellsI hf
  obtain ⟨x0, e0, rfl, w0⟩ := DataW.trod_int Try.underlying3 hy0
  obtain ⟨x1, e1, rfl, w1⟩ := DataW.trod_int Try.underlying3 hy1
  obtain ⟨x2, e2, rfl, w2⟩ := DataW.trod_int Try.underlying3 hy2
  simp at e0 e1 e2
  subst e0 e1 e2
  simp only [Prod.mk.injEq] at hx
  obtain ⟨rfl, rfl⟩ := hx
  exact ⟨x0, x1, x2, rfl, rfl, rfl, w0, w1, w2⟩
theorem shut_ints3 {x0 x1 x2 : Int} (w0 : (Lit.int .i64 x0).wf = true) (w1 : (Lit.int .i64 x1).wf = true) (w2 : (Lit.int .i64 x2).wf = true) :
    DataW.Trod enc Try.prog W base spare held 40 (.agg #[.int .i64 x0, .int .i64 x1, .int .i64 x2]) (.agg [.lit (.int .i64 x0), .lit (.int .i64 x1), .lit (.int .i64 x2)]) [] :=
  ⟨2, by simp [DataW.trod, Value.cells, Try.underlying40, Try.underlying3, cellsI3, cellsI, w0, w1, w2, show List.range 3 = [0, 1, 2] from rfl]⟩

theorem open_vertex {v : Value} {d : DataW H} {p : List MemPlace}
    (hv : Value.okWide Try.prog W .any b0 44 v) (h : DataW.Trod enc Try.prog W base spare held 44 v d p) :
    ∃ x y z c0 c1 c2 c3 c4 c5 : Int, v = .agg #[.int .i64 x, .int .i64 y, .int .i64 z, .int .i64 c0, .int .i64 c1, .int .i64 c2, .int .i64 c3, .int .i64 c4, .int .i64 c5]
      ∧ d = .agg [.lit (.int .i64 x), .lit (.int .i64 y), .lit (.int .i64 z), .agg [.lit (.int .i64 c0), .lit (.int .i64 c1), .lit (.int .i64 c2), .lit (.int .i64 c3)], .lit (.int .i64 c4), .lit (.int .i64 c5)] ∧ p = []
      ∧ (Lit.int .i64 x).wf = true ∧ (Lit.int .i64 y).wf = true ∧ (Lit.int .i64 z).wf = true ∧ (Lit.int .i64 c0).wf = true ∧ (Lit.int .i64 c1).wf = true ∧ (Lit.int .i64 c2).wf = true ∧ (Lit.int .i64 c3).wf = true ∧ (Lit.int .i64 c4).wf = true ∧ (Lit.int .i64 c5).wf = true := by
  obtain ⟨cs, rfl, hsz, _⟩ : ∃ cs, v = .agg cs ∧ cs.size = Try.prog.cellsOf 44 ∧ Row.okWide Try.prog W .any b0 44 cs := by
    simpa [Value.okWide, Try.underlying44] using hv
  rw [cellsX] at hsz
  obtain ⟨l⟩ := cs
  obtain ⟨a0, a1, a2, a3, a4, a5, a6, a7, a8, rfl⟩ := list9 l hsz
  obtain ⟨fuel, hf⟩ := h
  obtain ⟨ys, m, _, hx, _, hl, hfs⟩ := DataW.trod_struct Try.underlying44 hf
  match ys, hl with
  | [y0, y1, y2, y3, y4, y5], _ =>
    have h0 := hfs 0 _ rfl
    have h1 := hfs 1 _ rfl
    have h2 := hfs 2 _ rfl
    have h3 := hfs 3 _ rfl
    have h4 := hfs 4 _ rfl
    have h5 := hfs 5 _ rfl
    simp [Value.cells, cellsI, cellsC] at h0 h1 h2 h3 h4 h5
    obtain ⟨x0, e0, rfl, w0⟩ := DataW.trod_int Try.underlying3 h0
    obtain ⟨x1, e1, rfl, w1⟩ := DataW.trod_int Try.underlying3 h1
    obtain ⟨x2, e2, rfl, w2⟩ := DataW.trod_int Try.underlying3 h2
    obtain ⟨x7, e7, rfl, w7⟩ := DataW.trod_int Try.underlying3 h4
    obtain ⟨x8, e8, rfl, w8⟩ := DataW.trod_int Try.underlying3 h5
    obtain ⟨zs, n, _, hz, _, hl2, hfs2⟩ := DataW.trod_struct Try.underlying42 h3
    match zs, hl2 with
    | [z0, z1, z2, z3], _ =>
      have g0 := hfs2 0 _ rfl
      have g1 := hfs2 1 _ rfl
      have g2 := hfs2 2 _ rfl
      have g3 := hfs2 3 _ rfl
      simp [cellsI] at g0 g1 g2 g3
      obtain ⟨x3, e3, rfl, w3⟩ := DataW.trod_int Try.underlying3 g0
      obtain ⟨x4, e4, rfl, w4⟩ := DataW.trod_int Try.underlying3 g1
      obtain ⟨x5, e5, rfl, w5⟩ := DataW.trod_int Try.underlying3 g2
      obtain ⟨x6, e6, rfl, w6⟩ := DataW.trod_int Try.underlying3 g3
      simp at e0 e1 e2 e3 e4 e5 e6 e7 e8
      subst e0 e1 e2 e3 e4 e5 e6 e7 e8
      subst hz
      simp only [List.map_cons, List.map_nil, List.flatMap_cons, List.flatMap_nil, List.append_nil, Prod.mk.injEq] at hx
      obtain ⟨rfl, rfl⟩ := hx
      exact ⟨x0, x1, x2, x3, x4, x5, x6, x7, x8, rfl, rfl, rfl, w0, w1, w2, w3, w4, w5, w6, w7, w8⟩
theorem shut_vertex {x y z c0 c1 c2 c3 c4 c5 : Int} (u0 : (Lit.int .i64 x).wf = true) (u1 : (Lit.int .i64 y).wf = true) (u2 : (Lit.int .i64 z).wf = true) (u3 : (Lit.int .i64 c0).wf = true) (u4 : (Lit.int .i64 c1).wf = true) (u5 : (Lit.int .i64 c2).wf = true) (u6 : (Lit.int .i64 c3).wf = true) (u7 : (Lit.int .i64 c4).wf = true) (u8 : (Lit.int .i64 c5).wf = true) :
    DataW.Trod enc Try.prog W base spare held 44 (.agg #[.int .i64 x, .int .i64 y, .int .i64 z, .int .i64 c0, .int .i64 c1, .int .i64 c2, .int .i64 c3, .int .i64 c4, .int .i64 c5])
      (.agg [.lit (.int .i64 x), .lit (.int .i64 y), .lit (.int .i64 z), .agg [.lit (.int .i64 c0), .lit (.int .i64 c1), .lit (.int .i64 c2), .lit (.int .i64 c3)], .lit (.int .i64 c4), .lit (.int .i64 c5)]) [] :=
  ⟨3, by simp [DataW.trod, Value.cells, Try.underlying44, Try.underlying42, Try.underlying3, cellsX, cellsC, cellsI, u0, u1, u2, u3, u4, u5, u6, u7, u8]⟩
end
end Go.Proofs.Ytbhdmfoigilibaa
