/-
  Three spots as an argument: what a reading of one says of its value, and back.
-/
import Derived.Test.YtankjlpanmmogaaGreatJVecPlain
import Derived.Lib.SmallJoins
import Derived.Laws.IdiomArrays
namespace Go.Proofs.YtankjlpanmmogaaGreat
set_option maxRecDepth 100000
open Go.ChangeShapes Go.WideShapes Go.ChangeAt Go.RowKit

theorem cellsTI : Tryz.prog.cellsOf 3 = 1 := by kernel_rfl
theorem cellsTP : Tryz.prog.cellsOf 23 = 2 := by kernel_rfl
theorem cellsT6 : Tryz.prog.cellsOf 24 = 6 := by kernel_rfl
theorem cellsTS : Tryz.prog.cellsOf 26 = 9 := by kernel_rfl
theorem cellsT3 : Tryz.prog.cellsOf 27 = 27 := by kernel_rfl
/-- nine numbers, as a function of the place -/
def Tr.of (x0 x1 x2 x3 x4 x5 x6 x7 x8 : Int) : Nat → Int
  | 0 => x0 | 1 => x1 | 2 => x2 | 3 => x3 | 4 => x4 | 5 => x5 | 6 => x6 | 7 => x7 | _ => x8
theorem list_of27 {α : Type} (l : List α) (h : l.length = 27) : ∃ c0 c1 c2 c3 c4 c5 c6 c7 c8 c9 c10 c11 c12 c13 c14 c15 c16 c17 c18 c19 c20 c21 c22 c23 c24 c25 c26, l = [c0, c1, c2, c3, c4, c5, c6, c7, c8, c9, c10, c11, c12, c13, c14, c15, c16, c17, c18, c19, c20, c21, c22, c23, c24, c25, c26] := by
  match l, h with
  | [c0, c1, c2, c3, c4, c5, c6, c7, c8, c9, c10, c11, c12, c13, c14, c15, c16, c17, c18, c19, c20, c21, c22, c23, c24, c25, c26], _ => exact ⟨c0, c1, c2, c3, c4, c5, c6, c7, c8, c9, c10, c11, c12, c13, c14, c15, c16, c17, c18, c19, c20, c21, c22, c23, c24, c25, c26, rfl⟩
set_option linter.unusedSimpArgs false
section
variable {H : Type} {enc : TypeId × Value → H} {W : World} {base b0 : Nat} {spare : Nat → Bool} {held : Bool}
/-- nine cells that read as a spot -/
theorem trod_spot {a0 a1 a2 a3 a4 a5 a6 a7 a8 : Value} {fuel : Nat} {x : DataW H × List MemPlace} (hf : DataW.trod enc Tryz.prog W base spare held fuel 26 [a0, a1, a2, a3, a4, a5, a6, a7, a8] = some x) :
    ∃ c : Nat → Int, (a0 = .int .i64 (c 0) ∧ a1 = .int .i64 (c 1) ∧ a2 = .int .i64 (c 2) ∧ a3 = .int .i64 (c 3) ∧ a4 = .int .i64 (c 4) ∧ a5 = .int .i64 (c 5) ∧ a6 = .int .i64 (c 6) ∧ a7 = .int .i64 (c 7) ∧ a8 = .int .i64 (c 8)) ∧
      x = (.agg [.agg [.lit (.int .i64 (c 0)), .lit (.int .i64 (c 1))], .lit (.int .i64 (c 2)), .agg [.lit (.int .i64 (c 3)), .lit (.int .i64 (c 4)), .lit (.int .i64 (c 5)), .lit (.int .i64 (c 6)), .lit (.int .i64 (c 7)), .lit (.int .i64 (c 8))]], []) ∧ ∀ i, i < 9 → (Lit.int .i64 (c i)).wf = true := by
  obtain ⟨ys, m, _, hx, _, hl2, hfs⟩ := DataW.trod_struct Tryz.underlying26 hf
  match ys, hl2 with
  | [y0, y1, y2], _ =>
    have h0 := hfs 0 _ rfl
    have h1 := hfs 1 _ rfl
    have h2 := hfs 2 _ rfl
    simp [cellsTP, cellsTI, cellsT6] at h0 h1 h2
    obtain ⟨zs, m2, _, hz, _, hl3, hfs2⟩ := DataW.trod_struct Tryz.underlying23 h0
    match zs, hl3 with
    | [z0, z1], _ =>
      have g0 := hfs2 0 _ rfl
      have g1 := hfs2 1 _ rfl
      simp [cellsTI] at g0 g1
      obtain ⟨x0, e0, rfl, w0⟩ := DataW.trod_int Tryz.underlying3 g0
      obtain ⟨x1, e1, rfl, w1⟩ := DataW.trod_int Tryz.underlying3 g1
      obtain ⟨x2, e2, rfl, w2⟩ := DataW.trod_int Tryz.underlying3 h1
      obtain ⟨us, m3, _, hu, _, hl4, hfs3⟩ := DataW.trod_array Tryz.underlying24 h2
      match us, hl4 with
      | [t3, t4, t5, t6, t7, t8], _ =>
        have g3 := hfs3 0 (by omega)
        have g4 := hfs3 1 (by omega)
        have g5 := hfs3 2 (by omega)
        have g6 := hfs3 3 (by omega)
        have g7 := hfs3 4 (by omega)
        have g8 := hfs3 5 (by omega)
        simp [cellsTI] at g3 g4 g5 g6 g7 g8
        obtain ⟨x3, e3, rfl, w3⟩ := DataW.trod_int Tryz.underlying3 g3
        obtain ⟨x4, e4, rfl, w4⟩ := DataW.trod_int Tryz.underlying3 g4
        obtain ⟨x5, e5, rfl, w5⟩ := DataW.trod_int Tryz.underlying3 g5
        obtain ⟨x6, e6, rfl, w6⟩ := DataW.trod_int Tryz.underlying3 g6
        obtain ⟨x7, e7, rfl, w7⟩ := DataW.trod_int Tryz.underlying3 g7
        obtain ⟨x8, e8, rfl, w8⟩ := DataW.trod_int Tryz.underlying3 g8
        simp at e0 e1 e2 e3 e4 e5 e6 e7 e8
        subst e0 e1 e2 e3 e4 e5 e6 e7 e8
        subst hz hu hx
        refine ⟨Tr.of x0 x1 x2 x3 x4 x5 x6 x7 x8, ⟨rfl, rfl, rfl, rfl, rfl, rfl, rfl, rfl, rfl⟩, rfl, fun i hi => ?_⟩
        rcases i with _ | _ | _ | _ | _ | _ | _ | _ | _ | i
        · exact w0
        · exact w1
        · exact w2
        · exact w3
        · exact w4
        · exact w5
        · exact w6
        · exact w7
        · exact w8
        · omega
set_option maxHeartbeats 1000000 in
theorem open_spots {v : Value} {d : DataW H} {p : List MemPlace}
    (hv : Value.okWide Tryz.prog W .any b0 27 v) (h : DataW.Trod enc Tryz.prog W base spare held 27 v d p) :
    ∃ a b c : Nat → Int, v = .agg #[.int .i64 (a 0), .int .i64 (a 1), .int .i64 (a 2), .int .i64 (a 3), .int .i64 (a 4), .int .i64 (a 5), .int .i64 (a 6), .int .i64 (a 7), .int .i64 (a 8), .int .i64 (b 0), .int .i64 (b 1), .int .i64 (b 2), .int .i64 (b 3), .int .i64 (b 4), .int .i64 (b 5), .int .i64 (b 6), .int .i64 (b 7), .int .i64 (b 8), .int .i64 (c 0), .int .i64 (c 1), .int .i64 (c 2), .int .i64 (c 3), .int .i64 (c 4), .int .i64 (c 5), .int .i64 (c 6), .int .i64 (c 7), .int .i64 (c 8)] ∧ d = .agg [.agg [.agg [.lit (.int .i64 (a 0)), .lit (.int .i64 (a 1))], .lit (.int .i64 (a 2)), .agg [.lit (.int .i64 (a 3)), .lit (.int .i64 (a 4)), .lit (.int .i64 (a 5)), .lit (.int .i64 (a 6)), .lit (.int .i64 (a 7)), .lit (.int .i64 (a 8))]], .agg [.agg [.lit (.int .i64 (b 0)), .lit (.int .i64 (b 1))], .lit (.int .i64 (b 2)), .agg [.lit (.int .i64 (b 3)), .lit (.int .i64 (b 4)), .lit (.int .i64 (b 5)), .lit (.int .i64 (b 6)), .lit (.int .i64 (b 7)), .lit (.int .i64 (b 8))]], .agg [.agg [.lit (.int .i64 (c 0)), .lit (.int .i64 (c 1))], .lit (.int .i64 (c 2)), .agg [.lit (.int .i64 (c 3)), .lit (.int .i64 (c 4)), .lit (.int .i64 (c 5)), .lit (.int .i64 (c 6)), .lit (.int .i64 (c 7)), .lit (.int .i64 (c 8))]]] ∧ p = [] ∧
      (∀ i, i < 9 → (Lit.int .i64 (a i)).wf = true) ∧ (∀ i, i < 9 → (Lit.int .i64 (b i)).wf = true) ∧ (∀ i, i < 9 → (Lit.int .i64 (c i)).wf = true) := by
  obtain ⟨⟨l⟩, rfl, hsz, _⟩ : ∃ cs, v = .agg cs ∧ cs.size = Tryz.prog.cellsOf 27 ∧ Row.okWide Tryz.prog W .any b0 27 cs := by
    simpa [Value.okWide, Tryz.underlying27] using hv
  rw [cellsT3] at hsz
  obtain ⟨fuel, hf⟩ := h
  obtain ⟨xs, n, _, hx, _, hl, hi⟩ := DataW.trod_array Tryz.underlying27 hf
  obtain ⟨c0, c1, c2, c3, c4, c5, c6, c7, c8, c9, c10, c11, c12, c13, c14, c15, c16, c17, c18, c19, c20, c21, c22, c23, c24, c25, c26, rfl⟩ := list_of27 l hsz
  match xs, hl with
  | [y0, y1, y2], _ =>
    simp only [Prod.mk.injEq] at hx
    obtain ⟨rfl, rfl⟩ := hx
    have h0 := hi 0 (by decide)
    simp only [Value.cells, cellsTS, List.drop, List.take, List.getElem?_cons_zero, List.getElem?_cons_succ, Nat.zero_mul, Nat.one_mul, Nat.reduceMul] at h0
    have h1 := hi 1 (by decide)
    simp only [Value.cells, cellsTS, List.drop, List.take, List.getElem?_cons_zero, List.getElem?_cons_succ, Nat.zero_mul, Nat.one_mul, Nat.reduceMul] at h1
    have h2 := hi 2 (by decide)
    simp only [Value.cells, cellsTS, List.drop, List.take, List.getElem?_cons_zero, List.getElem?_cons_succ, Nat.zero_mul, Nat.one_mul, Nat.reduceMul] at h2
    clear hi hf hv
    obtain ⟨a, ⟨rfl, rfl, rfl, rfl, rfl, rfl, rfl, rfl, rfl⟩, rfl, wa⟩ := trod_spot h0
    obtain ⟨b, ⟨rfl, rfl, rfl, rfl, rfl, rfl, rfl, rfl, rfl⟩, rfl, wb⟩ := trod_spot h1
    obtain ⟨c, ⟨rfl, rfl, rfl, rfl, rfl, rfl, rfl, rfl, rfl⟩, rfl, wc⟩ := trod_spot h2
    exact ⟨a, b, c, rfl, rfl, rfl, wa, wb, wc⟩

theorem trod_mk_spot {n : Nat} {c : Nat → Int} (w : ∀ i, i < 9 → (Lit.int .i64 (c i)).wf = true) :
    DataW.trod enc Tryz.prog W base spare held (n + 3) 26 [.int .i64 (c 0), .int .i64 (c 1), .int .i64 (c 2), .int .i64 (c 3), .int .i64 (c 4), .int .i64 (c 5), .int .i64 (c 6), .int .i64 (c 7), .int .i64 (c 8)] = some (.agg [.agg [.lit (.int .i64 (c 0)), .lit (.int .i64 (c 1))], .lit (.int .i64 (c 2)), .agg [.lit (.int .i64 (c 3)), .lit (.int .i64 (c 4)), .lit (.int .i64 (c 5)), .lit (.int .i64 (c 6)), .lit (.int .i64 (c 7)), .lit (.int .i64 (c 8))]], []) := by
  have w0 := w 0 (by omega)
  have w1 := w 1 (by omega)
  have w2 := w 2 (by omega)
  have w3 := w 3 (by omega)
  have w4 := w 4 (by omega)
  have w5 := w 5 (by omega)
  have w6 := w 6 (by omega)
  have w7 := w 7 (by omega)
  have w8 := w 8 (by omega)
  simp [DataW.trod, Value.cells, Tryz.underlying26, Tryz.underlying24, Tryz.underlying23, Tryz.underlying3, cellsTS, cellsTP, cellsT6, cellsTI, w0, w1, w2, w3, w4, w5, w6, w7, w8, show List.range 6 = [0, 1, 2, 3, 4, 5] from rfl]
set_option maxHeartbeats 1000000 in
theorem shut_spots {a b c : Nat → Int} (wa : ∀ i, i < 9 → (Lit.int .i64 (a i)).wf = true) (wb : ∀ i, i < 9 → (Lit.int .i64 (b i)).wf = true) (wc : ∀ i, i < 9 → (Lit.int .i64 (c i)).wf = true) :
    DataW.Trod enc Tryz.prog W base spare held 27 (.agg #[.int .i64 (a 0), .int .i64 (a 1), .int .i64 (a 2), .int .i64 (a 3), .int .i64 (a 4), .int .i64 (a 5), .int .i64 (a 6), .int .i64 (a 7), .int .i64 (a 8), .int .i64 (b 0), .int .i64 (b 1), .int .i64 (b 2), .int .i64 (b 3), .int .i64 (b 4), .int .i64 (b 5), .int .i64 (b 6), .int .i64 (b 7), .int .i64 (b 8), .int .i64 (c 0), .int .i64 (c 1), .int .i64 (c 2), .int .i64 (c 3), .int .i64 (c 4), .int .i64 (c 5), .int .i64 (c 6), .int .i64 (c 7), .int .i64 (c 8)]) (.agg [.agg [.agg [.lit (.int .i64 (a 0)), .lit (.int .i64 (a 1))], .lit (.int .i64 (a 2)), .agg [.lit (.int .i64 (a 3)), .lit (.int .i64 (a 4)), .lit (.int .i64 (a 5)), .lit (.int .i64 (a 6)), .lit (.int .i64 (a 7)), .lit (.int .i64 (a 8))]], .agg [.agg [.lit (.int .i64 (b 0)), .lit (.int .i64 (b 1))], .lit (.int .i64 (b 2)), .agg [.lit (.int .i64 (b 3)), .lit (.int .i64 (b 4)), .lit (.int .i64 (b 5)), .lit (.int .i64 (b 6)), .lit (.int .i64 (b 7)), .lit (.int .i64 (b 8))]], .agg [.agg [.lit (.int .i64 (c 0)), .lit (.int .i64 (c 1))], .lit (.int .i64 (c 2)), .agg [.lit (.int .i64 (c 3)), .lit (.int .i64 (c 4)), .lit (.int .i64 (c 5)), .lit (.int .i64 (c 6)), .lit (.int .i64 (c 7)), .lit (.int .i64 (c 8))]]]) [] := by
  refine ⟨4, ?_⟩
  have h0 := trod_mk_spot (enc := enc) (W := W) (base := base) (spare := spare) (held := held) (n := 0) wa
  have h1 := trod_mk_spot (enc := enc) (W := W) (base := base) (spare := spare) (held := held) (n := 0) wb
  have h2 := trod_mk_spot (enc := enc) (W := W) (base := base) (spare := spare) (held := held) (n := 0) wc
  unfold DataW.trod
  simp only [Tryz.underlying27]
  simp [Value.cells, cellsT3, cellsTS, show List.range 3 = [0, 1, 2] from rfl, h0, h1, h2]
end
end Go.Proofs.YtankjlpanmmogaaGreat
