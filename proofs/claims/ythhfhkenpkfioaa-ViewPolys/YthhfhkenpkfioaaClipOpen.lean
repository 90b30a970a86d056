/-
  Corners, and rows of corners, as arguments: what a reading of one says of its value, and back.
-/
import Derived.Test.YthhfhkenpkfioaaClipRows
import Derived.ChangeSlices
import Derived.Carry
namespace Go.Proofs.Ythhfhkenpkfioaa
open Go.ChangeShapes Go.WideShapes Go.ChangeAt Go.RowKit

theorem cellsCI : Try.prog.cellsOf 3 = 1 := by kernel_rfl
theorem cellsCV : Try.prog.cellsOf 23 = 4 := by kernel_rfl
theorem cellsC6 : Try.prog.cellsOf 24 = 6 := by kernel_rfl
theorem cellsCC : Try.prog.cellsOf 26 = 10 := by kernel_rfl
theorem laidOutC : laidOutB Try.prog = true := by kernel_rfl
theorem list_of10 {α : Type} (l : List α) (h : l.length = 10) : ∃ a b c d e f g h i j, l = [a, b, c, d, e, f, g, h, i, j] := by
  match l, h with
  | [a, b, c, d, e, f, g, h, i, j], _ => exact ⟨a, b, c, d, e, f, g, h, i, j, rfl⟩
theorem Cl.cs_get0 (c : Cn) : (Cl.cs c)[0]? = some (.int .i64 (c 0)) := rfl
/-- ten numbers, as a function of the place -/
def Cl.of (x0 x1 x2 x3 x4 x5 x6 x7 x8 x9 : Int) : Cn
  | 0 => x0 | 1 => x1 | 2 => x2 | 3 => x3 | 4 => x4 | 5 => x5 | 6 => x6 | 7 => x7 | 8 => x8 | _ => x9
section
variable {H : Type} {enc : TypeId × Value → H} {W : World} {base b0 : Nat} {spare : Nat → Bool} {held : Bool}
/-- ten cells that read as a corner -/
theorem open_cells {cs : List Value} {fuel : Nat} {x : DataW H × List MemPlace} (hl : cs.length = 10) (hf : DataW.trod enc Try.prog W base spare held fuel 26 cs = some x) :
    ∃ c : Cn, cs = [.int .i64 (c 0), .int .i64 (c 1), .int .i64 (c 2), .int .i64 (c 3), .int .i64 (c 4), .int .i64 (c 5), .int .i64 (c 6), .int .i64 (c 7), .int .i64 (c 8), .int .i64 (c 9)] ∧ x = (.agg [.agg [.lit (.int .i64 (c 0)), .lit (.int .i64 (c 1)), .lit (.int .i64 (c 2)), .lit (.int .i64 (c 3))], .agg [.lit (.int .i64 (c 4)), .lit (.int .i64 (c 5)), .lit (.int .i64 (c 6)), .lit (.int .i64 (c 7)), .lit (.int .i64 (c 8)), .lit (.int .i64 (c 9))]], []) ∧
      ∀ i, i < 10 → (Lit.int .i64 (c i)).wf = true := by
  obtain ⟨a0, a1, a2, a3, a4, a5, a6, a7, a8, a9, rfl⟩ := list_of10 cs hl
  obtain ⟨ys, m, _, hx, _, hl2, hfs⟩ := DataW.trod_struct Try.underlying26 hf
  match ys, hl2 with
  | [y0, y1], _ =>
    have h0 := hfs 0 _ rfl
    have h1 := hfs 1 _ rfl
    simp [cellsCV, cellsC6] at h0 h1
    obtain ⟨zs, m2, _, hz, _, hl3, hfs2⟩ := DataW.trod_struct Try.underlying23 h0
    match zs, hl3 with
    | [z0, z1, z2, z3], _ =>
      have g0 := hfs2 0 _ rfl
      have g1 := hfs2 1 _ rfl
      have g2 := hfs2 2 _ rfl
      have g3 := hfs2 3 _ rfl
      simp [cellsCI] at g0 g1 g2 g3
      obtain ⟨x0, e0, rfl, w0⟩ := DataW.trod_int Try.underlying3 g0
      obtain ⟨x1, e1, rfl, w1⟩ := DataW.trod_int Try.underlying3 g1
      obtain ⟨x2, e2, rfl, w2⟩ := DataW.trod_int Try.underlying3 g2
      obtain ⟨x3, e3, rfl, w3⟩ := DataW.trod_int Try.underlying3 g3
      obtain ⟨us, m3, _, hu, _, hl4, hfs3⟩ := DataW.trod_array Try.underlying24 h1
      match us, hl4 with
      | [t4, t5, t6, t7, t8, t9], _ =>
        have g4 := hfs3 0 (by omega)
        have g5 := hfs3 1 (by omega)
        have g6 := hfs3 2 (by omega)
        have g7 := hfs3 3 (by omega)
        have g8 := hfs3 4 (by omega)
        have g9 := hfs3 5 (by omega)
        simp [cellsCI] at g4 g5 g6 g7 g8 g9
        obtain ⟨x4, e4, rfl, w4⟩ := DataW.trod_int Try.underlying3 g4
        obtain ⟨x5, e5, rfl, w5⟩ := DataW.trod_int Try.underlying3 g5
        obtain ⟨x6, e6, rfl, w6⟩ := DataW.trod_int Try.underlying3 g6
        obtain ⟨x7, e7, rfl, w7⟩ := DataW.trod_int Try.underlying3 g7
        obtain ⟨x8, e8, rfl, w8⟩ := DataW.trod_int Try.underlying3 g8
        obtain ⟨x9, e9, rfl, w9⟩ := DataW.trod_int Try.underlying3 g9
        simp at e0 e1 e2 e3 e4 e5 e6 e7 e8 e9
        subst e0 e1 e2 e3 e4 e5 e6 e7 e8 e9
        subst hz hu hx
        refine ⟨Cl.of x0 x1 x2 x3 x4 x5 x6 x7 x8 x9, rfl, rfl, fun i hi => ?_⟩
        rcases i with _ | _ | _ | _ | _ | _ | _ | _ | _ | _ | i
        · exact w0
        · exact w1
        · exact w2
        · exact w3
        · exact w4
        · exact w5
        · exact w6
        · exact w7
        · exact w8
        · exact w9
        · omega
theorem open_corner {v : Value} {d : DataW H} {p : List MemPlace}
    (hv : Value.okWide Try.prog W .any b0 26 v) (h : DataW.Trod enc Try.prog W base spare held 26 v d p) :
    ∃ c : Cn, v = .agg #[.int .i64 (c 0), .int .i64 (c 1), .int .i64 (c 2), .int .i64 (c 3), .int .i64 (c 4), .int .i64 (c 5), .int .i64 (c 6), .int .i64 (c 7), .int .i64 (c 8), .int .i64 (c 9)] ∧ d = .agg [.agg [.lit (.int .i64 (c 0)), .lit (.int .i64 (c 1)), .lit (.int .i64 (c 2)), .lit (.int .i64 (c 3))], .agg [.lit (.int .i64 (c 4)), .lit (.int .i64 (c 5)), .lit (.int .i64 (c 6)), .lit (.int .i64 (c 7)), .lit (.int .i64 (c 8)), .lit (.int .i64 (c 9))]] ∧ p = [] ∧
      ∀ i, i < 10 → (Lit.int .i64 (c i)).wf = true := by
  obtain ⟨cs, rfl, hsz, _⟩ : ∃ cs, v = .agg cs ∧ cs.size = Try.prog.cellsOf 26 ∧ Row.okWide Try.prog W .any b0 26 cs := by
    simpa [Value.okWide, Try.underlying26] using hv
  rw [cellsCC] at hsz
  obtain ⟨l⟩ := cs
  obtain ⟨fuel, hf⟩ := h
  obtain ⟨c, e1, e2, hw⟩ := open_cells (cs := l) (by simpa using hsz) (by simpa [Value.cells] using hf)
  simp only [Prod.mk.injEq] at e2
  obtain ⟨rfl, rfl⟩ := e2
  subst e1
  exact ⟨c, rfl, rfl, rfl, hw⟩
theorem shut_corner {c : Cn} (h : ∀ i, i < 10 → (Lit.int .i64 (c i)).wf = true) :
    DataW.Trod enc Try.prog W base spare held 26 (.agg #[.int .i64 (c 0), .int .i64 (c 1), .int .i64 (c 2), .int .i64 (c 3), .int .i64 (c 4), .int .i64 (c 5), .int .i64 (c 6), .int .i64 (c 7), .int .i64 (c 8), .int .i64 (c 9)]) (.agg [.agg [.lit (.int .i64 (c 0)), .lit (.int .i64 (c 1)), .lit (.int .i64 (c 2)), .lit (.int .i64 (c 3))], .agg [.lit (.int .i64 (c 4)), .lit (.int .i64 (c 5)), .lit (.int .i64 (c 6)), .lit (.int .i64 (c 7)), .lit (.int .i64 (c 8)), .lit (.int .i64 (c 9))]]) [] := by
  have w0 := h 0 (by omega)
  have w1 := h 1 (by omega)
  have w2 := h 2 (by omega)
  have w3 := h 3 (by omega)
  have w4 := h 4 (by omega)
  have w5 := h 5 (by omega)
  have w6 := h 6 (by omega)
  have w7 := h 7 (by omega)
  have w8 := h 8 (by omega)
  have w9 := h 9 (by omega)
  exact ⟨3, by simp [DataW.trod, Value.cells, Try.underlying26, Try.underlying23, Try.underlying24, Try.underlying3, cellsCC, cellsCV, cellsC6, cellsCI, w0, w1, w2, w3, w4, w5, w6, w7, w8, w9, show List.range 6 = [0, 1, 2, 3, 4, 5] from rfl]⟩
/-- an argument that is a row of corners -/
theorem open_poly {a0 : Option Addr} {len cap : Nat} {d : DataW H} {ps : List MemPlace} (h : DataW.Trod enc Try.prog W 0 (fun _ => true) true 43 (.slice a0 len cap) d ps) :
    ∃ l : List Cn, Sp W (.slice a0 len cap) l ∧ l.length ≤ 9223372036854775807 := by
  obtain ⟨fuel, hf⟩ := h
  rcases DataW.trod_slice Try.underlying43 hf with ⟨hcs, hx⟩ | ⟨a, len', cap', elems, rest, n, _, hcs, hx, hb, hl, hm, hlen, hel, hsp, hns⟩
  · simp [Value.cells] at hcs
    obtain ⟨rfl, rfl, rfl⟩ := hcs
    exact ⟨[], Sp.nil W, Nat.zero_le _⟩
  · simp [Value.cells] at hcs
    obtain ⟨rfl, rfl, rfl⟩ := hcs
    rw [cellsCC] at hel hx
    have each : ∀ i, ∃ c : Cn, i < len → ∀ j, j < 10 → W.cell? ((a.add (i * 10)).add j) = (Cl.cs c)[j]? := by
      intro i
      by_cases hi : i < len
      · have h1 := hel i hi
        rw [List.getElem?_eq_getElem (by omega), Option.bind_eq_some_iff] at h1
        obtain ⟨cs, h2, h3⟩ := h1
        obtain ⟨_, h4, h5⟩ := World.cells?_some h2
        obtain ⟨c, e1, _, _⟩ := open_cells h4 h3
        exact ⟨c, fun _ j hj => by rw [h5 j hj, e1]; rfl⟩
      · exact ⟨fun _ => 0, fun h => absurd h hi⟩
    obtain ⟨f, hf2⟩ := Classical.skolem.1 each
    refine ⟨(List.range len).map f, ⟨some a, cap, by simp, ⟨by simpa using hl, fun e => by cases e⟩, fun i c hi => ?_⟩, by simp; unfold maxLen at hm; omega⟩
    have hil : i < len := by have := (List.getElem?_eq_some_iff.1 hi).1; simpa using this
    have hc : c = f i := by simpa [hil] using hi.symm
    subst hc
    have h0 := hf2 i hil
    obtain ⟨b, off, spot⟩ := a
    have hspot : spot = none := by
      have h1 := hf2 0 (by omega) 0 (by omega)
      rw [Cl.cs_get0] at h1
      simpa [Addr.add] using World.cell?_spot h1
    subst hspot
    have hcell : ∀ j v, (Cl.cs (f i))[j]? = some v → W.cell? ⟨b, off + i * 10 + j, none⟩ = some v := fun j v hv => by
      have hj : j < 10 := by have := (List.getElem?_eq_some_iff.1 hv).1; rwa [Cl.cs_len] at this
      have h1 := h0 j hj
      rw [Addr.add_mid, Addr.add_mid, hv] at h1
      exact h1
    refine ⟨b, off, rfl, ?_, hcell⟩
    exact World.block_lt_of_cell? W _ (hcell 0 _ (Cl.cs_get0 _))
/-- an argument that is a slice reads as it did: of what stood nothing has turned -/
theorem shut_keptC {W' : World} {v : Value} {d : DataW H} {ps before : List MemPlace} {t : TypeId} {sp : Nat → Bool} (h : DataW.Trod enc Try.prog W 0 (fun _ => true) true t v d ps)
    (hr : Try.prog.readableRec t = true) (ht : t < Try.prog.types.size) (hk : Below W.heap.size W W') (hlt : ∀ x ∈ ps, x.block < W.heap.size) (hs : ∀ p ∈ before, sp p.block = true) (hsub : ∀ x ∈ ps, x ∈ before) :
    DataW.Trod enc Try.prog W' 0 sp true t v d ps :=
  WideElems.Trod_stays laidOutC hr ht h (fun x hx => hk.same (hlt x hx)) (fun x hx => hs x (hsub x hx))
end
end Go.Proofs.Ythhfhkenpkfioaa
