/-
  States and commands as arguments: what a reading of one says of its value, and back (layer 18).
-/
import Derived.Test.YtankjlpanmmogaaJFragPlain
import Derived.Lib.SmallJoins
import Derived.Laws.IdiomArrays
import Derived.ChangeSlices
import Derived.Carry
import Derived.BigGuard
namespace Go.Proofs.Ytankjlpanmmogaa
set_option maxRecDepth 100000
open Go.RowKit

open Go.ChangeShapes Go.WideShapes Go.ChangeAt
theorem cellsXI : Try.prog.cellsOf 3 = 1 := by kernel_rfl
theorem cellsXB : Try.prog.cellsOf 4 = 1 := by kernel_rfl
theorem cellsXM : Try.prog.cellsOf 29 = 16 := by kernel_rfl
theorem cellsXR : Try.prog.cellsOf 31 = 4 := by kernel_rfl
theorem cellsXN : Try.prog.cellsOf 33 = 7 := by kernel_rfl
theorem cellsXL : Try.prog.cellsOf 35 = 4 := by kernel_rfl
theorem cellsXS : Try.prog.cellsOf 37 = 41 := by kernel_rfl
theorem cellsXV : Try.prog.cellsOf 108 = 1 := by kernel_rfl
theorem list_of41 {α : Type} (l : List α) (h : l.length = 41) : ∃ c0 c1 c2 c3 c4 c5 c6 c7 c8 c9 c10 c11 c12 c13 c14 c15 c16 c17 c18 c19 c20 c21 c22 c23 c24 c25 c26 c27 c28 c29 c30 c31 c32 c33 c34 c35 c36 c37 c38 c39 c40, l = [c0, c1, c2, c3, c4, c5, c6, c7, c8, c9, c10, c11, c12, c13, c14, c15, c16, c17, c18, c19, c20, c21, c22, c23, c24, c25, c26, c27, c28, c29, c30, c31, c32, c33, c34, c35, c36, c37, c38, c39, c40] := by
  match l, h with
  | c0 :: c1 :: c2 :: c3 :: c4 :: c5 :: c6 :: c7 :: c8 :: c9 :: c10 :: c11 :: c12 :: c13 :: c14 :: c15 :: c16 :: c17 :: c18 :: c19 :: c20 :: c21 :: c22 :: c23 :: c24 :: c25 :: c26 :: c27 :: c28 :: c29 :: c30 :: c31 :: c32 :: c33 :: c34 :: c35 :: c36 :: c37 :: c38 :: c39 :: c40 :: [], _ => exact ⟨c0, c1, c2, c3, c4, c5, c6, c7, c8, c9, c10, c11, c12, c13, c14, c15, c16, c17, c18, c19, c20, c21, c22, c23, c24, c25, c26, c27, c28, c29, c30, c31, c32, c33, c34, c35, c36, c37, c38, c39, c40, rfl⟩
theorem list_of8 {α : Type} (l : List α) (h : l.length = 8) : ∃ c0 c1 c2 c3 c4 c5 c6 c7, l = [c0, c1, c2, c3, c4, c5, c6, c7] := by
  match l, h with
  | [c0, c1, c2, c3, c4, c5, c6, c7], _ => exact ⟨c0, c1, c2, c3, c4, c5, c6, c7, rfl⟩
/-- numbers, as a function of the place -/
def Sx.of (l : List Int) : Nat → Int := fun i => l.getD i 0
set_option linter.unusedSimpArgs false
section
variable {H : Type} {enc : TypeId × Value → H} {W : World} {base b0 : Nat} {spare : Nat → Bool} {held : Bool}
set_option maxHeartbeats 2000000 in
theorem trod_mat {a0 a1 a2 a3 a4 a5 a6 a7 a8 a9 a10 a11 a12 a13 a14 a15 : Value} {fuel : Nat} {x : DataW H × List MemPlace} (hf : DataW.trod enc Try.prog W base spare held fuel 29 [a0, a1, a2, a3, a4, a5, a6, a7, a8, a9, a10, a11, a12, a13, a14, a15] = some x) :
    ∃ c : Nat → Int, (a0 = .int .i64 (c 0) ∧ a1 = .int .i64 (c 1) ∧ a2 = .int .i64 (c 2) ∧ a3 = .int .i64 (c 3) ∧ a4 = .int .i64 (c 4) ∧ a5 = .int .i64 (c 5) ∧ a6 = .int .i64 (c 6) ∧ a7 = .int .i64 (c 7) ∧ a8 = .int .i64 (c 8) ∧ a9 = .int .i64 (c 9) ∧ a10 = .int .i64 (c 10) ∧ a11 = .int .i64 (c 11) ∧ a12 = .int .i64 (c 12) ∧ a13 = .int .i64 (c 13) ∧ a14 = .int .i64 (c 14) ∧ a15 = .int .i64 (c 15)) ∧
      x = (.agg [.lit (.int .i64 (c 0)), .lit (.int .i64 (c 1)), .lit (.int .i64 (c 2)), .lit (.int .i64 (c 3)), .lit (.int .i64 (c 4)), .lit (.int .i64 (c 5)), .lit (.int .i64 (c 6)), .lit (.int .i64 (c 7)), .lit (.int .i64 (c 8)), .lit (.int .i64 (c 9)), .lit (.int .i64 (c 10)), .lit (.int .i64 (c 11)), .lit (.int .i64 (c 12)), .lit (.int .i64 (c 13)), .lit (.int .i64 (c 14)), .lit (.int .i64 (c 15))], []) ∧ ∀ i, i < 16 → (Lit.int .i64 (c i)).wf = true := by
  obtain ⟨ys, m, _, hx, _, hl2, hfs⟩ := DataW.trod_array Try.underlying29 hf
  match ys, hl2 with
  | [y0, y1, y2, y3, y4, y5, y6, y7, y8, y9, y10, y11, y12, y13, y14, y15], _ =>
    have h0 := hfs 0 (by omega)
    have h1 := hfs 1 (by omega)
    have h2 := hfs 2 (by omega)
    have h3 := hfs 3 (by omega)
    have h4 := hfs 4 (by omega)
    have h5 := hfs 5 (by omega)
    have h6 := hfs 6 (by omega)
    have h7 := hfs 7 (by omega)
    have h8 := hfs 8 (by omega)
    have h9 := hfs 9 (by omega)
    have h10 := hfs 10 (by omega)
    have h11 := hfs 11 (by omega)
    have h12 := hfs 12 (by omega)
    have h13 := hfs 13 (by omega)
    have h14 := hfs 14 (by omega)
    have h15 := hfs 15 (by omega)
    simp [cellsXI] at h0 h1 h2 h3 h4 h5 h6 h7 h8 h9 h10 h11 h12 h13 h14 h15
    obtain ⟨x0, e0, rfl, w0⟩ := DataW.trod_int Try.underlying3 h0
    obtain ⟨x1, e1, rfl, w1⟩ := DataW.trod_int Try.underlying3 h1
    obtain ⟨x2, e2, rfl, w2⟩ := DataW.trod_int Try.underlying3 h2
    obtain ⟨x3, e3, rfl, w3⟩ := DataW.trod_int Try.underlying3 h3
    obtain ⟨x4, e4, rfl, w4⟩ := DataW.trod_int Try.underlying3 h4
    obtain ⟨x5, e5, rfl, w5⟩ := DataW.trod_int Try.underlying3 h5
    obtain ⟨x6, e6, rfl, w6⟩ := DataW.trod_int Try.underlying3 h6
    obtain ⟨x7, e7, rfl, w7⟩ := DataW.trod_int Try.underlying3 h7
    obtain ⟨x8, e8, rfl, w8⟩ := DataW.trod_int Try.underlying3 h8
    obtain ⟨x9, e9, rfl, w9⟩ := DataW.trod_int Try.underlying3 h9
    obtain ⟨x10, e10, rfl, w10⟩ := DataW.trod_int Try.underlying3 h10
    obtain ⟨x11, e11, rfl, w11⟩ := DataW.trod_int Try.underlying3 h11
    obtain ⟨x12, e12, rfl, w12⟩ := DataW.trod_int Try.underlying3 h12
    obtain ⟨x13, e13, rfl, w13⟩ := DataW.trod_int Try.underlying3 h13
    obtain ⟨x14, e14, rfl, w14⟩ := DataW.trod_int Try.underlying3 h14
    obtain ⟨x15, e15, rfl, w15⟩ := DataW.trod_int Try.underlying3 h15
    simp at e0 e1 e2 e3 e4 e5 e6 e7 e8 e9 e10 e11 e12 e13 e14 e15
    subst e0 e1 e2 e3 e4 e5 e6 e7 e8 e9 e10 e11 e12 e13 e14 e15
    subst hx
    refine ⟨Sx.of [x0, x1, x2, x3, x4, x5, x6, x7, x8, x9, x10, x11, x12, x13, x14, x15], ⟨rfl, rfl, rfl, rfl, rfl, rfl, rfl, rfl, rfl, rfl, rfl, rfl, rfl, rfl, rfl, rfl⟩, rfl, fun i hi => ?_⟩
    rcases i with _ | _ | _ | _ | _ | _ | _ | _ | _ | _ | _ | _ | _ | _ | _ | _ | i
    · exact w0
    · exact w1
    · exact w2
    · exact w3
    · exact w4
    · exact w5
    · exact w6
    · exact w7
    · exact w8
    · exact w9
    · exact w10
    · exact w11
    · exact w12
    · exact w13
    · exact w14
    · exact w15
    · omega
set_option maxHeartbeats 2000000 in
theorem trod_rect {a0 a1 a2 a3 : Value} {fuel : Nat} {x : DataW H × List MemPlace} (hf : DataW.trod enc Try.prog W base spare held fuel 31 [a0, a1, a2, a3] = some x) :
    ∃ c : Nat → Int, (a0 = .int .i64 (c 0) ∧ a1 = .int .i64 (c 1) ∧ a2 = .int .i64 (c 2) ∧ a3 = .int .i64 (c 3)) ∧
      x = (.agg [.lit (.int .i64 (c 0)), .lit (.int .i64 (c 1)), .lit (.int .i64 (c 2)), .lit (.int .i64 (c 3))], []) ∧ ∀ i, i < 4 → (Lit.int .i64 (c i)).wf = true := by
  obtain ⟨ys, m, _, hx, _, hl2, hfs⟩ := DataW.trod_struct Try.underlying31 hf
  match ys, hl2 with
  | [y0, y1, y2, y3], _ =>
    have h0 := hfs 0 _ rfl
    have h1 := hfs 1 _ rfl
    have h2 := hfs 2 _ rfl
    have h3 := hfs 3 _ rfl
    simp [cellsXI] at h0 h1 h2 h3
    obtain ⟨x0, e0, rfl, w0⟩ := DataW.trod_int Try.underlying3 h0
    obtain ⟨x1, e1, rfl, w1⟩ := DataW.trod_int Try.underlying3 h1
    obtain ⟨x2, e2, rfl, w2⟩ := DataW.trod_int Try.underlying3 h2
    obtain ⟨x3, e3, rfl, w3⟩ := DataW.trod_int Try.underlying3 h3
    simp at e0 e1 e2 e3
    subst e0 e1 e2 e3
    subst hx
    refine ⟨Sx.of [x0, x1, x2, x3], ⟨rfl, rfl, rfl, rfl⟩, rfl, fun i hi => ?_⟩
    rcases i with _ | _ | _ | _ | i
    · exact w0
    · exact w1
    · exact w2
    · exact w3
    · omega
set_option maxHeartbeats 2000000 in
theorem trod_sten {a0 a1 a2 a3 a4 a5 a6 : Value} {fuel : Nat} {x : DataW H × List MemPlace} (hf : DataW.trod enc Try.prog W base spare held fuel 33 [a0, a1, a2, a3, a4, a5, a6] = some x) :
    ∃ c : Nat → Int, (a0 = .int .i64 (c 0) ∧ a1 = .int .i64 (c 1) ∧ a2 = .int .i64 (c 2) ∧ a3 = .int .i64 (c 3) ∧ a4 = .int .i64 (c 4) ∧ a5 = .int .i64 (c 5) ∧ a6 = .int .i64 (c 6)) ∧
      x = (.agg [.lit (.int .i64 (c 0)), .lit (.int .i64 (c 1)), .lit (.int .i64 (c 2)), .lit (.int .i64 (c 3)), .lit (.int .i64 (c 4)), .lit (.int .i64 (c 5)), .lit (.int .i64 (c 6))], []) ∧ ∀ i, i < 7 → (Lit.int .i64 (c i)).wf = true := by
  obtain ⟨ys, m, _, hx, _, hl2, hfs⟩ := DataW.trod_struct Try.underlying33 hf
  match ys, hl2 with
  | [y0, y1, y2, y3, y4, y5, y6], _ =>
    have h0 := hfs 0 _ rfl
    have h1 := hfs 1 _ rfl
    have h2 := hfs 2 _ rfl
    have h3 := hfs 3 _ rfl
    have h4 := hfs 4 _ rfl
    have h5 := hfs 5 _ rfl
    have h6 := hfs 6 _ rfl
    simp [cellsXI] at h0 h1 h2 h3 h4 h5 h6
    obtain ⟨x0, e0, rfl, w0⟩ := DataW.trod_int Try.underlying3 h0
    obtain ⟨x1, e1, rfl, w1⟩ := DataW.trod_int Try.underlying3 h1
    obtain ⟨x2, e2, rfl, w2⟩ := DataW.trod_int Try.underlying3 h2
    obtain ⟨x3, e3, rfl, w3⟩ := DataW.trod_int Try.underlying3 h3
    obtain ⟨x4, e4, rfl, w4⟩ := DataW.trod_int Try.underlying3 h4
    obtain ⟨x5, e5, rfl, w5⟩ := DataW.trod_int Try.underlying3 h5
    obtain ⟨x6, e6, rfl, w6⟩ := DataW.trod_int Try.underlying3 h6
    simp at e0 e1 e2 e3 e4 e5 e6
    subst e0 e1 e2 e3 e4 e5 e6
    subst hx
    refine ⟨Sx.of [x0, x1, x2, x3, x4, x5, x6], ⟨rfl, rfl, rfl, rfl, rfl, rfl, rfl⟩, rfl, fun i hi => ?_⟩
    rcases i with _ | _ | _ | _ | _ | _ | _ | i
    · exact w0
    · exact w1
    · exact w2
    · exact w3
    · exact w4
    · exact w5
    · exact w6
    · omega
set_option maxHeartbeats 2000000 in
theorem trod_blend {a0 a1 a2 a3 : Value} {fuel : Nat} {x : DataW H × List MemPlace} (hf : DataW.trod enc Try.prog W base spare held fuel 35 [a0, a1, a2, a3] = some x) :
    ∃ c : Nat → Int, (a0 = .int .i64 (c 0) ∧ a1 = .int .i64 (c 1) ∧ a2 = .int .i64 (c 2) ∧ a3 = .int .i64 (c 3)) ∧
      x = (.agg [.lit (.int .i64 (c 0)), .lit (.int .i64 (c 1)), .lit (.int .i64 (c 2)), .lit (.int .i64 (c 3))], []) ∧ ∀ i, i < 4 → (Lit.int .i64 (c i)).wf = true := by
  obtain ⟨ys, m, _, hx, _, hl2, hfs⟩ := DataW.trod_struct Try.underlying35 hf
  match ys, hl2 with
  | [y0, y1, y2, y3], _ =>
    have h0 := hfs 0 _ rfl
    have h1 := hfs 1 _ rfl
    have h2 := hfs 2 _ rfl
    have h3 := hfs 3 _ rfl
    simp [cellsXI] at h0 h1 h2 h3
    obtain ⟨x0, e0, rfl, w0⟩ := DataW.trod_int Try.underlying3 h0
    obtain ⟨x1, e1, rfl, w1⟩ := DataW.trod_int Try.underlying3 h1
    obtain ⟨x2, e2, rfl, w2⟩ := DataW.trod_int Try.underlying3 h2
    obtain ⟨x3, e3, rfl, w3⟩ := DataW.trod_int Try.underlying3 h3
    simp at e0 e1 e2 e3
    subst e0 e1 e2 e3
    subst hx
    refine ⟨Sx.of [x0, x1, x2, x3], ⟨rfl, rfl, rfl, rfl⟩, rfl, fun i hi => ?_⟩
    rcases i with _ | _ | _ | _ | i
    · exact w0
    · exact w1
    · exact w2
    · exact w3
    · omega
set_option linter.unusedSimpArgs false in
set_option maxRecDepth 100000 in
set_option maxHeartbeats 8000000 in
theorem open_state {v : Value} {d : DataW H} {pl : List MemPlace}
    (hv : Value.okWide Try.prog W .any b0 37 v) (h : DataW.Trod enc Try.prog W base spare held 37 v d pl) :
    ∃ (s : Nat → Int) (p q : Bool), v = .agg #[.int .i64 (s 0), .int .i64 (s 1), .int .i64 (s 2), .int .i64 (s 3), .int .i64 (s 4), .int .i64 (s 5), .int .i64 (s 6), .int .i64 (s 7), .int .i64 (s 8), .int .i64 (s 9), .int .i64 (s 10), .int .i64 (s 11), .int .i64 (s 12), .int .i64 (s 13), .int .i64 (s 14), .int .i64 (s 15), .int .i64 (s 16), .int .i64 (s 17), .int .i64 (s 18), .int .i64 (s 19), .int .i64 (s 20), .int .i64 (s 21), .int .i64 (s 22), .int .i64 (s 23), .int .i64 (s 24), .bool p, .int .i64 (s 26), .int .i64 (s 27), .int .i64 (s 28), .int .i64 (s 29), .int .i64 (s 30), .int .i64 (s 31), .int .i64 (s 32), .int .i64 (s 33), .int .i64 (s 34), .int .i64 (s 35), .int .i64 (s 36), .int .i64 (s 37), .int .i64 (s 38), .int .i64 (s 39), .bool q] ∧ d = .agg [.agg [.lit (.int .i64 (s 0)), .lit (.int .i64 (s 1)), .lit (.int .i64 (s 2)), .lit (.int .i64 (s 3)), .lit (.int .i64 (s 4)), .lit (.int .i64 (s 5)), .lit (.int .i64 (s 6)), .lit (.int .i64 (s 7)), .lit (.int .i64 (s 8)), .lit (.int .i64 (s 9)), .lit (.int .i64 (s 10)), .lit (.int .i64 (s 11)), .lit (.int .i64 (s 12)), .lit (.int .i64 (s 13)), .lit (.int .i64 (s 14)), .lit (.int .i64 (s 15))], .agg [.lit (.int .i64 (s 16)), .lit (.int .i64 (s 17)), .lit (.int .i64 (s 18)), .lit (.int .i64 (s 19))], .agg [.lit (.int .i64 (s 20)), .lit (.int .i64 (s 21)), .lit (.int .i64 (s 22)), .lit (.int .i64 (s 23))], .lit (.int .i64 (s 24)), .lit (.bool p), .agg [.lit (.int .i64 (s 26)), .lit (.int .i64 (s 27)), .lit (.int .i64 (s 28)), .lit (.int .i64 (s 29)), .lit (.int .i64 (s 30)), .lit (.int .i64 (s 31)), .lit (.int .i64 (s 32))], .agg [.lit (.int .i64 (s 33)), .lit (.int .i64 (s 34)), .lit (.int .i64 (s 35)), .lit (.int .i64 (s 36))], .lit (.int .i64 (s 37)), .lit (.int .i64 (s 38)), .lit (.int .i64 (s 39)), .lit (.bool q)] ∧ pl = [] ∧ ∀ i, i < 40 → (Lit.int .i64 (s i)).wf = true := by
  obtain ⟨⟨l⟩, rfl, hsz, _⟩ : ∃ cs, v = .agg cs ∧ cs.size = Try.prog.cellsOf 37 ∧ Row.okWide Try.prog W .any b0 37 cs := by
    simpa [Value.okWide, Try.underlying37] using hv
  rw [cellsXS] at hsz
  obtain ⟨fuel, hf⟩ := h
  obtain ⟨c0, c1, c2, c3, c4, c5, c6, c7, c8, c9, c10, c11, c12, c13, c14, c15, c16, c17, c18, c19, c20, c21, c22, c23, c24, c25, c26, c27, c28, c29, c30, c31, c32, c33, c34, c35, c36, c37, c38, c39, c40, rfl⟩ := list_of41 l hsz
  obtain ⟨ys, n, _, hx, _, hl, hfs⟩ := DataW.trod_struct Try.underlying37 hf
  match ys, hl with
  | [y0, y1, y2, y3, y4, y5, y6, y7, y8, y9, y10], _ =>
    have h0 := hfs 0 _ rfl
    have h1 := hfs 1 _ rfl
    have h2 := hfs 2 _ rfl
    have h3 := hfs 3 _ rfl
    have h4 := hfs 4 _ rfl
    have h5 := hfs 5 _ rfl
    have h6 := hfs 6 _ rfl
    have h7 := hfs 7 _ rfl
    have h8 := hfs 8 _ rfl
    have h9 := hfs 9 _ rfl
    have h10 := hfs 10 _ rfl
    simp [Value.cells, cellsXI, cellsXB, cellsXM, cellsXR, cellsXN, cellsXL] at h0 h1 h2 h3 h4 h5 h6 h7 h8 h9 h10
    clear hfs hf hv
    simp at hx
    obtain ⟨rfl, rfl⟩ := hx
    obtain ⟨m, ⟨rfl, rfl, rfl, rfl, rfl, rfl, rfl, rfl, rfl, rfl, rfl, rfl, rfl, rfl, rfl, rfl⟩, e0, w0⟩ := trod_mat h0
    obtain ⟨r, ⟨rfl, rfl, rfl, rfl⟩, e1, w1⟩ := trod_rect h1
    obtain ⟨t, ⟨rfl, rfl, rfl, rfl⟩, e2, w2⟩ := trod_rect h2
    obtain ⟨x3, e3, rfl, w3⟩ := DataW.trod_int Try.underlying3 h3
    obtain ⟨x4, e4, rfl⟩ := DataW.trod_bool Try.underlying4 h4
    obtain ⟨n, ⟨rfl, rfl, rfl, rfl, rfl, rfl, rfl⟩, e5, w5⟩ := trod_sten h5
    obtain ⟨b, ⟨rfl, rfl, rfl, rfl⟩, e6, w6⟩ := trod_blend h6
    obtain ⟨x7, e7, rfl, w7⟩ := DataW.trod_int Try.underlying3 h7
    obtain ⟨x8, e8, rfl, w8⟩ := DataW.trod_int Try.underlying3 h8
    obtain ⟨x9, e9, rfl, w9⟩ := DataW.trod_int Try.underlying3 h9
    obtain ⟨x10, e10, rfl⟩ := DataW.trod_bool Try.underlying4 h10
    simp at e3 e4 e7 e8 e9 e10
    subst e0 e1 e2 e3 e4 e5 e6 e7 e8 e9 e10
    refine ⟨fun i => if i < 16 then m i else if i < 20 then r (i - 16) else if i < 24 then t (i - 20) else if i = 24 then x3 else if i < 26 then 0 else if i < 33 then n (i - 26) else if i < 37 then b (i - 33) else if i = 37 then x7 else if i = 38 then x8 else x9, x4, x10, rfl, rfl, rfl, fun i hi => ?_⟩
    dsimp only
    split
    · exact w0 i (by assumption)
    split
    · exact w1 (i - 16) (by omega)
    split
    · exact w2 (i - 20) (by omega)
    split
    · exact w3
    split
    · rfl
    split
    · exact w5 (i - 26) (by omega)
    split
    · exact w6 (i - 33) (by omega)
    split
    · exact w7
    split
    · exact w8
    · exact w9
set_option linter.unusedSimpArgs false in
set_option maxRecDepth 100000 in
set_option maxHeartbeats 8000000 in
theorem shut_state {s : Nat → Int} {p q : Bool} (w : ∀ i, i < 40 → (Lit.int .i64 (s i)).wf = true) :
    DataW.Trod enc Try.prog W base spare held 37 (.agg #[.int .i64 (s 0), .int .i64 (s 1), .int .i64 (s 2), .int .i64 (s 3), .int .i64 (s 4), .int .i64 (s 5), .int .i64 (s 6), .int .i64 (s 7), .int .i64 (s 8), .int .i64 (s 9), .int .i64 (s 10), .int .i64 (s 11), .int .i64 (s 12), .int .i64 (s 13), .int .i64 (s 14), .int .i64 (s 15), .int .i64 (s 16), .int .i64 (s 17), .int .i64 (s 18), .int .i64 (s 19), .int .i64 (s 20), .int .i64 (s 21), .int .i64 (s 22), .int .i64 (s 23), .int .i64 (s 24), .bool p, .int .i64 (s 26), .int .i64 (s 27), .int .i64 (s 28), .int .i64 (s 29), .int .i64 (s 30), .int .i64 (s 31), .int .i64 (s 32), .int .i64 (s 33), .int .i64 (s 34), .int .i64 (s 35), .int .i64 (s 36), .int .i64 (s 37), .int .i64 (s 38), .int .i64 (s 39), .bool q]) (.agg [.agg [.lit (.int .i64 (s 0)), .lit (.int .i64 (s 1)), .lit (.int .i64 (s 2)), .lit (.int .i64 (s 3)), .lit (.int .i64 (s 4)), .lit (.int .i64 (s 5)), .lit (.int .i64 (s 6)), .lit (.int .i64 (s 7)), .lit (.int .i64 (s 8)), .lit (.int .i64 (s 9)), .lit (.int .i64 (s 10)), .lit (.int .i64 (s 11)), .lit (.int .i64 (s 12)), .lit (.int .i64 (s 13)), .lit (.int .i64 (s 14)), .lit (.int .i64 (s 15))], .agg [.lit (.int .i64 (s 16)), .lit (.int .i64 (s 17)), .lit (.int .i64 (s 18)), .lit (.int .i64 (s 19))], .agg [.lit (.int .i64 (s 20)), .lit (.int .i64 (s 21)), .lit (.int .i64 (s 22)), .lit (.int .i64 (s 23))], .lit (.int .i64 (s 24)), .lit (.bool p), .agg [.lit (.int .i64 (s 26)), .lit (.int .i64 (s 27)), .lit (.int .i64 (s 28)), .lit (.int .i64 (s 29)), .lit (.int .i64 (s 30)), .lit (.int .i64 (s 31)), .lit (.int .i64 (s 32))], .agg [.lit (.int .i64 (s 33)), .lit (.int .i64 (s 34)), .lit (.int .i64 (s 35)), .lit (.int .i64 (s 36))], .lit (.int .i64 (s 37)), .lit (.int .i64 (s 38)), .lit (.int .i64 (s 39)), .lit (.bool q)]) [] := by
  have w0 := w 0 (by omega)
  have w1 := w 1 (by omega)
  have w2 := w 2 (by omega)
  have w3 := w 3 (by omega)
  have w4 := w 4 (by omega)
  have w5 := w 5 (by omega)
  have w6 := w 6 (by omega)
  have w7 := w 7 (by omega)
  have w8 := w 8 (by omega)
  have w9 := w 9 (by omega)
  have w10 := w 10 (by omega)
  have w11 := w 11 (by omega)
  have w12 := w 12 (by omega)
  have w13 := w 13 (by omega)
  have w14 := w 14 (by omega)
  have w15 := w 15 (by omega)
  have w16 := w 16 (by omega)
  have w17 := w 17 (by omega)
  have w18 := w 18 (by omega)
  have w19 := w 19 (by omega)
  have w20 := w 20 (by omega)
  have w21 := w 21 (by omega)
  have w22 := w 22 (by omega)
  have w23 := w 23 (by omega)
  have w24 := w 24 (by omega)
  have w26 := w 26 (by omega)
  have w27 := w 27 (by omega)
  have w28 := w 28 (by omega)
  have w29 := w 29 (by omega)
  have w30 := w 30 (by omega)
  have w31 := w 31 (by omega)
  have w32 := w 32 (by omega)
  have w33 := w 33 (by omega)
  have w34 := w 34 (by omega)
  have w35 := w 35 (by omega)
  have w36 := w 36 (by omega)
  have w37 := w 37 (by omega)
  have w38 := w 38 (by omega)
  have w39 := w 39 (by omega)
  exact ⟨4, by simp [DataW.trod, Value.cells, Try.underlying37, Try.underlying29, Try.underlying31, Try.underlying33, Try.underlying35, Try.underlying3, Try.underlying4, cellsXS, cellsXI, cellsXB, cellsXM, cellsXR, cellsXN, cellsXL, w0, w1, w2, w3, w4, w5, w6, w7, w8, w9, w10, w11, w12, w13, w14, w15, w16, w17, w18, w19, w20, w21, w22, w23, w24, w26, w27, w28, w29, w30, w31, w32, w33, w34, w35, w36, w37, w38, w39, show List.range 16 = [0, 1, 2, 3, 4, 5, 6, 7, 8, 9, 10, 11, 12, 13, 14, 15] from rfl]⟩
end
end Go.Proofs.Ytankjlpanmmogaa
