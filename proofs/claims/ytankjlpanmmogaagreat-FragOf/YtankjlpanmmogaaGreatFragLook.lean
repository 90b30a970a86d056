/-
  How a triangle is looked at, as an argument: what a reading of one says of its value (layer 19).
-/
import Derived.Test.YtankjlpanmmogaaGreatTexOpen
import Derived.Lib.SmallJoins
import Derived.Laws.IdiomArrays
import Derived.ChangeSlices
import Derived.Carry
import Derived.BigGuard
namespace Go.Proofs.YtankjlpanmmogaaGreat
set_option maxRecDepth 100000
open Go.RowKit

open Go.ChangeShapes Go.WideShapes Go.ChangeAt
theorem ty_look : Ty 32 8 := ⟨by kernel_rfl, _, Tryz.underlying32, rfl⟩
theorem cellsLook : Tryz.prog.cellsOf 32 = 8 := by kernel_rfl
theorem list_ofZ8 {α : Type} (l : List α) (h : l.length = 8) : ∃ c0 c1 c2 c3 c4 c5 c6 c7, l = [c0, c1, c2, c3, c4, c5, c6, c7] := by
  match l, h with
  | [c0, c1, c2, c3, c4, c5, c6, c7], _ => exact ⟨c0, c1, c2, c3, c4, c5, c6, c7, rfl⟩
section
variable {H : Type} {enc : TypeId × Value → H} {W : World} {base b0 : Nat} {spare : Nat → Bool} {held : Bool}
theorem trod_texZ {a0 a1 a2 : Value} {fuel : Nat} {x : DataW H × List MemPlace} (hf : DataW.trod enc Tryz.prog W 0 (fun _ => true) true fuel 30 [a0, a1, a2] = some x) (hlt : ∀ p ∈ x.2, p.block < W.heap.size) :
    ∃ (n m : Int) (xs : List Int), a0 = .int .i64 n ∧ a1 = .int .i64 m ∧ Sl W a2 (iv xs) ∧ Tx.ints xs := by
  obtain ⟨ys, m, _, hx, _, hl, hfs⟩ := DataW.trod_struct Tryz.underlying30 hf
  match ys, hl with
  | [y0, y1, y2], _ =>
    have h0 := hfs 0 _ rfl
    have h1 := hfs 1 _ rfl
    have h2 := hfs 2 _ rfl
    simp [cellsInt, cellsL] at h0 h1 h2
    obtain ⟨x0, e0, rfl, w0⟩ := DataW.trod_int Tryz.underlying3 h0
    obtain ⟨x1, e1, rfl, w1⟩ := DataW.trod_int Tryz.underlying3 h1
    simp at e0 e1
    subst e0 e1
    obtain ⟨xd, xp⟩ := x
    simp at hx
    obtain ⟨rfl, rfl⟩ := hx
    dsimp only at hlt
    rcases open_ints Tryz.underlying28 Tryz.underlying3 cellsInt h2 with ⟨hcs, hx⟩ | ⟨a, len, cap, zs, hcs, _, hl, hm, hz, hx, hcell, hwz⟩
    · simp at hcs
      subst hcs
      exact ⟨x0, x1, [], rfl, rfl, Sl.nil W, fun x hx => by simp at hx⟩
    · simp at hcs
      subst hcs
      subst hx
      simp only [if_true] at hz
      have hxl : (zs.take len).length = len := by rw [List.length_take]; omega
      refine ⟨x0, x1, zs.take len, rfl, rfl, ⟨some a, cap, by rw [iv_len, hxl], by rw [iv_len, hxl]; exact hl, fun j x hj => ?_⟩, fun x hx => wf_int (hwz x (List.mem_of_mem_take hx))⟩
      have hjl : j < len := by
        have := (List.getElem?_eq_some_iff.1 hj).1
        rw [iv_len, hxl] at this
        exact this
      obtain ⟨b, off, spot⟩ := a
      have hspot : spot = none := by simpa [Addr.add] using World.cell?_spot (hcell 0 (by omega))
      subst hspot
      refine ⟨b, off, rfl, hlt (.cell b off) (MemPlace.mem_row.2 ⟨0, by omega, by simp⟩), ?_⟩
      have hjz : j < zs.length := by omega
      have hc := hcell j hjz
      rw [show (⟨b, off, none⟩ : Addr).add j = ⟨b, off + j, none⟩ by simp [Addr.add]] at hc
      rw [hc, ← hj]
      unfold iv
      rw [List.getElem?_map, List.getElem?_take_of_lt hjl, List.getElem?_eq_getElem hjz, List.getD_eq_getElem?_getD, List.getElem?_eq_getElem hjz]
      rfl
set_option linter.unusedSimpArgs false in
set_option maxRecDepth 100000 in
set_option maxHeartbeats 8000000 in
theorem open_look {v : Value} {d : DataW H} {pl : List MemPlace}
    (hv : Value.okWide Tryz.prog W .any b0 32 v) (h : DataW.Trod enc Tryz.prog W 0 (fun _ => true) true 32 v d pl) (hlt : ∀ x ∈ pl, x.block < W.heap.size) :
    ∃ (k0 k1 : Int) (q : Bool) (n m : Int) (u : Value) (xs : List Int) (x y : Int), v = .agg #[.int .i64 k0, .int .i64 k1, .bool q, .int .i64 n, .int .i64 m, u, .int .i64 x, .int .i64 y] ∧ Sl W u (iv xs) ∧ Tx.ints xs := by
  obtain ⟨⟨l⟩, rfl, hsz, _⟩ : ∃ cs, v = .agg cs ∧ cs.size = Tryz.prog.cellsOf 32 ∧ Row.okWide Tryz.prog W .any b0 32 cs := by
    simpa [Value.okWide, Tryz.underlying32] using hv
  rw [cellsLook] at hsz
  obtain ⟨fuel, hf⟩ := h
  obtain ⟨a0, a1, a2, a3, a4, a5, a6, a7, rfl⟩ := list_ofZ8 l hsz
  obtain ⟨ys, mm, _, hx, _, hl, hfs⟩ := DataW.trod_struct Tryz.underlying32 hf
  match ys, hl with
  | [y0, y1, y2, y3, y4, y5], _ =>
    have h0 := hfs 0 _ rfl
    have h1 := hfs 1 _ rfl
    have h2 := hfs 2 _ rfl
    have h3 := hfs 3 _ rfl
    have h4 := hfs 4 _ rfl
    have h5 := hfs 5 _ rfl
    simp [Value.cells, cellsInt, cellsB, cellsTex] at h0 h1 h2 h3 h4 h5
    obtain ⟨x0, e0, rfl, w0⟩ := DataW.trod_int Tryz.underlying3 h0
    obtain ⟨x1, e1, rfl, w1⟩ := DataW.trod_int Tryz.underlying3 h1
    obtain ⟨x2, e2, rfl⟩ := DataW.trod_bool Tryz.underlying4 h2
    obtain ⟨x4, e4, rfl, w4⟩ := DataW.trod_int Tryz.underlying3 h4
    obtain ⟨x5, e5, rfl, w5⟩ := DataW.trod_int Tryz.underlying3 h5
    simp at e0 e1 e2 e4 e5
    subst e0 e1 e2 e4 e5
    simp at hx
    obtain ⟨rfl, rfl⟩ := hx
    obtain ⟨n, m, xs, rfl, rfl, hS, hi⟩ := trod_texZ h3 (fun p hp => hlt p (by simpa using hp))
    exact ⟨x0, x1, x2, n, m, a5, xs, x4, x5, rfl, hS, hi⟩
end
end Go.Proofs.YtankjlpanmmogaaGreat
