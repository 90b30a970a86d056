/-
  Textures, and where they are sampled, as arguments: what a reading of one says of its value, and back.
-/
import Derived.Test.YtankjlpanmmogaaGreatJTexPlain
namespace Go.Proofs.YtankjlpanmmogaaGreat
set_option maxRecDepth 100000
open Go.ChangeShapes Go.WideShapes Go.ChangeAt Go.RowKit

theorem cellsTex : Tryz.prog.cellsOf 30 = 3 := by kernel_rfl
theorem cellsL : Tryz.prog.cellsOf 28 = 1 := by kernel_rfl
theorem cellsB : Tryz.prog.cellsOf 4 = 1 := by kernel_rfl
theorem list_of3 {α : Type} (l : List α) (h : (⟨l⟩ : Array α).size = 3) : ∃ a b c, l = [a, b, c] := by
  match l, h with
  | [a, b, c], _ => exact ⟨a, b, c, rfl⟩
theorem list_of4 {α : Type} (l : List α) (h : (⟨l⟩ : Array α).size = 4) : ∃ a b c d, l = [a, b, c, d] := by
  match l, h with
  | [a, b, c, d], _ => exact ⟨a, b, c, d, rfl⟩
section
variable {H : Type} {enc : TypeId × Value → H} {W : World} {base b0 : Nat} {spare : Nat → Bool} {held : Bool}
theorem wf_int {x : Int} (h : (Lit.int .i64 x).wf = true) : -9223372036854775808 ≤ x ∧ x ≤ 9223372036854775807 := by
  have e1 : IntKind.i64.min = -9223372036854775808 := by decide
  have e2 : IntKind.i64.max = 9223372036854775807 := by decide
  simp [Lit.wf, e1, e2] at h; exact h
theorem open_tex {v : Value} {d : DataW H} {p : List MemPlace}
    (hv : Value.okWide Tryz.prog W .any b0 30 v) (h : DataW.Trod enc Tryz.prog W 0 (fun _ => true) true 30 v d p) (hlt : ∀ x ∈ p, x.block < W.heap.size) :
    ∃ (n m : Int) (u : Value) (xs : List Int), v = .agg #[.int .i64 n, .int .i64 m, u] ∧ Sl W u (iv xs) ∧ Tx.ints xs := by
  obtain ⟨cs, rfl, hsz, _⟩ : ∃ cs, v = .agg cs ∧ cs.size = Tryz.prog.cellsOf 30 ∧ Row.okWide Tryz.prog W .any b0 30 cs := by
    simpa [Value.okWide, Tryz.underlying30] using hv
  rw [cellsTex] at hsz
  obtain ⟨l⟩ := cs
  obtain ⟨a0, a1, a2, rfl⟩ := list_of3 l hsz
  obtain ⟨fuel, hf⟩ := h
  obtain ⟨ys, m, _, hx, _, hl, hfs⟩ := DataW.trod_struct Tryz.underlying30 hf
  match ys, hl with
  | [y0, y1, y2], _ =>
    have h0 := hfs 0 _ rfl
    have h1 := hfs 1 _ rfl
    have h2 := hfs 2 _ rfl
    simp [Value.cells, cellsInt, cellsL] at h0 h1 h2
    obtain ⟨x0, e0, rfl, w0⟩ := DataW.trod_int Tryz.underlying3 h0
    obtain ⟨x1, e1, rfl, w1⟩ := DataW.trod_int Tryz.underlying3 h1
    simp at e0 e1
    subst e0 e1
    simp at hx
    obtain ⟨rfl, rfl⟩ := hx
    refine ⟨x0, x1, a2, ?_⟩
    rcases open_ints Tryz.underlying28 Tryz.underlying3 cellsInt h2 with ⟨hcs, hx⟩ | ⟨a, len, cap, zs, hcs, _, hl, hm, hz, hx, hcell, hwz⟩
    · simp at hcs
      subst hcs
      exact ⟨[], rfl, Sl.nil W, fun x hx => by simp at hx⟩
    · simp at hcs
      subst hcs
      subst hx
      simp only [if_true] at hz
      have hxl : (zs.take len).length = len := by rw [List.length_take]; omega
      refine ⟨zs.take len, rfl, ⟨some a, cap, by rw [iv_len, hxl], by rw [iv_len, hxl]; exact hl, fun j x hj => ?_⟩, fun x hx => wf_int (hwz x (List.mem_of_mem_take hx))⟩
      have hjl : j < len := by
        have := (List.getElem?_eq_some_iff.1 hj).1
        rw [iv_len, hxl] at this
        exact this
      obtain ⟨b, off, spot⟩ := a
      have hspot : spot = none := by simpa [Addr.add] using World.cell?_spot (hcell 0 (by omega))
      subst hspot
      refine ⟨b, off, rfl, hlt (.cell b off) (MemPlace.mem_row.2 ⟨0, by omega, by simp⟩), ?_⟩
      have hjz : j < zs.length := by omega
      have hc := hcell j hjz
      rw [show (⟨b, off, none⟩ : Addr).add j = ⟨b, off + j, none⟩ by simp [Addr.add]] at hc
      rw [hc, ← hj]
      unfold iv
      rw [List.getElem?_map, List.getElem?_take_of_lt hjl, List.getElem?_eq_getElem hjz, List.getD_eq_getElem?_getD, List.getElem?_eq_getElem hjz]
      rfl
/-- an argument that is or has a slice reads as it did: of what stood nothing has turned -/
theorem shut_keptB {W' : World} {v : Value} {d : DataW H} {ps before : List MemPlace} {t : TypeId} {sp : Nat → Bool} (h : DataW.Trod enc Tryz.prog W 0 (fun _ => true) true t v d ps)
    (hr : Tryz.prog.readableRec t = true) (ht : t < Tryz.prog.types.size) (hk : Below W.heap.size W W') (hlt : ∀ x ∈ ps, x.block < W.heap.size) (hs : ∀ p ∈ before, sp p.block = true) (hsub : ∀ x ∈ ps, x ∈ before) :
    DataW.Trod enc Tryz.prog W' 0 sp true t v d ps :=
  WideElems.Trod_stays laidOut hr ht h (fun x hx => hk.same (hlt x hx)) (fun x hx => hs x (hsub x hx))
end
end Go.Proofs.YtankjlpanmmogaaGreat
