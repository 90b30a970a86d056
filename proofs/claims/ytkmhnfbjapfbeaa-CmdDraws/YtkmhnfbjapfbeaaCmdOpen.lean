/-
  Commands with their rows, and rows of commands, as arguments: what a reading of one says of its value (layer 20).
-/
import Derived.Test.YtkmhnfbjapfbeaaCmdPlain
import Derived.Test.YtkmhnfbjapfbeaaRowsOf2
import Derived.Test.YtkmhnfbjapfbeaaSlRow
import Derived.Lib.SmallJoins
import Derived.Laws.IdiomArrays
import Derived.ChangeSlices
import Derived.Carry
import Derived.BigGuard
namespace Go.Proofs.Ytkmhnfbjapfbeaa
open Go.RowKit

open Go.ChangeShapes Go.WideShapes Go.ChangeAt
theorem cellsKI : Try.prog.cellsOf 3 = 1 := by kernel_rfl
theorem cellsKC : Try.prog.cellsOf 57 = 4 := by kernel_rfl
theorem cellsKX : Try.prog.cellsOf 59 = 9 := by kernel_rfl
theorem cellsKK : Try.prog.cellsOf 25 = 8 := by kernel_rfl
theorem cellsKL : Try.prog.cellsOf 22 = 1 := by kernel_rfl
theorem cellsKV : Try.prog.cellsOf 23 = 1 := by kernel_rfl
theorem list_of9K {α : Type} (l : List α) (h : l.length = 9) : ∃ a b c d e f g h i, l = [a, b, c, d, e, f, g, h, i] := by
  match l, h with
  | [a, b, c, d, e, f, g, h, i], _ => exact ⟨a, b, c, d, e, f, g, h, i, rfl⟩
theorem list_of8K {α : Type} (l : List α) (h : l.length = 8) : ∃ a b c d e f g h, l = [a, b, c, d, e, f, g, h] := by
  match l, h with
  | [a, b, c, d, e, f, g, h], _ => exact ⟨a, b, c, d, e, f, g, h, rfl⟩
namespace Cm
def of9 (x0 x1 x2 x3 x4 x5 x6 x7 x8 : Int) : Nat → Int
  | 0 => x0 | 1 => x1 | 2 => x2 | 3 => x3 | 4 => x4 | 5 => x5 | 6 => x6 | 7 => x7 | _ => x8
/-- a command: its six numbers, its two slices, and what they hold -/
structure Rw where
  o : Int
  h : Int
  a : Int
  b : Int
  c : Int
  d : Int
  v : Value
  u : Value
  l : List Int
  s : List (Nat → Int)
instance : Inhabited Rw := ⟨⟨0, 0, 0, 0, 0, 0, undef, undef, [], []⟩⟩
def Rw.cs (r : Rw) : List Value := [.int .i64 r.o, .int .i64 r.h, .int .i64 r.a, .int .i64 r.b, .int .i64 r.c, .int .i64 r.d, r.v, r.u]
def Rw.ok (w : World) (r : Rw) : Prop := Sl w r.v (iv r.l) ∧ Ro.Sp Cm.vt 9 w r.u r.s
theorem Rw.ok.next {w w' : World} {r : Rw} (h : r.ok w) (k : Kp w.heap.size w w') : r.ok w' := ⟨h.1.next k, h.2.next k⟩
end Cm
section
variable {H : Type} {enc : TypeId × Value → H} {W : World} {base b0 : Nat} {spare : Nat → Bool} {held : Bool}
/-- a row whose elements read as these -/
theorem open_rows {α : Type} [Inhabited α] {cs : α → List Value} {n : Nat} {te e : TypeId} {R : α → Prop} (ht : Try.prog.underlying te = some (.slice e)) (hc : Try.prog.cellsOf e = n) (hn : 0 < n) (hcl : ∀ c, (cs c).length = n)
    (one : ∀ fuel us x, us.length = n → DataW.trod enc Try.prog W base spare held fuel e us = some x → ∃ c, us = cs c ∧ R c)
    {v : Value} {fuel : Nat} {x : DataW H × List MemPlace} (hf : DataW.trod enc Try.prog W base spare held fuel te [v] = some x) :
    ∃ l : List α, Ro.Sp cs n W v l ∧ (∀ c ∈ l, R c) ∧ l.length ≤ 9223372036854775807 := by
  rcases DataW.trod_slice ht hf with ⟨hcs, hx⟩ | ⟨a, len, cap, elems, rest, m, _, hcs, hx, hb, hl, hm, hlen, hel, hsp, hns⟩
  · simp at hcs
    subst hcs
    exact ⟨[], Ro.Sp.nil W, by simp, Nat.zero_le _⟩
  · simp at hcs
    subst hcs
    rw [hc] at hel
    have each : ∀ i, ∃ c : α, i < len → R c ∧ ∀ j, j < n → W.cell? ((a.add (i * n)).add j) = (cs c)[j]? := by
      intro i
      by_cases hi : i < len
      · have h1 := hel i hi
        rw [List.getElem?_eq_getElem (by omega), Option.bind_eq_some_iff] at h1
        obtain ⟨us, h2, h3⟩ := h1
        obtain ⟨_, h4, h5⟩ := World.cells?_some h2
        obtain ⟨c, e1, e2⟩ := one _ _ _ h4 h3
        exact ⟨c, fun _ => ⟨e2, fun j hj => by rw [h5 j hj, e1]⟩⟩
      · exact ⟨default, fun h => absurd h hi⟩
    obtain ⟨f, hf2⟩ := Classical.skolem.1 each
    refine ⟨(List.range len).map f, ⟨some a, cap, by simp, ⟨by simpa using hl, fun e => by cases e⟩, fun i c hi => ?_⟩, fun c hcm => ?_, by simp; unfold maxLen at hm; omega⟩
    · have hil : i < len := by have := (List.getElem?_eq_some_iff.1 hi).1; simpa using this
      have hce : c = f i := by simpa [hil] using hi.symm
      subst hce
      have h0 := (hf2 i hil).2
      have hlen0 := hcl (f 0)
      obtain ⟨v0, hv0⟩ : ∃ v0, (cs (f 0))[0]? = some v0 := ⟨_, List.getElem?_eq_getElem (by omega)⟩
      obtain ⟨b, off, spot⟩ := a
      have hspot : spot = none := by
        have h1 := (hf2 0 (by omega)).2 0 hn
        rw [hv0] at h1
        simpa [Addr.add] using World.cell?_spot h1
      subst hspot
      have hcell : ∀ j v, (cs (f i))[j]? = some v → W.cell? ⟨b, off + i * n + j, none⟩ = some v := fun j v hv => by
        have hj : j < n := by have := (List.getElem?_eq_some_iff.1 hv).1; rwa [hcl] at this
        have h1 := h0 j hj
        rw [Addr.add_mid, Addr.add_mid, hv] at h1
        exact h1
      have hleni := hcl (f i)
      obtain ⟨vi, hvi⟩ : ∃ vi, (cs (f i))[0]? = some vi := ⟨_, List.getElem?_eq_getElem (by omega)⟩
      exact ⟨b, off, rfl, World.block_lt_of_cell? W _ (hcell 0 _ hvi), hcell⟩
    · obtain ⟨i, hi, rfl⟩ := List.mem_map.1 hcm
      exact (hf2 i (by simpa using hi)).1
/-- nine cells that read as a vertex -/
theorem open_vt {us : List Value} {fuel : Nat} {x : DataW H × List MemPlace} (hl : us.length = 9) (hf : DataW.trod enc Try.prog W base spare held fuel 59 us = some x) : ∃ s : Nat → Int, us = Cm.vt s := by
  obtain ⟨a0, a1, a2, a3, a4, a5, a6, a7, a8, rfl⟩ := list_of9K us hl
  obtain ⟨ys, m, _, hx, _, hl2, hfs⟩ := DataW.trod_struct Try.underlying59 hf
  match ys, hl2 with
  | [y0, y1, y2, y3, y4, y5], _ =>
    have h0 := hfs 0 _ rfl
    have h1 := hfs 1 _ rfl
    have h2 := hfs 2 _ rfl
    have h3 := hfs 3 _ rfl
    have h4 := hfs 4 _ rfl
    have h5 := hfs 5 _ rfl
    simp [cellsKI, cellsKC] at h0 h1 h2 h3 h4 h5
    obtain ⟨zs, m2, _, hz, _, hl3, hfs2⟩ := DataW.trod_struct Try.underlying57 h3
    match zs, hl3 with
    | [z0, z1, z2, z3], _ =>
      have g0 := hfs2 0 _ rfl
      have g1 := hfs2 1 _ rfl
      have g2 := hfs2 2 _ rfl
      have g3 := hfs2 3 _ rfl
      simp [cellsKI] at g0 g1 g2 g3
      obtain ⟨x0, e0, _, w0⟩ := DataW.trod_int Try.underlying3 h0
      obtain ⟨x1, e1, _, w1⟩ := DataW.trod_int Try.underlying3 h1
      obtain ⟨x2, e2, _, w2⟩ := DataW.trod_int Try.underlying3 h2
      obtain ⟨x3, e3, _, w3⟩ := DataW.trod_int Try.underlying3 g0
      obtain ⟨x4, e4, _, w4⟩ := DataW.trod_int Try.underlying3 g1
      obtain ⟨x5, e5, _, w5⟩ := DataW.trod_int Try.underlying3 g2
      obtain ⟨x6, e6, _, w6⟩ := DataW.trod_int Try.underlying3 g3
      obtain ⟨x7, e7, _, w7⟩ := DataW.trod_int Try.underlying3 h4
      obtain ⟨x8, e8, _, w8⟩ := DataW.trod_int Try.underlying3 h5
      simp at e0 e1 e2 e3 e4 e5 e6 e7 e8
      subst e0 e1 e2 e3 e4 e5 e6 e7 e8
      exact ⟨Cm.of9 x0 x1 x2 x3 x4 x5 x6 x7 x8, rfl⟩
/-- one cell that reads as a row of ints -/
theorem open_il {v : Value} {fuel : Nat} {x : DataW H × List MemPlace} (hf : DataW.trod enc Try.prog W base spare held fuel 22 [v] = some x) : ∃ l : List Int, Sl W v (iv l) := by
  obtain ⟨l, ⟨a, cap, rfl, h1, h2⟩, -, -⟩ := open_rows (cs := fun i : Int => [.int .i64 i]) (n := 1) (R := fun _ => True) Try.underlying22 cellsKI (by omega) (fun _ => rfl) (fun fuel us x hl hf => by
    obtain ⟨i, e1, rfl, w1⟩ := DataW.trod_int Try.underlying3 hf
    exact ⟨i, e1, trivial⟩) hf
  refine ⟨l, a, cap, by rw [iv_len], by rw [iv_len]; exact h1.1, fun j y hj => ?_⟩
  unfold iv at hj
  rw [List.getElem?_map] at hj
  obtain ⟨i, hi, rfl⟩ := Option.map_eq_some_iff.1 hj
  obtain ⟨b, o, e1, e2, e3⟩ := h2 j i hi
  have h3 := e3 0 _ rfl
  exact ⟨b, o, e1, e2, by simpa using h3⟩
/-- eight cells that read as a command -/
theorem open_cm {us : List Value} {fuel : Nat} {x : DataW H × List MemPlace} (hl : us.length = 8) (hf : DataW.trod enc Try.prog W base spare held fuel 25 us = some x) : ∃ r : Cm.Rw, us = r.cs ∧ r.ok W := by
  obtain ⟨a0, a1, a2, a3, a4, a5, a6, a7, rfl⟩ := list_of8K us hl
  obtain ⟨ys, m, _, hx, _, hl2, hfs⟩ := DataW.trod_struct Try.underlying25 hf
  match ys, hl2 with
  | [y0, y1, y2, y3, y4, y5, y6, y7], _ =>
    have g0 := hfs 0 _ rfl
    have g1 := hfs 1 _ rfl
    have g2 := hfs 2 _ rfl
    have g3 := hfs 3 _ rfl
    have g4 := hfs 4 _ rfl
    have g5 := hfs 5 _ rfl
    have g6 := hfs 6 _ rfl
    have g7 := hfs 7 _ rfl
    simp [cellsKI, cellsKL, cellsKV] at g0 g1 g2 g3 g4 g5 g6 g7
    obtain ⟨x0, e0, _, w0⟩ := DataW.trod_int Try.underlying3 g0
    obtain ⟨x1, e1, _, w1⟩ := DataW.trod_int Try.underlying3 g1
    obtain ⟨x2, e2, _, w2⟩ := DataW.trod_int Try.underlying3 g2
    obtain ⟨x3, e3, _, w3⟩ := DataW.trod_int Try.underlying3 g3
    obtain ⟨x4, e4, _, w4⟩ := DataW.trod_int Try.underlying3 g4
    obtain ⟨x5, e5, _, w5⟩ := DataW.trod_int Try.underlying3 g5
    simp at e0 e1 e2 e3 e4 e5
    subst e0 e1 e2 e3 e4 e5
    obtain ⟨l, hl6⟩ := open_il g6
    obtain ⟨s, hs7, -, -⟩ := open_rows (cs := Cm.vt) (n := 9) (R := fun _ => True) Try.underlying23 cellsKX (by omega) Cm.vt_len (fun fuel us x hl hf => by
      obtain ⟨s, e1⟩ := open_vt hl hf
      exact ⟨s, e1, trivial⟩) g7
    exact ⟨⟨x0, x1, x2, x3, x4, x5, a6, a7, l, s⟩, rfl, hl6, hs7⟩
/-- an argument that is a command -/
theorem open_cmdv {v : Value} {d : DataW H} {pl : List MemPlace} (hv : Value.okWide Try.prog W .any b0 25 v) (h : DataW.Trod enc Try.prog W base spare held 25 v d pl) :
    ∃ r : Cm.Rw, v = .agg #[.int .i64 r.o, .int .i64 r.h, .int .i64 r.a, .int .i64 r.b, .int .i64 r.c, .int .i64 r.d, r.v, r.u] ∧ Sl W r.v (iv r.l) ∧ Ro.Sp Cm.vt 9 W r.u r.s := by
  obtain ⟨⟨l⟩, rfl, hsz, _⟩ : ∃ cs, v = .agg cs ∧ cs.size = Try.prog.cellsOf 25 ∧ Row.okWide Try.prog W .any b0 25 cs := by
    simpa [Value.okWide, Try.underlying25] using hv
  rw [cellsKK] at hsz
  obtain ⟨fuel, hf⟩ := h
  obtain ⟨r, e1, e2⟩ := open_cm (us := l) (by simpa using hsz) (by simpa [Value.cells] using hf)
  subst e1
  exact ⟨r, rfl, e2.1, e2.2⟩
/-- an argument that is a row of commands -/
theorem open_cmds {a0 : Option Addr} {len cap : Nat} {d : DataW H} {ps : List MemPlace} (h : DataW.Trod enc Try.prog W base spare held 45 (.slice a0 len cap) d ps) :
    ∃ l : List Cm.Rw, Ro.Sp Cm.Rw.cs 8 W (.slice a0 len cap) l ∧ (∀ r ∈ l, r.ok W) := by
  obtain ⟨fuel, hf⟩ := h
  obtain ⟨l, h1, h2, -⟩ := open_rows (cs := Cm.Rw.cs) (n := 8) (R := fun r => r.ok W) Try.underlying45 cellsKK (by omega) (fun _ => rfl) (fun fuel us x hl hf => open_cm hl hf) (v := .slice a0 len cap) (by simpa [Value.cells] using hf)
  exact ⟨l, h1, h2⟩
end
end Go.Proofs.Ytkmhnfbjapfbeaa
