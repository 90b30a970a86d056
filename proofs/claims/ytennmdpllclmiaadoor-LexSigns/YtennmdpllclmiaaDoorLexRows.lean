/-
  Rows that a call makes, and how they are read.
-/
import Derived.Test.YtennmdpllclmiaaDoorLexWalks
import Derived.Deep.AppendLies
namespace Go.Proofs.YtennmdpllclmiaaDoor
open Go.RowKit

/-- v is a slice whose cells are xs -/
def Sl (w : World) (v : Value) (xs : List Value) : Prop := ∃ a c, v = .slice a xs.length c ∧ xs.length ≤ c ∧ ∀ j x, xs[j]? = some x → ∃ b o, a = some ⟨b, o, none⟩ ∧ b < w.heap.size ∧ w.cell? ⟨b, o + j, none⟩ = some x
theorem Sl.next {w w' : World} {v : Value} {xs : List Value} (h : Sl w v xs) (hb : Bl w w') : Sl w' v xs := by
  obtain ⟨a, c, h1, h2, h3⟩ := h
  refine ⟨a, c, h1, h2, fun j x hj => ?_⟩
  obtain ⟨b, o, e1, e2, e3⟩ := h3 j x hj
  exact ⟨b, o, e1, Nat.lt_of_lt_of_le e2 hb.size, (hb.cell (p := ⟨b, o + j, none⟩) e2).trans e3⟩
theorem Sl.nil (w : World) : Sl w (.slice none 0 0) [] := ⟨none, 0, rfl, Nat.le_refl _, fun j x hj => by simp at hj⟩
theorem Sl.of_own {w : World} {B : Nat} {e : TypeId} {v : Value} {n : Nat} {xs : List Value} (h : w.ownsRow B e 1 v n xs) : Sl w v xs := by
  have hl : xs.length = n := by rw [h.1, Nat.mul_one]
  rcases h.2 with ⟨rfl, rfl⟩ | ⟨g, cap, cur, rfl, _, hg, h1, h2, h3, h4⟩
  · have : xs = [] := List.eq_nil_of_length_eq_zero hl
    subst this
    exact Sl.nil w
  · have hlt : g < w.heap.size := (Array.getElem?_eq_some_iff.1 hg).1
    refine ⟨some ⟨g, 0, none⟩, cap, by rw [hl], by omega, fun j x hj => ⟨g, 0, rfl, hlt, ?_⟩⟩
    have hc := h.cells (g := g) rfl j x hj
    have e : (⟨g, 0, none⟩ : Addr).add j = ⟨g, 0 + j, none⟩ := by simp [Addr.add]; omega
    rw [e] at hc
    exact hc

theorem Bl.grown {w w' : World} (h : Bl w w') (row : Option Nat) : w.grownBy w' row := ⟨h.os, h.tape, h.output, h.size, fun k hk _ => h.block k hk⟩
/-- what a call owns stays owned behind a call that turns nothing -/
theorem own_next {w w' : World} {B : Nat} {e : TypeId} {v : Value} {n : Nat} {xs : List Value} (h : w.ownsRow B e 1 v n xs) (hb : Bl w w') : w'.ownsRow B e 1 v n xs := by
  rcases ho : v.ownBlock with _ | g
  · exact h.kept (hb.grown none) (.inl ho)
  · exact h.kept (hb.grown none) (.inr (by rw [ho]; simp))

/-- two rows of a call's own, one beside the other -/
structure Two (w wr : World) (e : TypeId) (u v : Value) (xs ys : List Value) : Prop where
  a : wr.ownsRow w.heap.size e 1 u xs.length xs
  b : wr.ownsRow w.heap.size e 1 v ys.length ys
  d : u.ownBlock = none ∨ u.ownBlock ≠ v.ownBlock
  bl : Bl w wr
theorem Two.swap {w wr : World} {e : TypeId} {u v : Value} {xs ys : List Value} (h : Two w wr e u v xs ys) : Two w wr e v u ys xs := by
  refine ⟨h.b, h.a, ?_, h.bl⟩
  rcases hv : v.ownBlock with _ | g
  · exact .inl rfl
  · right
    rw [← hv]
    rcases h.d with d | d
    · rw [d, hv]; simp
    · exact d.symm
theorem Two.start (w : World) (e : TypeId) : Two w w e (.slice none 0 0) (.slice none 0 0) [] [] := ⟨World.ownsRow_nil _ _ _ _, World.ownsRow_nil _ _ _ _, .inl rfl, Bl.refl _⟩
theorem Two.next {w wr w1 : World} {e : TypeId} {u v : Value} {xs ys : List Value} (h : Two w wr e u v xs ys) (hb : Bl wr w1) : Two w w1 e u v xs ys := ⟨own_next h.a hb, own_next h.b hb, h.d, h.bl.next hb⟩
theorem Two.put {w wr w1 : World} {e : TypeId} {u v : Value} {xs ys : List Value} {o : Obj} {g cap : Nat} {x : Value} (h : Two w wr e u v xs ys)
    (h1 : w1.ownsRow w.heap.size e 1 (.slice (some ⟨g, 0, none⟩) (xs.length + 1) cap) (xs.length + 1) (xs ++ [x])) (h2 : (wr.alloc o).grownBy w1 u.ownBlock) (h3 : u.ownBlock = some g ∨ g = wr.heap.size + 1) :
    Two w w1 e (.slice (some ⟨g, 0, none⟩) (xs.length + 1) cap) v (xs ++ [x]) ys := by
  have hs : wr.heap.size ≤ (wr.alloc o).heap.size := by simp
  refine ⟨by rw [List.length_append]; exact h1, ?_, ?_, ?_⟩
  · refine (h.b.alloc o).kept h2 ?_
    rcases h.swap.d with d | d
    · exact .inl d
    · exact .inr d
  · right
    show some g ≠ _
    intro e1
    rcases h3 with h3 | rfl
    · rcases h.d with d | d
      · rw [d] at h3; cases h3
      · exact d (h3.trans e1)
    · have := (h.b.lt _ e1.symm).2
      omega
  · refine Below.grown (h.bl.next (Bl.alloc wr o)) h2 (Nat.le_trans h.bl.size hs) (fun k hk => (h.a.lt k hk).1)
theorem info3 : (Tryd.prog.info? 3).map (fun i => (i.zero, i.size, i.bytes)) = some (some (.int .i64 0), 1, 8) := by kernel_rfl
theorem info9 : (Tryd.prog.info? 9).map (fun i => (i.zero, i.size, i.bytes)) = some (some (.string ByteArray.empty), 1, 16) := by kernel_rfl
theorem news1 (wr : World) (x : Value) (e : TypeId) : ∀ j u, [x][j]? = some u → (wr.alloc (.cells #[x] e)).cell? ((⟨wr.heap.size, 0, none⟩ : Addr).add j) = some u := by
  intro j u hj
  match j, hj with
  | 0, hj =>
    simp at hj
    subst hj
    simp [Addr.add]
  | j + 1, hj => simp at hj
end Go.Proofs.YtennmdpllclmiaaDoor
