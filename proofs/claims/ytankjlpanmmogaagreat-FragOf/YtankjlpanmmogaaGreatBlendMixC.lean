/-
  Contracts of layer 7 (blend): Mix of right colours by a blend that may be.
-/
import Derived.Test.YtankjlpanmmogaaGreatBlendFactor
namespace Go.Proofs.YtankjlpanmmogaaGreat
set_option maxRecDepth 100000
open Go.RowKit

theorem Ow.joinB {w W W' : World} {ms ns : List (Nat × List Value)} (h : Ow w W ms) (k : Ow W W' ns) : Ow w W' (ns ++ ms) := by
  refine ⟨(h.call k.k).k, fun q hq => ?_, List.pairwise_append.2 ⟨k.nd, h.nd, fun p hp q hq => ?_⟩⟩
  · rcases List.mem_append.1 hq with hq | hq
    · exact ⟨(k.all q hq).1, (k.all q hq).2.1, Nat.le_trans h.k.size (k.all q hq).2.2⟩
    · exact (h.call k.k).all q hq
  · have h1 := (k.all p hp).2.2
    have h2 := h.lt hq
    omega
/-- the blocks of Mix: what is returned, the old colour, the new one, the blend -/
def Xb (w : World) (s d q m r g b a r' g' b' a' : Int) : List (Nat × List Value) :=
  [(w.heap.size + 3, [.int .i64 0, .int .i64 0, .int .i64 0, .int .i64 0]), (w.heap.size + 2, [.int .i64 r', .int .i64 g', .int .i64 b', .int .i64 a']), (w.heap.size + 1, [.int .i64 r, .int .i64 g, .int .i64 b, .int .i64 a]), (w.heap.size, [.int .i64 s, .int .i64 d, .int .i64 q, .int .i64 m])]
/-- what a factor says, as cells -/
def Fc (k r g b a r' g' b' a' : Int) : List Value := [.int .i64 (Bn.fac k r r' a a'), .int .i64 (Bn.fac k g g' a a'), .int .i64 (Bn.fac k b b' a a'), .int .i64 (Bn.fac k a a' a a')]
/-- what is mixed, as cells -/
def Mc (s d q r g b a r' g' b' a' : Int) : List Value := [.int .i64 (Bn.mx s d q r r' a a'), .int .i64 (Bn.mx s d q g g' a a'), .int .i64 (Bn.mx s d q b b' a a'), .int .i64 (Bn.mx s d q a a' a a')]
theorem makes_color {w : World} {ms : List (Nat × List Value)} (a : Act) (o : Oper) (ho : o.op = .alloc 51) (bs : List Nat) (W : World) (hI : Mk w [.int .i64 0, .int .i64 0, .int .i64 0, .int .i64 0] ms bs W) :
    ∃ w1, (execOp a.eval o).run Tryz.prog W = .ok (.value (.pointer (some ⟨W.heap.size, 0, none⟩))) w1 ∧ Mk w [.int .i64 0, .int .i64 0, .int .i64 0, .int .i64 0] ms (W.heap.size :: bs) w1 ∧ W.heap.size ∉ bs := by
  refine ⟨W.alloc (.cells #[.int .i64 0, .int .i64 0, .int .i64 0, .int .i64 0] 51), ?_, (hI.make 51).1, (hI.make 51).2⟩
  simp [execOp, ho, go_sem]
structure Hid2 (p : Prop) : Prop where
  out : p
theorem Bn.chk_yes {s d q m : Int} (h : (Bn.chk s d q m != 0) = false) : Bn.am 10 s = true ∧ Bn.am 10 d = true ∧ Bn.am 5 q = true ∧ Bn.am 16 m = true := by
  have h1 : Bn.chk s d q m = 0 := by simpa using h
  unfold Bn.chk at h1
  split at h1
  · rename_i h2
    split at h1
    · rename_i h3
      simp only [Bool.and_eq_true] at h2
      exact ⟨h2.1.1, h2.1.2, h2.2, h3⟩
    · omega
  · omega
theorem Tn.chs2 {r g b a r' g' b' a' : Int} (h : Tn.right r g b a = true) (h' : Tn.right r' g' b' a' = true) :
    ((0 ≤ r ∧ r ≤ 255) ∧ (0 ≤ r' ∧ r' ≤ 255)) ∧ ((0 ≤ g ∧ g ≤ 255) ∧ (0 ≤ g' ∧ g' ≤ 255)) ∧ ((0 ≤ b ∧ b ≤ 255) ∧ (0 ≤ b' ∧ b' ≤ 255)) ∧ ((0 ≤ a ∧ a ≤ 255) ∧ (0 ≤ a' ∧ a' ≤ 255)) := by
  have h1 := Tn.right_iff.1 h; have h2 := Tn.right_iff.1 h'
  exact ⟨⟨h1.1, h2.1⟩, ⟨h1.2.1, h2.2.1⟩, ⟨h1.2.2.1, h2.2.2.1⟩, h1.2.2.2, h2.2.2.2⟩
/-- what a factor says may be a channel -/
theorem Bn.facs {r g b a r' g' b' a' : Int} (h : Tn.right r g b a = true) (h' : Tn.right r' g' b' a' = true) (k : Int) :
    (0 ≤ Bn.fac k r r' a a' ∧ Bn.fac k r r' a a' ≤ 255) ∧ (0 ≤ Bn.fac k g g' a a' ∧ Bn.fac k g g' a a' ≤ 255) ∧ (0 ≤ Bn.fac k b b' a a' ∧ Bn.fac k b b' a a' ≤ 255) ∧ (0 ≤ Bn.fac k a a' a a' ∧ Bn.fac k a a' a a' ≤ 255) := by
  obtain ⟨⟨x1, y1⟩, ⟨x2, y2⟩, ⟨x3, y3⟩, x4, y4⟩ := Tn.chs2 h h'
  exact ⟨Bn.fac_bd x1 y1 x4 y4, Bn.fac_bd x2 y2 x4 y4, Bn.fac_bd x3 y3 x4 y4, Bn.fac_bd x4 y4 x4 y4⟩

end Go.Proofs.YtankjlpanmmogaaGreat
