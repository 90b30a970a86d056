/-
  VecMoves: the law's own blocks in memory, what a move does to a place.
-/
import Derived.Test.YtbhdmfoigilibaaVecAwake
import Derived.Test.YtbhdmfoigilibaaVecRef
namespace Go.Proofs.Ytbhdmfoigilibaa
open Go.RowKit

theorem Vc.one_cell (j : Nat) : Vc.one j = if j % 5 = 0 then 65536 else 0 := rfl
theorem Vc.mov_wi {a b c : Int} (h : Vc.wi 65536 (Vc.v4 a b c 0) 3 = true) : Vc.wi 16777216 (Vc.mov a b c) 16 = true := by
  have H := Vc.wi_all h
  have ha : -65536 ≤ a ∧ a ≤ 65536 := H 0 (by omega)
  have hb : -65536 ≤ b ∧ b ≤ 65536 := H 1 (by omega)
  have hc : -65536 ≤ c ∧ c ≤ 65536 := H 2 (by omega)
  apply Vc.wi_true
  intro j hj
  unfold Vc.mov Vc.mk
  split
  · rename_i h
    obtain ⟨h1, h2⟩ := h
    obtain h3 | h3 | h3 : j / 4 = 0 ∨ j / 4 = 1 ∨ j / 4 = 2 := by omega
    · rw [h3]; simp only [Vc.v4]; omega
    · rw [h3]; simp only [Vc.v4]; omega
    · rw [h3]; simp only [Vc.v4]; omega
  · rw [Vc.one_cell]; split <;> omega
theorem Vc.mov_app (a b c x y z : Int) : Vc.app (Vc.mov a b c) (Vc.v4 x y z 256) 0 = x + a ∧ Vc.app (Vc.mov a b c) (Vc.v4 x y z 256) 1 = y + b ∧ Vc.app (Vc.mov a b c) (Vc.v4 x y z 256) 2 = z + c ∧ Vc.app (Vc.mov a b c) (Vc.v4 x y z 256) 3 = 256 := by
  have e : ∀ i, Vc.app (Vc.mov a b c) (Vc.v4 x y z 256) i = (Vc.mov a b c (4 * i) * x + Vc.mov a b c (4 * i + 1) * y + Vc.mov a b c (4 * i + 2) * z + Vc.mov a b c (4 * i + 3) * 256) / 65536 := by
    intro i
    unfold Vc.app Vc.prod
    simp only [Vc.ps, Int.zero_add]
    rfl
  rw [e, e, e, e]
  have m0 : Vc.mov a b c 0 = 65536 := rfl
  have m1 : Vc.mov a b c 1 = 0 := rfl
  have m2 : Vc.mov a b c 2 = 0 := rfl
  have m3 : Vc.mov a b c 3 = 256 * a := rfl
  have m4 : Vc.mov a b c 4 = 0 := rfl
  have m5 : Vc.mov a b c 5 = 65536 := rfl
  have m6 : Vc.mov a b c 6 = 0 := rfl
  have m7 : Vc.mov a b c 7 = 256 * b := rfl
  have m8 : Vc.mov a b c 8 = 0 := rfl
  have m9 : Vc.mov a b c 9 = 0 := rfl
  have m10 : Vc.mov a b c 10 = 65536 := rfl
  have m11 : Vc.mov a b c 11 = 256 * c := rfl
  have m12 : Vc.mov a b c 12 = 0 := rfl
  have m13 : Vc.mov a b c 13 = 0 := rfl
  have m14 : Vc.mov a b c 14 = 0 := rfl
  have m15 : Vc.mov a b c 15 = 65536 := rfl
  simp only [Nat.reduceMul, Nat.reduceAdd, m0, m1, m2, m3, m4, m5, m6, m7, m8, m9, m10, m11, m12, m13, m14, m15]
  exact ⟨by omega, by omega, by omega, by omega⟩

theorem apply_mov (a b c x y z : Int) (w : World) (h : Vc.wi 65536 (Vc.v4 a b c 0) 3 = true) (hp : Vc.wi 1073741824 (Vc.v4 x y z 256) 4 = true) :
    Calls Try.prog 6 #[.agg (Vc.ar (Vc.mov a b c)), .agg #[.int .i64 x, .int .i64 y, .int .i64 z, .int .i64 256]] w fun e w' => e = .returned (.tuple #[.agg #[.int .i64 (x + a), .int .i64 (y + b), .int .i64 (z + c), .int .i64 256], .int .i64 0]) ∧ Kp w.heap.size w w' :=
  (apply_yes (Vc.mov a b c) (Vc.v4 x y z 256) w (Vc.mov_wi h) hp).mono fun e w' k => ⟨by rw [k.1]; obtain ⟨e0, e1, e2, e3⟩ := Vc.mov_app a b c x y z; rw [e0, e1, e2, e3], k.2⟩

/-- the law's own blocks: three numbers, a vertex, matrices, vectors -/
structure Mo (w W : World) (a b c x y z : Int) (cs : List Value) (ms vs : List (Nat × (Nat → Int))) : Prop where
  i : Rw 3 W w.heap.size (Vc.v4 a b c 0)
  r : W.rangeAt (w.heap.size + 1) 0 (.int .i64 x :: .int .i64 y :: .int .i64 z :: cs)
  k : Kp w.heap.size w W
  z : w.heap.size + 1 < W.heap.size
  ms : ∀ q, q ∈ ms → Rw 16 W q.1 q.2
  vs : ∀ q, q ∈ vs → Rw 4 W q.1 q.2
section
variable {w W W' : World} {a b c x y z : Int} {cs : List Value} {ms vs : List (Nat × (Nat → Int))}
theorem Mo.call (h : Mo w W a b c x y z cs ms vs) (k : Kp W.heap.size W W') : Mo w W' a b c x y z cs ms vs :=
  ⟨h.i.call (by omega) k, fun j v hv => by rw [k.cells _ _ h.z]; exact h.r j v hv, h.k.trans (k.mono h.k.size), Nat.lt_of_lt_of_le h.z k.size, fun q hq => (h.ms q hq).call (by omega) k, fun q hq => (h.vs q hq).call (by omega) k⟩
theorem Mo.putM (h : Mo w W a b c x y z cs ms vs) {cc : Array Value} {t : TypeId} {m : Nat → Int} (s : St W.heap.size (W.alloc (.cells cc t)) W') (r : Rw 16 W' W.heap.size m) : Mo w W' a b c x y z cs ((W.heap.size, m) :: ms) vs := by
  have h2 := h.call ((Kp.refl _ _).alloc (Nat.le_refl _) cc t)
  have hs := s.size
  refine ⟨s.rw h2.i (by have := h.z; omega), fun j v hv => by rw [s.cells _ _ (by have := h.z; omega)]; exact h2.r j v hv, s.kp h2.k h.k.size, by have := h2.z; omega, fun q hq => ?_, fun q hq => s.rw (h2.vs q hq) (Nat.ne_of_lt ((h.vs q hq).lt (by omega)))⟩
  rcases List.mem_cons.1 hq with rfl | hq
  · exact r
  · exact s.rw (h2.ms q hq) (Nat.ne_of_lt ((h.ms q hq).lt (by omega)))
theorem Mo.putV (h : Mo w W a b c x y z cs ms vs) (g : Nat → Int) (t : TypeId) : Mo w (W.alloc (.cells #[.int .i64 (g 0), .int .i64 (g 1), .int .i64 (g 2), .int .i64 (g 3)] t)) a b c x y z cs ms ((W.heap.size, g) :: vs) := by
  have h2 := h.call ((Kp.refl _ _).alloc (Nat.le_refl _) #[.int .i64 (g 0), .int .i64 (g 1), .int .i64 (g 2), .int .i64 (g 3)] t)
  refine ⟨h2.i, h2.r, h2.k, h2.z, h2.ms, fun q hq => ?_⟩
  rcases List.mem_cons.1 hq with rfl | hq
  · exact Rw.new4 _ g t rfl
  · exact h2.vs q hq
theorem Mo.i0 (h : Mo w W a b c x y z cs ms vs) : W.cell? ⟨w.heap.size, 0, none⟩ = some (.int .i64 a) := h.i.cell 0 (by omega)
theorem Mo.i1 (h : Mo w W a b c x y z cs ms vs) : W.cell? ⟨w.heap.size, 1, none⟩ = some (.int .i64 b) := h.i.cell 1 (by omega)
theorem Mo.i2 (h : Mo w W a b c x y z cs ms vs) : W.cell? ⟨w.heap.size, 2, none⟩ = some (.int .i64 c) := h.i.cell 2 (by omega)
theorem Mo.r0 (h : Mo w W a b c x y z cs ms vs) : W.cell? ⟨w.heap.size + 1, 0, none⟩ = some (.int .i64 x) := h.r 0 _ rfl
theorem Mo.r1 (h : Mo w W a b c x y z cs ms vs) : W.cell? ⟨w.heap.size + 1, 1, none⟩ = some (.int .i64 y) := h.r 1 _ rfl
theorem Mo.r2 (h : Mo w W a b c x y z cs ms vs) : W.cell? ⟨w.heap.size + 1, 2, none⟩ = some (.int .i64 z) := h.r 2 _ rfl
theorem Mo.m1 {q : Nat × (Nat → Int)} (h : Mo w W a b c x y z cs (q :: ms) vs) : Rw 16 W q.1 q.2 := h.ms q (by simp)
theorem Mo.m2 {q q' : Nat × (Nat → Int)} (h : Mo w W a b c x y z cs (q' :: q :: ms) vs) : Rw 16 W q.1 q.2 := h.ms q (by simp)
theorem Mo.v1 {q : Nat × (Nat → Int)} (h : Mo w W a b c x y z cs ms (q :: vs)) : Rw 4 W q.1 q.2 := h.vs q (by simp)
theorem Mo.v2 {q q' : Nat × (Nat → Int)} (h : Mo w W a b c x y z cs ms (q' :: q :: vs)) : Rw 4 W q.1 q.2 := h.vs q (by simp)
end
theorem Mo.new (w : World) (a b c x y z : Int) (c0 c1 c2 c3 c4 c5 : Value) (t t' : TypeId) : Mo w ((w.alloc (.cells #[.int .i64 a, .int .i64 b, .int .i64 c] t)).alloc (.cells #[.int .i64 x, .int .i64 y, .int .i64 z, c0, c1, c2, c3, c4, c5] t')) a b c x y z [c0, c1, c2, c3, c4, c5] [] [] := by
  refine ⟨?_, ?_, ((Kp.refl _ _).alloc (Nat.le_refl _) _ _).alloc (by simp) _ _, by simp, fun q hq => by simp at hq, fun q hq => by simp at hq⟩
  · refine Rw.alloc ?_ (by omega) _ _
    intro j hj
    refine ⟨cells3 w a b c t rfl j hj, ?_⟩
    exact frozen_of_row _ _ j _ _ (heap_alloc_new w _)
  · intro j v hv
    rw [Nat.zero_add, cell_of_row _ _ j #[.int .i64 x, .int .i64 y, .int .i64 z, c0, c1, c2, c3, c4, c5] t' (0, 0) (by have := heap_alloc_new (w.alloc (.cells #[.int .i64 a, .int .i64 b, .int .i64 c] t)) (.cells #[.int .i64 x, .int .i64 y, .int .i64 z, c0, c1, c2, c3, c4, c5] t'); simpa using this)]
    simpa using hv
theorem run_eqD (a b c : Int) (w : World) : (Op.equalIn 10000 23 (.agg (Vc.ar (Vc.diag (Vc.v4 a b c 65536)))) (.agg #[.int .i64 a, .int .i64 0, .int .i64 0, .int .i64 0, .int .i64 0, .int .i64 b, .int .i64 0, .int .i64 0, .int .i64 0, .int .i64 0, .int .i64 c, .int .i64 0, .int .i64 0, .int .i64 0, .int .i64 0, .int .i64 65536])).run Try.prog w = .ok true w :=
  run_eqM_same (Vc.diag (Vc.v4 a b c 65536)) w

theorem scale_yes (x y z : Int) (w : World) (h : Vc.wi 16777216 (Vc.v4 x y z 0) 3 = true) :
    Calls Try.prog 16 #[.int .i64 x, .int .i64 y, .int .i64 z] w fun e w' => e = .returned (.tuple #[.agg (Vc.ar (Vc.diag (Vc.v4 x y z 65536))), .int .i64 0]) ∧ Kp w.heap.size w w' := by
  have := scale_any x y z w; rwa [if_pos h] at this
theorem scale_no (x y z : Int) (w : World) (h : Vc.wi 16777216 (Vc.v4 x y z 0) 3 = false) :
    Calls Try.prog 16 #[.int .i64 x, .int .i64 y, .int .i64 z] w fun e w' => e = .returned (.tuple #[.agg (Vc.ar (fun _ => 0)), .int .i64 3]) ∧ Kp w.heap.size w w' := by
  have := scale_any x y z w; rwa [if_neg (by simp [h])] at this
end Go.Proofs.Ytbhdmfoigilibaa
