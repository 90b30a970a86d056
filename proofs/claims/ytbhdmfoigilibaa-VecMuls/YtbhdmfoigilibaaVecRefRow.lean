/-
  Contracts of the document's own answers for layer 5: a row's sum.
-/
import Derived.Test.YtbhdmfoigilibaaVecRef
namespace Go.Proofs.Ytbhdmfoigilibaa
open Go.RowKit

theorem Vc.ps4 (a b : Nat → Int) : Vc.ps a b 4 = a 0 * b 0 + a 1 * b 1 + a 2 * b 2 + a 3 * b 3 := by
  simp only [Vc.ps, Int.zero_add]

theorem rfloor_here (a b : Int) (w : World) (ha : -9223372036854775808 ≤ a ∧ a ≤ 9223372036854775807) (hb : 1 ≤ b ∧ b ≤ 65536) :
    Calls Try.prog 27 #[.int .i64 a, .int .i64 b] w fun e w' => e = .returned (.int .i64 (a / b)) ∧ w' = w :=
  (rfloor_pos a b w ha hb).mono fun _ _ h => ⟨h.1, h.2.symm⟩

set_option maxHeartbeats 4000000 in
theorem rrow_any (m v : Nat → Int) (i : Nat) (hi : i < 4) (w : World) (hm : ∀ j, j < 16 → -16777216 ≤ m j ∧ m j ≤ 16777216) (hv : ∀ j, j < 4 → -1073741824 ≤ v j ∧ v j ≤ 1073741824) :
    Calls Try.prog 23 #[.agg (Vc.ar (m)), .int .i64 i, .agg #[.int .i64 (v 0), .int .i64 (v 1), .int .i64 (v 2), .int .i64 (v 3)]] w fun e w' => e = .returned (.int .i64 (Vc.app m v i)) ∧ Kp w.heap.size w w' := by
  have HP := Lib.hid (Vc.ps4 (Vc.row m i) v)
  have b0 := Vc.mul_bd (hm (4 * i) (by omega)) (hv 0 (by omega))
  have b1 := Vc.mul_bd (hm (4 * i + 1) (by omega)) (hv 1 (by omega))
  have b2 := Vc.mul_bd (hm (4 * i + 2) (by omega)) (hv 2 (by omega))
  have b3 := Vc.mul_bd (hm (4 * i + 3) (by omega)) (hv 3 (by omega))
  simp only [Int.reduceMul] at b0 b1 b2 b3
  obtain ⟨b01, b02⟩ := b0
  obtain ⟨b11, b12⟩ := b1
  obtain ⟨b21, b22⟩ := b2
  obtain ⟨b31, b32⟩ := b3
  clear hm hv
  have hA := ((Rw.new16 w m 23 rfl).alloc (by omega) #[.int .i64 (v 0), .int .i64 (v 1), .int .i64 (v 2), .int .i64 (v 3)] 25)
  have hB := Rw.new4 (w.alloc (.cells (Vc.ar m) 23)) v 25 (b := w.heap.size + 1) (by simp)
  have c0 := hA.cell (4 * i) (by omega)
  have c1 := hA.cell (4 * i + 1) (by omega)
  have c2 := hA.cell (4 * i + 2) (by omega)
  have c3 := hA.cell (4 * i + 3) (by omega)
  have hc := hB.cell
  clear hA hB
  have l0 : IntKind.i64.wrap 0 = 0 := by decide
  have l1 : IntKind.i64.wrap 1 = 1 := by decide
  have l2 : IntKind.i64.wrap 2 = 2 := by decide
  have l3 : IntKind.i64.wrap 3 = 3 := by decide
  have l4 : IntKind.i64.wrap 4 = 4 := by decide
  have l5 : IntKind.i64.wrap 5 = 5 := by decide
  have l6 : IntKind.i64.wrap 6 = 6 := by decide
  have l7 : IntKind.i64.wrap 7 = 7 := by decide
  have l8 : IntKind.i64.wrap 8 = 8 := by decide
  have l9 : IntKind.i64.wrap 9 = 9 := by decide
  have l10 : IntKind.i64.wrap 10 = 10 := by decide
  have l11 : IntKind.i64.wrap 11 = 11 := by decide
  have l12 : IntKind.i64.wrap 12 = 12 := by decide
  have l13 : IntKind.i64.wrap 13 = 13 := by decide
  have l14 : IntKind.i64.wrap 14 = 14 := by decide
  have l15 : IntKind.i64.wrap 15 = 15 := by decide
  have e0 : IntKind.i64.wrap (m (4 * i) * v 0) = m (4 * i) * v 0 := IntWalk.i64_in _ (by omega)
  have e1 : IntKind.i64.wrap (m (4 * i + 1) * v 1) = m (4 * i + 1) * v 1 := IntWalk.i64_in _ (by omega)
  have e2 : IntKind.i64.wrap (m (4 * i + 2) * v 2) = m (4 * i + 2) * v 2 := IntWalk.i64_in _ (by omega)
  have e3 : IntKind.i64.wrap (m (4 * i + 3) * v 3) = m (4 * i + 3) * v 3 := IntWalk.i64_in _ (by omega)
  have s1 : IntKind.i64.wrap (m (4 * i) * v 0 + m (4 * i + 1) * v 1) = m (4 * i) * v 0 + m (4 * i + 1) * v 1 := IntWalk.i64_in _ (by omega)
  have s2 : IntKind.i64.wrap (m (4 * i) * v 0 + m (4 * i + 1) * v 1 + m (4 * i + 2) * v 2) = m (4 * i) * v 0 + m (4 * i + 1) * v 1 + m (4 * i + 2) * v 2 := IntWalk.i64_in _ (by omega)
  have s3 : IntKind.i64.wrap (m (4 * i) * v 0 + m (4 * i + 1) * v 1 + m (4 * i + 2) * v 2 + m (4 * i + 3) * v 3) = m (4 * i) * v 0 + m (4 * i + 1) * v 1 + m (4 * i + 2) * v 2 + m (4 * i + 3) * v 3 := IntWalk.i64_in _ (by omega)
  obtain rfl | rfl | rfl | rfl : i = 0 ∨ i = 1 ∨ i = 2 ∨ i = 3 := by omega
  all_goals
    simp only [Nat.reduceMul, Nat.reduceAdd] at b01 b02 b11 b12 b21 b22 b31 b32 c0 c1 c2 c3 e0 e1 e2 e3 s1 s2 s3
    go_enter Try.func23, Try.ntmps23
    go_wp2
    go_quiet ((go_at_call 27; exact Calls.quiet_of_same (rfloor_here _ _ _ (by omega) (by omega))))
    go_wp2
    go_ret
    exact ⟨ret_int (by unfold Vc.app Vc.prod; rw [HP.out]; rfl), (((Kp.refl _ _).alloc (Nat.le_refl _) _ _).alloc (by simp) _ _).drewN _⟩
end Go.Proofs.Ytbhdmfoigilibaa
