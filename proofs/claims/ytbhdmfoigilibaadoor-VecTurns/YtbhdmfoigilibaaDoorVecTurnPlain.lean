/-
  What a turn does to a vector is what so many quarters do.
-/
import Derived.Test.YtbhdmfoigilibaaDoorVecTurnRef
import Derived.Test.YtbhdmfoigilibaaDoorVecTurn2
namespace Go.Proofs.YtbhdmfoigilibaaDoor
open Go.RowKit

def Vc.trnN (ax : Nat) : Nat → (Nat → Int) → Nat → Int
  | 0, v => v
  | k + 1, v => Vc.trn ax (Vc.trnN ax k v)
theorem Vc.trnN_bd {ax : Nat} {v : Nat → Int} (h : ∀ j, j < 4 → -1073741824 ≤ v j ∧ v j ≤ 1073741824) : ∀ k j, j < 4 → -1073741824 ≤ Vc.trnN ax k v j ∧ Vc.trnN ax k v j ≤ 1073741824
  | 0, j, hj => h j hj
  | k + 1, j, hj => Vc.trn_bd (Vc.trnN_bd h k) j hj
theorem Vc.app4 (m v : Nat → Int) (i : Nat) : Vc.app m v i = (m (4 * i) * v 0 + m (4 * i + 1) * v 1 + m (4 * i + 2) * v 2 + m (4 * i + 3) * v 3) / 65536 := by
  unfold Vc.app Vc.prod
  simp only [Vc.ps, Int.zero_add]
  rfl
theorem Vc.div16 (x y z u a b c d : Int) (h : a * x + b * y + c * z + d * u = 65536 * (a / 65536 * x + b / 65536 * y + c / 65536 * z + d / 65536 * u)) : (a * x + b * y + c * z + d * u) / 65536 = a / 65536 * x + b / 65536 * y + c / 65536 * z + d / 65536 * u := by
  rw [h, Int.mul_ediv_cancel_left _ (by decide)]

set_option maxHeartbeats 4000000 in
theorem Vc.turn_app {ax r : Nat} (v : Nat → Int) (ha : ax < 3) (hr : r < 4) : ∀ j, j < 4 → Vc.app (Vc.turn ax r) v j = Vc.trnN ax r v j := by
  intro j hj
  rw [Vc.app4]
  obtain rfl | rfl | rfl : ax = 0 ∨ ax = 1 ∨ ax = 2 := by omega
  all_goals
    obtain rfl | rfl | rfl | rfl : r = 0 ∨ r = 1 ∨ r = 2 ∨ r = 3 := by omega
    all_goals
      obtain rfl | rfl | rfl | rfl : j = 0 ∨ j = 1 ∨ j = 2 ∨ j = 3 := by omega
      all_goals
        simp [Vc.turn, Vc.lay, Vc.put, Vc.sn, Vc.one, Vc.diag, Vc.trnN, Vc.trn, Vc.v4]
        try omega
theorem Vc.turn_may {ax r : Nat} (ha : ax < 3) (hr : r < 4) : Vc.wi 16777216 (Vc.turn ax r) 16 = true := by
  obtain rfl | rfl | rfl : ax = 0 ∨ ax = 1 ∨ ax = 2 := by omega
  all_goals
    obtain rfl | rfl | rfl | rfl : r = 0 ∨ r = 1 ∨ r = 2 ∨ r = 3 := by omega
    all_goals decide
theorem apply_turn {ax r : Nat} (v : Nat → Int) (w : World) (ha : ax < 3) (hr : r < 4) (hv : Vc.wi 1073741824 v 4 = true) :
    Calls Tryd.prog 6 #[.agg (Vc.ar (Vc.turn ax r)), .agg #[.int .i64 (v 0), .int .i64 (v 1), .int .i64 (v 2), .int .i64 (v 3)]] w fun e w' => e = .returned (.tuple #[.agg #[.int .i64 ((Vc.trnN ax r v) 0), .int .i64 ((Vc.trnN ax r v) 1), .int .i64 ((Vc.trnN ax r v) 2), .int .i64 ((Vc.trnN ax r v) 3)], .int .i64 0]) ∧ Kp w.heap.size w w' :=
  (apply_yes (Vc.turn ax r) v w (Vc.turn_may ha hr) hv).mono fun e w' h => ⟨by
    rw [h.1, Vc.turn_app v ha hr 0 (by omega), Vc.turn_app v ha hr 1 (by omega), Vc.turn_app v ha hr 2 (by omega), Vc.turn_app v ha hr 3 (by omega)], h.2⟩
end Go.Proofs.YtbhdmfoigilibaaDoor
