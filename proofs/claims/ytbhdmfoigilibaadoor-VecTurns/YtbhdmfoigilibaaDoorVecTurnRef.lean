/-
  The document's own turn by one quarter; what a turn does to a vector.
-/
import Derived.Test.YtbhdmfoigilibaaDoorVecRef
import Derived.Test.YtbhdmfoigilibaaDoorVecAwake
namespace Go.Proofs.YtbhdmfoigilibaaDoor
open Go.RowKit

/-- a vector, turned by one quarter about an axis -/
def Vc.trn (ax : Nat) (v : Nat → Int) : Nat → Int := if ax = 0 then Vc.v4 (v 0) (-(v 2)) (v 1) (v 3) else if ax = 1 then Vc.v4 (v 2) (v 1) (-(v 0)) (v 3) else Vc.v4 (-(v 1)) (v 0) (v 2) (v 3)
theorem Vc.trn_bd {ax : Nat} {v : Nat → Int} (h : ∀ j, j < 4 → -1073741824 ≤ v j ∧ v j ≤ 1073741824) : ∀ j, j < 4 → -1073741824 ≤ Vc.trn ax v j ∧ Vc.trn ax v j ≤ 1073741824 := by
  have h0 := h 0 (by omega); have h1 := h 1 (by omega); have h2 := h 2 (by omega); have h3 := h 3 (by omega)
  intro j hj
  unfold Vc.trn
  split
  · rcases j with _ | _ | _ | _ | j <;> simp only [Vc.v4] <;> omega
  · split <;> (rcases j with _ | _ | _ | _ | j <;> simp only [Vc.v4] <;> omega)

set_option maxHeartbeats 1000000 in
theorem rturned_any (ax : Nat) (v : Nat → Int) (w : World) (ha : ax < 3) (hv : ∀ j, j < 4 → -1073741824 ≤ v j ∧ v j ≤ 1073741824) :
    Calls Tryd.prog 9 #[.int .i64 ax, .agg #[.int .i64 (v 0), .int .i64 (v 1), .int .i64 (v 2), .int .i64 (v 3)]] w fun e w' => e = .returned (.agg #[.int .i64 ((Vc.trn ax v) 0), .int .i64 ((Vc.trn ax v) 1), .int .i64 ((Vc.trn ax v) 2), .int .i64 ((Vc.trn ax v) 3)]) ∧ Kp w.heap.size w w' := by
  obtain ⟨a0, b0⟩ := hv 0 (by omega)
  obtain ⟨a1, b1⟩ := hv 1 (by omega)
  obtain ⟨a2, b2⟩ := hv 2 (by omega)
  clear hv
  obtain rfl | rfl | rfl : ax = 0 ∨ ax = 1 ∨ ax = 2 := by omega
  all_goals
    go_enter Tryd.func9, Tryd.ntmps9
    go_wp2
    refine bodyPost_ret (by simp [results, Tryd.results9, go_sem]; exact ⟨rfl, rfl, rfl, rfl⟩) rfl ⟨rfl, ?_⟩
    exact ((Kp.refl _ _).alloc (Nat.le_refl _) _ _).alloc (by simp) _ _
end Go.Proofs.YtbhdmfoigilibaaDoor
