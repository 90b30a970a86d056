/-
  Contract of the document's answer of layer 4: are two rows the same? Asked of two that are.
-/
import Derived.Test.YtphgihijobnlhaaTileRows
import Derived.Deep.Draws
namespace Go.Proofs.Ytphgihijobnlhaa
open Go.RowKit

/-- how many rounds are left -/
def msrA (z : Nat) (i : Value) : Nat := z - (intOf i).toNat
set_option maxHeartbeats 1000000 in
theorem alike_same (xs : List Int) (u v : Value) (w : World) (hu : Sl w u (iv xs)) (hv : Sl w v (iv xs)) (hx : xs.length ≤ 1000000) :
    Calls Try.prog 17 #[u, v] w fun e w' => e = .returned (.bool true) ∧ Below w.heap.size w w' := by
  obtain ⟨a, c, rfl, hac, hu⟩ := hu
  obtain ⟨b, d, rfl, hbd, hv⟩ := hv
  rw [iv_len] at hac hbd ⊢
  have HU := Lib.hid hu
  have HV := Lib.hid hv
  clear hu hv
  go_enter Try.func17, Try.ntmps17
  go_wp2
  go_loopw [5] (fun i wr => ∃ k : Nat, k ≤ xs.length ∧ i = .int .i64 k ∧ (∃ m, wr = w.drewN m)) (fun i _ => msrA xs.length i)
  case atStart => exact ⟨0, Nat.zero_le _, rfl, ⟨0, rfl⟩⟩
  case round =>
    obtain ⟨k, hk, rfl, ⟨m, rfl⟩⟩ := hrel
    by_cases hlt : k < xs.length
    · have z1 : (k : Int) < (xs.length : Int) := by omega
      obtain ⟨b1, o1, e1, -, c1⟩ := HU.out k (.int .i64 xs[k]) (iv_get hlt)
      obtain ⟨b2, o2, e2, -, c2⟩ := HV.out k (.int .i64 xs[k]) (iv_get hlt)
      subst e1
      subst e2
      generalize xs[k] = x at *
      go_wp2
      go_quiet (fail)
      go_wp2
      go_roundw
      case rel => exact ⟨k + 1, by omega, by go_num, ⟨_, rfl⟩⟩
      case measure => simp [msrA, intOf]; omega
    · go_wp2
      go_ret
      exact ⟨rfl, by first | exact ((Kp.refl _ _).drewN _).below | exact (((Kp.refl _ _).drewN _).drewN _).below⟩
end Go.Proofs.Ytphgihijobnlhaa
