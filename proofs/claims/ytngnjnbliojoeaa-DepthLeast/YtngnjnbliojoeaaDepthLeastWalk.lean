/-
  DepthLeast: its Go text returns true.
-/
import Derived.Test.YtngnjnbliojoeaaDepthWalks
import Derived.Test.YtngnjnbliojoeaaSlRow
namespace Go.Proofs.Ytngnjnbliojoeaa
open Go.RowKit

theorem test_low (z old : Int) (w : World) :
    Calls Try.prog 12 #[.int .i64 1, .bool true, .int .i64 z, .int .i64 old] w fun e w' => e = .returned (.tuple #[.bool (Dp.pass 1 z old), .int .i64 (Dp.low old z), .int .i64 0]) ∧ w = w' := by
  have h := test_yes 1 true z old w rfl
  rwa [Dp.put_low] at h
def msr (n : Nat) (i : Value) : Nat := n - (intOf i).toNat
/-- what stands is the least so far, by both -/
def LI (w : World) (n : Nat) (x y i : Value) (wr : World) : Prop := ∃ (k : Nat) (m : Int), k ≤ n ∧ x = .int .i64 m ∧ y = .int .i64 m ∧ i = .int .i64 k ∧ w = wr

set_option maxHeartbeats 1000000 in
theorem least_walk (xs : List Int) (u : Value) (w : World) (hu : Sl w u (iv xs)) (hx : xs.length ≤ 9223372036854775807) :
    Calls Try.prog 5 #[u] w fun e w' => e = .returned (.bool true) ∧ Kp w.heap.size w w' := by
  obtain ⟨a, c, rfl, hac, hu⟩ := hu
  rw [iv_len] at hac ⊢
  by_cases hl : 200 < xs.length
  · have hd : (200 : Int) < (xs.length : Int) := by omega
    clear hu hl
    go_enter Try.func5, Try.ntmps5
    go_wp2_with (go_at_call 10; refine (awake_any _).mono ?_; rintro e w' ⟨rfl, rfl⟩)
    go_ret
    exact ⟨rfl, Kp.refl _ _⟩
  · have hd : (xs.length : Int) ≤ 200 := by omega
    have HU := Lib.hid hu
    clear hu hl hx
    go_enter Try.func5, Try.ntmps5
    go_wp2
    go_loopw [3, 4, 5] (fun x y i wr => LI w xs.length x y i wr) (fun _ _ i _ => msr xs.length i)
    case atStart => exact ⟨0, 9223372036854775807, Nat.zero_le _, rfl, rfl, rfl, rfl⟩
    case round =>
      obtain ⟨k, m, hk, rfl, rfl, rfl, rfl⟩ := hrel
      by_cases hlt : k < xs.length
      · have z1 : (k : Int) < (xs.length : Int) := by omega
        obtain ⟨b1, o1, e1, -, c1⟩ := HU.out k _ (iv_get hlt)
        subst e1
        go_wp2_with (first
          | (go_at_call 12; refine (test_low xs[k] m _).mono ?_; rintro e w' ⟨rfl, rfl⟩)
          | (go_at_call 13; refine (rlow_any m xs[k] _).mono ?_; rintro e w' ⟨rfl, rfl⟩))
        go_roundw
        case rel => exact ⟨k + 1, Dp.low m xs[k], by omega, rfl, rfl, by go_num, rfl⟩
        case measure => simp [msr, intOf]; omega
      · go_wp2_with (go_at_call 10; refine (awake_any _).mono ?_; rintro e w' ⟨rfl, rfl⟩)
        go_ret
        exact ⟨rfl, Kp.refl _ _⟩
end Go.Proofs.Ytngnjnbliojoeaa
