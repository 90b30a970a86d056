/-
  Contracts of layer 6 (tint): colours made channel by channel; held as channels; Right, Pack, Unpack.
-/
import Derived.Test.YtneomplhikenfaaTintWalks
namespace Go.Proofs.Ytneomplhikenfaa
open Go.RowKit

set_option maxHeartbeats 1000000 in
theorem rright_any (r g b a : Int) (w : World) :
    Calls Try.prog 10 #[.agg #[.int .i64 r, .int .i64 g, .int .i64 b, .int .i64 a]] w fun e w' => e = .returned (.bool (Tn.right r g b a)) ∧ Kp w.heap.size w w' := by
  cases h0 : Tn.is r
  · go_enter Try.func10, Try.ntmps10
    go_wp2_with (first | go_skip | (go_at_call 20; refine (ris_any _ _).mono ?_; rintro e w' ⟨rfl, rfl⟩))
    go_ret
    exact ⟨ret_bool (by simp [Tn.right, h0]), Kp.new _ _ _⟩
  cases h1 : Tn.is g
  · go_enter Try.func10, Try.ntmps10
    go_wp2_with (first | go_skip | (go_at_call 20; refine (ris_any _ _).mono ?_; rintro e w' ⟨rfl, rfl⟩))
    go_ret
    exact ⟨ret_bool (by simp [Tn.right, h1]), Kp.new _ _ _⟩
  cases h2 : Tn.is b
  · go_enter Try.func10, Try.ntmps10
    go_wp2_with (first | go_skip | (go_at_call 20; refine (ris_any _ _).mono ?_; rintro e w' ⟨rfl, rfl⟩))
    go_ret
    exact ⟨ret_bool (by simp [Tn.right, h2]), Kp.new _ _ _⟩
  · go_enter Try.func10, Try.ntmps10
    go_wp2_with (first | go_skip | (go_at_call 20; refine (ris_any _ _).mono ?_; rintro e w' ⟨rfl, rfl⟩))
    go_ret
    exact ⟨ret_bool (by simp [Tn.right, h0, h1, h2]), Kp.new _ _ _⟩

/-- the channels that a function makes of six numbers -/
theorem of1_any (l0 l1 l2 l3 l4 l5 : Int) (i : Nat) (hi : i < 4) (x : Int) (bx : Nat) (w : World) (hx : [l0, l1, l2, l3][i]? = some x)
    (hR : Rc w bx [.int .i64 l0, .int .i64 l1, .int .i64 l2, .int .i64 l3, .int .i64 l4, .int .i64 l5]) :
    Calls Try.prog 33 #[.int .i64 i, .pointer (some ⟨bx, 0, none⟩)] w fun e w' => e = .returned (.int .i64 (Tn.ch x)) ∧ w = w' := by
  have c0 := hR.cell 0 rfl; have c1 := hR.cell 1 rfl; have c2 := hR.cell 2 rfl; have c3 := hR.cell 3 rfl
  clear hR
  obtain rfl | rfl | rfl | rfl : i = 0 ∨ i = 1 ∨ i = 2 ∨ i = 3 := by omega
  all_goals
    simp at hx
    subst hx
    go_enter Try.func33, Try.ntmps33
    go_wp2_with (go_at_call 34; refine (sat_any _ _ _ _).mono ?_; rintro e w' ⟨rfl, rfl⟩)
    go_ret
    exact ⟨rfl, rfl⟩

set_option maxHeartbeats 1000000 in
theorem made_of (l0 l1 l2 l3 l4 l5 : Int) (bx : Nat) (w : World)
    (hR : Rc w bx [.int .i64 l0, .int .i64 l1, .int .i64 l2, .int .i64 l3, .int .i64 l4, .int .i64 l5]) :
    Calls Try.prog 32 #[.func (Fn.func 33) #[] #[.pointer (some ⟨bx, 0, none⟩)]] w fun e w' => e = .returned (.agg #[.int .i64 (Tn.ch l0), .int .i64 (Tn.ch l1), .int .i64 (Tn.ch l2), .int .i64 (Tn.ch l3)]) ∧ Kp w.heap.size w w' := by
  have HR := Lib.hid (hR.kp (Kp.new w #[.int .i64 0, .int .i64 0, .int .i64 0, .int .i64 0] 25) (hR.lt (by simp)))
  clear hR
  go_enter Try.func32, Try.ntmps32
  go_wp2_with (go_at_call 33; (first | refine (of1_any l0 l1 l2 l3 l4 l5 0 (by omega) l0 bx _ rfl HR.out).mono ?_ | refine (of1_any l0 l1 l2 l3 l4 l5 1 (by omega) l1 bx _ rfl HR.out).mono ?_ | refine (of1_any l0 l1 l2 l3 l4 l5 2 (by omega) l2 bx _ rfl HR.out).mono ?_ | refine (of1_any l0 l1 l2 l3 l4 l5 3 (by omega) l3 bx _ rfl HR.out).mono ?_); rintro e w' ⟨rfl, rfl⟩)
  exact bodyPost_ret (results_c ty_color rfl rfl rfl (Rc.new w [.int .i64 _, .int .i64 _, .int .i64 _, .int .i64 _] _ rfl)) rfl ⟨rfl, Kp.new _ _ _⟩
end Go.Proofs.Ytneomplhikenfaa
