/-
  Contracts of layer 6 (tint): colours made channel by channel; held as channels; Right, Pack, Unpack.
-/
import Derived.Test.YtbhpjklomnjkfaaTintWalks
namespace Go.Proofs.Ytbhpjklomnjkfaa
open Go.RowKit

set_option maxHeartbeats 1000000 in
theorem rright_any (r g b a : Int) (w : World) :
    Calls Try.prog 13 #[.agg #[.int .i64 r, .int .i64 g, .int .i64 b, .int .i64 a]] w fun e w' => e = .returned (.bool (Tn.right r g b a)) ∧ Kp w.heap.size w w' := by
  cases h0 : Tn.is r
  · go_enter Try.func13, Try.ntmps13
    go_wp2_with (first | go_skip | (go_at_call 26; refine (ris_any _ _).mono ?_; rintro e w' ⟨rfl, rfl⟩))
    go_ret
    exact ⟨ret_bool (by simp [Tn.right, h0]), Kp.new _ _ _⟩
  cases h1 : Tn.is g
  · go_enter Try.func13, Try.ntmps13
    go_wp2_with (first | go_skip | (go_at_call 26; refine (ris_any _ _).mono ?_; rintro e w' ⟨rfl, rfl⟩))
    go_ret
    exact ⟨ret_bool (by simp [Tn.right, h1]), Kp.new _ _ _⟩
  cases h2 : Tn.is b
  · go_enter Try.func13, Try.ntmps13
    go_wp2_with (first | go_skip | (go_at_call 26; refine (ris_any _ _).mono ?_; rintro e w' ⟨rfl, rfl⟩))
    go_ret
    exact ⟨ret_bool (by simp [Tn.right, h2]), Kp.new _ _ _⟩
  · go_enter Try.func13, Try.ntmps13
    go_wp2_with (first | go_skip | (go_at_call 26; refine (ris_any _ _).mono ?_; rintro e w' ⟨rfl, rfl⟩))
    go_ret
    exact ⟨ret_bool (by simp [Tn.right, h0, h1, h2]), Kp.new _ _ _⟩

end Go.Proofs.Ytbhpjklomnjkfaa
