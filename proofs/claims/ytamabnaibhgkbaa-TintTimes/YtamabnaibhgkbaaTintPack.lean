/-
  Contracts of layer 6 (tint): Pack of a right colour.
-/
import Derived.Test.YtamabnaibhgkbaaTintWalks4
namespace Go.Proofs.Ytamabnaibhgkbaa
open Go.RowKit

/-- packed up to channel k -/
def Tn.pk (r g b a : Int) : Nat → Int
  | 0 => 0 | 1 => r | 2 => r * 256 + g | 3 => (r * 256 + g) * 256 + b | _ => Tn.pack r g b a
def Tn.fourth (r g b a : Int) : Nat → Int
  | 0 => r | 1 => g | 2 => b | _ => a
theorem Tn.pk_step {r g b a : Int} (h : Tn.right r g b a = true) (k : Nat) (hk : k < 4) : 0 ≤ Tn.pk r g b a k ∧ Tn.pk r g b a k < 16777216 ∧ 0 ≤ Tn.fourth r g b a k ∧ Tn.fourth r g b a k ≤ 255 ∧ Tn.pk r g b a k * 256 + Tn.fourth r g b a k = Tn.pk r g b a (k + 1) := by
  have := Tn.right_iff.1 h
  obtain rfl | rfl | rfl | rfl : k = 0 ∨ k = 1 ∨ k = 2 ∨ k = 3 := by omega
  all_goals (refine ⟨?_, ?_, ?_, ?_, ?_⟩ <;> first | rfl | (simp only [Tn.pk, Tn.fourth]; omega))
theorem index_four (r g b a : Int) (k : Nat) (hk : k < 4) (w : World) : (Instr.index 42 (.agg #[.int .i64 r, .int .i64 g, .int .i64 b, .int .i64 a]) (.int .i64 k)).run Try.prog w = .ok (.int .i64 (Tn.fourth r g b a k)) w := by
  rcases k with _ | _ | _ | _ | k
  all_goals first | omega | kernel_rfl

set_option maxHeartbeats 1000000 in
theorem pack_yes (r g b a : Int) (w : World) (h : Tn.right r g b a = true) :
    Calls Try.prog 6 #[.agg #[.int .i64 r, .int .i64 g, .int .i64 b, .int .i64 a]] w fun e w' => e = .returned (.tuple #[.int .i64 (Tn.pack r g b a), .int .i64 0]) ∧ Kp w.heap.size w w' := by
  have HO := Lib.hid ((Ow.refl w).newAt w.heap.size rfl (.int .i64 r) [.int .i64 g, .int .i64 b, .int .i64 a] 23)
  have HS := Lib.hid (Tn.pk_step h)
  go_enter Try.func6, Try.ntmps6
  go_wp2_with (first | ((with_reducible show wpList _ _ _ ({ dst := _, op := Op.load 23 _, type := _, pos := _, after := _, guard := _ } :: _) _ _); refine wpList_ldr ty_color rfl _ rfl _ rfl _ rfl (HO.out.at 0 rfl) ?_) | (go_at_call 9; refine (right_any r g b a _).mono ?_; rintro e w1 ⟨rfl, hk⟩; have l2 := HO.out.call hk; clear HO hk; have HO := Lib.hid l2; clear l2) | (go_at_call 20; refine (channels_any r g b a _).mono ?_; rintro e w1 ⟨rfl, hk⟩; have l2 := HO.out.call hk; clear HO hk; have HO := Lib.hid l2; clear l2))
  go_loop [4, 12] (fun n i => ∃ k : Nat, k ≤ 4 ∧ i = .int .i64 k ∧ n = .int .i64 (Tn.pk r g b a k)) (fun _ i => 4 - (intOf i).toNat)
  case atStart => exact ⟨0, by omega, rfl, rfl⟩
  case round =>
    obtain ⟨k, hk, rfl, rfl⟩ := hrel
    by_cases hlt : k < 4
    · have hi := index_four r g b a k hlt
      obtain ⟨p1, p2, p3, p4, p5⟩ := HS.out k hlt
      have hb := bits_or8 p1 (by omega) p3 p4
      rw [p5] at hb
      have P5 := Lib.hid p5
      clear p5
      go_wp2
      go_round
      case rel => exact ⟨k + 1, by omega, by go_num, rfl⟩
      case measure => simp [intOf]; omega
    · obtain rfl : k = 4 := by omega
      go_wp2
      go_ret2
      exact ⟨rfl, HO.out.k⟩
end Go.Proofs.Ytamabnaibhgkbaa
