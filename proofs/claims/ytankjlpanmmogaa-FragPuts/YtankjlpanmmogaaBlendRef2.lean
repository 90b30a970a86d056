/-
  The document's own answers for layer 7 (blend): a channel; Mix.
-/
import Derived.Test.YtankjlpanmmogaaBlendRef
namespace Go.Proofs.Ytankjlpanmmogaa
set_option maxRecDepth 100000
open Go.RowKit

theorem Bn.eqn_3 (x y f g : Int) : Bn.eqn 3 x y f g = Tn.low x y := by simp [Bn.eqn]
theorem Bn.eqn_4 (x y f g : Int) : Bn.eqn 4 x y f g = Bn.high x y := by simp [Bn.eqn]
theorem Bn.eqn_0 (x y f g : Int) : Bn.eqn 0 x y f g = Tn.sat ((x * f + y * g + 127) / 255) 0 255 := by simp [Bn.eqn, Bn.near, Tn.ch]
theorem Bn.eqn_1 (x y f g : Int) : Bn.eqn 1 x y f g = Tn.sat ((x * f - y * g + 127) / 255) 0 255 := by simp [Bn.eqn, Bn.near, Tn.ch]
theorem Bn.eqn_2 (x y f g : Int) : Bn.eqn 2 x y f g = Tn.sat ((y * g - x * f + 127) / 255) 0 255 := by simp [Bn.eqn, Bn.near, Tn.ch]
set_option maxHeartbeats 4000000 in
theorem rchannel_any (s d q m x y xa ya : Int) (w : World) (hs : Bn.am 10 s = true) (hd : Bn.am 10 d = true) (hq : Bn.am 5 q = true) (hx : 0 ≤ x ∧ x ≤ 255) (hy : 0 ≤ y ∧ y ≤ 255) (hxa : 0 ≤ xa ∧ xa ≤ 255) (hya : 0 ≤ ya ∧ ya ≤ 255) :
    Calls Try.prog 57 #[.agg #[.int .i64 s, .int .i64 d, .int .i64 q, .int .i64 m], .int .i64 x, .int .i64 y, .int .i64 xa, .int .i64 ya] w fun e w' => e = .returned (.int .i64 (Bn.mx s d q x y xa ya)) ∧ Kp w.heap.size w w' := by
  have HF := Lib.hid (fun W => rfactor_any s x y xa ya W hs hx hy hxa hya)
  have HG := Lib.hid (fun W => rfactor_any d x y xa ya W hd hx hy hxa hya)
  have HO := Lib.hid ((Ow.refl w).newAt w.heap.size rfl (.int .i64 s) [.int .i64 d, .int .i64 q, .int .i64 m] 35)
  obtain ⟨p1, p2⟩ := Bn.prod_bd hx (Bn.fac_bd (k := s) hx hy hxa hya)
  obtain ⟨p3, p4⟩ := Bn.prod_bd hy (Bn.fac_bd (k := d) hx hy hxa hya)
  unfold Bn.mx
  generalize Bn.fac s x y xa ya = f at *
  generalize Bn.fac d x y xa ya = g at *
  have h5 := Bn.am_iff.1 hq
  have hc : q = 0 ∨ q = 1 ∨ q = 2 ∨ q = 3 ∨ q = 4 := by omega
  clear hs hd hq hx hy hxa hya h5
  rcases hc with rfl | rfl | rfl | rfl | rfl
  all_goals
    have c0 := (HO.out.at 0 rfl).cell 0 rfl
    first | rw [Bn.eqn_0] | rw [Bn.eqn_1] | rw [Bn.eqn_2] | rw [Bn.eqn_3] | rw [Bn.eqn_4]
    go_enter Try.func57, Try.ntmps57
    go_wp2_with (first
      | (go_at_call 74; (first | with_reducible refine (HF.out _).mono ?_ | with_reducible refine (HG.out _).mono ?_); rintro e w1 ⟨rfl, hk⟩; have l2 := HO.out.call hk; clear HO hk; have HO := Lib.hid l2; clear l2; have c1 := (HO.out.at 0 rfl).cell 1 rfl; have c2 := (HO.out.at 0 rfl).cell 2 rfl)
      | (go_at_call 75; refine (trlow_any _ _ _).mono ?_; rintro e w' ⟨rfl, rfl⟩)
      | (go_at_call 76; refine (brhigh_any _ _ _).mono ?_; rintro e w' ⟨rfl, rfl⟩)
      | (go_at_call 78; refine (rfloor_255 _ _ (by omega) (by omega)).mono ?_; rintro e w' ⟨rfl, rfl⟩)
      | (go_at_call 77; refine (trsat_any _ _ _ _).mono ?_; rintro e w' ⟨rfl, rfl⟩))
    go_ret
    exact ⟨rfl, HO.out.k⟩
end Go.Proofs.Ytankjlpanmmogaa
