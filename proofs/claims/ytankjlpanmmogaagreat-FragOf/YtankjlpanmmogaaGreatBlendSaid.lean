/-
  Contracts of layer 7 (blend): what a factor says; what a mask writes; Factor.
-/
import Derived.Test.YtankjlpanmmogaaGreatBlendEq
namespace Go.Proofs.YtankjlpanmmogaaGreat
set_option maxRecDepth 100000
open Go.RowKit

theorem right_even {r g b a : Int} (h : Tn.right r g b a = true) : Tn.right a a a a = true := by
  have := Tn.right_iff.1 h
  exact Tn.right_iff.2 ⟨this.2.2.2, this.2.2.2, this.2.2.2, this.2.2.2⟩
set_option maxHeartbeats 4000000 in
theorem said_any (k r g b a r' g' b' a' : Int) (w : World) (hk : Bn.am 10 k = true) (h : Tn.right r g b a = true) (h' : Tn.right r' g' b' a' = true) :
    Calls Tryz.prog 108 #[.int .i64 k, .agg #[.int .i64 r, .int .i64 g, .int .i64 b, .int .i64 a], .agg #[.int .i64 (r'), .int .i64 (g'), .int .i64 (b'), .int .i64 (a')]] w fun e w' => e = .returned (.agg #[.int .i64 (Bn.fac k r r' a a'), .int .i64 (Bn.fac k g g' a a'), .int .i64 (Bn.fac k b b' a a'), .int .i64 (Bn.fac k a a' a a')]) ∧ Kp w.heap.size w w' := by
  have HO := Lib.hid ((((Ow.refl w).newAt w.heap.size rfl (.int .i64 r) [.int .i64 g, .int .i64 b, .int .i64 a] 51).newAt (w.heap.size + 1) (by simp) (.int .i64 r') [.int .i64 g', .int .i64 b', .int .i64 a'] 51).newAt (w.heap.size + 2) (by simp) (.int .i64 0) [.int .i64 0, .int .i64 0, .int .i64 0] 51)
  have HA := Lib.hid (right_even h)
  have HA' := Lib.hid (right_even h')
  have h9 := Bn.am_iff.1 hk
  have hc : k = 0 ∨ k = 1 ∨ k = 2 ∨ k = 3 ∨ k = 4 ∨ k = 5 ∨ k = 6 ∨ k = 7 ∨ k = 8 ∨ k = 9 := by omega
  clear hk h9
  rcases hc with rfl | rfl | rfl | rfl | rfl | rfl | rfl | rfl | rfl | rfl
  all_goals
    have c3 := (HO.out.at 2 rfl).cell 3 rfl
    have d3 := (HO.out.at 1 rfl).cell 3 rfl
    go_enter Tryz.func108, Tryz.ntmps108
    go_wp2_with (first
      | ((with_reducible show wpList _ _ _ ({ dst := _, op := Op.load 51 _, type := _, pos := _, after := _, guard := _ } :: _) _ _); refine wpList_ldr ty_color rfl _ rfl _ rfl _ rfl (HO.out.at 2 rfl) ?_) | ((with_reducible show wpList _ _ _ ({ dst := _, op := Op.load 51 _, type := _, pos := _, after := _, guard := _ } :: _) _ _); refine wpList_ldr ty_color rfl _ rfl _ rfl _ rfl (HO.out.at 1 rfl) ?_)
      | (go_at_call 127; refine (even_any _ _).mono ?_; rintro e w1 ⟨rfl, hk⟩; have l2 := HO.out.call hk; clear HO hk; have HO := Lib.hid l2; clear l2)
      | (go_at_call 128; (first | with_reducible refine (rest_any r g b a _ h).mono ?_ | with_reducible refine (rest_any r' g' b' a' _ h').mono ?_ | with_reducible refine (rest_any a a a a _ HA.out).mono ?_ | with_reducible refine (rest_any a' a' a' a' _ HA'.out).mono ?_); rintro e w1 ⟨rfl, hk⟩; have l2 := HO.out.call hk; clear HO hk; have HO := Lib.hid l2; clear l2)
      | ((with_reducible show wpList _ _ _ ({ dst := _, op := Op.store 51 _ _, type := _, pos := _, after := _, guard := _ } :: _) _ _); refine wpList_sto ty_color HO.out 0 [.int .i64 _, .int .i64 _, .int .i64 _, .int .i64 _] rfl _ _ rfl _ rfl rfl _ rfl rfl rfl rfl ?_; intro w2 l2; clear HO; have HO := Lib.hid l2; clear l2))
    exact bodyPost_ret (results_c ty_color rfl rfl rfl (HO.out.at 0 rfl)) rfl ⟨rfl, HO.out.k⟩
end Go.Proofs.YtankjlpanmmogaaGreat
