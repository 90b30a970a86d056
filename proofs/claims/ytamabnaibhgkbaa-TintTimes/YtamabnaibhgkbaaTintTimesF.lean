/-
  Contracts of layer 6 (tint): Times.
-/
import Derived.Test.YtamabnaibhgkbaaTintWalks4
namespace Go.Proofs.Ytamabnaibhgkbaa
open Go.RowKit

theorem product_here (x y : Int) (w : World) (hx : 0 ≤ x ∧ x ≤ 255) (hy : 0 ≤ y ∧ y ≤ 255) :
    Calls Try.prog 25 #[.int .i64 x, .int .i64 y] w fun e w' => e = .returned (.int .i64 (Tn.tm x y)) ∧ w' = w :=
  (product_any x y w hx hy).mono fun _ _ h => ⟨h.1, h.2.symm⟩

set_option maxHeartbeats 1000000 in
theorem times1_any (r g b a r' g' b' a' k x y : Int) (i : Nat) (hk : k = i) (hi : i < 4) (p q : Nat) (w : World) (hp : Rc w p [.int .i64 r, .int .i64 g, .int .i64 b, .int .i64 a]) (hq : Rc w q [.int .i64 r', .int .i64 g', .int .i64 b', .int .i64 a'])
    (hx : [r, g, b, a][i]? = some x) (hy : [r', g', b', a'][i]? = some y) (h1 : 0 ≤ x ∧ x ≤ 255) (h2 : 0 ≤ y ∧ y ≤ 255) :
    Calls Try.prog 24 #[.int .i64 k, .pointer (some ⟨p, 0, none⟩), .pointer (some ⟨q, 0, none⟩)] w fun e w' => e = .returned (.int .i64 (Tn.tm x y)) ∧ Kp w.heap.size w w' := by
  have c0 := hp.cell 0 rfl; have c1 := hp.cell 1 rfl; have c2 := hp.cell 2 rfl; have c3 := hp.cell 3 rfl
  have d0 := hq.cell 0 rfl; have d1 := hq.cell 1 rfl; have d2 := hq.cell 2 rfl; have d3 := hq.cell 3 rfl
  clear hp hq
  obtain ⟨rfl, rfl⟩ | ⟨rfl, rfl⟩ | ⟨rfl, rfl⟩ | ⟨rfl, rfl⟩ : i = 0 ∧ k = 0 ∨ i = 1 ∧ k = 1 ∨ i = 2 ∧ k = 2 ∨ i = 3 ∧ k = 3 := by omega
  all_goals
    clear hk hi
    simp at hx hy
    subst hx hy
    go_enter Try.func24, Try.ntmps24
    go_upto_region 1 with fail
    go_quiet (first | (go_at_call 25; exact Calls.quiet_of_same (product_here _ _ _ h1 h2)))
    go_wp2_with fail
    go_ret
    exact ⟨rfl, (Kp.refl _ _).drewN _⟩

/-- the channels of one colour times those of another one -/
theorem Tn.chs {r g b a r' g' b' a' : Int} (h : Tn.right r g b a = true) (h' : Tn.right r' g' b' a' = true) :
    ((0 ≤ r ∧ r ≤ 255) ∧ (0 ≤ r' ∧ r' ≤ 255)) ∧ ((0 ≤ g ∧ g ≤ 255) ∧ (0 ≤ g' ∧ g' ≤ 255)) ∧ ((0 ≤ b ∧ b ≤ 255) ∧ (0 ≤ b' ∧ b' ≤ 255)) ∧ ((0 ≤ a ∧ a ≤ 255) ∧ (0 ≤ a' ∧ a' ≤ 255)) := by
  have h1 := Tn.right_iff.1 h; have h2 := Tn.right_iff.1 h'
  exact ⟨⟨h1.1, h2.1⟩, ⟨h1.2.1, h2.2.1⟩, ⟨h1.2.2.1, h2.2.2.1⟩, h1.2.2.2, h2.2.2.2⟩

set_option maxHeartbeats 1000000 in
theorem made_times (r g b a r' g' b' a' : Int) (p q : Nat) (w : World) (hp : Rc w p [.int .i64 r, .int .i64 g, .int .i64 b, .int .i64 a]) (hq : Rc w q [.int .i64 r', .int .i64 g', .int .i64 b', .int .i64 a'])
    (h : Tn.right r g b a = true) (h' : Tn.right r' g' b' a' = true) :
    Calls Try.prog 21 #[.func (Fn.func 24) #[] #[.pointer (some ⟨p, 0, none⟩), .pointer (some ⟨q, 0, none⟩)]] w fun e w' => e = .returned (.agg #[.int .i64 (Tn.tm r r'), .int .i64 (Tn.tm g g'), .int .i64 (Tn.tm b b'), .int .i64 (Tn.tm a a')]) ∧ Kp w.heap.size w w' := by
  have HH := Lib.hid (Tn.chs h h')
  have HP := Lib.hid (hp.kp (Kp.new w #[.int .i64 0, .int .i64 0, .int .i64 0, .int .i64 0] 23) (hp.lt (by simp)))
  have HQ := Lib.hid (hq.kp (Kp.new w #[.int .i64 0, .int .i64 0, .int .i64 0, .int .i64 0] 23) (hq.lt (by simp)))
  have HO := Lib.hid ((Ow.refl w).newAt w.heap.size rfl (.int .i64 0) [.int .i64 0, .int .i64 0, .int .i64 0] 23)
  clear hp hq h h'
  go_enter Try.func21, Try.ntmps21
  go_wp2_with (first
    | (go_at_call 24; (first | with_reducible refine (times1_any r g b a r' g' b' a' 0 r r' 0 rfl (by omega) p q _ HP.out HQ.out rfl rfl HH.out.1.1 HH.out.1.2).mono ?_ | with_reducible refine (times1_any r g b a r' g' b' a' 1 g g' 1 rfl (by omega) p q _ HP.out HQ.out rfl rfl HH.out.2.1.1 HH.out.2.1.2).mono ?_ | with_reducible refine (times1_any r g b a r' g' b' a' 2 b b' 2 rfl (by omega) p q _ HP.out HQ.out rfl rfl HH.out.2.2.1.1 HH.out.2.2.1.2).mono ?_ | with_reducible refine (times1_any r g b a r' g' b' a' 3 a a' 3 rfl (by omega) p q _ HP.out HQ.out rfl rfl HH.out.2.2.2.1 HH.out.2.2.2.2).mono ?_); rintro e w1 ⟨rfl, hk⟩; have l2 := HO.out.call hk; have lp := HP.out.kp hk (HP.out.lt (by simp)); have lq := HQ.out.kp hk (HQ.out.lt (by simp)); clear HO HP HQ hk; have HO := Lib.hid l2; have HP := Lib.hid lp; have HQ := Lib.hid lq; clear l2 lp lq)
    | ((with_reducible show wpList _ _ _ ({ dst := _, op := Op.store 23 _ _, type := _, pos := _, after := _, guard := _ } :: _) _ _); refine wpList_sto ty_color HO.out 0 [.int .i64 (Tn.tm r r'), .int .i64 (Tn.tm g g'), .int .i64 (Tn.tm b b'), .int .i64 (Tn.tm a a')] rfl _ _ rfl _ rfl rfl _ rfl rfl rfl rfl ?_; intro w2 l2; clear HO; have HO := Lib.hid l2; clear l2))
  exact bodyPost_ret (results_c ty_color rfl rfl rfl (HO.out.at 0 rfl)) rfl ⟨rfl, HO.out.k⟩

set_option maxHeartbeats 1000000 in
theorem times_no1 (r g b a r' g' b' a' : Int) (w : World) (h : Tn.right r g b a = false) :
    Calls Try.prog 13 #[.agg #[.int .i64 r, .int .i64 g, .int .i64 b, .int .i64 a], .agg #[.int .i64 (r'), .int .i64 (g'), .int .i64 (b'), .int .i64 (a')]] w fun e w' => e = .returned (.tuple #[.agg #[.int .i64 0, .int .i64 0, .int .i64 0, .int .i64 0], .int .i64 3]) ∧ Kp w.heap.size w w' := by
  have HO := Lib.hid ((((Ow.refl w).newAt w.heap.size rfl (.int .i64 r) [.int .i64 g, .int .i64 b, .int .i64 a] 23).newAt (w.heap.size + 1) (by simp) (.int .i64 r') [.int .i64 g', .int .i64 b', .int .i64 a'] 23).newAt (w.heap.size + 2) (by simp) (.int .i64 0) [.int .i64 0, .int .i64 0, .int .i64 0] 23)
  go_enter Try.func13, Try.ntmps13
  go_wp2_with (first | go_skip | ((with_reducible show wpList _ _ _ ({ dst := _, op := Op.load 23 _, type := _, pos := _, after := _, guard := _ } :: _) _ _); refine wpList_ldr ty_color rfl _ rfl _ rfl _ rfl (HO.out.at 2 rfl) ?_) | (go_at_call 9; refine (right_any r g b a _).mono ?_; rintro e w1 ⟨rfl, hk⟩; have l2 := HO.out.call hk; clear HO hk; have HO := Lib.hid l2; clear l2) | ((with_reducible show wpList _ _ _ ({ dst := _, op := Op.store 23 _ _, type := _, pos := _, after := _, guard := _ } :: _) _ _); refine wpList_sto ty_color HO.out 0 [.int .i64 0, .int .i64 0, .int .i64 0, .int .i64 0] rfl _ _ rfl _ rfl rfl _ rfl rfl rfl rfl ?_; intro w2 l2; clear HO; have HO := Lib.hid l2; clear l2))
  exact bodyPost_ret (results_c2 ty_color rfl rfl rfl rfl (HO.out.at 0 rfl)) rfl ⟨rfl, HO.out.k⟩
set_option maxHeartbeats 1000000 in
theorem times_no2 (r g b a r' g' b' a' : Int) (w : World) (h : Tn.right r g b a = true) (h' : Tn.right r' g' b' a' = false) :
    Calls Try.prog 13 #[.agg #[.int .i64 r, .int .i64 g, .int .i64 b, .int .i64 a], .agg #[.int .i64 (r'), .int .i64 (g'), .int .i64 (b'), .int .i64 (a')]] w fun e w' => e = .returned (.tuple #[.agg #[.int .i64 0, .int .i64 0, .int .i64 0, .int .i64 0], .int .i64 3]) ∧ Kp w.heap.size w w' := by
  have HO := Lib.hid ((((Ow.refl w).newAt w.heap.size rfl (.int .i64 r) [.int .i64 g, .int .i64 b, .int .i64 a] 23).newAt (w.heap.size + 1) (by simp) (.int .i64 r') [.int .i64 g', .int .i64 b', .int .i64 a'] 23).newAt (w.heap.size + 2) (by simp) (.int .i64 0) [.int .i64 0, .int .i64 0, .int .i64 0] 23)
  go_enter Try.func13, Try.ntmps13
  go_wp2_with (first | go_skip | ((with_reducible show wpList _ _ _ ({ dst := _, op := Op.load 23 _, type := _, pos := _, after := _, guard := _ } :: _) _ _); refine wpList_ldr ty_color rfl _ rfl _ rfl _ rfl (HO.out.at 2 rfl) ?_) | ((with_reducible show wpList _ _ _ ({ dst := _, op := Op.load 23 _, type := _, pos := _, after := _, guard := _ } :: _) _ _); refine wpList_ldr ty_color rfl _ rfl _ rfl _ rfl (HO.out.at 1 rfl) ?_) | (go_at_call 9; (first | with_reducible refine (right_any r g b a _).mono ?_ | with_reducible refine (right_any r' g' b' a' _).mono ?_); rintro e w1 ⟨rfl, hk⟩; have l2 := HO.out.call hk; clear HO hk; have HO := Lib.hid l2; clear l2) | ((with_reducible show wpList _ _ _ ({ dst := _, op := Op.store 23 _ _, type := _, pos := _, after := _, guard := _ } :: _) _ _); refine wpList_sto ty_color HO.out 0 [.int .i64 0, .int .i64 0, .int .i64 0, .int .i64 0] rfl _ _ rfl _ rfl rfl _ rfl rfl rfl rfl ?_; intro w2 l2; clear HO; have HO := Lib.hid l2; clear l2))
  exact bodyPost_ret (results_c2 ty_color rfl rfl rfl rfl (HO.out.at 0 rfl)) rfl ⟨rfl, HO.out.k⟩
end Go.Proofs.Ytamabnaibhgkbaa
