/-
  Contracts of layer 12 (edge): mayBe, Side.
-/
import Derived.Test.YtiigbpfoaoekhaaEdgeWalks
namespace Go.Proofs.Ytiigbpfoaoekhaa
open Go.RowKit

/-- three rounds: what all rounds before the i-th have found -/
def R3 (p q r : Bool) (i : Value) : Prop := i = .int .i64 0 ∨ (i = .int .i64 1 ∧ p = true) ∨ (i = .int .i64 2 ∧ p = true ∧ q = true) ∨ (i = .int .i64 3 ∧ p = true ∧ q = true ∧ r = true)
def msr3 (i : Value) : Nat := 3 - (intOf i).toNat

set_option linter.unusedSimpArgs false in
set_option maxHeartbeats 4000000 in
theorem mayBe_any (a1 a2 b1 b2 c1 c2 : Int) (b : Nat) (w : World) (hR : ∀ j v, [.int .i64 a1, .int .i64 a2, .int .i64 b1, .int .i64 b2, .int .i64 c1, .int .i64 c2][j]? = some v → w.cell? ⟨b, j, none⟩ = some v) :
    Calls Try.prog 35 #[.slice (some ⟨b, 0, none⟩) 3 3] w fun e w' => e = .returned (.bool (Eg.may a1 a2 && Eg.may b1 b2 && Eg.may c1 c2)) ∧ Kp w.heap.size w w' := by
  have HB := Lib.hid (World.block_lt_of_cell? w ⟨b, 0, none⟩ (hR 0 _ rfl))
  have HR := Lib.hid hR
  clear hR
  go_enter Try.func35, Try.ntmps35
  go_wp2_with fail
  go_loopw [7, 4] (fun i p wr => R3 (Eg.may a1 a2) (Eg.may b1 b2) (Eg.may c1 c2) i ∧ Ow w wr []) (fun i _ _ => msr3 i)
  case atStart => exact ⟨.inl rfl, Ow.refl w⟩
  case round =>
    obtain ⟨hi, ho⟩ := hrel
    rcases hi with rfl | ⟨rfl, m1⟩ | ⟨rfl, m1, m2⟩ | ⟨rfl, m1, m2, m3⟩
    · skip
      have HC := Lib.hid (show ∀ j v, [.int .i64 a1, .int .i64 a2, .int .i64 b1, .int .i64 b2, .int .i64 c1, .int .i64 c2][j]? = some v → wr.cell? ⟨b, j, none⟩ = some v from fun j v hv => by rw [ho.k.cells b j HB.out]; exact HR.out j v hv)
      have HO := Lib.hid (ho.call (Kp.new wr #[.int .i64 a1, .int .i64 a2] 23))
      clear ho
      cases h1 : Eg.scr a1
      · go_wp2_with (first
          | go_big_skip
          | ((with_reducible show wpList _ _ _ ({ dst := _, op := Op.load 23 _, type := _, pos := _, after := _, guard := _ } :: _) _ _); refine wpList_ldo ty_point rfl _ rfl _ _ rfl [.int .i64 a1, .int .i64 a2, .int .i64 b1, .int .i64 b2, .int .i64 c1, .int .i64 c2] rfl HC.out ?_; intro us hus; dsimp only [List.drop, List.take] at hus; subst hus)
          | (go_at_call 47; (with_reducible refine (onScreen_any a1 _).mono ?_); rintro e w' ⟨rfl, rfl⟩))
        go_ret
        exact ⟨ret_bool (by simp [Eg.may_scr, h1]), HO.out.k⟩
      cases h2 : Eg.scr a2
      · go_wp2_with (first
          | go_big_skip
          | ((with_reducible show wpList _ _ _ ({ dst := _, op := Op.load 23 _, type := _, pos := _, after := _, guard := _ } :: _) _ _); refine wpList_ldo ty_point rfl _ rfl _ _ rfl [.int .i64 a1, .int .i64 a2, .int .i64 b1, .int .i64 b2, .int .i64 c1, .int .i64 c2] rfl HC.out ?_; intro us hus; dsimp only [List.drop, List.take] at hus; subst hus)
          | (go_at_call 47; (with_reducible refine (onScreen_any a1 _).mono ?_); rintro e w' ⟨rfl, rfl⟩)
          | (go_at_call 47; (with_reducible refine (onScreen_any a2 _).mono ?_); rintro e w' ⟨rfl, rfl⟩))
        go_ret
        exact ⟨ret_bool (by simp [Eg.may_scr, h2]), HO.out.k⟩
      have h3 : Eg.may a1 a2 = true := by rw [Eg.may_scr, h1, h2]; rfl
      have H3 := Lib.hid h3
      clear h3
      go_wp2_with (first
        | go_big_skip
        | ((with_reducible show wpList _ _ _ ({ dst := _, op := Op.load 23 _, type := _, pos := _, after := _, guard := _ } :: _) _ _); refine wpList_ldo ty_point rfl _ rfl _ _ rfl [.int .i64 a1, .int .i64 a2, .int .i64 b1, .int .i64 b2, .int .i64 c1, .int .i64 c2] rfl HC.out ?_; intro us hus; dsimp only [List.drop, List.take] at hus; subst hus)
        | (go_at_call 47; (with_reducible refine (onScreen_any a1 _).mono ?_); rintro e w' ⟨rfl, rfl⟩)
        | (go_at_call 47; (with_reducible refine (onScreen_any a2 _).mono ?_); rintro e w' ⟨rfl, rfl⟩))
      go_roundw
      case rel => exact ⟨.inr (.inl ⟨by go_num, H3.out⟩), HO.out⟩
      case measure => simp [msr3, intOf]
    · skip
      have HC := Lib.hid (show ∀ j v, [.int .i64 a1, .int .i64 a2, .int .i64 b1, .int .i64 b2, .int .i64 c1, .int .i64 c2][j]? = some v → wr.cell? ⟨b, j, none⟩ = some v from fun j v hv => by rw [ho.k.cells b j HB.out]; exact HR.out j v hv)
      have HO := Lib.hid (ho.call (Kp.new wr #[.int .i64 b1, .int .i64 b2] 23))
      clear ho
      cases h1 : Eg.scr b1
      · go_wp2_with (first
          | go_big_skip
          | ((with_reducible show wpList _ _ _ ({ dst := _, op := Op.load 23 _, type := _, pos := _, after := _, guard := _ } :: _) _ _); refine wpList_ldo ty_point rfl _ rfl _ _ rfl [.int .i64 a1, .int .i64 a2, .int .i64 b1, .int .i64 b2, .int .i64 c1, .int .i64 c2] rfl HC.out ?_; intro us hus; dsimp only [List.drop, List.take] at hus; subst hus)
          | (go_at_call 47; (with_reducible refine (onScreen_any b1 _).mono ?_); rintro e w' ⟨rfl, rfl⟩))
        go_ret
        exact ⟨ret_bool (by simp [Eg.may_scr, h1]), HO.out.k⟩
      cases h2 : Eg.scr b2
      · go_wp2_with (first
          | go_big_skip
          | ((with_reducible show wpList _ _ _ ({ dst := _, op := Op.load 23 _, type := _, pos := _, after := _, guard := _ } :: _) _ _); refine wpList_ldo ty_point rfl _ rfl _ _ rfl [.int .i64 a1, .int .i64 a2, .int .i64 b1, .int .i64 b2, .int .i64 c1, .int .i64 c2] rfl HC.out ?_; intro us hus; dsimp only [List.drop, List.take] at hus; subst hus)
          | (go_at_call 47; (with_reducible refine (onScreen_any b1 _).mono ?_); rintro e w' ⟨rfl, rfl⟩)
          | (go_at_call 47; (with_reducible refine (onScreen_any b2 _).mono ?_); rintro e w' ⟨rfl, rfl⟩))
        go_ret
        exact ⟨ret_bool (by simp [Eg.may_scr, h2]), HO.out.k⟩
      have h3 : Eg.may b1 b2 = true := by rw [Eg.may_scr, h1, h2]; rfl
      have H3 := Lib.hid h3
      clear h3
      go_wp2_with (first
        | go_big_skip
        | ((with_reducible show wpList _ _ _ ({ dst := _, op := Op.load 23 _, type := _, pos := _, after := _, guard := _ } :: _) _ _); refine wpList_ldo ty_point rfl _ rfl _ _ rfl [.int .i64 a1, .int .i64 a2, .int .i64 b1, .int .i64 b2, .int .i64 c1, .int .i64 c2] rfl HC.out ?_; intro us hus; dsimp only [List.drop, List.take] at hus; subst hus)
        | (go_at_call 47; (with_reducible refine (onScreen_any b1 _).mono ?_); rintro e w' ⟨rfl, rfl⟩)
        | (go_at_call 47; (with_reducible refine (onScreen_any b2 _).mono ?_); rintro e w' ⟨rfl, rfl⟩))
      go_roundw
      case rel => exact ⟨.inr (.inr (.inl ⟨by go_num, m1, H3.out⟩)), HO.out⟩
      case measure => simp [msr3, intOf]
    · skip
      have HC := Lib.hid (show ∀ j v, [.int .i64 a1, .int .i64 a2, .int .i64 b1, .int .i64 b2, .int .i64 c1, .int .i64 c2][j]? = some v → wr.cell? ⟨b, j, none⟩ = some v from fun j v hv => by rw [ho.k.cells b j HB.out]; exact HR.out j v hv)
      have HO := Lib.hid (ho.call (Kp.new wr #[.int .i64 c1, .int .i64 c2] 23))
      clear ho
      cases h1 : Eg.scr c1
      · go_wp2_with (first
          | go_big_skip
          | ((with_reducible show wpList _ _ _ ({ dst := _, op := Op.load 23 _, type := _, pos := _, after := _, guard := _ } :: _) _ _); refine wpList_ldo ty_point rfl _ rfl _ _ rfl [.int .i64 a1, .int .i64 a2, .int .i64 b1, .int .i64 b2, .int .i64 c1, .int .i64 c2] rfl HC.out ?_; intro us hus; dsimp only [List.drop, List.take] at hus; subst hus)
          | (go_at_call 47; (with_reducible refine (onScreen_any c1 _).mono ?_); rintro e w' ⟨rfl, rfl⟩))
        go_ret
        exact ⟨ret_bool (by simp [Eg.may_scr, h1]), HO.out.k⟩
      cases h2 : Eg.scr c2
      · go_wp2_with (first
          | go_big_skip
          | ((with_reducible show wpList _ _ _ ({ dst := _, op := Op.load 23 _, type := _, pos := _, after := _, guard := _ } :: _) _ _); refine wpList_ldo ty_point rfl _ rfl _ _ rfl [.int .i64 a1, .int .i64 a2, .int .i64 b1, .int .i64 b2, .int .i64 c1, .int .i64 c2] rfl HC.out ?_; intro us hus; dsimp only [List.drop, List.take] at hus; subst hus)
          | (go_at_call 47; (with_reducible refine (onScreen_any c1 _).mono ?_); rintro e w' ⟨rfl, rfl⟩)
          | (go_at_call 47; (with_reducible refine (onScreen_any c2 _).mono ?_); rintro e w' ⟨rfl, rfl⟩))
        go_ret
        exact ⟨ret_bool (by simp [Eg.may_scr, h2]), HO.out.k⟩
      have h3 : Eg.may c1 c2 = true := by rw [Eg.may_scr, h1, h2]; rfl
      have H3 := Lib.hid h3
      clear h3
      go_wp2_with (first
        | go_big_skip
        | ((with_reducible show wpList _ _ _ ({ dst := _, op := Op.load 23 _, type := _, pos := _, after := _, guard := _ } :: _) _ _); refine wpList_ldo ty_point rfl _ rfl _ _ rfl [.int .i64 a1, .int .i64 a2, .int .i64 b1, .int .i64 b2, .int .i64 c1, .int .i64 c2] rfl HC.out ?_; intro us hus; dsimp only [List.drop, List.take] at hus; subst hus)
        | (go_at_call 47; (with_reducible refine (onScreen_any c1 _).mono ?_); rintro e w' ⟨rfl, rfl⟩)
        | (go_at_call 47; (with_reducible refine (onScreen_any c2 _).mono ?_); rintro e w' ⟨rfl, rfl⟩))
      go_roundw
      case rel => exact ⟨.inr (.inr (.inr ⟨by go_num, m1, m2, H3.out⟩)), HO.out⟩
      case measure => simp [msr3, intOf]
    · have HO := Lib.hid ho
      clear ho
      go_wp2
      go_ret
      exact ⟨ret_bool (by simp [m1, m2, m3]), HO.out.k⟩

theorem sides_no (a1 a2 b1 b2 c1 c2 : Int) (w : World) (h : (Eg.may a1 a2 && Eg.may b1 b2 && Eg.may c1 c2) = false) :
    Calls Try.prog 18 #[.agg #[.int .i64 a1, .int .i64 a2], .agg #[.int .i64 b1, .int .i64 b2], .agg #[.int .i64 c1, .int .i64 c2]] w fun e w' => e = .returned (.tuple #[.int .i64 0, .int .i64 3]) ∧ Kp w.heap.size w w' := by
  have HO := Lib.hid ((((Ow.refl w).newAt w.heap.size rfl (.int .i64 a1) [.int .i64 a2] 23).newAt (w.heap.size + 1) (by simp) (.int .i64 b1) [.int .i64 b2] 23).newAt (w.heap.size + 2) (by simp) (.int .i64 c1) [.int .i64 c2] 23)
  go_enter Try.func18, Try.ntmps18
  go_wp2_with (first   | ((with_reducible show wpList _ _ _ ({ dst := _, op := Op.load 23 (Operand.tmp 3), type := _, pos := _, after := _, guard := _ } :: _) _ _); refine wpList_ldr ty_point rfl _ rfl _ rfl _ rfl (HO.out.at 2 rfl) ?_)   | ((with_reducible show wpList _ _ _ ({ dst := _, op := Op.load 23 (Operand.tmp 4), type := _, pos := _, after := _, guard := _ } :: _) _ _); refine wpList_ldr ty_point rfl _ rfl _ rfl _ rfl (HO.out.at 1 rfl) ?_)   | ((with_reducible show wpList _ _ _ ({ dst := _, op := Op.load 23 (Operand.tmp 5), type := _, pos := _, after := _, guard := _ } :: _) _ _); refine wpList_ldr ty_point rfl _ rfl _ rfl _ rfl (HO.out.at 0 rfl) ?_)   | (go_at_call 35; refine (mayBe_any a1 a2 b1 b2 c1 c2 _ _ (Rc.new _ [.int .i64 a1, .int .i64 a2, .int .i64 b1, .int .i64 b2, .int .i64 c1, .int .i64 c2] _ (by simp)).some).mono ?_; rintro e w1 ⟨rfl, hk1⟩; have l2 := (HO.out.call (Kp.new _ _ _)).call hk1; clear HO hk1; have HO := Lib.hid l2; clear l2)   | (go_at_call 36; refine (S1 _).mono ?_; rintro e w1 ⟨rfl, hk1⟩; have l2 := HO.out.call hk1; clear HO hk1; have HO := Lib.hid l2; clear l2))
  go_ret2
  exact ⟨rfl, HO.out.k⟩
theorem sides_yes (a1 a2 b1 b2 c1 c2 : Int) (w : World) (ha : Eg.may a1 a2 = true) (hb : Eg.may b1 b2 = true) (hc : Eg.may c1 c2 = true) :
    Calls Try.prog 18 #[.agg #[.int .i64 a1, .int .i64 a2], .agg #[.int .i64 b1, .int .i64 b2], .agg #[.int .i64 c1, .int .i64 c2]] w fun e w' => e = .returned (.tuple #[.int .i64 (Eg.side a1 a2 b1 b2 c1 c2), .int .i64 0]) ∧ Kp w.heap.size w w' := by
  have S1 := fun W => side_any a1 a2 b1 b2 c1 c2 W ha hb hc
  have h : (Eg.may a1 a2 && Eg.may b1 b2 && Eg.may c1 c2) = true := by rw [ha, hb, hc]; rfl
  clear ha hb hc
  have HO := Lib.hid ((((Ow.refl w).newAt w.heap.size rfl (.int .i64 a1) [.int .i64 a2] 23).newAt (w.heap.size + 1) (by simp) (.int .i64 b1) [.int .i64 b2] 23).newAt (w.heap.size + 2) (by simp) (.int .i64 c1) [.int .i64 c2] 23)
  go_enter Try.func18, Try.ntmps18
  go_wp2_with (first   | ((with_reducible show wpList _ _ _ ({ dst := _, op := Op.load 23 (Operand.tmp 3), type := _, pos := _, after := _, guard := _ } :: _) _ _); refine wpList_ldr ty_point rfl _ rfl _ rfl _ rfl (HO.out.at 2 rfl) ?_)   | ((with_reducible show wpList _ _ _ ({ dst := _, op := Op.load 23 (Operand.tmp 4), type := _, pos := _, after := _, guard := _ } :: _) _ _); refine wpList_ldr ty_point rfl _ rfl _ rfl _ rfl (HO.out.at 1 rfl) ?_)   | ((with_reducible show wpList _ _ _ ({ dst := _, op := Op.load 23 (Operand.tmp 5), type := _, pos := _, after := _, guard := _ } :: _) _ _); refine wpList_ldr ty_point rfl _ rfl _ rfl _ rfl (HO.out.at 0 rfl) ?_)   | (go_at_call 35; refine (mayBe_any a1 a2 b1 b2 c1 c2 _ _ (Rc.new _ [.int .i64 a1, .int .i64 a2, .int .i64 b1, .int .i64 b2, .int .i64 c1, .int .i64 c2] _ (by simp)).some).mono ?_; rintro e w1 ⟨rfl, hk1⟩; have l2 := (HO.out.call (Kp.new _ _ _)).call hk1; clear HO hk1; have HO := Lib.hid l2; clear l2)   | (go_at_call 36; refine (S1 _).mono ?_; rintro e w1 ⟨rfl, hk1⟩; have l2 := HO.out.call hk1; clear HO hk1; have HO := Lib.hid l2; clear l2))
  go_ret2
  exact ⟨rfl, HO.out.k⟩
end Go.Proofs.Ytiigbpfoaoekhaa
