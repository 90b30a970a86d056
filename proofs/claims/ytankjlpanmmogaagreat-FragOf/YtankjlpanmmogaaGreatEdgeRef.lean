/-
  Contracts of layer 12: the document's own Has; what the laws ask (may).
-/
import Derived.Test.YtankjlpanmmogaaGreatJEdgeWalks
namespace Go.Proofs.YtankjlpanmmogaaGreat
set_option maxRecDepth 100000
open Go.RowKit

set_option linter.unusedSimpArgs false in
set_option maxHeartbeats 4000000 in
theorem rhas_any (a1 a2 b1 b2 c1 c2 x y : Int) (w : World) (ha : Eg.may a1 a2 = true) (hb : Eg.may b1 b2 = true) (hc : Eg.may c1 c2 = true) (hf : Eg.fits x y = true) :
    Calls Tryz.prog 54 #[.agg #[.int .i64 a1, .int .i64 a2], .agg #[.int .i64 b1, .int .i64 b2], .agg #[.int .i64 c1, .int .i64 c2], .int .i64 x, .int .i64 y] w fun e w' => e = .returned (.bool (Eg.has a1 a2 b1 b2 c1 c2 (16 * x + 8) (16 * y + 8))) ∧ Kp w.heap.size w w' := by
  have hm : Eg.may (16 * x + 8) (16 * y + 8) = true := by rw [Eg.middle_may]; exact hf
  have M1 := fun W => rmiddle_any x y W hf
  have S1 := fun W => rside_any a1 a2 b1 b2 c1 c2 W ha hb hc
  have O1 := fun W => ron_any a1 a2 b1 b2 (16 * x + 8) (16 * y + 8) W ha hb hm
  have O2 := fun W => ron_any b1 b2 c1 c2 (16 * x + 8) (16 * y + 8) W hb hc hm
  have O3 := fun W => ron_any c1 c2 a1 a2 (16 * x + 8) (16 * y + 8) W hc ha hm
  have HO := Lib.hid ((((Ow.refl w).newAt w.heap.size rfl (.int .i64 a1) [.int .i64 a2] 23).newAt (w.heap.size + 1) (by simp) (.int .i64 b1) [.int .i64 b2] 23).newAt (w.heap.size + 2) (by simp) (.int .i64 c1) [.int .i64 c2] 23)
  clear ha hb hc hf hm
  cases h1 : decide (0 < Eg.side a1 a2 b1 b2 c1 c2)
  · skip
    go_enter Tryz.func54, Tryz.ntmps54
    go_wp2_with (first
      | go_big_skip
      | (go_at_call 56; refine (M1 _).mono ?_; rintro e w1 ⟨rfl, hk1⟩; have l2 := (HO.out.call hk1).newAt w1.heap.size rfl (.int .i64 (16 * x + 8)) [.int .i64 (16 * y + 8)] 23; clear HO hk1; have HO := Lib.hid l2; clear l2)
      | ((with_reducible show wpList _ _ _ ({ dst := _, op := Op.load 23 (Operand.tmp 5), type := _, pos := _, after := _, guard := _ } :: _) _ _); refine wpList_ldr ty_point rfl _ rfl _ rfl _ rfl (HO.out.at 3 rfl) ?_)
      | ((with_reducible show wpList _ _ _ ({ dst := _, op := Op.load 23 (Operand.tmp 6), type := _, pos := _, after := _, guard := _ } :: _) _ _); refine wpList_ldr ty_point rfl _ rfl _ rfl _ rfl (HO.out.at 2 rfl) ?_)
      | ((with_reducible show wpList _ _ _ ({ dst := _, op := Op.load 23 (Operand.tmp 7), type := _, pos := _, after := _, guard := _ } :: _) _ _); refine wpList_ldr ty_point rfl _ rfl _ rfl _ rfl (HO.out.at 1 rfl) ?_)
      | ((with_reducible show wpList _ _ _ ({ dst := _, op := Op.load 23 (Operand.tmp 11), type := _, pos := _, after := _, guard := _ } :: _) _ _); refine wpList_ldr ty_point rfl _ rfl _ rfl _ rfl (HO.out.at 0 rfl) ?_)
      | (go_at_call 94; refine (S1 _).mono ?_; rintro e w1 ⟨rfl, hk1⟩; have l2 := HO.out.call hk1; clear HO hk1; have HO := Lib.hid l2; clear l2)
      | (go_at_call 95; (with_reducible refine (O1 _).mono ?_); rintro e w1 ⟨rfl, hk1⟩; have l2 := HO.out.call hk1; clear HO hk1; have HO := Lib.hid l2; clear l2)
      | (go_at_call 95; (with_reducible refine (O2 _).mono ?_); rintro e w1 ⟨rfl, hk1⟩; have l2 := HO.out.call hk1; clear HO hk1; have HO := Lib.hid l2; clear l2)
      | (go_at_call 95; (with_reducible refine (O3 _).mono ?_); rintro e w1 ⟨rfl, hk1⟩; have l2 := HO.out.call hk1; clear HO hk1; have HO := Lib.hid l2; clear l2))
    go_ret
    exact ⟨ret_bool (by simp only [Eg.has, h1, Bool.true_and, Bool.false_and]), HO.out.k⟩
  cases h2 : Eg.on a1 a2 b1 b2 (16 * x + 8) (16 * y + 8)
  · skip
    go_enter Tryz.func54, Tryz.ntmps54
    go_wp2_with (first
      | go_big_skip
      | (go_at_call 56; refine (M1 _).mono ?_; rintro e w1 ⟨rfl, hk1⟩; have l2 := (HO.out.call hk1).newAt w1.heap.size rfl (.int .i64 (16 * x + 8)) [.int .i64 (16 * y + 8)] 23; clear HO hk1; have HO := Lib.hid l2; clear l2)
      | ((with_reducible show wpList _ _ _ ({ dst := _, op := Op.load 23 (Operand.tmp 5), type := _, pos := _, after := _, guard := _ } :: _) _ _); refine wpList_ldr ty_point rfl _ rfl _ rfl _ rfl (HO.out.at 3 rfl) ?_)
      | ((with_reducible show wpList _ _ _ ({ dst := _, op := Op.load 23 (Operand.tmp 6), type := _, pos := _, after := _, guard := _ } :: _) _ _); refine wpList_ldr ty_point rfl _ rfl _ rfl _ rfl (HO.out.at 2 rfl) ?_)
      | ((with_reducible show wpList _ _ _ ({ dst := _, op := Op.load 23 (Operand.tmp 7), type := _, pos := _, after := _, guard := _ } :: _) _ _); refine wpList_ldr ty_point rfl _ rfl _ rfl _ rfl (HO.out.at 1 rfl) ?_)
      | ((with_reducible show wpList _ _ _ ({ dst := _, op := Op.load 23 (Operand.tmp 11), type := _, pos := _, after := _, guard := _ } :: _) _ _); refine wpList_ldr ty_point rfl _ rfl _ rfl _ rfl (HO.out.at 0 rfl) ?_)
      | (go_at_call 94; refine (S1 _).mono ?_; rintro e w1 ⟨rfl, hk1⟩; have l2 := HO.out.call hk1; clear HO hk1; have HO := Lib.hid l2; clear l2)
      | (go_at_call 95; (with_reducible refine (O1 _).mono ?_); rintro e w1 ⟨rfl, hk1⟩; have l2 := HO.out.call hk1; clear HO hk1; have HO := Lib.hid l2; clear l2)
      | (go_at_call 95; (with_reducible refine (O2 _).mono ?_); rintro e w1 ⟨rfl, hk1⟩; have l2 := HO.out.call hk1; clear HO hk1; have HO := Lib.hid l2; clear l2)
      | (go_at_call 95; (with_reducible refine (O3 _).mono ?_); rintro e w1 ⟨rfl, hk1⟩; have l2 := HO.out.call hk1; clear HO hk1; have HO := Lib.hid l2; clear l2))
    go_ret
    exact ⟨ret_bool (by simp only [Eg.has, h1, h2, Bool.true_and, Bool.false_and]), HO.out.k⟩
  cases h3 : Eg.on b1 b2 c1 c2 (16 * x + 8) (16 * y + 8)
  · skip
    go_enter Tryz.func54, Tryz.ntmps54
    go_wp2_with (first
      | go_big_skip
      | (go_at_call 56; refine (M1 _).mono ?_; rintro e w1 ⟨rfl, hk1⟩; have l2 := (HO.out.call hk1).newAt w1.heap.size rfl (.int .i64 (16 * x + 8)) [.int .i64 (16 * y + 8)] 23; clear HO hk1; have HO := Lib.hid l2; clear l2)
      | ((with_reducible show wpList _ _ _ ({ dst := _, op := Op.load 23 (Operand.tmp 5), type := _, pos := _, after := _, guard := _ } :: _) _ _); refine wpList_ldr ty_point rfl _ rfl _ rfl _ rfl (HO.out.at 3 rfl) ?_)
      | ((with_reducible show wpList _ _ _ ({ dst := _, op := Op.load 23 (Operand.tmp 6), type := _, pos := _, after := _, guard := _ } :: _) _ _); refine wpList_ldr ty_point rfl _ rfl _ rfl _ rfl (HO.out.at 2 rfl) ?_)
      | ((with_reducible show wpList _ _ _ ({ dst := _, op := Op.load 23 (Operand.tmp 7), type := _, pos := _, after := _, guard := _ } :: _) _ _); refine wpList_ldr ty_point rfl _ rfl _ rfl _ rfl (HO.out.at 1 rfl) ?_)
      | ((with_reducible show wpList _ _ _ ({ dst := _, op := Op.load 23 (Operand.tmp 11), type := _, pos := _, after := _, guard := _ } :: _) _ _); refine wpList_ldr ty_point rfl _ rfl _ rfl _ rfl (HO.out.at 0 rfl) ?_)
      | (go_at_call 94; refine (S1 _).mono ?_; rintro e w1 ⟨rfl, hk1⟩; have l2 := HO.out.call hk1; clear HO hk1; have HO := Lib.hid l2; clear l2)
      | (go_at_call 95; (with_reducible refine (O1 _).mono ?_); rintro e w1 ⟨rfl, hk1⟩; have l2 := HO.out.call hk1; clear HO hk1; have HO := Lib.hid l2; clear l2)
      | (go_at_call 95; (with_reducible refine (O2 _).mono ?_); rintro e w1 ⟨rfl, hk1⟩; have l2 := HO.out.call hk1; clear HO hk1; have HO := Lib.hid l2; clear l2)
      | (go_at_call 95; (with_reducible refine (O3 _).mono ?_); rintro e w1 ⟨rfl, hk1⟩; have l2 := HO.out.call hk1; clear HO hk1; have HO := Lib.hid l2; clear l2))
    go_ret
    exact ⟨ret_bool (by simp only [Eg.has, h1, h2, h3, Bool.true_and, Bool.false_and]), HO.out.k⟩
  · skip
    go_enter Tryz.func54, Tryz.ntmps54
    go_wp2_with (first
      | go_big_skip
      | (go_at_call 56; refine (M1 _).mono ?_; rintro e w1 ⟨rfl, hk1⟩; have l2 := (HO.out.call hk1).newAt w1.heap.size rfl (.int .i64 (16 * x + 8)) [.int .i64 (16 * y + 8)] 23; clear HO hk1; have HO := Lib.hid l2; clear l2)
      | ((with_reducible show wpList _ _ _ ({ dst := _, op := Op.load 23 (Operand.tmp 5), type := _, pos := _, after := _, guard := _ } :: _) _ _); refine wpList_ldr ty_point rfl _ rfl _ rfl _ rfl (HO.out.at 3 rfl) ?_)
      | ((with_reducible show wpList _ _ _ ({ dst := _, op := Op.load 23 (Operand.tmp 6), type := _, pos := _, after := _, guard := _ } :: _) _ _); refine wpList_ldr ty_point rfl _ rfl _ rfl _ rfl (HO.out.at 2 rfl) ?_)
      | ((with_reducible show wpList _ _ _ ({ dst := _, op := Op.load 23 (Operand.tmp 7), type := _, pos := _, after := _, guard := _ } :: _) _ _); refine wpList_ldr ty_point rfl _ rfl _ rfl _ rfl (HO.out.at 1 rfl) ?_)
      | ((with_reducible show wpList _ _ _ ({ dst := _, op := Op.load 23 (Operand.tmp 11), type := _, pos := _, after := _, guard := _ } :: _) _ _); refine wpList_ldr ty_point rfl _ rfl _ rfl _ rfl (HO.out.at 0 rfl) ?_)
      | (go_at_call 94; refine (S1 _).mono ?_; rintro e w1 ⟨rfl, hk1⟩; have l2 := HO.out.call hk1; clear HO hk1; have HO := Lib.hid l2; clear l2)
      | (go_at_call 95; (with_reducible refine (O1 _).mono ?_); rintro e w1 ⟨rfl, hk1⟩; have l2 := HO.out.call hk1; clear HO hk1; have HO := Lib.hid l2; clear l2)
      | (go_at_call 95; (with_reducible refine (O2 _).mono ?_); rintro e w1 ⟨rfl, hk1⟩; have l2 := HO.out.call hk1; clear HO hk1; have HO := Lib.hid l2; clear l2)
      | (go_at_call 95; (with_reducible refine (O3 _).mono ?_); rintro e w1 ⟨rfl, hk1⟩; have l2 := HO.out.call hk1; clear HO hk1; have HO := Lib.hid l2; clear l2))
    go_ret
    exact ⟨ret_bool (by simp only [Eg.has, h1, h2, h3, Bool.true_and, Bool.false_and]), HO.out.k⟩

end Go.Proofs.YtankjlpanmmogaaGreat
