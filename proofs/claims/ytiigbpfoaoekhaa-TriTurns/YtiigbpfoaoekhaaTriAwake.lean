/-
  What must come at any rate, of layer 17's statements.
-/
import Derived.Test.YtiigbpfoaoekhaaTriRefAt
import Derived.Test.YtiigbpfoaoekhaaTriEq
import Derived.BigGuard
namespace Go.Proofs.Ytiigbpfoaoekhaa
open Go.RowKit

def Tr.wa : Sn := fun _ => 0
def Tr.wb : Sn | 1 => 32 | 2 => 64 | _ => 0
def Tr.wc : Sn | 0 => 32 | 2 => 32 | _ => 0
def Tr.wf : Sn | 2 => 2 | 3 => 2 | _ => 0
theorem wa_is (i : Nat) : Tr.wa i = 0 := rfl
theorem wb_is : Tr.wb 0 = 0 ∧ Tr.wb 1 = 32 ∧ Tr.wb 2 = 64 ∧ Tr.wb 3 = 0 ∧ Tr.wb 4 = 0 ∧ Tr.wb 5 = 0 ∧ Tr.wb 6 = 0 ∧ Tr.wb 7 = 0 ∧ Tr.wb 8 = 0 := ⟨rfl, rfl, rfl, rfl, rfl, rfl, rfl, rfl, rfl⟩
theorem wc_is : Tr.wc 0 = 32 ∧ Tr.wc 1 = 0 ∧ Tr.wc 2 = 32 ∧ Tr.wc 3 = 0 ∧ Tr.wc 4 = 0 ∧ Tr.wc 5 = 0 ∧ Tr.wc 6 = 0 ∧ Tr.wc 7 = 0 ∧ Tr.wc 8 = 0 := ⟨rfl, rfl, rfl, rfl, rfl, rfl, rfl, rfl, rfl⟩
theorem wf_is : Tr.wf 0 = 0 ∧ Tr.wf 1 = 0 ∧ Tr.wf 2 = 2 ∧ Tr.wf 3 = 2 := ⟨rfl, rfl, rfl, rfl⟩
theorem lsetup (W : World) : Calls Try.prog 6 #[.agg #[.int .i64 0, .int .i64 0, .int .i64 0, .int .i64 0, .int .i64 0, .int .i64 0, .int .i64 0, .int .i64 0, .int .i64 0, .int .i64 0, .int .i64 32, .int .i64 64, .int .i64 0, .int .i64 0, .int .i64 0, .int .i64 0, .int .i64 0, .int .i64 0, .int .i64 32, .int .i64 0, .int .i64 32, .int .i64 0, .int .i64 0, .int .i64 0, .int .i64 0, .int .i64 0, .int .i64 0], .int .i64 0] W fun e w' => e = .returned (.tuple #[.agg #[.int .i64 0, .int .i64 0, .int .i64 0, .int .i64 0, .int .i64 0, .int .i64 0, .int .i64 0, .int .i64 0, .int .i64 0, .int .i64 32, .int .i64 0, .int .i64 32, .int .i64 0, .int .i64 0, .int .i64 0, .int .i64 0, .int .i64 0, .int .i64 0, .int .i64 0, .int .i64 32, .int .i64 64, .int .i64 0, .int .i64 0, .int .i64 0, .int .i64 0, .int .i64 0, .int .i64 0, .int .i64 1024, .int .i64 0, .int .i64 0, .int .i64 2, .int .i64 2], .bool true, .int .i64 0]) ∧ Kp W.heap.size W w' := by
  have h := setup_neg Tr.wa Tr.wb Tr.wc 0 W (Tr.may_iff.1 (by decide)) (Tr.may_iff.1 (by decide)) (Tr.may_iff.1 (by decide)) (by omega) (by decide) (by decide)
  have e1 : Tr.area Tr.wa Tr.wb Tr.wc = -1024 := by decide
  have e2 : Tr.box Tr.wa Tr.wb Tr.wc 0 = 0 := by decide
  have e3 : Tr.box Tr.wa Tr.wb Tr.wc 1 = 0 := by decide
  have e4 : Tr.box Tr.wa Tr.wb Tr.wc 2 = 2 := by decide
  have e5 : Tr.box Tr.wa Tr.wb Tr.wc 3 = 2 := by decide
  rw [e1, e2, e3, e4, e5, show (-(-1024) : Int) = 1024 from rfl] at h
  simp only [wa_is, wb_is, wc_is] at h
  exact h
theorem lat (W : World) : Calls Try.prog 12 #[.agg #[.int .i64 0, .int .i64 0, .int .i64 0, .int .i64 0, .int .i64 0, .int .i64 0, .int .i64 0, .int .i64 0, .int .i64 0, .int .i64 32, .int .i64 0, .int .i64 32, .int .i64 0, .int .i64 0, .int .i64 0, .int .i64 0, .int .i64 0, .int .i64 0, .int .i64 0, .int .i64 32, .int .i64 64, .int .i64 0, .int .i64 0, .int .i64 0, .int .i64 0, .int .i64 0, .int .i64 0, .int .i64 1024, .int .i64 0, .int .i64 0, .int .i64 2, .int .i64 2], .int .i64 0, .int .i64 0] W fun e w' => e = .returned (.tuple #[.int .i64 24, .agg #[.int .i64 0, .int .i64 0, .int .i64 0, .int .i64 0, .int .i64 0, .int .i64 0], .bool true]) ∧ Kp W.heap.size W w' := by
  have h := at_yes Tr.wa Tr.wc Tr.wb 1024 Tr.wf 0 0 W (Tr.may_iff.1 (by decide)) (Tr.may_iff.1 (by decide)) (Tr.may_iff.1 (by decide)) (by decide)
  have e2 : Tr.at Tr.wa Tr.wc Tr.wb 0 0 2 = 24 := by decide
  have e3 : Tr.at Tr.wa Tr.wc Tr.wb 0 0 3 = 0 := by decide
  have e4 : Tr.at Tr.wa Tr.wc Tr.wb 0 0 4 = 0 := by decide
  have e5 : Tr.at Tr.wa Tr.wc Tr.wb 0 0 5 = 0 := by decide
  have e6 : Tr.at Tr.wa Tr.wc Tr.wb 0 0 6 = 0 := by decide
  have e7 : Tr.at Tr.wa Tr.wc Tr.wb 0 0 7 = 0 := by decide
  have e8 : Tr.at Tr.wa Tr.wc Tr.wb 0 0 8 = 0 := by decide
  rw [e2, e3, e4, e5, e6, e7, e8] at h
  simp only [wa_is, wb_is, wc_is, wf_is] at h
  exact h
set_option linter.unusedSimpArgs false in
set_option maxRecDepth 100000 in
set_option maxHeartbeats 8000000 in
theorem awake_any (w : World) :
    Calls Try.prog 7 #[] w fun e w' => e = .returned (.bool true) ∧ Kp w.heap.size w w' := by
  have hE := run_eqRect 0 0 2 2
  have HO := Lib.hid (Ow.refl w)
  go_enter Try.func7, Try.ntmps7
  go_upto_region 3 with (first
    | (go_at_call 6; (with_reducible refine (lsetup _).mono ?_); rintro e w1 ⟨rfl, hk1⟩; have l2 := (HO.out.call hk1).newAt w1.heap.size rfl (.int .i64 0) [.int .i64 0, .int .i64 0, .int .i64 0, .int .i64 0, .int .i64 0, .int .i64 0, .int .i64 0, .int .i64 0, .int .i64 0, .int .i64 0, .int .i64 0, .int .i64 0, .int .i64 0, .int .i64 0, .int .i64 0, .int .i64 0, .int .i64 0, .int .i64 0, .int .i64 0, .int .i64 0, .int .i64 0, .int .i64 0, .int .i64 0, .int .i64 0, .int .i64 0, .int .i64 0, .int .i64 0, .int .i64 0, .int .i64 0, .int .i64 0, .int .i64 0] 31; clear HO hk1; have HO := Lib.hid l2; clear l2)
    | ((with_reducible show wpList _ _ _ ({ dst := _, op := Op.store 31 (Operand.tmp 1) _, type := _, pos := _, after := _, guard := _ } :: _) _ _); refine wpList_sto ty_tri HO.out 0 [.int .i64 0, .int .i64 0, .int .i64 0, .int .i64 0, .int .i64 0, .int .i64 0, .int .i64 0, .int .i64 0, .int .i64 0, .int .i64 32, .int .i64 0, .int .i64 32, .int .i64 0, .int .i64 0, .int .i64 0, .int .i64 0, .int .i64 0, .int .i64 0, .int .i64 0, .int .i64 32, .int .i64 64, .int .i64 0, .int .i64 0, .int .i64 0, .int .i64 0, .int .i64 0, .int .i64 0, .int .i64 1024, .int .i64 0, .int .i64 0, .int .i64 2, .int .i64 2] rfl _ _ rfl _ rfl rfl _ rfl rfl rfl rfl ?_; intro w2 l2; clear HO; have HO := Lib.hid l2; clear l2)
    | ((with_reducible show wpList _ _ _ ({ dst := _, op := Op.load 31 (Operand.tmp 1), type := _, pos := _, after := _, guard := _ } :: _) _ _); refine wpList_ldr ty_tri rfl _ rfl _ rfl _ rfl (HO.out.at 0 rfl) ?_)
    | (go_at_call 12; (with_reducible refine (lat _).mono ?_); rintro e w2 ⟨rfl, hk1⟩; have l2 := (HO.out.call hk1).newAt w2.heap.size rfl (.int .i64 0) [.int .i64 0, .int .i64 0, .int .i64 0, .int .i64 0, .int .i64 0] 24; clear HO hk1; have HO := Lib.hid l2; clear l2))
  generalize hV : World.alloc _ _ = V0 at *
  clear hV
  have k1 := (HO.out.at 1 rfl).cell 9 rfl
  have k2 := (HO.out.at 1 rfl).cell 27 rfl
  go_wp2_with (first | go_big_skip | ((with_reducible show wpList _ _ _ ({ dst := _, op := Op.load 29 (Operand.tmp 50), type := _, pos := _, after := _, guard := _ } :: _) _ _); refine wpList_ldo ty_rect rfl _ rfl _ _ rfl [.int .i64 0, .int .i64 0, .int .i64 0, .int .i64 0, .int .i64 0, .int .i64 0, .int .i64 0, .int .i64 0, .int .i64 0, .int .i64 32, .int .i64 0, .int .i64 32, .int .i64 0, .int .i64 0, .int .i64 0, .int .i64 0, .int .i64 0, .int .i64 0, .int .i64 0, .int .i64 32, .int .i64 64, .int .i64 0, .int .i64 0, .int .i64 0, .int .i64 0, .int .i64 0, .int .i64 0, .int .i64 1024, .int .i64 0, .int .i64 0, .int .i64 2, .int .i64 2] rfl (Rc.some (HO.out.at 1 rfl)) ?_; intro us hus; dsimp only [List.drop, List.take] at hus; subst hus))
  go_ret
  exact ⟨rfl, HO.out.k⟩
theorem lmay_any (a b c : Sn) (w : World) :
    Calls Try.prog 8 #[.agg #[.int .i64 (a 0), .int .i64 (a 1), .int .i64 (a 2), .int .i64 (a 3), .int .i64 (a 4), .int .i64 (a 5), .int .i64 (a 6), .int .i64 (a 7), .int .i64 (a 8), .int .i64 (b 0), .int .i64 (b 1), .int .i64 (b 2), .int .i64 (b 3), .int .i64 (b 4), .int .i64 (b 5), .int .i64 (b 6), .int .i64 (b 7), .int .i64 (b 8), .int .i64 (c 0), .int .i64 (c 1), .int .i64 (c 2), .int .i64 (c 3), .int .i64 (c 4), .int .i64 (c 5), .int .i64 (c 6), .int .i64 (c 7), .int .i64 (c 8)]] w fun e w' => e = .returned (.bool (Tr.mayB a && Tr.mayB b && Tr.mayB c)) ∧ Kp w.heap.size w w' := by
  have M1 := fun W => rmay17_any a W
  have M2 := fun W => rmay17_any b W
  have M3 := fun W => rmay17_any c W
  generalize Tr.mayB a = p at *
  generalize Tr.mayB b = q at *
  generalize Tr.mayB c = r at *
  have HO := Lib.hid ((Ow.refl w).newAt (w.heap.size) rfl (.int .i64 (a 0)) [.int .i64 (a 1), .int .i64 (a 2), .int .i64 (a 3), .int .i64 (a 4), .int .i64 (a 5), .int .i64 (a 6), .int .i64 (a 7), .int .i64 (a 8), .int .i64 (b 0), .int .i64 (b 1), .int .i64 (b 2), .int .i64 (b 3), .int .i64 (b 4), .int .i64 (b 5), .int .i64 (b 6), .int .i64 (b 7), .int .i64 (b 8), .int .i64 (c 0), .int .i64 (c 1), .int .i64 (c 2), .int .i64 (c 3), .int .i64 (c 4), .int .i64 (c 5), .int .i64 (c 6), .int .i64 (c 7), .int .i64 (c 8)] 27)
  cases p <;> cases q
  all_goals
    go_enter Try.func8, Try.ntmps8
    go_wp2_with (first
      | go_big_skip
      | ((with_reducible show wpList _ _ _ ({ dst := _, op := Op.load 26 (Operand.tmp 3), type := _, pos := _, after := _, guard := _ } :: _) _ _); refine wpList_ldo ty_spot rfl _ rfl _ _ rfl [.int .i64 (a 0), .int .i64 (a 1), .int .i64 (a 2), .int .i64 (a 3), .int .i64 (a 4), .int .i64 (a 5), .int .i64 (a 6), .int .i64 (a 7), .int .i64 (a 8), .int .i64 (b 0), .int .i64 (b 1), .int .i64 (b 2), .int .i64 (b 3), .int .i64 (b 4), .int .i64 (b 5), .int .i64 (b 6), .int .i64 (b 7), .int .i64 (b 8), .int .i64 (c 0), .int .i64 (c 1), .int .i64 (c 2), .int .i64 (c 3), .int .i64 (c 4), .int .i64 (c 5), .int .i64 (c 6), .int .i64 (c 7), .int .i64 (c 8)] rfl (Rc.some (HO.out.at 0 rfl)) ?_; intro us hus; dsimp only [List.drop, List.take] at hus; subst hus)
      | ((with_reducible show wpList _ _ _ ({ dst := _, op := Op.load 26 (Operand.tmp 7), type := _, pos := _, after := _, guard := _ } :: _) _ _); refine wpList_ldo ty_spot rfl _ rfl _ _ rfl [.int .i64 (a 0), .int .i64 (a 1), .int .i64 (a 2), .int .i64 (a 3), .int .i64 (a 4), .int .i64 (a 5), .int .i64 (a 6), .int .i64 (a 7), .int .i64 (a 8), .int .i64 (b 0), .int .i64 (b 1), .int .i64 (b 2), .int .i64 (b 3), .int .i64 (b 4), .int .i64 (b 5), .int .i64 (b 6), .int .i64 (b 7), .int .i64 (b 8), .int .i64 (c 0), .int .i64 (c 1), .int .i64 (c 2), .int .i64 (c 3), .int .i64 (c 4), .int .i64 (c 5), .int .i64 (c 6), .int .i64 (c 7), .int .i64 (c 8)] rfl (Rc.some (HO.out.at 0 rfl)) ?_; intro us hus; dsimp only [List.drop, List.take] at hus; subst hus)
      | ((with_reducible show wpList _ _ _ ({ dst := _, op := Op.load 26 (Operand.tmp 12), type := _, pos := _, after := _, guard := _ } :: _) _ _); refine wpList_ldo ty_spot rfl _ rfl _ _ rfl [.int .i64 (a 0), .int .i64 (a 1), .int .i64 (a 2), .int .i64 (a 3), .int .i64 (a 4), .int .i64 (a 5), .int .i64 (a 6), .int .i64 (a 7), .int .i64 (a 8), .int .i64 (b 0), .int .i64 (b 1), .int .i64 (b 2), .int .i64 (b 3), .int .i64 (b 4), .int .i64 (b 5), .int .i64 (b 6), .int .i64 (b 7), .int .i64 (b 8), .int .i64 (c 0), .int .i64 (c 1), .int .i64 (c 2), .int .i64 (c 3), .int .i64 (c 4), .int .i64 (c 5), .int .i64 (c 6), .int .i64 (c 7), .int .i64 (c 8)] rfl (Rc.some (HO.out.at 0 rfl)) ?_; intro us hus; dsimp only [List.drop, List.take] at hus; subst hus)
      | (go_at_call 22; (with_reducible refine (M1 _).mono ?_); rintro e wz ⟨rfl, hk1⟩; have l2 := HO.out.call hk1; clear HO hk1; have HO := Lib.hid l2; clear l2)
      | (go_at_call 22; (with_reducible refine (M2 _).mono ?_); rintro e wz ⟨rfl, hk1⟩; have l2 := HO.out.call hk1; clear HO hk1; have HO := Lib.hid l2; clear l2)
      | (go_at_call 22; (with_reducible refine (M3 _).mono ?_); rintro e wz ⟨rfl, hk1⟩; have l2 := HO.out.call hk1; clear HO hk1; have HO := Lib.hid l2; clear l2))
    go_ret
    exact ⟨rfl, HO.out.k⟩
end Go.Proofs.Ytiigbpfoaoekhaa
