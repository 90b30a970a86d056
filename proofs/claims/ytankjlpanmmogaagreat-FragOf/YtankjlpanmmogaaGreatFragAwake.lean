/-
  awake of layer 19 (frag).
-/
import Derived.Test.YtankjlpanmmogaaGreatFragPut
import Derived.Test.YtankjlpanmmogaaGreatStateBegin
import Derived.Test.YtankjlpanmmogaaGreatFragEq
import Derived.BigGuard
namespace Go.Proofs.YtankjlpanmmogaaGreat
set_option maxRecDepth 100000
open Go.RowKit

/-- what awake's calls say (by names: several such in one statement are too much for the elaborator) -/
def Fr.Wake1 (s : Sf) : Prop := ∀ W, Calls Tryz.prog 11 #[.int .i64 2, .int .i64 2] W fun e w' => e = .returned (.tuple #[.agg #[.int .i64 (s 0), .int .i64 (s 1), .int .i64 (s 2), .int .i64 (s 3), .int .i64 (s 4), .int .i64 (s 5), .int .i64 (s 6), .int .i64 (s 7), .int .i64 (s 8), .int .i64 (s 9), .int .i64 (s 10), .int .i64 (s 11), .int .i64 (s 12), .int .i64 (s 13), .int .i64 (s 14), .int .i64 (s 15), .int .i64 (s 16), .int .i64 (s 17), .int .i64 (s 18), .int .i64 (s 19), .int .i64 (s 20), .int .i64 (s 21), .int .i64 (s 22), .int .i64 (s 23), .int .i64 (s 24), .bool true, .int .i64 (s 26), .int .i64 (s 27), .int .i64 (s 28), .int .i64 (s 29), .int .i64 (s 30), .int .i64 (s 31), .int .i64 (s 32), .int .i64 (s 33), .int .i64 (s 34), .int .i64 (s 35), .int .i64 (s 36), .int .i64 (s 37), .int .i64 (s 38), .int .i64 (s 39), .bool false], .int .i64 0]) ∧ Kp W.heap.size W w'
def Fr.Wake2 (s : Sf) : Prop := ∀ W, Calls Tryz.prog 12 #[.agg #[.int .i64 0, .int .i64 0, .int .i64 0, .int .i64 0, .int .i64 9, .int .i64 0], .agg #[.int .i64 7, .int .i64 0, .int .i64 0, .int .i64 0, .int .i64 5], .agg #[.int .i64 (s 0), .int .i64 (s 1), .int .i64 (s 2), .int .i64 (s 3), .int .i64 (s 4), .int .i64 (s 5), .int .i64 (s 6), .int .i64 (s 7), .int .i64 (s 8), .int .i64 (s 9), .int .i64 (s 10), .int .i64 (s 11), .int .i64 (s 12), .int .i64 (s 13), .int .i64 (s 14), .int .i64 (s 15), .int .i64 (s 16), .int .i64 (s 17), .int .i64 (s 18), .int .i64 (s 19), .int .i64 (s 20), .int .i64 (s 21), .int .i64 (s 22), .int .i64 (s 23), .int .i64 1, .bool true, .int .i64 (s 26), .int .i64 (s 27), .int .i64 (s 28), .int .i64 (s 29), .int .i64 (s 30), .int .i64 (s 31), .int .i64 (s 32), .int .i64 (s 33), .int .i64 (s 34), .int .i64 (s 35), .int .i64 (s 36), .int .i64 (s 37), .int .i64 (s 38), .int .i64 (s 39), .bool false], .int .i64 1, .int .i64 1] W fun e w' => e = .returned (.tuple #[.agg #[.int .i64 7, .int .i64 0, .int .i64 0, .int .i64 0, .int .i64 5, .int .i64 0], .int .i64 0]) ∧ Kp W.heap.size W w'
def Fr.Wake3 (s : Sf) : Prop := ∀ W, Calls Tryz.prog 12 #[.agg #[.int .i64 7, .int .i64 0, .int .i64 0, .int .i64 0, .int .i64 5, .int .i64 0], .agg #[.int .i64 8, .int .i64 0, .int .i64 0, .int .i64 0, .int .i64 5], .agg #[.int .i64 (s 0), .int .i64 (s 1), .int .i64 (s 2), .int .i64 (s 3), .int .i64 (s 4), .int .i64 (s 5), .int .i64 (s 6), .int .i64 (s 7), .int .i64 (s 8), .int .i64 (s 9), .int .i64 (s 10), .int .i64 (s 11), .int .i64 (s 12), .int .i64 (s 13), .int .i64 (s 14), .int .i64 (s 15), .int .i64 (s 16), .int .i64 (s 17), .int .i64 (s 18), .int .i64 (s 19), .int .i64 (s 20), .int .i64 (s 21), .int .i64 (s 22), .int .i64 (s 23), .int .i64 1, .bool true, .int .i64 (s 26), .int .i64 (s 27), .int .i64 (s 28), .int .i64 (s 29), .int .i64 (s 30), .int .i64 (s 31), .int .i64 (s 32), .int .i64 (s 33), .int .i64 (s 34), .int .i64 (s 35), .int .i64 (s 36), .int .i64 (s 37), .int .i64 (s 38), .int .i64 (s 39), .bool false], .int .i64 1, .int .i64 1] W fun e w' => e = .returned (.tuple #[.agg #[.int .i64 7, .int .i64 0, .int .i64 0, .int .i64 0, .int .i64 5, .int .i64 0], .int .i64 0]) ∧ Kp W.heap.size W w'
/-- a pixel, a fragment, by their numbers -/
def Fr.num (l : List Int) : Sf := fun i => l.getD i 0
set_option linter.unusedSimpArgs false in
set_option maxRecDepth 100000 in
set_option maxHeartbeats 8000000 in
theorem wake_bd : Sx.bd (Sx.dep (Sx.beg 2 2) 1) := fun i h1 h2 => by
  have h := Sx.beg_bd (w := 2) (h := 2) (by rfl) i h1 h2
  unfold Sx.dep
  rw [if_neg (by omega)]
  exact h
set_option linter.unusedSimpArgs false in
set_option maxRecDepth 100000 in
set_option maxHeartbeats 8000000 in
theorem wake_chk : Sx.chk (Sx.dep (Sx.beg 2 2) 1) = 0 := by decide +kernel
set_option linter.unusedSimpArgs false in
set_option maxRecDepth 100000 in
set_option maxHeartbeats 8000000 in
theorem wake_a : Fr.Wake2 (Sx.beg 2 2) := fun W => by
  have h := fput_yes (Fr.num [0, 0, 0, 0, 9, 0]) (Fr.num [7, 0, 0, 0, 5]) (Sx.dep (Sx.beg 2 2) 1) true false 1 1 W wake_bd wake_chk (by decide +kernel) (by decide +kernel)
  rw [show Fr.put (Sx.dep (Sx.beg 2 2) 1) true (Fr.num [7, 0, 0, 0, 5]) (Fr.num [0, 0, 0, 0, 9, 0]) 1 1 0 = 7 by decide +kernel] at h
  rw [show Fr.put (Sx.dep (Sx.beg 2 2) 1) true (Fr.num [7, 0, 0, 0, 5]) (Fr.num [0, 0, 0, 0, 9, 0]) 1 1 1 = 0 by decide +kernel] at h
  rw [show Fr.put (Sx.dep (Sx.beg 2 2) 1) true (Fr.num [7, 0, 0, 0, 5]) (Fr.num [0, 0, 0, 0, 9, 0]) 1 1 2 = 0 by decide +kernel] at h
  rw [show Fr.put (Sx.dep (Sx.beg 2 2) 1) true (Fr.num [7, 0, 0, 0, 5]) (Fr.num [0, 0, 0, 0, 9, 0]) 1 1 3 = 0 by decide +kernel] at h
  rw [show Fr.put (Sx.dep (Sx.beg 2 2) 1) true (Fr.num [7, 0, 0, 0, 5]) (Fr.num [0, 0, 0, 0, 9, 0]) 1 1 4 = 5 by decide +kernel] at h
  rw [show Fr.put (Sx.dep (Sx.beg 2 2) 1) true (Fr.num [7, 0, 0, 0, 5]) (Fr.num [0, 0, 0, 0, 9, 0]) 1 1 5 = 0 by decide +kernel] at h
  exact h
set_option linter.unusedSimpArgs false in
set_option maxRecDepth 100000 in
set_option maxHeartbeats 8000000 in
theorem wake_b : Fr.Wake3 (Sx.beg 2 2) := fun W => by
  have h := fput_yes (Fr.num [7, 0, 0, 0, 5, 0]) (Fr.num [8, 0, 0, 0, 5]) (Sx.dep (Sx.beg 2 2) 1) true false 1 1 W wake_bd wake_chk (by decide +kernel) (by decide +kernel)
  rw [show Fr.put (Sx.dep (Sx.beg 2 2) 1) true (Fr.num [8, 0, 0, 0, 5]) (Fr.num [7, 0, 0, 0, 5, 0]) 1 1 0 = 7 by decide +kernel] at h
  rw [show Fr.put (Sx.dep (Sx.beg 2 2) 1) true (Fr.num [8, 0, 0, 0, 5]) (Fr.num [7, 0, 0, 0, 5, 0]) 1 1 1 = 0 by decide +kernel] at h
  rw [show Fr.put (Sx.dep (Sx.beg 2 2) 1) true (Fr.num [8, 0, 0, 0, 5]) (Fr.num [7, 0, 0, 0, 5, 0]) 1 1 2 = 0 by decide +kernel] at h
  rw [show Fr.put (Sx.dep (Sx.beg 2 2) 1) true (Fr.num [8, 0, 0, 0, 5]) (Fr.num [7, 0, 0, 0, 5, 0]) 1 1 3 = 0 by decide +kernel] at h
  rw [show Fr.put (Sx.dep (Sx.beg 2 2) 1) true (Fr.num [8, 0, 0, 0, 5]) (Fr.num [7, 0, 0, 0, 5, 0]) 1 1 4 = 5 by decide +kernel] at h
  rw [show Fr.put (Sx.dep (Sx.beg 2 2) 1) true (Fr.num [8, 0, 0, 0, 5]) (Fr.num [7, 0, 0, 0, 5, 0]) 1 1 5 = 0 by decide +kernel] at h
  exact h
set_option linter.unusedSimpArgs false in
set_option maxRecDepth 100000 in
set_option maxHeartbeats 8000000 in
theorem awake_parts : ∃ s : Sf, Fr.Wake1 s ∧ Fr.Wake2 s ∧ Fr.Wake3 s := ⟨Sx.beg 2 2, fun W => begin_yes 2 2 W (by rfl), wake_a, wake_b⟩
set_option linter.unusedSimpArgs false in
set_option maxRecDepth 100000 in
set_option maxHeartbeats 8000000 in
theorem awake_any (w : World) :
    Calls Tryz.prog 5 #[] w fun e w' => e = .returned (.bool true) ∧ Kp w.heap.size w w' := by
  obtain ⟨s, A1, A2, A3⟩ := awake_parts
  unfold Fr.Wake1 at A1
  unfold Fr.Wake2 at A2
  unfold Fr.Wake3 at A3
  have hE := run_eqPx 7 0 0 0 5 0
  have HO := Lib.hid (Ow.refl w)
  go_enter Tryz.func5, Tryz.ntmps5
  go_upto_region 2 with (first
    | go_big_skip
    | (go_at_call 11; (with_reducible refine (A1 _).mono ?_); rintro e w1 ⟨rfl, hk1⟩; have l2 := (HO.out.call hk1).newAt w1.heap.size rfl (.int .i64 0) [.int .i64 0, .int .i64 0, .int .i64 0, .int .i64 0, .int .i64 0, .int .i64 0, .int .i64 0, .int .i64 0, .int .i64 0, .int .i64 0, .int .i64 0, .int .i64 0, .int .i64 0, .int .i64 0, .int .i64 0, .int .i64 0, .int .i64 0, .int .i64 0, .int .i64 0, .int .i64 0, .int .i64 0, .int .i64 0, .int .i64 0, .int .i64 0, .bool false, .int .i64 0, .int .i64 0, .int .i64 0, .int .i64 0, .int .i64 0, .int .i64 0, .int .i64 0, .int .i64 0, .int .i64 0, .int .i64 0, .int .i64 0, .int .i64 0, .int .i64 0, .int .i64 0, .bool false] 49; clear HO hk1; have HO := Lib.hid l2; clear l2)
    | ((with_reducible show wpList _ _ _ ({ dst := _, op := Op.store 49 (Operand.tmp 1) _, type := _, pos := _, after := _, guard := _ } :: _) _ _); refine wpList_sto ty_state HO.out 0 [.int .i64 (s 0), .int .i64 (s 1), .int .i64 (s 2), .int .i64 (s 3), .int .i64 (s 4), .int .i64 (s 5), .int .i64 (s 6), .int .i64 (s 7), .int .i64 (s 8), .int .i64 (s 9), .int .i64 (s 10), .int .i64 (s 11), .int .i64 (s 12), .int .i64 (s 13), .int .i64 (s 14), .int .i64 (s 15), .int .i64 (s 16), .int .i64 (s 17), .int .i64 (s 18), .int .i64 (s 19), .int .i64 (s 20), .int .i64 (s 21), .int .i64 (s 22), .int .i64 (s 23), .int .i64 (s 24), .bool true, .int .i64 (s 26), .int .i64 (s 27), .int .i64 (s 28), .int .i64 (s 29), .int .i64 (s 30), .int .i64 (s 31), .int .i64 (s 32), .int .i64 (s 33), .int .i64 (s 34), .int .i64 (s 35), .int .i64 (s 36), .int .i64 (s 37), .int .i64 (s 38), .int .i64 (s 39), .bool false] rfl _ _ rfl _ rfl rfl _ rfl rfl rfl rfl ?_; intro w9 l2; simp only [List.set_cons_zero, List.set_cons_succ] at l2; clear HO; have HO := Lib.hid l2; clear l2))
  generalize w1.heap.size = p1 at *
  clear A1
  go_upto_region 4 with (first
    | go_big_skip
    | ((with_reducible show wpList _ _ _ ({ dst := _, op := Op.store 3 (Operand.tmp 11) _, type := _, pos := _, after := _, guard := _ } :: _) _ _); refine wpList_put1 HO.out 0 rfl 24 (by simp) (.int .i64 1) rfl (fun cc ff K hK => by simp only [List.getElem?_cons_zero, List.getElem?_cons_succ] at cc; go_simp; exact hK) ?_; intro w2 l2; simp only [List.set_cons_zero, List.set_cons_succ] at l2; clear HO; have HO := Lib.hid l2; clear l2)
    | ((with_reducible show wpList _ _ _ ({ dst := _, op := Op.load 49 (Operand.tmp 1), type := _, pos := _, after := _, guard := _ } :: _) _ _); refine wpList_ldr ty_state rfl _ rfl _ rfl _ rfl (HO.out.at 0 rfl) ?_)
    | (go_at_call 12; (with_reducible refine (A2 _).mono ?_); rintro e w2 ⟨rfl, hk1⟩; have l2 := (HO.out.call hk1).newAt w2.heap.size rfl (.int .i64 0) [.int .i64 0, .int .i64 0, .int .i64 0, .int .i64 0, .int .i64 0] 62; clear HO hk1; have HO := Lib.hid l2; clear l2)
    | ((with_reducible show wpList _ _ _ ({ dst := _, op := Op.store 62 (Operand.tmp 3) _, type := _, pos := _, after := _, guard := _ } :: _) _ _); refine wpList_sto ty_px HO.out 0 [.int .i64 7, .int .i64 0, .int .i64 0, .int .i64 0, .int .i64 5, .int .i64 0] rfl _ _ rfl _ rfl rfl _ rfl rfl rfl rfl ?_; intro w9 l2; simp only [List.set_cons_zero, List.set_cons_succ] at l2; clear HO; have HO := Lib.hid l2; clear l2))
  generalize w2.heap.size = p3 at *
  clear A2
  go_upto_region 5 with (first
    | go_big_skip
    | ((with_reducible show wpList _ _ _ ({ dst := _, op := Op.load 62 (Operand.tmp 3), type := _, pos := _, after := _, guard := _ } :: _) _ _); refine wpList_ldr ty_px rfl _ rfl _ rfl _ rfl (HO.out.at 0 rfl) ?_)
    | ((with_reducible show wpList _ _ _ ({ dst := _, op := Op.load 49 (Operand.tmp 1), type := _, pos := _, after := _, guard := _ } :: _) _ _); refine wpList_ldr ty_state rfl _ rfl _ rfl _ rfl (HO.out.at 1 rfl) ?_)
    | (go_at_call 12; (with_reducible refine (A3 _).mono ?_); rintro e w3 ⟨rfl, hk1⟩; have l2 := (HO.out.call hk1).newAt w3.heap.size rfl (.int .i64 0) [.int .i64 0, .int .i64 0, .int .i64 0, .int .i64 0, .int .i64 0] 62; clear HO hk1; have HO := Lib.hid l2; clear l2)
    | ((with_reducible show wpList _ _ _ ({ dst := _, op := Op.store 62 (Operand.tmp 5) _, type := _, pos := _, after := _, guard := _ } :: _) _ _); refine wpList_sto ty_px HO.out 0 [.int .i64 7, .int .i64 0, .int .i64 0, .int .i64 0, .int .i64 5, .int .i64 0] rfl _ _ rfl _ rfl rfl _ rfl rfl rfl rfl ?_; intro w9 l2; simp only [List.set_cons_zero, List.set_cons_succ] at l2; clear HO; have HO := Lib.hid l2; clear l2))
  generalize w3.heap.size = p5 at *
  clear A3
  go_wp2_with (first
    | go_big_skip
    | ((with_reducible show wpList _ _ _ ({ dst := _, op := Op.load 62 (Operand.tmp 3), type := _, pos := _, after := _, guard := _ } :: _) _ _); refine wpList_ldr ty_px rfl _ rfl _ rfl _ rfl (HO.out.at 1 rfl) ?_)
    | ((with_reducible show wpList _ _ _ ({ dst := _, op := Op.load 62 (Operand.tmp 5), type := _, pos := _, after := _, guard := _ } :: _) _ _); refine wpList_ldr ty_px rfl _ rfl _ rfl _ rfl (HO.out.at 0 rfl) ?_))
  go_ret
  exact ⟨rfl, HO.out.k⟩
end Go.Proofs.YtankjlpanmmogaaGreat
