/-
  Contract of layer 18 (state): Set.
-/
import Derived.Test.YtoejknkjfnnffaaStateSet1
import Derived.Test.YtoejknkjfnnffaaStateSet2
import Derived.Test.YtoejknkjfnnffaaStateSet3
import Derived.Test.YtoejknkjfnnffaaStateSet4
import Derived.BigGuard
namespace Go.Proofs.Ytoejknkjfnnffaa
open Go.RowKit

set_option linter.unusedSimpArgs false in
set_option maxRecDepth 100000 in
set_option maxHeartbeats 8000000 in
theorem set_none (s : Sf) (p q : Bool) (c : Sf) (l : List Int) (v u : Value) (w : World) (h0 : ¬ (5 ≤ c 0 ∧ c 0 ≤ 12)) :
    Calls Try.prog 7 #[.agg #[.int .i64 (s 0), .int .i64 (s 1), .int .i64 (s 2), .int .i64 (s 3), .int .i64 (s 4), .int .i64 (s 5), .int .i64 (s 6), .int .i64 (s 7), .int .i64 (s 8), .int .i64 (s 9), .int .i64 (s 10), .int .i64 (s 11), .int .i64 (s 12), .int .i64 (s 13), .int .i64 (s 14), .int .i64 (s 15), .int .i64 (s 16), .int .i64 (s 17), .int .i64 (s 18), .int .i64 (s 19), .int .i64 (s 20), .int .i64 (s 21), .int .i64 (s 22), .int .i64 (s 23), .int .i64 (s 24), .bool p, .int .i64 (s 26), .int .i64 (s 27), .int .i64 (s 28), .int .i64 (s 29), .int .i64 (s 30), .int .i64 (s 31), .int .i64 (s 32), .int .i64 (s 33), .int .i64 (s 34), .int .i64 (s 35), .int .i64 (s 36), .int .i64 (s 37), .int .i64 (s 38), .int .i64 (s 39), .bool q], .agg #[.int .i64 (c 0), .int .i64 (c 1), .int .i64 (c 2), .int .i64 (c 3), .int .i64 (c 4), .int .i64 (c 5), v, u]] w fun e w' => e = .returned (.tuple #[.agg #[.int .i64 ((Sx.ans s c l) 0), .int .i64 ((Sx.ans s c l) 1), .int .i64 ((Sx.ans s c l) 2), .int .i64 ((Sx.ans s c l) 3), .int .i64 ((Sx.ans s c l) 4), .int .i64 ((Sx.ans s c l) 5), .int .i64 ((Sx.ans s c l) 6), .int .i64 ((Sx.ans s c l) 7), .int .i64 ((Sx.ans s c l) 8), .int .i64 ((Sx.ans s c l) 9), .int .i64 ((Sx.ans s c l) 10), .int .i64 ((Sx.ans s c l) 11), .int .i64 ((Sx.ans s c l) 12), .int .i64 ((Sx.ans s c l) 13), .int .i64 ((Sx.ans s c l) 14), .int .i64 ((Sx.ans s c l) 15), .int .i64 ((Sx.ans s c l) 16), .int .i64 ((Sx.ans s c l) 17), .int .i64 ((Sx.ans s c l) 18), .int .i64 ((Sx.ans s c l) 19), .int .i64 ((Sx.ans s c l) 20), .int .i64 ((Sx.ans s c l) 21), .int .i64 ((Sx.ans s c l) 22), .int .i64 ((Sx.ans s c l) 23), .int .i64 ((Sx.ans s c l) 24), .bool (Sx.ap p c l), .int .i64 ((Sx.ans s c l) 26), .int .i64 ((Sx.ans s c l) 27), .int .i64 ((Sx.ans s c l) 28), .int .i64 ((Sx.ans s c l) 29), .int .i64 ((Sx.ans s c l) 30), .int .i64 ((Sx.ans s c l) 31), .int .i64 ((Sx.ans s c l) 32), .int .i64 ((Sx.ans s c l) 33), .int .i64 ((Sx.ans s c l) 34), .int .i64 ((Sx.ans s c l) 35), .int .i64 ((Sx.ans s c l) 36), .int .i64 ((Sx.ans s c l) 37), .int .i64 ((Sx.ans s c l) 38), .int .i64 ((Sx.ans s c l) 39), .bool (Sx.aq q c l)], .int .i64 (Sx.err c l)]) ∧ Kp w.heap.size w w' := by
  have e9 := Sx.err_none (l := l) h0
  obtain ⟨a1, a2, a3⟩ := Sx.no (s := s) (p := p) (q := q) (c := c) (l := l) (by rw [e9]; decide)
  rw [a1, a2, a3, e9]
  have S1 := fun W => setting_any (c 0) W
  rw [Sx.fun_none h0] at S1
  have Q1 := nil_eql
  clear h0 e9 a1 a2 a3
  have HO := Lib.hid ((((Ow.refl w).newAt (w.heap.size) rfl (.int .i64 (s 0)) [.int .i64 (s 1), .int .i64 (s 2), .int .i64 (s 3), .int .i64 (s 4), .int .i64 (s 5), .int .i64 (s 6), .int .i64 (s 7), .int .i64 (s 8), .int .i64 (s 9), .int .i64 (s 10), .int .i64 (s 11), .int .i64 (s 12), .int .i64 (s 13), .int .i64 (s 14), .int .i64 (s 15), .int .i64 (s 16), .int .i64 (s 17), .int .i64 (s 18), .int .i64 (s 19), .int .i64 (s 20), .int .i64 (s 21), .int .i64 (s 22), .int .i64 (s 23), .int .i64 (s 24), .bool p, .int .i64 (s 26), .int .i64 (s 27), .int .i64 (s 28), .int .i64 (s 29), .int .i64 (s 30), .int .i64 (s 31), .int .i64 (s 32), .int .i64 (s 33), .int .i64 (s 34), .int .i64 (s 35), .int .i64 (s 36), .int .i64 (s 37), .int .i64 (s 38), .int .i64 (s 39), .bool q] 31).newAt (w.heap.size + 1) (by simp) (.int .i64 (c 0)) [.int .i64 (c 1), .int .i64 (c 2), .int .i64 (c 3), .int .i64 (c 4), .int .i64 (c 5), v, u] 35).newAt (w.heap.size + 2) (by simp) (.int .i64 0) [.int .i64 0, .int .i64 0, .int .i64 0, .int .i64 0, .int .i64 0, .int .i64 0, .int .i64 0, .int .i64 0, .int .i64 0, .int .i64 0, .int .i64 0, .int .i64 0, .int .i64 0, .int .i64 0, .int .i64 0, .int .i64 0, .int .i64 0, .int .i64 0, .int .i64 0, .int .i64 0, .int .i64 0, .int .i64 0, .int .i64 0, .int .i64 0, .bool false, .int .i64 0, .int .i64 0, .int .i64 0, .int .i64 0, .int .i64 0, .int .i64 0, .int .i64 0, .int .i64 0, .int .i64 0, .int .i64 0, .int .i64 0, .int .i64 0, .int .i64 0, .int .i64 0, .bool false] 31)
  have c0 := (HO.out.at 1 rfl).cell 0 rfl
  go_enter Try.func7, Try.ntmps7
  go_wp2_with (first
      | (go_at_call 15; (with_reducible refine (S1 _).mono ?_); rintro e w' ⟨rfl, rfl⟩)
      | ((with_reducible show wpList _ _ _ ({ dst := _, op := Op.store 31 (Operand.tmp 4) _, type := _, pos := _, after := _, guard := _ } :: _) _ _); refine wpList_sto ty_state HO.out 0 [.int .i64 0, .int .i64 0, .int .i64 0, .int .i64 0, .int .i64 0, .int .i64 0, .int .i64 0, .int .i64 0, .int .i64 0, .int .i64 0, .int .i64 0, .int .i64 0, .int .i64 0, .int .i64 0, .int .i64 0, .int .i64 0, .int .i64 0, .int .i64 0, .int .i64 0, .int .i64 0, .int .i64 0, .int .i64 0, .int .i64 0, .int .i64 0, .int .i64 0, .bool false, .int .i64 0, .int .i64 0, .int .i64 0, .int .i64 0, .int .i64 0, .int .i64 0, .int .i64 0, .int .i64 0, .int .i64 0, .int .i64 0, .int .i64 0, .int .i64 0, .int .i64 0, .int .i64 0, .bool false] rfl _ _ rfl _ rfl rfl _ rfl rfl rfl rfl ?_; intro w2 l2; clear HO; have HO := Lib.hid l2; clear l2))
  exact bodyPost_ret (results_c2 ty_state rfl rfl rfl rfl (HO.out.at 0 rfl)) rfl ⟨rfl, HO.out.k⟩
theorem set_any (s : Sf) (p q : Bool) (c : Sf) (l : List Int) (v u : Value) (w : World) (hS : Sl w v (iv l)) :
    Calls Try.prog 7 #[.agg #[.int .i64 (s 0), .int .i64 (s 1), .int .i64 (s 2), .int .i64 (s 3), .int .i64 (s 4), .int .i64 (s 5), .int .i64 (s 6), .int .i64 (s 7), .int .i64 (s 8), .int .i64 (s 9), .int .i64 (s 10), .int .i64 (s 11), .int .i64 (s 12), .int .i64 (s 13), .int .i64 (s 14), .int .i64 (s 15), .int .i64 (s 16), .int .i64 (s 17), .int .i64 (s 18), .int .i64 (s 19), .int .i64 (s 20), .int .i64 (s 21), .int .i64 (s 22), .int .i64 (s 23), .int .i64 (s 24), .bool p, .int .i64 (s 26), .int .i64 (s 27), .int .i64 (s 28), .int .i64 (s 29), .int .i64 (s 30), .int .i64 (s 31), .int .i64 (s 32), .int .i64 (s 33), .int .i64 (s 34), .int .i64 (s 35), .int .i64 (s 36), .int .i64 (s 37), .int .i64 (s 38), .int .i64 (s 39), .bool q], .agg #[.int .i64 (c 0), .int .i64 (c 1), .int .i64 (c 2), .int .i64 (c 3), .int .i64 (c 4), .int .i64 (c 5), v, u]] w fun e w' => e = .returned (.tuple #[.agg #[.int .i64 ((Sx.ans s c l) 0), .int .i64 ((Sx.ans s c l) 1), .int .i64 ((Sx.ans s c l) 2), .int .i64 ((Sx.ans s c l) 3), .int .i64 ((Sx.ans s c l) 4), .int .i64 ((Sx.ans s c l) 5), .int .i64 ((Sx.ans s c l) 6), .int .i64 ((Sx.ans s c l) 7), .int .i64 ((Sx.ans s c l) 8), .int .i64 ((Sx.ans s c l) 9), .int .i64 ((Sx.ans s c l) 10), .int .i64 ((Sx.ans s c l) 11), .int .i64 ((Sx.ans s c l) 12), .int .i64 ((Sx.ans s c l) 13), .int .i64 ((Sx.ans s c l) 14), .int .i64 ((Sx.ans s c l) 15), .int .i64 ((Sx.ans s c l) 16), .int .i64 ((Sx.ans s c l) 17), .int .i64 ((Sx.ans s c l) 18), .int .i64 ((Sx.ans s c l) 19), .int .i64 ((Sx.ans s c l) 20), .int .i64 ((Sx.ans s c l) 21), .int .i64 ((Sx.ans s c l) 22), .int .i64 ((Sx.ans s c l) 23), .int .i64 ((Sx.ans s c l) 24), .bool (Sx.ap p c l), .int .i64 ((Sx.ans s c l) 26), .int .i64 ((Sx.ans s c l) 27), .int .i64 ((Sx.ans s c l) 28), .int .i64 ((Sx.ans s c l) 29), .int .i64 ((Sx.ans s c l) 30), .int .i64 ((Sx.ans s c l) 31), .int .i64 ((Sx.ans s c l) 32), .int .i64 ((Sx.ans s c l) 33), .int .i64 ((Sx.ans s c l) 34), .int .i64 ((Sx.ans s c l) 35), .int .i64 ((Sx.ans s c l) 36), .int .i64 ((Sx.ans s c l) 37), .int .i64 ((Sx.ans s c l) 38), .int .i64 ((Sx.ans s c l) 39), .bool (Sx.aq q c l)], .int .i64 (Sx.err c l)]) ∧ Kp w.heap.size w w' := by
  by_cases h : 5 ≤ c 0 ∧ c 0 ≤ 12
  · have hc : c 0 = 5 ∨ c 0 = 6 ∨ c 0 = 7 ∨ c 0 = 8 ∨ c 0 = 9 ∨ c 0 = 10 ∨ c 0 = 11 ∨ c 0 = 12 := by omega
    rcases hc with h0 | h0 | h0 | h0 | h0 | h0 | h0 | h0
    · by_cases he : Sx.eMat l = 0
      · exact set_5_yes s p q c l v u w hS h0 he
      · exact set_5_no s p q c l v u w hS h0 he
    · by_cases he : Sx.eView c = 0
      · exact set_6_yes s p q c l v u w hS h0 he
      · exact set_6_no s p q c l v u w hS h0 he
    · by_cases he : Sx.eView c = 0
      · exact set_7_yes s p q c l v u w hS h0 he
      · exact set_7_no s p q c l v u w hS h0 he
    · by_cases he : Sx.eDep c = 0
      · exact set_8_yes s p q c l v u w hS h0 he
      · exact set_8_no s p q c l v u w hS h0 he
    · by_cases he : Sx.eSten l = 0
      · exact set_9_yes s p q c l v u w hS h0 he
      · exact set_9_no s p q c l v u w hS h0 he
    · by_cases he : Sx.eBlend c = 0
      · exact set_10_yes s p q c l v u w hS h0 he
      · exact set_10_no s p q c l v u w hS h0 he
    · by_cases he : Sx.eCull c = 0
      · exact set_11_yes s p q c l v u w hS h0 he
      · exact set_11_no s p q c l v u w hS h0 he
    · by_cases he : Sx.eBind c = 0
      · exact set_12_yes s p q c l v u w hS h0 he
      · exact set_12_no s p q c l v u w hS h0 he
  · exact set_none s p q c l v u w h
end Go.Proofs.Ytoejknkjfnnffaa
