/-
  The document's own Check (layer 18).
-/
import Derived.Test.YtankjlpanmmogaaStateCheck
import Derived.BigGuard
namespace Go.Proofs.Ytankjlpanmmogaa
set_option maxRecDepth 100000
open Go.RowKit

theorem Sx.chk_is (s : Sf) : Sx.chk s = if Vc.wi 16777216 s 16 then (if Vw.is (s 16) (s 17) (s 18) (s 19) then (if Vw.is (s 20) (s 21) (s 22) (s 23) then (if Dp.is (s 24) then (if Sn.chk (s 26) (s 27) (s 28) (s 29) (s 30) (s 31) (s 32) = 0 then (if Bn.chk (s 33) (s 34) (s 35) (s 36) = 0 then
    (if 0 ≤ s 37 ∧ s 37 ≤ 2 then (if 0 ≤ s 38 ∧ s 38 ≤ 64 then (if 0 ≤ s 39 ∧ s 39 ≤ 2 then 0 else 9) else 7) else 9) else Bn.chk (s 33) (s 34) (s 35) (s 36)) else Sn.chk (s 26) (s 27) (s 28) (s 29) (s 30) (s 31) (s 32)) else 9) else 12) else 12) else 11 := by
  unfold Sx.chk Sx.list Sx.cell Vw.chk Sx.test Sx.kind Sx.hand
  have e1 : ∀ n, Sx.wi 0 2 n = decide (0 ≤ n ∧ n ≤ 2) := fun n => by rw [Bool.eq_iff_iff, Sx.wi_iff]; simp
  have e2 : ∀ n, Sx.wi 0 64 n = decide (0 ≤ n ∧ n ≤ 64) := fun n => by rw [Bool.eq_iff_iff, Sx.wi_iff]; simp
  rw [e1, e1, e2]
  generalize Sn.chk (s 26) (s 27) (s 28) (s 29) (s 30) (s 31) (s 32) = a
  generalize Bn.chk (s 33) (s 34) (s 35) (s 36) = b
  cases Vc.wi 16777216 s 16
  · simp [Sx.fst]
  cases Vw.is (s 16) (s 17) (s 18) (s 19)
  · simp [Sx.fst]
  cases Vw.is (s 20) (s 21) (s 22) (s 23)
  · simp [Sx.fst]
  cases Dp.is (s 24)
  · simp [Sx.fst]
  by_cases ha : a = 0
  · by_cases hb : b = 0
    · subst ha hb
      by_cases h1 : 0 ≤ s 37 ∧ s 37 ≤ 2 <;> by_cases h2 : 0 ≤ s 38 ∧ s 38 ≤ 64 <;> by_cases h3 : 0 ≤ s 39 ∧ s 39 ≤ 2 <;> simp [Sx.fst, h1, h2, h3]
    · subst ha
      simp [Sx.fst, hb]
  · simp [Sx.fst, ha]
set_option linter.unusedSimpArgs false in
set_option maxRecDepth 100000 in
set_option maxHeartbeats 8000000 in
theorem rcheck18_any (s : Sf) (p q : Bool) (w : World) :
    Calls Try.prog 7 #[.agg #[.int .i64 (s 0), .int .i64 (s 1), .int .i64 (s 2), .int .i64 (s 3), .int .i64 (s 4), .int .i64 (s 5), .int .i64 (s 6), .int .i64 (s 7), .int .i64 (s 8), .int .i64 (s 9), .int .i64 (s 10), .int .i64 (s 11), .int .i64 (s 12), .int .i64 (s 13), .int .i64 (s 14), .int .i64 (s 15), .int .i64 (s 16), .int .i64 (s 17), .int .i64 (s 18), .int .i64 (s 19), .int .i64 (s 20), .int .i64 (s 21), .int .i64 (s 22), .int .i64 (s 23), .int .i64 (s 24), .bool p, .int .i64 (s 26), .int .i64 (s 27), .int .i64 (s 28), .int .i64 (s 29), .int .i64 (s 30), .int .i64 (s 31), .int .i64 (s 32), .int .i64 (s 33), .int .i64 (s 34), .int .i64 (s 35), .int .i64 (s 36), .int .i64 (s 37), .int .i64 (s 38), .int .i64 (s 39), .bool q]] w fun e w' => e = .returned (.int .i64 (Sx.chk s)) ∧ Kp w.heap.size w w' := by
  have HB := Lib.hid (Sx.chk_is s)
  have M1 := fun W => rmay_any s W
  have I1 := fun W => ris16_any (s 16) (s 17) (s 18) (s 19) W
  have I2 := fun W => ris16_any (s 20) (s 21) (s 22) (s 23) W
  have D1 := fun W => ris_any (s 24) W
  have S1 := fun W => srcheck_any (s 26) (s 27) (s 28) (s 29) (s 30) (s 31) (s 32) W
  have B1 := fun W => brcheck_any (s 33) (s 34) (s 35) (s 36) W
  generalize Vc.wi 16777216 s 16 = m1 at *
  generalize Vw.is (s 16) (s 17) (s 18) (s 19) = i1 at *
  generalize Vw.is (s 20) (s 21) (s 22) (s 23) = i2 at *
  generalize Dp.is (s 24) = d1 at *
  generalize Sn.chk (s 26) (s 27) (s 28) (s 29) (s 30) (s 31) (s 32) = n1 at *
  generalize Bn.chk (s 33) (s 34) (s 35) (s 36) = n2 at *
  generalize Sx.chk s = r at *
  have HO := Lib.hid ((Ow.refl w).newAt (w.heap.size) rfl (.int .i64 (s 0)) [.int .i64 (s 1), .int .i64 (s 2), .int .i64 (s 3), .int .i64 (s 4), .int .i64 (s 5), .int .i64 (s 6), .int .i64 (s 7), .int .i64 (s 8), .int .i64 (s 9), .int .i64 (s 10), .int .i64 (s 11), .int .i64 (s 12), .int .i64 (s 13), .int .i64 (s 14), .int .i64 (s 15), .int .i64 (s 16), .int .i64 (s 17), .int .i64 (s 18), .int .i64 (s 19), .int .i64 (s 20), .int .i64 (s 21), .int .i64 (s 22), .int .i64 (s 23), .int .i64 (s 24), .bool p, .int .i64 (s 26), .int .i64 (s 27), .int .i64 (s 28), .int .i64 (s 29), .int .i64 (s 30), .int .i64 (s 31), .int .i64 (s 32), .int .i64 (s 33), .int .i64 (s 34), .int .i64 (s 35), .int .i64 (s 36), .int .i64 (s 37), .int .i64 (s 38), .int .i64 (s 39), .bool q] 37)
  go_enter Try.func7, Try.ntmps7
  cases m1
  · obtain rfl : r = 11 := by rw [HB.out]; rfl
    clear HB
    go_wp2_with (first
        | go_big_skip
        | ((with_reducible show wpList _ _ _ ({ dst := _, op := Op.load 29 (Operand.tmp 5), type := _, pos := _, after := _, guard := _ } :: _) _ _); refine wpList_ldo ty_mat rfl _ rfl _ _ rfl [.int .i64 (s 0), .int .i64 (s 1), .int .i64 (s 2), .int .i64 (s 3), .int .i64 (s 4), .int .i64 (s 5), .int .i64 (s 6), .int .i64 (s 7), .int .i64 (s 8), .int .i64 (s 9), .int .i64 (s 10), .int .i64 (s 11), .int .i64 (s 12), .int .i64 (s 13), .int .i64 (s 14), .int .i64 (s 15), .int .i64 (s 16), .int .i64 (s 17), .int .i64 (s 18), .int .i64 (s 19), .int .i64 (s 20), .int .i64 (s 21), .int .i64 (s 22), .int .i64 (s 23), .int .i64 (s 24), .bool p, .int .i64 (s 26), .int .i64 (s 27), .int .i64 (s 28), .int .i64 (s 29), .int .i64 (s 30), .int .i64 (s 31), .int .i64 (s 32), .int .i64 (s 33), .int .i64 (s 34), .int .i64 (s 35), .int .i64 (s 36), .int .i64 (s 37), .int .i64 (s 38), .int .i64 (s 39), .bool q] rfl (Rc.some (HO.out.at 0 rfl)) ?_; intro us hus; dsimp only [List.drop, List.take] at hus; subst hus)
        | (go_at_call 19; (with_reducible refine (M1 _).mono ?_); rintro e wz ⟨rfl, hk1⟩; have l2 := HO.out.call hk1; clear HO hk1; have HO := Lib.hid l2; clear l2))
    go_ret
    exact ⟨rfl, HO.out.k⟩
  go_upto_region 3 with (first
      | go_big_skip
      | ((with_reducible show wpList _ _ _ ({ dst := _, op := Op.load 29 (Operand.tmp 5), type := _, pos := _, after := _, guard := _ } :: _) _ _); refine wpList_ldo ty_mat rfl _ rfl _ _ rfl [.int .i64 (s 0), .int .i64 (s 1), .int .i64 (s 2), .int .i64 (s 3), .int .i64 (s 4), .int .i64 (s 5), .int .i64 (s 6), .int .i64 (s 7), .int .i64 (s 8), .int .i64 (s 9), .int .i64 (s 10), .int .i64 (s 11), .int .i64 (s 12), .int .i64 (s 13), .int .i64 (s 14), .int .i64 (s 15), .int .i64 (s 16), .int .i64 (s 17), .int .i64 (s 18), .int .i64 (s 19), .int .i64 (s 20), .int .i64 (s 21), .int .i64 (s 22), .int .i64 (s 23), .int .i64 (s 24), .bool p, .int .i64 (s 26), .int .i64 (s 27), .int .i64 (s 28), .int .i64 (s 29), .int .i64 (s 30), .int .i64 (s 31), .int .i64 (s 32), .int .i64 (s 33), .int .i64 (s 34), .int .i64 (s 35), .int .i64 (s 36), .int .i64 (s 37), .int .i64 (s 38), .int .i64 (s 39), .bool q] rfl (Rc.some (HO.out.at 0 rfl)) ?_; intro us hus; dsimp only [List.drop, List.take] at hus; subst hus)
      | (go_at_call 19; (with_reducible refine (M1 _).mono ?_); rintro e wz ⟨rfl, hk1⟩; have l2 := HO.out.call hk1; clear HO hk1; have HO := Lib.hid l2; clear l2))
  cases i1
  · obtain rfl : r = 12 := by rw [HB.out]; rfl
    clear HB
    go_wp2_with (first
        | go_big_skip
        | ((with_reducible show wpList _ _ _ ({ dst := _, op := Op.load 31 (Operand.tmp 9), type := _, pos := _, after := _, guard := _ } :: _) _ _); refine wpList_ldo ty_rect rfl _ rfl _ _ rfl [.int .i64 (s 0), .int .i64 (s 1), .int .i64 (s 2), .int .i64 (s 3), .int .i64 (s 4), .int .i64 (s 5), .int .i64 (s 6), .int .i64 (s 7), .int .i64 (s 8), .int .i64 (s 9), .int .i64 (s 10), .int .i64 (s 11), .int .i64 (s 12), .int .i64 (s 13), .int .i64 (s 14), .int .i64 (s 15), .int .i64 (s 16), .int .i64 (s 17), .int .i64 (s 18), .int .i64 (s 19), .int .i64 (s 20), .int .i64 (s 21), .int .i64 (s 22), .int .i64 (s 23), .int .i64 (s 24), .bool p, .int .i64 (s 26), .int .i64 (s 27), .int .i64 (s 28), .int .i64 (s 29), .int .i64 (s 30), .int .i64 (s 31), .int .i64 (s 32), .int .i64 (s 33), .int .i64 (s 34), .int .i64 (s 35), .int .i64 (s 36), .int .i64 (s 37), .int .i64 (s 38), .int .i64 (s 39), .bool q] rfl (Rc.some (HO.out.at 0 rfl)) ?_; intro us hus; dsimp only [List.drop, List.take] at hus; subst hus)
        | ((with_reducible show wpList _ _ _ ({ dst := _, op := Op.load 31 (Operand.tmp 14), type := _, pos := _, after := _, guard := _ } :: _) _ _); refine wpList_ldo ty_rect rfl _ rfl _ _ rfl [.int .i64 (s 0), .int .i64 (s 1), .int .i64 (s 2), .int .i64 (s 3), .int .i64 (s 4), .int .i64 (s 5), .int .i64 (s 6), .int .i64 (s 7), .int .i64 (s 8), .int .i64 (s 9), .int .i64 (s 10), .int .i64 (s 11), .int .i64 (s 12), .int .i64 (s 13), .int .i64 (s 14), .int .i64 (s 15), .int .i64 (s 16), .int .i64 (s 17), .int .i64 (s 18), .int .i64 (s 19), .int .i64 (s 20), .int .i64 (s 21), .int .i64 (s 22), .int .i64 (s 23), .int .i64 (s 24), .bool p, .int .i64 (s 26), .int .i64 (s 27), .int .i64 (s 28), .int .i64 (s 29), .int .i64 (s 30), .int .i64 (s 31), .int .i64 (s 32), .int .i64 (s 33), .int .i64 (s 34), .int .i64 (s 35), .int .i64 (s 36), .int .i64 (s 37), .int .i64 (s 38), .int .i64 (s 39), .bool q] rfl (Rc.some (HO.out.at 0 rfl)) ?_; intro us hus; dsimp only [List.drop, List.take] at hus; subst hus)
        | (go_at_call 20; (with_reducible refine (I1 _).mono ?_); rintro e wz ⟨rfl, hk1⟩; have l2 := HO.out.call hk1; clear HO hk1; have HO := Lib.hid l2; clear l2)
        | (go_at_call 20; (with_reducible refine (I2 _).mono ?_); rintro e wz ⟨rfl, hk1⟩; have l2 := HO.out.call hk1; clear HO hk1; have HO := Lib.hid l2; clear l2))
    go_ret
    exact ⟨rfl, HO.out.k⟩
  cases i2
  · obtain rfl : r = 12 := by rw [HB.out]; rfl
    clear HB
    go_wp2_with (first
        | go_big_skip
        | ((with_reducible show wpList _ _ _ ({ dst := _, op := Op.load 31 (Operand.tmp 9), type := _, pos := _, after := _, guard := _ } :: _) _ _); refine wpList_ldo ty_rect rfl _ rfl _ _ rfl [.int .i64 (s 0), .int .i64 (s 1), .int .i64 (s 2), .int .i64 (s 3), .int .i64 (s 4), .int .i64 (s 5), .int .i64 (s 6), .int .i64 (s 7), .int .i64 (s 8), .int .i64 (s 9), .int .i64 (s 10), .int .i64 (s 11), .int .i64 (s 12), .int .i64 (s 13), .int .i64 (s 14), .int .i64 (s 15), .int .i64 (s 16), .int .i64 (s 17), .int .i64 (s 18), .int .i64 (s 19), .int .i64 (s 20), .int .i64 (s 21), .int .i64 (s 22), .int .i64 (s 23), .int .i64 (s 24), .bool p, .int .i64 (s 26), .int .i64 (s 27), .int .i64 (s 28), .int .i64 (s 29), .int .i64 (s 30), .int .i64 (s 31), .int .i64 (s 32), .int .i64 (s 33), .int .i64 (s 34), .int .i64 (s 35), .int .i64 (s 36), .int .i64 (s 37), .int .i64 (s 38), .int .i64 (s 39), .bool q] rfl (Rc.some (HO.out.at 0 rfl)) ?_; intro us hus; dsimp only [List.drop, List.take] at hus; subst hus)
        | ((with_reducible show wpList _ _ _ ({ dst := _, op := Op.load 31 (Operand.tmp 14), type := _, pos := _, after := _, guard := _ } :: _) _ _); refine wpList_ldo ty_rect rfl _ rfl _ _ rfl [.int .i64 (s 0), .int .i64 (s 1), .int .i64 (s 2), .int .i64 (s 3), .int .i64 (s 4), .int .i64 (s 5), .int .i64 (s 6), .int .i64 (s 7), .int .i64 (s 8), .int .i64 (s 9), .int .i64 (s 10), .int .i64 (s 11), .int .i64 (s 12), .int .i64 (s 13), .int .i64 (s 14), .int .i64 (s 15), .int .i64 (s 16), .int .i64 (s 17), .int .i64 (s 18), .int .i64 (s 19), .int .i64 (s 20), .int .i64 (s 21), .int .i64 (s 22), .int .i64 (s 23), .int .i64 (s 24), .bool p, .int .i64 (s 26), .int .i64 (s 27), .int .i64 (s 28), .int .i64 (s 29), .int .i64 (s 30), .int .i64 (s 31), .int .i64 (s 32), .int .i64 (s 33), .int .i64 (s 34), .int .i64 (s 35), .int .i64 (s 36), .int .i64 (s 37), .int .i64 (s 38), .int .i64 (s 39), .bool q] rfl (Rc.some (HO.out.at 0 rfl)) ?_; intro us hus; dsimp only [List.drop, List.take] at hus; subst hus)
        | (go_at_call 20; (with_reducible refine (I1 _).mono ?_); rintro e wz ⟨rfl, hk1⟩; have l2 := HO.out.call hk1; clear HO hk1; have HO := Lib.hid l2; clear l2)
        | (go_at_call 20; (with_reducible refine (I2 _).mono ?_); rintro e wz ⟨rfl, hk1⟩; have l2 := HO.out.call hk1; clear HO hk1; have HO := Lib.hid l2; clear l2))
    go_ret
    exact ⟨rfl, HO.out.k⟩
  go_upto_region 5 with (first
      | go_big_skip
      | ((with_reducible show wpList _ _ _ ({ dst := _, op := Op.load 31 (Operand.tmp 9), type := _, pos := _, after := _, guard := _ } :: _) _ _); refine wpList_ldo ty_rect rfl _ rfl _ _ rfl [.int .i64 (s 0), .int .i64 (s 1), .int .i64 (s 2), .int .i64 (s 3), .int .i64 (s 4), .int .i64 (s 5), .int .i64 (s 6), .int .i64 (s 7), .int .i64 (s 8), .int .i64 (s 9), .int .i64 (s 10), .int .i64 (s 11), .int .i64 (s 12), .int .i64 (s 13), .int .i64 (s 14), .int .i64 (s 15), .int .i64 (s 16), .int .i64 (s 17), .int .i64 (s 18), .int .i64 (s 19), .int .i64 (s 20), .int .i64 (s 21), .int .i64 (s 22), .int .i64 (s 23), .int .i64 (s 24), .bool p, .int .i64 (s 26), .int .i64 (s 27), .int .i64 (s 28), .int .i64 (s 29), .int .i64 (s 30), .int .i64 (s 31), .int .i64 (s 32), .int .i64 (s 33), .int .i64 (s 34), .int .i64 (s 35), .int .i64 (s 36), .int .i64 (s 37), .int .i64 (s 38), .int .i64 (s 39), .bool q] rfl (Rc.some (HO.out.at 0 rfl)) ?_; intro us hus; dsimp only [List.drop, List.take] at hus; subst hus)
      | ((with_reducible show wpList _ _ _ ({ dst := _, op := Op.load 31 (Operand.tmp 14), type := _, pos := _, after := _, guard := _ } :: _) _ _); refine wpList_ldo ty_rect rfl _ rfl _ _ rfl [.int .i64 (s 0), .int .i64 (s 1), .int .i64 (s 2), .int .i64 (s 3), .int .i64 (s 4), .int .i64 (s 5), .int .i64 (s 6), .int .i64 (s 7), .int .i64 (s 8), .int .i64 (s 9), .int .i64 (s 10), .int .i64 (s 11), .int .i64 (s 12), .int .i64 (s 13), .int .i64 (s 14), .int .i64 (s 15), .int .i64 (s 16), .int .i64 (s 17), .int .i64 (s 18), .int .i64 (s 19), .int .i64 (s 20), .int .i64 (s 21), .int .i64 (s 22), .int .i64 (s 23), .int .i64 (s 24), .bool p, .int .i64 (s 26), .int .i64 (s 27), .int .i64 (s 28), .int .i64 (s 29), .int .i64 (s 30), .int .i64 (s 31), .int .i64 (s 32), .int .i64 (s 33), .int .i64 (s 34), .int .i64 (s 35), .int .i64 (s 36), .int .i64 (s 37), .int .i64 (s 38), .int .i64 (s 39), .bool q] rfl (Rc.some (HO.out.at 0 rfl)) ?_; intro us hus; dsimp only [List.drop, List.take] at hus; subst hus)
      | (go_at_call 20; (with_reducible refine (I1 _).mono ?_); rintro e wz ⟨rfl, hk1⟩; have l2 := HO.out.call hk1; clear HO hk1; have HO := Lib.hid l2; clear l2)
      | (go_at_call 20; (with_reducible refine (I2 _).mono ?_); rintro e wz ⟨rfl, hk1⟩; have l2 := HO.out.call hk1; clear HO hk1; have HO := Lib.hid l2; clear l2))
  have c24 := (HO.out.at 0 rfl).cell 24 rfl
  cases d1
  · obtain rfl : r = 9 := by rw [HB.out]; rfl
    clear HB
    go_wp2_with (first
        | go_big_skip
        | (go_at_call 21; (with_reducible refine (D1 _).mono ?_); rintro e w' ⟨rfl, rfl⟩))
    go_ret
    exact ⟨rfl, HO.out.k⟩
  go_upto_region 7 with (first
      | go_big_skip
      | (go_at_call 21; (with_reducible refine (D1 _).mono ?_); rintro e w' ⟨rfl, rfl⟩))
  clear c24
  by_cases h4 : n1 = 0
  case neg =>
    obtain rfl : r = n1 := by rw [HB.out]; simp [h4]
    have q4 : (r != 0) = true := by simpa using h4
    clear HB h4
    go_wp2_with (first
        | go_big_skip
        | ((with_reducible show wpList _ _ _ ({ dst := _, op := Op.load 33 (Operand.tmp 23), type := _, pos := _, after := _, guard := _ } :: _) _ _); refine wpList_ldo ty_sten rfl _ rfl _ _ rfl [.int .i64 (s 0), .int .i64 (s 1), .int .i64 (s 2), .int .i64 (s 3), .int .i64 (s 4), .int .i64 (s 5), .int .i64 (s 6), .int .i64 (s 7), .int .i64 (s 8), .int .i64 (s 9), .int .i64 (s 10), .int .i64 (s 11), .int .i64 (s 12), .int .i64 (s 13), .int .i64 (s 14), .int .i64 (s 15), .int .i64 (s 16), .int .i64 (s 17), .int .i64 (s 18), .int .i64 (s 19), .int .i64 (s 20), .int .i64 (s 21), .int .i64 (s 22), .int .i64 (s 23), .int .i64 (s 24), .bool p, .int .i64 (s 26), .int .i64 (s 27), .int .i64 (s 28), .int .i64 (s 29), .int .i64 (s 30), .int .i64 (s 31), .int .i64 (s 32), .int .i64 (s 33), .int .i64 (s 34), .int .i64 (s 35), .int .i64 (s 36), .int .i64 (s 37), .int .i64 (s 38), .int .i64 (s 39), .bool q] rfl (Rc.some (HO.out.at 0 rfl)) ?_; intro us hus; dsimp only [List.drop, List.take] at hus; subst hus)
        | (go_at_call 22; (with_reducible refine (S1 _).mono ?_); rintro e wz ⟨rfl, hk1⟩; have l2 := HO.out.call hk1; clear HO hk1; have HO := Lib.hid l2; clear l2))
    go_ret
    exact ⟨rfl, HO.out.k⟩
  subst h4
  go_upto_region 10 with (first
      | go_big_skip
      | ((with_reducible show wpList _ _ _ ({ dst := _, op := Op.load 33 (Operand.tmp 23), type := _, pos := _, after := _, guard := _ } :: _) _ _); refine wpList_ldo ty_sten rfl _ rfl _ _ rfl [.int .i64 (s 0), .int .i64 (s 1), .int .i64 (s 2), .int .i64 (s 3), .int .i64 (s 4), .int .i64 (s 5), .int .i64 (s 6), .int .i64 (s 7), .int .i64 (s 8), .int .i64 (s 9), .int .i64 (s 10), .int .i64 (s 11), .int .i64 (s 12), .int .i64 (s 13), .int .i64 (s 14), .int .i64 (s 15), .int .i64 (s 16), .int .i64 (s 17), .int .i64 (s 18), .int .i64 (s 19), .int .i64 (s 20), .int .i64 (s 21), .int .i64 (s 22), .int .i64 (s 23), .int .i64 (s 24), .bool p, .int .i64 (s 26), .int .i64 (s 27), .int .i64 (s 28), .int .i64 (s 29), .int .i64 (s 30), .int .i64 (s 31), .int .i64 (s 32), .int .i64 (s 33), .int .i64 (s 34), .int .i64 (s 35), .int .i64 (s 36), .int .i64 (s 37), .int .i64 (s 38), .int .i64 (s 39), .bool q] rfl (Rc.some (HO.out.at 0 rfl)) ?_; intro us hus; dsimp only [List.drop, List.take] at hus; subst hus)
      | (go_at_call 22; (with_reducible refine (S1 _).mono ?_); rintro e wz ⟨rfl, hk1⟩; have l2 := HO.out.call hk1; clear HO hk1; have HO := Lib.hid l2; clear l2))
  by_cases h5 : n2 = 0
  case neg =>
    obtain rfl : r = n2 := by rw [HB.out]; simp [h5]
    have q5 : (r != 0) = true := by simpa using h5
    clear HB h5
    go_wp2_with (first
        | go_big_skip
        | ((with_reducible show wpList _ _ _ ({ dst := _, op := Op.load 35 (Operand.tmp 29), type := _, pos := _, after := _, guard := _ } :: _) _ _); refine wpList_ldo ty_blend rfl _ rfl _ _ rfl [.int .i64 (s 0), .int .i64 (s 1), .int .i64 (s 2), .int .i64 (s 3), .int .i64 (s 4), .int .i64 (s 5), .int .i64 (s 6), .int .i64 (s 7), .int .i64 (s 8), .int .i64 (s 9), .int .i64 (s 10), .int .i64 (s 11), .int .i64 (s 12), .int .i64 (s 13), .int .i64 (s 14), .int .i64 (s 15), .int .i64 (s 16), .int .i64 (s 17), .int .i64 (s 18), .int .i64 (s 19), .int .i64 (s 20), .int .i64 (s 21), .int .i64 (s 22), .int .i64 (s 23), .int .i64 (s 24), .bool p, .int .i64 (s 26), .int .i64 (s 27), .int .i64 (s 28), .int .i64 (s 29), .int .i64 (s 30), .int .i64 (s 31), .int .i64 (s 32), .int .i64 (s 33), .int .i64 (s 34), .int .i64 (s 35), .int .i64 (s 36), .int .i64 (s 37), .int .i64 (s 38), .int .i64 (s 39), .bool q] rfl (Rc.some (HO.out.at 0 rfl)) ?_; intro us hus; dsimp only [List.drop, List.take] at hus; subst hus)
        | (go_at_call 23; (with_reducible refine (B1 _).mono ?_); rintro e wz ⟨rfl, hk1⟩; have l2 := HO.out.call hk1; clear HO hk1; have HO := Lib.hid l2; clear l2))
    go_ret
    exact ⟨rfl, HO.out.k⟩
  subst h5
  have HB2 := Lib.hid (show r = if 0 ≤ s 37 ∧ s 37 ≤ 2 then (if 0 ≤ s 38 ∧ s 38 ≤ 64 then (if 0 ≤ s 39 ∧ s 39 ≤ 2 then 0 else 9) else 7) else 9 by rw [HB.out]; simp)
  clear HB
  go_upto_region 13 with (first
      | go_big_skip
      | ((with_reducible show wpList _ _ _ ({ dst := _, op := Op.load 35 (Operand.tmp 29), type := _, pos := _, after := _, guard := _ } :: _) _ _); refine wpList_ldo ty_blend rfl _ rfl _ _ rfl [.int .i64 (s 0), .int .i64 (s 1), .int .i64 (s 2), .int .i64 (s 3), .int .i64 (s 4), .int .i64 (s 5), .int .i64 (s 6), .int .i64 (s 7), .int .i64 (s 8), .int .i64 (s 9), .int .i64 (s 10), .int .i64 (s 11), .int .i64 (s 12), .int .i64 (s 13), .int .i64 (s 14), .int .i64 (s 15), .int .i64 (s 16), .int .i64 (s 17), .int .i64 (s 18), .int .i64 (s 19), .int .i64 (s 20), .int .i64 (s 21), .int .i64 (s 22), .int .i64 (s 23), .int .i64 (s 24), .bool p, .int .i64 (s 26), .int .i64 (s 27), .int .i64 (s 28), .int .i64 (s 29), .int .i64 (s 30), .int .i64 (s 31), .int .i64 (s 32), .int .i64 (s 33), .int .i64 (s 34), .int .i64 (s 35), .int .i64 (s 36), .int .i64 (s 37), .int .i64 (s 38), .int .i64 (s 39), .bool q] rfl (Rc.some (HO.out.at 0 rfl)) ?_; intro us hus; dsimp only [List.drop, List.take] at hus; subst hus)
      | (go_at_call 23; (with_reducible refine (B1 _).mono ?_); rintro e wz ⟨rfl, hk1⟩; have l2 := HO.out.call hk1; clear HO hk1; have HO := Lib.hid l2; clear l2))
  have c37 := (HO.out.at 0 rfl).cell 37 rfl
  have c38 := (HO.out.at 0 rfl).cell 38 rfl
  have c39 := (HO.out.at 0 rfl).cell 39 rfl
  generalize s 37 = a at *
  generalize s 38 = b at *
  generalize s 39 = d at *
  by_cases g0 : a < 0
  · have d0 : decide (a < 0) = true := decide_eq_true g0
    obtain rfl : r = 9 := by rw [HB2.out]; (repeat' split) <;> omega
    clear HB2
    go_wp2_with (first
        | go_big_skip)
    go_ret
    exact ⟨rfl, HO.out.k⟩
  have d0 : decide (a < 0) = false := decide_eq_false g0
  by_cases g1 : 2 < a
  · have d1 : decide (2 < a) = true := decide_eq_true g1
    obtain rfl : r = 9 := by rw [HB2.out]; (repeat' split) <;> omega
    clear HB2
    go_wp2_with (first
        | go_big_skip)
    go_ret
    exact ⟨rfl, HO.out.k⟩
  have d1 : decide (2 < a) = false := decide_eq_false g1
  by_cases g2 : b < 0
  · have d2 : decide (b < 0) = true := decide_eq_true g2
    obtain rfl : r = 7 := by rw [HB2.out]; (repeat' split) <;> omega
    clear HB2
    go_wp2_with (first
        | go_big_skip)
    go_ret
    exact ⟨rfl, HO.out.k⟩
  have d2 : decide (b < 0) = false := decide_eq_false g2
  by_cases g3 : 64 < b
  · have d3 : decide (64 < b) = true := decide_eq_true g3
    obtain rfl : r = 7 := by rw [HB2.out]; (repeat' split) <;> omega
    clear HB2
    go_wp2_with (first
        | go_big_skip)
    go_ret
    exact ⟨rfl, HO.out.k⟩
  have d3 : decide (64 < b) = false := decide_eq_false g3
  by_cases g4 : d < 0
  · have d4 : decide (d < 0) = true := decide_eq_true g4
    obtain rfl : r = 9 := by rw [HB2.out]; (repeat' split) <;> omega
    clear HB2
    go_wp2_with (first
        | go_big_skip)
    go_ret
    exact ⟨rfl, HO.out.k⟩
  have d4 : decide (d < 0) = false := decide_eq_false g4
  by_cases g5 : 2 < d
  · have d5 : decide (2 < d) = true := decide_eq_true g5
    obtain rfl : r = 9 := by rw [HB2.out]; (repeat' split) <;> omega
    clear HB2
    go_wp2_with (first
        | go_big_skip)
    go_ret
    exact ⟨rfl, HO.out.k⟩
  have d5 : decide (2 < d) = false := decide_eq_false g5
  obtain rfl : r = 0 := by rw [HB2.out]; (repeat' split) <;> omega
  clear HB2
  go_wp2_with (first
      | go_big_skip)
  go_ret
  exact ⟨rfl, HO.out.k⟩
end Go.Proofs.Ytankjlpanmmogaa
