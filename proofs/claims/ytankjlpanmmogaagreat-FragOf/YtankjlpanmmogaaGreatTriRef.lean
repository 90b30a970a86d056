/-
  The document's own May and Setup (layer 17).
-/
import Derived.Test.YtankjlpanmmogaaGreatTriRefBox
import Derived.Test.YtankjlpanmmogaaGreatTriSet
import Derived.BigGuard
namespace Go.Proofs.YtankjlpanmmogaaGreat
set_option maxRecDepth 100000
open Go.RowKit

set_option linter.unusedSimpArgs false in
set_option maxRecDepth 100000 in
set_option maxHeartbeats 8000000 in
theorem rmay17_any (s : Sn) (w : World) :
    Calls Tryz.prog 4 #[.agg #[.int .i64 (s 0), .int .i64 (s 1), .int .i64 (s 2), .int .i64 (s 3), .int .i64 (s 4), .int .i64 (s 5), .int .i64 (s 6), .int .i64 (s 7), .int .i64 (s 8)]] w fun e w' => e = .returned (.bool (Tr.mayB s)) ∧ Kp w.heap.size w w' := by
  have M1 := fun W => rmay_any (s 0) (s 1) W
  have HB : Hid (Tr.mayB s = (Eg.may (s 0) (s 1) && decide (0 ≤ s 2 ∧ s 2 ≤ 65535) && Tr.small s 6)) := Lib.hid rfl
  generalize Tr.mayB s = r at *
  have HO := Lib.hid ((Ow.refl w).newAt (w.heap.size) rfl (.int .i64 (s 0)) [.int .i64 (s 1), .int .i64 (s 2), .int .i64 (s 3), .int .i64 (s 4), .int .i64 (s 5), .int .i64 (s 6), .int .i64 (s 7), .int .i64 (s 8)] 26)
  cases hm : Eg.may (s 0) (s 1)
  · rw [hm] at M1
    obtain rfl : r = false := by rw [HB.out, hm]; rfl
    clear HB hm
    go_enter Tryz.func4, Tryz.ntmps4
    go_wp2_with (first
    | go_big_skip
    | ((with_reducible show wpList _ _ _ ({ dst := _, op := Op.load 23 (Operand.tmp 4), type := _, pos := _, after := _, guard := _ } :: _) _ _); refine wpList_ldo ty_point rfl _ rfl _ _ rfl [.int .i64 (s 0), .int .i64 (s 1), .int .i64 (s 2), .int .i64 (s 3), .int .i64 (s 4), .int .i64 (s 5), .int .i64 (s 6), .int .i64 (s 7), .int .i64 (s 8)] rfl (Rc.some (HO.out.at 0 rfl)) ?_; intro us hus; dsimp only [List.drop, List.take] at hus; subst hus)
    | (go_at_call 10; (with_reducible refine (M1 _).mono ?_); rintro e wz ⟨rfl, hk1⟩; have l2 := HO.out.call hk1; clear HO hk1; have HO := Lib.hid l2; clear l2; have cc := (HO.out.at 0 rfl).cell 2 rfl))
    go_ret
    exact ⟨rfl, HO.out.k⟩
  rw [hm] at M1
  by_cases h1 : s 2 < 0
  · have z1 : decide (s 2 < 0) = true := decide_eq_true h1
    obtain rfl : r = false := by rw [HB.out, hm, decide_eq_false (show ¬ (0 ≤ s 2 ∧ s 2 ≤ 65535) by omega)]; rfl
    clear HB hm h1
    go_enter Tryz.func4, Tryz.ntmps4
    go_wp2_with (first
    | go_big_skip
    | ((with_reducible show wpList _ _ _ ({ dst := _, op := Op.load 23 (Operand.tmp 4), type := _, pos := _, after := _, guard := _ } :: _) _ _); refine wpList_ldo ty_point rfl _ rfl _ _ rfl [.int .i64 (s 0), .int .i64 (s 1), .int .i64 (s 2), .int .i64 (s 3), .int .i64 (s 4), .int .i64 (s 5), .int .i64 (s 6), .int .i64 (s 7), .int .i64 (s 8)] rfl (Rc.some (HO.out.at 0 rfl)) ?_; intro us hus; dsimp only [List.drop, List.take] at hus; subst hus)
    | (go_at_call 10; (with_reducible refine (M1 _).mono ?_); rintro e wz ⟨rfl, hk1⟩; have l2 := HO.out.call hk1; clear HO hk1; have HO := Lib.hid l2; clear l2; have cc := (HO.out.at 0 rfl).cell 2 rfl))
    go_ret
    exact ⟨rfl, HO.out.k⟩
  have z1 : decide (s 2 < 0) = false := decide_eq_false h1
  by_cases h2 : 65535 < s 2
  · have z2 : decide (65535 < s 2) = true := decide_eq_true h2
    obtain rfl : r = false := by rw [HB.out, hm, decide_eq_false (show ¬ (0 ≤ s 2 ∧ s 2 ≤ 65535) by omega)]; rfl
    clear HB hm h1 h2
    go_enter Tryz.func4, Tryz.ntmps4
    go_wp2_with (first
    | go_big_skip
    | ((with_reducible show wpList _ _ _ ({ dst := _, op := Op.load 23 (Operand.tmp 4), type := _, pos := _, after := _, guard := _ } :: _) _ _); refine wpList_ldo ty_point rfl _ rfl _ _ rfl [.int .i64 (s 0), .int .i64 (s 1), .int .i64 (s 2), .int .i64 (s 3), .int .i64 (s 4), .int .i64 (s 5), .int .i64 (s 6), .int .i64 (s 7), .int .i64 (s 8)] rfl (Rc.some (HO.out.at 0 rfl)) ?_; intro us hus; dsimp only [List.drop, List.take] at hus; subst hus)
    | (go_at_call 10; (with_reducible refine (M1 _).mono ?_); rintro e wz ⟨rfl, hk1⟩; have l2 := HO.out.call hk1; clear HO hk1; have HO := Lib.hid l2; clear l2; have cc := (HO.out.at 0 rfl).cell 2 rfl))
    go_ret
    exact ⟨rfl, HO.out.k⟩
  have z2 : decide (65535 < s 2) = false := decide_eq_false h2
  have HB2 : Hid (r = Tr.small s 6) := Lib.hid (by rw [HB.out, hm, decide_eq_true (show 0 ≤ s 2 ∧ s 2 ≤ 65535 by omega)]; rfl)
  clear HB hm h1 h2
  go_enter Tryz.func4, Tryz.ntmps4
  go_wp2_with (first
    | go_big_skip
    | ((with_reducible show wpList _ _ _ ({ dst := _, op := Op.load 23 (Operand.tmp 4), type := _, pos := _, after := _, guard := _ } :: _) _ _); refine wpList_ldo ty_point rfl _ rfl _ _ rfl [.int .i64 (s 0), .int .i64 (s 1), .int .i64 (s 2), .int .i64 (s 3), .int .i64 (s 4), .int .i64 (s 5), .int .i64 (s 6), .int .i64 (s 7), .int .i64 (s 8)] rfl (Rc.some (HO.out.at 0 rfl)) ?_; intro us hus; dsimp only [List.drop, List.take] at hus; subst hus)
    | (go_at_call 10; (with_reducible refine (M1 _).mono ?_); rintro e wz ⟨rfl, hk1⟩; have l2 := HO.out.call hk1; clear HO hk1; have HO := Lib.hid l2; clear l2; have cc := (HO.out.at 0 rfl).cell 2 rfl))
  clear M1 z1 z2
  try clear cc
  go_loopw [3] (fun i wr => ∃ k : Nat, k ≤ 6 ∧ i = .int .i64 k ∧ Tr.small s k = true ∧ Ow w wr [(w.heap.size, [.int .i64 (s 0), .int .i64 (s 1), .int .i64 (s 2), .int .i64 (s 3), .int .i64 (s 4), .int .i64 (s 5), .int .i64 (s 6), .int .i64 (s 7), .int .i64 (s 8)])]) (fun i _ => msrT 6 i)
  case atStart => exact ⟨0, by omega, rfl, rfl, HO.out⟩
  case round =>
    clear HO
    obtain ⟨k, hk, rfl, hs, ho⟩ := hrel
    by_cases hlt : k < 6
    · have z1 : decide ((k : Int) < 6) = true := decide_eq_true (by omega)
      have z2 : (k : Int) < 6 := by omega
      have ck := arr9_of (ho.at 0 rfl) k hlt
      have HO := Lib.hid ho
      have HS := Lib.hid hs
      have HX := Lib.hid (Tr.small_next s k)
      have HY : Hid (decide (-1048576 ≤ s (3 + k) ∧ s (3 + k) ≤ 1048576) = false → Tr.small s 6 = false) := Lib.hid fun h => Tr.small_no hlt h
      clear ho hs
      generalize s (3 + k) = y at *
      by_cases h1 : y < -1048576
      · have q1 : decide (y < -1048576) = true := decide_eq_true h1
        obtain rfl : r = false := by rw [HB2.out]; exact HY.out (decide_eq_false (by omega))
        clear HB2 HY HX h1
        go_wp2_with go_big_skip
        go_ret
        exact ⟨rfl, HO.out.k⟩
      · have q1 : decide (y < -1048576) = false := decide_eq_false h1
        by_cases h2 : 1048576 < y
        · have q2 : decide (1048576 < y) = true := decide_eq_true h2
          obtain rfl : r = false := by rw [HB2.out]; exact HY.out (decide_eq_false (by omega))
          clear HB2 HY HX h1 h2
          go_wp2_with go_big_skip
          go_ret
          exact ⟨rfl, HO.out.k⟩
        · have q2 : decide (1048576 < y) = false := decide_eq_false h2
          have HZ : Hid (decide (-1048576 ≤ y ∧ y ≤ 1048576) = true) := Lib.hid (decide_eq_true (by omega))
          clear HY h1 h2
          go_wp2_with go_big_skip
          go_roundw
          case rel => exact ⟨k + 1, by omega, by go_num, by rw [HX.out, HS.out, HZ.out]; rfl, HO.out⟩
          case measure => simp [msrT, intOf]; omega
    · have z1 : decide ((k : Int) < 6) = false := decide_eq_false (by omega)
      obtain rfl : k = 6 := by omega
      obtain rfl : r = true := by rw [HB2.out, hs]
      have HO := Lib.hid ho
      clear ho hs HB2
      go_wp2_with fail
      go_ret
      exact ⟨rfl, HO.out.k⟩
end Go.Proofs.YtankjlpanmmogaaGreat
