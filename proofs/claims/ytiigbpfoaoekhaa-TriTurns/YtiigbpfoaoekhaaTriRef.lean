/-
  The document's own May and Setup (layer 17).
-/
import Derived.Test.YtiigbpfoaoekhaaTriRefBox
import Derived.Test.YtiigbpfoaoekhaaTriSet
import Derived.BigGuard
namespace Go.Proofs.Ytiigbpfoaoekhaa
open Go.RowKit

set_option linter.unusedSimpArgs false in
set_option maxRecDepth 100000 in
set_option maxHeartbeats 8000000 in
theorem rmay17_any (s : Sn) (w : World) :
    Calls Try.prog 22 #[.agg #[.int .i64 (s 0), .int .i64 (s 1), .int .i64 (s 2), .int .i64 (s 3), .int .i64 (s 4), .int .i64 (s 5), .int .i64 (s 6), .int .i64 (s 7), .int .i64 (s 8)]] w fun e w' => e = .returned (.bool (Tr.mayB s)) ∧ Kp w.heap.size w w' := by
  have M1 := fun W => rmay_any (s 0) (s 1) W
  have HB : Hid (Tr.mayB s = (Eg.may (s 0) (s 1) && decide (0 ≤ s 2 ∧ s 2 ≤ 65535) && Tr.small s 6)) := Lib.hid rfl
  generalize Tr.mayB s = r at *
  have HO := Lib.hid ((Ow.refl w).newAt (w.heap.size) rfl (.int .i64 (s 0)) [.int .i64 (s 1), .int .i64 (s 2), .int .i64 (s 3), .int .i64 (s 4), .int .i64 (s 5), .int .i64 (s 6), .int .i64 (s 7), .int .i64 (s 8)] 26)
  cases hm : Eg.may (s 0) (s 1)
  · rw [hm] at M1
    obtain rfl : r = false := by rw [HB.out, hm]; rfl
    clear HB hm
    go_enter Try.func22, Try.ntmps22
    go_wp2_with (first
    | go_big_skip
    | ((with_reducible show wpList _ _ _ ({ dst := _, op := Op.load 23 (Operand.tmp 4), type := _, pos := _, after := _, guard := _ } :: _) _ _); refine wpList_ldo ty_point rfl _ rfl _ _ rfl [.int .i64 (s 0), .int .i64 (s 1), .int .i64 (s 2), .int .i64 (s 3), .int .i64 (s 4), .int .i64 (s 5), .int .i64 (s 6), .int .i64 (s 7), .int .i64 (s 8)] rfl (Rc.some (HO.out.at 0 rfl)) ?_; intro us hus; dsimp only [List.drop, List.take] at hus; subst hus)
    | (go_at_call 39; (with_reducible refine (M1 _).mono ?_); rintro e wz ⟨rfl, hk1⟩; have l2 := HO.out.call hk1; clear HO hk1; have HO := Lib.hid l2; clear l2; have cc := (HO.out.at 0 rfl).cell 2 rfl))
    go_ret
    exact ⟨rfl, HO.out.k⟩
  rw [hm] at M1
  by_cases h1 : s 2 < 0
  · have z1 : decide (s 2 < 0) = true := decide_eq_true h1
    obtain rfl : r = false := by rw [HB.out, hm, decide_eq_false (show ¬ (0 ≤ s 2 ∧ s 2 ≤ 65535) by omega)]; rfl
    clear HB hm h1
    go_enter Try.func22, Try.ntmps22
    go_wp2_with (first
    | go_big_skip
    | ((with_reducible show wpList _ _ _ ({ dst := _, op := Op.load 23 (Operand.tmp 4), type := _, pos := _, after := _, guard := _ } :: _) _ _); refine wpList_ldo ty_point rfl _ rfl _ _ rfl [.int .i64 (s 0), .int .i64 (s 1), .int .i64 (s 2), .int .i64 (s 3), .int .i64 (s 4), .int .i64 (s 5), .int .i64 (s 6), .int .i64 (s 7), .int .i64 (s 8)] rfl (Rc.some (HO.out.at 0 rfl)) ?_; intro us hus; dsimp only [List.drop, List.take] at hus; subst hus)
    | (go_at_call 39; (with_reducible refine (M1 _).mono ?_); rintro e wz ⟨rfl, hk1⟩; have l2 := HO.out.call hk1; clear HO hk1; have HO := Lib.hid l2; clear l2; have cc := (HO.out.at 0 rfl).cell 2 rfl))
    go_ret
    exact ⟨rfl, HO.out.k⟩
  have z1 : decide (s 2 < 0) = false := decide_eq_false h1
  by_cases h2 : 65535 < s 2
  · have z2 : decide (65535 < s 2) = true := decide_eq_true h2
    obtain rfl : r = false := by rw [HB.out, hm, decide_eq_false (show ¬ (0 ≤ s 2 ∧ s 2 ≤ 65535) by omega)]; rfl
    clear HB hm h1 h2
    go_enter Try.func22, Try.ntmps22
    go_wp2_with (first
    | go_big_skip
    | ((with_reducible show wpList _ _ _ ({ dst := _, op := Op.load 23 (Operand.tmp 4), type := _, pos := _, after := _, guard := _ } :: _) _ _); refine wpList_ldo ty_point rfl _ rfl _ _ rfl [.int .i64 (s 0), .int .i64 (s 1), .int .i64 (s 2), .int .i64 (s 3), .int .i64 (s 4), .int .i64 (s 5), .int .i64 (s 6), .int .i64 (s 7), .int .i64 (s 8)] rfl (Rc.some (HO.out.at 0 rfl)) ?_; intro us hus; dsimp only [List.drop, List.take] at hus; subst hus)
    | (go_at_call 39; (with_reducible refine (M1 _).mono ?_); rintro e wz ⟨rfl, hk1⟩; have l2 := HO.out.call hk1; clear HO hk1; have HO := Lib.hid l2; clear l2; have cc := (HO.out.at 0 rfl).cell 2 rfl))
    go_ret
    exact ⟨rfl, HO.out.k⟩
  have z2 : decide (65535 < s 2) = false := decide_eq_false h2
  have HB2 : Hid (r = Tr.small s 6) := Lib.hid (by rw [HB.out, hm, decide_eq_true (show 0 ≤ s 2 ∧ s 2 ≤ 65535 by omega)]; rfl)
  clear HB hm h1 h2
  go_enter Try.func22, Try.ntmps22
  go_wp2_with (first
    | go_big_skip
    | ((with_reducible show wpList _ _ _ ({ dst := _, op := Op.load 23 (Operand.tmp 4), type := _, pos := _, after := _, guard := _ } :: _) _ _); refine wpList_ldo ty_point rfl _ rfl _ _ rfl [.int .i64 (s 0), .int .i64 (s 1), .int .i64 (s 2), .int .i64 (s 3), .int .i64 (s 4), .int .i64 (s 5), .int .i64 (s 6), .int .i64 (s 7), .int .i64 (s 8)] rfl (Rc.some (HO.out.at 0 rfl)) ?_; intro us hus; dsimp only [List.drop, List.take] at hus; subst hus)
    | (go_at_call 39; (with_reducible refine (M1 _).mono ?_); rintro e wz ⟨rfl, hk1⟩; have l2 := HO.out.call hk1; clear HO hk1; have HO := Lib.hid l2; clear l2; have cc := (HO.out.at 0 rfl).cell 2 rfl))
  clear M1 z1 z2
  try clear cc
  go_loopw [3] (fun i wr => ∃ k : Nat, k ≤ 6 ∧ i = .int .i64 k ∧ Tr.small s k = true ∧ Ow w wr [(w.heap.size, [.int .i64 (s 0), .int .i64 (s 1), .int .i64 (s 2), .int .i64 (s 3), .int .i64 (s 4), .int .i64 (s 5), .int .i64 (s 6), .int .i64 (s 7), .int .i64 (s 8)])]) (fun i _ => msrT 6 i)
  case atStart => exact ⟨0, by omega, rfl, rfl, HO.out⟩
  case round =>
    clear HO
    obtain ⟨k, hk, rfl, hs, ho⟩ := hrel
    by_cases hlt : k < 6
    · have z1 : decide ((k : Int) < 6) = true := decide_eq_true (by omega)
      have z2 : (k : Int) < 6 := by omega
      have ck := arr9_of (ho.at 0 rfl) k hlt
      have HO := Lib.hid ho
      have HS := Lib.hid hs
      have HX := Lib.hid (Tr.small_next s k)
      have HY : Hid (decide (-1048576 ≤ s (3 + k) ∧ s (3 + k) ≤ 1048576) = false → Tr.small s 6 = false) := Lib.hid fun h => Tr.small_no hlt h
      clear ho hs
      generalize s (3 + k) = y at *
      by_cases h1 : y < -1048576
      · have q1 : decide (y < -1048576) = true := decide_eq_true h1
        obtain rfl : r = false := by rw [HB2.out]; exact HY.out (decide_eq_false (by omega))
        clear HB2 HY HX h1
        go_wp2_with go_big_skip
        go_ret
        exact ⟨rfl, HO.out.k⟩
      · have q1 : decide (y < -1048576) = false := decide_eq_false h1
        by_cases h2 : 1048576 < y
        · have q2 : decide (1048576 < y) = true := decide_eq_true h2
          obtain rfl : r = false := by rw [HB2.out]; exact HY.out (decide_eq_false (by omega))
          clear HB2 HY HX h1 h2
          go_wp2_with go_big_skip
          go_ret
          exact ⟨rfl, HO.out.k⟩
        · have q2 : decide (1048576 < y) = false := decide_eq_false h2
          have HZ : Hid (decide (-1048576 ≤ y ∧ y ≤ 1048576) = true) := Lib.hid (decide_eq_true (by omega))
          clear HY h1 h2
          go_wp2_with go_big_skip
          go_roundw
          case rel => exact ⟨k + 1, by omega, by go_num, by rw [HX.out, HS.out, HZ.out]; rfl, HO.out⟩
          case measure => simp [msrT, intOf]; omega
    · have z1 : decide ((k : Int) < 6) = false := decide_eq_false (by omega)
      obtain rfl : k = 6 := by omega
      obtain rfl : r = true := by rw [HB2.out, hs]
      have HO := Lib.hid ho
      clear ho hs HB2
      go_wp2_with fail
      go_ret
      exact ⟨rfl, HO.out.k⟩
set_option linter.unusedSimpArgs false in
set_option maxRecDepth 100000 in
set_option maxHeartbeats 8000000 in
theorem rsetup_drop (a b c : Sn) (cull : Int) (w : World) (ha : Tr.May a) (hb : Tr.May b) (hc : Tr.May c) (hd : Tr.drop (Tr.area a b c) cull = true) :
    Calls Try.prog 9 #[.agg #[.int .i64 (a 0), .int .i64 (a 1), .int .i64 (a 2), .int .i64 (a 3), .int .i64 (a 4), .int .i64 (a 5), .int .i64 (a 6), .int .i64 (a 7), .int .i64 (a 8), .int .i64 (b 0), .int .i64 (b 1), .int .i64 (b 2), .int .i64 (b 3), .int .i64 (b 4), .int .i64 (b 5), .int .i64 (b 6), .int .i64 (b 7), .int .i64 (b 8), .int .i64 (c 0), .int .i64 (c 1), .int .i64 (c 2), .int .i64 (c 3), .int .i64 (c 4), .int .i64 (c 5), .int .i64 (c 6), .int .i64 (c 7), .int .i64 (c 8)], .int .i64 cull] w fun e w' => e = .returned (.tuple #[.agg #[.int .i64 0, .int .i64 0, .int .i64 0, .int .i64 0, .int .i64 0, .int .i64 0, .int .i64 0, .int .i64 0, .int .i64 0, .int .i64 0, .int .i64 0, .int .i64 0, .int .i64 0, .int .i64 0, .int .i64 0, .int .i64 0, .int .i64 0, .int .i64 0, .int .i64 0, .int .i64 0, .int .i64 0, .int .i64 0, .int .i64 0, .int .i64 0, .int .i64 0, .int .i64 0, .int .i64 0, .int .i64 0, .int .i64 0, .int .i64 0, .int .i64 0, .int .i64 0], .bool false]) ∧ Kp w.heap.size w w' := by
  have HO := Lib.hid (((Ow.refl w).newAt (w.heap.size) rfl (.int .i64 (a 0)) [.int .i64 (a 1), .int .i64 (a 2), .int .i64 (a 3), .int .i64 (a 4), .int .i64 (a 5), .int .i64 (a 6), .int .i64 (a 7), .int .i64 (a 8), .int .i64 (b 0), .int .i64 (b 1), .int .i64 (b 2), .int .i64 (b 3), .int .i64 (b 4), .int .i64 (b 5), .int .i64 (b 6), .int .i64 (b 7), .int .i64 (b 8), .int .i64 (c 0), .int .i64 (c 1), .int .i64 (c 2), .int .i64 (c 3), .int .i64 (c 4), .int .i64 (c 5), .int .i64 (c 6), .int .i64 (c 7), .int .i64 (c 8)] 27).newAt (w.heap.size + 1) (by simp) (.int .i64 0) [.int .i64 0, .int .i64 0, .int .i64 0, .int .i64 0, .int .i64 0, .int .i64 0, .int .i64 0, .int .i64 0, .int .i64 0, .int .i64 0, .int .i64 0, .int .i64 0, .int .i64 0, .int .i64 0, .int .i64 0, .int .i64 0, .int .i64 0, .int .i64 0, .int .i64 0, .int .i64 0, .int .i64 0, .int .i64 0, .int .i64 0, .int .i64 0, .int .i64 0, .int .i64 0, .int .i64 0, .int .i64 0, .int .i64 0, .int .i64 0, .int .i64 0] 31)
  have E1 := fun W => rside_any (a 0) (a 1) (b 0) (b 1) (c 0) (c 1) W ha.1 hb.1 hc.1
  obtain ⟨n1, n2⟩ := Tr.area_bd ha hb hc
  rw [show Eg.side (a 0) (a 1) (b 0) (b 1) (c 0) (c 1) = Tr.area a b c from rfl] at E1
  generalize Tr.area a b c = n at *
  clear ha hb hc
  have h : n = 0 ∨ (n < 0 ∧ cull = 1) ∨ (0 < n ∧ cull = 2) := by simpa [Tr.drop, or_assoc] using hd
  clear hd
  rcases h with rfl | ⟨h1, rfl⟩ | ⟨h1, rfl⟩
  · go_enter Try.func9, Try.ntmps9
    go_wp2_with (first
    | go_big_skip
    | ((with_reducible show wpList _ _ _ ({ dst := _, op := Op.load 23 (Operand.tmp 8), type := _, pos := _, after := _, guard := _ } :: _) _ _); refine wpList_ldo ty_point rfl _ rfl _ _ rfl [.int .i64 (a 0), .int .i64 (a 1), .int .i64 (a 2), .int .i64 (a 3), .int .i64 (a 4), .int .i64 (a 5), .int .i64 (a 6), .int .i64 (a 7), .int .i64 (a 8), .int .i64 (b 0), .int .i64 (b 1), .int .i64 (b 2), .int .i64 (b 3), .int .i64 (b 4), .int .i64 (b 5), .int .i64 (b 6), .int .i64 (b 7), .int .i64 (b 8), .int .i64 (c 0), .int .i64 (c 1), .int .i64 (c 2), .int .i64 (c 3), .int .i64 (c 4), .int .i64 (c 5), .int .i64 (c 6), .int .i64 (c 7), .int .i64 (c 8)] rfl (Rc.some (HO.out.at 1 rfl)) ?_; intro us hus; dsimp only [List.drop, List.take] at hus; subst hus)
    | ((with_reducible show wpList _ _ _ ({ dst := _, op := Op.load 23 (Operand.tmp 11), type := _, pos := _, after := _, guard := _ } :: _) _ _); refine wpList_ldo ty_point rfl _ rfl _ _ rfl [.int .i64 (a 0), .int .i64 (a 1), .int .i64 (a 2), .int .i64 (a 3), .int .i64 (a 4), .int .i64 (a 5), .int .i64 (a 6), .int .i64 (a 7), .int .i64 (a 8), .int .i64 (b 0), .int .i64 (b 1), .int .i64 (b 2), .int .i64 (b 3), .int .i64 (b 4), .int .i64 (b 5), .int .i64 (b 6), .int .i64 (b 7), .int .i64 (b 8), .int .i64 (c 0), .int .i64 (c 1), .int .i64 (c 2), .int .i64 (c 3), .int .i64 (c 4), .int .i64 (c 5), .int .i64 (c 6), .int .i64 (c 7), .int .i64 (c 8)] rfl (Rc.some (HO.out.at 1 rfl)) ?_; intro us hus; dsimp only [List.drop, List.take] at hus; subst hus)
    | ((with_reducible show wpList _ _ _ ({ dst := _, op := Op.load 23 (Operand.tmp 14), type := _, pos := _, after := _, guard := _ } :: _) _ _); refine wpList_ldo ty_point rfl _ rfl _ _ rfl [.int .i64 (a 0), .int .i64 (a 1), .int .i64 (a 2), .int .i64 (a 3), .int .i64 (a 4), .int .i64 (a 5), .int .i64 (a 6), .int .i64 (a 7), .int .i64 (a 8), .int .i64 (b 0), .int .i64 (b 1), .int .i64 (b 2), .int .i64 (b 3), .int .i64 (b 4), .int .i64 (b 5), .int .i64 (b 6), .int .i64 (b 7), .int .i64 (b 8), .int .i64 (c 0), .int .i64 (c 1), .int .i64 (c 2), .int .i64 (c 3), .int .i64 (c 4), .int .i64 (c 5), .int .i64 (c 6), .int .i64 (c 7), .int .i64 (c 8)] rfl (Rc.some (HO.out.at 1 rfl)) ?_; intro us hus; dsimp only [List.drop, List.take] at hus; subst hus)
    | (go_at_call 10; (with_reducible refine (E1 _).mono ?_); rintro e wz ⟨rfl, hk1⟩; have l2 := HO.out.call hk1; clear HO hk1; have HO := Lib.hid l2; clear l2)
    | ((with_reducible show wpList _ _ _ ({ dst := _, op := Op.store 31 (Operand.tmp 4) _, type := _, pos := _, after := _, guard := _ } :: _) _ _); refine wpList_sto ty_tri HO.out 0 [.int .i64 0, .int .i64 0, .int .i64 0, .int .i64 0, .int .i64 0, .int .i64 0, .int .i64 0, .int .i64 0, .int .i64 0, .int .i64 0, .int .i64 0, .int .i64 0, .int .i64 0, .int .i64 0, .int .i64 0, .int .i64 0, .int .i64 0, .int .i64 0, .int .i64 0, .int .i64 0, .int .i64 0, .int .i64 0, .int .i64 0, .int .i64 0, .int .i64 0, .int .i64 0, .int .i64 0, .int .i64 0, .int .i64 0, .int .i64 0, .int .i64 0, .int .i64 0] rfl _ _ rfl _ rfl rfl _ rfl rfl rfl rfl ?_; intro w2 l2; clear HO; have HO := Lib.hid l2; clear l2))
    refine bodyPost_ret (results_c2 ty_tri rfl rfl rfl rfl (HO.out.at 0 rfl)) rfl ⟨rfl, HO.out.k⟩
  · have z0 : (n == 0) = false := by simp; omega
    have z1 : decide (n < 0) = true := decide_eq_true h1
    clear h1
    go_enter Try.func9, Try.ntmps9
    go_wp2_with (first
    | go_big_skip
    | ((with_reducible show wpList _ _ _ ({ dst := _, op := Op.load 23 (Operand.tmp 8), type := _, pos := _, after := _, guard := _ } :: _) _ _); refine wpList_ldo ty_point rfl _ rfl _ _ rfl [.int .i64 (a 0), .int .i64 (a 1), .int .i64 (a 2), .int .i64 (a 3), .int .i64 (a 4), .int .i64 (a 5), .int .i64 (a 6), .int .i64 (a 7), .int .i64 (a 8), .int .i64 (b 0), .int .i64 (b 1), .int .i64 (b 2), .int .i64 (b 3), .int .i64 (b 4), .int .i64 (b 5), .int .i64 (b 6), .int .i64 (b 7), .int .i64 (b 8), .int .i64 (c 0), .int .i64 (c 1), .int .i64 (c 2), .int .i64 (c 3), .int .i64 (c 4), .int .i64 (c 5), .int .i64 (c 6), .int .i64 (c 7), .int .i64 (c 8)] rfl (Rc.some (HO.out.at 1 rfl)) ?_; intro us hus; dsimp only [List.drop, List.take] at hus; subst hus)
    | ((with_reducible show wpList _ _ _ ({ dst := _, op := Op.load 23 (Operand.tmp 11), type := _, pos := _, after := _, guard := _ } :: _) _ _); refine wpList_ldo ty_point rfl _ rfl _ _ rfl [.int .i64 (a 0), .int .i64 (a 1), .int .i64 (a 2), .int .i64 (a 3), .int .i64 (a 4), .int .i64 (a 5), .int .i64 (a 6), .int .i64 (a 7), .int .i64 (a 8), .int .i64 (b 0), .int .i64 (b 1), .int .i64 (b 2), .int .i64 (b 3), .int .i64 (b 4), .int .i64 (b 5), .int .i64 (b 6), .int .i64 (b 7), .int .i64 (b 8), .int .i64 (c 0), .int .i64 (c 1), .int .i64 (c 2), .int .i64 (c 3), .int .i64 (c 4), .int .i64 (c 5), .int .i64 (c 6), .int .i64 (c 7), .int .i64 (c 8)] rfl (Rc.some (HO.out.at 1 rfl)) ?_; intro us hus; dsimp only [List.drop, List.take] at hus; subst hus)
    | ((with_reducible show wpList _ _ _ ({ dst := _, op := Op.load 23 (Operand.tmp 14), type := _, pos := _, after := _, guard := _ } :: _) _ _); refine wpList_ldo ty_point rfl _ rfl _ _ rfl [.int .i64 (a 0), .int .i64 (a 1), .int .i64 (a 2), .int .i64 (a 3), .int .i64 (a 4), .int .i64 (a 5), .int .i64 (a 6), .int .i64 (a 7), .int .i64 (a 8), .int .i64 (b 0), .int .i64 (b 1), .int .i64 (b 2), .int .i64 (b 3), .int .i64 (b 4), .int .i64 (b 5), .int .i64 (b 6), .int .i64 (b 7), .int .i64 (b 8), .int .i64 (c 0), .int .i64 (c 1), .int .i64 (c 2), .int .i64 (c 3), .int .i64 (c 4), .int .i64 (c 5), .int .i64 (c 6), .int .i64 (c 7), .int .i64 (c 8)] rfl (Rc.some (HO.out.at 1 rfl)) ?_; intro us hus; dsimp only [List.drop, List.take] at hus; subst hus)
    | (go_at_call 10; (with_reducible refine (E1 _).mono ?_); rintro e wz ⟨rfl, hk1⟩; have l2 := HO.out.call hk1; clear HO hk1; have HO := Lib.hid l2; clear l2)
    | ((with_reducible show wpList _ _ _ ({ dst := _, op := Op.store 31 (Operand.tmp 4) _, type := _, pos := _, after := _, guard := _ } :: _) _ _); refine wpList_sto ty_tri HO.out 0 [.int .i64 0, .int .i64 0, .int .i64 0, .int .i64 0, .int .i64 0, .int .i64 0, .int .i64 0, .int .i64 0, .int .i64 0, .int .i64 0, .int .i64 0, .int .i64 0, .int .i64 0, .int .i64 0, .int .i64 0, .int .i64 0, .int .i64 0, .int .i64 0, .int .i64 0, .int .i64 0, .int .i64 0, .int .i64 0, .int .i64 0, .int .i64 0, .int .i64 0, .int .i64 0, .int .i64 0, .int .i64 0, .int .i64 0, .int .i64 0, .int .i64 0, .int .i64 0] rfl _ _ rfl _ rfl rfl _ rfl rfl rfl rfl ?_; intro w2 l2; clear HO; have HO := Lib.hid l2; clear l2))
    refine bodyPost_ret (results_c2 ty_tri rfl rfl rfl rfl (HO.out.at 0 rfl)) rfl ⟨rfl, HO.out.k⟩
  · have z0 : (n == 0) = false := by simp; omega
    have z1 : decide (n < 0) = false := decide_eq_false (by omega)
    have z2 : decide (0 < n) = true := decide_eq_true h1
    clear h1
    go_enter Try.func9, Try.ntmps9
    go_wp2_with (first
    | go_big_skip
    | ((with_reducible show wpList _ _ _ ({ dst := _, op := Op.load 23 (Operand.tmp 8), type := _, pos := _, after := _, guard := _ } :: _) _ _); refine wpList_ldo ty_point rfl _ rfl _ _ rfl [.int .i64 (a 0), .int .i64 (a 1), .int .i64 (a 2), .int .i64 (a 3), .int .i64 (a 4), .int .i64 (a 5), .int .i64 (a 6), .int .i64 (a 7), .int .i64 (a 8), .int .i64 (b 0), .int .i64 (b 1), .int .i64 (b 2), .int .i64 (b 3), .int .i64 (b 4), .int .i64 (b 5), .int .i64 (b 6), .int .i64 (b 7), .int .i64 (b 8), .int .i64 (c 0), .int .i64 (c 1), .int .i64 (c 2), .int .i64 (c 3), .int .i64 (c 4), .int .i64 (c 5), .int .i64 (c 6), .int .i64 (c 7), .int .i64 (c 8)] rfl (Rc.some (HO.out.at 1 rfl)) ?_; intro us hus; dsimp only [List.drop, List.take] at hus; subst hus)
    | ((with_reducible show wpList _ _ _ ({ dst := _, op := Op.load 23 (Operand.tmp 11), type := _, pos := _, after := _, guard := _ } :: _) _ _); refine wpList_ldo ty_point rfl _ rfl _ _ rfl [.int .i64 (a 0), .int .i64 (a 1), .int .i64 (a 2), .int .i64 (a 3), .int .i64 (a 4), .int .i64 (a 5), .int .i64 (a 6), .int .i64 (a 7), .int .i64 (a 8), .int .i64 (b 0), .int .i64 (b 1), .int .i64 (b 2), .int .i64 (b 3), .int .i64 (b 4), .int .i64 (b 5), .int .i64 (b 6), .int .i64 (b 7), .int .i64 (b 8), .int .i64 (c 0), .int .i64 (c 1), .int .i64 (c 2), .int .i64 (c 3), .int .i64 (c 4), .int .i64 (c 5), .int .i64 (c 6), .int .i64 (c 7), .int .i64 (c 8)] rfl (Rc.some (HO.out.at 1 rfl)) ?_; intro us hus; dsimp only [List.drop, List.take] at hus; subst hus)
    | ((with_reducible show wpList _ _ _ ({ dst := _, op := Op.load 23 (Operand.tmp 14), type := _, pos := _, after := _, guard := _ } :: _) _ _); refine wpList_ldo ty_point rfl _ rfl _ _ rfl [.int .i64 (a 0), .int .i64 (a 1), .int .i64 (a 2), .int .i64 (a 3), .int .i64 (a 4), .int .i64 (a 5), .int .i64 (a 6), .int .i64 (a 7), .int .i64 (a 8), .int .i64 (b 0), .int .i64 (b 1), .int .i64 (b 2), .int .i64 (b 3), .int .i64 (b 4), .int .i64 (b 5), .int .i64 (b 6), .int .i64 (b 7), .int .i64 (b 8), .int .i64 (c 0), .int .i64 (c 1), .int .i64 (c 2), .int .i64 (c 3), .int .i64 (c 4), .int .i64 (c 5), .int .i64 (c 6), .int .i64 (c 7), .int .i64 (c 8)] rfl (Rc.some (HO.out.at 1 rfl)) ?_; intro us hus; dsimp only [List.drop, List.take] at hus; subst hus)
    | (go_at_call 10; (with_reducible refine (E1 _).mono ?_); rintro e wz ⟨rfl, hk1⟩; have l2 := HO.out.call hk1; clear HO hk1; have HO := Lib.hid l2; clear l2)
    | ((with_reducible show wpList _ _ _ ({ dst := _, op := Op.store 31 (Operand.tmp 4) _, type := _, pos := _, after := _, guard := _ } :: _) _ _); refine wpList_sto ty_tri HO.out 0 [.int .i64 0, .int .i64 0, .int .i64 0, .int .i64 0, .int .i64 0, .int .i64 0, .int .i64 0, .int .i64 0, .int .i64 0, .int .i64 0, .int .i64 0, .int .i64 0, .int .i64 0, .int .i64 0, .int .i64 0, .int .i64 0, .int .i64 0, .int .i64 0, .int .i64 0, .int .i64 0, .int .i64 0, .int .i64 0, .int .i64 0, .int .i64 0, .int .i64 0, .int .i64 0, .int .i64 0, .int .i64 0, .int .i64 0, .int .i64 0, .int .i64 0, .int .i64 0] rfl _ _ rfl _ rfl rfl _ rfl rfl rfl rfl ?_; intro w2 l2; clear HO; have HO := Lib.hid l2; clear l2))
    refine bodyPost_ret (results_c2 ty_tri rfl rfl rfl rfl (HO.out.at 0 rfl)) rfl ⟨rfl, HO.out.k⟩
set_option linter.unusedSimpArgs false in
set_option maxRecDepth 100000 in
set_option maxHeartbeats 8000000 in
theorem rsetup_pos (a b c : Sn) (cull : Int) (w : World) (ha : Tr.May a) (hb : Tr.May b) (hc : Tr.May c) (hd : Tr.drop (Tr.area a b c) cull = false) (hp : 0 < Tr.area a b c) :
    Calls Try.prog 9 #[.agg #[.int .i64 (a 0), .int .i64 (a 1), .int .i64 (a 2), .int .i64 (a 3), .int .i64 (a 4), .int .i64 (a 5), .int .i64 (a 6), .int .i64 (a 7), .int .i64 (a 8), .int .i64 (b 0), .int .i64 (b 1), .int .i64 (b 2), .int .i64 (b 3), .int .i64 (b 4), .int .i64 (b 5), .int .i64 (b 6), .int .i64 (b 7), .int .i64 (b 8), .int .i64 (c 0), .int .i64 (c 1), .int .i64 (c 2), .int .i64 (c 3), .int .i64 (c 4), .int .i64 (c 5), .int .i64 (c 6), .int .i64 (c 7), .int .i64 (c 8)], .int .i64 cull] w fun e w' => e = .returned (.tuple #[.agg #[.int .i64 (a 0), .int .i64 (a 1), .int .i64 (a 2), .int .i64 (a 3), .int .i64 (a 4), .int .i64 (a 5), .int .i64 (a 6), .int .i64 (a 7), .int .i64 (a 8), .int .i64 (b 0), .int .i64 (b 1), .int .i64 (b 2), .int .i64 (b 3), .int .i64 (b 4), .int .i64 (b 5), .int .i64 (b 6), .int .i64 (b 7), .int .i64 (b 8), .int .i64 (c 0), .int .i64 (c 1), .int .i64 (c 2), .int .i64 (c 3), .int .i64 (c 4), .int .i64 (c 5), .int .i64 (c 6), .int .i64 (c 7), .int .i64 (c 8), .int .i64 (Tr.area a b c), .int .i64 ((Tr.box a b c) 0), .int .i64 ((Tr.box a b c) 1), .int .i64 ((Tr.box a b c) 2), .int .i64 ((Tr.box a b c) 3)], .bool true]) ∧ Kp w.heap.size w w' := by
  have HO := Lib.hid (((Ow.refl w).newAt (w.heap.size) rfl (.int .i64 (a 0)) [.int .i64 (a 1), .int .i64 (a 2), .int .i64 (a 3), .int .i64 (a 4), .int .i64 (a 5), .int .i64 (a 6), .int .i64 (a 7), .int .i64 (a 8), .int .i64 (b 0), .int .i64 (b 1), .int .i64 (b 2), .int .i64 (b 3), .int .i64 (b 4), .int .i64 (b 5), .int .i64 (b 6), .int .i64 (b 7), .int .i64 (b 8), .int .i64 (c 0), .int .i64 (c 1), .int .i64 (c 2), .int .i64 (c 3), .int .i64 (c 4), .int .i64 (c 5), .int .i64 (c 6), .int .i64 (c 7), .int .i64 (c 8)] 27).newAt (w.heap.size + 1) (by simp) (.int .i64 0) [.int .i64 0, .int .i64 0, .int .i64 0, .int .i64 0, .int .i64 0, .int .i64 0, .int .i64 0, .int .i64 0, .int .i64 0, .int .i64 0, .int .i64 0, .int .i64 0, .int .i64 0, .int .i64 0, .int .i64 0, .int .i64 0, .int .i64 0, .int .i64 0, .int .i64 0, .int .i64 0, .int .i64 0, .int .i64 0, .int .i64 0, .int .i64 0, .int .i64 0, .int .i64 0, .int .i64 0, .int .i64 0, .int .i64 0, .int .i64 0, .int .i64 0] 31)
  have E1 := fun W => rside_any (a 0) (a 1) (b 0) (b 1) (c 0) (c 1) W ha.1 hb.1 hc.1
  obtain ⟨n1, n2⟩ := Tr.area_bd ha hb hc
  rw [show Eg.side (a 0) (a 1) (b 0) (b 1) (c 0) (c 1) = Tr.area a b c from rfl] at E1
  have BX := fun W => rbox_any a b c W ha.1 hb.1 hc.1
  generalize Tr.area a b c = n at *
  generalize Tr.box a b c = f at *
  clear ha hb hc
  have h : ¬ (n = 0 ∨ (n < 0 ∧ cull = 1) ∨ (0 < n ∧ cull = 2)) := by
    rw [← Bool.not_eq_true] at hd
    simpa [Tr.drop, or_assoc] using hd
  have z0 : (n == 0) = false := by simp; omega
  have z1 : decide (n < 0) = false := decide_eq_false (by omega)
  have z2 : decide (0 < n) = true := decide_eq_true hp
  have z3 : (cull == 2) = false := by simp; omega
  clear hd h
  go_enter Try.func9, Try.ntmps9
  go_upto_region 7 with (first
    | go_big_skip
    | ((with_reducible show wpList _ _ _ ({ dst := _, op := Op.load 23 (Operand.tmp 8), type := _, pos := _, after := _, guard := _ } :: _) _ _); refine wpList_ldo ty_point rfl _ rfl _ _ rfl [.int .i64 (a 0), .int .i64 (a 1), .int .i64 (a 2), .int .i64 (a 3), .int .i64 (a 4), .int .i64 (a 5), .int .i64 (a 6), .int .i64 (a 7), .int .i64 (a 8), .int .i64 (b 0), .int .i64 (b 1), .int .i64 (b 2), .int .i64 (b 3), .int .i64 (b 4), .int .i64 (b 5), .int .i64 (b 6), .int .i64 (b 7), .int .i64 (b 8), .int .i64 (c 0), .int .i64 (c 1), .int .i64 (c 2), .int .i64 (c 3), .int .i64 (c 4), .int .i64 (c 5), .int .i64 (c 6), .int .i64 (c 7), .int .i64 (c 8)] rfl (Rc.some (HO.out.at 1 rfl)) ?_; intro us hus; dsimp only [List.drop, List.take] at hus; subst hus)
    | ((with_reducible show wpList _ _ _ ({ dst := _, op := Op.load 23 (Operand.tmp 11), type := _, pos := _, after := _, guard := _ } :: _) _ _); refine wpList_ldo ty_point rfl _ rfl _ _ rfl [.int .i64 (a 0), .int .i64 (a 1), .int .i64 (a 2), .int .i64 (a 3), .int .i64 (a 4), .int .i64 (a 5), .int .i64 (a 6), .int .i64 (a 7), .int .i64 (a 8), .int .i64 (b 0), .int .i64 (b 1), .int .i64 (b 2), .int .i64 (b 3), .int .i64 (b 4), .int .i64 (b 5), .int .i64 (b 6), .int .i64 (b 7), .int .i64 (b 8), .int .i64 (c 0), .int .i64 (c 1), .int .i64 (c 2), .int .i64 (c 3), .int .i64 (c 4), .int .i64 (c 5), .int .i64 (c 6), .int .i64 (c 7), .int .i64 (c 8)] rfl (Rc.some (HO.out.at 1 rfl)) ?_; intro us hus; dsimp only [List.drop, List.take] at hus; subst hus)
    | ((with_reducible show wpList _ _ _ ({ dst := _, op := Op.load 23 (Operand.tmp 14), type := _, pos := _, after := _, guard := _ } :: _) _ _); refine wpList_ldo ty_point rfl _ rfl _ _ rfl [.int .i64 (a 0), .int .i64 (a 1), .int .i64 (a 2), .int .i64 (a 3), .int .i64 (a 4), .int .i64 (a 5), .int .i64 (a 6), .int .i64 (a 7), .int .i64 (a 8), .int .i64 (b 0), .int .i64 (b 1), .int .i64 (b 2), .int .i64 (b 3), .int .i64 (b 4), .int .i64 (b 5), .int .i64 (b 6), .int .i64 (b 7), .int .i64 (b 8), .int .i64 (c 0), .int .i64 (c 1), .int .i64 (c 2), .int .i64 (c 3), .int .i64 (c 4), .int .i64 (c 5), .int .i64 (c 6), .int .i64 (c 7), .int .i64 (c 8)] rfl (Rc.some (HO.out.at 1 rfl)) ?_; intro us hus; dsimp only [List.drop, List.take] at hus; subst hus)
    | (go_at_call 10; (with_reducible refine (E1 _).mono ?_); rintro e wz ⟨rfl, hk1⟩; have l2 := HO.out.call hk1; clear HO hk1; have HO := Lib.hid l2; clear l2))
  have H27 : Hid ((w.heap.size, [.int .i64 (a 0), .int .i64 (a 1), .int .i64 (a 2), .int .i64 (a 3), .int .i64 (a 4), .int .i64 (a 5), .int .i64 (a 6), .int .i64 (a 7), .int .i64 (a 8), .int .i64 (b 0), .int .i64 (b 1), .int .i64 (b 2), .int .i64 (b 3), .int .i64 (b 4), .int .i64 (b 5), .int .i64 (b 6), .int .i64 (b 7), .int .i64 (b 8), .int .i64 (c 0), .int .i64 (c 1), .int .i64 (c 2), .int .i64 (c 3), .int .i64 (c 4), .int .i64 (c 5), .int .i64 (c 6), .int .i64 (c 7), .int .i64 (c 8)]) ∈ ([(w.heap.size, [.int .i64 (a 0), .int .i64 (a 1), .int .i64 (a 2), .int .i64 (a 3), .int .i64 (a 4), .int .i64 (a 5), .int .i64 (a 6), .int .i64 (a 7), .int .i64 (a 8), .int .i64 (b 0), .int .i64 (b 1), .int .i64 (b 2), .int .i64 (b 3), .int .i64 (b 4), .int .i64 (b 5), .int .i64 (b 6), .int .i64 (b 7), .int .i64 (b 8), .int .i64 (c 0), .int .i64 (c 1), .int .i64 (c 2), .int .i64 (c 3), .int .i64 (c 4), .int .i64 (c 5), .int .i64 (c 6), .int .i64 (c 7), .int .i64 (c 8)])] : List (Nat × List Value))) := Lib.hid (by simp)
  refine Rg2.region (σ := List (Nat × List Value)) (I := Rg2.Io w [(w.heap.size, [.int .i64 (a 0), .int .i64 (a 1), .int .i64 (a 2), .int .i64 (a 3), .int .i64 (a 4), .int .i64 (a 5), .int .i64 (a 6), .int .i64 (a 7), .int .i64 (a 8), .int .i64 (b 0), .int .i64 (b 1), .int .i64 (b 2), .int .i64 (b 3), .int .i64 (b 4), .int .i64 (b 5), .int .i64 (b 6), .int .i64 (b 7), .int .i64 (b 8), .int .i64 (c 0), .int .i64 (c 1), .int .i64 (c 2), .int .i64 (c 3), .int .i64 (c 4), .int .i64 (c 5), .int .i64 (c 6), .int .i64 (c 7), .int .i64 (c 8)])]) (mk := fun b s => (b, [.int .i64 0, .int .i64 0, .int .i64 0, .int .i64 0, .int .i64 0, .int .i64 0, .int .i64 0, .int .i64 0, .int .i64 0, .int .i64 0, .int .i64 0, .int .i64 0, .int .i64 0, .int .i64 0, .int .i64 0, .int .i64 0, .int .i64 0, .int .i64 0, .int .i64 0, .int .i64 0, .int .i64 0, .int .i64 0, .int .i64 0, .int .i64 0, .int .i64 0, .int .i64 0, .int .i64 0, .int .i64 0, .int .i64 0, .int .i64 0, .int .i64 0, .int .i64 0]) :: s) (dem := fun i => i == 5) (m := 7) (g := 0) (T := fun listed s st => ∀ W, Rg2.Io w [(w.heap.size, [.int .i64 (a 0), .int .i64 (a 1), .int .i64 (a 2), .int .i64 (a 3), .int .i64 (a 4), .int .i64 (a 5), .int .i64 (a 6), .int .i64 (a 7), .int .i64 (a 8), .int .i64 (b 0), .int .i64 (b 1), .int .i64 (b 2), .int .i64 (b 3), .int .i64 (b 4), .int .i64 (b 5), .int .i64 (b 6), .int .i64 (b 7), .int .i64 (b 8), .int .i64 (c 0), .int .i64 (c 1), .int .i64 (c 2), .int .i64 (c 3), .int .i64 (c 4), .int .i64 (c 5), .int .i64 (c 6), .int .i64 (c 7), .int .i64 (c 8)])] s W → wpAny Try.prog .any _ _ 0 listed st W) [(w.heap.size + 1, [.int .i64 0, .int .i64 0, .int .i64 0, .int .i64 0, .int .i64 0, .int .i64 0, .int .i64 0, .int .i64 0, .int .i64 0, .int .i64 0, .int .i64 0, .int .i64 0, .int .i64 0, .int .i64 0, .int .i64 0, .int .i64 0, .int .i64 0, .int .i64 0, .int .i64 0, .int .i64 0, .int .i64 0, .int .i64 0, .int .i64 0, .int .i64 0, .int .i64 0, .int .i64 0, .int .i64 0, .int .i64 0, .int .i64 0, .int .i64 0, .int .i64 0, .int .i64 0])] (by kernel_rfl) (show Rg2.Io w [(w.heap.size, [.int .i64 (a 0), .int .i64 (a 1), .int .i64 (a 2), .int .i64 (a 3), .int .i64 (a 4), .int .i64 (a 5), .int .i64 (a 6), .int .i64 (a 7), .int .i64 (a 8), .int .i64 (b 0), .int .i64 (b 1), .int .i64 (b 2), .int .i64 (b 3), .int .i64 (b 4), .int .i64 (b 5), .int .i64 (b 6), .int .i64 (b 7), .int .i64 (b 8), .int .i64 (c 0), .int .i64 (c 1), .int .i64 (c 2), .int .i64 (c 3), .int .i64 (c 4), .int .i64 (c 5), .int .i64 (c 6), .int .i64 (c 7), .int .i64 (c 8)])] [(w.heap.size + 1, [.int .i64 0, .int .i64 0, .int .i64 0, .int .i64 0, .int .i64 0, .int .i64 0, .int .i64 0, .int .i64 0, .int .i64 0, .int .i64 0, .int .i64 0, .int .i64 0, .int .i64 0, .int .i64 0, .int .i64 0, .int .i64 0, .int .i64 0, .int .i64 0, .int .i64 0, .int .i64 0, .int .i64 0, .int .i64 0, .int .i64 0, .int .i64 0, .int .i64 0, .int .i64 0, .int .i64 0, .int .i64 0, .int .i64 0, .int .i64 0, .int .i64 0, .int .i64 0])] _ from HO.out.drew) rfl (fun _ _ _ _ h hI => h _ hI) ?_
  clear HO
  refine Rg2.take 0 (v := .agg #[.int .i64 (a 0), .int .i64 (a 1), .int .i64 (a 2), .int .i64 (a 3), .int .i64 (a 4), .int .i64 (a 5), .int .i64 (a 6), .int .i64 (a 7), .int .i64 (a 8), .int .i64 (b 0), .int .i64 (b 1), .int .i64 (b 2), .int .i64 (b 3), .int .i64 (b 4), .int .i64 (b 5), .int .i64 (b 6), .int .i64 (b 7), .int .i64 (b 8), .int .i64 (c 0), .int .i64 (c 1), .int .i64 (c 2), .int .i64 (c 3), .int .i64 (c 4), .int .i64 (c 5), .int .i64 (c 6), .int .i64 (c 7), .int .i64 (c 8)]) rfl rfl (by kernel_rfl) (by kernel_rfl) (by kernel_rfl) (by kernel_rfl) (by kernel_rfl) (.inl ⟨rfl, fun bs wq hI => ?_⟩) ?_
  · exact quiet_ldr ty_spots (.tmp 2) rfl rfl rfl (hI.rc H27.out)
  simp only [Act.put, List.getElem_toArray, List.getElem_cons_zero, List.getElem_cons_succ, List.setIfInBounds_toArray, List.set_cons_zero, List.set_cons_succ]
  refine Rg2.take 1 (v := .int .i64 n) rfl rfl (by kernel_rfl) (by kernel_rfl) (by kernel_rfl) (by kernel_rfl) (by kernel_rfl) (.inl ⟨rfl, fun bs wq hI => ?_⟩) ?_
  · go_simp
  simp only [Act.put, List.getElem_toArray, List.getElem_cons_zero, List.getElem_cons_succ, List.setIfInBounds_toArray, List.set_cons_zero, List.set_cons_succ]
  refine Rg2.take 2 (v := .agg #[.int .i64 (a 0), .int .i64 (a 1), .int .i64 (a 2), .int .i64 (a 3), .int .i64 (a 4), .int .i64 (a 5), .int .i64 (a 6), .int .i64 (a 7), .int .i64 (a 8), .int .i64 (b 0), .int .i64 (b 1), .int .i64 (b 2), .int .i64 (b 3), .int .i64 (b 4), .int .i64 (b 5), .int .i64 (b 6), .int .i64 (b 7), .int .i64 (b 8), .int .i64 (c 0), .int .i64 (c 1), .int .i64 (c 2), .int .i64 (c 3), .int .i64 (c 4), .int .i64 (c 5), .int .i64 (c 6), .int .i64 (c 7), .int .i64 (c 8)]) rfl rfl (by kernel_rfl) (by kernel_rfl) (by kernel_rfl) (by kernel_rfl) (by kernel_rfl) (.inl ⟨rfl, fun bs wq hI => ?_⟩) ?_
  · exact quiet_ldr ty_spots (.tmp 2) rfl rfl rfl (hI.rc H27.out)
  simp only [Act.put, List.getElem_toArray, List.getElem_cons_zero, List.getElem_cons_succ, List.setIfInBounds_toArray, List.set_cons_zero, List.set_cons_succ]
  refine Rg2.take 3 (v := .agg #[.int .i64 (f 0), .int .i64 (f 1), .int .i64 (f 2), .int .i64 (f 3)]) rfl rfl (by kernel_rfl) (by kernel_rfl) (by kernel_rfl) (by kernel_rfl) (by kernel_rfl) (.inl ⟨rfl, fun bs wq hI => ?_⟩) ?_
  · (go_simp; exact (BX _).mono fun e w2 h => ⟨h.1, hI.call h.2⟩)
  simp only [Act.put, List.getElem_toArray, List.getElem_cons_zero, List.getElem_cons_succ, List.setIfInBounds_toArray, List.set_cons_zero, List.set_cons_succ]
  refine Rg2.take 4 (v := .agg #[.int .i64 (a 0), .int .i64 (a 1), .int .i64 (a 2), .int .i64 (a 3), .int .i64 (a 4), .int .i64 (a 5), .int .i64 (a 6), .int .i64 (a 7), .int .i64 (a 8), .int .i64 (b 0), .int .i64 (b 1), .int .i64 (b 2), .int .i64 (b 3), .int .i64 (b 4), .int .i64 (b 5), .int .i64 (b 6), .int .i64 (b 7), .int .i64 (b 8), .int .i64 (c 0), .int .i64 (c 1), .int .i64 (c 2), .int .i64 (c 3), .int .i64 (c 4), .int .i64 (c 5), .int .i64 (c 6), .int .i64 (c 7), .int .i64 (c 8), .int .i64 n, .int .i64 (f 0), .int .i64 (f 1), .int .i64 (f 2), .int .i64 (f 3)]) rfl rfl (by kernel_rfl) (by kernel_rfl) (by kernel_rfl) (by kernel_rfl) (by kernel_rfl) (.inl ⟨rfl, fun bs wq hI => ?_⟩) ?_
  · go_simp
  simp only [Act.put, List.getElem_toArray, List.getElem_cons_zero, List.getElem_cons_succ, List.setIfInBounds_toArray, List.set_cons_zero, List.set_cons_succ]
  refine Rg2.put1 5 (by kernel_rfl) rfl rfl (Rg2.puts_row ty_tri 0 [.int .i64 (a 0), .int .i64 (a 1), .int .i64 (a 2), .int .i64 (a 3), .int .i64 (a 4), .int .i64 (a 5), .int .i64 (a 6), .int .i64 (a 7), .int .i64 (a 8), .int .i64 (b 0), .int .i64 (b 1), .int .i64 (b 2), .int .i64 (b 3), .int .i64 (b 4), .int .i64 (b 5), .int .i64 (b 6), .int .i64 (b 7), .int .i64 (b 8), .int .i64 (c 0), .int .i64 (c 1), .int .i64 (c 2), .int .i64 (c 3), .int .i64 (c 4), .int .i64 (c 5), .int .i64 (c 6), .int .i64 (c 7), .int .i64 (c 8), .int .i64 n, .int .i64 (f 0), .int .i64 (f 1), .int .i64 (f 2), .int .i64 (f 3)] rfl _ _ rfl _ rfl rfl _ rfl rfl rfl rfl) ?_
  simp only [Act.put, List.getElem_toArray, List.getElem_cons_zero, List.getElem_cons_succ, List.setIfInBounds_toArray, List.set_cons_zero, List.set_cons_succ]
  refine Rg2.take 6 (v := .bool true) rfl rfl (by kernel_rfl) (by kernel_rfl) (by kernel_rfl) (by kernel_rfl) (by kernel_rfl) (.inl ⟨rfl, fun bs wq hI => ?_⟩) ?_
  · go_simp
  simp only [Act.put, List.getElem_toArray, List.getElem_cons_zero, List.getElem_cons_succ, List.setIfInBounds_toArray, List.set_cons_zero, List.set_cons_succ]
  refine Rg2.done (rs := []) (by kernel_rfl) (by decide) (fun W hI => ?_)
  have HO := Lib.hid (show Ow w W [(w.heap.size + 1, [.int .i64 (a 0), .int .i64 (a 1), .int .i64 (a 2), .int .i64 (a 3), .int .i64 (a 4), .int .i64 (a 5), .int .i64 (a 6), .int .i64 (a 7), .int .i64 (a 8), .int .i64 (b 0), .int .i64 (b 1), .int .i64 (b 2), .int .i64 (b 3), .int .i64 (b 4), .int .i64 (b 5), .int .i64 (b 6), .int .i64 (b 7), .int .i64 (b 8), .int .i64 (c 0), .int .i64 (c 1), .int .i64 (c 2), .int .i64 (c 3), .int .i64 (c 4), .int .i64 (c 5), .int .i64 (c 6), .int .i64 (c 7), .int .i64 (c 8), .int .i64 n, .int .i64 (f 0), .int .i64 (f 1), .int .i64 (f 2), .int .i64 (f 3)]), (w.heap.size, [.int .i64 (a 0), .int .i64 (a 1), .int .i64 (a 2), .int .i64 (a 3), .int .i64 (a 4), .int .i64 (a 5), .int .i64 (a 6), .int .i64 (a 7), .int .i64 (a 8), .int .i64 (b 0), .int .i64 (b 1), .int .i64 (b 2), .int .i64 (b 3), .int .i64 (b 4), .int .i64 (b 5), .int .i64 (b 6), .int .i64 (b 7), .int .i64 (b 8), .int .i64 (c 0), .int .i64 (c 1), .int .i64 (c 2), .int .i64 (c 3), .int .i64 (c 4), .int .i64 (c 5), .int .i64 (c 6), .int .i64 (c 7), .int .i64 (c 8)])] from hI)
  clear hI
  refine wpAny_done (by kernel_rfl) ?_ _
  go_wp2_with fail
  refine bodyPost_ret (results_c2 ty_tri rfl rfl rfl rfl (HO.out.at 0 rfl)) rfl ⟨rfl, HO.out.k⟩
set_option linter.unusedSimpArgs false in
set_option maxRecDepth 100000 in
set_option maxHeartbeats 8000000 in
theorem rsetup_neg (a b c : Sn) (cull : Int) (w : World) (ha : Tr.May a) (hb : Tr.May b) (hc : Tr.May c) (hd : Tr.drop (Tr.area a b c) cull = false) (hp : Tr.area a b c < 0) :
    Calls Try.prog 9 #[.agg #[.int .i64 (a 0), .int .i64 (a 1), .int .i64 (a 2), .int .i64 (a 3), .int .i64 (a 4), .int .i64 (a 5), .int .i64 (a 6), .int .i64 (a 7), .int .i64 (a 8), .int .i64 (b 0), .int .i64 (b 1), .int .i64 (b 2), .int .i64 (b 3), .int .i64 (b 4), .int .i64 (b 5), .int .i64 (b 6), .int .i64 (b 7), .int .i64 (b 8), .int .i64 (c 0), .int .i64 (c 1), .int .i64 (c 2), .int .i64 (c 3), .int .i64 (c 4), .int .i64 (c 5), .int .i64 (c 6), .int .i64 (c 7), .int .i64 (c 8)], .int .i64 cull] w fun e w' => e = .returned (.tuple #[.agg #[.int .i64 (a 0), .int .i64 (a 1), .int .i64 (a 2), .int .i64 (a 3), .int .i64 (a 4), .int .i64 (a 5), .int .i64 (a 6), .int .i64 (a 7), .int .i64 (a 8), .int .i64 (c 0), .int .i64 (c 1), .int .i64 (c 2), .int .i64 (c 3), .int .i64 (c 4), .int .i64 (c 5), .int .i64 (c 6), .int .i64 (c 7), .int .i64 (c 8), .int .i64 (b 0), .int .i64 (b 1), .int .i64 (b 2), .int .i64 (b 3), .int .i64 (b 4), .int .i64 (b 5), .int .i64 (b 6), .int .i64 (b 7), .int .i64 (b 8), .int .i64 (-(Tr.area a b c)), .int .i64 ((Tr.box a b c) 0), .int .i64 ((Tr.box a b c) 1), .int .i64 ((Tr.box a b c) 2), .int .i64 ((Tr.box a b c) 3)], .bool true]) ∧ Kp w.heap.size w w' := by
  have HO := Lib.hid (((Ow.refl w).newAt (w.heap.size) rfl (.int .i64 (a 0)) [.int .i64 (a 1), .int .i64 (a 2), .int .i64 (a 3), .int .i64 (a 4), .int .i64 (a 5), .int .i64 (a 6), .int .i64 (a 7), .int .i64 (a 8), .int .i64 (b 0), .int .i64 (b 1), .int .i64 (b 2), .int .i64 (b 3), .int .i64 (b 4), .int .i64 (b 5), .int .i64 (b 6), .int .i64 (b 7), .int .i64 (b 8), .int .i64 (c 0), .int .i64 (c 1), .int .i64 (c 2), .int .i64 (c 3), .int .i64 (c 4), .int .i64 (c 5), .int .i64 (c 6), .int .i64 (c 7), .int .i64 (c 8)] 27).newAt (w.heap.size + 1) (by simp) (.int .i64 0) [.int .i64 0, .int .i64 0, .int .i64 0, .int .i64 0, .int .i64 0, .int .i64 0, .int .i64 0, .int .i64 0, .int .i64 0, .int .i64 0, .int .i64 0, .int .i64 0, .int .i64 0, .int .i64 0, .int .i64 0, .int .i64 0, .int .i64 0, .int .i64 0, .int .i64 0, .int .i64 0, .int .i64 0, .int .i64 0, .int .i64 0, .int .i64 0, .int .i64 0, .int .i64 0, .int .i64 0, .int .i64 0, .int .i64 0, .int .i64 0, .int .i64 0] 31)
  have E1 := fun W => rside_any (a 0) (a 1) (b 0) (b 1) (c 0) (c 1) W ha.1 hb.1 hc.1
  obtain ⟨n1, n2⟩ := Tr.area_bd ha hb hc
  rw [show Eg.side (a 0) (a 1) (b 0) (b 1) (c 0) (c 1) = Tr.area a b c from rfl] at E1
  have BX := fun W => rbox_any a c b W ha.1 hc.1 hb.1
  rw [Tr.box_swap] at BX
  generalize Tr.area a b c = n at *
  generalize Tr.box a b c = f at *
  clear ha hb hc
  have h : ¬ (n = 0 ∨ (n < 0 ∧ cull = 1) ∨ (0 < n ∧ cull = 2)) := by
    rw [← Bool.not_eq_true] at hd
    simpa [Tr.drop, or_assoc] using hd
  have z0 : (n == 0) = false := by simp; omega
  have z1 : decide (n < 0) = true := decide_eq_true hp
  have z2 : decide (0 < n) = false := decide_eq_false (by omega)
  have z3 : (cull == 1) = false := by simp; omega
  clear hd h
  go_enter Try.func9, Try.ntmps9
  go_upto_region 7 with (first
    | go_big_skip
    | ((with_reducible show wpList _ _ _ ({ dst := _, op := Op.load 23 (Operand.tmp 8), type := _, pos := _, after := _, guard := _ } :: _) _ _); refine wpList_ldo ty_point rfl _ rfl _ _ rfl [.int .i64 (a 0), .int .i64 (a 1), .int .i64 (a 2), .int .i64 (a 3), .int .i64 (a 4), .int .i64 (a 5), .int .i64 (a 6), .int .i64 (a 7), .int .i64 (a 8), .int .i64 (b 0), .int .i64 (b 1), .int .i64 (b 2), .int .i64 (b 3), .int .i64 (b 4), .int .i64 (b 5), .int .i64 (b 6), .int .i64 (b 7), .int .i64 (b 8), .int .i64 (c 0), .int .i64 (c 1), .int .i64 (c 2), .int .i64 (c 3), .int .i64 (c 4), .int .i64 (c 5), .int .i64 (c 6), .int .i64 (c 7), .int .i64 (c 8)] rfl (Rc.some (HO.out.at 1 rfl)) ?_; intro us hus; dsimp only [List.drop, List.take] at hus; subst hus)
    | ((with_reducible show wpList _ _ _ ({ dst := _, op := Op.load 23 (Operand.tmp 11), type := _, pos := _, after := _, guard := _ } :: _) _ _); refine wpList_ldo ty_point rfl _ rfl _ _ rfl [.int .i64 (a 0), .int .i64 (a 1), .int .i64 (a 2), .int .i64 (a 3), .int .i64 (a 4), .int .i64 (a 5), .int .i64 (a 6), .int .i64 (a 7), .int .i64 (a 8), .int .i64 (b 0), .int .i64 (b 1), .int .i64 (b 2), .int .i64 (b 3), .int .i64 (b 4), .int .i64 (b 5), .int .i64 (b 6), .int .i64 (b 7), .int .i64 (b 8), .int .i64 (c 0), .int .i64 (c 1), .int .i64 (c 2), .int .i64 (c 3), .int .i64 (c 4), .int .i64 (c 5), .int .i64 (c 6), .int .i64 (c 7), .int .i64 (c 8)] rfl (Rc.some (HO.out.at 1 rfl)) ?_; intro us hus; dsimp only [List.drop, List.take] at hus; subst hus)
    | ((with_reducible show wpList _ _ _ ({ dst := _, op := Op.load 23 (Operand.tmp 14), type := _, pos := _, after := _, guard := _ } :: _) _ _); refine wpList_ldo ty_point rfl _ rfl _ _ rfl [.int .i64 (a 0), .int .i64 (a 1), .int .i64 (a 2), .int .i64 (a 3), .int .i64 (a 4), .int .i64 (a 5), .int .i64 (a 6), .int .i64 (a 7), .int .i64 (a 8), .int .i64 (b 0), .int .i64 (b 1), .int .i64 (b 2), .int .i64 (b 3), .int .i64 (b 4), .int .i64 (b 5), .int .i64 (b 6), .int .i64 (b 7), .int .i64 (b 8), .int .i64 (c 0), .int .i64 (c 1), .int .i64 (c 2), .int .i64 (c 3), .int .i64 (c 4), .int .i64 (c 5), .int .i64 (c 6), .int .i64 (c 7), .int .i64 (c 8)] rfl (Rc.some (HO.out.at 1 rfl)) ?_; intro us hus; dsimp only [List.drop, List.take] at hus; subst hus)
    | (go_at_call 10; (with_reducible refine (E1 _).mono ?_); rintro e wz ⟨rfl, hk1⟩; have l2 := HO.out.call hk1; clear HO hk1; have HO := Lib.hid l2; clear l2)
    | ((with_reducible show wpList _ _ _ ({ dst := _, op := Op.load 26 (Operand.tmp 38), type := _, pos := _, after := _, guard := _ } :: _) _ _); refine wpList_ldo ty_spot rfl _ rfl _ _ rfl [.int .i64 (a 0), .int .i64 (a 1), .int .i64 (a 2), .int .i64 (a 3), .int .i64 (a 4), .int .i64 (a 5), .int .i64 (a 6), .int .i64 (a 7), .int .i64 (a 8), .int .i64 (b 0), .int .i64 (b 1), .int .i64 (b 2), .int .i64 (b 3), .int .i64 (b 4), .int .i64 (b 5), .int .i64 (b 6), .int .i64 (b 7), .int .i64 (b 8), .int .i64 (c 0), .int .i64 (c 1), .int .i64 (c 2), .int .i64 (c 3), .int .i64 (c 4), .int .i64 (c 5), .int .i64 (c 6), .int .i64 (c 7), .int .i64 (c 8)] rfl (Rc.some (HO.out.at 1 rfl)) ?_; intro us hus; dsimp only [List.drop, List.take] at hus; subst hus)
    | ((with_reducible show wpList _ _ _ ({ dst := _, op := Op.load 26 (Operand.tmp 40), type := _, pos := _, after := _, guard := _ } :: _) _ _); refine wpList_ldo ty_spot rfl _ rfl _ _ rfl [.int .i64 (a 0), .int .i64 (a 1), .int .i64 (a 2), .int .i64 (a 3), .int .i64 (a 4), .int .i64 (a 5), .int .i64 (a 6), .int .i64 (a 7), .int .i64 (a 8), .int .i64 (b 0), .int .i64 (b 1), .int .i64 (b 2), .int .i64 (b 3), .int .i64 (b 4), .int .i64 (b 5), .int .i64 (b 6), .int .i64 (b 7), .int .i64 (b 8), .int .i64 (c 0), .int .i64 (c 1), .int .i64 (c 2), .int .i64 (c 3), .int .i64 (c 4), .int .i64 (c 5), .int .i64 (c 6), .int .i64 (c 7), .int .i64 (c 8)] rfl (Rc.some (HO.out.at 1 rfl)) ?_; intro us hus; dsimp only [List.drop, List.take] at hus; subst hus)
    | ((with_reducible show wpList _ _ _ ({ dst := _, op := Op.load 26 (Operand.tmp 42), type := _, pos := _, after := _, guard := _ } :: _) _ _); refine wpList_ldo ty_spot rfl _ rfl _ _ rfl [.int .i64 (a 0), .int .i64 (a 1), .int .i64 (a 2), .int .i64 (a 3), .int .i64 (a 4), .int .i64 (a 5), .int .i64 (a 6), .int .i64 (a 7), .int .i64 (a 8), .int .i64 (b 0), .int .i64 (b 1), .int .i64 (b 2), .int .i64 (b 3), .int .i64 (b 4), .int .i64 (b 5), .int .i64 (b 6), .int .i64 (b 7), .int .i64 (b 8), .int .i64 (c 0), .int .i64 (c 1), .int .i64 (c 2), .int .i64 (c 3), .int .i64 (c 4), .int .i64 (c 5), .int .i64 (c 6), .int .i64 (c 7), .int .i64 (c 8)] rfl (Rc.some (HO.out.at 1 rfl)) ?_; intro us hus; dsimp only [List.drop, List.take] at hus; subst hus)
    | ((with_reducible show wpList _ _ _ ({ dst := _, op := Op.store 27 (Operand.tmp 2) _, type := _, pos := _, after := _, guard := _ } :: _) _ _); refine wpList_sto ty_spots HO.out 1 [.int .i64 (a 0), .int .i64 (a 1), .int .i64 (a 2), .int .i64 (a 3), .int .i64 (a 4), .int .i64 (a 5), .int .i64 (a 6), .int .i64 (a 7), .int .i64 (a 8), .int .i64 (c 0), .int .i64 (c 1), .int .i64 (c 2), .int .i64 (c 3), .int .i64 (c 4), .int .i64 (c 5), .int .i64 (c 6), .int .i64 (c 7), .int .i64 (c 8), .int .i64 (b 0), .int .i64 (b 1), .int .i64 (b 2), .int .i64 (b 3), .int .i64 (b 4), .int .i64 (b 5), .int .i64 (b 6), .int .i64 (b 7), .int .i64 (b 8)] rfl _ _ rfl _ rfl rfl _ rfl rfl rfl rfl ?_; intro w2 l2; clear HO; have HO := Lib.hid l2; clear l2))
  have H27 : Hid ((w.heap.size, [.int .i64 (a 0), .int .i64 (a 1), .int .i64 (a 2), .int .i64 (a 3), .int .i64 (a 4), .int .i64 (a 5), .int .i64 (a 6), .int .i64 (a 7), .int .i64 (a 8), .int .i64 (c 0), .int .i64 (c 1), .int .i64 (c 2), .int .i64 (c 3), .int .i64 (c 4), .int .i64 (c 5), .int .i64 (c 6), .int .i64 (c 7), .int .i64 (c 8), .int .i64 (b 0), .int .i64 (b 1), .int .i64 (b 2), .int .i64 (b 3), .int .i64 (b 4), .int .i64 (b 5), .int .i64 (b 6), .int .i64 (b 7), .int .i64 (b 8)]) ∈ ([(w.heap.size, [.int .i64 (a 0), .int .i64 (a 1), .int .i64 (a 2), .int .i64 (a 3), .int .i64 (a 4), .int .i64 (a 5), .int .i64 (a 6), .int .i64 (a 7), .int .i64 (a 8), .int .i64 (c 0), .int .i64 (c 1), .int .i64 (c 2), .int .i64 (c 3), .int .i64 (c 4), .int .i64 (c 5), .int .i64 (c 6), .int .i64 (c 7), .int .i64 (c 8), .int .i64 (b 0), .int .i64 (b 1), .int .i64 (b 2), .int .i64 (b 3), .int .i64 (b 4), .int .i64 (b 5), .int .i64 (b 6), .int .i64 (b 7), .int .i64 (b 8)])] : List (Nat × List Value))) := Lib.hid (by simp)
  refine Rg2.region (σ := List (Nat × List Value)) (I := Rg2.Io w [(w.heap.size, [.int .i64 (a 0), .int .i64 (a 1), .int .i64 (a 2), .int .i64 (a 3), .int .i64 (a 4), .int .i64 (a 5), .int .i64 (a 6), .int .i64 (a 7), .int .i64 (a 8), .int .i64 (c 0), .int .i64 (c 1), .int .i64 (c 2), .int .i64 (c 3), .int .i64 (c 4), .int .i64 (c 5), .int .i64 (c 6), .int .i64 (c 7), .int .i64 (c 8), .int .i64 (b 0), .int .i64 (b 1), .int .i64 (b 2), .int .i64 (b 3), .int .i64 (b 4), .int .i64 (b 5), .int .i64 (b 6), .int .i64 (b 7), .int .i64 (b 8)])]) (mk := fun b s => (b, [.int .i64 0, .int .i64 0, .int .i64 0, .int .i64 0, .int .i64 0, .int .i64 0, .int .i64 0, .int .i64 0, .int .i64 0, .int .i64 0, .int .i64 0, .int .i64 0, .int .i64 0, .int .i64 0, .int .i64 0, .int .i64 0, .int .i64 0, .int .i64 0, .int .i64 0, .int .i64 0, .int .i64 0, .int .i64 0, .int .i64 0, .int .i64 0, .int .i64 0, .int .i64 0, .int .i64 0, .int .i64 0, .int .i64 0, .int .i64 0, .int .i64 0, .int .i64 0]) :: s) (dem := fun i => i == 5) (m := 7) (g := 0) (T := fun listed s st => ∀ W, Rg2.Io w [(w.heap.size, [.int .i64 (a 0), .int .i64 (a 1), .int .i64 (a 2), .int .i64 (a 3), .int .i64 (a 4), .int .i64 (a 5), .int .i64 (a 6), .int .i64 (a 7), .int .i64 (a 8), .int .i64 (c 0), .int .i64 (c 1), .int .i64 (c 2), .int .i64 (c 3), .int .i64 (c 4), .int .i64 (c 5), .int .i64 (c 6), .int .i64 (c 7), .int .i64 (c 8), .int .i64 (b 0), .int .i64 (b 1), .int .i64 (b 2), .int .i64 (b 3), .int .i64 (b 4), .int .i64 (b 5), .int .i64 (b 6), .int .i64 (b 7), .int .i64 (b 8)])] s W → wpAny Try.prog .any _ _ 0 listed st W) [(w.heap.size + 1, [.int .i64 0, .int .i64 0, .int .i64 0, .int .i64 0, .int .i64 0, .int .i64 0, .int .i64 0, .int .i64 0, .int .i64 0, .int .i64 0, .int .i64 0, .int .i64 0, .int .i64 0, .int .i64 0, .int .i64 0, .int .i64 0, .int .i64 0, .int .i64 0, .int .i64 0, .int .i64 0, .int .i64 0, .int .i64 0, .int .i64 0, .int .i64 0, .int .i64 0, .int .i64 0, .int .i64 0, .int .i64 0, .int .i64 0, .int .i64 0, .int .i64 0, .int .i64 0])] (by kernel_rfl) (show Rg2.Io w [(w.heap.size, [.int .i64 (a 0), .int .i64 (a 1), .int .i64 (a 2), .int .i64 (a 3), .int .i64 (a 4), .int .i64 (a 5), .int .i64 (a 6), .int .i64 (a 7), .int .i64 (a 8), .int .i64 (c 0), .int .i64 (c 1), .int .i64 (c 2), .int .i64 (c 3), .int .i64 (c 4), .int .i64 (c 5), .int .i64 (c 6), .int .i64 (c 7), .int .i64 (c 8), .int .i64 (b 0), .int .i64 (b 1), .int .i64 (b 2), .int .i64 (b 3), .int .i64 (b 4), .int .i64 (b 5), .int .i64 (b 6), .int .i64 (b 7), .int .i64 (b 8)])] [(w.heap.size + 1, [.int .i64 0, .int .i64 0, .int .i64 0, .int .i64 0, .int .i64 0, .int .i64 0, .int .i64 0, .int .i64 0, .int .i64 0, .int .i64 0, .int .i64 0, .int .i64 0, .int .i64 0, .int .i64 0, .int .i64 0, .int .i64 0, .int .i64 0, .int .i64 0, .int .i64 0, .int .i64 0, .int .i64 0, .int .i64 0, .int .i64 0, .int .i64 0, .int .i64 0, .int .i64 0, .int .i64 0, .int .i64 0, .int .i64 0, .int .i64 0, .int .i64 0, .int .i64 0])] _ from HO.out.drew) rfl (fun _ _ _ _ h hI => h _ hI) ?_
  clear HO
  refine Rg2.take 0 (v := .agg #[.int .i64 (a 0), .int .i64 (a 1), .int .i64 (a 2), .int .i64 (a 3), .int .i64 (a 4), .int .i64 (a 5), .int .i64 (a 6), .int .i64 (a 7), .int .i64 (a 8), .int .i64 (c 0), .int .i64 (c 1), .int .i64 (c 2), .int .i64 (c 3), .int .i64 (c 4), .int .i64 (c 5), .int .i64 (c 6), .int .i64 (c 7), .int .i64 (c 8), .int .i64 (b 0), .int .i64 (b 1), .int .i64 (b 2), .int .i64 (b 3), .int .i64 (b 4), .int .i64 (b 5), .int .i64 (b 6), .int .i64 (b 7), .int .i64 (b 8)]) rfl rfl (by kernel_rfl) (by kernel_rfl) (by kernel_rfl) (by kernel_rfl) (by kernel_rfl) (.inl ⟨rfl, fun bs wq hI => ?_⟩) ?_
  · exact quiet_ldr ty_spots (.tmp 2) rfl rfl rfl (hI.rc H27.out)
  simp only [Act.put, List.getElem_toArray, List.getElem_cons_zero, List.getElem_cons_succ, List.setIfInBounds_toArray, List.set_cons_zero, List.set_cons_succ]
  refine Rg2.take 1 (v := .int .i64 (-n)) rfl rfl (by kernel_rfl) (by kernel_rfl) (by kernel_rfl) (by kernel_rfl) (by kernel_rfl) (.inl ⟨rfl, fun bs wq hI => ?_⟩) ?_
  · go_simp
  simp only [Act.put, List.getElem_toArray, List.getElem_cons_zero, List.getElem_cons_succ, List.setIfInBounds_toArray, List.set_cons_zero, List.set_cons_succ]
  refine Rg2.take 2 (v := .agg #[.int .i64 (a 0), .int .i64 (a 1), .int .i64 (a 2), .int .i64 (a 3), .int .i64 (a 4), .int .i64 (a 5), .int .i64 (a 6), .int .i64 (a 7), .int .i64 (a 8), .int .i64 (c 0), .int .i64 (c 1), .int .i64 (c 2), .int .i64 (c 3), .int .i64 (c 4), .int .i64 (c 5), .int .i64 (c 6), .int .i64 (c 7), .int .i64 (c 8), .int .i64 (b 0), .int .i64 (b 1), .int .i64 (b 2), .int .i64 (b 3), .int .i64 (b 4), .int .i64 (b 5), .int .i64 (b 6), .int .i64 (b 7), .int .i64 (b 8)]) rfl rfl (by kernel_rfl) (by kernel_rfl) (by kernel_rfl) (by kernel_rfl) (by kernel_rfl) (.inl ⟨rfl, fun bs wq hI => ?_⟩) ?_
  · exact quiet_ldr ty_spots (.tmp 2) rfl rfl rfl (hI.rc H27.out)
  simp only [Act.put, List.getElem_toArray, List.getElem_cons_zero, List.getElem_cons_succ, List.setIfInBounds_toArray, List.set_cons_zero, List.set_cons_succ]
  refine Rg2.take 3 (v := .agg #[.int .i64 (f 0), .int .i64 (f 1), .int .i64 (f 2), .int .i64 (f 3)]) rfl rfl (by kernel_rfl) (by kernel_rfl) (by kernel_rfl) (by kernel_rfl) (by kernel_rfl) (.inl ⟨rfl, fun bs wq hI => ?_⟩) ?_
  · (go_simp; exact (BX _).mono fun e w2 h => ⟨h.1, hI.call h.2⟩)
  simp only [Act.put, List.getElem_toArray, List.getElem_cons_zero, List.getElem_cons_succ, List.setIfInBounds_toArray, List.set_cons_zero, List.set_cons_succ]
  refine Rg2.take 4 (v := .agg #[.int .i64 (a 0), .int .i64 (a 1), .int .i64 (a 2), .int .i64 (a 3), .int .i64 (a 4), .int .i64 (a 5), .int .i64 (a 6), .int .i64 (a 7), .int .i64 (a 8), .int .i64 (c 0), .int .i64 (c 1), .int .i64 (c 2), .int .i64 (c 3), .int .i64 (c 4), .int .i64 (c 5), .int .i64 (c 6), .int .i64 (c 7), .int .i64 (c 8), .int .i64 (b 0), .int .i64 (b 1), .int .i64 (b 2), .int .i64 (b 3), .int .i64 (b 4), .int .i64 (b 5), .int .i64 (b 6), .int .i64 (b 7), .int .i64 (b 8), .int .i64 (-n), .int .i64 (f 0), .int .i64 (f 1), .int .i64 (f 2), .int .i64 (f 3)]) rfl rfl (by kernel_rfl) (by kernel_rfl) (by kernel_rfl) (by kernel_rfl) (by kernel_rfl) (.inl ⟨rfl, fun bs wq hI => ?_⟩) ?_
  · go_simp
  simp only [Act.put, List.getElem_toArray, List.getElem_cons_zero, List.getElem_cons_succ, List.setIfInBounds_toArray, List.set_cons_zero, List.set_cons_succ]
  refine Rg2.put1 5 (by kernel_rfl) rfl rfl (Rg2.puts_row ty_tri 0 [.int .i64 (a 0), .int .i64 (a 1), .int .i64 (a 2), .int .i64 (a 3), .int .i64 (a 4), .int .i64 (a 5), .int .i64 (a 6), .int .i64 (a 7), .int .i64 (a 8), .int .i64 (c 0), .int .i64 (c 1), .int .i64 (c 2), .int .i64 (c 3), .int .i64 (c 4), .int .i64 (c 5), .int .i64 (c 6), .int .i64 (c 7), .int .i64 (c 8), .int .i64 (b 0), .int .i64 (b 1), .int .i64 (b 2), .int .i64 (b 3), .int .i64 (b 4), .int .i64 (b 5), .int .i64 (b 6), .int .i64 (b 7), .int .i64 (b 8), .int .i64 (-n), .int .i64 (f 0), .int .i64 (f 1), .int .i64 (f 2), .int .i64 (f 3)] rfl _ _ rfl _ rfl rfl _ rfl rfl rfl rfl) ?_
  simp only [Act.put, List.getElem_toArray, List.getElem_cons_zero, List.getElem_cons_succ, List.setIfInBounds_toArray, List.set_cons_zero, List.set_cons_succ]
  refine Rg2.take 6 (v := .bool true) rfl rfl (by kernel_rfl) (by kernel_rfl) (by kernel_rfl) (by kernel_rfl) (by kernel_rfl) (.inl ⟨rfl, fun bs wq hI => ?_⟩) ?_
  · go_simp
  simp only [Act.put, List.getElem_toArray, List.getElem_cons_zero, List.getElem_cons_succ, List.setIfInBounds_toArray, List.set_cons_zero, List.set_cons_succ]
  refine Rg2.done (rs := []) (by kernel_rfl) (by decide) (fun W hI => ?_)
  have HO := Lib.hid (show Ow w W [(w.heap.size + 1, [.int .i64 (a 0), .int .i64 (a 1), .int .i64 (a 2), .int .i64 (a 3), .int .i64 (a 4), .int .i64 (a 5), .int .i64 (a 6), .int .i64 (a 7), .int .i64 (a 8), .int .i64 (c 0), .int .i64 (c 1), .int .i64 (c 2), .int .i64 (c 3), .int .i64 (c 4), .int .i64 (c 5), .int .i64 (c 6), .int .i64 (c 7), .int .i64 (c 8), .int .i64 (b 0), .int .i64 (b 1), .int .i64 (b 2), .int .i64 (b 3), .int .i64 (b 4), .int .i64 (b 5), .int .i64 (b 6), .int .i64 (b 7), .int .i64 (b 8), .int .i64 (-n), .int .i64 (f 0), .int .i64 (f 1), .int .i64 (f 2), .int .i64 (f 3)]), (w.heap.size, [.int .i64 (a 0), .int .i64 (a 1), .int .i64 (a 2), .int .i64 (a 3), .int .i64 (a 4), .int .i64 (a 5), .int .i64 (a 6), .int .i64 (a 7), .int .i64 (a 8), .int .i64 (c 0), .int .i64 (c 1), .int .i64 (c 2), .int .i64 (c 3), .int .i64 (c 4), .int .i64 (c 5), .int .i64 (c 6), .int .i64 (c 7), .int .i64 (c 8), .int .i64 (b 0), .int .i64 (b 1), .int .i64 (b 2), .int .i64 (b 3), .int .i64 (b 4), .int .i64 (b 5), .int .i64 (b 6), .int .i64 (b 7), .int .i64 (b 8)])] from hI)
  clear hI
  refine wpAny_done (by kernel_rfl) ?_ _
  go_wp2_with fail
  refine bodyPost_ret (results_c2 ty_tri rfl rfl rfl rfl (HO.out.at 0 rfl)) rfl ⟨rfl, HO.out.k⟩
end Go.Proofs.Ytiigbpfoaoekhaa
