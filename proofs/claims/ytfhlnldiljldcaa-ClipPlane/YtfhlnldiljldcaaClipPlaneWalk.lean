/-
  ClipPlane: its Go text returns true.
-/
import Derived.Test.YtfhlnldiljldcaaClipPolys
import Derived.BigGuard
namespace Go.Proofs.Ytfhlnldiljldcaa
open Go.RowKit

set_option linter.unusedSimpArgs false in
set_option maxRecDepth 100000 in
set_option maxHeartbeats 8000000 in
theorem plane_pl (k : Int) (l : List Cn) (v : Value) (w : World) (hS : Sp w v l) (hk : Cl.pl k = false) :
    Calls Try.prog 4 #[.int .i64 k, v] w fun e w' => e = .returned (.bool true) ∧ Below w.heap.size w w' := by
  have P1 := at_no k l v w hS (by rw [Cl.atE_pl hk]; decide)
  rw [Cl.atE_pl hk] at P1
  have HB := Lib.hid (Below.refl w.heap.size w)
  rcases Cl.pl_no.1 hk with h1 | h1
  · have q1 : decide (k < 0) = true := decide_eq_true h1
    clear hk h1 hS
    go_enter Try.func4, Try.ntmps4
    go_wp2_with (first | go_big_skip | (go_at_call 13; refine P1.mono ?_; rintro e wz ⟨u, rfl, hs1, hb1⟩; obtain ⟨a1, c1, rfl⟩ := hs1.none; clear HB hs1; have HB := Lib.hid hb1; clear hb1) | (go_at_call 9; refine (awake_any _).mono ?_; rintro e wz ⟨rfl, hk1⟩; have l2 := HB.out.trans (hk1.below.mono HB.out.size); clear HB hk1; have HB := Lib.hid l2; clear l2))
    go_ret
    exact ⟨rfl, HB.out⟩
  · have q1 : decide (k < 0) = false := decide_eq_false (by omega)
    have q2 : decide (6 < k) = true := decide_eq_true h1
    clear hk h1 hS
    go_enter Try.func4, Try.ntmps4
    go_wp2_with (first | go_big_skip | (go_at_call 13; refine P1.mono ?_; rintro e wz ⟨u, rfl, hs1, hb1⟩; obtain ⟨a1, c1, rfl⟩ := hs1.none; clear HB hs1; have HB := Lib.hid hb1; clear hb1) | (go_at_call 9; refine (awake_any _).mono ?_; rintro e wz ⟨rfl, hk1⟩; have l2 := HB.out.trans (hk1.below.mono HB.out.size); clear HB hk1; have HB := Lib.hid l2; clear l2))
    go_ret
    exact ⟨rfl, HB.out⟩
set_option linter.unusedSimpArgs false in
set_option maxRecDepth 100000 in
set_option maxHeartbeats 8000000 in
theorem plane_chk (k : Nat) (l : List Cn) (v : Value) (w : World) (hS : Sp w v l) (hk : k < 7) (hc : Cl.chk l ≠ 0) :
    Calls Try.prog 4 #[.int .i64 k, v] w fun e w' => e = .returned (.bool true) ∧ Below w.heap.size w w' := by
  have hp : Cl.pl (k : Int) = true := Cl.pl_iff.2 (by omega)
  have P1 := at_no k l v w hS (by rw [Cl.atE_chk hp]; exact hc)
  rw [Cl.atE_chk hp] at P1
  have R1 := fun W (h : Below w.heap.size w W) => rchk_any l v W (hS.nextB h)
  have HB := Lib.hid (Below.refl w.heap.size w)
  have q1 : decide ((k : Int) < 0) = false := decide_eq_false (by omega)
  have q2 : decide (6 < (k : Int)) = false := decide_eq_false (by omega)
  have q3 : (Cl.chk l != 0) = true := by simpa using hc
  generalize Cl.chk l = r at *
  clear hp hc hS
  go_enter Try.func4, Try.ntmps4
  go_wp2_with (first | go_big_skip | (go_at_call 13; refine P1.mono ?_; rintro e wz ⟨u, rfl, hs1, hb1⟩; obtain ⟨a1, c1, rfl⟩ := hs1.none; clear HB hs1; have HB := Lib.hid hb1; clear hb1) | (go_at_call 14; refine (R1 _ HB.out).mono ?_; rintro e wz ⟨rfl, hk1⟩; have l2 := HB.out.trans (hk1.below.mono HB.out.size); clear HB hk1; have HB := Lib.hid l2; clear l2) | (go_at_call 9; refine (awake_any _).mono ?_; rintro e wz ⟨rfl, hk1⟩; have l2 := HB.out.trans (hk1.below.mono HB.out.size); clear HB hk1; have HB := Lib.hid l2; clear l2))
  go_ret
  exact ⟨rfl, HB.out⟩
set_option linter.unusedSimpArgs false in
set_option maxRecDepth 100000 in
set_option maxHeartbeats 8000000 in
theorem plane_yes (k : Nat) (l : List Cn) (v : Value) (w : World) (hS : Sp w v l) (hk : k < 7) (hc : Cl.chk l = 0) :
    Calls Try.prog 4 #[.int .i64 k, v] w fun e w' => e = .returned (.bool true) ∧ Below w.heap.size w w' := by
  obtain ⟨hl, hm⟩ := Cl.chk_ok.1 hc
  have P1 := at_yes k l v w hS hk hc
  have R1 := fun W (h : Below w.heap.size w W) => rchk_any l v W (hS.nextB h)
  rw [hc] at R1
  have RA := fun W (h : Below w.heap.size w W) => rclip_any k l v W (hS.nextB h) hk hm (by omega)
  have HS := Lib.hid hS
  obtain ⟨a0, c0, rfl, hc0, hx0⟩ := hS.each
  have HX0 := Lib.hid hx0
  have HM := Lib.hid hm
  have HI : Hid (l.all (Cl.inn k) = true → Cl.at k l = l) := Lib.hid fun h => Cl.at_in (List.all_eq_true.1 h)
  have HF : Hid (∀ c ∈ Cl.at k l, Cl.May c ∧ 0 ≤ Cl.far k c) := Lib.hid fun c h => ⟨Cl.at_may hm c h, Cl.at_far c h⟩
  have hL := Cl.at_len k l
  have HL : Hid ((Cl.at k l).length ≤ 100000) := Lib.hid (by omega)
  have HB := Lib.hid (Below.refl w.heap.size w)
  have q1 : decide ((k : Int) < 0) = false := decide_eq_false (by omega)
  have q2 : decide (6 < (k : Int)) = false := decide_eq_false (by omega)
  have hl2 : (l.length : Int) ≤ 16 := by omega
  clear hS hx0 hm hl hc
  generalize Cl.at k l = L at *
  have hL2 : (L.length : Int) ≤ 100000 := by have := HL.out; omega
  clear hL
  go_enter Try.func4, Try.ntmps4
  go_wp2_with (first
    | go_big_skip
    | (go_at_call 13; refine P1.mono ?_; clear P1; rintro e w1 ⟨u, rfl, hs1, hb1⟩; obtain ⟨a1, c1, rfl, hc1, hx1⟩ := hs1.each; have HB0 := Lib.hid hb1; have HU := Lib.hid hs1; have HX := Lib.hid hx1; clear HB hs1 hb1 hx1; have HB := Lib.hid (Below.refl w1.heap.size w1))
    | (go_at_call 14; refine (R1 _ (HB0.out.trans (HB.out.mono HB0.out.size))).mono ?_; rintro e wz ⟨rfl, hk1⟩; have l2 := HB.out.trans (hk1.below.mono HB.out.size); clear HB hk1; have HB := Lib.hid l2; clear l2)
    | (go_at_call 16; refine (RA _ (HB0.out.trans (HB.out.mono HB0.out.size))).mono ?_; rintro e w2 ⟨u2, rfl, hs2, hb2⟩; have l2 := HB.out.trans (hb2.mono HB.out.size); clear HB; have HB := Lib.hid l2; have HV := Lib.hid hs2; clear l2 hs2 hb2)
    | (go_at_call 15; refine (rsame_any L _ _ _ (HU.out.nextB HB.out) HV.out HL.out).mono ?_; rintro e wz ⟨rfl, hk1⟩; have l2 := HB.out.trans (hk1.below.mono HB.out.size); clear HB hk1; have HB := Lib.hid l2; clear l2))
  clear R1 RA
  go_loopw [9, 8] (fun i b wr => ∃ j : Nat, j ≤ l.length ∧ i = .int .i64 j ∧ b = .bool ((l.take j).all (Cl.inn k)) ∧ Below w1.heap.size w1 wr) (fun i _ _ => msrS l.length i)
  case atStart => exact ⟨0, by omega, rfl, rfl, HB.out⟩
  case round =>
    clear HB
    obtain ⟨j, hj, rfl, rfl, hb⟩ := hrel
    have HB := Lib.hid hb
    clear hb
    by_cases hlt : j < l.length
    · have z1 : decide ((j : Int) < (l.length : Int)) = true := decide_eq_true (by omega)
      have z2 : (j : Int) < (l.length : Int) := by omega
      obtain ⟨b1, o1, e1, x1⟩ := HX0.out j hlt
      have F1 := fun W => rfar_any k l[j] W hk (HM.out _ (List.getElem_mem hlt)).1
      have HT := Cl.all_take hlt (Cl.inn k)
      have X1 : Hid (∀ U, Below w.heap.size w U → U.rangeAt b1 (o1 + j * 10) [.int .i64 (l[j] 0), .int .i64 (l[j] 1), .int .i64 (l[j] 2), .int .i64 (l[j] 3)]) := Lib.hid fun U h => range_vec (x1 U h)
      clear x1
      generalize l[j] = y at *
      subst e1
      generalize (l.take j).all (Cl.inn k) = p at *
      cases p
      · have HZ : Hid ((l.take (j + 1)).all (Cl.inn k) = false) := Lib.hid (by rw [HT]; rfl)
        clear HT
        go_wp2_with go_big_skip
        go_roundw
        case rel => exact ⟨j + 1, by omega, by go_num, by rw [HZ.out], HB.out⟩
        case measure => simp [msrS, intOf]; omega
      · cases hy : Cl.inn k y
        · have q : decide (0 ≤ Cl.far k y) = false := hy
          have HZ : Hid ((l.take (j + 1)).all (Cl.inn k) = false) := Lib.hid (by rw [HT, hy]; rfl)
          clear HT hy
          generalize Cl.far k y = f at *
          go_wp2_with (first | ((with_reducible show wpList _ _ _ ({ dst := _, op := Op.load 23 (Operand.tmp 70), type := _, pos := _, after := _, guard := _ } :: _) _ _); refine wpList_ldm ty_vec rfl _ rfl _ _ rfl _ rfl (X1.out _ (HB0.out.trans (HB.out.mono HB0.out.size))) ?_) | (go_at_call 11; refine (F1 _).mono ?_; rintro e wz ⟨rfl, hk1⟩; have l2 := HB.out.trans (hk1.below.mono HB.out.size); clear HB hk1; have HB := Lib.hid l2; clear l2))
          go_roundw
          case rel => exact ⟨j + 1, by omega, by go_num, by rw [HZ.out], HB.out⟩
          case measure => simp [msrS, intOf]; omega
        · have q : decide (0 ≤ Cl.far k y) = true := hy
          have HZ : Hid ((l.take (j + 1)).all (Cl.inn k) = true) := Lib.hid (by rw [HT, hy]; rfl)
          clear HT hy
          generalize Cl.far k y = f at *
          go_wp2_with (first | ((with_reducible show wpList _ _ _ ({ dst := _, op := Op.load 23 (Operand.tmp 70), type := _, pos := _, after := _, guard := _ } :: _) _ _); refine wpList_ldm ty_vec rfl _ rfl _ _ rfl _ rfl (X1.out _ (HB0.out.trans (HB.out.mono HB0.out.size))) ?_) | (go_at_call 11; refine (F1 _).mono ?_; rintro e wz ⟨rfl, hk1⟩; have l2 := HB.out.trans (hk1.below.mono HB.out.size); clear HB hk1; have HB := Lib.hid l2; clear l2))
          go_roundw
          case rel => exact ⟨j + 1, by omega, by go_num, by rw [HZ.out], HB.out⟩
          case measure => simp [msrS, intOf]; omega
    · have z1 : decide ((j : Int) < (l.length : Int)) = false := decide_eq_false (by omega)
      obtain rfl : j = l.length := by omega
      rw [List.take_length]
      generalize l.all (Cl.inn k) = q at *
      go_wp2_with fail
      go_loopw [10] (fun i wr => ∃ j : Nat, j ≤ L.length ∧ i = .int .i64 j ∧ Below w1.heap.size w1 wr) (fun i _ => msrS L.length i)
      case atStart => exact ⟨0, by omega, rfl, HB.out⟩
      case round =>
        clear HB
        obtain ⟨j, hj, rfl, hb⟩ := hrel
        have HB := Lib.hid hb
        clear hb z1
        by_cases hlt : j < L.length
        · have z1 : decide ((j : Int) < (L.length : Int)) = true := decide_eq_true (by omega)
          have z2 : (j : Int) < (L.length : Int) := by omega
          obtain ⟨b1, o1, e1, x1⟩ := HX.out j hlt
          have hf := HF.out _ (List.getElem_mem hlt)
          have F1 := fun W => rfar_any k L[j] W hk hf.1.1
          have z3 : decide (Cl.far k L[j] < 0) = false := decide_eq_false (by have := hf.2; omega)
          have X1 : Hid (∀ U, Below w1.heap.size w1 U → U.rangeAt b1 (o1 + j * 10) [.int .i64 (L[j] 0), .int .i64 (L[j] 1), .int .i64 (L[j] 2), .int .i64 (L[j] 3)]) := Lib.hid fun U h => range_vec (x1 U h)
          clear x1 hf
          generalize L[j] = y at *
          subst e1
          generalize Cl.far k y = f at *
          go_wp2_with (first | ((with_reducible show wpList _ _ _ ({ dst := _, op := Op.load 23 (Operand.tmp 85), type := _, pos := _, after := _, guard := _ } :: _) _ _); refine wpList_ldm ty_vec rfl _ rfl _ _ rfl _ rfl (X1.out _ HB.out) ?_) | (go_at_call 11; refine (F1 _).mono ?_; rintro e wz ⟨rfl, hk1⟩; have l2 := HB.out.trans (hk1.below.mono HB.out.size); clear HB hk1; have HB := Lib.hid l2; clear l2))
          go_roundw
          case rel => exact ⟨j + 1, by omega, by go_num, HB.out⟩
          case measure => simp [msrS, intOf]; omega
        · have z1 : decide ((j : Int) < (L.length : Int)) = false := decide_eq_false (by omega)
          cases q
          · go_wp2_with (first | go_big_skip | (go_at_call 9; refine (awake_any _).mono ?_; rintro e wz ⟨rfl, hk1⟩; have l2 := HB.out.trans (hk1.below.mono HB.out.size); clear HB hk1; have HB := Lib.hid l2; clear l2))
            go_ret
            exact ⟨rfl, (HB0.out.trans (HB.out.mono HB0.out.size))⟩
          · obtain rfl := HI.out rfl
            go_wp2_with (first
              | go_big_skip
              | (go_at_call 15; refine (rsame_any _ _ _ _ (HU.out.nextB HB.out) (HS.out.nextB (HB0.out.trans (HB.out.mono HB0.out.size))) HL.out).mono ?_; rintro e wz ⟨rfl, hk1⟩; have l2 := HB.out.trans (hk1.below.mono HB.out.size); clear HB hk1; have HB := Lib.hid l2; clear l2)
              | (go_at_call 9; refine (awake_any _).mono ?_; rintro e wz ⟨rfl, hk1⟩; have l2 := HB.out.trans (hk1.below.mono HB.out.size); clear HB hk1; have HB := Lib.hid l2; clear l2))
            go_ret
            exact ⟨rfl, (HB0.out.trans (HB.out.mono HB0.out.size))⟩
theorem plane_walk (k : Int) (l : List Cn) (v : Value) (w : World) (hS : Sp w v l) :
    Calls Try.prog 4 #[.int .i64 k, v] w fun e w' => e = .returned (.bool true) ∧ Below w.heap.size w w' := by
  cases hp : Cl.pl k
  · exact plane_pl k l v w hS hp
  obtain ⟨k1, k2⟩ := Cl.pl_iff.1 hp
  obtain ⟨z, rfl⟩ : ∃ z : Nat, k = (z : Int) := ⟨k.toNat, by omega⟩
  by_cases hc : Cl.chk l = 0
  · exact plane_yes z l v w hS (by omega) hc
  · exact plane_chk z l v w hS (by omega) hc
end Go.Proofs.Ytfhlnldiljldcaa
