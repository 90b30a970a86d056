/-
  ClipAll: its Go text returns true.
-/
import Derived.Test.YtfhlnldiljldcaaClipPolys
import Derived.BigGuard
namespace Go.Proofs.Ytfhlnldiljldcaa
open Go.RowKit

set_option linter.unusedSimpArgs false in
set_option maxRecDepth 100000 in
set_option maxHeartbeats 8000000 in
theorem alls_no (l : List Cn) (v : Value) (w : World) (hS : Sp w v l) (hc : Cl.chk l ≠ 0) :
    Calls Try.prog 5 #[v] w fun e w' => e = .returned (.bool true) ∧ Below w.heap.size w w' := by
  have P1 := all_no l v w hS hc
  have R1 := fun W (h : Below w.heap.size w W) => rchk_any l v W (hS.nextB h)
  have HB := Lib.hid (Below.refl w.heap.size w)
  have q3 : (Cl.chk l != 0) = true := by simpa using hc
  generalize Cl.chk l = r at *
  clear hc hS
  go_enter Try.func5, Try.ntmps5
  go_wp2_with (first | go_big_skip | (go_at_call 17; refine P1.mono ?_; rintro e wz ⟨u, rfl, hs1, hb1⟩; obtain ⟨a1, c1, rfl⟩ := hs1.none; clear HB hs1; have HB := Lib.hid hb1; clear hb1) | (go_at_call 14; refine (R1 _ HB.out).mono ?_; rintro e wz ⟨rfl, hk1⟩; have l2 := HB.out.trans (hk1.below.mono HB.out.size); clear HB hk1; have HB := Lib.hid l2; clear l2) | (go_at_call 9; refine (awake_any _).mono ?_; rintro e wz ⟨rfl, hk1⟩; have l2 := HB.out.trans (hk1.below.mono HB.out.size); clear HB hk1; have HB := Lib.hid l2; clear l2))
  go_ret
  exact ⟨rfl, HB.out⟩
/-- is a corner within all of the first n planes? -/
def Cl.inns (n : Nat) (c : Cn) : Bool := (List.range n).all fun k => Cl.inn k c
theorem Cl.inns_next (n : Nat) (c : Cn) : Cl.inns (n + 1) c = (Cl.inns n c && Cl.inn n c) := by
  unfold Cl.inns
  rw [List.range_succ, List.all_append]; simp
set_option linter.unusedSimpArgs false in
set_option maxRecDepth 100000 in
set_option maxHeartbeats 8000000 in
theorem alls_yes (l : List Cn) (v : Value) (w : World) (hS : Sp w v l) (hc : Cl.chk l = 0) :
    Calls Try.prog 5 #[v] w fun e w' => e = .returned (.bool true) ∧ Below w.heap.size w w' := by
  obtain ⟨hl, hm⟩ := Cl.chk_ok.1 hc
  have P1 := all_yes l v w hS hc
  have R1 := fun W (h : Below w.heap.size w W) => rchk_any l v W (hS.nextB h)
  rw [hc] at R1
  have RA := fun W (h : Below w.heap.size w W) => rall_any l v W (hS.nextB h) hm hl
  have HS := Lib.hid hS
  obtain ⟨a0, c0, rfl, hc0, hx0⟩ := hS.each
  have HX0 := Lib.hid hx0
  have HM := Lib.hid hm
  have HI : Hid (l.all (Cl.inns 7) = true → Cl.all l 7 = l) := Lib.hid fun h => Cl.all_in 7 fun k hk c hcl => List.all_eq_true.1 (List.all_eq_true.1 h c hcl) k (List.mem_range.2 hk)
  have HF : Hid (∀ c ∈ Cl.all l 7, 1 ≤ c 3) := Lib.hid (Cl.all_w l 7 (by omega))
  have hL := Cl.all_len l 7
  have HL : Hid ((Cl.all l 7).length ≤ 100000) := Lib.hid (by have : 2 ^ 7 * l.length ≤ 128 * 16 := Nat.mul_le_mul (by decide) hl; omega)
  have HB := Lib.hid (Below.refl w.heap.size w)
  have hl2 : (l.length : Int) ≤ 16 := by omega
  clear hS hx0 hm hl hc hL
  generalize Cl.all l 7 = L at *
  have hL2 : (L.length : Int) ≤ 100000 := by have := HL.out; omega
  go_enter Try.func5, Try.ntmps5
  go_wp2_with (first
    | go_big_skip
    | (go_at_call 17; refine P1.mono ?_; clear P1; rintro e w1 ⟨u, rfl, hs1, hb1⟩; obtain ⟨a1, c1, rfl, hc1, hx1⟩ := hs1.each; have HB0 := Lib.hid hb1; have HU := Lib.hid hs1; have HX := Lib.hid hx1; clear HB hs1 hb1 hx1; have HB := Lib.hid (Below.refl w1.heap.size w1))
    | (go_at_call 14; refine (R1 _ (HB0.out.trans (HB.out.mono HB0.out.size))).mono ?_; rintro e wz ⟨rfl, hk1⟩; have l2 := HB.out.trans (hk1.below.mono HB.out.size); clear HB hk1; have HB := Lib.hid l2; clear l2)
    | (go_at_call 18; refine (RA _ (HB0.out.trans (HB.out.mono HB0.out.size))).mono ?_; rintro e w2 ⟨u2, rfl, hs2, hb2⟩; have l2 := HB.out.trans (hb2.mono HB.out.size); clear HB; have HB := Lib.hid l2; have HV := Lib.hid hs2; clear l2 hs2 hb2)
    | (go_at_call 15; refine (rsame_any L _ _ _ (HU.out.nextB HB.out) HV.out HL.out).mono ?_; rintro e wz ⟨rfl, hk1⟩; have l2 := HB.out.trans (hk1.below.mono HB.out.size); clear HB hk1; have HB := Lib.hid l2; clear l2))
  clear R1 RA
  go_loopw [6] (fun i wr => ∃ j : Nat, j ≤ L.length ∧ i = .int .i64 j ∧ Below w1.heap.size w1 wr) (fun i _ => msrS L.length i)
  case atStart => exact ⟨0, by omega, rfl, HB.out⟩
  case round =>
    clear HB
    obtain ⟨j, hj, rfl, hb⟩ := hrel
    have HB := Lib.hid hb
    clear hb
    by_cases hlt : j < L.length
    · have z1 : decide ((j : Int) < (L.length : Int)) = true := decide_eq_true (by omega)
      have z2 : (j : Int) < (L.length : Int) := by omega
      obtain ⟨b1, o1, e1, x1⟩ := HX.out j hlt
      have z3 : decide (L[j] 3 < 1) = false := decide_eq_false (by have := HF.out _ (List.getElem_mem hlt); omega)
      have hcell := range_num (x1 _ HB.out) 3 (by omega)
      clear x1
      generalize L[j] = y at *
      subst e1
      go_wp2_with fail
      go_roundw
      case rel => exact ⟨j + 1, by omega, by go_num, HB.out⟩
      case measure => simp [msrS, intOf]; omega
    · have z1 : decide ((j : Int) < (L.length : Int)) = false := decide_eq_false (by omega)
      go_wp2_with fail
      clear z1 hlt hj
      go_loopw [8, 7] (fun i b wr => ∃ j : Nat, j ≤ l.length ∧ i = .int .i64 j ∧ b = .bool ((l.take j).all (Cl.inns 7)) ∧ Below w1.heap.size w1 wr) (fun i _ _ => msrS l.length i)
      case atStart => exact ⟨0, by omega, rfl, rfl, HB.out⟩
      case round =>
        clear HB
        obtain ⟨j, hj, rfl, rfl, hb⟩ := hrel
        have HB := Lib.hid hb
        clear hb
        by_cases hlt : j < l.length
        · have z1 : decide ((j : Int) < (l.length : Int)) = true := decide_eq_true (by omega)
          have z2 : (j : Int) < (l.length : Int) := by omega
          obtain ⟨b1, o1, e1, x1⟩ := HX0.out j hlt
          have F1 : Hid (∀ k, k < 7 → ∀ W, Calls Try.prog 11 #[.int .i64 (k : Nat), .agg #[.int .i64 (l[j] 0), .int .i64 (l[j] 1), .int .i64 (l[j] 2), .int .i64 (l[j] 3)]] W fun e w' => e = .returned (.int .i64 (Cl.far k l[j])) ∧ Kp W.heap.size W w') := Lib.hid fun k hk W => rfar_any k l[j] W hk (HM.out _ (List.getElem_mem hlt)).1
          have HT := Lib.hid (Cl.all_take hlt (Cl.inns 7))
          have X1 : Hid (∀ U, Below w.heap.size w U → U.rangeAt b1 (o1 + j * 10) [.int .i64 (l[j] 0), .int .i64 (l[j] 1), .int .i64 (l[j] 2), .int .i64 (l[j] 3)]) := Lib.hid fun U h => range_vec (x1 U h)
          clear x1
          generalize l[j] = y at *
          subst e1
          generalize (l.take j).all (Cl.inns 7) = p at *
          go_wp2_with fail
          go_loopw [9, 7] (fun i b wr => ∃ n : Nat, n ≤ 7 ∧ i = .int .i64 n ∧ b = .bool (p && Cl.inns n y) ∧ Below w1.heap.size w1 wr) (fun i _ _ => msrS 7 i)
          case atStart => exact ⟨0, by omega, rfl, by simp [Cl.inns], HB.out⟩
          case round =>
            clear HB
            obtain ⟨n, hn, rfl, rfl, hb⟩ := hrel
            have HB := Lib.hid hb
            clear hb
            have HN := Lib.hid (Cl.inns_next n y)
            by_cases hlt2 : n < 7
            · have z4 : decide ((n : Int) < 7) = true := decide_eq_true (by omega)
              have F2 := F1.out n hlt2
              cases hp : (p && Cl.inns n y)
              · have HZ : Hid ((p && Cl.inns (n + 1) y) = false) := Lib.hid (by rw [HN.out, ← Bool.and_assoc, hp]; rfl)
                clear hp F2
                go_wp2_with go_big_skip
                go_roundw
                case rel => exact ⟨n + 1, by omega, by go_num, by rw [HZ.out], HB.out⟩
                case measure => simp [msrS, intOf]; omega
              · cases hy : Cl.inn n y
                · have q : decide (0 ≤ Cl.far n y) = false := hy
                  have HZ : Hid ((p && Cl.inns (n + 1) y) = false) := Lib.hid (by rw [HN.out, ← Bool.and_assoc, hp, hy]; rfl)
                  clear hp hy
                  generalize Cl.far n y = f at *
                  go_wp2_with (first | ((with_reducible show wpList _ _ _ ({ dst := _, op := Op.load 23 (Operand.tmp 68), type := _, pos := _, after := _, guard := _ } :: _) _ _); refine wpList_ldm ty_vec rfl _ rfl _ _ rfl _ rfl (X1.out _ (HB0.out.trans (HB.out.mono HB0.out.size))) ?_) | (go_at_call 11; refine (F2 _).mono ?_; rintro e wz ⟨rfl, hk1⟩; have l2 := HB.out.trans (hk1.below.mono HB.out.size); clear HB hk1; have HB := Lib.hid l2; clear l2))
                  go_roundw
                  case rel => exact ⟨n + 1, by omega, by go_num, by rw [HZ.out], HB.out⟩
                  case measure => simp [msrS, intOf]; omega
                · have q : decide (0 ≤ Cl.far n y) = true := hy
                  have HZ : Hid ((p && Cl.inns (n + 1) y) = true) := Lib.hid (by rw [HN.out, ← Bool.and_assoc, hp, hy]; rfl)
                  clear hp hy
                  generalize Cl.far n y = f at *
                  go_wp2_with (first | ((with_reducible show wpList _ _ _ ({ dst := _, op := Op.load 23 (Operand.tmp 68), type := _, pos := _, after := _, guard := _ } :: _) _ _); refine wpList_ldm ty_vec rfl _ rfl _ _ rfl _ rfl (X1.out _ (HB0.out.trans (HB.out.mono HB0.out.size))) ?_) | (go_at_call 11; refine (F2 _).mono ?_; rintro e wz ⟨rfl, hk1⟩; have l2 := HB.out.trans (hk1.below.mono HB.out.size); clear HB hk1; have HB := Lib.hid l2; clear l2))
                  go_roundw
                  case rel => exact ⟨n + 1, by omega, by go_num, by rw [HZ.out], HB.out⟩
                  case measure => simp [msrS, intOf]; omega
            · have z4 : decide ((n : Int) < 7) = false := decide_eq_false (by omega)
              obtain rfl : n = 7 := by omega
              have HZ : Hid ((l.take (j + 1)).all (Cl.inns 7) = (p && Cl.inns 7 y)) := HT
              clear HT HN
              generalize (p && Cl.inns 7 y) = p2 at *
              go_wp2_with fail
              go_roundw
              case rel => exact ⟨j + 1, by omega, by go_num, by rw [HZ.out], HB.out⟩
              case measure => simp [msrS, intOf]; omega
        · have z1 : decide ((j : Int) < (l.length : Int)) = false := decide_eq_false (by omega)
          obtain rfl : j = l.length := by omega
          rw [List.take_length]
          generalize l.all (Cl.inns 7) = q at *
          cases q
          · go_wp2_with (first | go_big_skip | (go_at_call 9; refine (awake_any _).mono ?_; rintro e wz ⟨rfl, hk1⟩; have l2 := HB.out.trans (hk1.below.mono HB.out.size); clear HB hk1; have HB := Lib.hid l2; clear l2))
            go_ret
            exact ⟨rfl, (HB0.out.trans (HB.out.mono HB0.out.size))⟩
          · obtain rfl := HI.out rfl
            go_wp2_with (first
              | go_big_skip
              | (go_at_call 15; refine (rsame_any _ _ _ _ (HU.out.nextB HB.out) (HS.out.nextB (HB0.out.trans (HB.out.mono HB0.out.size))) HL.out).mono ?_; rintro e wz ⟨rfl, hk1⟩; have l2 := HB.out.trans (hk1.below.mono HB.out.size); clear HB hk1; have HB := Lib.hid l2; clear l2)
              | (go_at_call 9; refine (awake_any _).mono ?_; rintro e wz ⟨rfl, hk1⟩; have l2 := HB.out.trans (hk1.below.mono HB.out.size); clear HB hk1; have HB := Lib.hid l2; clear l2))
            go_ret
            exact ⟨rfl, (HB0.out.trans (HB.out.mono HB0.out.size))⟩
theorem alls_walk (l : List Cn) (v : Value) (w : World) (hS : Sp w v l) :
    Calls Try.prog 5 #[v] w fun e w' => e = .returned (.bool true) ∧ Below w.heap.size w w' := by
  by_cases hc : Cl.chk l = 0
  · exact alls_yes l v w hS hc
  · exact alls_no l v w hS hc
end Go.Proofs.Ytfhlnldiljldcaa
