/-
  Contract of layer 17 (tri): may what goes over a triangle be?
-/
import Derived.Test.YtankjlpanmmogaaGreatTriCode
import Derived.BigGuard
namespace Go.Proofs.YtankjlpanmmogaaGreat
set_option maxRecDepth 100000
open Go.RowKit

/-- may what goes over of a spot be? -/
def Tr.over (s : Sn) : Bool := Tr.inB 0 65535 (s 2) && Tr.small s 6
theorem Tr.may_over (s : Sn) : Tr.mayB s = (Eg.may (s 0) (s 1) && Tr.over s) := by
  unfold Tr.mayB Tr.over
  rw [Bool.and_assoc]
  congr 2
  rw [Bool.eq_iff_iff]; simp [Tr.inB]
set_option linter.unusedSimpArgs false in
set_option maxRecDepth 100000 in
set_option maxHeartbeats 8000000 in
theorem over_any (a b c : Sn) (w : World) :
    Calls Tryz.prog 14 #[.agg #[.int .i64 (a 0), .int .i64 (a 1), .int .i64 (a 2), .int .i64 (a 3), .int .i64 (a 4), .int .i64 (a 5), .int .i64 (a 6), .int .i64 (a 7), .int .i64 (a 8), .int .i64 (b 0), .int .i64 (b 1), .int .i64 (b 2), .int .i64 (b 3), .int .i64 (b 4), .int .i64 (b 5), .int .i64 (b 6), .int .i64 (b 7), .int .i64 (b 8), .int .i64 (c 0), .int .i64 (c 1), .int .i64 (c 2), .int .i64 (c 3), .int .i64 (c 4), .int .i64 (c 5), .int .i64 (c 6), .int .i64 (c 7), .int .i64 (c 8)]] w fun e w' => e = .returned (.bool (Tr.over a && Tr.over b && Tr.over c)) ∧ Kp w.heap.size w w' := by
  have HB : Hid ((Tr.over a && Tr.over b && Tr.over c) = (Tr.over a && Tr.over b && Tr.over c)) := Lib.hid rfl
  have HO := Lib.hid ((Ow.refl w).newAt (w.heap.size) rfl (.int .i64 (a 0)) [.int .i64 (a 1), .int .i64 (a 2), .int .i64 (a 3), .int .i64 (a 4), .int .i64 (a 5), .int .i64 (a 6), .int .i64 (a 7), .int .i64 (a 8), .int .i64 (b 0), .int .i64 (b 1), .int .i64 (b 2), .int .i64 (b 3), .int .i64 (b 4), .int .i64 (b 5), .int .i64 (b 6), .int .i64 (b 7), .int .i64 (b 8), .int .i64 (c 0), .int .i64 (c 1), .int .i64 (c 2), .int .i64 (c 3), .int .i64 (c 4), .int .i64 (c 5), .int .i64 (c 6), .int .i64 (c 7), .int .i64 (c 8)] 27)
  go_enter Tryz.func14, Tryz.ntmps14
  go_wp2_with ((with_reducible show wpList _ _ _ ({ dst := _, op := Op.load 27 (Operand.tmp 1), type := _, pos := _, after := _, guard := _ } :: _) _ _); refine wpList_ldr ty_spots rfl _ rfl _ rfl _ rfl (HO.out.at 0 rfl) ?_)
  go_loopw [8] (fun i wr => (i = .int .i64 0 ∧ Kp w.heap.size w wr) ∨ (i = .int .i64 1 ∧ Tr.over a = true ∧ Kp w.heap.size w wr) ∨ (i = .int .i64 2 ∧ Tr.over a = true ∧ Tr.over b = true ∧ Kp w.heap.size w wr) ∨ (i = .int .i64 3 ∧ Tr.over a = true ∧ Tr.over b = true ∧ Tr.over c = true ∧ Kp w.heap.size w wr)) (fun i _ => emsr3 i)
  case atStart => exact .inl ⟨rfl, HO.out.k⟩
  case round =>
    clear HO
    rcases hrel with ⟨rfl, hb⟩ | ⟨rfl, m1, hb⟩ | ⟨rfl, m1, m2, hb⟩ | ⟨rfl, m1, m2, m3, hb⟩
    · skip
      have HO := Lib.hid ((Ow.of_kp hb).newAt wr.heap.size rfl (.int .i64 (a 0)) [.int .i64 (a 1), .int .i64 (a 2), .int .i64 (a 3), .int .i64 (a 4), .int .i64 (a 5), .int .i64 (a 6), .int .i64 (a 7), .int .i64 (a 8)] 26)
      clear hb
      have IX := fun W => ix27_0 a b c W
      have Z1 := fun W => tin_any 0 65535 (a 2) W
      have HB2 : Hid (Tr.over a = (Tr.inB 0 65535 (a 2) && Tr.small a 6)) := Lib.hid rfl
      cases hz : Tr.inB 0 65535 (a 2)
      · rw [hz] at Z1
        have HZ : Hid (Tr.over a = false) := Lib.hid (by rw [HB2.out, hz]; rfl)
        clear hz HB2
        go_wp2_with (first
          | go_big_skip
          | ((with_reducible show wpList _ _ _ ({ dst := _, op := Op.load 24 (Operand.tmp 15), type := _, pos := _, after := _, guard := _ } :: _) _ _); refine wpList_ldo ty_sixn rfl _ rfl _ _ rfl [.int .i64 (a 0), .int .i64 (a 1), .int .i64 (a 2), .int .i64 (a 3), .int .i64 (a 4), .int .i64 (a 5), .int .i64 (a 6), .int .i64 (a 7), .int .i64 (a 8)] rfl (Rc.some (HO.out.at 0 rfl)) ?_; intro us hus; dsimp only [List.drop, List.take] at hus; subst hus)
          | (go_at_call 40; (with_reducible refine (Z1 _).mono ?_); rintro e w' ⟨rfl, rfl⟩))
        go_ret
        exact ⟨ret_bool (by simp [HB.out, HZ.out]), HO.out.k⟩
      · rw [hz] at Z1
        have HB3 : Hid (Tr.over a = Tr.small a 6) := Lib.hid (by rw [HB2.out, hz]; rfl)
        clear hz HB2
        go_wp2_with (first
          | go_big_skip
          | ((with_reducible show wpList _ _ _ ({ dst := _, op := Op.load 24 (Operand.tmp 15), type := _, pos := _, after := _, guard := _ } :: _) _ _); refine wpList_ldo ty_sixn rfl _ rfl _ _ rfl [.int .i64 (a 0), .int .i64 (a 1), .int .i64 (a 2), .int .i64 (a 3), .int .i64 (a 4), .int .i64 (a 5), .int .i64 (a 6), .int .i64 (a 7), .int .i64 (a 8)] rfl (Rc.some (HO.out.at 0 rfl)) ?_; intro us hus; dsimp only [List.drop, List.take] at hus; subst hus)
          | (go_at_call 40; (with_reducible refine (Z1 _).mono ?_); rintro e w' ⟨rfl, rfl⟩))
        clear IX Z1
        go_loopw [17] (fun i wq => ∃ k : Nat, k ≤ 6 ∧ i = .int .i64 k ∧ Tr.small a k = true ∧ Kp w.heap.size w wq) (fun i _ => msrT 6 i)
        case atStart => exact ⟨0, by omega, rfl, rfl, HO.out.k⟩
        case round =>
          clear HO
          obtain ⟨k, hk, rfl, hs, hb⟩ := hrel
          have HK := Lib.hid hb
          have HS := Lib.hid hs
          clear hb hs
          by_cases hlt : k < 6
          · have z1 : decide ((k : Int) < 6) = true := decide_eq_true (by omega)
            have z2 : (k : Int) < 6 := by omega
            have IX := fun W => ix6s a k hlt W
            have U1 := fun W => tin_any (-1048576) 1048576 (a (3 + k)) W
            have HX := Lib.hid (Tr.small_next a k)
            have HY : Hid (Tr.inB (-1048576) 1048576 (a (3 + k)) = false → Tr.small a 6 = false) := Lib.hid fun h => Tr.small_no hlt (by rw [← h, Bool.eq_iff_iff]; simp [Tr.inB])
            have HE : Hid (decide (-1048576 ≤ a (3 + k) ∧ a (3 + k) ≤ 1048576) = Tr.inB (-1048576) 1048576 (a (3 + k))) := Lib.hid (by rw [Bool.eq_iff_iff]; simp [Tr.inB])
            generalize a (3 + k) = y at *
            cases hy : Tr.inB (-1048576) 1048576 y
            · rw [hy] at U1
              have HZ : Hid (Tr.over a = false) := Lib.hid (by rw [HB3.out]; exact HY.out hy)
              clear HY HX HE hy
              go_wp2_with (first | go_big_skip | (go_at_call 40; (with_reducible refine (U1 _).mono ?_); rintro e w' ⟨rfl, rfl⟩))
              go_ret
              exact ⟨ret_bool (by simp [HB.out, HZ.out]), HK.out⟩
            · rw [hy] at U1
              have HZ : Hid (Tr.small a (k + 1) = true) := Lib.hid (by rw [HX.out, HS.out, HE.out, hy]; rfl)
              clear HX HY HE hy
              go_wp2_with (first | go_big_skip | (go_at_call 40; (with_reducible refine (U1 _).mono ?_); rintro e w' ⟨rfl, rfl⟩))
              go_roundw
              case rel => exact ⟨k + 1, by omega, by go_num, HZ.out, HK.out⟩
              case measure => simp [msrT, intOf]; omega
          · have z1 : decide ((k : Int) < 6) = false := decide_eq_false (by omega)
            obtain rfl : k = 6 := by omega
            have HZ : Hid (Tr.over a = true) := Lib.hid (by rw [HB3.out]; exact HS.out)
            go_wp2_with fail
            go_roundw
            case rel => exact .inr (.inl ⟨by go_num, HZ.out, HK.out⟩)
            case measure => simp [emsr3, intOf]
    · skip
      have HO := Lib.hid ((Ow.of_kp hb).newAt wr.heap.size rfl (.int .i64 (b 0)) [.int .i64 (b 1), .int .i64 (b 2), .int .i64 (b 3), .int .i64 (b 4), .int .i64 (b 5), .int .i64 (b 6), .int .i64 (b 7), .int .i64 (b 8)] 26)
      clear hb
      have IX := fun W => ix27_1 a b c W
      have Z1 := fun W => tin_any 0 65535 (b 2) W
      have HB2 : Hid (Tr.over b = (Tr.inB 0 65535 (b 2) && Tr.small b 6)) := Lib.hid rfl
      cases hz : Tr.inB 0 65535 (b 2)
      · rw [hz] at Z1
        have HZ : Hid (Tr.over b = false) := Lib.hid (by rw [HB2.out, hz]; rfl)
        clear hz HB2
        go_wp2_with (first
          | go_big_skip
          | ((with_reducible show wpList _ _ _ ({ dst := _, op := Op.load 24 (Operand.tmp 15), type := _, pos := _, after := _, guard := _ } :: _) _ _); refine wpList_ldo ty_sixn rfl _ rfl _ _ rfl [.int .i64 (b 0), .int .i64 (b 1), .int .i64 (b 2), .int .i64 (b 3), .int .i64 (b 4), .int .i64 (b 5), .int .i64 (b 6), .int .i64 (b 7), .int .i64 (b 8)] rfl (Rc.some (HO.out.at 0 rfl)) ?_; intro us hus; dsimp only [List.drop, List.take] at hus; subst hus)
          | (go_at_call 40; (with_reducible refine (Z1 _).mono ?_); rintro e w' ⟨rfl, rfl⟩))
        go_ret
        exact ⟨ret_bool (by simp [HB.out, HZ.out]), HO.out.k⟩
      · rw [hz] at Z1
        have HB3 : Hid (Tr.over b = Tr.small b 6) := Lib.hid (by rw [HB2.out, hz]; rfl)
        clear hz HB2
        go_wp2_with (first
          | go_big_skip
          | ((with_reducible show wpList _ _ _ ({ dst := _, op := Op.load 24 (Operand.tmp 15), type := _, pos := _, after := _, guard := _ } :: _) _ _); refine wpList_ldo ty_sixn rfl _ rfl _ _ rfl [.int .i64 (b 0), .int .i64 (b 1), .int .i64 (b 2), .int .i64 (b 3), .int .i64 (b 4), .int .i64 (b 5), .int .i64 (b 6), .int .i64 (b 7), .int .i64 (b 8)] rfl (Rc.some (HO.out.at 0 rfl)) ?_; intro us hus; dsimp only [List.drop, List.take] at hus; subst hus)
          | (go_at_call 40; (with_reducible refine (Z1 _).mono ?_); rintro e w' ⟨rfl, rfl⟩))
        clear IX Z1
        go_loopw [17] (fun i wq => ∃ k : Nat, k ≤ 6 ∧ i = .int .i64 k ∧ Tr.small b k = true ∧ Kp w.heap.size w wq) (fun i _ => msrT 6 i)
        case atStart => exact ⟨0, by omega, rfl, rfl, HO.out.k⟩
        case round =>
          clear HO
          obtain ⟨k, hk, rfl, hs, hb⟩ := hrel
          have HK := Lib.hid hb
          have HS := Lib.hid hs
          clear hb hs
          by_cases hlt : k < 6
          · have z1 : decide ((k : Int) < 6) = true := decide_eq_true (by omega)
            have z2 : (k : Int) < 6 := by omega
            have IX := fun W => ix6s b k hlt W
            have U1 := fun W => tin_any (-1048576) 1048576 (b (3 + k)) W
            have HX := Lib.hid (Tr.small_next b k)
            have HY : Hid (Tr.inB (-1048576) 1048576 (b (3 + k)) = false → Tr.small b 6 = false) := Lib.hid fun h => Tr.small_no hlt (by rw [← h, Bool.eq_iff_iff]; simp [Tr.inB])
            have HE : Hid (decide (-1048576 ≤ b (3 + k) ∧ b (3 + k) ≤ 1048576) = Tr.inB (-1048576) 1048576 (b (3 + k))) := Lib.hid (by rw [Bool.eq_iff_iff]; simp [Tr.inB])
            generalize b (3 + k) = y at *
            cases hy : Tr.inB (-1048576) 1048576 y
            · rw [hy] at U1
              have HZ : Hid (Tr.over b = false) := Lib.hid (by rw [HB3.out]; exact HY.out hy)
              clear HY HX HE hy
              go_wp2_with (first | go_big_skip | (go_at_call 40; (with_reducible refine (U1 _).mono ?_); rintro e w' ⟨rfl, rfl⟩))
              go_ret
              exact ⟨ret_bool (by simp [HB.out, HZ.out]), HK.out⟩
            · rw [hy] at U1
              have HZ : Hid (Tr.small b (k + 1) = true) := Lib.hid (by rw [HX.out, HS.out, HE.out, hy]; rfl)
              clear HX HY HE hy
              go_wp2_with (first | go_big_skip | (go_at_call 40; (with_reducible refine (U1 _).mono ?_); rintro e w' ⟨rfl, rfl⟩))
              go_roundw
              case rel => exact ⟨k + 1, by omega, by go_num, HZ.out, HK.out⟩
              case measure => simp [msrT, intOf]; omega
          · have z1 : decide ((k : Int) < 6) = false := decide_eq_false (by omega)
            obtain rfl : k = 6 := by omega
            have HZ : Hid (Tr.over b = true) := Lib.hid (by rw [HB3.out]; exact HS.out)
            go_wp2_with fail
            go_roundw
            case rel => exact .inr (.inr (.inl ⟨by go_num, m1, HZ.out, HK.out⟩))
            case measure => simp [emsr3, intOf]
    · skip
      have HO := Lib.hid ((Ow.of_kp hb).newAt wr.heap.size rfl (.int .i64 (c 0)) [.int .i64 (c 1), .int .i64 (c 2), .int .i64 (c 3), .int .i64 (c 4), .int .i64 (c 5), .int .i64 (c 6), .int .i64 (c 7), .int .i64 (c 8)] 26)
      clear hb
      have IX := fun W => ix27_2 a b c W
      have Z1 := fun W => tin_any 0 65535 (c 2) W
      have HB2 : Hid (Tr.over c = (Tr.inB 0 65535 (c 2) && Tr.small c 6)) := Lib.hid rfl
      cases hz : Tr.inB 0 65535 (c 2)
      · rw [hz] at Z1
        have HZ : Hid (Tr.over c = false) := Lib.hid (by rw [HB2.out, hz]; rfl)
        clear hz HB2
        go_wp2_with (first
          | go_big_skip
          | ((with_reducible show wpList _ _ _ ({ dst := _, op := Op.load 24 (Operand.tmp 15), type := _, pos := _, after := _, guard := _ } :: _) _ _); refine wpList_ldo ty_sixn rfl _ rfl _ _ rfl [.int .i64 (c 0), .int .i64 (c 1), .int .i64 (c 2), .int .i64 (c 3), .int .i64 (c 4), .int .i64 (c 5), .int .i64 (c 6), .int .i64 (c 7), .int .i64 (c 8)] rfl (Rc.some (HO.out.at 0 rfl)) ?_; intro us hus; dsimp only [List.drop, List.take] at hus; subst hus)
          | (go_at_call 40; (with_reducible refine (Z1 _).mono ?_); rintro e w' ⟨rfl, rfl⟩))
        go_ret
        exact ⟨ret_bool (by simp [HB.out, HZ.out]), HO.out.k⟩
      · rw [hz] at Z1
        have HB3 : Hid (Tr.over c = Tr.small c 6) := Lib.hid (by rw [HB2.out, hz]; rfl)
        clear hz HB2
        go_wp2_with (first
          | go_big_skip
          | ((with_reducible show wpList _ _ _ ({ dst := _, op := Op.load 24 (Operand.tmp 15), type := _, pos := _, after := _, guard := _ } :: _) _ _); refine wpList_ldo ty_sixn rfl _ rfl _ _ rfl [.int .i64 (c 0), .int .i64 (c 1), .int .i64 (c 2), .int .i64 (c 3), .int .i64 (c 4), .int .i64 (c 5), .int .i64 (c 6), .int .i64 (c 7), .int .i64 (c 8)] rfl (Rc.some (HO.out.at 0 rfl)) ?_; intro us hus; dsimp only [List.drop, List.take] at hus; subst hus)
          | (go_at_call 40; (with_reducible refine (Z1 _).mono ?_); rintro e w' ⟨rfl, rfl⟩))
        clear IX Z1
        go_loopw [17] (fun i wq => ∃ k : Nat, k ≤ 6 ∧ i = .int .i64 k ∧ Tr.small c k = true ∧ Kp w.heap.size w wq) (fun i _ => msrT 6 i)
        case atStart => exact ⟨0, by omega, rfl, rfl, HO.out.k⟩
        case round =>
          clear HO
          obtain ⟨k, hk, rfl, hs, hb⟩ := hrel
          have HK := Lib.hid hb
          have HS := Lib.hid hs
          clear hb hs
          by_cases hlt : k < 6
          · have z1 : decide ((k : Int) < 6) = true := decide_eq_true (by omega)
            have z2 : (k : Int) < 6 := by omega
            have IX := fun W => ix6s c k hlt W
            have U1 := fun W => tin_any (-1048576) 1048576 (c (3 + k)) W
            have HX := Lib.hid (Tr.small_next c k)
            have HY : Hid (Tr.inB (-1048576) 1048576 (c (3 + k)) = false → Tr.small c 6 = false) := Lib.hid fun h => Tr.small_no hlt (by rw [← h, Bool.eq_iff_iff]; simp [Tr.inB])
            have HE : Hid (decide (-1048576 ≤ c (3 + k) ∧ c (3 + k) ≤ 1048576) = Tr.inB (-1048576) 1048576 (c (3 + k))) := Lib.hid (by rw [Bool.eq_iff_iff]; simp [Tr.inB])
            generalize c (3 + k) = y at *
            cases hy : Tr.inB (-1048576) 1048576 y
            · rw [hy] at U1
              have HZ : Hid (Tr.over c = false) := Lib.hid (by rw [HB3.out]; exact HY.out hy)
              clear HY HX HE hy
              go_wp2_with (first | go_big_skip | (go_at_call 40; (with_reducible refine (U1 _).mono ?_); rintro e w' ⟨rfl, rfl⟩))
              go_ret
              exact ⟨ret_bool (by simp [HB.out, HZ.out]), HK.out⟩
            · rw [hy] at U1
              have HZ : Hid (Tr.small c (k + 1) = true) := Lib.hid (by rw [HX.out, HS.out, HE.out, hy]; rfl)
              clear HX HY HE hy
              go_wp2_with (first | go_big_skip | (go_at_call 40; (with_reducible refine (U1 _).mono ?_); rintro e w' ⟨rfl, rfl⟩))
              go_roundw
              case rel => exact ⟨k + 1, by omega, by go_num, HZ.out, HK.out⟩
              case measure => simp [msrT, intOf]; omega
          · have z1 : decide ((k : Int) < 6) = false := decide_eq_false (by omega)
            obtain rfl : k = 6 := by omega
            have HZ : Hid (Tr.over c = true) := Lib.hid (by rw [HB3.out]; exact HS.out)
            go_wp2_with fail
            go_roundw
            case rel => exact .inr (.inr (.inr ⟨by go_num, m1, m2, HZ.out, HK.out⟩))
            case measure => simp [emsr3, intOf]
    · have HK := Lib.hid hb
      have HZ := Lib.hid (show (Tr.over a && Tr.over b && Tr.over c) = true by rw [m1, m2, m3]; rfl)
      clear hb m1 m2 m3
      go_wp2_with fail
      go_ret
      exact ⟨ret_bool HZ.out.symm, HK.out⟩
end Go.Proofs.YtankjlpanmmogaaGreat
