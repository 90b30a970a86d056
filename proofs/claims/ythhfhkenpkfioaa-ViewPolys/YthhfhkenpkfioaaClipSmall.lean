/-
  Contracts of layer 15 (clip): upTo, mayBe, far, within, met, going and the function that it makes.
-/
import Derived.Test.YthhfhkenpkfioaaClipLaw
import Derived.Test.YthhfhkenpkfioaaClipRef
import Derived.Test.YthhfhkenpkfioaaMem2
import Derived.BigGuard
namespace Go.Proofs.Ythhfhkenpkfioaa
open Go.RowKit

theorem ty_arr : Ty 24 6 := ⟨by kernel_rfl, _, Try.underlying24, rfl⟩
theorem Rc.six {W : World} {b : Nat} {c : Cn} (h : Rc W b [.int .i64 (c 0), .int .i64 (c 1), .int .i64 (c 2), .int .i64 (c 3), .int .i64 (c 4), .int .i64 (c 5), .int .i64 (c 6), .int .i64 (c 7), .int .i64 (c 8), .int .i64 (c 9)]) : W.rangeAt b 4 [.int .i64 (c 4), .int .i64 (c 5), .int .i64 (c 6), .int .i64 (c 7), .int .i64 (c 8), .int .i64 (c 9)] := fun j v hv => by
  refine (h (4 + j) v ?_).1
  rcases j with _ | _ | _ | _ | _ | _ | j
  all_goals first | exact hv | (simp at hv)
theorem ix6 (c : Cn) (k : Nat) (hk : k < 6) (w : World) : (Instr.index 24 (.agg #[.int .i64 (c 4), .int .i64 (c 5), .int .i64 (c 6), .int .i64 (c 7), .int .i64 (c 8), .int .i64 (c 9)]) (.int .i64 k)).run Try.prog w = .ok (.int .i64 (c (4 + k))) w := by
  rcases k with _ | _ | _ | _ | _ | _ | k
  all_goals first | omega | kernel_rfl
theorem Cl.atE_one (k : Int) (c : Cn) : Cl.atE k [c] = Cl.farE k c := by
  unfold Cl.atE Cl.farE Cl.chk
  cases Cl.pl k <;> cases h : Cl.mayB c <;> simp [h]
theorem Cl.chk_two (a b : Cn) : Cl.chk [a, b] = if Cl.mayB a && Cl.mayB b then 0 else 3 := by
  unfold Cl.chk
  cases h : Cl.mayB a <;> cases h2 : Cl.mayB b <;> simp [h, h2]
theorem upTo_any (m x : Int) (w : World) (hm : 0 ≤ m ∧ m ≤ 9223372036854775807) :
    Calls Try.prog 33 #[.int .i64 m, .int .i64 x] w fun e w' => e = .returned (.bool (Cl.wi m x)) ∧ w = w' := by
  obtain ⟨m1, m2⟩ := hm
  cases h : decide (-m ≤ x)
  all_goals
    go_enter Try.func33, Try.ntmps33
    go_wp2
    go_ret
    exact ⟨ret_bool (by simp at h; rw [Bool.eq_iff_iff, Cl.wi_iff]; simp; try omega), rfl⟩
set_option linter.unusedSimpArgs false in
set_option maxRecDepth 100000 in
set_option maxHeartbeats 8000000 in
theorem mayBe_any (c : Cn) (w : World) :
    Calls Try.prog 31 #[.agg #[.int .i64 (c 0), .int .i64 (c 1), .int .i64 (c 2), .int .i64 (c 3), .int .i64 (c 4), .int .i64 (c 5), .int .i64 (c 6), .int .i64 (c 7), .int .i64 (c 8), .int .i64 (c 9)]] w fun e w' => e = .returned (.bool (Cl.mayB c)) ∧ Kp w.heap.size w w' := by
  have HB : Hid (Cl.mayB c = (Cl.fits c && Cl.small c 6)) := Lib.hid rfl
  have HF : Hid (Cl.fits c = (Cl.wi 1073741824 (c 0) && Cl.wi 1073741824 (c 1) && Cl.wi 1073741824 (c 2) && Cl.wi 1073741824 (c 3))) := Lib.hid rfl
  generalize Cl.mayB c = r at *
  have HO : Hid (Ow w _ [(w.heap.size, [.int .i64 (c 0), .int .i64 (c 1), .int .i64 (c 2), .int .i64 (c 3), .int .i64 (c 4), .int .i64 (c 5), .int .i64 (c 6), .int .i64 (c 7), .int .i64 (c 8), .int .i64 (c 9)])]) := Lib.hid ((Ow.refl w).newAt w.heap.size rfl (.int .i64 (c 0)) [.int .i64 (c 1), .int .i64 (c 2), .int .i64 (c 3), .int .i64 (c 4), .int .i64 (c 5), .int .i64 (c 6), .int .i64 (c 7), .int .i64 (c 8), .int .i64 (c 9)] 26)
  go_enter Try.func31, Try.ntmps31
  go_upto_region 2 with ((with_reducible show wpList _ _ _ ({ dst := _, op := Op.load 24 _, type := _, pos := _, after := _, guard := _ } :: _) _ _); refine wpList_ldm ty_arr rfl _ rfl _ _ rfl _ rfl (Rc.six (c := c) (HO.out.at 0 rfl)) ?_)
  go_loopw [7] (fun i wr => ∃ k : Nat, k ≤ 6 ∧ i = .int .i64 k ∧ Cl.small c k = true ∧ Ow w wr [(w.heap.size, [.int .i64 (c 0), .int .i64 (c 1), .int .i64 (c 2), .int .i64 (c 3), .int .i64 (c 4), .int .i64 (c 5), .int .i64 (c 6), .int .i64 (c 7), .int .i64 (c 8), .int .i64 (c 9)])]) (fun i _ => msrM i)
  case atStart => exact ⟨0, by omega, rfl, rfl, HO.out⟩
  case round =>
    clear HO
    obtain ⟨k, hk, rfl, hs, ho⟩ := hrel
    by_cases hlt : k < 6
    · have z1 : decide ((k : Int) < 6) = true := decide_eq_true (by omega)
      have z2 : (k : Int) < 6 := by omega
      have ix := fun W => ix6 c k hlt W
      have U1 := fun W => upTo_any 1048576 (c (4 + k)) W (by omega)
      have HO := Lib.hid ho
      have HS := Lib.hid hs
      have HX := Lib.hid (Cl.small_next c k)
      have HY : Hid (Cl.wi 1048576 (c (4 + k)) = false → Cl.small c 6 = false) := Lib.hid fun h => Cl.small_no hlt h
      clear ho hs
      generalize c (4 + k) = y at *
      cases hy : Cl.wi 1048576 y
      · rw [hy] at U1
        obtain rfl : r = false := by rw [HB.out, HY.out hy, Bool.and_false]
        clear HB HY HX HF hy
        go_wp2_with (first | go_big_skip | (go_at_call 33; refine (U1 _).mono ?_; rintro e w' ⟨rfl, rfl⟩))
        go_ret
        exact ⟨rfl, HO.out.k⟩
      · rw [hy] at U1
        have HZ : Hid (Cl.small c (k + 1) = true) := Lib.hid (by rw [HX.out, HS.out, hy]; rfl)
        clear HX HY hy
        go_wp2_with (first | go_big_skip | (go_at_call 33; refine (U1 _).mono ?_; rintro e w' ⟨rfl, rfl⟩))
        go_roundw
        case rel => exact ⟨k + 1, by omega, by go_num, HZ.out, HO.out⟩
        case measure => simp [msrM, intOf]; omega
    · have z1 : decide ((k : Int) < 6) = false := decide_eq_false (by omega)
      obtain rfl : k = 6 := by omega
      have HB2 : Hid (r = (Cl.wi 1073741824 (c 0) && Cl.wi 1073741824 (c 1) && Cl.wi 1073741824 (c 2) && Cl.wi 1073741824 (c 3))) := Lib.hid (by rw [HB.out, hs, HF.out, Bool.and_true])
      have c0 := (ho.at 0 rfl).cell 0 rfl
      have c1 := (ho.at 0 rfl).cell 1 rfl
      have c2 := (ho.at 0 rfl).cell 2 rfl
      have c3 := (ho.at 0 rfl).cell 3 rfl
      have HK := Lib.hid ho.k
      clear ho hs HB HF
      have N0 := fun W => upTo_any 1073741824 (c 0) W (by omega)
      have N1 := fun W => upTo_any 1073741824 (c 1) W (by omega)
      have N2 := fun W => upTo_any 1073741824 (c 2) W (by omega)
      have N3 := fun W => upTo_any 1073741824 (c 3) W (by omega)
      generalize c 0 = y0 at *
      generalize c 1 = y1 at *
      generalize c 2 = y2 at *
      generalize c 3 = y3 at *
      cases h0 : Cl.wi 1073741824 y0
      · rw [h0] at N0
        go_wp2_with (first | go_big_skip | (go_at_call 33; (first | (with_reducible refine (N0 _).mono ?_) | (with_reducible refine (N1 _).mono ?_) | (with_reducible refine (N2 _).mono ?_) | (with_reducible refine (N3 _).mono ?_)); rintro e w' ⟨rfl, rfl⟩))
        go_ret
        exact ⟨ret_bool (by rw [HB2.out, h0]; rfl), HK.out⟩
      cases h1 : Cl.wi 1073741824 y1
      · rw [h0] at N0
        rw [h1] at N1
        go_wp2_with (first | go_big_skip | (go_at_call 33; (first | (with_reducible refine (N0 _).mono ?_) | (with_reducible refine (N1 _).mono ?_) | (with_reducible refine (N2 _).mono ?_) | (with_reducible refine (N3 _).mono ?_)); rintro e w' ⟨rfl, rfl⟩))
        go_ret
        exact ⟨ret_bool (by rw [HB2.out, h0, h1]; rfl), HK.out⟩
      cases h2 : Cl.wi 1073741824 y2
      all_goals
        rw [h0] at N0
        rw [h1] at N1
        rw [h2] at N2
        go_wp2_with (first | go_big_skip | (go_at_call 33; (first | (with_reducible refine (N0 _).mono ?_) | (with_reducible refine (N1 _).mono ?_) | (with_reducible refine (N2 _).mono ?_) | (with_reducible refine (N3 _).mono ?_)); rintro e w' ⟨rfl, rfl⟩))
        go_ret
        exact ⟨ret_bool (by rw [HB2.out, h0, h1, h2]; rfl), HK.out⟩
set_option linter.unusedSimpArgs false in
set_option maxRecDepth 100000 in
set_option maxHeartbeats 8000000 in
theorem far_any (k : Nat) (c : Cn) (w : World) (hk : k < 7) (h : ∀ i, i < 4 → -1073741824 ≤ c i ∧ c i ≤ 1073741824) :
    Calls Try.prog 27 #[.int .i64 k, .agg #[.int .i64 (c 0), .int .i64 (c 1), .int .i64 (c 2), .int .i64 (c 3)]] w fun e w' => e = .returned (.int .i64 (Cl.far k c)) ∧ Kp w.heap.size w w' := by
  obtain ⟨x1, x2⟩ := h 0 (by omega)
  obtain ⟨y1, y2⟩ := h 1 (by omega)
  obtain ⟨z1, z2⟩ := h 2 (by omega)
  obtain ⟨v1, v2⟩ := h 3 (by omega)
  clear h
  have HF : Hid ((k = 0 → Cl.far k c = c 3 - 1) ∧ (k = 1 → Cl.far k c = c 2 + c 3) ∧ (k = 2 → Cl.far k c = c 3 - c 2) ∧ (k = 3 → Cl.far k c = 4 * c 3 - c 0) ∧ (k = 4 → Cl.far k c = 4 * c 3 + c 0) ∧ (k = 5 → Cl.far k c = 4 * c 3 - c 1) ∧ (k = 6 → Cl.far k c = 4 * c 3 + c 1)) :=
    Lib.hid ⟨by rintro rfl; rfl, by rintro rfl; rfl, by rintro rfl; rfl, by rintro rfl; rfl, by rintro rfl; rfl, by rintro rfl; rfl, by rintro rfl; rfl⟩
  generalize Cl.far k c = r at *
  generalize c 0 = c0 at *
  generalize c 1 = c1 at *
  generalize c 2 = c2 at *
  generalize c 3 = c3 at *
  obtain rfl | rfl | rfl | rfl | rfl | rfl | rfl : k = 0 ∨ k = 1 ∨ k = 2 ∨ k = 3 ∨ k = 4 ∨ k = 5 ∨ k = 6 := by omega
  · have HE := Lib.hid (HF.out.1 rfl)
    clear hk HF
    go_enter Try.func27, Try.ntmps27
    go_wp2
    go_ret
    exact ⟨ret_int HE.out.symm, Kp.new _ _ _⟩
  · have HE := Lib.hid (HF.out.2.1 rfl)
    clear hk HF
    go_enter Try.func27, Try.ntmps27
    go_wp2
    go_ret
    exact ⟨ret_int HE.out.symm, Kp.new _ _ _⟩
  · have HE := Lib.hid (HF.out.2.2.1 rfl)
    clear hk HF
    go_enter Try.func27, Try.ntmps27
    go_wp2
    go_ret
    exact ⟨ret_int HE.out.symm, Kp.new _ _ _⟩
  · have HE := Lib.hid (HF.out.2.2.2.1 rfl)
    clear hk HF
    go_enter Try.func27, Try.ntmps27
    go_wp2
    go_ret
    exact ⟨ret_int HE.out.symm, Kp.new _ _ _⟩
  · have HE := Lib.hid (HF.out.2.2.2.2.1 rfl)
    clear hk HF
    go_enter Try.func27, Try.ntmps27
    go_wp2
    go_ret
    exact ⟨ret_int HE.out.symm, Kp.new _ _ _⟩
  · have HE := Lib.hid (HF.out.2.2.2.2.2.1 rfl)
    clear hk HF
    go_enter Try.func27, Try.ntmps27
    go_wp2
    go_ret
    exact ⟨ret_int HE.out.symm, Kp.new _ _ _⟩
  · have HE := Lib.hid (HF.out.2.2.2.2.2.2 rfl)
    clear hk HF
    go_enter Try.func27, Try.ntmps27
    go_wp2
    go_ret
    exact ⟨ret_int HE.out.symm, Kp.new _ _ _⟩
end Go.Proofs.Ythhfhkenpkfioaa
