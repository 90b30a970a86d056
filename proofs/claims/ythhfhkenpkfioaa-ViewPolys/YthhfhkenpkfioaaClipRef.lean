/-
  Contracts of the document's own answers for layer 15 (clip): May, Far.
-/
import Derived.Test.YthhfhkenpkfioaaClipRows
import Derived.BigGuard
namespace Go.Proofs.Ythhfhkenpkfioaa
open Go.RowKit

/-- from -m to m -/
def Cl.wi (m x : Int) : Bool := decide (-m ≤ x ∧ x ≤ m)
def Cl.fits (c : Cn) : Bool := Cl.wi 1073741824 (c 0) && Cl.wi 1073741824 (c 1) && Cl.wi 1073741824 (c 2) && Cl.wi 1073741824 (c 3)
def Cl.small (c : Cn) (j : Nat) : Bool := (List.range j).all fun i => Cl.wi 1048576 (c (4 + i))
def Cl.mayB (c : Cn) : Bool := Cl.fits c && Cl.small c 6
theorem Cl.wi_iff {m x : Int} : Cl.wi m x = true ↔ -m ≤ x ∧ x ≤ m := by simp [Cl.wi]
theorem Cl.wi_no {m x : Int} : Cl.wi m x = false ↔ x < -m ∨ m < x := by rw [← Bool.not_eq_true, Cl.wi_iff]; omega
theorem Cl.small_next (c : Cn) (j : Nat) : Cl.small c (j + 1) = (Cl.small c j && Cl.wi 1048576 (c (4 + j))) := by unfold Cl.small; rw [List.range_succ, List.all_append]; simp
theorem Cl.small_no {c : Cn} {j : Nat} (hj : j < 6) (h : Cl.wi 1048576 (c (4 + j)) = false) : Cl.small c 6 = false := by
  rw [← Bool.not_eq_true, Cl.small, List.all_eq_true]
  intro h2
  have := h2 j (List.mem_range.2 hj)
  rw [h] at this; cases this
theorem Cl.may_iff {c : Cn} : Cl.mayB c = true ↔ Cl.May c := by
  unfold Cl.mayB Cl.fits Cl.small Cl.May
  simp only [Bool.and_eq_true, List.all_eq_true, List.mem_range, Cl.wi_iff]
  constructor
  · rintro ⟨⟨⟨⟨h0, h1⟩, h2⟩, h3⟩, h4⟩
    refine ⟨fun i hi => ?_, fun i hi hi2 => ?_⟩
    · rcases i with _ | _ | _ | _ | i
      · exact h0
      · exact h1
      · exact h2
      · exact h3
      · omega
    · have := h4 (i - 4) (by omega)
      rwa [show 4 + (i - 4) = i by omega] at this
  · rintro ⟨h, h4⟩
    exact ⟨⟨⟨⟨h 0 (by omega), h 1 (by omega)⟩, h 2 (by omega)⟩, h 3 (by omega)⟩, fun i hi => h4 (4 + i) (by omega) (by omega)⟩
/-- one of the six numbers that go over a triangle -/
theorem Rc.arr {W : World} {b : Nat} {c : Cn} (h : Rc W b [.int .i64 (c 0), .int .i64 (c 1), .int .i64 (c 2), .int .i64 (c 3), .int .i64 (c 4), .int .i64 (c 5), .int .i64 (c 6), .int .i64 (c 7), .int .i64 (c 8), .int .i64 (c 9)]) (k : Nat) (hk : k < 6) : W.cell? ⟨b, 4 + k, none⟩ = some (.int .i64 (c (4 + k))) := by
  rcases k with _ | _ | _ | _ | _ | _ | k
  · exact h.cell 4 rfl
  · exact h.cell 5 rfl
  · exact h.cell 6 rfl
  · exact h.cell 7 rfl
  · exact h.cell 8 rfl
  · exact h.cell 9 rfl
  · omega
theorem rwithin_any (x m : Int) (w : World) (hm : 0 ≤ m ∧ m ≤ 9223372036854775807) :
    Calls Try.prog 30 #[.int .i64 x, .int .i64 m] w fun e w' => e = .returned (.bool (Cl.wi m x)) ∧ w = w' := by
  obtain ⟨m1, m2⟩ := hm
  cases h : decide (-m ≤ x)
  all_goals
    go_enter Try.func30, Try.ntmps30
    go_wp2
    go_ret
    exact ⟨ret_bool (by simp at h; rw [Bool.eq_iff_iff, Cl.wi_iff]; simp; try omega), rfl⟩
set_option maxHeartbeats 1000000 in
theorem rfits_any (c : Cn) (w : World) :
    Calls Try.prog 25 #[.agg #[.int .i64 (c 0), .int .i64 (c 1), .int .i64 (c 2), .int .i64 (c 3)]] w fun e w' => e = .returned (.bool (Cl.fits c)) ∧ Kp w.heap.size w w' := by
  have N0 := fun W => rwithin_any (c 0) 1073741824 W (by omega)
  have N1 := fun W => rwithin_any (c 1) 1073741824 W (by omega)
  have N2 := fun W => rwithin_any (c 2) 1073741824 W (by omega)
  have N3 := fun W => rwithin_any (c 3) 1073741824 W (by omega)
  have HF : Hid (Cl.fits c = (Cl.wi 1073741824 (c 0) && Cl.wi 1073741824 (c 1) && Cl.wi 1073741824 (c 2) && Cl.wi 1073741824 (c 3))) := Lib.hid rfl
  generalize Cl.fits c = r at *
  generalize c 0 = c0 at *
  generalize c 1 = c1 at *
  generalize c 2 = c2 at *
  generalize c 3 = c3 at *
  cases h0 : Cl.wi 1073741824 c0
  · rw [h0] at N0
    go_enter Try.func25, Try.ntmps25
    go_wp2_with (first | go_big_skip | (go_at_call 30; (first | (with_reducible refine (N0 _).mono ?_) | (with_reducible refine (N1 _).mono ?_) | (with_reducible refine (N2 _).mono ?_) | (with_reducible refine (N3 _).mono ?_)); rintro e w' ⟨rfl, rfl⟩))
    go_ret
    exact ⟨ret_bool (by rw [HF.out, h0]; rfl), Kp.new _ _ _⟩
  cases h1 : Cl.wi 1073741824 c1
  · rw [h0] at N0
    rw [h1] at N1
    go_enter Try.func25, Try.ntmps25
    go_wp2_with (first | go_big_skip | (go_at_call 30; (first | (with_reducible refine (N0 _).mono ?_) | (with_reducible refine (N1 _).mono ?_) | (with_reducible refine (N2 _).mono ?_) | (with_reducible refine (N3 _).mono ?_)); rintro e w' ⟨rfl, rfl⟩))
    go_ret
    exact ⟨ret_bool (by rw [HF.out, h0, h1]; rfl), Kp.new _ _ _⟩
  cases h2 : Cl.wi 1073741824 c2
  all_goals
    rw [h0] at N0
    rw [h1] at N1
    rw [h2] at N2
    go_enter Try.func25, Try.ntmps25
    go_wp2_with (first | go_big_skip | (go_at_call 30; (first | (with_reducible refine (N0 _).mono ?_) | (with_reducible refine (N1 _).mono ?_) | (with_reducible refine (N2 _).mono ?_) | (with_reducible refine (N3 _).mono ?_)); rintro e w' ⟨rfl, rfl⟩))
    go_ret
    exact ⟨ret_bool (by rw [HF.out, h0, h1, h2]; rfl), Kp.new _ _ _⟩
def msrM (i : Value) : Nat := 6 - (intOf i).toNat
set_option maxHeartbeats 2000000 in
theorem rmay_any (c : Cn) (w : World) :
    Calls Try.prog 18 #[.agg #[.int .i64 (c 0), .int .i64 (c 1), .int .i64 (c 2), .int .i64 (c 3), .int .i64 (c 4), .int .i64 (c 5), .int .i64 (c 6), .int .i64 (c 7), .int .i64 (c 8), .int .i64 (c 9)]] w fun e w' => e = .returned (.bool (Cl.mayB c)) ∧ Kp w.heap.size w w' := by
  have F1 := fun W => rfits_any c W
  have HB : Hid (Cl.mayB c = (Cl.fits c && Cl.small c 6)) := Lib.hid rfl
  generalize Cl.mayB c = r at *
  have HO := Lib.hid ((Ow.refl w).newAt w.heap.size rfl (.int .i64 (c 0)) [.int .i64 (c 1), .int .i64 (c 2), .int .i64 (c 3), .int .i64 (c 4), .int .i64 (c 5), .int .i64 (c 6), .int .i64 (c 7), .int .i64 (c 8), .int .i64 (c 9)] 26)
  cases hf : Cl.fits c
  · rw [hf] at F1
    obtain rfl : r = false := by rw [HB.out, hf]; rfl
    clear HB hf
    go_enter Try.func18, Try.ntmps18
    go_wp2_with (first | ((with_reducible show wpList _ _ _ ({ dst := _, op := Op.load 23 _, type := _, pos := _, after := _, guard := _ } :: _) _ _); refine wpList_ldm ty_vec rfl _ rfl _ _ rfl _ rfl (Rc.vec (HO.out.at 0 rfl)) ?_) | (go_at_call 25; refine (F1 _).mono ?_; rintro e wz ⟨rfl, hk1⟩; have l2 := HO.out.call hk1; clear HO hk1; have HO := Lib.hid l2; clear l2))
    go_ret
    exact ⟨rfl, HO.out.k⟩
  · rw [hf] at F1
    have HB2 : Hid (r = Cl.small c 6) := Lib.hid (by rw [HB.out, hf]; rfl)
    clear HB hf
    go_enter Try.func18, Try.ntmps18
    go_wp2_with (first | ((with_reducible show wpList _ _ _ ({ dst := _, op := Op.load 23 _, type := _, pos := _, after := _, guard := _ } :: _) _ _); refine wpList_ldm ty_vec rfl _ rfl _ _ rfl _ rfl (Rc.vec (HO.out.at 0 rfl)) ?_) | (go_at_call 25; refine (F1 _).mono ?_; rintro e wz ⟨rfl, hk1⟩; have l2 := HO.out.call hk1; clear HO hk1; have HO := Lib.hid l2; clear l2))
    go_loopw [3] (fun i wr => ∃ k : Nat, k ≤ 6 ∧ i = .int .i64 k ∧ Cl.small c k = true ∧ Ow w wr [(w.heap.size, [.int .i64 (c 0), .int .i64 (c 1), .int .i64 (c 2), .int .i64 (c 3), .int .i64 (c 4), .int .i64 (c 5), .int .i64 (c 6), .int .i64 (c 7), .int .i64 (c 8), .int .i64 (c 9)])]) (fun i _ => msrM i)
    case atStart => exact ⟨0, by omega, rfl, rfl, HO.out⟩
    case round =>
      clear HO
      obtain ⟨k, hk, rfl, hs, ho⟩ := hrel
      by_cases hlt : k < 6
      · have z1 : decide ((k : Int) < 6) = true := decide_eq_true (by omega)
        have z2 : (k : Int) < 6 := by omega
        have cc := (ho.at 0 rfl).arr k hlt
        have HO := Lib.hid ho
        have HS := Lib.hid hs
        have HX := Lib.hid (Cl.small_next c k)
        have HY : Hid (Cl.wi 1048576 (c (4 + k)) = false → Cl.small c 6 = false) := Lib.hid fun h => Cl.small_no hlt h
        clear ho hs
        generalize c (4 + k) = y at *
        by_cases h1 : y < -1048576
        · have q1 : decide (y < -1048576) = true := decide_eq_true h1
          obtain rfl : r = false := by rw [HB2.out]; exact HY.out (Cl.wi_no.2 (.inl h1))
          clear HB2 HY HX h1
          go_wp2_with go_big_skip
          go_ret
          exact ⟨rfl, HO.out.k⟩
        · have q1 : decide (y < -1048576) = false := decide_eq_false h1
          by_cases h2 : 1048576 < y
          · have q2 : decide (1048576 < y) = true := decide_eq_true h2
            obtain rfl : r = false := by rw [HB2.out]; exact HY.out (Cl.wi_no.2 (.inr h2))
            clear HB2 HY HX h1 h2
            go_wp2_with go_big_skip
            go_ret
            exact ⟨rfl, HO.out.k⟩
          · have q2 : decide (1048576 < y) = false := decide_eq_false h2
            have HZ := Lib.hid (Cl.wi_iff.2 (show -1048576 ≤ y ∧ y ≤ 1048576 by omega))
            clear HY h1 h2
            go_wp2_with go_big_skip
            go_roundw
            case rel => exact ⟨k + 1, by omega, by go_num, by rw [HX.out, HS.out, HZ.out]; rfl, HO.out⟩
            case measure => simp [msrM, intOf]; omega
      · have z1 : decide ((k : Int) < 6) = false := decide_eq_false (by omega)
        obtain rfl : k = 6 := by omega
        obtain rfl : r = true := by rw [HB2.out, hs]
        have HO := Lib.hid ho
        clear ho hs HB2
        go_wp2
        go_ret
        exact ⟨rfl, HO.out.k⟩
end Go.Proofs.Ythhfhkenpkfioaa
