/-
  TileOnce: its Go text returns true.
-/
import Derived.Test.YtphgihijobnlhaaTileBox
namespace Go.Proofs.Ytphgihijobnlhaa
open Go.RowKit

theorem Ow.drop1 {w W : World} {q : Nat × List Value} {ms : List (Nat × List Value)} (h : Ow w W (q :: ms)) : Ow w W ms :=
  ⟨h.k, fun x hx => h.all x (List.mem_cons_of_mem _ hx), (List.pairwise_cons.1 h.nd).2⟩
/-- how many rounds are left -/
def msrT (z : Nat) (i : Value) : Nat := z - (intOf i).toNat
set_option linter.unusedSimpArgs false in
set_option maxHeartbeats 8000000 in
theorem once_walk (n m x y : Int) (w : World) :
    Calls Try.prog 3 #[.int .i64 n, .int .i64 m, .agg #[.int .i64 x, .int .i64 y]] w fun e w' => e = .returned (.bool true) ∧ Kp w.heap.size w w' := by
  have HO := Lib.hid ((Ow.refl w).newAt w.heap.size rfl (.int .i64 x) [.int .i64 y] 23)
  cases h : Tl.is n m
  · have P1 := fun W => at_no1 n m x y W h
    have P2 := fun W => count_no n m W h
    have N1 : True := trivial
    have c0 := (HO.out.at 0 rfl).cell 0 rfl
    have c1 := (HO.out.at 0 rfl).cell 1 rfl
    go_enter Try.func3, Try.ntmps3
    go_wp2_with (first | go_big_skip | (go_at_call 6; refine (P1 _).mono ?_; rintro e w1 ⟨rfl, hk1⟩; have l2 := HO.out.call hk1; clear HO hk1 c0 c1; have HO := Lib.hid l2; clear l2) | (go_at_call 7; refine (P2 _).mono ?_; rintro e w' ⟨rfl, rfl⟩) | (go_at_call 8; refine (ris_any n m _).mono ?_; rintro e w' ⟨rfl, rfl⟩) | (go_at_call 10; refine (N1 _).mono ?_; rintro e w' ⟨rfl, rfl⟩) | (go_at_call 9; refine (awake_any _).mono ?_; rintro e w1 ⟨rfl, hk1⟩; have l2 := HO.out.call hk1; clear HO hk1; have HO := Lib.hid l2; clear l2))
    go_ret
    exact ⟨rfl, HO.out.k⟩
  have h9 := Tl.is_iff.1 h
  obtain ⟨a1, a2⟩ := Tl.bg_le (n := n) (by omega) (by omega)
  obtain ⟨b1, b2⟩ := Tl.bg_le (n := m) (by omega) (by omega)
  obtain ⟨c1, c2⟩ := Tl.mul_le a1 a2 b1 b2
  have N1 := fun W => rcount_any n m W h
  have P2 := fun W => count_yes n m W h
  have e1 := c1
  have e2 := c2
  clear c1 c2
  cases hp : Rt.has 0 0 n m x y
  · have P1 := fun W => at_no2 n m x y W h hp
    have HP := Lib.hid hp
    clear hp h9
    have c0 := (HO.out.at 0 rfl).cell 0 rfl
    have c1 := (HO.out.at 0 rfl).cell 1 rfl
    go_enter Try.func3, Try.ntmps3
    go_upto_region 7 with (first | go_big_skip | (go_at_call 6; refine (P1 _).mono ?_; rintro e w1 ⟨rfl, hk1⟩; have l2 := HO.out.call hk1; clear HO hk1 c0 c1; have HO := Lib.hid l2; clear l2) | (go_at_call 7; refine (P2 _).mono ?_; rintro e w' ⟨rfl, rfl⟩) | (go_at_call 8; refine (ris_any n m _).mono ?_; rintro e w' ⟨rfl, rfl⟩) | (go_at_call 10; refine (N1 _).mono ?_; rintro e w' ⟨rfl, rfl⟩))
    have c0 := (HO.out.at 0 rfl).cell 0 rfl
    have c1 := (HO.out.at 0 rfl).cell 1 rfl
    cases h1 : decide (x < 0)
    rotate_left
    · go_wp2_with (first | go_big_skip | (go_at_call 9; refine (awake_any _).mono ?_; rintro e w1 ⟨rfl, hk1⟩; have l2 := HO.out.call hk1; clear HO hk1; have HO := Lib.hid l2; clear l2))
      go_ret
      exact ⟨rfl, HO.out.k⟩
    cases h2 : decide (n ≤ x)
    rotate_left
    · go_wp2_with (first | go_big_skip | (go_at_call 9; refine (awake_any _).mono ?_; rintro e w1 ⟨rfl, hk1⟩; have l2 := HO.out.call hk1; clear HO hk1; have HO := Lib.hid l2; clear l2))
      go_ret
      exact ⟨rfl, HO.out.k⟩
    cases h3 : decide (y < 0)
    rotate_left
    · go_wp2_with (first | go_big_skip | (go_at_call 9; refine (awake_any _).mono ?_; rintro e w1 ⟨rfl, hk1⟩; have l2 := HO.out.call hk1; clear HO hk1; have HO := Lib.hid l2; clear l2))
      go_ret
      exact ⟨rfl, HO.out.k⟩
    cases h4 : decide (m ≤ y)
    rotate_left
    · go_wp2_with (first | go_big_skip | (go_at_call 9; refine (awake_any _).mono ?_; rintro e w1 ⟨rfl, hk1⟩; have l2 := HO.out.call hk1; clear HO hk1; have HO := Lib.hid l2; clear l2))
      go_ret
      exact ⟨rfl, HO.out.k⟩
    exfalso
    simp only [decide_eq_false_iff_not] at h1 h2 h3 h4
    have hf := HP.out
    rw [Rt.has_iff.2 (by omega)] at hf
    cases hf
  · have P1 := fun W => at_yes n m x y W h hp
    have h8 := Rt.has_iff.1 hp
    have R1 := fun W => rat_any n x y W (by omega) (by omega) (by omega) (by omega) (by omega) (by omega)
    have Q1 := fun (k c r : Int) (hA : Tl.At n m k c r) (W : World) => box_yes n m k c r W h hA
    have Q2 : ∀ (k c r : Int) (_ : Tl.At n m k c r) (W : World), Calls Try.prog 12 #[.agg #[.int .i64 (c * 16), .int .i64 (r * 16), .int .i64 (Rt.mn (c * 16 + 16) n), .int .i64 (Rt.mn (r * 16 + 16) m)], .int .i64 x, .int .i64 y] W fun e w' => e = .returned (.bool (k == y / 16 * Tl.bg n + x / 16)) ∧ Kp W.heap.size W w' := fun k c r hA W => by
      rw [← Tl.once hA hp]; exact rhas_any _ _ _ _ x y W
    have h1 : decide (x < 0) = false := decide_eq_false (by omega)
    have h2 : decide (n ≤ x) = false := decide_eq_false (by omega)
    have h3 : decide (y < 0) = false := decide_eq_false (by omega)
    have h4 : decide (m ≤ y) = false := decide_eq_false (by omega)
    have hn1 : 1 ≤ n := by omega
    obtain ⟨z, hz⟩ : ∃ z : Nat, (z : Int) = Tl.bg n * Tl.bg m := ⟨(Tl.bg n * Tl.bg m).toNat, by omega⟩
    have hz2 : z ≤ 256 := by omega
    have HA : Hid (∀ k : Nat, k < z → Tl.At n m k ((k : Int) % Tl.bg n) ((k : Int) / Tl.bg n)) := Lib.hid fun k hk => Tl.at_of hn1 (by omega) (by omega)
    have HQ1 := Lib.hid Q1
    have HQ2 := Lib.hid Q2
    clear hp h9 h8 Q1 Q2
    have hz' : Tl.bg n * Tl.bg m = (z : Int) := hz.symm
    clear hz
    generalize y / 16 * Tl.bg n + x / 16 = N at *
    have c0 := (HO.out.at 0 rfl).cell 0 rfl
    have c1 := (HO.out.at 0 rfl).cell 1 rfl
    go_enter Try.func3, Try.ntmps3
    go_upto_region 7 with (first | go_big_skip | (go_at_call 6; refine (P1 _).mono ?_; rintro e w1 ⟨rfl, hk1⟩; have l2 := HO.out.call hk1; clear HO hk1 c0 c1; have HO := Lib.hid l2; clear l2) | (go_at_call 7; refine (P2 _).mono ?_; rintro e w' ⟨rfl, rfl⟩) | (go_at_call 8; refine (ris_any n m _).mono ?_; rintro e w' ⟨rfl, rfl⟩) | (go_at_call 10; refine (N1 _).mono ?_; rintro e w' ⟨rfl, rfl⟩))
    have c0 := (HO.out.at 0 rfl).cell 0 rfl
    have c1 := (HO.out.at 0 rfl).cell 1 rfl
    go_wp2_with (first | go_big_skip)
    clear c0 c1
    go_loopw [12] (fun i wr => ∃ k : Nat, k ≤ z ∧ i = .int .i64 k ∧ Ow w wr [(w.heap.size, [.int .i64 x, .int .i64 y])]) (fun i _ => msrT z i)
    case atStart => exact ⟨0, Nat.zero_le _, rfl, HO.out⟩
    case round =>
      clear HO
      obtain ⟨k, hk, rfl, ho⟩ := hrel
      have HO := Lib.hid ho
      clear ho
      by_cases hlt : k < z
      · have hA := HA.out k hlt
        have B1 := fun W => HQ1.out k _ _ hA W
        have B2 := fun W => HQ2.out k _ _ hA W
        have z1 : decide ((k : Int) < (z : Int)) = true := decide_eq_true (by omega)
        generalize (k : Int) % Tl.bg n = c at *
        generalize (k : Int) / Tl.bg n = r at *
        clear hA HA HQ1 HQ2
        generalize Rt.mn (c * 16 + 16) n = x2 at *
        generalize Rt.mn (r * 16 + 16) m = x3 at *
        generalize c * 16 = x0 at *
        generalize r * 16 = x1 at *
        cases hq : ((k : Int) == N)
        all_goals
          go_upto_region 13 with (go_at_call 11; refine (B1 _).mono ?_; rintro e w1 ⟨rfl, hk1⟩; have l2 := (HO.out.call hk1).newAt w1.heap.size rfl (.int .i64 x0) [.int .i64 x1, .int .i64 x2, .int .i64 x3] 33; clear HO hk1; have HO := Lib.hid l2; clear l2)
          have c0 := (HO.out.at 1 rfl).cell 0 rfl
          have c1 := (HO.out.at 1 rfl).cell 1 rfl
          go_wp2_with (first
            | go_big_skip
            | ((with_reducible show wpList _ _ _ ({ dst := _, op := Op.load 33 _, type := _, pos := _, after := _, guard := _ } :: _) _ _); refine wpList_ldr ty_rect rfl _ rfl _ rfl _ rfl (HO.out.at 0 rfl) ?_)
            | (go_at_call 12; refine (B2 _).mono ?_; rintro e w1 ⟨rfl, hk1⟩; have l2 := HO.out.call hk1; clear HO hk1 c0 c1; have HO := Lib.hid l2; clear l2))
          go_roundw
          case rel => exact ⟨k + 1, by omega, by go_num, HO.out.drop1⟩
          case measure => simp [msrT, intOf]; omega
      · have z1 : decide ((k : Int) < (z : Int)) = false := decide_eq_false (by omega)
        clear HA HQ1 HQ2
        have c0 := (HO.out.at 0 rfl).cell 0 rfl
        have c1 := (HO.out.at 0 rfl).cell 1 rfl
        go_wp2_with (first
          | go_big_skip
          | (go_at_call 13; refine (R1 _).mono ?_; rintro e w' ⟨rfl, rfl⟩)
          | (go_at_call 9; refine (awake_any _).mono ?_; rintro e w1 ⟨rfl, hk1⟩; have l2 := HO.out.call hk1; clear HO hk1 c0 c1; have HO := Lib.hid l2; clear l2))
        go_ret
        exact ⟨rfl, HO.out.k⟩
end Go.Proofs.Ytphgihijobnlhaa
