/-
  Contracts of layer 16 (view): within, Check, hasSpot, going and the function that it makes, onScreen.
-/
import Derived.Test.YthhfhkenpkfioaaViewPlain
import Derived.Test.YthhfhkenpkfioaaFixCode
import Derived.Test.YthhfhkenpkfioaaClipCheck
import Derived.Test.YthhfhkenpkfioaaMem4
import Derived.BigGuard
namespace Go.Proofs.Ythhfhkenpkfioaa
open Go.RowKit

/-- a number from lo to 4096 -/
def Vw.wi (lo n : Int) : Bool := decide (lo ≤ n ∧ n ≤ 4096)
theorem Vw.wi_iff {lo n : Int} : Vw.wi lo n = true ↔ lo ≤ n ∧ n ≤ 4096 := by simp [Vw.wi]
/-- what Check answers -/
def Vw.chk (x y z u : Int) : Int := if Vw.is x y z u then 0 else 12
theorem Vw.chk_yes {x y z u : Int} (h : Vw.is x y z u = true) : Vw.chk x y z u = 0 := by unfold Vw.chk; rw [h]; rfl
theorem Vw.chk_no {x y z u : Int} (h : Vw.is x y z u = false) : Vw.chk x y z u = 12 := by unfold Vw.chk; rw [h]; rfl
theorem Vw.chk_parts (x y z u : Int) : Vw.chk x y z u = if Vw.wi (-4096) x && Vw.wi (-4096) y && Vw.wi 0 (Fx.clamp (z - x)) && Vw.wi 0 (Fx.clamp (u - y)) then 0 else 12 := by
  unfold Vw.chk
  congr 1
  have h : Vw.is x y z u = (Vw.wi (-4096) x && Vw.wi (-4096) y && Vw.wi 0 (Fx.clamp (z - x)) && Vw.wi 0 (Fx.clamp (u - y))) := by
    rw [Bool.eq_iff_iff, Vw.is_iff]
    simp only [Bool.and_eq_true, Vw.wi_iff]
    unfold Fx.clamp
    (repeat' split) <;> omega
  rw [h]
/-- has a corner a spot? -/
def Vw.hasB (c : Cn) : Bool := Cl.mayB c && decide (1 ≤ c 3)
theorem Vw.hasB_iff {c : Cn} : Vw.hasB c = true ↔ Cl.May c ∧ 1 ≤ c 3 := by simp [Vw.hasB, Cl.may_iff]

theorem vwithin_any (lo n : Int) (w : World) (_hl : lo ≤ 4096) :
    Calls Try.prog 16 #[.int .i64 lo, .int .i64 n] w fun e w' => e = .returned (.bool (Vw.wi lo n)) ∧ w = w' := by
  have S1 := fun W => sat_any n lo 4096 W
  have HE : Hid ((n == Fx.sat n lo 4096) = Vw.wi lo n) := Lib.hid (by
    rw [Bool.eq_iff_iff, Vw.wi_iff, beq_iff_eq]
    unfold Fx.sat
    (repeat' split) <;> omega)
  generalize Fx.sat n lo 4096 = r at *
  go_enter Try.func16, Try.ntmps16
  go_wp2_with (go_at_call 24; refine (S1 _).mono ?_; rintro e w' ⟨rfl, rfl⟩)
  go_ret
  exact ⟨ret_bool HE.out, rfl⟩
set_option maxHeartbeats 1000000 in
theorem vcheck_any (x y z u : Int) (w : World) (hx : -9223372036854775808 ≤ x ∧ x ≤ 9223372036854775807) (hy : -9223372036854775808 ≤ y ∧ y ≤ 9223372036854775807) (hz : -9223372036854775808 ≤ z ∧ z ≤ 9223372036854775807) (hu : -9223372036854775808 ≤ u ∧ u ≤ 9223372036854775807) :
    Calls Try.prog 7 #[.agg #[.int .i64 x, .int .i64 y, .int .i64 z, .int .i64 u]] w fun e w' => e = .returned (.int .i64 (Vw.chk x y z u)) ∧ Kp w.heap.size w w' := by
  have S1 := fun W => sub_any z x W hz hx
  have S2 := fun W => sub_any u y W hu hy
  have W1 := fun W => vwithin_any (-4096) x W (by omega)
  have W2 := fun W => vwithin_any (-4096) y W (by omega)
  have W3 := fun W => vwithin_any 0 (Fx.clamp (z - x)) W (by omega)
  have W4 := fun W => vwithin_any 0 (Fx.clamp (u - y)) W (by omega)
  have HR : Hid (Vw.chk x y z u = if Vw.wi (-4096) x && Vw.wi (-4096) y && Vw.wi 0 (Fx.clamp (z - x)) && Vw.wi 0 (Fx.clamp (u - y)) then 0 else 12) := Lib.hid (Vw.chk_parts x y z u)
  generalize Vw.chk x y z u = r at *
  generalize Fx.clamp (z - x) = p at *
  generalize Fx.clamp (u - y) = q at *
  clear hx hy hz hu
  cases h1 : Vw.wi (-4096) x
  · rw [h1] at W1
    obtain rfl : r = 12 := by rw [HR.out, h1]; rfl
    clear HR
    go_enter Try.func7, Try.ntmps7
    go_wp2_with (first | go_big_skip | (go_at_call 16; (first | (with_reducible refine (W1 _).mono ?_) | (with_reducible refine (W2 _).mono ?_) | (with_reducible refine (W3 _).mono ?_) | (with_reducible refine (W4 _).mono ?_)); rintro e w' ⟨rfl, rfl⟩) | (go_at_call 17; (first | (with_reducible refine (S1 _).mono ?_) | (with_reducible refine (S2 _).mono ?_)); rintro e w' ⟨rfl, rfl⟩))
    go_ret
    exact ⟨rfl, Kp.new _ _ _⟩
  cases h2 : Vw.wi (-4096) y
  · rw [h1] at W1
    rw [h2] at W2
    obtain rfl : r = 12 := by rw [HR.out, h1, h2]; rfl
    clear HR
    go_enter Try.func7, Try.ntmps7
    go_wp2_with (first | go_big_skip | (go_at_call 16; (first | (with_reducible refine (W1 _).mono ?_) | (with_reducible refine (W2 _).mono ?_) | (with_reducible refine (W3 _).mono ?_) | (with_reducible refine (W4 _).mono ?_)); rintro e w' ⟨rfl, rfl⟩) | (go_at_call 17; (first | (with_reducible refine (S1 _).mono ?_) | (with_reducible refine (S2 _).mono ?_)); rintro e w' ⟨rfl, rfl⟩))
    go_ret
    exact ⟨rfl, Kp.new _ _ _⟩
  cases h3 : Vw.wi 0 p
  · rw [h1] at W1
    rw [h2] at W2
    rw [h3] at W3
    obtain rfl : r = 12 := by rw [HR.out, h1, h2, h3]; rfl
    clear HR
    go_enter Try.func7, Try.ntmps7
    go_wp2_with (first | go_big_skip | (go_at_call 16; (first | (with_reducible refine (W1 _).mono ?_) | (with_reducible refine (W2 _).mono ?_) | (with_reducible refine (W3 _).mono ?_) | (with_reducible refine (W4 _).mono ?_)); rintro e w' ⟨rfl, rfl⟩) | (go_at_call 17; (first | (with_reducible refine (S1 _).mono ?_) | (with_reducible refine (S2 _).mono ?_)); rintro e w' ⟨rfl, rfl⟩))
    go_ret
    exact ⟨rfl, Kp.new _ _ _⟩
  cases h4 : Vw.wi 0 q
  · rw [h1] at W1
    rw [h2] at W2
    rw [h3] at W3
    rw [h4] at W4
    obtain rfl : r = 12 := by rw [HR.out, h1, h2, h3, h4]; rfl
    clear HR
    go_enter Try.func7, Try.ntmps7
    go_wp2_with (first | go_big_skip | (go_at_call 16; (first | (with_reducible refine (W1 _).mono ?_) | (with_reducible refine (W2 _).mono ?_) | (with_reducible refine (W3 _).mono ?_) | (with_reducible refine (W4 _).mono ?_)); rintro e w' ⟨rfl, rfl⟩) | (go_at_call 17; (first | (with_reducible refine (S1 _).mono ?_) | (with_reducible refine (S2 _).mono ?_)); rintro e w' ⟨rfl, rfl⟩))
    go_ret
    exact ⟨rfl, Kp.new _ _ _⟩
  · rw [h1] at W1
    rw [h2] at W2
    rw [h3] at W3
    rw [h4] at W4
    obtain rfl : r = 0 := by rw [HR.out, h1, h2, h3, h4]; rfl
    clear HR
    go_enter Try.func7, Try.ntmps7
    go_wp2_with (first | go_big_skip | (go_at_call 16; (first | (with_reducible refine (W1 _).mono ?_) | (with_reducible refine (W2 _).mono ?_) | (with_reducible refine (W3 _).mono ?_) | (with_reducible refine (W4 _).mono ?_)); rintro e w' ⟨rfl, rfl⟩) | (go_at_call 17; (first | (with_reducible refine (S1 _).mono ?_) | (with_reducible refine (S2 _).mono ?_)); rintro e w' ⟨rfl, rfl⟩))
    go_ret
    exact ⟨rfl, Kp.new _ _ _⟩
theorem hasSpot_any (c : Cn) (w : World) :
    Calls Try.prog 14 #[.agg #[.int .i64 (c 0), .int .i64 (c 1), .int .i64 (c 2), .int .i64 (c 3), .int .i64 (c 4), .int .i64 (c 5), .int .i64 (c 6), .int .i64 (c 7), .int .i64 (c 8), .int .i64 (c 9)]] w fun e w' => e = .returned (.bool (Vw.hasB c)) ∧ Kp w.heap.size w w' := by
  have HO : Hid (Ow w _ [(w.heap.size, [.int .i64 (c 0), .int .i64 (c 1), .int .i64 (c 2), .int .i64 (c 3), .int .i64 (c 4), .int .i64 (c 5), .int .i64 (c 6), .int .i64 (c 7), .int .i64 (c 8), .int .i64 (c 9)])]) := Lib.hid ((Ow.refl w).newAt w.heap.size rfl (.int .i64 (c 0)) [.int .i64 (c 1), .int .i64 (c 2), .int .i64 (c 3), .int .i64 (c 4), .int .i64 (c 5), .int .i64 (c 6), .int .i64 (c 7), .int .i64 (c 8), .int .i64 (c 9)] 26)
  cases hm : Cl.mayB c
  · have hE : Cl.farE 0 c = 3 := Cl.farE_may (Cl.pl_iff.2 (by omega)) hm
    have F1 := fun W => far_no 0 c W (by rw [hE]; decide)
    rw [hE] at F1
    have HR : Hid (Vw.hasB c = false) := Lib.hid (by unfold Vw.hasB; rw [hm]; rfl)
    generalize Vw.hasB c = r at *
    obtain rfl := HR.out
    clear hm hE HR
    go_enter Try.func14, Try.ntmps14
    go_wp2_with (first | go_big_skip | ((with_reducible show wpList _ _ _ ({ dst := _, op := Op.load 26 (Operand.tmp 1), type := _, pos := _, after := _, guard := _ } :: _) _ _); refine wpList_ldr ty_corner rfl _ rfl _ rfl _ rfl (HO.out.at 0 rfl) ?_) | (go_at_call 21; (with_reducible refine (F1 _).mono ?_); rintro e wz ⟨rfl, hk1⟩; have l2 := HO.out.call hk1; clear HO hk1; have HO := Lib.hid l2; clear l2))
    go_ret
    exact ⟨rfl, HO.out.k⟩
  · have F1 := fun W => far_yes 0 c W (by omega) (Cl.may_iff.1 hm)
    rw [show ((0 : Nat) : Int) = 0 from rfl] at F1
    have hf : Cl.far 0 c = c 3 - 1 := rfl
    have HR : Hid (Vw.hasB c = decide (0 ≤ Cl.far 0 c)) := Lib.hid (by unfold Vw.hasB; rw [hm, hf, Bool.true_and]; congr 1; rw [eq_iff_iff]; omega)
    generalize Vw.hasB c = r at *
    generalize Cl.far 0 c = f at *
    clear hm hf
    go_enter Try.func14, Try.ntmps14
    go_wp2_with (first | go_big_skip | ((with_reducible show wpList _ _ _ ({ dst := _, op := Op.load 26 (Operand.tmp 1), type := _, pos := _, after := _, guard := _ } :: _) _ _); refine wpList_ldr ty_corner rfl _ rfl _ rfl _ rfl (HO.out.at 0 rfl) ?_) | (go_at_call 21; (with_reducible refine (F1 _).mono ?_); rintro e wz ⟨rfl, hk1⟩; have l2 := HO.out.call hk1; clear HO hk1; have HO := Lib.hid l2; clear l2))
    go_ret
    exact ⟨ret_bool HR.out.symm, HO.out.k⟩
theorem vgoing_any (c : Cn) (w : World) :
    Calls Try.prog 22 #[.agg #[.int .i64 (c 0), .int .i64 (c 1), .int .i64 (c 2), .int .i64 (c 3), .int .i64 (c 4), .int .i64 (c 5), .int .i64 (c 6), .int .i64 (c 7), .int .i64 (c 8), .int .i64 (c 9)]] w fun e w' => ∃ bp : Nat, e = .returned (.func (Fn.func 28) #[] #[.pointer (some ⟨bp, 0, none⟩)]) ∧ Ow w w' [(bp, [.int .i64 (c 3)])] := by
  have HO := Lib.hid (((Ow.refl w).newAt w.heap.size rfl (.int .i64 (c 0)) [.int .i64 (c 1), .int .i64 (c 2), .int .i64 (c 3), .int .i64 (c 4), .int .i64 (c 5), .int .i64 (c 6), .int .i64 (c 7), .int .i64 (c 8), .int .i64 (c 9)] 26).newAt (w.heap.size + 1) (by simp) (.int .i64 (c 3)) [] 3)
  go_enter Try.func22, Try.ntmps22
  go_wp2
  go_ret
  exact ⟨_, rfl, HO.out.drop2⟩
theorem vwent_any (n v d : Int) (bp : Nat) (w : World) (hP : Rc w bp [.int .i64 d]) (hn : -1073741824 ≤ n ∧ n ≤ 1073741824) (hd : 1 ≤ d ∧ d ≤ 1073741824) (hv : -281474976710656 ≤ (n + d) * v ∧ (n + d) * v ≤ 281474976710656) :
    Calls Try.prog 28 #[.int .i64 n, .int .i64 v, .pointer (some ⟨bp, 0, none⟩)] w fun e w' => e = .returned (.int .i64 ((n + d) * v / (2 * d))) ∧ w = w' := by
  have F1 := fun W => floor_ok ((n + d) * v) (2 * d) W (by omega) (by omega)
  rw [Fx.floor_pos (by omega)] at F1
  generalize (n + d) * v / (2 * d) = r at *
  have cp := hP.cell 0 rfl
  obtain ⟨n1, n2⟩ := hn
  obtain ⟨d1, d2⟩ := hd
  obtain ⟨v1, v2⟩ := hv
  clear hP
  go_enter Try.func28, Try.ntmps28
  go_wp2_with (go_at_call 29; (with_reducible refine (F1 _).mono ?_); rintro e w' ⟨rfl, rfl⟩)
  go_ret
  exact ⟨rfl, rfl⟩
theorem onScreen_any (b p : Int) (w : World) (hb : -4096 ≤ b ∧ b ≤ 4096) (hp : -281474976710656 ≤ p ∧ p ≤ 281474976710656) :
    Calls Try.prog 23 #[.int .i64 b, .int .i64 p] w fun e w' => e = .returned (.int .i64 (Vw.sat (16 * b + p) (-524288) 524288)) ∧ w = w' := by
  have S1 := fun W => sat_any (16 * b + p) (-524288) 524288 W
  rw [show Fx.sat (16 * b + p) (-524288) 524288 = Vw.sat (16 * b + p) (-524288) 524288 from rfl] at S1
  generalize Vw.sat (16 * b + p) (-524288) 524288 = r at *
  obtain ⟨b1, b2⟩ := hb
  obtain ⟨p1, p2⟩ := hp
  go_enter Try.func23, Try.ntmps23
  go_wp2_with (go_at_call 24; (with_reducible refine (S1 _).mono ?_); rintro e w' ⟨rfl, rfl⟩)
  go_ret
  exact ⟨rfl, rfl⟩
end Go.Proofs.Ythhfhkenpkfioaa
