/-
  Contracts of layer 2 (wide), fourth part: a quotient of two words by one.
-/
import Derived.Test.YtiigbpfoaoekhaaWideWalks3
import Derived.Test.YtiigbpfoaoekhaaWidePlain3
import Derived.Deep.DeepCutAuto
import Derived.Deep.CutBlock
namespace Go.Proofs.Ytiigbpfoaoekhaa
open Go.RowKit

/-- how far a word may be shifted up -/
def Wd.lz (y : Int) : Nat := 64 - Lib.bitLen y.toNat
theorem Wd.bitLen_pos (x : Nat) (h0 : x ≠ 0) (h : x < 2 ^ 64) : 1 ≤ Lib.bitLen x := by rw [Lib.bitLen_half x h0 h]; omega
theorem Wd.bitLen_up (x : Nat) (h : x < 2 ^ 64) : x < 2 ^ Lib.bitLen x := by
  rcases Nat.lt_or_ge x (2 ^ Lib.bitLen x) with k | k
  · exact k
  · exfalso
    have e := Lib.bitLen_shift (Lib.bitLen x) x k h
    have hp : 0 < 2 ^ Lib.bitLen x := Nat.two_pow_pos _
    have h1 : x / 2 ^ Lib.bitLen x ≠ 0 := by
      have := (Nat.le_div_iff_mul_le hp (x := 1) (y := x)).2 (by omega)
      omega
    have h2 : x / 2 ^ Lib.bitLen x ≤ x := Nat.div_le_self _ _
    have := Wd.bitLen_pos (x / 2 ^ Lib.bitLen x) h1 (by omega)
    omega
theorem Wd.lz_spec (y : Int) (h0 : 0 < y) (h1 : y ≤ 18446744073709551615) : Wd.lz y ≤ 63 ∧ 9223372036854775808 ≤ y * 2 ^ Wd.lz y ∧ y * 2 ^ Wd.lz y ≤ 18446744073709551615 := by
  obtain ⟨x, rfl⟩ := Int.eq_ofNat_of_zero_le (Int.le_of_lt h0)
  have hx : x < 2 ^ 64 := by omega
  have hle := Lib.bitLen_le x 64 (by omega) hx
  have hpos := Wd.bitLen_pos x (by omega) hx
  have hup := Wd.bitLen_up x hx
  have hlow : 2 ^ (Lib.bitLen x - 1) ≤ x := by
    rcases Nat.lt_or_ge x (2 ^ (Lib.bitLen x - 1)) with k | k
    · have := Lib.bitLen_le x (Lib.bitLen x - 1) (by omega) k; omega
    · exact k
  unfold Wd.lz
  rw [Int.toNat_natCast]
  generalize Lib.bitLen x = b at *
  have e1 : 2 ^ b * 2 ^ (64 - b) = 2 ^ 64 := by rw [← Nat.pow_add, show b + (64 - b) = 64 by omega]
  have e2 : 2 ^ (b - 1) * 2 ^ (64 - b) = 2 ^ 63 := by rw [← Nat.pow_add, show b - 1 + (64 - b) = 63 by omega]
  have hp : 0 < 2 ^ (64 - b) := Nat.two_pow_pos _
  have k1 : x * 2 ^ (64 - b) < 2 ^ b * 2 ^ (64 - b) := Nat.mul_lt_mul_of_pos_right hup hp
  have k2 : 2 ^ (b - 1) * 2 ^ (64 - b) ≤ x * 2 ^ (64 - b) := Nat.mul_le_mul_right _ hlow
  have e3 : ((x * 2 ^ (64 - b) : Nat) : Int) = (x : Int) * 2 ^ (64 - b) := by simp
  rw [← e3]
  generalize x * 2 ^ (64 - b) = z at *
  omega

set_option maxHeartbeats 400000 in
theorem lz64_any (y : Int) (w : World) (h0 : 0 < y) (h1 : y ≤ 18446744073709551615) :
    Calls Try.prog 64 #[.int .u64 y] w fun e w' => e = .returned (.int .i64 (Wd.lz y)) ∧ w = w' := by
  have hle := Lib.bitLen_le y.toNat 64 (by omega) (by omega)
  have HE : Hid ((64 : Int) - (Lib.bitLen y.toNat : Nat) = (Wd.lz y : Nat)) := by unfold Wd.lz; show (64 : Int) - _ = _; omega
  go_enter Try.func64, Try.ntmps64
  go_wp2_with fail
  refine (len64_any _ _ (by omega) h1).mono ?_
  rintro e w' ⟨rfl, rfl⟩
  go_wp2
  go_ret
  exact ⟨ret_int HE.out, rfl⟩

theorem Wd.mask32_int (a : Int) (h0 : 0 ≤ a) (h1 : a ≤ 18446744073709551615) : bits .and .u64 a 4294967295 = a % 4294967296 := by
  obtain ⟨n, rfl⟩ := Int.eq_ofNat_of_zero_le h0
  rw [Wd.mask32 n (by omega)]; omega

set_option maxHeartbeats 1000000 in
theorem div64_low (l y : Int) (w : World) (l0 : 0 ≤ l) (l1 : l ≤ 18446744073709551615) (yp : 0 < y) (y1 : y ≤ 18446744073709551615) :
    Calls Try.prog 59 #[.int .u64 0, .int .u64 l, .int .u64 y] w fun e w' => e = .returned (.tuple #[.int .u64 (l / y), .int .u64 (l % y)]) ∧ ∃ n, w' = w.drewN n := by
  have yb : (y == 0) = false := by simp; omega
  have yh : ¬ y ≤ 0 := by omega
  have yn : y ≠ 0 := by omega
  have m1 := Int.ediv_nonneg l0 (Int.le_of_lt yp)
  have m2 := Int.ediv_le_self y l0
  have m3 := Int.emod_nonneg l yn
  have m4 := Int.emod_lt_of_pos l yp
  go_enter Try.func59, Try.ntmps59
  go_wp2
  go_quiet (fail)
  go_wp2
  go_ret2
  exact ⟨rfl, _, rfl⟩

set_option maxHeartbeats 1000000 in
set_option maxRecDepth 100000 in
theorem div64_high (h l y : Int) (w : World) (h0 : 0 < h) (h1 : h < y) (l0 : 0 ≤ l) (l1 : l ≤ 18446744073709551615) (y1 : y ≤ 18446744073709551615) :
    Calls Try.prog 59 #[.int .u64 h, .int .u64 l, .int .u64 y] w fun e w' => e = .returned (.tuple #[.int .u64 ((h * 18446744073709551616 + l) / y), .int .u64 ((h * 18446744073709551616 + l) % y)]) ∧ ∃ n, w' = w.drewN n := by
  obtain ⟨s1, s2, s3⟩ := Wd.lz_spec y (by omega) y1
  have yb : (y == 0) = false := by simp; omega
  have hb : (h == 0) = false := by simp; omega
  have yh : ¬ y ≤ h := by omega
  have yp : 0 < y := by omega
  obtain ⟨eU, U1, U2, eN⟩ := Wd.scaled h l y (Wd.lz y) s1 (by omega) l0 l1 s3 h1
  obtain ⟨eQ, eR⟩ := Wd.unscaled (h * 18446744073709551616 + l) y (Wd.lz y)
  have V12 := Wd.u_bd (l * 2 ^ Wd.lz y)
  rw [← eN] at eQ eR
  generalize eUd : h * 2 ^ Wd.lz y + l / 2 ^ (64 - Wd.lz y) = U at *
  generalize eV : IntKind.u64.wrap (l * 2 ^ Wd.lz y) = V at *
  generalize eY : y * 2 ^ Wd.lz y = Y at *
  obtain ⟨V1, V2⟩ := V12
  have HQ := Lib.hid eQ
  have HR := Lib.hid eR
  clear eQ eR eN eUd
  have HT := Lib.hid (Wd.two_steps U V Y U1 U2 V1 (by omega))
  have ey0 := Wd.mask32_int Y (by omega) s3
  have ev0 := Wd.mask32_int V V1 (by omega)
  have eYs : Y = Y / 4294967296 * 4294967296 + Y % 4294967296 := by omega
  have HYs := Lib.hid eYs
  clear eYs
  have hd1 : 2147483648 ≤ Y / 4294967296 := by omega
  have hd2 : Y / 4294967296 ≤ 4294967295 := by omega
  have hd0 : 0 ≤ Y % 4294967296 := by omega
  have hd0' : Y % 4294967296 ≤ 4294967295 := by omega
  have hv1 : 0 ≤ V / 4294967296 := by omega
  have hv1' : V / 4294967296 ≤ 4294967295 := by omega
  have hv0 : 0 ≤ V % 4294967296 := by omega
  have hv0' : V % 4294967296 ≤ 4294967295 := by omega
  obtain ⟨g1, g2, g3, g4, g5⟩ := Wd.guess (u := V / 4294967296) HYs.out hd1 hd0 (by omega) U1 U2 (by omega)
  have g6 : 0 ≤ U / (Y / 4294967296) * (Y / 4294967296) := Int.mul_nonneg g1 (by omega)
  generalize ey1 : Y / 4294967296 = d1 at *
  generalize ed0 : Y % 4294967296 = d0 at *
  generalize ew1 : V / 4294967296 = v1 at *
  generalize ew0 : V % 4294967296 = v0 at *
  go_enter Try.func59, Try.ntmps59
  go_wp2_with fail
  refine (lz64_any _ _ yp y1).mono ?_
  rintro e w' ⟨rfl, rfl⟩
  go_upto_block 0 with fail
  go_cut [15] (fun s15 wx => s15 = .int .u64 (Wd.nq U v1 Y) ∧ wx = w)
  case first =>
    go_wp2
    go_loop [15, 16] (fun a b => ∃ q r : Int, a = .int .u64 q ∧ b = .int .u64 r ∧ 0 ≤ q ∧ q ≤ 4294967297 ∧ 0 ≤ r ∧ r < 4294967296 ∧ U = q * d1 + r ∧ Wd.nq U v1 Y ≤ q) (fun a _ => (intOf a).toNat)
    case atStart => exact ⟨_, _, rfl, rfl, g1, g2, g3, by omega, by omega, g5⟩
    case round =>
      obtain ⟨q, r, rfl, rfl, q1, q2, r1, r2, eq, nqq⟩ := hrel
      have HE := Lib.hid eq
      clear eq
      have n0 := (Wd.nq_bd (u := v1) U1 U2 hv1 (by omega)).1
      by_cases hq : q < 4294967296
      · have hp1 : 0 ≤ q * d0 := Int.mul_nonneg q1 hd0
        have hp2 : q * d0 ≤ 4294967295 * 4294967295 := Int.mul_le_mul (by omega) hd0' hd0 (by omega)
        by_cases ht : 4294967296 * r + v1 < q * d0
        · have hn := Wd.too_great HYs.out (by omega) HE.out ht
          have HE2 : Hid (U = (q - 1) * d1 + (r + d1)) := by have := HE.out; show U = _; rw [this, Int.sub_mul]; omega
          by_cases hr : r + d1 < 4294967296
          · go_wp2
            go_round
            case rel => exact ⟨q - 1, r + d1, rfl, rfl, by omega, by omega, by omega, hr, HE2.out, hn⟩
            case measure => simp [intOf]; omega
          · go_wp2
            go_meet
            exact ⟨congrArg (Value.int .u64) (Wd.found' HYs.out (by omega) HE2.out hn hv1 hd0 (by omega) (by omega) (by omega) (by omega)), rfl⟩
        · go_wp2
          go_meet
          exact ⟨congrArg (Value.int .u64) (Wd.found HYs.out (by omega) HE.out nqq (by omega)), rfl⟩
      · have hn := Wd.too_great' (u := v1) U1 U2 hv1 (by omega) (Int.not_lt.1 hq)
        have HE2 : Hid (U = (q - 1) * d1 + (r + d1)) := by have := HE.out; show U = _; rw [this, Int.sub_mul]; omega
        by_cases hr : r + d1 < 4294967296
        · go_wp2
          go_round
          case rel => exact ⟨q - 1, r + d1, rfl, rfl, by omega, by omega, by omega, hr, HE2.out, hn⟩
          case measure => simp [intOf]; omega
        · go_wp2
          go_meet
          exact ⟨congrArg (Value.int .u64) (Wd.found' HYs.out (by omega) HE2.out hn hv1 hd0 (by omega) (by omega) (by omega) (by omega)), rfl⟩
  case rest =>
    obtain ⟨rfl, rfl⟩ := hcut
    clear g1 g2 g3 g4 g5 g6
    obtain ⟨n1, n2⟩ := Wd.nq_bd (u := v1) U1 U2 hv1 (by omega)
    obtain ⟨R1, R2⟩ := Wd.nr_bd (u := v1) U1 U2
    have eL := Wd.left_word (u := v1) U1 U2 s3
    generalize eq1 : Wd.nq U v1 Y = Q1 at *
    generalize er1 : Wd.nr U v1 Y = R at *
    have HQ1 := Lib.hid eq1
    have HR1 := Lib.hid er1
    clear eq1 er1
    obtain ⟨g1, g2, g3, g4, g5⟩ := Wd.guess (u := v0) HYs.out hd1 hd0 (by omega) R1 R2 (by omega)
    have g6 : 0 ≤ R / d1 * d1 := Int.mul_nonneg g1 (by omega)
    have eL2 := Wd.left_word (u := v0) R1 R2 s3
    obtain ⟨S1, S2⟩ := Wd.nr_bd (u := v0) R1 R2
    have HL2 := Lib.hid eL2
    clear eL2
    go_upto_block 2 with fail
    go_cut [18] (fun s18 wx => s18 = .int .u64 (Wd.nq R v0 Y) ∧ wx = wc)
    case first =>
      go_wp2
      go_loop [18, 16] (fun a b => ∃ q r : Int, a = .int .u64 q ∧ b = .int .u64 r ∧ 0 ≤ q ∧ q ≤ 4294967297 ∧ 0 ≤ r ∧ r < 4294967296 ∧ R = q * d1 + r ∧ Wd.nq R v0 Y ≤ q) (fun a _ => (intOf a).toNat)
      case atStart => exact ⟨_, _, rfl, rfl, g1, g2, g3, by omega, by omega, g5⟩
      case round =>
        obtain ⟨q, r, rfl, rfl, q1, q2, r1, r2, eq, nqq⟩ := hrel
        have HE := Lib.hid eq
        clear eq
        have n0 := (Wd.nq_bd (u := v0) R1 R2 hv0 (by omega)).1
        by_cases hq : q < 4294967296
        · have hp1 : 0 ≤ q * d0 := Int.mul_nonneg q1 hd0
          have hp2 : q * d0 ≤ 4294967295 * 4294967295 := Int.mul_le_mul (by omega) hd0' hd0 (by omega)
          by_cases ht : 4294967296 * r + v0 < q * d0
          · have hn := Wd.too_great HYs.out (by omega) HE.out ht
            have HE2 : Hid (R = (q - 1) * d1 + (r + d1)) := by have := HE.out; show R = _; rw [this, Int.sub_mul]; omega
            by_cases hr : r + d1 < 4294967296
            · go_wp2
              go_round
              case rel => exact ⟨q - 1, r + d1, rfl, rfl, by omega, by omega, by omega, hr, HE2.out, hn⟩
              case measure => simp [intOf]; omega
            · go_wp2
              go_meet
              exact ⟨congrArg (Value.int .u64) (Wd.found' HYs.out (by omega) HE2.out hn hv0 hd0 (by omega) (by omega) (by omega) (by omega)), rfl⟩
          · go_wp2
            go_meet
            exact ⟨congrArg (Value.int .u64) (Wd.found HYs.out (by omega) HE.out nqq (by omega)), rfl⟩
        · have hn := Wd.too_great' (u := v0) R1 R2 hv0 (by omega) (Int.not_lt.1 hq)
          have HE2 : Hid (R = (q - 1) * d1 + (r + d1)) := by have := HE.out; show R = _; rw [this, Int.sub_mul]; omega
          by_cases hr : r + d1 < 4294967296
          · go_wp2
            go_round
            case rel => exact ⟨q - 1, r + d1, rfl, rfl, by omega, by omega, by omega, hr, HE2.out, hn⟩
            case measure => simp [intOf]; omega
          · go_wp2
            go_meet
            exact ⟨congrArg (Value.int .u64) (Wd.found' HYs.out (by omega) HE2.out hn hv0 hd0 (by omega) (by omega) (by omega) (by omega)), rfl⟩
    case rest =>
      obtain ⟨rfl, rfl⟩ := hcut
      clear g1 g2 g3 g4 g5 g6
      obtain ⟨m1, m2⟩ := Wd.nq_bd (u := v0) R1 R2 hv0 (by omega)
      have eL2 := HL2.out
      generalize eq0 : Wd.nq R v0 Y = Q0 at *
      generalize er0 : Wd.nr R v0 Y = S at *
      have HQ0 := Lib.hid eq0
      have HR0 := Lib.hid er0
      clear eq0 er0
      go_wp2
      go_ret2
      refine ⟨ret_two ?_ ?_, 0, rfl⟩
      · rw [← HQ.out, HT.out.1]
      · rw [← HR.out, HT.out.2]

theorem div64_any (h l y : Int) (w : World) (h0 : 0 ≤ h) (h1 : h < y) (l0 : 0 ≤ l) (l1 : l ≤ 18446744073709551615) (y1 : y ≤ 18446744073709551615) :
    Calls Try.prog 59 #[.int .u64 h, .int .u64 l, .int .u64 y] w fun e w' => e = .returned (.tuple #[.int .u64 ((h * 18446744073709551616 + l) / y), .int .u64 ((h * 18446744073709551616 + l) % y)]) ∧ ∃ n, w' = w.drewN n := by
  by_cases hz : h = 0
  · subst hz
    have := div64_low l y w l0 l1 (by omega) y1
    rwa [Int.zero_mul, Int.zero_add]
  · exact div64_high h l y w (by omega) h1 l0 l1 y1
end Go.Proofs.Ytiigbpfoaoekhaa
