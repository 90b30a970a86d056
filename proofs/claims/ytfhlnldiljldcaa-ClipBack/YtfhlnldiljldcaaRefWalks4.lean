/-
  Contracts of the document's own answers for layer 2, fourth part: digits held against each other, single bits, amounts.
-/
import Derived.Test.YtfhlnldiljldcaaRefEq
import Derived.Test.YtfhlnldiljldcaaRefPlain4
namespace Go.Proofs.Ytfhlnldiljldcaa
open Go.RowKit

/-- below 0 -/
def Wd.neg (x : Int) : Bool := decide (Wd.hi x < 0)

set_option maxHeartbeats 400000 in
theorem rbelow_any (x : Int) (w : World) :
    Calls Try.prog 45 #[.agg #[.int .i64 (Wd.dg (x) 0), .int .i64 (Wd.dg (x) 1), .int .i64 (Wd.dg (x) 2), .int .i64 (Wd.dg (x) 3), .int .i64 (Wd.dg (x) 4), .int .i64 (Wd.dg (x) 5), .int .i64 (Wd.dg (x) 6), .int .i64 (Wd.dg (x) 7)]] w fun e w' => e = .returned (.bool (Wd.neg x)) ∧ Kp w.heap.size w w' := by
  have HT := Lib.hid (Wd.top_digit x)
  go_enter Try.func45, Try.ntmps45
  go_wp2
  go_ret
  exact ⟨ret_bool (by unfold Wd.neg; rw [decide_eq_decide]; exact HT.out), (Kp.refl _ _).alloc (Nat.le_refl _) _ _⟩

set_option maxHeartbeats 400000 in
theorem rless_any (x y : Int) (w : World) :
    Calls Try.prog 43 #[.agg #[.int .i64 (Wd.dg (x) 0), .int .i64 (Wd.dg (x) 1), .int .i64 (Wd.dg (x) 2), .int .i64 (Wd.dg (x) 3), .int .i64 (Wd.dg (x) 4), .int .i64 (Wd.dg (x) 5), .int .i64 (Wd.dg (x) 6), .int .i64 (Wd.dg (x) 7)], .agg #[.int .i64 (Wd.dg (y) 0), .int .i64 (Wd.dg (y) 1), .int .i64 (Wd.dg (y) 2), .int .i64 (Wd.dg (y) 3), .int .i64 (Wd.dg (y) 4), .int .i64 (Wd.dg (y) 5), .int .i64 (Wd.dg (y) 6), .int .i64 (Wd.dg (y) 7)]] w fun e w' => e = .returned (.bool (Wd.ltD x y)) ∧ Kp w.heap.size w w' := by
  go_enter Try.func43, Try.ntmps43
  go_wp2
  go_loopw [5] (fun i wr => ∃ k : Nat, k ≤ 8 ∧ i = .int .i64 ((k : Int) - 1) ∧ Wd.Top x y k ∧ Row wr w.heap.size (Wd.dg x) ∧ Row wr (w.heap.size + 1) (Wd.dg y) ∧ Kp w.heap.size w wr) (fun i _ => (intOf i + 1).toNat)
  case atStart =>
    exact ⟨8, by omega, rfl, Wd.top_start x y, (Row.new w _ _ rfl).alloc _ _, Row.new _ _ _ (by simp), ((Kp.refl _ _).alloc (Nat.le_refl _) _ _).alloc (by simp) _ _⟩
  case round =>
    obtain ⟨k, hk, rfl, hT, hX, hY, hK⟩ := hrel
    have HT := Lib.hid hT; have HX := Lib.hid hX; have HY := Lib.hid hY; have HK := Lib.hid hK
    have hxc := hX.cell; have hyc := hY.cell
    clear hT hX hY hK
    rcases k with _ | m
    · go_wp2
      go_ret
      exact ⟨ret_bool (Wd.ltD_none HT.out).symm, HK.out⟩
    · have hm : m < 8 := by omega
      have ei : ((m + 1 : Nat) : Int) - 1 = (m : Int) := by omega
      rw [ei]
      clear ei
      obtain ⟨x1, x2⟩ := Wd.dg_bd x m
      obtain ⟨y1, y2⟩ := Wd.dg_bd y m
      by_cases he : Wd.dg x m = Wd.dg y m
      · have hb : (Wd.dg x m != Wd.dg y m) = false := by simpa using he
        have HE := Lib.hid he
        clear he
        go_wp2
        go_quiet (fail)
        go_wp2
        exact ⟨⟨m, by omega, rfl, HT.out.down hm HE.out, HX.out.drewN _, HY.out.drewN _, HK.out.drewN _⟩, by simp [intOf]⟩
      · have hb : (Wd.dg x m != Wd.dg y m) = true := by simpa using he
        have HE := Lib.hid he
        clear he
        go_wp2
        go_quiet (fail)
        go_wp2
        go_quiet (fail)
        go_wp2
        go_ret
        exact ⟨ret_bool (Wd.ltD_at hm HT.out HE.out), (HK.out.drewN _).drewN _⟩

set_option maxHeartbeats 400000 in
theorem rbit_any (x : Int) (k : Nat) (w : World) (hk : k < 128) :
    Calls Try.prog 42 #[.agg #[.int .i64 (Wd.dg (x) 0), .int .i64 (Wd.dg (x) 1), .int .i64 (Wd.dg (x) 2), .int .i64 (Wd.dg (x) 3), .int .i64 (Wd.dg (x) 4), .int .i64 (Wd.dg (x) 5), .int .i64 (Wd.dg (x) 6), .int .i64 (Wd.dg (x) 7)], .int .i64 k] w fun e w' => e = .returned (.int .i64 (Wd.bt x k)) ∧ Kp w.heap.size w w' := by
  have HB := Lib.hid (Wd.dg_bit x k)
  have hk16 : k / 16 < 8 := by omega
  obtain ⟨d1, d2⟩ := Wd.dg_bd x (k / 16)
  have hX : Row (w.alloc (.cells #[.int .i64 (Wd.dg x 0), .int .i64 (Wd.dg x 1), .int .i64 (Wd.dg x 2), .int .i64 (Wd.dg x 3), .int .i64 (Wd.dg x 4), .int .i64 (Wd.dg x 5), .int .i64 (Wd.dg x 6), .int .i64 (Wd.dg x 7)] 62)) w.heap.size (Wd.dg x) := Row.new w _ _ rfl
  have hxc := hX.cell (k / 16) hk16
  clear hX
  go_enter Try.func42, Try.ntmps42
  go_wp2
  go_loop [5, 6] (fun n i => ∃ c : Nat, c ≤ k % 16 ∧ i = .int .i64 c ∧ n = .int .i64 (Wd.dg x (k / 16) / 2 ^ c)) (fun _ i => 16 - (intOf i).toNat)
  case atStart => exact ⟨0, by omega, rfl, by simp⟩
  case round =>
    obtain ⟨c, hc, rfl, rfl⟩ := hrel
    have n0 : 0 ≤ Wd.dg x (k / 16) / 2 ^ c := Int.ediv_nonneg d1 (Int.le_of_lt (Wd.pow2 c))
    have n1 : Wd.dg x (k / 16) / 2 ^ c ≤ 65535 := Int.le_trans (Int.ediv_le_self _ d1) d2
    have hc16 : k % 16 < 16 := Nat.mod_lt _ (by omega)
    have HH := Lib.hid (Wd.half_pow (Wd.dg x (k / 16)) c)
    by_cases hlt : c < k % 16
    · have hlt' : (c : Int) < (k : Int) % 16 := by omega
      go_wp2
      go_round
      case rel => exact ⟨c + 1, by omega, by go_num, by rw [HH.out]⟩
      case measure => simp [intOf]; omega
    · obtain rfl : c = k % 16 := by omega
      have hlt' : ¬ (((k % 16 : Nat) : Int) < (k : Int) % 16) := by omega
      go_wp2
      go_ret
      exact ⟨ret_int HB.out, (Kp.refl _ _).alloc (Nat.le_refl _) _ _⟩

set_option maxHeartbeats 400000 in
theorem ramount_any (x : Int) (w : World) :
    Calls Try.prog 40 #[.agg #[.int .i64 (Wd.dg (x) 0), .int .i64 (Wd.dg (x) 1), .int .i64 (Wd.dg (x) 2), .int .i64 (Wd.dg (x) 3), .int .i64 (Wd.dg (x) 4), .int .i64 (Wd.dg (x) 5), .int .i64 (Wd.dg (x) 6), .int .i64 (Wd.dg (x) 7)]] w fun e w' => e = .returned (.agg #[.int .i64 (Wd.dg (Wd.am x) 0), .int .i64 (Wd.dg (Wd.am x) 1), .int .i64 (Wd.dg (Wd.am x) 2), .int .i64 (Wd.dg (Wd.am x) 3), .int .i64 (Wd.dg (Wd.am x) 4), .int .i64 (Wd.dg (Wd.am x) 5), .int .i64 (Wd.dg (Wd.am x) 6), .int .i64 (Wd.dg (Wd.am x) 7)]) ∧ Kp w.heap.size w w' := by
  by_cases hn : Wd.hi x < 0
  · have hb : Wd.neg x = true := by simpa [Wd.neg] using hn
    have HM := Lib.hid (Wd.am_mod_neg hn)
    go_enter Try.func40, Try.ntmps40
    go_wp2_with fail
    refine (rbelow_any _ _).mono ?_
    rintro e w1 ⟨rfl, hk1⟩
    have h1 := hk1.cells; have f1 := hk1.frozen; have z1 := hk1.size; simp at h1 z1; have HK1 := Lib.hid hk1; clear hk1
    go_wp2_with fail
    refine (rneg_any _ _).mono ?_
    rintro e w2 ⟨rfl, hk2⟩
    have h2 := hk2.cells; have f2 := hk2.frozen; have HK2 := Lib.hid hk2; clear hk2
    have l1 : w.heap.size < w1.heap.size := by omega
    have l2 : w.heap.size + 1 < w1.heap.size := by omega
    go_wp2
    refine bodyPost_ret (v := .agg #[.int .i64 (Wd.dg (-x) 0), .int .i64 (Wd.dg (-x) 1), .int .i64 (Wd.dg (-x) 2), .int .i64 (Wd.dg (-x) 3), .int .i64 (Wd.dg (-x) 4), .int .i64 (Wd.dg (-x) 5), .int .i64 (Wd.dg (-x) 6), .int .i64 (Wd.dg (-x) 7)]) (by simp [results, Try.results40, go_sem, *]) rfl ⟨ret_d fun j hj => Wd.dg_same HM.out hj, ?_⟩
    exact (((((Kp.refl _ _).alloc (Nat.le_refl _) _ _).alloc (by simp) _ _).trans (HK1.out.mono (by simp; omega))).trans (HK2.out.mono (by omega))).all (by omega) _ _ _ _ _ _ _ _
  · have hb : Wd.neg x = false := by simpa [Wd.neg] using hn
    have HM := Lib.hid (Wd.am_mod_pos hn)
    go_enter Try.func40, Try.ntmps40
    go_wp2_with fail
    refine (rbelow_any _ _).mono ?_
    rintro e w1 ⟨rfl, hk1⟩
    have h1 := hk1.cells; have f1 := hk1.frozen; have z1 := hk1.size; simp at h1 z1; have HK1 := Lib.hid hk1; clear hk1
    have l1 : w.heap.size < w1.heap.size := by omega
    have l2 : w.heap.size + 1 < w1.heap.size := by omega
    go_wp2
    refine bodyPost_ret (v := .agg #[.int .i64 (Wd.dg (x) 0), .int .i64 (Wd.dg (x) 1), .int .i64 (Wd.dg (x) 2), .int .i64 (Wd.dg (x) 3), .int .i64 (Wd.dg (x) 4), .int .i64 (Wd.dg (x) 5), .int .i64 (Wd.dg (x) 6), .int .i64 (Wd.dg (x) 7)]) (by simp [results, Try.results40, go_sem, *]) rfl ⟨ret_d fun j hj => Wd.dg_same HM.out hj, ?_⟩
    exact ((((Kp.refl _ _).alloc (Nat.le_refl _) _ _).alloc (by simp) _ _).trans (HK1.out.mono (by simp; omega))).all (by omega) _ _ _ _ _ _ _ _
end Go.Proofs.Ytfhlnldiljldcaa
