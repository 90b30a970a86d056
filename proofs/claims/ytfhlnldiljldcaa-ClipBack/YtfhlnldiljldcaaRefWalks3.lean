/-
  Contracts of the document's own answers for layer 2, third part: products.
-/
import Derived.Test.YtfhlnldiljldcaaRefWalks2
namespace Go.Proofs.Ytfhlnldiljldcaa
open Go.RowKit

set_option maxHeartbeats 1000000 in
theorem rmul_any (x y : Int) (w : World) :
    Calls Try.prog 36 #[.agg #[.int .i64 (Wd.dg (x) 0), .int .i64 (Wd.dg (x) 1), .int .i64 (Wd.dg (x) 2), .int .i64 (Wd.dg (x) 3), .int .i64 (Wd.dg (x) 4), .int .i64 (Wd.dg (x) 5), .int .i64 (Wd.dg (x) 6), .int .i64 (Wd.dg (x) 7)], .agg #[.int .i64 (Wd.dg (y) 0), .int .i64 (Wd.dg (y) 1), .int .i64 (Wd.dg (y) 2), .int .i64 (Wd.dg (y) 3), .int .i64 (Wd.dg (y) 4), .int .i64 (Wd.dg (y) 5), .int .i64 (Wd.dg (y) 6), .int .i64 (Wd.dg (y) 7)]] w fun e w' => e = .returned (.agg #[.int .i64 (Wd.dg (x * y) 0), .int .i64 (Wd.dg (x * y) 1), .int .i64 (Wd.dg (x * y) 2), .int .i64 (Wd.dg (x * y) 3), .int .i64 (Wd.dg (x * y) 4), .int .i64 (Wd.dg (x * y) 5), .int .i64 (Wd.dg (x * y) 6), .int .i64 (Wd.dg (x * y) 7)]) ∧ Kp w.heap.size w w' := by
  go_enter Try.func36, Try.ntmps36
  go_wp2
  go_loopw [6] (fun i wr => ∃ n : Nat, n ≤ 8 ∧ i = .int .i64 n ∧ Row wr w.heap.size (Wd.dg x) ∧ Row wr (w.heap.size + 1) (Wd.dg y) ∧ Row wr (w.heap.size + 1 + 1) (fun _ => 0) ∧ Row wr (w.heap.size + 1 + 1 + 1) (Wd.mulD x y n 0) ∧ Kp w.heap.size w wr) (fun i _ => 8 - (intOf i).toNat)
  case atStart =>
    refine ⟨0, by omega, rfl, (((Row.new w _ _ rfl).alloc _ _).alloc _ _).alloc _ _, ((Row.new _ _ _ (by simp)).alloc _ _).alloc _ _, (Row.zero _ _ (by simp)).alloc _ _, (Row.zero _ _ (by simp)).congr (fun _ _ => (Wd.mulD_start x y _).symm), ?_⟩
    exact (((((Kp.refl _ _).alloc (Nat.le_refl _) _ _).alloc (by simp) _ _).alloc (by simp; omega) _ _).alloc (by simp; omega) _ _)
  case round =>
    obtain ⟨n, hn, rfl, hX, hY, hQ, hR, hK⟩ := hrel
    by_cases hlt : n < 8
    · have HX := Lib.hid hX; have HY := Lib.hid hY
      have HQ := Lib.hid hQ; have HR := Lib.hid hR; have HK := Lib.hid hK
      clear hQ hR hK hX hY
      go_wp2
      go_loopw [7, 8] (fun c i wr => ∃ k : Nat, n + k ≤ 8 ∧ i = .int .i64 k ∧ c = .int .i64 (Wd.mcar x y n k) ∧ Row wr w.heap.size (Wd.dg x) ∧ Row wr (w.heap.size + 1) (Wd.dg y) ∧ Row wr (w.heap.size + 1 + 1) (fun _ => 0) ∧ Row wr (w.heap.size + 1 + 1 + 1) (Wd.mulD x y n k) ∧ Kp w.heap.size w wr) (fun _ i _ => 8 - (intOf i).toNat)
      case atStart => exact ⟨0, by omega, rfl, congrArg (Value.int .i64) (Wd.mcar_zero x y n).symm, HX.out, HY.out, HQ.out, HR.out, HK.out⟩
      case round =>
        clear HX HY HQ HR HK
        obtain ⟨k, hk, rfl, rfl, hX, hY, hQ, hR, hK⟩ := hrel
        have hxc := hX.cell; have hyc := hY.cell
        have hc := hR.cell; have hf := hR.froz
        have HX := Lib.hid hX; have HY := Lib.hid hY
        have HQ := Lib.hid hQ; have HR := Lib.hid hR; have HK := Lib.hid hK
        clear hQ hR hK hX hY
        obtain ⟨hu1, hu2⟩ := Wd.mcar_bd x y n k
        obtain ⟨hx1, hx2⟩ := Wd.dg_bd x n
        obtain ⟨hy1, hy2⟩ := Wd.dg_bd y k
        obtain ⟨hz1, hz2⟩ := Wd.mulD_bd x y n k (n + k)
        have hp1 : 0 ≤ Wd.dg x n * Wd.dg y k := Int.mul_nonneg hx1 hy1
        have hp2 : Wd.dg x n * Wd.dg y k ≤ 65535 * 65535 := Int.mul_le_mul hx2 hy2 hy1 (by omega)
        by_cases hlk : n + k < 8
        · have hk8 : k < 8 := by omega
          go_wp2
          go_quiet (fail)
          go_wp2
          refine ⟨⟨k + 1, by omega, by go_num, by rw [Wd.mulD_at, (Wd.mul_digit x y n k).2], (HX.out.drewN _).other (by simp; omega) _, (HY.out.drewN _).other (by simp; omega) _, (HQ.out.drewN _).other (by simp) _, (((HR.out.drewN _).set hlk _).congr fun j _ => ?_), (HK.out.drewN _).setCell (by simp; omega) _⟩, by simp [intOf]; omega⟩
          show (if j = n + k then _ else _) = _
          rw [Wd.mulD_at, (Wd.mul_digit x y n k).1, Wd.mulD_set]
        · go_wp2
          exact ⟨⟨n + 1, by omega, by go_num, HX.out, HY.out, HQ.out, HR.out.congr (fun j hj => Wd.mulD_next x y (by omega) hj), HK.out⟩, by simp [intOf]; omega⟩
    · obtain rfl : n = 8 := by omega
      have hc := hR.cell; have hd := hQ.cell; have hg := hQ.froz
      have HR := Lib.hid hR; have HK := Lib.hid hK
      clear hQ hR hK hX hY
      go_wp2
      refine bodyPost_ret (v := .agg #[.int .i64 (Wd.mulD x y 8 0 0), .int .i64 (Wd.mulD x y 8 0 1), .int .i64 (Wd.mulD x y 8 0 2), .int .i64 (Wd.mulD x y 8 0 3), .int .i64 (Wd.mulD x y 8 0 4), .int .i64 (Wd.mulD x y 8 0 5), .int .i64 (Wd.mulD x y 8 0 6), .int .i64 (Wd.mulD x y 8 0 7)])
        (by simp [results, Try.results36, go_sem, *]) rfl ⟨ret_d fun j hj => Wd.dg_mod x y hj, HK.out.all (by omega) _ _ _ _ _ _ _ _⟩

end Go.Proofs.Ytfhlnldiljldcaa
