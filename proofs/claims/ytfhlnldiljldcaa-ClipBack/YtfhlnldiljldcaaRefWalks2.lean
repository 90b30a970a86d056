/-
  Contracts of the document's own answers for layer 2, second part: two halves, sums, the other sign.
-/
import Derived.Test.YtfhlnldiljldcaaRefWalks
import Derived.Test.YtfhlnldiljldcaaWidePlain2
namespace Go.Proofs.Ytfhlnldiljldcaa
open Go.RowKit

set_option maxHeartbeats 400000 in
theorem radd_any (x y : Int) (w : World) :
    Calls Try.prog 41 #[.agg #[.int .i64 (Wd.dg (x) 0), .int .i64 (Wd.dg (x) 1), .int .i64 (Wd.dg (x) 2), .int .i64 (Wd.dg (x) 3), .int .i64 (Wd.dg (x) 4), .int .i64 (Wd.dg (x) 5), .int .i64 (Wd.dg (x) 6), .int .i64 (Wd.dg (x) 7)], .agg #[.int .i64 (Wd.dg (y) 0), .int .i64 (Wd.dg (y) 1), .int .i64 (Wd.dg (y) 2), .int .i64 (Wd.dg (y) 3), .int .i64 (Wd.dg (y) 4), .int .i64 (Wd.dg (y) 5), .int .i64 (Wd.dg (y) 6), .int .i64 (Wd.dg (y) 7)]] w fun e w' => e = .returned (.agg #[.int .i64 (Wd.dg (x + y) 0), .int .i64 (Wd.dg (x + y) 1), .int .i64 (Wd.dg (x + y) 2), .int .i64 (Wd.dg (x + y) 3), .int .i64 (Wd.dg (x + y) 4), .int .i64 (Wd.dg (x + y) 5), .int .i64 (Wd.dg (x + y) 6), .int .i64 (Wd.dg (x + y) 7)]) ∧ Kp w.heap.size w w' := by
  go_enter Try.func41, Try.ntmps41
  go_wp2
  go_loopw [6, 7] (fun c i wr => ∃ k : Nat, k ≤ 8 ∧ i = .int .i64 k ∧ c = .int .i64 (Wd.car x y k) ∧ Row wr w.heap.size (Wd.dg x) ∧ Row wr (w.heap.size + 1) (Wd.dg y) ∧ Row wr (w.heap.size + 1 + 1) (fun _ => 0) ∧ Row wr (w.heap.size + 1 + 1 + 1) (Wd.ofD (x + y) k) ∧ Kp w.heap.size w wr) (fun _ i _ => 8 - (intOf i).toNat)
  case atStart =>
    refine ⟨0, by omega, rfl, congrArg (Value.int .i64) (Wd.car_zero x y).symm, (((Row.new w _ _ rfl).alloc _ _).alloc _ _).alloc _ _, ((Row.new _ _ _ (by simp)).alloc _ _).alloc _ _, (Row.zero _ _ (by simp)).alloc _ _, (Row.zero _ _ (by simp)).congr (fun _ _ => rfl), ?_⟩
    exact (((((Kp.refl _ _).alloc (Nat.le_refl _) _ _).alloc (by simp) _ _).alloc (by simp; omega) _ _).alloc (by simp; omega) _ _)
  case round =>
    obtain ⟨k, hk, rfl, rfl, hX, hY, hQ, hR, hK⟩ := hrel
    have hxc := hX.cell; have hyc := hY.cell
    have hc := hR.cell; have hf := hR.froz; have hd := hQ.cell; have hg := hQ.froz
    have HX := Lib.hid hX; have HY := Lib.hid hY
    have HQ := Lib.hid hQ; have HR := Lib.hid hR; have HK := Lib.hid hK
    clear hQ hR hK hX hY
    obtain ⟨hu1, hu2⟩ := Wd.car_bd x y k
    obtain ⟨hx1, hx2⟩ := Wd.dg_bd x k
    obtain ⟨hy1, hy2⟩ := Wd.dg_bd y k
    by_cases hlt : k < 8
    · go_wp2
      go_quiet (fail)
      go_wp2
      refine ⟨⟨k + 1, by omega, by go_num, by rw [(Wd.add_digit x y k).2], (HX.out.drewN _).other (by simp; omega) _, (HY.out.drewN _).other (by simp; omega) _, (HQ.out.drewN _).other (by simp) _, (((HR.out.drewN _).set hlt _).congr fun j _ => ?_), (HK.out.drewN _).setCell (by simp; omega) _⟩, by simp [intOf]; omega⟩
      show (if j = k then _ else _) = _
      rw [(Wd.add_digit x y k).1, Wd.ofD_succ]
    · obtain rfl : k = 8 := by omega
      go_wp2
      refine bodyPost_ret (v := .agg #[.int .i64 (Wd.ofD (x + y) 8 0), .int .i64 (Wd.ofD (x + y) 8 1), .int .i64 (Wd.ofD (x + y) 8 2), .int .i64 (Wd.ofD (x + y) 8 3), .int .i64 (Wd.ofD (x + y) 8 4), .int .i64 (Wd.ofD (x + y) 8 5), .int .i64 (Wd.ofD (x + y) 8 6), .int .i64 (Wd.ofD (x + y) 8 7)])
        (by simp [results, Try.results41, go_sem, *]) rfl ⟨ret_d fun j hj => Wd.ofD_all (x + y) hj, HK.out.all (by omega) _ _ _ _ _ _ _ _⟩

set_option maxHeartbeats 1000000 in
theorem rneg_any (x : Int) (w : World) :
    Calls Try.prog 44 #[.agg #[.int .i64 (Wd.dg (x) 0), .int .i64 (Wd.dg (x) 1), .int .i64 (Wd.dg (x) 2), .int .i64 (Wd.dg (x) 3), .int .i64 (Wd.dg (x) 4), .int .i64 (Wd.dg (x) 5), .int .i64 (Wd.dg (x) 6), .int .i64 (Wd.dg (x) 7)]] w fun e w' => e = .returned (.agg #[.int .i64 (Wd.dg (-x) 0), .int .i64 (Wd.dg (-x) 1), .int .i64 (Wd.dg (-x) 2), .int .i64 (Wd.dg (-x) 3), .int .i64 (Wd.dg (-x) 4), .int .i64 (Wd.dg (-x) 5), .int .i64 (Wd.dg (-x) 6), .int .i64 (Wd.dg (-x) 7)]) ∧ Kp w.heap.size w w' := by
  go_enter Try.func44, Try.ntmps44
  go_wp2
  go_loopw [4] (fun i wr => ∃ k : Nat, k ≤ 8 ∧ i = .int .i64 k ∧ Row wr w.heap.size (Wd.dg x) ∧ Row wr (w.heap.size + 1) (fun _ => 0) ∧ Row wr (w.heap.size + 1 + 1) (Wd.ofD (-x - 1) k) ∧ Kp w.heap.size w wr) (fun i _ => 8 - (intOf i).toNat)
  case atStart =>
    refine ⟨0, by omega, rfl, ((Row.new w _ _ rfl).alloc _ _).alloc _ _, (Row.zero _ _ (by simp)).alloc _ _, (Row.zero _ _ (by simp)).congr (fun _ _ => rfl), ?_⟩
    exact (((Kp.refl _ _).alloc (Nat.le_refl _) _ _).alloc (by simp) _ _).alloc (by simp; omega) _ _
  case round =>
    obtain ⟨k, hk, rfl, hX, hQ, hR, hK⟩ := hrel
    have hxc := hX.cell
    have hc := hR.cell; have hf := hR.froz; have hd := hQ.cell; have hg := hQ.froz
    have HX := Lib.hid hX
    have HQ := Lib.hid hQ; have HR := Lib.hid hR; have HK := Lib.hid hK
    clear hQ hR hK hX
    obtain ⟨hx1, hx2⟩ := Wd.dg_bd x k
    by_cases hlt : k < 8
    · go_wp2
      refine ⟨⟨k + 1, by omega, by go_num, HX.out.other (by simp; omega) _, HQ.out.other (by simp) _, ((HR.out.set hlt _).congr fun j _ => ?_), HK.out.setCell (by simp; omega) _⟩, by simp [intOf]; omega⟩
      show (if j = k then _ else _) = _
      rw [Wd.dg_not x hlt, Wd.ofD_succ]
    · obtain rfl : k = 8 := by omega
      have hR2 := HR.out.congr fun j hj => Wd.ofD_all (-x - 1) hj
      have hc2 := hR2.cell
      have hlt := HR.out.lt
      have hlt' := HQ.out.lt
      have HR2 := Lib.hid hR2
      clear hc hR2
      go_wp2
      go_region_held3 (fun w' => w'.cell? ⟨w.heap.size + 1 + 1, 0, none⟩ = some (.int .i64 (Wd.dg (-x - 1) 0)) ∧ w'.cell? ⟨w.heap.size + 1 + 1, 1, none⟩ = some (.int .i64 (Wd.dg (-x - 1) 1)) ∧ w'.cell? ⟨w.heap.size + 1 + 1, 2, none⟩ = some (.int .i64 (Wd.dg (-x - 1) 2)) ∧ w'.cell? ⟨w.heap.size + 1 + 1, 3, none⟩ = some (.int .i64 (Wd.dg (-x - 1) 3)) ∧ w'.cell? ⟨w.heap.size + 1 + 1, 4, none⟩ = some (.int .i64 (Wd.dg (-x - 1) 4)) ∧ w'.cell? ⟨w.heap.size + 1 + 1, 5, none⟩ = some (.int .i64 (Wd.dg (-x - 1) 5)) ∧ w'.cell? ⟨w.heap.size + 1 + 1, 6, none⟩ = some (.int .i64 (Wd.dg (-x - 1) 6)) ∧ w'.cell? ⟨w.heap.size + 1 + 1, 7, none⟩ = some (.int .i64 (Wd.dg (-x - 1) 7))) (simp [go_sem, *])
        (first
          | (go_at_call 37; refine (rof_any _ _ (by omega)).mono ?_; rintro e w1 ⟨rfl, hk1⟩; have h1 := hk1.cells; have f1 := hk1.frozen; have z1 := hk1.size; have HK1 := Lib.hid hk1; clear hk1; simp at h1 f1 z1; have l1 : w.heap.size + 1 + 1 < w1.heap.size := (by omega); have l1' : w.heap.size + 1 < w1.heap.size := (by omega))
          | (go_at_call 41; refine (radd_any _ _ _).mono ?_; rintro e w2 ⟨rfl, hk2⟩; have h2 := hk2.cells; have f2 := hk2.frozen; have z2 := hk2.size; have HK2 := Lib.hid hk2; clear hk2))
      go_wp2
      refine bodyPost_ret (v := .agg #[.int .i64 (Wd.dg (-x) 0), .int .i64 (Wd.dg (-x) 1), .int .i64 (Wd.dg (-x) 2), .int .i64 (Wd.dg (-x) 3), .int .i64 (Wd.dg (-x) 4), .int .i64 (Wd.dg (-x) 5), .int .i64 (Wd.dg (-x) 6), .int .i64 (Wd.dg (-x) 7)]) (by simp [results, Try.results44, go_sem, *]) rfl ⟨rfl, ?_⟩
      exact ((HK.out.drew.trans (HK1.out.mono (by simp; omega))).trans (HK2.out.mono (by omega))).all (by omega) _ _ _ _ _ _ _ _
end Go.Proofs.Ytfhlnldiljldcaa
