/-
  Contracts of layer 2 (wide): what its functions return, for every input.
-/
import Derived.Test.YtiigbpfoaoekhaaRows
import Derived.WalkKit
import Derived.WalkSpells
import Derived.WalkLawsBesides
import Derived.ProofKit
import Derived.OpenShut
import Derived.Below
import Derived.Lib.Hide
import Derived.Laws.Externs
import Derived.Deep.RegionHeld3
import Derived.BigQuiet
import Derived.Test.YtiigbpfoaoekhaaWidePlain
import Derived.Test.YtiigbpfoaoekhaaMem
namespace Go.Proofs.Ytiigbpfoaoekhaa
open Go.RowKit

theorem ret_w {a b c d : Int} (h : a = c) (h' : b = d) : Ending.returned (.agg #[.int .i64 a, .int .u64 b]) = .returned (.agg #[.int .i64 c, .int .u64 d]) := by rw [h, h']
set_option maxHeartbeats 400000 in
theorem of_any (n : Int) (w : World) (h : -9223372036854775808 ≤ n ∧ n ≤ 9223372036854775807) :
    Calls Try.prog 58 #[.int .i64 n] w fun e w' => e = .returned (.agg #[.int .i64 (Wd.hi (n)), .int .u64 (Wd.lo (n))]) ∧ Kp w.heap.size w w' := by
  by_cases h0 : n < 0
  · have HE := Lib.hid (Wd.of_neg h0 h.1)
    go_enter Try.func58, Try.ntmps58
    go_wp2
    exact bodyPost_ret (v := .agg #[.int .i64 (-1), .int .u64 (IntKind.u64.wrap n)]) (by simp [results, Try.results58, go_sem]) rfl ⟨ret_w HE.out.1.symm (by rw [IntKind.wrap_u64]; exact HE.out.2.symm), (Kp.refl _ _).alloc (Nat.le_refl _) _ _⟩
  · have HE := Lib.hid (Wd.of_pos h0 h.2)
    go_enter Try.func58, Try.ntmps58
    go_wp2
    exact bodyPost_ret (v := .agg #[.int .i64 0, .int .u64 n]) (by simp [results, Try.results58, go_sem]) rfl ⟨ret_w HE.out.1.symm HE.out.2.symm, (Kp.refl _ _).alloc (Nat.le_refl _) _ _⟩

theorem add64_0 (x y : Int) (hx : 0 ≤ x) (hy : 0 ≤ y) (w : World) : (callFunc 61 #[.int .u64 x, .int .u64 y, .int .u64 0]).run Try.prog w =
    .ok (.value (.tuple #[.int .u64 ((x + y) % 18446744073709551616), .int .u64 ((x + y) / 18446744073709551616)])) w := by
  rw [run_callFunc_extern Try.func61 (by kernel_rfl) (by kernel_rfl) (by kernel_rfl) (e := add64Entry) (by kernel_rfl), run_add64 x y 0 hx hy (by omega) (by omega)]
  simp only [Int.add_zero, Result.andThen]

set_option maxHeartbeats 400000 in
theorem add_any (x y : Int) (w : World) :
    Calls Try.prog 55 #[.agg #[.int .i64 (Wd.hi (x)), .int .u64 (Wd.lo (x))], .agg #[.int .i64 (Wd.hi (y)), .int .u64 (Wd.lo (y))]] w fun e w' => e = .returned (.agg #[.int .i64 (Wd.hi (x + y)), .int .u64 (Wd.lo (x + y))]) ∧ Kp w.heap.size w w' := by
  obtain ⟨a1, a2⟩ := Wd.hi_bd x
  obtain ⟨b1, b2⟩ := Wd.lo_bd x
  obtain ⟨c1, c2⟩ := Wd.hi_bd y
  obtain ⟨d1, d2⟩ := Wd.lo_bd y
  have H1 := Lib.hid (Wd.add_lo x y)
  have H2 := Lib.hid (Wd.add_hi x y)
  go_enter Try.func55, Try.ntmps55
  go_wp2_with (simp only [add64_0 _ _ b1 d1])
  exact bodyPost_ret (v := .agg #[.int .i64 (wrap64 (wrap64 (Wd.hi x + Wd.hi y) + (Wd.lo x + Wd.lo y) / 18446744073709551616)), .int .u64 ((Wd.lo x + Wd.lo y) % 18446744073709551616)]) (by simp [results, Try.results55, go_sem]) rfl ⟨ret_w H2.out.symm H1.out.symm, (((Kp.refl _ _).alloc (Nat.le_refl _) _ _).alloc (by simp) _ _).alloc (by simp; omega) _ _⟩


set_option maxHeartbeats 400000 in
theorem neg_any (x : Int) (w : World) :
    Calls Try.prog 63 #[.agg #[.int .i64 (Wd.hi (x)), .int .u64 (Wd.lo (x))]] w fun e w' => e = .returned (.agg #[.int .i64 (Wd.hi (-x)), .int .u64 (Wd.lo (-x))]) ∧ Kp w.heap.size w w' := by
  obtain ⟨a1, a2⟩ := Wd.hi_bd x
  obtain ⟨b1, b2⟩ := Wd.lo_bd x
  have HN1 := Lib.hid (Wd.not_hi x)
  have HN2 := Lib.hid (Wd.not_lo x)
  go_enter Try.func63, Try.ntmps63
  go_wp2
  go_region_held3 (fun w' => w'.cell? ⟨w.heap.size, 0, none⟩ = some (.int .i64 (Wd.hi x)) ∧ w'.cell? ⟨w.heap.size, 1, none⟩ = some (.int .u64 (Wd.lo x))) (simp [go_sem, World.cell?_alloc_past, *])
    (first
      | (go_at_call 58; refine (of_any _ _ (by omega)).mono ?_; rintro e w1 ⟨rfl, hk1⟩; have hc1 := hk1.cells; have hf1 := hk1.frozen; have hz1 := hk1.size; have HK1 := Lib.hid hk1; clear hk1; simp at hc1 hf1 hz1; have hl1 : w.heap.size < w1.heap.size := (by omega); have hl1' : w.heap.size + 1 < w1.heap.size := by omega)
      | (go_at_call 55; rw [HN1.out, HN2.out]; refine (add_any _ _ _).mono ?_; rintro e w2 ⟨rfl, hk2⟩; have hc2 := hk2.cells; have hf2 := hk2.frozen; have hz2 := hk2.size; have HK2 := Lib.hid hk2; clear hk2))
  go_wp2
  refine bodyPost_ret (v := .agg #[.int .i64 (Wd.hi (-x)), .int .u64 (Wd.lo (-x))]) (by simp [results, Try.results63, go_sem, *]) rfl ⟨rfl, ?_⟩
  have k0 := (((Kp.refl w.heap.size w).alloc (Nat.le_refl _) #[.int .i64 (Wd.hi x), .int .u64 (Wd.lo x)] 82).alloc (by simp) #[.int .i64 0, .int .u64 0] 82).drew
  exact (((k0.trans (HK1.out.mono (by simp; omega))).trans (HK2.out.mono (by omega))).setCell (by simp) _).setCell (by simp) _
end Go.Proofs.Ytiigbpfoaoekhaa
