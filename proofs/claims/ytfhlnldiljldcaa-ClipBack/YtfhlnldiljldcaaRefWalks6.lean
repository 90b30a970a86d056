/-
  Contracts of the document's own answers for layer 2, sixth part: a product divided; what the two sides' quotients have in common.
-/
import Derived.Test.YtfhlnldiljldcaaRefWalks5
namespace Go.Proofs.Ytfhlnldiljldcaa
open Go.RowKit

set_option maxHeartbeats 400000 in
theorem rmuldiv_any (a b c : Int) (w : World) (ha : Wd.isInt a) (hb : Wd.isInt b) (hc : Wd.isInt c) (hc0 : c ≠ 0) :
    Calls Try.prog 31 #[.int .i64 a, .int .i64 b, .int .i64 c] w fun e w' => e = .returned (.tuple #[.int .i64 (Wd.gn (a * b) c), .bool (Wd.gi (a * b) c)]) ∧ Kp w.heap.size w w' := by
  go_enter Try.func31, Try.ntmps31
  go_wp2_with fail
  refine (rof_any _ _ ha).mono ?_
  rintro e w1 ⟨rfl, hk1⟩
  have HK1 := Lib.hid hk1; clear hk1
  go_wp2_with fail
  refine (rof_any _ _ hb).mono ?_
  rintro e w2 ⟨rfl, hk2⟩
  have HK2 := Lib.hid hk2; clear hk2
  go_wp2_with fail
  refine (rmul_any _ _ _).mono ?_
  rintro e w3 ⟨rfl, hk3⟩
  have HK3 := Lib.hid hk3; clear hk3
  go_wp2_with fail
  refine (rfloor_any _ _ _ hc hc0).mono ?_
  rintro e w4 ⟨rfl, hk4⟩
  have HK4 := Lib.hid hk4; clear hk4
  go_wp2
  go_ret2
  exact ⟨rfl, ((HK1.out.next HK2.out).next HK3.out).next HK4.out⟩

theorem Wd.back {a b : Int} (ha : Wd.isInt a) (hb : Wd.isInt b) (hb0 : b ≠ 0) : Wd.fq (a * b) b = a ∧ Wd.fe (a * b) b = 0 := by
  have e : Wd.fl (a * b) b = a := by unfold Wd.fl; rw [Wd.sx_mul ha hb]; exact Int.mul_fdiv_cancel a hb0
  have := Wd.fq_in (x := a * b) (b := b) (by rw [e]; exact ha)
  rwa [e] at this
end Go.Proofs.Ytfhlnldiljldcaa
