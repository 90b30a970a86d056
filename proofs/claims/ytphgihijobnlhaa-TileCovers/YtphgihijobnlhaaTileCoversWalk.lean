/-
  TileCovers: its Go text returns true.
-/
import Derived.Test.YtphgihijobnlhaaTileCover
import Derived.Test.YtphgihijobnlhaaTileRef
import Derived.Test.YtphgihijobnlhaaTileAlike
namespace Go.Proofs.Ytphgihijobnlhaa
open Go.RowKit

set_option maxHeartbeats 4000000 in
theorem covers_walk (n m a0 a1 a2 a3 : Int) (w : World) :
    Calls Try.prog 5 #[.int .i64 n, .int .i64 m, .agg #[.int .i64 a0, .int .i64 a1, .int .i64 a2, .int .i64 a3]] w fun e w' => e = .returned (.bool true) ∧ Below w.heap.size w w' := by
  have HO := Lib.hid (Ro.start ((Ow.refl w).newAt w.heap.size rfl (.int .i64 a0) [.int .i64 a1, .int .i64 a2, .int .i64 a3] 33))
  cases h : Tl.is n m
  · have P1 := fun W => cover_no n m a0 a1 a2 a3 W h
    go_enter Try.func5, Try.ntmps5
    go_wp2_with (first
      | go_big_skip
      | ((with_reducible show wpList _ _ _ ({ dst := _, op := Op.load 33 _, type := _, pos := _, after := _, guard := _ } :: _) _ _); refine wpList_ldr ty_rect rfl _ rfl _ rfl _ rfl (HO.out.at 0 rfl) ?_)
      | (go_at_call 16; refine (P1 _).mono ?_; rintro e w1 ⟨rfl, hk1⟩; have l2 := HO.out.call hk1; clear HO hk1; have HO := Lib.hid l2; clear l2)
      | (go_at_call 8; refine (ris_any n m _).mono ?_; rintro e w' ⟨rfl, rfl⟩)
      | (go_at_call 9; refine (awake_any _).mono ?_; rintro e w1 ⟨rfl, hk1⟩; have l2 := HO.out.call hk1; clear HO hk1; have HO := Lib.hid l2; clear l2))
    go_ret
    exact ⟨rfl, HO.out.bl⟩
  · have h9 := Tl.is_iff.1 h
    obtain ⟨s0, s1, s2, s3, hS⟩ := Rt.and_some a0 a1 a2 a3 0 0 n m
    obtain ⟨x0, x1, x2, y0, y1, y2⟩ := Tl.seen (by omega) (by omega) hS
    obtain ⟨R, hR⟩ : ∃ R : Nat, Tl.bg s3 - s1 / 16 = (R : Int) := ⟨(Tl.bg s3 - s1 / 16).toNat, by unfold Tl.bg; omega⟩
    obtain ⟨C, hC⟩ : ∃ C : Nat, Tl.bg s2 - s0 / 16 = (C : Int) := ⟨(Tl.bg s2 - s0 / 16).toNat, by unfold Tl.bg; omega⟩
    obtain ⟨i1, i2⟩ := Tl.bg_le (n := n) (by omega) (by omega)
    obtain ⟨j1, j2⟩ := Tl.bg_le (n := m) (by omega) (by omega)
    obtain ⟨k1, k2⟩ := Tl.mul_le i1 i2 j1 j2
    obtain ⟨z, hz⟩ : ∃ z : Nat, Tl.bg n * Tl.bg m = (z : Int) := ⟨(Tl.bg n * Tl.bg m).toNat, by omega⟩
    have P1 := fun W => cover_yes n m a0 a1 a2 a3 s0 s1 s2 s3 R C W h hS hR hC
    rw [Tl.covers (by omega) (by omega) hS hR hC hz] at P1
    have P2 := fun W => rcover_any n m a0 a1 a2 a3 z W h hz
    have hl := Tl.sel_len (Tl.hit n m a0 a1 a2 a3) z
    have HL := Lib.hid (show (Tl.sel (Tl.hit n m a0 a1 a2 a3) z).length ≤ 1000000 by omega)
    clear h9 hS x0 x1 x2 y0 y1 y2 hR hC i1 i2 j1 j2 k1 k2 hz hl
    generalize Tl.sel (Tl.hit n m a0 a1 a2 a3) z = xs at *
    go_enter Try.func5, Try.ntmps5
    go_wp2_with (first
      | go_big_skip
      | ((with_reducible show wpList _ _ _ ({ dst := _, op := Op.load 33 _, type := _, pos := _, after := _, guard := _ } :: _) _ _); refine wpList_ldr ty_rect rfl _ rfl _ rfl _ rfl (HO.out.at 0 rfl) ?_)
      | (go_at_call 16; refine (P1 _).mono ?_; rintro e w1 ⟨u, rfl, hu, hb⟩; have HU := Lib.hid hu; have l2 := HO.out.next hb; clear HO hb hu; have HO := Lib.hid l2; clear l2)
      | (go_at_call 8; refine (ris_any n m _).mono ?_; rintro e w' ⟨rfl, rfl⟩)
      | (go_at_call 18; refine (P2 _).mono ?_; rintro e w1 ⟨v, rfl, hv, hb⟩; have HV := Lib.hid hv; have l3 := HU.out.nextB hb; have l2 := HO.out.next hb; clear HO HU hb hv; have HO := Lib.hid l2; have HU := Lib.hid l3; clear l2 l3)
      | (go_at_call 17; refine (alike_same xs _ _ _ HU.out HV.out HL.out).mono ?_; rintro e w1 ⟨rfl, hb⟩; have l2 := HO.out.next hb; clear HO HU HV hb; have HO := Lib.hid l2; clear l2)
      | (go_at_call 9; refine (awake_any _).mono ?_; rintro e w1 ⟨rfl, hk1⟩; have l2 := HO.out.call hk1; clear HO hk1; have HO := Lib.hid l2; clear l2))
    go_ret
    exact ⟨rfl, HO.out.bl⟩
end Go.Proofs.Ytphgihijobnlhaa
