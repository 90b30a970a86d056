/-
  VecMoves: its Go text returns true, where all numbers are within 2^16, and the place may be moved.
-/
import Derived.Test.YtbhdmfoigilibaaVecMovesPlain
import Derived.Deep.DeepCutAuto
namespace Go.Proofs.Ytbhdmfoigilibaa
open Go.RowKit

set_option linter.unusedSimpArgs false in
set_option maxRecDepth 100000 in
set_option maxHeartbeats 8000000 in
theorem moves_4 (a b c x y z : Int) (c0 c1 c2 c3 c4 c5 : Value) (w : World) (h24 : Vc.wi 16777216 (Vc.v4 a b c 0) 3 = true) (h16 : Vc.wi 65536 (Vc.v4 a b c 0) 3 = true) (hp : Vc.wi 1073741824 (Vc.v4 x y z 256) 4 = true) :
    Calls Try.prog 5 #[.agg #[.int .i64 a, .int .i64 b, .int .i64 c], .agg #[.int .i64 x, .int .i64 y, .int .i64 z, c0, c1, c2, c3, c4, c5]] w fun e w' => e = .returned (.bool true) ∧ Kp w.heap.size w w' := by
  have HL := Lib.hid (Mo.new w a b c x y z c0 c1 c2 c3 c4 c5 40 44)
  have hE := run_eqV
  have hEM := run_eqM_zero
  have hED := run_eqD
  have i0 := HL.out.i0; have i1 := HL.out.i1; have i2 := HL.out.i2; have r0 := HL.out.r0; have r1 := HL.out.r1; have r2 := HL.out.r2
  go_enter Try.func5, Try.ntmps5
  go_upto_region 4 with (first | (go_at_call 15; refine (move_yes a b c _ h16).mono ?_; rintro e w5 ⟨rfl, hk⟩; have l2 := HL.out.call hk; clear hk; clear HL i0 i1 i2 r0 r1 r2; have HL := Lib.hid l2; clear l2; have i0 := HL.out.i0; have i1 := HL.out.i1; have i2 := HL.out.i2; have r0 := HL.out.r0; have r1 := HL.out.r1; have r2 := HL.out.r2) | (go_at_call 16; refine (scale_yes a b c _ h24).mono ?_; rintro e w7 ⟨rfl, hk⟩; have l2 := HL.out.call hk; clear hk; clear HL i0 i1 i2 r0 r1 r2; have HL := Lib.hid l2; clear l2; have i0 := HL.out.i0; have i1 := HL.out.i1; have i2 := HL.out.i2; have r0 := HL.out.r0; have r1 := HL.out.r1; have r2 := HL.out.r2) | ((with_reducible show wpList _ _ _ ({ dst := _, op := Op.store 23 _ _, type := _, pos := _, after := _, guard := _ } :: _) _ _); have hm1 := HL.out.m1; clear hm1; refine wpList_st rfl _ _ rfl _ rfl _ rfl (f := fun _ => 0) ?_ ?_; (exact Rw.zero16 w7 _ rfl); intro w8 hr hs; have l2 := HL.out.putM hs hr; clear hr hs; clear HL i0 i1 i2 r0 r1 r2; have HL := Lib.hid l2; clear l2; have i0 := HL.out.i0; have i1 := HL.out.i1; have i2 := HL.out.i2; have r0 := HL.out.r0; have r1 := HL.out.r1; have r2 := HL.out.r2) | ((with_reducible show wpList _ _ _ ({ dst := _, op := Op.store 23 _ _, type := _, pos := _, after := _, guard := _ } :: _) _ _); refine wpList_st rfl _ _ rfl _ rfl _ rfl (f := fun _ => 0) ?_ ?_; (exact Rw.zero16 w5 _ rfl); intro w6 hr hs; have l2 := HL.out.putM hs hr; clear hr hs; clear HL i0 i1 i2 r0 r1 r2; have HL := Lib.hid l2; clear l2; have i0 := HL.out.i0; have i1 := HL.out.i1; have i2 := HL.out.i2; have r0 := HL.out.r0; have r1 := HL.out.r1; have r2 := HL.out.r2) | ((with_reducible show wpList _ _ _ ({ dst := _, op := Op.load 44 _, type := _, pos := _, after := _, guard := _ } :: _) _ _); refine wpList_load_mid rfl 44 _ rfl (w.heap.size + 1) 0 rfl [.int .i64 x, .int .i64 y, .int .i64 z, c0, c1, c2, c3, c4, c5] _ ?_ Try.underlying44 rfl (by kernel_rfl) ?_; (exact HL.out.r)) | (go_at_call 17; refine (place_any x y z c0 c1 c2 c3 c4 c5 _).mono ?_; rintro e w9 ⟨rfl, hk⟩; have l2 : Mo w (w9.alloc (.cells #[.int .i64 x, .int .i64 y, .int .i64 z, .int .i64 256] 25)) a b c x y z _ _ _ := (HL.out.call hk).putV (Vc.v4 x y z 256) 25; clear hk; clear HL i0 i1 i2 r0 r1 r2; have HL := Lib.hid l2; clear l2; have i0 := HL.out.i0; have i1 := HL.out.i1; have i2 := HL.out.i2; have r0 := HL.out.r0; have r1 := HL.out.r1; have r2 := HL.out.r2))
  generalize hW : w9.alloc _ = W at *
  clear hW
  have q0 : Vc.v4 x y z 256 0 = x := rfl
  have q1 : Vc.v4 x y z 256 1 = y := rfl
  have q2 : Vc.v4 x y z 256 2 = z := rfl
  have q3 : Vc.v4 x y z 256 3 = 256 := rfl
  go_upto_region 6 with (first | go_skip | (go_at_call 18; refine (rwithin_any _ _ _ ?_).mono ?_; omega; rintro e w' ⟨rfl, rfl⟩) | ((with_reducible show wpList _ _ _ ({ dst := _, op := Op.load 25 _, type := _, pos := _, after := _, guard := _ } :: _) _ _); refine wpList_ld4g four_vec rfl _ rfl _ rfl (Vc.v4 x y z 256) ?_ ?_; (exact HL.out.v1)) | ((with_reducible show wpList _ _ _ ({ dst := _, op := Op.load 23 _, type := _, pos := _, after := _, guard := _ } :: _) _ _); refine wpList_ldg rfl _ rfl _ rfl (Vc.diag (Vc.v4 a b c 65536)) ?_ ?_; (exact HL.out.m1)) | ((with_reducible show wpList _ _ _ ({ dst := _, op := Op.load 23 _, type := _, pos := _, after := _, guard := _ } :: _) _ _); refine wpList_ldg rfl _ rfl _ rfl (Vc.mov a b c) ?_ ?_; (exact HL.out.m2)) | (go_at_call 9; refine (awake_any _).mono ?_; rintro e w' ⟨rfl, hk⟩; have l2 := HL.out.call hk; clear hk; clear HL i0 i1 i2 r0 r1 r2; have HL := Lib.hid l2; clear l2; have i0 := HL.out.i0; have i1 := HL.out.i1; have i2 := HL.out.i2; have r0 := HL.out.r0; have r1 := HL.out.r1; have r2 := HL.out.r2) | (go_at_call 8; refine (rfits_any (Vc.v4 x y z 256) _).mono ?_; rintro e w' ⟨rfl, hk⟩; have l2 := HL.out.call hk; clear hk; clear HL i0 i1 i2 r0 r1 r2; have HL := Lib.hid l2; clear l2; have i0 := HL.out.i0; have i1 := HL.out.i1; have i2 := HL.out.i2; have r0 := HL.out.r0; have r1 := HL.out.r1; have r2 := HL.out.r2))
  go_cut [10] (fun s10 wx => s10 = .bool false ∧ Mo w wx a b c x y z [c0, c1, c2, c3, c4, c5] [(w7.heap.size, Vc.diag (Vc.v4 a b c 65536)), (w5.heap.size, Vc.mov a b c)] [(w9.heap.size, Vc.v4 x y z 256)])
  case first =>
    have H3 := Lib.hid (Vc.wi_inb3 16777216 (Vc.v4 a b c 0))
    cases h1 : Vc.inb 16777216 a <;> cases h2 : Vc.inb 16777216 b <;> cases h3 : Vc.inb 16777216 c
    all_goals
      first
        | (exfalso; have h9 := H3.out; simp [h24, Vc.v4, h1, h2, h3] at h9; done)
        | (go_wp2_with (first | go_skip | (go_at_call 18; refine (rwithin_any _ _ _ ?_).mono ?_; omega; rintro e w' ⟨rfl, rfl⟩) | ((with_reducible show wpList _ _ _ ({ dst := _, op := Op.load 25 _, type := _, pos := _, after := _, guard := _ } :: _) _ _); refine wpList_ld4g four_vec rfl _ rfl _ rfl (Vc.v4 x y z 256) ?_ ?_; (exact HL.out.v1)) | ((with_reducible show wpList _ _ _ ({ dst := _, op := Op.load 23 _, type := _, pos := _, after := _, guard := _ } :: _) _ _); refine wpList_ldg rfl _ rfl _ rfl (Vc.diag (Vc.v4 a b c 65536)) ?_ ?_; (exact HL.out.m1)) | ((with_reducible show wpList _ _ _ ({ dst := _, op := Op.load 23 _, type := _, pos := _, after := _, guard := _ } :: _) _ _); refine wpList_ldg rfl _ rfl _ rfl (Vc.mov a b c) ?_ ?_; (exact HL.out.m2)) | (go_at_call 9; refine (awake_any _).mono ?_; rintro e w' ⟨rfl, hk⟩; have l2 := HL.out.call hk; clear hk; clear HL i0 i1 i2 r0 r1 r2; have HL := Lib.hid l2; clear l2; have i0 := HL.out.i0; have i1 := HL.out.i1; have i2 := HL.out.i2; have r0 := HL.out.r0; have r1 := HL.out.r1; have r2 := HL.out.r2) | (go_at_call 8; refine (rfits_any (Vc.v4 x y z 256) _).mono ?_; rintro e w' ⟨rfl, hk⟩; have l2 := HL.out.call hk; clear hk; clear HL i0 i1 i2 r0 r1 r2; have HL := Lib.hid l2; clear l2; have i0 := HL.out.i0; have i1 := HL.out.i1; have i2 := HL.out.i2; have r0 := HL.out.r0; have r1 := HL.out.r1; have r2 := HL.out.r2))
           go_meet
           exact ⟨rfl, HL.out⟩)
  case rest =>
    obtain ⟨rfl, hMo⟩ := hcut
    clear HL i0 i1 i2 r0 r1 r2
    have HL := Lib.hid hMo
    clear hMo
    have i0 := HL.out.i0; have i1 := HL.out.i1; have i2 := HL.out.i2; have r0 := HL.out.r0; have r1 := HL.out.r1; have r2 := HL.out.r2
    go_upto_region 9 with (first | go_skip | (go_at_call 18; refine (rwithin_any _ _ _ ?_).mono ?_; omega; rintro e w' ⟨rfl, rfl⟩) | ((with_reducible show wpList _ _ _ ({ dst := _, op := Op.load 25 _, type := _, pos := _, after := _, guard := _ } :: _) _ _); refine wpList_ld4g four_vec rfl _ rfl _ rfl (Vc.v4 x y z 256) ?_ ?_; (exact HL.out.v1)) | ((with_reducible show wpList _ _ _ ({ dst := _, op := Op.load 23 _, type := _, pos := _, after := _, guard := _ } :: _) _ _); refine wpList_ldg rfl _ rfl _ rfl (Vc.diag (Vc.v4 a b c 65536)) ?_ ?_; (exact HL.out.m1)) | ((with_reducible show wpList _ _ _ ({ dst := _, op := Op.load 23 _, type := _, pos := _, after := _, guard := _ } :: _) _ _); refine wpList_ldg rfl _ rfl _ rfl (Vc.mov a b c) ?_ ?_; (exact HL.out.m2)) | (go_at_call 9; refine (awake_any _).mono ?_; rintro e w' ⟨rfl, hk⟩; have l2 := HL.out.call hk; clear hk; clear HL i0 i1 i2 r0 r1 r2; have HL := Lib.hid l2; clear l2; have i0 := HL.out.i0; have i1 := HL.out.i1; have i2 := HL.out.i2; have r0 := HL.out.r0; have r1 := HL.out.r1; have r2 := HL.out.r2) | (go_at_call 8; refine (rfits_any (Vc.v4 x y z 256) _).mono ?_; rintro e w' ⟨rfl, hk⟩; have l2 := HL.out.call hk; clear hk; clear HL i0 i1 i2 r0 r1 r2; have HL := Lib.hid l2; clear l2; have i0 := HL.out.i0; have i1 := HL.out.i1; have i2 := HL.out.i2; have r0 := HL.out.r0; have r1 := HL.out.r1; have r2 := HL.out.r2))
    go_cut [104] (fun s10 wx => s10 = .bool false ∧ Mo w wx a b c x y z [c0, c1, c2, c3, c4, c5] [(w7.heap.size, Vc.diag (Vc.v4 a b c 65536)), (w5.heap.size, Vc.mov a b c)] [(w9.heap.size, Vc.v4 x y z 256)])
    case first =>
      have H3 := Lib.hid (Vc.wi_inb3 65536 (Vc.v4 a b c 0))
      cases h1 : Vc.inb 65536 a <;> cases h2 : Vc.inb 65536 b <;> cases h3 : Vc.inb 65536 c
      all_goals
        first
          | (exfalso; have h9 := H3.out; simp [h16, Vc.v4, h1, h2, h3] at h9; done)
          | (go_wp2_with (first | go_skip | (go_at_call 18; refine (rwithin_any _ _ _ ?_).mono ?_; omega; rintro e w' ⟨rfl, rfl⟩) | ((with_reducible show wpList _ _ _ ({ dst := _, op := Op.load 25 _, type := _, pos := _, after := _, guard := _ } :: _) _ _); refine wpList_ld4g four_vec rfl _ rfl _ rfl (Vc.v4 x y z 256) ?_ ?_; (exact HL.out.v1)) | ((with_reducible show wpList _ _ _ ({ dst := _, op := Op.load 23 _, type := _, pos := _, after := _, guard := _ } :: _) _ _); refine wpList_ldg rfl _ rfl _ rfl (Vc.diag (Vc.v4 a b c 65536)) ?_ ?_; (exact HL.out.m1)) | ((with_reducible show wpList _ _ _ ({ dst := _, op := Op.load 23 _, type := _, pos := _, after := _, guard := _ } :: _) _ _); refine wpList_ldg rfl _ rfl _ rfl (Vc.mov a b c) ?_ ?_; (exact HL.out.m2)) | (go_at_call 9; refine (awake_any _).mono ?_; rintro e w' ⟨rfl, hk⟩; have l2 := HL.out.call hk; clear hk; clear HL i0 i1 i2 r0 r1 r2; have HL := Lib.hid l2; clear l2; have i0 := HL.out.i0; have i1 := HL.out.i1; have i2 := HL.out.i2; have r0 := HL.out.r0; have r1 := HL.out.r1; have r2 := HL.out.r2) | (go_at_call 8; refine (rfits_any (Vc.v4 x y z 256) _).mono ?_; rintro e w' ⟨rfl, hk⟩; have l2 := HL.out.call hk; clear hk; clear HL i0 i1 i2 r0 r1 r2; have HL := Lib.hid l2; clear l2; have i0 := HL.out.i0; have i1 := HL.out.i1; have i2 := HL.out.i2; have r0 := HL.out.r0; have r1 := HL.out.r1; have r2 := HL.out.r2))
             go_meet
             exact ⟨rfl, HL.out⟩)
    case rest =>
      obtain ⟨rfl, hMo⟩ := hcut
      clear HL i0 i1 i2 r0 r1 r2
      have HL := Lib.hid hMo
      clear hMo
      have i0 := HL.out.i0; have i1 := HL.out.i1; have i2 := HL.out.i2; have r0 := HL.out.r0; have r1 := HL.out.r1; have r2 := HL.out.r2
      have HW := Vc.wi_all h16
      obtain ⟨a1, a2⟩ : -65536 ≤ a ∧ a ≤ 65536 := HW 0 (by omega)
      obtain ⟨b1, b2⟩ : -65536 ≤ b ∧ b ≤ 65536 := HW 1 (by omega)
      obtain ⟨c1', c2'⟩ : -65536 ≤ c ∧ c ≤ 65536 := HW 2 (by omega)
      clear HW
      have HV := Vc.wi_all hp
      obtain ⟨x1, x2⟩ : -1073741824 ≤ x ∧ x ≤ 1073741824 := HV 0 (by omega)
      obtain ⟨y1, y2⟩ : -1073741824 ≤ y ∧ y ≤ 1073741824 := HV 1 (by omega)
      obtain ⟨z1, z2⟩ : -1073741824 ≤ z ∧ z ≤ 1073741824 := HV 2 (by omega)
      clear HV
      go_upto_region 12 with (first | (go_at_call 6; refine (apply_mov a b c x y z _ h16 hp).mono ?_; rintro e w10 ⟨rfl, hk⟩; have l2 := HL.out.call hk; clear hk; clear HL i0 i1 i2 r0 r1 r2; have HL := Lib.hid l2; clear l2; have i0 := HL.out.i0; have i1 := HL.out.i1; have i2 := HL.out.i2; have r0 := HL.out.r0; have r1 := HL.out.r1; have r2 := HL.out.r2) | (first | go_skip | (go_at_call 18; refine (rwithin_any _ _ _ ?_).mono ?_; omega; rintro e w' ⟨rfl, rfl⟩) | ((with_reducible show wpList _ _ _ ({ dst := _, op := Op.load 25 _, type := _, pos := _, after := _, guard := _ } :: _) _ _); refine wpList_ld4g four_vec rfl _ rfl _ rfl (Vc.v4 x y z 256) ?_ ?_; (exact HL.out.v1)) | ((with_reducible show wpList _ _ _ ({ dst := _, op := Op.load 23 _, type := _, pos := _, after := _, guard := _ } :: _) _ _); refine wpList_ldg rfl _ rfl _ rfl (Vc.diag (Vc.v4 a b c 65536)) ?_ ?_; (exact HL.out.m1)) | ((with_reducible show wpList _ _ _ ({ dst := _, op := Op.load 23 _, type := _, pos := _, after := _, guard := _ } :: _) _ _); refine wpList_ldg rfl _ rfl _ rfl (Vc.mov a b c) ?_ ?_; (exact HL.out.m2)) | (go_at_call 9; refine (awake_any _).mono ?_; rintro e w' ⟨rfl, hk⟩; have l2 := HL.out.call hk; clear hk; clear HL i0 i1 i2 r0 r1 r2; have HL := Lib.hid l2; clear l2; have i0 := HL.out.i0; have i1 := HL.out.i1; have i2 := HL.out.i2; have r0 := HL.out.r0; have r1 := HL.out.r1; have r2 := HL.out.r2) | (go_at_call 8; refine (rfits_any (Vc.v4 x y z 256) _).mono ?_; rintro e w' ⟨rfl, hk⟩; have l2 := HL.out.call hk; clear hk; clear HL i0 i1 i2 r0 r1 r2; have HL := Lib.hid l2; clear l2; have i0 := HL.out.i0; have i1 := HL.out.i1; have i2 := HL.out.i2; have r0 := HL.out.r0; have r1 := HL.out.r1; have r2 := HL.out.r2)))
      have l2 : Mo w (w10.alloc (.cells #[.int .i64 (x + a), .int .i64 (y + b), .int .i64 (z + c), .int .i64 256] 25)) a b c x y z _ _ _ := HL.out.putV (Vc.v4 (x + a) (y + b) (z + c) 256) 25
      clear HL i0 i1 i2 r0 r1 r2; have HL := Lib.hid l2; clear l2; have i0 := HL.out.i0; have i1 := HL.out.i1; have i2 := HL.out.i2; have r0 := HL.out.r0; have r1 := HL.out.r1; have r2 := HL.out.r2
      generalize hW : w10.alloc _ = W10 at *
      clear hW
      have t0 : Vc.v4 (x + a) (y + b) (z + c) 256 0 = x + a := rfl
      have t1 : Vc.v4 (x + a) (y + b) (z + c) 256 1 = y + b := rfl
      have t2 : Vc.v4 (x + a) (y + b) (z + c) 256 2 = z + c := rfl
      have t3 : Vc.v4 (x + a) (y + b) (z + c) 256 3 = 256 := rfl
      go_upto_region 14 with (first | go_skip | ((with_reducible show wpList _ _ _ ({ dst := _, op := Op.load 25 _, type := _, pos := _, after := _, guard := _ } :: _) _ _); refine wpList_ld4g four_vec rfl _ rfl _ rfl (Vc.v4 x y z 256) ?_ ?_; (exact HL.out.v2)) | (go_at_call 8; refine (rfits_any (Vc.v4 x y z 256) _).mono ?_; rintro e w11 ⟨rfl, hk⟩; have l2 := HL.out.call hk; clear hk; clear HL i0 i1 i2 r0 r1 r2; have HL := Lib.hid l2; clear l2; have i0 := HL.out.i0; have i1 := HL.out.i1; have i2 := HL.out.i2; have r0 := HL.out.r0; have r1 := HL.out.r1; have r2 := HL.out.r2))
      have p0 : w11.cell? ⟨w9.heap.size, 0, none⟩ = some (.int .i64 x) := HL.out.v2.cell 0 (by omega)
      have p1 : w11.cell? ⟨w9.heap.size, 1, none⟩ = some (.int .i64 y) := HL.out.v2.cell 1 (by omega)
      have p2 : w11.cell? ⟨w9.heap.size, 2, none⟩ = some (.int .i64 z) := HL.out.v2.cell 2 (by omega)
      go_wp2_with (first | go_skip | ((with_reducible show wpList _ _ _ ({ dst := _, op := Op.load 25 _, type := _, pos := _, after := _, guard := _ } :: _) _ _); refine wpList_ld4g four_vec rfl _ rfl _ rfl (Vc.v4 (x + a) (y + b) (z + c) 256) ?_ ?_; (exact HL.out.v1)) | (go_at_call 9; refine (awake_any _).mono ?_; rintro e w' ⟨rfl, hk⟩; have l2 := HL.out.call hk; clear hk; clear HL i0 i1 i2 r0 r1 r2; have HL := Lib.hid l2; clear l2; have i0 := HL.out.i0; have i1 := HL.out.i1; have i2 := HL.out.i2; have r0 := HL.out.r0; have r1 := HL.out.r1; have r2 := HL.out.r2))
      go_ret
      exact ⟨rfl, HL.out.k⟩
end Go.Proofs.Ytbhdmfoigilibaa
