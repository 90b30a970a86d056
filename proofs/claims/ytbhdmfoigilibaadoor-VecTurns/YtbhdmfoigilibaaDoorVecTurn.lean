/-
  Contracts of layer 5 (vec): turns.
-/
import Derived.Test.YtbhdmfoigilibaaDoorVecDiag
import Derived.Test.YtbhdmfoigilibaaDoorVecRows
import Derived.Deep.DeepCutAuto
namespace Go.Proofs.YtbhdmfoigilibaaDoor
open Go.RowKit

theorem bits_three (x : Int) : bits .and .i64 x 3 = x % 4 := by
  have e : bits .and .i64 x 3 = IntKind.i64.wrap (((BitVec.ofInt 64 x &&& BitVec.ofInt 64 3).toNat : Nat) : Int) := rfl
  have h3 : ∀ n : Nat, n &&& 3 = n % 4 := fun n => Nat.and_two_pow_sub_one_eq_mod n 2
  rw [e, BitVec.toNat_and, show (BitVec.ofInt 64 3).toNat = 3 by decide, h3, BitVec.toNat_ofInt, IntKind.wrap_i64]
  omega

/-- the sine of so many quarters -/
def Vc.sn (r : Nat) : Int := if r % 4 = 1 then 65536 else if r % 4 = 3 then -65536 else 0
/-- the program's table of sines -/
def Sn (W : World) : Prop := ∀ j, j < 4 → W.cell? ⟨0, j, none⟩ = some (.int .i64 (Vc.sn j))

theorem at_nat (k l q : Nat) (w : World) (hk : k < 4) (hl : l < 4) (hq : q = 4 * k + l) :
    Calls Tryd.prog 20 #[.int .i64 k, .int .i64 l] w fun e w' => e = .returned (.int .i64 q) ∧ w = w' :=
  (at_any k l w (by omega) (by omega)).mono fun e w' h => ⟨by rw [h.1]; exact ret_int (by omega), h.2⟩
theorem Vc.sn_bd (r : Nat) : -65536 ≤ Vc.sn r ∧ Vc.sn r ≤ 65536 := by unfold Vc.sn; split <;> (try split) <;> omega

/-- one number of a matrix put -/
def Vc.put (m : Nat → Int) (q : Nat) (v : Int) (j : Nat) : Int := if j = q then v else m j
/-- a turn, laid into a matrix -/
def Vc.lay (m : Nat → Int) (f t r : Nat) : Nat → Int := Vc.put (Vc.put (Vc.put (Vc.put m (4 * f + f) (Vc.sn (r + 1))) (4 * f + t) (-Vc.sn r)) (4 * t + f) (Vc.sn r)) (4 * t + t) (Vc.sn (r + 1))
theorem St.trans {b : Nat} {w w' w'' : World} (h : St b w w') (k : St b w' w'') : St b w w'' :=
  ⟨fun c o hc => (k.cells c o hc).trans (h.cells c o hc), fun a => (k.frozen a).trans (h.frozen a), k.size.trans h.size, fun B hB => (h.below B hB).trans (k.below B hB)⟩
theorem St.set (w : World) (b o : Nat) (v : Value) : St b w (w.setCell ⟨b, o, none⟩ v) :=
  ⟨fun _ _ hc => World.cell?_setCell_far _ _ _ _ (Ne.symm hc), fun _ => World.frozen?_setCell _ _ _ _, World.size_setCell _ _ _, fun B hB => (Below.refl B w).setCell (p := ⟨b, o, none⟩) hB v⟩
theorem St.drew (b : Nat) (w : World) : St b w w.drew := ⟨fun _ _ _ => rfl, fun _ => rfl, rfl, fun B _ => (Below.refl B w).drew⟩
theorem St.drewN (b : Nat) (w : World) (n : Nat) : St b w (w.drewN n) := ⟨fun _ _ _ => rfl, fun _ => rfl, rfl, fun B _ => ((Kp.refl B w).drewN n).below⟩
theorem Rw.put {W : World} {B : Nat} {m : Nat → Int} (h : Rw 16 W B m) {q : Nat} (hq : q < 16) (v : Int) : Rw 16 (W.setCell ⟨B, q, none⟩ (.int .i64 v)) B (Vc.put m q v) := h.set hq v

theorem Vc.lay_eq (m : Nat → Int) {f t r q1 q2 q3 q4 : Nat} {s c : Int} (e1 : q1 = 4 * f + f) (e2 : q2 = 4 * f + t) (e3 : q3 = 4 * t + f) (e4 : q4 = 4 * t + t) (es : s = Vc.sn r) (ec : c = Vc.sn (r + 1)) :
    Vc.put (Vc.put (Vc.put (Vc.put m q1 c) q2 (-s)) q3 s) q4 c = Vc.lay m f t r := by subst e1 e2 e3 e4 es ec; rfl
/-- what the turn finds: where the matrix is, its numbers -/
structure Tw (w W : World) (bx B : Nat) (m : Nat → Int) : Prop where
  p : W.cell? ⟨bx, 0, none⟩ = some (.pointer (some ⟨B, 0, none⟩))
  m : Rw 16 W B m
  s : St B w W
theorem Tw.put {w W : World} {bx B : Nat} {m : Nat → Int} (h : Tw w W bx B m) (hx : bx ≠ B) {q : Nat} (hq : q < 16) (v : Int) : Tw w (W.setCell ⟨B, q, none⟩ (.int .i64 v)) bx B (Vc.put m q v) :=
  ⟨by rw [World.cell?_setCell_far _ _ _ _ (Ne.symm hx)]; exact h.p, h.m.put hq v, h.s.trans (St.set _ _ _ _)⟩
theorem Tw.drew {w W : World} {bx B : Nat} {m : Nat → Int} (h : Tw w W bx B m) : Tw w W.drew bx B m := ⟨h.p, h.m, h.s.trans (St.drew _ _)⟩
theorem Tw.drewN {w W : World} {bx B : Nat} {m : Nat → Int} (h : Tw w W bx B m) (n : Nat) : Tw w (W.drewN n) bx B m := ⟨h.p, h.m, h.s.trans (St.drewN _ _ _)⟩

set_option maxHeartbeats 8000000 in
theorem lay_any (m : Nat → Int) (f t r bx B : Nat) (w : World) (hf3 : f < 3) (ht3 : t < 3) (hft : f ≠ t) (hr : r < 4) (hp0 : w.cell? ⟨bx, 0, none⟩ = some (.pointer (some ⟨B, 0, none⟩))) (hm : Rw 16 w B m) (hs : Sn w) (hx : bx ≠ B) :
    Calls Tryd.prog 19 #[.int .i64 f, .int .i64 t, .int .i64 r, .pointer (some ⟨bx, 0, none⟩)] w fun e w' => e = .returned (.tuple #[]) ∧ Rw 16 w' B (Vc.lay m f t r) ∧ St B w w' := by
  obtain ⟨q1, e1⟩ : ∃ q : Nat, q = 4 * f + f := ⟨_, rfl⟩
  obtain ⟨q2, e2⟩ : ∃ q : Nat, q = 4 * f + t := ⟨_, rfl⟩
  obtain ⟨q3, e3⟩ : ∃ q : Nat, q = 4 * t + f := ⟨_, rfl⟩
  obtain ⟨q4, e4⟩ : ∃ q : Nat, q = 4 * t + t := ⟨_, rfl⟩
  obtain ⟨s, es⟩ : ∃ s, s = Vc.sn r := ⟨_, rfl⟩
  obtain ⟨c, ec⟩ : ∃ c, c = Vc.sn (r + 1) := ⟨_, rfl⟩
  have hq1 : q1 < 16 := by omega
  have hq2 : q2 < 16 := by omega
  have hq3 : q3 < 16 := by omega
  have hq4 : q4 < 16 := by omega
  have hi1 : (q1 : Int) < 16 := by omega
  have hi2 : (q2 : Int) < 16 := by omega
  have hi3 : (q3 : Int) < 16 := by omega
  have hi4 : (q4 : Int) < 16 := by omega
  have hns : IntKind.i64.wrap (-s) = -s := IntWalk.i64_in _ (by have := Vc.sn_bd r; omega)
  have s0 : w.cell? ⟨0, 0, none⟩ = some (.int .i64 0) := hs 0 (by omega)
  have s1 : w.cell? ⟨0, 1, none⟩ = some (.int .i64 65536) := hs 1 (by omega)
  have s2 : w.cell? ⟨0, 2, none⟩ = some (.int .i64 0) := hs 2 (by omega)
  have s3 : w.cell? ⟨0, 3, none⟩ = some (.int .i64 (-65536)) := hs 3 (by omega)
  have HLy := Lib.hid (Vc.lay_eq m e1 e2 e3 e4 es ec)
  have HT0 : Hid (Tw w w bx B m) := Lib.hid ⟨hp0, hm, ⟨fun _ _ _ => rfl, fun _ => rfl, rfl, fun _ _ => Below.refl _ _⟩⟩
  have E1 := Lib.hid e1
  have E2 := Lib.hid e2
  have E3 := Lib.hid e3
  have E4 := Lib.hid e4
  have ES := Lib.hid es
  have EC := Lib.hid ec
  clear e1 e2 e3 e4 es ec hm hs hp0
  go_enter Tryd.func19, Tryd.ntmps19
  go_upto_region 0 with fail
  go_cut [7, 8] (fun s7 s8 wx => s7 = .int .i64 s ∧ s8 = .int .i64 c ∧ Tw w wx bx B m)
  case first =>
    have l1 : IntKind.i64.wrap 1 = 1 := by decide
    have l2 : IntKind.i64.wrap 2 = 2 := by decide
    have l3 : IntKind.i64.wrap 3 = 3 := by decide
    have l4 : IntKind.i64.wrap 4 = 4 := by decide
    obtain rfl | rfl | rfl | rfl : r = 0 ∨ r = 1 ∨ r = 2 ∨ r = 3 := by omega
    all_goals
      go_quiet (fail)
      go_wp2_with fail
      go_meet
      exact ⟨by rw [ES.out]; rfl, by rw [EC.out]; rfl, HT0.out.drewN _⟩
  case rest =>
    obtain ⟨rfl, rfl, hT0⟩ := hcut
    have HT := Lib.hid hT0
    clear hT0 s0 s1 s2 s3 HT0
    go_upto_region 1 with fail
    go_cut [] (fun wx => Tw w wx bx B (Vc.put (Vc.put m q1 c) q2 (-s)))
    case first =>
      have hT := HT.out
      have hp := hT.p
      have hc1 := hT.m.cell q1 hq1
      have hc2 := hT.m.cell q2 hq2
      have hf1 := hT.m.froz q1 hq1
      have hf2 := hT.m.froz q2 hq2
      have hp2 := (hT.put hx hq1 (c)).p
      have k2 : (wc.setCell ⟨B, q1, none⟩ (.int .i64 (c))).cell? ⟨B, q2, none⟩ = some (.int .i64 (Vc.put m q1 (c) q2)) := (hT.put hx hq1 (c)).m.cell q2 hq2
      have HT2 := Lib.hid ((hT.put hx hq1 (c)).put hx hq2 (-s))
      clear hT
      go_region_with ((first | (go_at_call 20; (first | (with_reducible refine (at_nat f f q1 _ (by omega) (by omega) E1.out).mono ?_) | (with_reducible refine (at_nat f t q2 _ (by omega) (by omega) E2.out).mono ?_)); rintro e w' ⟨rfl, rfl⟩)))
      all_goals
        go_wp2_with fail
        go_meet
        exact HT2.out.drew
    case rest =>
      have HT := Lib.hid hcut
      clear hcut
      go_upto_region 2 with fail
      have hT := HT.out
      have hp := hT.p
      have hc1 := hT.m.cell q3 hq3
      have hc2 := hT.m.cell q4 hq4
      have hf1 := hT.m.froz q3 hq3
      have hf2 := hT.m.froz q4 hq4
      have hp2 := (hT.put hx hq3 (s)).p
      have k2 : (wc.setCell ⟨B, q3, none⟩ (.int .i64 (s))).cell? ⟨B, q4, none⟩ = some (.int .i64 (Vc.put (Vc.put (Vc.put m q1 c) q2 (-s)) q3 (s) q4)) := (hT.put hx hq3 (s)).m.cell q4 hq4
      have HT2 := Lib.hid ((hT.put hx hq3 (s)).put hx hq4 (c))
      clear hT
      go_region_with ((first | (go_at_call 20; (first | (with_reducible refine (at_nat t f q3 _ (by omega) (by omega) E3.out).mono ?_) | (with_reducible refine (at_nat t t q4 _ (by omega) (by omega) E4.out).mono ?_)); rintro e w' ⟨rfl, rfl⟩)))
      all_goals
        go_wp2_with fail
        refine bodyPost_end (results_none rfl _ _ _) rfl ⟨rfl, ?_, HT2.out.drew.s⟩
        have h9 := HT2.out.drew.m
        rw [HLy.out] at h9
        exact h9
end Go.Proofs.YtbhdmfoigilibaaDoor
