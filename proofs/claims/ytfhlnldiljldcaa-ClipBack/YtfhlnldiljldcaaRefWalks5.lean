/-
  Contracts of the document's own answers for layer 2, fifth part: a quotient bit by bit.
-/
import Derived.Test.YtfhlnldiljldcaaRefWalks4
import Derived.Test.YtfhlnldiljldcaaRefPlain5
namespace Go.Proofs.Ytfhlnldiljldcaa
open Go.RowKit

theorem radd_to (x y z : Int) (w : World) (h : z = x + y) :
    Calls Try.prog 41 #[.agg #[.int .i64 (Wd.dg (x) 0), .int .i64 (Wd.dg (x) 1), .int .i64 (Wd.dg (x) 2), .int .i64 (Wd.dg (x) 3), .int .i64 (Wd.dg (x) 4), .int .i64 (Wd.dg (x) 5), .int .i64 (Wd.dg (x) 6), .int .i64 (Wd.dg (x) 7)], .agg #[.int .i64 (Wd.dg (y) 0), .int .i64 (Wd.dg (y) 1), .int .i64 (Wd.dg (y) 2), .int .i64 (Wd.dg (y) 3), .int .i64 (Wd.dg (y) 4), .int .i64 (Wd.dg (y) 5), .int .i64 (Wd.dg (y) 6), .int .i64 (Wd.dg (y) 7)]] w fun e w' => e = .returned (.agg #[.int .i64 (Wd.dg (z) 0), .int .i64 (Wd.dg (z) 1), .int .i64 (Wd.dg (z) 2), .int .i64 (Wd.dg (z) 3), .int .i64 (Wd.dg (z) 4), .int .i64 (Wd.dg (z) 5), .int .i64 (Wd.dg (z) 6), .int .i64 (Wd.dg (z) 7)]) ∧ Kp w.heap.size w w' := by
  subst h; exact radd_any x y w

theorem rneg_to (x z : Int) (w : World) (h : z = -x) :
    Calls Try.prog 44 #[.agg #[.int .i64 (Wd.dg (x) 0), .int .i64 (Wd.dg (x) 1), .int .i64 (Wd.dg (x) 2), .int .i64 (Wd.dg (x) 3), .int .i64 (Wd.dg (x) 4), .int .i64 (Wd.dg (x) 5), .int .i64 (Wd.dg (x) 6), .int .i64 (Wd.dg (x) 7)]] w fun e w' => e = .returned (.agg #[.int .i64 (Wd.dg (z) 0), .int .i64 (Wd.dg (z) 1), .int .i64 (Wd.dg (z) 2), .int .i64 (Wd.dg (z) 3), .int .i64 (Wd.dg (z) 4), .int .i64 (Wd.dg (z) 5), .int .i64 (Wd.dg (z) 6), .int .i64 (Wd.dg (z) 7)]) ∧ Kp w.heap.size w w' := by
  subst h; exact rneg_any x w
theorem ret_nb {k : IntKind} {a c : Int} {b d : Bool} (h : a = c) (h' : b = d) : Ending.returned (.tuple #[.int k a, .bool b]) = .returned (.tuple #[.int k c, .bool d]) := by rw [h, h']

/-- the five rows of a quotient under way -/
structure Sdv (w W : World) (b2 b6 b7 b8 b9 : Nat) (x m B q r : Int) : Prop where
  X : Row W b2 (Wd.dg x)
  M : Row W b6 (Wd.dg m)
  D : Row W b7 (Wd.dg B)
  Q : Row W b8 (Wd.dg q)
  R : Row W b9 (Wd.dg r)
  kp : Kp w.heap.size w W
  ord : w.heap.size ≤ b2 ∧ b2 < b6 ∧ b6 < b7 ∧ b7 < b8 ∧ b8 < b9
section
variable {w W W' : World} {b2 b6 b7 b8 b9 : Nat} {x m B q r : Int}
theorem Sdv.call (h : Sdv w W b2 b6 b7 b8 b9 x m B q r) (k : Kp W.heap.size W W') : Sdv w W' b2 b6 b7 b8 b9 x m B q r :=
  ⟨h.X.kp k h.X.lt, h.M.kp k h.M.lt, h.D.kp k h.D.lt, h.Q.kp k h.Q.lt, h.R.kp k h.R.lt, h.kp.next k, h.ord⟩
theorem Sdv.drew (h : Sdv w W b2 b6 b7 b8 b9 x m B q r) : Sdv w W.drew b2 b6 b7 b8 b9 x m B q r := ⟨h.X, h.M, h.D, h.Q, h.R, h.kp.drew, h.ord⟩
theorem Sdv.setR (h : Sdv w W b2 b6 b7 b8 b9 x m B q r) (z : Int) : Sdv w ((((((((W.setCell ⟨b9, 0, none⟩ (.int .i64 (Wd.dg z 0))).setCell ⟨b9, 1, none⟩ (.int .i64 (Wd.dg z 1))).setCell ⟨b9, 2, none⟩ (.int .i64 (Wd.dg z 2))).setCell ⟨b9, 3, none⟩ (.int .i64 (Wd.dg z 3))).setCell ⟨b9, 4, none⟩ (.int .i64 (Wd.dg z 4))).setCell ⟨b9, 5, none⟩ (.int .i64 (Wd.dg z 5))).setCell ⟨b9, 6, none⟩ (.int .i64 (Wd.dg z 6))).setCell ⟨b9, 7, none⟩ (.int .i64 (Wd.dg z 7))) b2 b6 b7 b8 b9 x m B q z :=
  have o := h.ord
  ⟨h.X.past (by omega) _ _ _ _ _ _ _ _, h.M.past (by omega) _ _ _ _ _ _ _ _, h.D.past (by omega) _ _ _ _ _ _ _ _, h.Q.past (by omega) _ _ _ _ _ _ _ _, h.R.all (Wd.dg z), h.kp.all (by omega) _ _ _ _ _ _ _ _, o⟩
theorem Sdv.setQ (h : Sdv w W b2 b6 b7 b8 b9 x m B q r) (z : Int) : Sdv w ((((((((W.setCell ⟨b8, 0, none⟩ (.int .i64 (Wd.dg z 0))).setCell ⟨b8, 1, none⟩ (.int .i64 (Wd.dg z 1))).setCell ⟨b8, 2, none⟩ (.int .i64 (Wd.dg z 2))).setCell ⟨b8, 3, none⟩ (.int .i64 (Wd.dg z 3))).setCell ⟨b8, 4, none⟩ (.int .i64 (Wd.dg z 4))).setCell ⟨b8, 5, none⟩ (.int .i64 (Wd.dg z 5))).setCell ⟨b8, 6, none⟩ (.int .i64 (Wd.dg z 6))).setCell ⟨b8, 7, none⟩ (.int .i64 (Wd.dg z 7))) b2 b6 b7 b8 b9 x m B z r :=
  have o := h.ord
  ⟨h.X.past (by omega) _ _ _ _ _ _ _ _, h.M.past (by omega) _ _ _ _ _ _ _ _, h.D.past (by omega) _ _ _ _ _ _ _ _, h.Q.all (Wd.dg z), h.R.past (by omega) _ _ _ _ _ _ _ _, h.kp.all (by omega) _ _ _ _ _ _ _ _, o⟩
theorem Sdv.to (h : Sdv w W b2 b6 b7 b8 b9 x m B q r) {q' r' : Int} (hq : q = q') (hr : r = r') : Sdv w W b2 b6 b7 b8 b9 x m B q' r' := by subst hq; subst hr; exact h
end

set_option maxHeartbeats 4000000 in
set_option maxRecDepth 100000 in
theorem rfloor_any (x b : Int) (w : World) (hb : Wd.isInt b) (hb0 : b ≠ 0) :
    Calls Try.prog 35 #[.agg #[.int .i64 (Wd.dg (x) 0), .int .i64 (Wd.dg (x) 1), .int .i64 (Wd.dg (x) 2), .int .i64 (Wd.dg (x) 3), .int .i64 (Wd.dg (x) 4), .int .i64 (Wd.dg (x) 5), .int .i64 (Wd.dg (x) 6), .int .i64 (Wd.dg (x) 7)], .int .i64 b] w fun e w' => e = .returned (.tuple #[.int .i64 (Wd.gn x b), .bool (Wd.gi x b)]) ∧ Kp w.heap.size w w' := by
  obtain ⟨m0, m1⟩ := Wd.am_bd x
  have B0 := (Wd.am_int hb hb0).1
  have B1 := (Wd.am_int hb hb0).2.1
  have hbi : -9223372036854775808 ≤ b ∧ b ≤ 9223372036854775807 := hb
  have hE := run_eqD
  have hZ := run_eqD_zero
  have HM := Lib.hid m1
  clear m1
  go_enter Try.func35, Try.ntmps35
  go_wp2_with fail
  (with_reducible refine (ramount_any _ _).mono ?_)
  rintro e w1 ⟨rfl, hk1⟩
  have z1 := hk1.size; simp at z1; have HK1 := Lib.hid hk1; clear hk1
  go_wp2_with fail
  (with_reducible refine (rof_any _ _ hbi).mono ?_)
  rintro e w2 ⟨rfl, hk2⟩
  have z2 := hk2.size; simp at z2; have HK2 := Lib.hid hk2; clear hk2
  go_wp2_with fail
  (with_reducible refine (ramount_any _ _).mono ?_)
  rintro e w3 ⟨rfl, hk3⟩
  have z3 := hk3.size; have HK3 := Lib.hid hk3; clear hk3
  go_wp2
  have n1 : ¬ w1.heap.size = w3.heap.size + 1 := by omega
  have n2 : ¬ w1.heap.size = w3.heap.size + 1 + 1 := by omega
  have n3 : ¬ w3.heap.size + 1 = w1.heap.size := by omega
  have n4 : ¬ w3.heap.size + 1 + 1 = w1.heap.size := by omega
  go_loopw [10] (fun i wr => ∃ k : Nat, k ≤ 128 ∧ i = .int .i64 ((k : Int) - 1) ∧ Sdv w wr w.heap.size w1.heap.size w3.heap.size (w3.heap.size + 1) (w3.heap.size + 1 + 1) x (Wd.am x) (Wd.am b) (Wd.lq (Wd.am x) (Wd.am b) k) (Wd.lr (Wd.am x) (Wd.am b) k)) (fun i _ => (intOf i + 1).toNat)
  case atStart =>
    obtain ⟨e1, e2⟩ := Wd.long_start (Wd.am x) (Wd.am b) m0 HM.out
    refine ⟨128, by omega, rfl, ?_⟩
    rw [e1, e2]
    have R2 := (Row.new w (Wd.dg x) 62 rfl).kp HK1.out (by simp)
    have R2' := (R2.alloc #[.int .i64 (Wd.dg (Wd.am x) 0), .int .i64 (Wd.dg (Wd.am x) 1), .int .i64 (Wd.dg (Wd.am x) 2), .int .i64 (Wd.dg (Wd.am x) 3), .int .i64 (Wd.dg (Wd.am x) 4), .int .i64 (Wd.dg (Wd.am x) 5), .int .i64 (Wd.dg (Wd.am x) 6), .int .i64 (Wd.dg (Wd.am x) 7)] 62).kp HK2.out (by simp; omega)
    have R6 := (Row.new w1 (Wd.dg (Wd.am x)) 62 rfl).kp HK2.out (by simp)
    have K1 := ((Kp.refl w.heap.size w).alloc (Nat.le_refl _) #[.int .i64 (Wd.dg x 0), .int .i64 (Wd.dg x 1), .int .i64 (Wd.dg x 2), .int .i64 (Wd.dg x 3), .int .i64 (Wd.dg x 4), .int .i64 (Wd.dg x 5), .int .i64 (Wd.dg x 6), .int .i64 (Wd.dg x 7)] 62).trans (HK1.out.mono (by simp))
    have K2 := (K1.alloc (by omega) #[.int .i64 (Wd.dg (Wd.am x) 0), .int .i64 (Wd.dg (Wd.am x) 1), .int .i64 (Wd.dg (Wd.am x) 2), .int .i64 (Wd.dg (Wd.am x) 3), .int .i64 (Wd.dg (Wd.am x) 4), .int .i64 (Wd.dg (Wd.am x) 5), .int .i64 (Wd.dg (Wd.am x) 6), .int .i64 (Wd.dg (Wd.am x) 7)] 62).trans (HK2.out.mono (by simp; omega))
    have K3 := K2.trans (HK3.out.mono (by omega))
    exact ⟨(((R2'.kp HK3.out (by omega)).alloc _ _).alloc _ _).alloc _ _, (((R6.kp HK3.out (by omega)).alloc _ _).alloc _ _).alloc _ _, ((Row.new w3 (Wd.dg (Wd.am b)) _ rfl).alloc _ _).alloc _ _,
      ((Row.zero _ _ (by simp)).congr (fun j _ => (Wd.dg_zero j).symm)).alloc _ _, (Row.zero _ _ (by simp)).congr (fun j _ => (Wd.dg_zero j).symm), ((K3.alloc (by omega) _ _).alloc (by simp; omega) _ _).alloc (by simp; omega) _ _, by omega⟩
  case round =>
    clear HK1 HK2 HK3
    obtain ⟨k, hk, rfl, S0⟩ := hrel
    rcases k with _ | j
    · obtain ⟨e1, e2⟩ := Wd.long_end (Wd.am x) (Wd.am b)
      rw [e1, e2] at S0
      clear e1 e2
      obtain ⟨q0, q1⟩ := Wd.q_bd (x := x) hb hb0
      have HF1 := Lib.hid (fun h => Wd.fl_same' (x := x) hb hb0 h)
      have HF2 := Lib.hid (fun h => Wd.fl_other' (x := x) hb hb0 h)
      have HQ := Lib.hid (fun h => Wd.q_half (x := x) hb hb0 h)
      have r0 := Int.emod_nonneg (Wd.am x) (b := Wd.am b) (by omega)
      have r1 := Int.emod_lt_of_pos (Wd.am x) B0
      have hz := Wd.eqD_zero (r := Wd.am x % Wd.am b) r0 (by omega)
      generalize hq : Wd.am x / Wd.am b = q at *
      generalize hr : Wd.am x % Wd.am b = r at *
      have Hq := Lib.hid hq; have Hr := Lib.hid hr
      clear hq hr
      have cX := S0.X.cell
      have cM := S0.M.cell; have cD := S0.D.cell; have cQ := S0.Q.cell; have fQ := S0.Q.froz; have cR := S0.R.cell; have fR := S0.R.froz
      have HS0 := Lib.hid S0
      clear S0
      have hd2 : decide (b < 0) = decide (b < 0) := rfl
      by_cases hs : Wd.hi x < 0 ↔ b < 0
      · have HF := HF1.out hs
        have HFh := Lib.hid HF
        clear HF
        by_cases hn : Wd.hi q < 0
        · have hnq : Wd.neg q = true := by simpa [Wd.neg] using hn
          have e27 := (Wd.neg_word q0 q1).1 hn
          have HR : Hid (Wd.gn x b = 0 ∧ Wd.gi x b = false) := ⟨by unfold Wd.gn; rw [HFh.out, e27, if_pos rfl], Wd.gn_out (by rw [HFh.out, e27]; unfold Wd.isInt; omega)⟩
          clear e27
          rcases (show (Wd.hi x < 0 ∧ b < 0) ∨ (¬ Wd.hi x < 0 ∧ ¬ b < 0) by omega) with ⟨hx, hy⟩ | ⟨hx, hy⟩
          all_goals
            clear hs
            have hnx : Wd.neg x = Wd.neg x := rfl
            conv at hnx => rhs; unfold Wd.neg; simp only [hx, decide_true, decide_false]
            conv at hd2 => rhs; simp only [hy, decide_true, decide_false]
            go_wp2_with fail
            (with_reducible refine (rbelow_any _ _).mono ?_)
            rintro e wf ⟨rfl, hk⟩
            have Sf := HS0.out.call hk
            clear hk cX
            clear cM cD cQ fQ cR fR
            have cM := Sf.M.cell; have cD := Sf.D.cell; have cQ := Sf.Q.cell; have fQ := Sf.Q.froz; have cR := Sf.R.cell; have fR := Sf.R.froz
            have HSf := Lib.hid Sf
            clear Sf
            go_wp2_with fail
            (with_reducible refine (rbelow_any _ _).mono ?_)
            rintro e wg ⟨rfl, hk⟩
            have Sg := HSf.out.call hk
            clear hk
            go_wp2
            go_ret2
            exact ⟨ret_nb HR.out.1.symm HR.out.2.symm, Sg.kp⟩
        · have hnq : Wd.neg q = false := by simpa [Wd.neg] using hn
          have hlt : q < 170141183460469231731687303715884105728 := by have := Wd.neg_word q0 q1; omega
          have HG : Hid (wrap64 q = Wd.gn x b ∧ Wd.eqD (wrap64 q) q = Wd.gi x b) := ⟨by unfold Wd.gn; rw [HFh.out, if_neg (by omega)], by unfold Wd.gi; rw [Wd.is_int q (by omega) hlt, HFh.out]⟩
          rcases (show (Wd.hi x < 0 ∧ b < 0) ∨ (¬ Wd.hi x < 0 ∧ ¬ b < 0) by omega) with ⟨hx, hy⟩ | ⟨hx, hy⟩
          all_goals
            clear hs
            have hnx : Wd.neg x = Wd.neg x := rfl
            conv at hnx => rhs; unfold Wd.neg; simp only [hx, decide_true, decide_false]
            conv at hd2 => rhs; simp only [hy, decide_true, decide_false]
            go_wp2_with fail
            (with_reducible refine (rbelow_any _ _).mono ?_)
            rintro e wf ⟨rfl, hk⟩
            have Sf := HS0.out.call hk
            clear hk cX
            clear cM cD cQ fQ cR fR
            have cM := Sf.M.cell; have cD := Sf.D.cell; have cQ := Sf.Q.cell; have fQ := Sf.Q.froz; have cR := Sf.R.cell; have fR := Sf.R.froz
            have HSf := Lib.hid Sf
            clear Sf
            go_wp2_with fail
            (with_reducible refine (rbelow_any _ _).mono ?_)
            rintro e wg ⟨rfl, hk⟩
            have Sg := HSf.out.call hk
            clear hk
            clear cM cD cQ fQ cR fR
            have cM := Sg.M.cell; have cD := Sg.D.cell; have cQ := Sg.Q.cell; have fQ := Sg.Q.froz; have cR := Sg.R.cell; have fR := Sg.R.froz
            have HSg := Lib.hid Sg
            clear Sg
            go_wp2
            go_loopw [11, 12] (fun n i wr => ∃ k : Nat, k ≤ 4 ∧ i = .int .i64 ((k : Int) - 1) ∧ n = .int .i64 (Wd.up q k) ∧ Sdv w wr w.heap.size w1.heap.size w3.heap.size (w3.heap.size + 1) (w3.heap.size + 1 + 1) x (Wd.am x) (Wd.am b) q r) (fun _ i _ => (intOf i + 1).toNat)
            case atStart => exact ⟨4, by omega, rfl, congrArg (Value.int .i64) (Wd.up_start q).symm, HSg.out⟩
            case round =>
              clear cM cD cQ fQ cR fR
              obtain ⟨k, hk, rfl, rfl, Sm⟩ := hrel
              have cM := Sm.M.cell; have cD := Sm.D.cell; have cQ := Sm.Q.cell; have fQ := Sm.Q.froz; have cR := Sm.R.cell; have fR := Sm.R.froz
              have HSm := Lib.hid Sm
              clear Sm
              obtain ⟨u1, u2⟩ := Wd.up_bd q k
              rcases k with _ | j
              · go_wp2
                go_region_held3 (fun w' => w'.cell? ⟨w3.heap.size + 1, 0, none⟩ = some (.int .i64 (Wd.dg (q) 0)) ∧ w'.cell? ⟨w3.heap.size + 1, 1, none⟩ = some (.int .i64 (Wd.dg (q) 1)) ∧ w'.cell? ⟨w3.heap.size + 1, 2, none⟩ = some (.int .i64 (Wd.dg (q) 2)) ∧ w'.cell? ⟨w3.heap.size + 1, 3, none⟩ = some (.int .i64 (Wd.dg (q) 3)) ∧ w'.cell? ⟨w3.heap.size + 1, 4, none⟩ = some (.int .i64 (Wd.dg (q) 4)) ∧ w'.cell? ⟨w3.heap.size + 1, 5, none⟩ = some (.int .i64 (Wd.dg (q) 5)) ∧ w'.cell? ⟨w3.heap.size + 1, 6, none⟩ = some (.int .i64 (Wd.dg (q) 6)) ∧ w'.cell? ⟨w3.heap.size + 1, 7, none⟩ = some (.int .i64 (Wd.dg (q) 7))) (simp [go_sem, *])
                  (first | (go_at_call 37; (with_reducible refine (rof_any _ _ ⟨u1, u2⟩).mono ?_); rintro e wn ⟨rfl, hk⟩; have Sn := HSm.out.drew.call hk; clear hk; have cMn := Sn.M.cell; have cDn := Sn.D.cell; have cQn := Sn.Q.cell; have fQn := Sn.Q.froz; have cRn := Sn.R.cell; have fRn := Sn.R.froz; have HSn := Lib.hid Sn; clear Sn))
                go_wp2
                go_ret2
                exact ⟨ret_nb (by rw [Wd.up_end]; exact HG.out.1) (by rw [Wd.up_end]; exact HG.out.2), HSn.out.kp⟩
              · have ei : ((j + 1 : Nat) : Int) - 1 = (j : Int) := by omega
                rw [ei]
                clear ei
                have hj : j < 4 := by omega
                have hj8 : j < 8 := by omega
                obtain ⟨d1, d2⟩ := Wd.dg_bd q j
                have HU := Lib.hid (Wd.up_step q hj)
                go_wp2
                exact ⟨⟨j, by omega, rfl, congrArg (Value.int .i64) HU.out, HSm.out⟩, by simp [intOf]⟩
      · have HF := HF2.out hs
        by_cases hr0 : r = 0
        · rw [if_pos hr0] at HF
          obtain ⟨q2, h2⟩ : ∃ q2, q2 = -q := ⟨_, rfl⟩
          have H2 := Lib.hid h2
          have HG : Hid (wrap64 q2 = Wd.gn x b ∧ Wd.eqD (wrap64 q2) q2 = Wd.gi x b) := by
            have e : Wd.fl x b = q2 := by rw [HF, h2]; omega
            exact ⟨by unfold Wd.gn; rw [e, if_neg (by omega)], by unfold Wd.gi; rw [Wd.is_int q2 (by omega) (by omega), e]⟩
          rw [decide_eq_true hr0] at hz
          clear HF h2 hr0
          rcases (show (Wd.hi x < 0 ∧ ¬ b < 0) ∨ (¬ Wd.hi x < 0 ∧ b < 0) by omega) with ⟨hx, hy⟩ | ⟨hx, hy⟩
          all_goals
            clear hs
            have hnx : Wd.neg x = Wd.neg x := rfl
            conv at hnx => rhs; unfold Wd.neg; simp only [hx, decide_true, decide_false]
            conv at hd2 => rhs; simp only [hy, decide_true, decide_false]
            go_wp2_with fail
            (with_reducible refine (rbelow_any _ _).mono ?_)
            rintro e wf ⟨rfl, hk⟩
            have Sf := HS0.out.call hk
            clear hk cX
            clear cM cD cQ fQ cR fR
            have cM := Sf.M.cell; have cD := Sf.D.cell; have cQ := Sf.Q.cell; have fQ := Sf.Q.froz; have cR := Sf.R.cell; have fR := Sf.R.froz
            have HSf := Lib.hid Sf
            clear Sf
            go_wp2_with fail
            (with_reducible refine (rneg_to _ q2 _ H2.out).mono ?_)
            rintro e wg ⟨rfl, hk⟩
            have Sg := HSf.out.call hk
            clear hk
            clear cM cD cQ fQ cR fR
            have cM := Sg.M.cell; have cD := Sg.D.cell; have cQ := Sg.Q.cell; have fQ := Sg.Q.froz; have cR := Sg.R.cell; have fR := Sg.R.froz
            have HSg := Lib.hid Sg
            clear Sg
            go_wp2
            have Sh := HSg.out.setQ q2
            clear cM cD cQ fQ cR fR
            have cM := Sh.M.cell; have cD := Sh.D.cell; have cQ := Sh.Q.cell; have fQ := Sh.Q.froz; have cR := Sh.R.cell; have fR := Sh.R.froz
            have HSh := Lib.hid Sh
            clear Sh
            go_loopw [11, 12] (fun n i wr => ∃ k : Nat, k ≤ 4 ∧ i = .int .i64 ((k : Int) - 1) ∧ n = .int .i64 (Wd.up q2 k) ∧ Sdv w wr w.heap.size w1.heap.size w3.heap.size (w3.heap.size + 1) (w3.heap.size + 1 + 1) x (Wd.am x) (Wd.am b) q2 r) (fun _ i _ => (intOf i + 1).toNat)
            case atStart => exact ⟨4, by omega, rfl, congrArg (Value.int .i64) (Wd.up_start q2).symm, HSh.out⟩
            case round =>
              clear cM cD cQ fQ cR fR
              obtain ⟨k, hk, rfl, rfl, Sm⟩ := hrel
              have cM := Sm.M.cell; have cD := Sm.D.cell; have cQ := Sm.Q.cell; have fQ := Sm.Q.froz; have cR := Sm.R.cell; have fR := Sm.R.froz
              have HSm := Lib.hid Sm
              clear Sm
              obtain ⟨u1, u2⟩ := Wd.up_bd q2 k
              rcases k with _ | j
              · go_wp2
                go_region_held3 (fun w' => w'.cell? ⟨w3.heap.size + 1, 0, none⟩ = some (.int .i64 (Wd.dg (q2) 0)) ∧ w'.cell? ⟨w3.heap.size + 1, 1, none⟩ = some (.int .i64 (Wd.dg (q2) 1)) ∧ w'.cell? ⟨w3.heap.size + 1, 2, none⟩ = some (.int .i64 (Wd.dg (q2) 2)) ∧ w'.cell? ⟨w3.heap.size + 1, 3, none⟩ = some (.int .i64 (Wd.dg (q2) 3)) ∧ w'.cell? ⟨w3.heap.size + 1, 4, none⟩ = some (.int .i64 (Wd.dg (q2) 4)) ∧ w'.cell? ⟨w3.heap.size + 1, 5, none⟩ = some (.int .i64 (Wd.dg (q2) 5)) ∧ w'.cell? ⟨w3.heap.size + 1, 6, none⟩ = some (.int .i64 (Wd.dg (q2) 6)) ∧ w'.cell? ⟨w3.heap.size + 1, 7, none⟩ = some (.int .i64 (Wd.dg (q2) 7))) (simp [go_sem, *])
                  (first | (go_at_call 37; (with_reducible refine (rof_any _ _ ⟨u1, u2⟩).mono ?_); rintro e wn ⟨rfl, hk⟩; have Sn := HSm.out.drew.call hk; clear hk; have cMn := Sn.M.cell; have cDn := Sn.D.cell; have cQn := Sn.Q.cell; have fQn := Sn.Q.froz; have cRn := Sn.R.cell; have fRn := Sn.R.froz; have HSn := Lib.hid Sn; clear Sn))
                go_wp2
                go_ret2
                exact ⟨ret_nb (by rw [Wd.up_end]; exact HG.out.1) (by rw [Wd.up_end]; exact HG.out.2), HSn.out.kp⟩
              · have ei : ((j + 1 : Nat) : Int) - 1 = (j : Int) := by omega
                rw [ei]
                clear ei
                have hj : j < 4 := by omega
                have hj8 : j < 8 := by omega
                obtain ⟨d1, d2⟩ := Wd.dg_bd q2 j
                have HU := Lib.hid (Wd.up_step q2 hj)
                go_wp2
                exact ⟨⟨j, by omega, rfl, congrArg (Value.int .i64) HU.out, HSm.out⟩, by simp [intOf]⟩
        · rw [if_neg hr0] at HF
          obtain ⟨q2, h2⟩ : ∃ q2, q2 = -q := ⟨_, rfl⟩
          obtain ⟨q3, h3⟩ : ∃ q3, q3 = q2 + -1 := ⟨_, rfl⟩
          have H2 := Lib.hid h2
          have H3 := Lib.hid h3
          have hh := HQ.out hr0
          have HG : Hid (wrap64 q3 = Wd.gn x b ∧ Wd.eqD (wrap64 q3) q3 = Wd.gi x b) := by
            have e : Wd.fl x b = q3 := by rw [HF, h3, h2]; omega
            exact ⟨by unfold Wd.gn; rw [e, if_neg (by omega)], by unfold Wd.gi; rw [Wd.is_int q3 (by omega) (by omega), e]⟩
          rw [decide_eq_false hr0] at hz
          clear HF h2 h3 hr0 hh
          rcases (show (Wd.hi x < 0 ∧ ¬ b < 0) ∨ (¬ Wd.hi x < 0 ∧ b < 0) by omega) with ⟨hx, hy⟩ | ⟨hx, hy⟩
          all_goals
            clear hs
            have hnx : Wd.neg x = Wd.neg x := rfl
            conv at hnx => rhs; unfold Wd.neg; simp only [hx, decide_true, decide_false]
            conv at hd2 => rhs; simp only [hy, decide_true, decide_false]
            go_wp2_with fail
            (with_reducible refine (rbelow_any _ _).mono ?_)
            rintro e wf ⟨rfl, hk⟩
            have Sf := HS0.out.call hk
            clear hk cX
            clear cM cD cQ fQ cR fR
            have cM := Sf.M.cell; have cD := Sf.D.cell; have cQ := Sf.Q.cell; have fQ := Sf.Q.froz; have cR := Sf.R.cell; have fR := Sf.R.froz
            have HSf := Lib.hid Sf
            clear Sf
            go_wp2_with fail
            (with_reducible refine (rneg_to _ q2 _ H2.out).mono ?_)
            rintro e wg ⟨rfl, hk⟩
            have Sg := HSf.out.call hk
            clear hk
            clear cM cD cQ fQ cR fR
            have cM := Sg.M.cell; have cD := Sg.D.cell; have cQ := Sg.Q.cell; have fQ := Sg.Q.froz; have cR := Sg.R.cell; have fR := Sg.R.froz
            have HSg := Lib.hid Sg
            clear Sg
            go_wp2_with fail
            have Sh := HSg.out.setQ q2
            clear cM cD cQ fQ cR fR
            have cM := Sh.M.cell; have cD := Sh.D.cell; have cQ := Sh.Q.cell; have fQ := Sh.Q.froz; have cR := Sh.R.cell; have fR := Sh.R.froz
            have HSh := Lib.hid Sh
            clear Sh
            go_region_with (first
              | (go_at_call 37; (with_reducible refine (rof_any _ _ (by omega)).mono ?_); rintro e wi ⟨rfl, hk⟩; have Si := HSh.out.drew.call hk; clear hk; have cMi := Si.M.cell; have cDi := Si.D.cell; have cQi := Si.Q.cell; have fQi := Si.Q.froz; have cRi := Si.R.cell; have fRi := Si.R.froz; have HSi := Lib.hid Si; clear Si)
              | (go_at_call 41; (with_reducible refine (radd_to _ _ q3 _ H3.out).mono ?_); rintro e wj ⟨rfl, hk⟩; have Sj := HSi.out.call hk; clear hk; have cMj := Sj.M.cell; have cDj := Sj.D.cell; have cQj := Sj.Q.cell; have fQj := Sj.Q.froz; have cRj := Sj.R.cell; have fRj := Sj.R.froz; have HSj := Lib.hid Sj; clear Sj))
            all_goals
              clear cM cD cQ fQ cR fR cMi cDi cQi fQi cRi fRi cMj cDj cQj fQj cRj fRj
              have Sl := HSj.out.setQ q3
              have cM := Sl.M.cell; have cD := Sl.D.cell; have cQ := Sl.Q.cell; have fQ := Sl.Q.froz; have cR := Sl.R.cell; have fR := Sl.R.froz
              have HSl := Lib.hid Sl
              clear Sl
              go_wp2
              go_loopw [11, 12] (fun n i wr => ∃ k : Nat, k ≤ 4 ∧ i = .int .i64 ((k : Int) - 1) ∧ n = .int .i64 (Wd.up q3 k) ∧ Sdv w wr w.heap.size w1.heap.size w3.heap.size (w3.heap.size + 1) (w3.heap.size + 1 + 1) x (Wd.am x) (Wd.am b) q3 r) (fun _ i _ => (intOf i + 1).toNat)
              case atStart => exact ⟨4, by omega, rfl, congrArg (Value.int .i64) (Wd.up_start q3).symm, HSl.out⟩
              case round =>
                clear cM cD cQ fQ cR fR
                obtain ⟨k, hk, rfl, rfl, Sm⟩ := hrel
                have cM := Sm.M.cell; have cD := Sm.D.cell; have cQ := Sm.Q.cell; have fQ := Sm.Q.froz; have cR := Sm.R.cell; have fR := Sm.R.froz
                have HSm := Lib.hid Sm
                clear Sm
                obtain ⟨u1, u2⟩ := Wd.up_bd q3 k
                rcases k with _ | j
                · go_wp2
                  go_region_held3 (fun w' => w'.cell? ⟨w3.heap.size + 1, 0, none⟩ = some (.int .i64 (Wd.dg (q3) 0)) ∧ w'.cell? ⟨w3.heap.size + 1, 1, none⟩ = some (.int .i64 (Wd.dg (q3) 1)) ∧ w'.cell? ⟨w3.heap.size + 1, 2, none⟩ = some (.int .i64 (Wd.dg (q3) 2)) ∧ w'.cell? ⟨w3.heap.size + 1, 3, none⟩ = some (.int .i64 (Wd.dg (q3) 3)) ∧ w'.cell? ⟨w3.heap.size + 1, 4, none⟩ = some (.int .i64 (Wd.dg (q3) 4)) ∧ w'.cell? ⟨w3.heap.size + 1, 5, none⟩ = some (.int .i64 (Wd.dg (q3) 5)) ∧ w'.cell? ⟨w3.heap.size + 1, 6, none⟩ = some (.int .i64 (Wd.dg (q3) 6)) ∧ w'.cell? ⟨w3.heap.size + 1, 7, none⟩ = some (.int .i64 (Wd.dg (q3) 7))) (simp [go_sem, *])
                    (first | (go_at_call 37; (with_reducible refine (rof_any _ _ ⟨u1, u2⟩).mono ?_); rintro e wn ⟨rfl, hk⟩; have Sn := HSm.out.drew.call hk; clear hk; have cMn := Sn.M.cell; have cDn := Sn.D.cell; have cQn := Sn.Q.cell; have fQn := Sn.Q.froz; have cRn := Sn.R.cell; have fRn := Sn.R.froz; have HSn := Lib.hid Sn; clear Sn))
                  go_wp2
                  go_ret2
                  exact ⟨ret_nb (by rw [Wd.up_end]; exact HG.out.1) (by rw [Wd.up_end]; exact HG.out.2), HSn.out.kp⟩
                · have ei : ((j + 1 : Nat) : Int) - 1 = (j : Int) := by omega
                  rw [ei]
                  clear ei
                  have hj : j < 4 := by omega
                  have hj8 : j < 8 := by omega
                  obtain ⟨d1, d2⟩ := Wd.dg_bd q3 j
                  have HU := Lib.hid (Wd.up_step q3 hj)
                  go_wp2
                  exact ⟨⟨j, by omega, rfl, congrArg (Value.int .i64) HU.out, HSm.out⟩, by simp [intOf]⟩
    · have ei : ((j + 1 : Nat) : Int) - 1 = (j : Int) := by omega
      rw [ei]
      clear ei
      obtain ⟨s1, s2⟩ := Wd.long_step (Wd.am x) (Wd.am b) j B0
      obtain ⟨L0, L1, L2, L3⟩ := Wd.long_bd (Wd.am x) (Wd.am b) (j + 1) m0 B0
      have bt2 := Wd.bt_bd (Wd.am x) j
      obtain ⟨r1, h1⟩ : ∃ r1, r1 = Wd.lr (Wd.am x) (Wd.am b) (j + 1) + Wd.lr (Wd.am x) (Wd.am b) (j + 1) := ⟨_, rfl⟩
      obtain ⟨q1, h2⟩ : ∃ q1, q1 = Wd.lq (Wd.am x) (Wd.am b) (j + 1) + Wd.lq (Wd.am x) (Wd.am b) (j + 1) := ⟨_, rfl⟩
      have H1 := Lib.hid h1; have H2 := Lib.hid h2
      have Hs1 := Lib.hid s1; have Hs2 := Lib.hid s2
      clear h1 h2 s1 s2
      have cM := S0.M.cell; have cD := S0.D.cell; have cQ := S0.Q.cell; have fQ := S0.Q.froz; have cR := S0.R.cell; have fR := S0.R.froz
      have HS0 := Lib.hid S0
      clear S0
      by_cases hbt : Wd.bt (Wd.am x) j = 1
      · have hbt' : (Wd.bt (Wd.am x) j == 1) = true := by simpa using hbt
        obtain ⟨r2, h3⟩ : ∃ r2, r2 = r1 + 1 := ⟨_, rfl⟩
        have H3 := Lib.hid h3
        have Hb := Lib.hid hbt
        have hr2 : Wd.ltD r2 (Wd.am b) = decide (r2 < Wd.am b) := Wd.ltD_small (by have := H1.out; omega) (by have := H1.out; omega) (by omega) (by omega)
        clear hbt h3
        by_cases hl : r2 < Wd.am b
        · rw [decide_eq_true hl] at hr2
          go_wp2_with fail
          (with_reducible refine (radd_to _ _ r1 _ H1.out).mono ?_)
          rintro e w4 ⟨rfl, hk⟩
          have S4 := HS0.out.call hk
          clear hk
          clear cM cD cQ fQ cR fR
          have cM := S4.M.cell; have cD := S4.D.cell; have cQ := S4.Q.cell; have fQ := S4.Q.froz; have cR := S4.R.cell; have fR := S4.R.froz
          have HS4 := Lib.hid S4
          clear S4
          go_wp2_with fail
          (with_reducible refine (radd_to _ _ q1 _ H2.out).mono ?_)
          rintro e w5 ⟨rfl, hk⟩
          have S5 := (HS4.out.setR r1).call hk
          clear hk
          clear cM cD cQ fQ cR fR
          have cM := S5.M.cell; have cD := S5.D.cell; have cQ := S5.Q.cell; have fQ := S5.Q.froz; have cR := S5.R.cell; have fR := S5.R.froz
          have HS5 := Lib.hid S5
          clear S5
          go_wp2_with fail
          (with_reducible refine (rbit_any _ j _ (by omega)).mono ?_)
          rintro e w6 ⟨rfl, hk⟩
          have S6 := (HS5.out.setQ q1).call hk
          clear hk
          clear cM cD cQ fQ cR fR
          have cM := S6.M.cell; have cD := S6.D.cell; have cQ := S6.Q.cell; have fQ := S6.Q.froz; have cR := S6.R.cell; have fR := S6.R.froz
          have HS6 := Lib.hid S6
          clear S6
          go_wp2_with fail
          go_region_with (first
              | (go_at_call 37; (with_reducible refine (rof_any _ _ (by omega)).mono ?_); rintro e w7 ⟨rfl, hk⟩; have S7 := HS6.out.drew.call hk; clear hk; have cM7 := S7.M.cell; have cD7 := S7.D.cell; have cQ7 := S7.Q.cell; have fQ7 := S7.Q.froz; have cR7 := S7.R.cell; have fR7 := S7.R.froz; have HS7 := Lib.hid S7; clear S7)
              | (go_at_call 41; (with_reducible refine (radd_to _ _ r2 _ H3.out).mono ?_); rintro e w8 ⟨rfl, hk⟩; have S8 := HS7.out.call hk; clear hk; have cM8 := S8.M.cell; have cD8 := S8.D.cell; have cQ8 := S8.Q.cell; have fQ8 := S8.Q.froz; have cR8 := S8.R.cell; have fR8 := S8.R.froz; have HS8 := Lib.hid S8; clear S8))
          all_goals
            clear cM cD cQ fQ cR fR cM7 cD7 cQ7 fQ7 cR7 fR7
            go_wp2_with fail
            (with_reducible refine (rless_any _ _ _).mono ?_)
            rintro e w9 ⟨rfl, hk⟩
            have S9 := (HS8.out.setR r2).call hk
            clear hk cM8 cD8 cQ8 fQ8 cR8 fR8
            have cM := S9.M.cell; have cD := S9.D.cell; have cQ := S9.Q.cell; have fQ := S9.Q.froz; have cR := S9.R.cell; have fR := S9.R.froz
            have HS9 := Lib.hid S9
            clear S9
            go_wp2_with fail
          all_goals exact ⟨⟨j, by omega, rfl, HS9.out.to (by have := H1.out; have := H2.out; have := H3.out; have := Hb.out; have := Hs1.out (by omega); omega) (by have := H1.out; have := H2.out; have := H3.out; have := Hb.out; have := Hs1.out (by omega); omega)⟩, by simp [intOf]⟩
        · rw [decide_eq_false hl] at hr2
          obtain ⟨r3, h4⟩ : ∃ r3, r3 = r2 + -Wd.am b := ⟨_, rfl⟩
          obtain ⟨q2, h5⟩ : ∃ q2, q2 = q1 + 1 := ⟨_, rfl⟩
          have H4 := Lib.hid h4; have H5 := Lib.hid h5
          clear h4 h5
          go_wp2_with fail
          (with_reducible refine (radd_to _ _ r1 _ H1.out).mono ?_)
          rintro e w4 ⟨rfl, hk⟩
          have S4 := HS0.out.call hk
          clear hk
          clear cM cD cQ fQ cR fR
          have cM := S4.M.cell; have cD := S4.D.cell; have cQ := S4.Q.cell; have fQ := S4.Q.froz; have cR := S4.R.cell; have fR := S4.R.froz
          have HS4 := Lib.hid S4
          clear S4
          go_wp2_with fail
          (with_reducible refine (radd_to _ _ q1 _ H2.out).mono ?_)
          rintro e w5 ⟨rfl, hk⟩
          have S5 := (HS4.out.setR r1).call hk
          clear hk
          clear cM cD cQ fQ cR fR
          have cM := S5.M.cell; have cD := S5.D.cell; have cQ := S5.Q.cell; have fQ := S5.Q.froz; have cR := S5.R.cell; have fR := S5.R.froz
          have HS5 := Lib.hid S5
          clear S5
          go_wp2_with fail
          (with_reducible refine (rbit_any _ j _ (by omega)).mono ?_)
          rintro e w6 ⟨rfl, hk⟩
          have S6 := (HS5.out.setQ q1).call hk
          clear hk
          clear cM cD cQ fQ cR fR
          have cM := S6.M.cell; have cD := S6.D.cell; have cQ := S6.Q.cell; have fQ := S6.Q.froz; have cR := S6.R.cell; have fR := S6.R.froz
          have HS6 := Lib.hid S6
          clear S6
          go_wp2_with fail
          go_region_with (first
              | (go_at_call 37; (with_reducible refine (rof_any _ _ (by omega)).mono ?_); rintro e w7 ⟨rfl, hk⟩; have S7 := HS6.out.drew.call hk; clear hk; have cM7 := S7.M.cell; have cD7 := S7.D.cell; have cQ7 := S7.Q.cell; have fQ7 := S7.Q.froz; have cR7 := S7.R.cell; have fR7 := S7.R.froz; have HS7 := Lib.hid S7; clear S7)
              | (go_at_call 41; (with_reducible refine (radd_to _ _ r2 _ H3.out).mono ?_); rintro e w8 ⟨rfl, hk⟩; have S8 := HS7.out.call hk; clear hk; have cM8 := S8.M.cell; have cD8 := S8.D.cell; have cQ8 := S8.Q.cell; have fQ8 := S8.Q.froz; have cR8 := S8.R.cell; have fR8 := S8.R.froz; have HS8 := Lib.hid S8; clear S8))
          all_goals
            clear cM cD cQ fQ cR fR cM7 cD7 cQ7 fQ7 cR7 fR7
            go_wp2_with fail
            (with_reducible refine (rless_any _ _ _).mono ?_)
            rintro e w9 ⟨rfl, hk⟩
            have S9 := (HS8.out.setR r2).call hk
            clear hk cM8 cD8 cQ8 fQ8 cR8 fR8
            have cM := S9.M.cell; have cD := S9.D.cell; have cQ := S9.Q.cell; have fQ := S9.Q.froz; have cR := S9.R.cell; have fR := S9.R.froz
            have HS9 := Lib.hid S9
            clear S9
            go_wp2_with fail
          all_goals
            go_region_with (first
                | (go_at_call 44; (with_reducible refine (rneg_any _ _).mono ?_); rintro e wa ⟨rfl, hk⟩; have Sa := HS9.out.drew.call hk; clear hk; have cMa := Sa.M.cell; have cDa := Sa.D.cell; have cQa := Sa.Q.cell; have fQa := Sa.Q.froz; have cRa := Sa.R.cell; have fRa := Sa.R.froz; have HSa := Lib.hid Sa; clear Sa)
                | (go_at_call 41; (with_reducible refine (radd_to _ _ r3 _ H4.out).mono ?_); rintro e wb ⟨rfl, hk⟩; have Sb := HSa.out.call hk; clear hk; have cMb := Sb.M.cell; have cDb := Sb.D.cell; have cQb := Sb.Q.cell; have fQb := Sb.Q.froz; have cRb := Sb.R.cell; have fRb := Sb.R.froz; have HSb := Lib.hid Sb; clear Sb))
            all_goals
              clear cM cD cQ fQ cR fR cMa cDa cQa fQa cRa fRa
              have Sc := HSb.out.setR r3
              clear cMb cDb cQb fQb cRb fRb
              go_wp2_with fail
              have cM := Sc.M.cell; have cD := Sc.D.cell; have cQ := Sc.Q.cell; have fQ := Sc.Q.froz; have cR := Sc.R.cell; have fR := Sc.R.froz
              have HSc := Lib.hid Sc
              clear Sc
              go_region_with (first
                | (go_at_call 37; (with_reducible refine (rof_any _ _ (by omega)).mono ?_); rintro e wd ⟨rfl, hk⟩; have Sd := HSc.out.drew.call hk; clear hk; have cMd := Sd.M.cell; have cDd := Sd.D.cell; have cQd := Sd.Q.cell; have fQd := Sd.Q.froz; have cRd := Sd.R.cell; have fRd := Sd.R.froz; have HSd := Lib.hid Sd; clear Sd)
                | (go_at_call 41; (with_reducible refine (radd_to _ _ q2 _ H5.out).mono ?_); rintro e we ⟨rfl, hk⟩; have Se := HSd.out.call hk; clear hk; have cMe := Se.M.cell; have cDe := Se.D.cell; have cQe := Se.Q.cell; have fQe := Se.Q.froz; have cRe := Se.R.cell; have fRe := Se.R.froz; have HSe := Lib.hid Se; clear Se))
            all_goals go_wp2
          all_goals exact ⟨⟨j, by omega, rfl, (HSe.out.setQ q2).to (by have := H1.out; have := H2.out; have := H3.out; have := H4.out; have := H5.out; have := Hb.out; have := Hs2.out (by omega); omega) (by have := H1.out; have := H2.out; have := H3.out; have := H4.out; have := H5.out; have := Hb.out; have := Hs2.out (by omega); omega)⟩, by simp [intOf]⟩
      · have hbt' : (Wd.bt (Wd.am x) j == 1) = false := by simpa using hbt
        have Hb : Hid (Wd.bt (Wd.am x) j = 0) := by show _ = _; omega
        have hr2 : Wd.ltD r1 (Wd.am b) = decide (r1 < Wd.am b) := Wd.ltD_small (by have := H1.out; omega) (by have := H1.out; omega) (by omega) (by omega)
        clear hbt
        by_cases hl : r1 < Wd.am b
        · rw [decide_eq_true hl] at hr2
          go_wp2_with fail
          (with_reducible refine (radd_to _ _ r1 _ H1.out).mono ?_)
          rintro e w4 ⟨rfl, hk⟩
          have S4 := HS0.out.call hk
          clear hk
          clear cM cD cQ fQ cR fR
          have cM := S4.M.cell; have cD := S4.D.cell; have cQ := S4.Q.cell; have fQ := S4.Q.froz; have cR := S4.R.cell; have fR := S4.R.froz
          have HS4 := Lib.hid S4
          clear S4
          go_wp2_with fail
          (with_reducible refine (radd_to _ _ q1 _ H2.out).mono ?_)
          rintro e w5 ⟨rfl, hk⟩
          have S5 := (HS4.out.setR r1).call hk
          clear hk
          clear cM cD cQ fQ cR fR
          have cM := S5.M.cell; have cD := S5.D.cell; have cQ := S5.Q.cell; have fQ := S5.Q.froz; have cR := S5.R.cell; have fR := S5.R.froz
          have HS5 := Lib.hid S5
          clear S5
          go_wp2_with fail
          (with_reducible refine (rbit_any _ j _ (by omega)).mono ?_)
          rintro e w6 ⟨rfl, hk⟩
          have S6 := (HS5.out.setQ q1).call hk
          clear hk
          clear cM cD cQ fQ cR fR
          have cM := S6.M.cell; have cD := S6.D.cell; have cQ := S6.Q.cell; have fQ := S6.Q.froz; have cR := S6.R.cell; have fR := S6.R.froz
          have HS6 := Lib.hid S6
          clear S6
          go_wp2_with fail
          (with_reducible refine (rless_any _ _ _).mono ?_)
          rintro e w9 ⟨rfl, hk⟩
          have S9 := HS6.out.call hk
          clear hk
          clear cM cD cQ fQ cR fR
          have cM := S9.M.cell; have cD := S9.D.cell; have cQ := S9.Q.cell; have fQ := S9.Q.froz; have cR := S9.R.cell; have fR := S9.R.froz
          have HS9 := Lib.hid S9
          clear S9
          go_wp2_with fail
          exact ⟨⟨j, by omega, rfl, HS9.out.to (by have := H1.out; have := H2.out; have := Hb.out; have := Hs1.out (by omega); omega) (by have := H1.out; have := H2.out; have := Hb.out; have := Hs1.out (by omega); omega)⟩, by simp [intOf]⟩
        · rw [decide_eq_false hl] at hr2
          obtain ⟨r3, h4⟩ : ∃ r3, r3 = r1 + -Wd.am b := ⟨_, rfl⟩
          obtain ⟨q2, h5⟩ : ∃ q2, q2 = q1 + 1 := ⟨_, rfl⟩
          have H4 := Lib.hid h4; have H5 := Lib.hid h5
          clear h4 h5
          go_wp2_with fail
          (with_reducible refine (radd_to _ _ r1 _ H1.out).mono ?_)
          rintro e w4 ⟨rfl, hk⟩
          have S4 := HS0.out.call hk
          clear hk
          clear cM cD cQ fQ cR fR
          have cM := S4.M.cell; have cD := S4.D.cell; have cQ := S4.Q.cell; have fQ := S4.Q.froz; have cR := S4.R.cell; have fR := S4.R.froz
          have HS4 := Lib.hid S4
          clear S4
          go_wp2_with fail
          (with_reducible refine (radd_to _ _ q1 _ H2.out).mono ?_)
          rintro e w5 ⟨rfl, hk⟩
          have S5 := (HS4.out.setR r1).call hk
          clear hk
          clear cM cD cQ fQ cR fR
          have cM := S5.M.cell; have cD := S5.D.cell; have cQ := S5.Q.cell; have fQ := S5.Q.froz; have cR := S5.R.cell; have fR := S5.R.froz
          have HS5 := Lib.hid S5
          clear S5
          go_wp2_with fail
          (with_reducible refine (rbit_any _ j _ (by omega)).mono ?_)
          rintro e w6 ⟨rfl, hk⟩
          have S6 := (HS5.out.setQ q1).call hk
          clear hk
          clear cM cD cQ fQ cR fR
          have cM := S6.M.cell; have cD := S6.D.cell; have cQ := S6.Q.cell; have fQ := S6.Q.froz; have cR := S6.R.cell; have fR := S6.R.froz
          have HS6 := Lib.hid S6
          clear S6
          go_wp2_with fail
          (with_reducible refine (rless_any _ _ _).mono ?_)
          rintro e w9 ⟨rfl, hk⟩
          have S9 := HS6.out.call hk
          clear hk
          clear cM cD cQ fQ cR fR
          have cM := S9.M.cell; have cD := S9.D.cell; have cQ := S9.Q.cell; have fQ := S9.Q.froz; have cR := S9.R.cell; have fR := S9.R.froz
          have HS9 := Lib.hid S9
          clear S9
          go_wp2_with fail
          go_region_with (first
              | (go_at_call 44; (with_reducible refine (rneg_any _ _).mono ?_); rintro e wa ⟨rfl, hk⟩; have Sa := HS9.out.drew.call hk; clear hk; have cMa := Sa.M.cell; have cDa := Sa.D.cell; have cQa := Sa.Q.cell; have fQa := Sa.Q.froz; have cRa := Sa.R.cell; have fRa := Sa.R.froz; have HSa := Lib.hid Sa; clear Sa)
              | (go_at_call 41; (with_reducible refine (radd_to _ _ r3 _ H4.out).mono ?_); rintro e wb ⟨rfl, hk⟩; have Sb := HSa.out.call hk; clear hk; have cMb := Sb.M.cell; have cDb := Sb.D.cell; have cQb := Sb.Q.cell; have fQb := Sb.Q.froz; have cRb := Sb.R.cell; have fRb := Sb.R.froz; have HSb := Lib.hid Sb; clear Sb))
          all_goals
            clear cM cD cQ fQ cR fR cMa cDa cQa fQa cRa fRa
            have Sc := HSb.out.setR r3
            clear cMb cDb cQb fQb cRb fRb
            go_wp2_with fail
            have cM := Sc.M.cell; have cD := Sc.D.cell; have cQ := Sc.Q.cell; have fQ := Sc.Q.froz; have cR := Sc.R.cell; have fR := Sc.R.froz
            have HSc := Lib.hid Sc
            clear Sc
            go_region_with (first
              | (go_at_call 37; (with_reducible refine (rof_any _ _ (by omega)).mono ?_); rintro e wd ⟨rfl, hk⟩; have Sd := HSc.out.drew.call hk; clear hk; have cMd := Sd.M.cell; have cDd := Sd.D.cell; have cQd := Sd.Q.cell; have fQd := Sd.Q.froz; have cRd := Sd.R.cell; have fRd := Sd.R.froz; have HSd := Lib.hid Sd; clear Sd)
              | (go_at_call 41; (with_reducible refine (radd_to _ _ q2 _ H5.out).mono ?_); rintro e we ⟨rfl, hk⟩; have Se := HSd.out.call hk; clear hk; have cMe := Se.M.cell; have cDe := Se.D.cell; have cQe := Se.Q.cell; have fQe := Se.Q.froz; have cRe := Se.R.cell; have fRe := Se.R.froz; have HSe := Lib.hid Se; clear Se))
          all_goals go_wp2
          all_goals exact ⟨⟨j, by omega, rfl, (HSe.out.setQ q2).to (by have := H1.out; have := H2.out; have := H4.out; have := H5.out; have := Hb.out; have := Hs2.out (by omega); omega) (by have := H1.out; have := H2.out; have := H4.out; have := H5.out; have := Hb.out; have := Hs2.out (by omega); omega)⟩, by simp [intOf]⟩
end Go.Proofs.Ytfhlnldiljldcaa
