/-
  Contract of layer 5's Mul.
-/
import Derived.Test.YtbhdmfoigilibaaVecWalks3
import Derived.Test.YtbhdmfoigilibaaVecRows
import Derived.Deep.DeepCutAuto
namespace Go.Proofs.Ytbhdmfoigilibaa
open Go.RowKit

/-- the call's own blocks: both matrices, the result (zeros as yet) -/
structure Mu (w W : World) (a b : Nat → Int) : Prop where
  m1 : Rw 16 W w.heap.size a
  m2 : Rw 16 W (w.heap.size + 1) b
  r : Rw 16 W (w.heap.size + 2) (fun _ => 0)
  k : Kp w.heap.size w W
theorem Mu.call {w W W' : World} {a b : Nat → Int} (h : Mu w W a b) (k : Kp W.heap.size W W') : Mu w W' a b := ⟨h.m1.call (by omega) k, h.m2.call (by omega) k, h.r.call (by omega) k, h.k.trans (k.mono h.k.size)⟩
theorem Mu.size {w W : World} {a b : Nat → Int} (h : Mu w W a b) : w.heap.size + 2 < W.heap.size := h.r.lt (by omega)
theorem Mu.set {w W : World} {a b : Nat → Int} (h : Mu w W a b) {p : Addr} (hp : w.heap.size + 2 < p.block) (v : Value) : Mu w (W.setCell p v) a b := ⟨h.m1.other (by omega) _, h.m2.other (by omega) _, h.r.other (by omega) _, h.k.setCell (by omega) _⟩
theorem Mu.new (w : World) (a b : Nat → Int) (t : TypeId) : Mu w (((w.alloc (.cells (Vc.ar a) t)).alloc (.cells (Vc.ar b) t)).alloc (.cells #[.int .i64 0, .int .i64 0, .int .i64 0, .int .i64 0, .int .i64 0, .int .i64 0, .int .i64 0, .int .i64 0, .int .i64 0, .int .i64 0, .int .i64 0, .int .i64 0, .int .i64 0, .int .i64 0, .int .i64 0, .int .i64 0] t)) a b :=
  ⟨((Rw.new16 w a t rfl).alloc (by omega) _ _).alloc (by omega) _ _, (Rw.new16 _ b t (by simp)).alloc (by omega) _ _, Rw.zero16 _ _ (by simp), (((Kp.refl _ _).alloc (Nat.le_refl _) _ _).alloc (by simp) _ _).alloc (by simp; omega) _ _⟩
/-- .. and the product, as far as it is laid -/
structure Mp (w W : World) (a b : Nat → Int) (B n : Nat) : Prop where
  u : Mu w W a b
  p : Rw 16 W B (fun q => if q < n then Vc.mul a b q else 0)
theorem Mp.call {w W W' : World} {a b : Nat → Int} {B n : Nat} (h : Mp w W a b B n) (k : Kp W.heap.size W W') : Mp w W' a b B n := ⟨h.u.call k, h.p.call (by omega) k⟩
theorem Mp.drew {w W : World} {a b : Nat → Int} {B n : Nat} (h : Mp w W a b B n) : Mp w W.drew a b B n := h.call (Kp.refl _ _).drew
theorem Mp.put {w W : World} {a b : Nat → Int} {B n : Nat} (h : Mp w W a b B n) (hn : n < 16) (hB : w.heap.size + 2 < B) : Mp w (W.setCell ⟨B, n, none⟩ (.int .i64 (Vc.mul a b n))) a b B (n + 1) := by
  refine ⟨h.u.set hB _, (h.p.set hn (Vc.mul a b n)).congr fun j _ => ?_⟩
  by_cases e : j = n
  · subst e; rw [if_pos rfl, if_pos (by omega)]
  · rw [if_neg e]
    by_cases c : j < n
    · rw [if_pos c, if_pos (by omega)]
    · rw [if_neg c, if_neg (by omega)]
theorem at_nat (k l q : Nat) (w : World) (hk : k < 4) (hl : l < 4) (hq : q = 4 * k + l) :
    Calls Try.prog 25 #[.int .i64 k, .int .i64 l] w fun e w' => e = .returned (.int .i64 q) ∧ w' = w :=
  (at_any k l w (by omega) (by omega)).mono fun e w' h => ⟨by rw [h.1]; exact ret_int (by omega), h.2.symm⟩
theorem product_at (a b : Nat → Int) (k l q : Nat) (w : World) (hk : k < 4) (hl : l < 4) (hq : q = 4 * k + l) (ha : ∀ j, j < 16 → -16777216 ≤ a j ∧ a j ≤ 16777216) (hb : ∀ j, j < 16 → -16777216 ≤ b j ∧ b j ≤ 16777216) :
    Calls Try.prog 21 #[.agg #[.int .i64 ((Vc.row a k) 0), .int .i64 ((Vc.row a k) 1), .int .i64 ((Vc.row a k) 2), .int .i64 ((Vc.row a k) 3)], .agg #[.int .i64 ((Vc.col b l) 0), .int .i64 ((Vc.col b l) 1), .int .i64 ((Vc.col b l) 2), .int .i64 ((Vc.col b l) 3)]] w fun e w' => e = .returned (.int .i64 (Vc.mul a b q)) ∧ Kp w.heap.size w w' :=
  (product_any (Vc.row a k) (Vc.col b l) w (fun j hj => ha (4 * k + j) (by omega)) (fun j hj => by have := hb (4 * j + l) (by omega); unfold Vc.col; omega)).mono fun e w' h => ⟨by rw [h.1]; unfold Vc.mul; rw [show q / 4 = k by omega, show q % 4 = l by omega], h.2⟩

set_option maxHeartbeats 1000000 in
theorem mul_no1 (a b : Nat → Int) (w : World) (ha : Vc.wi 16777216 a 16 = false) :
    Calls Try.prog 11 #[.agg (Vc.ar (a)), .agg (Vc.ar (b))] w fun e w' => e = .returned (.tuple #[.agg (Vc.ar (fun _ => 0)), .int .i64 3]) ∧ Kp w.heap.size w w' := by
  have HL := Lib.hid (Mu.new w a b 23)
  go_enter Try.func11, Try.ntmps11
  go_wp2_with (first | (first | go_skip | ((with_reducible show wpList _ _ _ ({ dst := _, op := Op.load 23 _, type := _, pos := _, after := _, guard := _ } :: _) _ _); refine wpList_ldg rfl _ rfl _ rfl a ?_ ?_; (with_reducible exact HL.out.m1)) | ((with_reducible show wpList _ _ _ ({ dst := _, op := Op.load 23 _, type := _, pos := _, after := _, guard := _ } :: _) _ _); refine wpList_ldg rfl _ rfl _ rfl b ?_ ?_; (with_reducible exact HL.out.m2)) | (go_at_call 19; (first | (with_reducible refine (mayBe_any a _).mono ?_) | (with_reducible refine (mayBe_any b _).mono ?_)); rintro e w' ⟨rfl, hk⟩; have l2 := HL.out.call hk; clear HL hk; have HL := Lib.hid l2; clear l2)) | ((with_reducible show wpList _ _ _ ({ dst := _, op := Op.store 23 _ _, type := _, pos := _, after := _, guard := _ } :: _) _ _); refine wpList_st rfl _ _ rfl _ rfl (fun _ => 0) (congrArg Value.agg Vc.ar_zero) (f := fun _ => 0) ?_ ?_; (exact HL.out.r); intro w2 hr2 hs2; have HR := Lib.hid hr2; have KK := Lib.hid (hs2.kp HL.out.k (by omega)); clear hr2 hs2))
  exact bodyPost_ret (results_m2 rfl rfl rfl HR.out) rfl ⟨rfl, KK.out⟩

set_option maxHeartbeats 1000000 in
theorem mul_no2 (a b : Nat → Int) (w : World) (ha : Vc.wi 16777216 a 16 = true) (hb : Vc.wi 16777216 b 16 = false) :
    Calls Try.prog 11 #[.agg (Vc.ar (a)), .agg (Vc.ar (b))] w fun e w' => e = .returned (.tuple #[.agg (Vc.ar (fun _ => 0)), .int .i64 3]) ∧ Kp w.heap.size w w' := by
  have HL := Lib.hid (Mu.new w a b 23)
  go_enter Try.func11, Try.ntmps11
  go_wp2_with (first | (first | go_skip | ((with_reducible show wpList _ _ _ ({ dst := _, op := Op.load 23 _, type := _, pos := _, after := _, guard := _ } :: _) _ _); refine wpList_ldg rfl _ rfl _ rfl a ?_ ?_; (with_reducible exact HL.out.m1)) | ((with_reducible show wpList _ _ _ ({ dst := _, op := Op.load 23 _, type := _, pos := _, after := _, guard := _ } :: _) _ _); refine wpList_ldg rfl _ rfl _ rfl b ?_ ?_; (with_reducible exact HL.out.m2)) | (go_at_call 19; (first | (with_reducible refine (mayBe_any a _).mono ?_) | (with_reducible refine (mayBe_any b _).mono ?_)); rintro e w' ⟨rfl, hk⟩; have l2 := HL.out.call hk; clear HL hk; have HL := Lib.hid l2; clear l2)) | ((with_reducible show wpList _ _ _ ({ dst := _, op := Op.store 23 _ _, type := _, pos := _, after := _, guard := _ } :: _) _ _); refine wpList_st rfl _ _ rfl _ rfl (fun _ => 0) (congrArg Value.agg Vc.ar_zero) (f := fun _ => 0) ?_ ?_; (exact HL.out.r); intro w2 hr2 hs2; have HR := Lib.hid hr2; have KK := Lib.hid (hs2.kp HL.out.k (by omega)); clear hr2 hs2))
  exact bodyPost_ret (results_m2 rfl rfl rfl HR.out) rfl ⟨rfl, KK.out⟩

set_option linter.unusedSimpArgs false in
set_option maxHeartbeats 8000000 in
theorem mul_core (a b : Nat → Int) (w : World) (ha : Vc.wi 16777216 a 16 = true) (hb : Vc.wi 16777216 b 16 = true) :
    Calls Try.prog 11 #[.agg (Vc.ar (a)), .agg (Vc.ar (b))] w fun e w' => (e = .returned (if Vc.wi 16777216 (Vc.mul a b) 16 then .tuple #[.agg (Vc.ar (Vc.mul a b)), .int .i64 0] else .tuple #[.agg (Vc.ar (fun _ => 0)), .int .i64 3])) ∧ Kp w.heap.size w w' := by
  have HL := Lib.hid (Mu.new w a b 23)
  have HA := Lib.hid (Vc.wi_all ha)
  have HB := Lib.hid (Vc.wi_all hb)
  go_enter Try.func11, Try.ntmps11
  go_upto_region 3 with (first | go_skip | ((with_reducible show wpList _ _ _ ({ dst := _, op := Op.load 23 _, type := _, pos := _, after := _, guard := _ } :: _) _ _); refine wpList_ldg rfl _ rfl _ rfl a ?_ ?_; (with_reducible exact HL.out.m1)) | ((with_reducible show wpList _ _ _ ({ dst := _, op := Op.load 23 _, type := _, pos := _, after := _, guard := _ } :: _) _ _); refine wpList_ldg rfl _ rfl _ rfl b ?_ ?_; (with_reducible exact HL.out.m2)) | (go_at_call 19; (first | (with_reducible refine (mayBe_any a _).mono ?_) | (with_reducible refine (mayBe_any b _).mono ?_)); rintro e w' ⟨rfl, hk⟩; have l2 := HL.out.call hk; clear HL hk; have HL := Lib.hid l2; clear l2))
  have HS := Lib.hid HL.out.size
  have HZ := Lib.hid (HL.out.call ((Kp.refl w'.heap.size w').alloc (Nat.le_refl _) #[.int .i64 0, .int .i64 0, .int .i64 0, .int .i64 0, .int .i64 0, .int .i64 0, .int .i64 0, .int .i64 0, .int .i64 0, .int .i64 0, .int .i64 0, .int .i64 0, .int .i64 0, .int .i64 0, .int .i64 0, .int .i64 0] 23))
  have HP0 := Lib.hid (Rw.zero16 w' 23 rfl)
  generalize hB : w'.heap.size = B at *
  have hBh := Lib.hid hB
  clear hB
  go_wp2_with fail
  rw [hBh.out]
  go_loopw [18] (fun i wr => ∃ k : Nat, k ≤ 4 ∧ i = .int .i64 k ∧ Mp w wr a b B (4 * k)) (fun i _ => 4 - (intOf i).toNat)
  case atStart => exact ⟨0, by omega, rfl, HZ.out, HP0.out.congr fun j _ => by rw [if_neg (by omega)]⟩
  case round =>
    obtain ⟨k, hk, rfl, hP⟩ := hrel
    have HP := Lib.hid hP
    clear hP
    by_cases hlt : k < 4
    · have hkd : decide ((k : Int) < 4) = true := decide_eq_true (by omega)
      go_wp2
      go_loopw [21] (fun j wr => ∃ l : Nat, l ≤ 4 ∧ j = .int .i64 l ∧ Mp w wr a b B (4 * k + l)) (fun j _ => 4 - (intOf j).toNat)
      case atStart => exact ⟨0, by omega, rfl, HP.out⟩
      case round =>
        obtain ⟨l, hl, rfl, hP2⟩ := hrel
        by_cases hlt2 : l < 4
        · obtain ⟨q, hq⟩ : ∃ q : Nat, q = 4 * k + l := ⟨_, rfl⟩
          rw [← hq] at hP2
          have hq16 : q < 16 := by omega
          have hqi : (q : Int) < 16 := by omega
          have HQ := Lib.hid hq
          have HP2 := Lib.hid hP2
          clear hq hP2
          go_upto_region 10 with fail
          refine Rg.region (I := fun _ W => Mp w W a b B q) (dem := fun _ => false) (m := 11) (g := 1) (T := fun listed bs a' => ∀ W, Mp w W a b B q → wpAny Try.prog .any _ _ 1 listed a' W) (by kernel_rfl) HP2.out.drew rfl (fun _ _ _ _ h hI => h _ hI) ?_
          refine Rg.take 0 (v := .int .i64 k) rfl rfl (by kernel_rfl) (by kernel_rfl) (by kernel_rfl) (by kernel_rfl) (by kernel_rfl) (.inl ⟨rfl, fun bs wq hI => ?_⟩) ?_
          · go_simp
          simp only [Act.put, List.getElem_toArray, List.getElem_cons_zero, List.getElem_cons_succ, List.setIfInBounds_toArray, List.set_cons_zero, List.set_cons_succ]
          refine Rg.take 1 (v := .int .i64 l) rfl rfl (by kernel_rfl) (by kernel_rfl) (by kernel_rfl) (by kernel_rfl) (by kernel_rfl) (.inl ⟨rfl, fun bs wq hI => ?_⟩) ?_
          · go_simp
          simp only [Act.put, List.getElem_toArray, List.getElem_cons_zero, List.getElem_cons_succ, List.setIfInBounds_toArray, List.set_cons_zero, List.set_cons_succ]
          refine Rg.take 2 (v := .int .i64 q) rfl rfl (by kernel_rfl) (by kernel_rfl) (by kernel_rfl) (by kernel_rfl) (by kernel_rfl) (.inl ⟨rfl, fun bs wq hI => ?_⟩) ?_
          · (go_simp; exact (at_nat k l q _ hlt hlt2 HQ.out).mono fun e w2 h => ⟨h.1, h.2 ▸ hI⟩)
          simp only [Act.put, List.getElem_toArray, List.getElem_cons_zero, List.getElem_cons_succ, List.setIfInBounds_toArray, List.set_cons_zero, List.set_cons_succ]
          refine Rg.take 3 (v := .agg (Vc.ar a)) rfl rfl (by kernel_rfl) (by kernel_rfl) (by kernel_rfl) (by kernel_rfl) (by kernel_rfl) (.inl ⟨rfl, fun bs wq hI => ?_⟩) ?_
          · exact quiet_ldM (b := w.heap.size) (.tmp 2) rfl rfl hI.u.m1
          simp only [Act.put, List.getElem_toArray, List.getElem_cons_zero, List.getElem_cons_succ, List.setIfInBounds_toArray, List.set_cons_zero, List.set_cons_succ]
          refine Rg.take 4 (v := .int .i64 k) rfl rfl (by kernel_rfl) (by kernel_rfl) (by kernel_rfl) (by kernel_rfl) (by kernel_rfl) (.inl ⟨rfl, fun bs wq hI => ?_⟩) ?_
          · go_simp
          simp only [Act.put, List.getElem_toArray, List.getElem_cons_zero, List.getElem_cons_succ, List.setIfInBounds_toArray, List.set_cons_zero, List.set_cons_succ]
          refine Rg.take 5 (v := .agg #[.int .i64 (Vc.row a k 0), .int .i64 (Vc.row a k 1), .int .i64 (Vc.row a k 2), .int .i64 (Vc.row a k 3)]) rfl rfl (by kernel_rfl) (by kernel_rfl) (by kernel_rfl) (by kernel_rfl) (by kernel_rfl) (.inl ⟨rfl, fun bs wq hI => ?_⟩) ?_
          · (go_simp; exact (rowOf_any a k hlt _).mono fun e w2 h => ⟨h.1, hI.call h.2⟩)
          simp only [Act.put, List.getElem_toArray, List.getElem_cons_zero, List.getElem_cons_succ, List.setIfInBounds_toArray, List.set_cons_zero, List.set_cons_succ]
          refine Rg.take 6 (v := .agg (Vc.ar b)) rfl rfl (by kernel_rfl) (by kernel_rfl) (by kernel_rfl) (by kernel_rfl) (by kernel_rfl) (.inl ⟨rfl, fun bs wq hI => ?_⟩) ?_
          · exact quiet_ldM (b := w.heap.size + 1) (.tmp 3) rfl rfl hI.u.m2
          simp only [Act.put, List.getElem_toArray, List.getElem_cons_zero, List.getElem_cons_succ, List.setIfInBounds_toArray, List.set_cons_zero, List.set_cons_succ]
          refine Rg.take 7 (v := .int .i64 l) rfl rfl (by kernel_rfl) (by kernel_rfl) (by kernel_rfl) (by kernel_rfl) (by kernel_rfl) (.inl ⟨rfl, fun bs wq hI => ?_⟩) ?_
          · go_simp
          simp only [Act.put, List.getElem_toArray, List.getElem_cons_zero, List.getElem_cons_succ, List.setIfInBounds_toArray, List.set_cons_zero, List.set_cons_succ]
          refine Rg.take 8 (v := .agg #[.int .i64 (Vc.col b l 0), .int .i64 (Vc.col b l 1), .int .i64 (Vc.col b l 2), .int .i64 (Vc.col b l 3)]) rfl rfl (by kernel_rfl) (by kernel_rfl) (by kernel_rfl) (by kernel_rfl) (by kernel_rfl) (.inl ⟨rfl, fun bs wq hI => ?_⟩) ?_
          · (go_simp; exact (columnOf_any b l hlt2 _).mono fun e w2 h => ⟨h.1, hI.call h.2⟩)
          simp only [Act.put, List.getElem_toArray, List.getElem_cons_zero, List.getElem_cons_succ, List.setIfInBounds_toArray, List.set_cons_zero, List.set_cons_succ]
          refine Rg.take 9 (v := .int .i64 (Vc.mul a b q)) rfl rfl (by kernel_rfl) (by kernel_rfl) (by kernel_rfl) (by kernel_rfl) (by kernel_rfl) (.inl ⟨rfl, fun bs wq hI => ?_⟩) ?_
          · (go_simp; exact (product_at a b k l q _ hlt hlt2 HQ.out HA.out HB.out).mono fun e w2 h => ⟨h.1, hI.call h.2⟩)
          simp only [Act.put, List.getElem_toArray, List.getElem_cons_zero, List.getElem_cons_succ, List.setIfInBounds_toArray, List.set_cons_zero, List.set_cons_succ]
          refine Rg.take 10 (v := .pointer (some ⟨B, q, none⟩)) rfl rfl (by kernel_rfl) (by kernel_rfl) (by kernel_rfl) (by kernel_rfl) (by kernel_rfl) (.inl ⟨rfl, fun bs wq hI => ?_⟩) ?_
          · go_simp
          simp only [Act.put, List.getElem_toArray, List.getElem_cons_zero, List.getElem_cons_succ, List.setIfInBounds_toArray, List.set_cons_zero, List.set_cons_succ]
          refine Rg.done (rs := [11]) (by kernel_rfl) (by decide) (fun W hI => ?_)
          have hc8 := hI.p.cell q hq16
          have hf8 := hI.p.froz q hq16
          have HI := Lib.hid hI
          clear hI
          refine wpAny_ready (rs := [11]) (by kernel_rfl) (by simp) (AllReady.cons (o := _) rfl (fun K hK => ?_) AllReady.nil)
          go_simp
          refine hK _ _ ?_
          clear hK K
          refine wpAny_done (by kernel_rfl) ?_ _
          go_wp2_with fail
          have hq := HQ.out
          have hz := HI.out.put hq16 HS.out
          rw [show q + 1 = 4 * k + (l + 1) by omega] at hz
          go_roundw
          case rel => exact ⟨l + 1, by omega, by go_num, hz⟩
          case measure => simp [intOf]; omega
        · obtain rfl : l = 4 := by omega
          have HP2 := Lib.hid hP2
          clear hP2
          go_wp2
          have hz := HP2.out
          rw [show 4 * k + 4 = 4 * (k + 1) by omega] at hz
          go_roundw
          case rel => exact ⟨k + 1, by omega, by go_num, hz⟩
          case measure => simp [intOf]; omega
    · obtain rfl : k = 4 := by omega
      have HM := Lib.hid (HP.out.p.congr (g := Vc.mul a b) fun j hj => by rw [if_pos (by omega)])
      cases hm : Vc.wi 16777216 (Vc.mul a b) 16
      · go_wp2_with (first | ((with_reducible show wpList _ _ _ ({ dst := _, op := Op.load 23 _, type := _, pos := _, after := _, guard := _ } :: _) _ _); refine wpList_ldg rfl _ rfl _ rfl (Vc.mul a b) ?_ ?_; (exact HM.out)) | (go_at_call 19; refine (mayBe_any (Vc.mul a b) _).mono ?_; rintro e w5 ⟨rfl, hk⟩; have HU := Lib.hid (HP.out.u.call hk); clear hk) | ((with_reducible show wpList _ _ _ ({ dst := _, op := Op.store 23 _ _, type := _, pos := _, after := _, guard := _ } :: _) _ _); refine wpList_st rfl _ _ rfl _ rfl (fun _ => 0) (congrArg Value.agg Vc.ar_zero) (f := fun _ => 0) ?_ ?_; (exact HU.out.r); intro w6 hr6 hs6; have HR := Lib.hid hr6; have KK := Lib.hid (hs6.kp HU.out.k (by omega)); clear hr6 hs6))
        all_goals exact bodyPost_ret (results_m2 rfl rfl rfl HR.out) rfl ⟨rfl, KK.out⟩
      · go_wp2_with (first | ((with_reducible show wpList _ _ _ ({ dst := _, op := Op.load 23 _, type := _, pos := _, after := _, guard := _ } :: _) _ _); refine wpList_ldg rfl _ rfl _ rfl (Vc.mul a b) ?_ ?_; (first | exact HM.out | exact HM5.out)) | (go_at_call 19; refine (mayBe_any (Vc.mul a b) _).mono ?_; rintro e w5 ⟨rfl, hk⟩; have HU := Lib.hid (HP.out.u.call hk); have HM5 := Lib.hid (HM.out.call (by omega) hk); clear hk) | ((with_reducible show wpList _ _ _ ({ dst := _, op := Op.store 23 _ _, type := _, pos := _, after := _, guard := _ } :: _) _ _); refine wpList_st rfl _ _ rfl _ rfl _ rfl (f := fun _ => 0) ?_ ?_; (exact HU.out.r); intro w6 hr6 hs6; have HR := Lib.hid hr6; have KK := Lib.hid (hs6.kp HU.out.k (by omega)); clear hr6 hs6))
        all_goals exact bodyPost_ret (results_m2 rfl rfl rfl HR.out) rfl ⟨rfl, KK.out⟩
end Go.Proofs.Ytbhdmfoigilibaa
