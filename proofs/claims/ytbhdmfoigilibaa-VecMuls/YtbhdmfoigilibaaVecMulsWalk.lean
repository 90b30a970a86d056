/-
  VecMuls: its Go text returns true.
-/
import Derived.Test.YtbhdmfoigilibaaVecRefMul
import Derived.Test.YtbhdmfoigilibaaVecAwake
namespace Go.Proofs.Ytbhdmfoigilibaa
open Go.RowKit

/-- the law's own blocks: both matrices, and those that came -/
structure Ml (w W : World) (a b : Nat → Int) (ms : List (Nat × (Nat → Int))) : Prop where
  a : Rw 16 W w.heap.size a
  b : Rw 16 W (w.heap.size + 1) b
  k : Kp w.heap.size w W
  ms : ∀ q, q ∈ ms → Rw 16 W q.1 q.2
section
variable {w W W' : World} {a b : Nat → Int} {ms : List (Nat × (Nat → Int))}
theorem Ml.call (h : Ml w W a b ms) (k : Kp W.heap.size W W') : Ml w W' a b ms :=
  ⟨h.a.call (by omega) k, h.b.call (by omega) k, h.k.trans (k.mono h.k.size), fun q hq => (h.ms q hq).call (by omega) k⟩
theorem Ml.putM (h : Ml w W a b ms) {cc : Array Value} {t : TypeId} {m : Nat → Int} (s : St W.heap.size (W.alloc (.cells cc t)) W') (r : Rw 16 W' W.heap.size m) : Ml w W' a b ((W.heap.size, m) :: ms) := by
  have h2 := h.call ((Kp.refl _ _).alloc (Nat.le_refl _) cc t)
  refine ⟨s.rw h2.a (Nat.ne_of_lt (h.a.lt (by omega))), s.rw h2.b (Nat.ne_of_lt (h.b.lt (by omega))), s.kp h2.k h.k.size, fun q hq => ?_⟩
  rcases List.mem_cons.1 hq with rfl | hq
  · exact r
  · exact s.rw (h2.ms q hq) (Nat.ne_of_lt ((h.ms q hq).lt (by omega)))
theorem Ml.drew (h : Ml w W a b ms) : Ml w W.drew a b ms := h.call (Kp.refl _ _).drew
theorem Ml.m1 {q : Nat × (Nat → Int)} (h : Ml w W a b (q :: ms)) : Rw 16 W q.1 q.2 := h.ms q (by simp)
theorem Ml.m2 {q q1 : Nat × (Nat → Int)} (h : Ml w W a b (q1 :: q :: ms)) : Rw 16 W q.1 q.2 := h.ms q (by simp)
theorem Ml.m3 {q q1 q2 : Nat × (Nat → Int)} (h : Ml w W a b (q1 :: q2 :: q :: ms)) : Rw 16 W q.1 q.2 := h.ms q (by simp)
theorem Ml.m4 {q q1 q2 q3 : Nat × (Nat → Int)} (h : Ml w W a b (q1 :: q2 :: q3 :: q :: ms)) : Rw 16 W q.1 q.2 := h.ms q (by simp)
theorem Ml.m5 {q q1 q2 q3 q4 : Nat × (Nat → Int)} (h : Ml w W a b (q1 :: q2 :: q3 :: q4 :: q :: ms)) : Rw 16 W q.1 q.2 := h.ms q (by simp)
end
theorem Ml.new (w : World) (a b : Nat → Int) (t : TypeId) : Ml w ((w.alloc (.cells (Vc.ar a) t)).alloc (.cells (Vc.ar b) t)) a b [] :=
  ⟨(Rw.new16 w a t rfl).alloc (by omega) _ _, Rw.new16 _ b t (by simp), ((Kp.refl _ _).alloc (Nat.le_refl _) _ _).alloc (by simp) _ _, fun q hq => by simp at hq⟩

set_option maxRecDepth 100000 in
set_option maxHeartbeats 4000000 in
theorem muls_no (a b : Nat → Int) (w : World) (hn : Vc.wi 16777216 a 16 = false ∨ Vc.wi 16777216 a 16 = true ∧ Vc.wi 16777216 b 16 = false) :
    Calls Try.prog 4 #[.agg (Vc.ar (a)), .agg (Vc.ar (b))] w fun e w' => e = .returned (.bool true) ∧ Kp w.heap.size w w' := by
  have HM : Hid (∀ W, Calls Try.prog 11 #[.agg (Vc.ar (a)), .agg (Vc.ar (b))] W fun e w' => e = .returned (.tuple #[.agg (Vc.ar (fun _ => 0)), .int .i64 3]) ∧ Kp W.heap.size W w') := Lib.hid fun W => by
    rcases hn with h | ⟨h, h2⟩
    · exact mul_no1 a b W h
    · exact mul_no2 a b W h h2
  have HL := Lib.hid (Ml.new w a b 23)
  have hEM := run_eqM_zero
  rcases hn with hn | ⟨hn, hn2⟩
  all_goals
    go_enter Try.func4, Try.ntmps4
    go_wp2_with (first | go_skip | ((with_reducible show wpList _ _ _ ({ dst := _, op := Op.load 23 _, type := _, pos := _, after := _, guard := _ } :: _) _ _); refine wpList_ldg rfl _ rfl _ rfl a ?_ ?_; (exact HL.out.a)) | ((with_reducible show wpList _ _ _ ({ dst := _, op := Op.load 23 _, type := _, pos := _, after := _, guard := _ } :: _) _ _); refine wpList_ldg rfl _ rfl _ rfl b ?_ ?_; (exact HL.out.b)) | ((with_reducible show wpList _ _ _ ({ dst := _, op := Op.load 23 _, type := _, pos := _, after := _, guard := _ } :: _) _ _); refine wpList_ldg rfl _ rfl _ rfl (fun _ => 0) ?_ ?_; (exact HL.out.m1)) | (go_at_call 11; refine (HM.out _).mono ?_; rintro e w1 ⟨rfl, hk⟩; have l2 := HL.out.call hk; clear hk; clear HL; have HL := Lib.hid l2; clear l2) | ((with_reducible show wpList _ _ _ ({ dst := _, op := Op.store 23 _ _, type := _, pos := _, after := _, guard := _ } :: _) _ _); refine wpList_st rfl _ _ rfl _ rfl _ rfl (f := fun _ => 0) ?_ ?_; (exact Rw.zero16 w1 _ rfl); intro w' hr hs; have l2 := HL.out.putM hs hr; clear hr hs; clear HL; have HL := Lib.hid l2; clear l2) | (go_at_call 7; (first | (with_reducible refine (rmay_any a _).mono ?_) | (with_reducible refine (rmay_any b _).mono ?_)); rintro e w' ⟨rfl, hk⟩; have l2 := HL.out.call hk; clear hk; clear HL; have HL := Lib.hid l2; clear l2) | (go_at_call 9; refine (awake_any _).mono ?_; rintro e w' ⟨rfl, hk⟩; have l2 := HL.out.call hk; clear hk; clear HL; have HL := Lib.hid l2; clear l2))
    go_ret
    exact ⟨rfl, HL.out.k⟩

theorem Vc.mul4 (a b : Nat → Int) (j : Nat) : Vc.mul a b j = (a (4 * (j / 4)) * b (j % 4) + a (4 * (j / 4) + 1) * b (4 + j % 4) + a (4 * (j / 4) + 2) * b (8 + j % 4) + a (4 * (j / 4) + 3) * b (12 + j % 4)) / 65536 := by
  unfold Vc.mul Vc.prod
  simp only [Vc.ps, Int.zero_add, Vc.row, Vc.col, Nat.add_zero, Nat.mul_zero, Nat.zero_add, Nat.mul_one, Nat.reduceMul]
theorem Vc.mul_one (a : Nat → Int) : ∀ j, j < 16 → Vc.mul a Vc.one j = a j := by
  intro j hj
  rw [Vc.mul4]
  obtain ⟨i, l, rfl, hi, hl⟩ : ∃ i l, j = 4 * i + l ∧ i < 4 ∧ l < 4 := ⟨j / 4, j % 4, by omega, by omega, by omega⟩
  rw [show (4 * i + l) / 4 = i by omega, show (4 * i + l) % 4 = l by omega]
  obtain rfl | rfl | rfl | rfl : l = 0 ∨ l = 1 ∨ l = 2 ∨ l = 3 := by omega
  all_goals
    simp [Vc.one, Vc.diag]
theorem Vc.one_mul (a : Nat → Int) : ∀ j, j < 16 → Vc.mul Vc.one a j = a j := by
  intro j hj
  rw [Vc.mul4]
  obtain ⟨i, l, rfl, hi, hl⟩ : ∃ i l, j = 4 * i + l ∧ i < 4 ∧ l < 4 := ⟨j / 4, j % 4, by omega, by omega, by omega⟩
  rw [show (4 * i + l) / 4 = i by omega, show (4 * i + l) % 4 = l by omega]
  obtain rfl | rfl | rfl | rfl : i = 0 ∨ i = 1 ∨ i = 2 ∨ i = 3 := by omega
  all_goals
    simp [Vc.one, Vc.diag]
theorem one_may : Vc.wi 16777216 Vc.one 16 = true := by decide
theorem mul_right (a : Nat → Int) (w : World) (ha : Vc.wi 16777216 a 16 = true) :
    Calls Try.prog 11 #[.agg (Vc.ar (a)), .agg (Vc.ar (Vc.one))] w fun e w' => e = .returned (.tuple #[.agg (Vc.ar (a)), .int .i64 0]) ∧ Kp w.heap.size w w' :=
  (mul_core a Vc.one w ha one_may).mono fun e w' h => ⟨by rw [h.1, Vc.wi_congr (Vc.mul_one a), if_pos ha, Vc.ar_congr (Vc.mul_one a)], h.2⟩
theorem mul_left (a : Nat → Int) (w : World) (ha : Vc.wi 16777216 a 16 = true) :
    Calls Try.prog 11 #[.agg (Vc.ar (Vc.one)), .agg (Vc.ar (a))] w fun e w' => e = .returned (.tuple #[.agg (Vc.ar (a)), .int .i64 0]) ∧ Kp w.heap.size w w' :=
  (mul_core Vc.one a w one_may ha).mono fun e w' h => ⟨by rw [h.1, Vc.wi_congr (Vc.one_mul a), if_pos ha, Vc.ar_congr (Vc.one_mul a)], h.2⟩

set_option linter.unusedSimpArgs false in
set_option maxRecDepth 100000 in
set_option maxHeartbeats 8000000 in
theorem muls_yes (a b m : Nat → Int) (en : Int) (w : World) (ha : Vc.wi 16777216 a 16 = true) (hb : Vc.wi 16777216 b 16 = true)
    (hm : Vc.wi 16777216 (Vc.mul a b) 16 = true ∧ m = Vc.mul a b ∧ en = 0 ∨ Vc.wi 16777216 (Vc.mul a b) 16 = false ∧ m = (fun _ => 0) ∧ en = 3) :
    Calls Try.prog 4 #[.agg (Vc.ar (a)), .agg (Vc.ar (b))] w fun e w' => e = .returned (.bool true) ∧ Kp w.heap.size w w' := by
  have HM : Hid (∀ W, Calls Try.prog 11 #[.agg (Vc.ar (a)), .agg (Vc.ar (b))] W fun e w' => e = .returned (.tuple #[.agg (Vc.ar (m)), .int .i64 en]) ∧ Kp W.heap.size W w') := Lib.hid fun W => by
    have := mul_core a b W ha hb
    rcases hm with ⟨h1, rfl, rfl⟩ | ⟨h1, rfl, rfl⟩
    · rwa [if_pos h1] at this
    · rwa [if_neg (by simp [h1])] at this
  have HH := Lib.hid hm
  have HL := Lib.hid (Ml.new w a b 23)
  have HA := Lib.hid (Vc.wi_all ha)
  have HB := Lib.hid (Vc.wi_all hb)
  have hEM := run_eqM_zero
  have hES := run_eqM_same
  clear hm
  go_enter Try.func4, Try.ntmps4
  go_upto_region 7 with (first | go_skip | ((with_reducible show wpList _ _ _ ({ dst := _, op := Op.load 23 _, type := _, pos := _, after := _, guard := _ } :: _) _ _); refine wpList_ldg rfl _ rfl _ rfl a ?_ ?_; (exact HL.out.a)) | ((with_reducible show wpList _ _ _ ({ dst := _, op := Op.load 23 _, type := _, pos := _, after := _, guard := _ } :: _) _ _); refine wpList_ldg rfl _ rfl _ rfl b ?_ ?_; (exact HL.out.b)) | ((with_reducible show wpList _ _ _ ({ dst := _, op := Op.load 23 _, type := _, pos := _, after := _, guard := _ } :: _) _ _); refine wpList_ldg rfl _ rfl _ rfl Vc.one ?_ ?_; (first | exact HL.out.m1 | exact HL.out.m2)) | (go_at_call 11; (first | (with_reducible refine (mul_right a _ ha).mono ?_); (rintro e w5 ⟨rfl, hk⟩) | (with_reducible refine (mul_left a _ ha).mono ?_); (rintro e w7 ⟨rfl, hk⟩) | (with_reducible refine (HM.out _).mono ?_); (rintro e w1 ⟨rfl, hk⟩)); have l2 := HL.out.call hk; clear hk; clear HL; have HL := Lib.hid l2; clear l2) | (go_at_call 12; refine (identity_any _).mono ?_; rintro e w3 ⟨rfl, hk⟩; have l2 := HL.out.call hk; clear hk; clear HL; have HL := Lib.hid l2; clear l2) | ((with_reducible show wpList _ _ _ ({ dst := _, op := Op.store 23 _ _, type := _, pos := _, after := _, guard := _ } :: _) _ _); refine wpList_st rfl _ _ rfl _ rfl _ rfl (f := fun _ => 0) ?_ ?_; (exact Rw.zero16 _ _ rfl); intro w' hr hs; have l2 := HL.out.putM hs hr; clear hr hs; clear HL; have HL := Lib.hid l2; clear l2) | (go_at_call 7; (first | (with_reducible refine (rmay_any a _).mono ?_) | (with_reducible refine (rmay_any b _).mono ?_)); rintro e w' ⟨rfl, hk⟩; have l2 := HL.out.call hk; clear hk; clear HL; have HL := Lib.hid l2; clear l2) | (go_at_call 9; refine (awake_any _).mono ?_; rintro e w' ⟨rfl, hk⟩; have l2 := HL.out.call hk; clear hk; clear HL; have HL := Lib.hid l2; clear l2))
  refine Rg.region (I := fun _ W => Ml w W a b [(w7.heap.size, a), (w5.heap.size, a), (w3.heap.size, Vc.one), (w1.heap.size, m)]) (dem := fun _ => false) (m := 21) (g := 0) (T := fun listed bs a' => ∀ W, Ml w W a b [(w7.heap.size, a), (w5.heap.size, a), (w3.heap.size, Vc.one), (w1.heap.size, m)] → wpAny Try.prog .any _ _ 0 listed a' W) (by kernel_rfl) HL.out.drew rfl (fun _ _ _ _ h hI => h _ hI) ?_
  refine Rg.take 0 (v := .agg (Vc.ar (Vc.one))) rfl rfl (by kernel_rfl) (by kernel_rfl) (by kernel_rfl) (by kernel_rfl) (by kernel_rfl) (.inl ⟨rfl, fun bs wq hI => ?_⟩) ?_
  · exact quiet_ldM (b := w3.heap.size) (.tmp 7) rfl rfl hI.m3
  simp only [Act.put, List.getElem_toArray, List.getElem_cons_zero, List.getElem_cons_succ, List.setIfInBounds_toArray, List.set_cons_zero, List.set_cons_succ]
  refine Rg.take 1 (v := .agg (Vc.ar (Vc.one))) rfl rfl (by kernel_rfl) (by kernel_rfl) (by kernel_rfl) (by kernel_rfl) (by kernel_rfl) (.inl ⟨rfl, fun bs wq hI => ?_⟩) ?_
  · (go_simp; exact (ridentity_any _).mono fun e w2 h => ⟨h.1, hI.call h.2⟩)
  simp only [Act.put, List.getElem_toArray, List.getElem_cons_zero, List.getElem_cons_succ, List.setIfInBounds_toArray, List.set_cons_zero, List.set_cons_succ]
  refine Rg.take 2 (v := .bool false) rfl rfl (by kernel_rfl) (by kernel_rfl) (by kernel_rfl) (by kernel_rfl) (by kernel_rfl) (.inl ⟨rfl, fun bs wq hI => ?_⟩) ?_
  · go_simp
  simp only [Act.put, List.getElem_toArray, List.getElem_cons_zero, List.getElem_cons_succ, List.setIfInBounds_toArray, List.set_cons_zero, List.set_cons_succ]
  refine Rg.take 3 (v := .bool false) rfl rfl (by kernel_rfl) (by kernel_rfl) (by kernel_rfl) (by kernel_rfl) (by kernel_rfl) (.inl ⟨rfl, fun bs wq hI => ?_⟩) ?_
  · go_simp
  simp only [Act.put, List.getElem_toArray, List.getElem_cons_zero, List.getElem_cons_succ, List.setIfInBounds_toArray, List.set_cons_zero, List.set_cons_succ]
  refine Rg.take 4 (v := .agg (Vc.ar (a))) rfl rfl (by kernel_rfl) (by kernel_rfl) (by kernel_rfl) (by kernel_rfl) (by kernel_rfl) (.inl ⟨rfl, fun bs wq hI => ?_⟩) ?_
  · exact quiet_ldM (b := w5.heap.size) (.tmp 8) rfl rfl hI.m2
  simp only [Act.put, List.getElem_toArray, List.getElem_cons_zero, List.getElem_cons_succ, List.setIfInBounds_toArray, List.set_cons_zero, List.set_cons_succ]
  refine Rg.take 5 (v := .agg (Vc.ar (a))) rfl rfl (by kernel_rfl) (by kernel_rfl) (by kernel_rfl) (by kernel_rfl) (by kernel_rfl) (.inl ⟨rfl, fun bs wq hI => ?_⟩) ?_
  · exact quiet_ldM (b := w.heap.size) (.tmp 2) rfl rfl hI.a
  simp only [Act.put, List.getElem_toArray, List.getElem_cons_zero, List.getElem_cons_succ, List.setIfInBounds_toArray, List.set_cons_zero, List.set_cons_succ]
  refine Rg.take 6 (v := .bool false) rfl rfl (by kernel_rfl) (by kernel_rfl) (by kernel_rfl) (by kernel_rfl) (by kernel_rfl) (.inl ⟨rfl, fun bs wq hI => ?_⟩) ?_
  · go_simp
  simp only [Act.put, List.getElem_toArray, List.getElem_cons_zero, List.getElem_cons_succ, List.setIfInBounds_toArray, List.set_cons_zero, List.set_cons_succ]
  refine Rg.take 7 (v := .bool false) rfl rfl (by kernel_rfl) (by kernel_rfl) (by kernel_rfl) (by kernel_rfl) (by kernel_rfl) (.inl ⟨rfl, fun bs wq hI => ?_⟩) ?_
  · go_simp
  simp only [Act.put, List.getElem_toArray, List.getElem_cons_zero, List.getElem_cons_succ, List.setIfInBounds_toArray, List.set_cons_zero, List.set_cons_succ]
  refine Rg.take 8 (v := .bool false) rfl rfl (by kernel_rfl) (by kernel_rfl) (by kernel_rfl) (by kernel_rfl) (by kernel_rfl) (.inl ⟨rfl, fun bs wq hI => ?_⟩) ?_
  · go_simp
  simp only [Act.put, List.getElem_toArray, List.getElem_cons_zero, List.getElem_cons_succ, List.setIfInBounds_toArray, List.set_cons_zero, List.set_cons_succ]
  refine Rg.take 9 (v := .agg (Vc.ar (a))) rfl rfl (by kernel_rfl) (by kernel_rfl) (by kernel_rfl) (by kernel_rfl) (by kernel_rfl) (.inl ⟨rfl, fun bs wq hI => ?_⟩) ?_
  · exact quiet_ldM (b := w7.heap.size) (.tmp 10) rfl rfl hI.m1
  simp only [Act.put, List.getElem_toArray, List.getElem_cons_zero, List.getElem_cons_succ, List.setIfInBounds_toArray, List.set_cons_zero, List.set_cons_succ]
  refine Rg.take 10 (v := .agg (Vc.ar (a))) rfl rfl (by kernel_rfl) (by kernel_rfl) (by kernel_rfl) (by kernel_rfl) (by kernel_rfl) (.inl ⟨rfl, fun bs wq hI => ?_⟩) ?_
  · exact quiet_ldM (b := w.heap.size) (.tmp 2) rfl rfl hI.a
  simp only [Act.put, List.getElem_toArray, List.getElem_cons_zero, List.getElem_cons_succ, List.setIfInBounds_toArray, List.set_cons_zero, List.set_cons_succ]
  refine Rg.take 11 (v := .bool false) rfl rfl (by kernel_rfl) (by kernel_rfl) (by kernel_rfl) (by kernel_rfl) (by kernel_rfl) (.inl ⟨rfl, fun bs wq hI => ?_⟩) ?_
  · go_simp
  simp only [Act.put, List.getElem_toArray, List.getElem_cons_zero, List.getElem_cons_succ, List.setIfInBounds_toArray, List.set_cons_zero, List.set_cons_succ]
  refine Rg.take 12 (v := .bool false) rfl rfl (by kernel_rfl) (by kernel_rfl) (by kernel_rfl) (by kernel_rfl) (by kernel_rfl) (.inl ⟨rfl, fun bs wq hI => ?_⟩) ?_
  · go_simp
  simp only [Act.put, List.getElem_toArray, List.getElem_cons_zero, List.getElem_cons_succ, List.setIfInBounds_toArray, List.set_cons_zero, List.set_cons_succ]
  refine Rg.take 13 (v := .bool false) rfl rfl (by kernel_rfl) (by kernel_rfl) (by kernel_rfl) (by kernel_rfl) (by kernel_rfl) (.inl ⟨rfl, fun bs wq hI => ?_⟩) ?_
  · go_simp
  simp only [Act.put, List.getElem_toArray, List.getElem_cons_zero, List.getElem_cons_succ, List.setIfInBounds_toArray, List.set_cons_zero, List.set_cons_succ]
  refine Rg.take 14 (v := .int .i64 0) rfl rfl (by kernel_rfl) (by kernel_rfl) (by kernel_rfl) (by kernel_rfl) (by kernel_rfl) (.inl ⟨rfl, fun bs wq hI => ?_⟩) ?_
  · go_simp
  simp only [Act.put, List.getElem_toArray, List.getElem_cons_zero, List.getElem_cons_succ, List.setIfInBounds_toArray, List.set_cons_zero, List.set_cons_succ]
  refine Rg.take 15 (v := .bool false) rfl rfl (by kernel_rfl) (by kernel_rfl) (by kernel_rfl) (by kernel_rfl) (by kernel_rfl) (.inl ⟨rfl, fun bs wq hI => ?_⟩) ?_
  · go_simp
  simp only [Act.put, List.getElem_toArray, List.getElem_cons_zero, List.getElem_cons_succ, List.setIfInBounds_toArray, List.set_cons_zero, List.set_cons_succ]
  refine Rg.take 16 (v := .bool false) rfl rfl (by kernel_rfl) (by kernel_rfl) (by kernel_rfl) (by kernel_rfl) (by kernel_rfl) (.inl ⟨rfl, fun bs wq hI => ?_⟩) ?_
  · go_simp
  simp only [Act.put, List.getElem_toArray, List.getElem_cons_zero, List.getElem_cons_succ, List.setIfInBounds_toArray, List.set_cons_zero, List.set_cons_succ]
  refine Rg.take 17 (v := .bool false) rfl rfl (by kernel_rfl) (by kernel_rfl) (by kernel_rfl) (by kernel_rfl) (by kernel_rfl) (.inl ⟨rfl, fun bs wq hI => ?_⟩) ?_
  · go_simp
  simp only [Act.put, List.getElem_toArray, List.getElem_cons_zero, List.getElem_cons_succ, List.setIfInBounds_toArray, List.set_cons_zero, List.set_cons_succ]
  refine Rg.take 18 (v := .int .i64 0) rfl rfl (by kernel_rfl) (by kernel_rfl) (by kernel_rfl) (by kernel_rfl) (by kernel_rfl) (.inl ⟨rfl, fun bs wq hI => ?_⟩) ?_
  · go_simp
  simp only [Act.put, List.getElem_toArray, List.getElem_cons_zero, List.getElem_cons_succ, List.setIfInBounds_toArray, List.set_cons_zero, List.set_cons_succ]
  refine Rg.take 19 (v := .bool false) rfl rfl (by kernel_rfl) (by kernel_rfl) (by kernel_rfl) (by kernel_rfl) (by kernel_rfl) (.inl ⟨rfl, fun bs wq hI => ?_⟩) ?_
  · go_simp
  simp only [Act.put, List.getElem_toArray, List.getElem_cons_zero, List.getElem_cons_succ, List.setIfInBounds_toArray, List.set_cons_zero, List.set_cons_succ]
  refine Rg.take 20 (v := .bool false) rfl rfl (by kernel_rfl) (by kernel_rfl) (by kernel_rfl) (by kernel_rfl) (by kernel_rfl) (.inl ⟨rfl, fun bs wq hI => ?_⟩) ?_
  · go_simp
  simp only [Act.put, List.getElem_toArray, List.getElem_cons_zero, List.getElem_cons_succ, List.setIfInBounds_toArray, List.set_cons_zero, List.set_cons_succ]
  refine Rg.done (rs := []) (by kernel_rfl) (by decide) (fun W hI => ?_)
  clear HL
  have HL := Lib.hid hI
  clear hI
  refine wpAny_done (by kernel_rfl) ?_ _
  rcases HH.out with ⟨h1, rfl, rfl⟩ | ⟨h1, rfl, rfl⟩
  · go_wp2_with (first | go_skip | ((with_reducible show wpList _ _ _ ({ dst := _, op := Op.load 23 _, type := _, pos := _, after := _, guard := _ } :: _) _ _); refine wpList_ldg rfl _ rfl _ rfl a ?_ ?_; (exact HL.out.a)) | ((with_reducible show wpList _ _ _ ({ dst := _, op := Op.load 23 _, type := _, pos := _, after := _, guard := _ } :: _) _ _); refine wpList_ldg rfl _ rfl _ rfl b ?_ ?_; (exact HL.out.b)) | ((with_reducible show wpList _ _ _ ({ dst := _, op := Op.load 23 _, type := _, pos := _, after := _, guard := _ } :: _) _ _); refine wpList_ldg rfl _ rfl _ rfl (Vc.mul a b) ?_ ?_; (first | exact HL.out.m1 | exact HL.out.m5)) | (go_at_call 14; refine (rmul_any a b _ HA.out HB.out).mono ?_; rintro e w9 ⟨rfl, hk⟩; have l2 := HL.out.call hk; clear hk; clear HL; have HL := Lib.hid l2; clear l2) | ((with_reducible show wpList _ _ _ ({ dst := _, op := Op.store 23 _ _, type := _, pos := _, after := _, guard := _ } :: _) _ _); refine wpList_st rfl _ _ rfl _ rfl _ rfl (f := fun _ => 0) ?_ ?_; (exact Rw.zero16 _ _ rfl); intro w' hr hs; have l2 := HL.out.putM hs hr; clear hr hs; clear HL; have HL := Lib.hid l2; clear l2) | (go_at_call 7; (first | (with_reducible refine (rmay_any a _).mono ?_) | (with_reducible refine (rmay_any b _).mono ?_)); rintro e w' ⟨rfl, hk⟩; have l2 := HL.out.call hk; clear hk; clear HL; have HL := Lib.hid l2; clear l2) | (go_at_call 9; refine (awake_any _).mono ?_; rintro e w' ⟨rfl, hk⟩; have l2 := HL.out.call hk; clear hk; clear HL; have HL := Lib.hid l2; clear l2))
    go_ret
    exact ⟨rfl, HL.out.k⟩
  · go_wp2_with (first | go_skip | ((with_reducible show wpList _ _ _ ({ dst := _, op := Op.load 23 _, type := _, pos := _, after := _, guard := _ } :: _) _ _); refine wpList_ldg rfl _ rfl _ rfl a ?_ ?_; (exact HL.out.a)) | ((with_reducible show wpList _ _ _ ({ dst := _, op := Op.load 23 _, type := _, pos := _, after := _, guard := _ } :: _) _ _); refine wpList_ldg rfl _ rfl _ rfl b ?_ ?_; (exact HL.out.b)) | ((with_reducible show wpList _ _ _ ({ dst := _, op := Op.load 23 _, type := _, pos := _, after := _, guard := _ } :: _) _ _); refine wpList_ldg rfl _ rfl _ rfl (fun _ => 0) ?_ ?_; (exact HL.out.m5)) | (go_at_call 14; refine (rmul_any a b _ HA.out HB.out).mono ?_; rintro e w9 ⟨rfl, hk⟩; have l2 := HL.out.call hk; clear hk; clear HL; have HL := Lib.hid l2; clear l2) | ((with_reducible show wpList _ _ _ ({ dst := _, op := Op.store 23 _ _, type := _, pos := _, after := _, guard := _ } :: _) _ _); refine wpList_st rfl _ _ rfl _ rfl _ rfl (f := fun _ => 0) ?_ ?_; (exact Rw.zero16 _ _ rfl); intro w' hr hs; have l2 := HL.out.putM hs hr; clear hr hs; clear HL; have HL := Lib.hid l2; clear l2) | (go_at_call 7; (first | (with_reducible refine (rmay_any a _).mono ?_) | (with_reducible refine (rmay_any b _).mono ?_)); rintro e w' ⟨rfl, hk⟩; have l2 := HL.out.call hk; clear hk; clear HL; have HL := Lib.hid l2; clear l2) | (go_at_call 9; refine (awake_any _).mono ?_; rintro e w' ⟨rfl, hk⟩; have l2 := HL.out.call hk; clear hk; clear HL; have HL := Lib.hid l2; clear l2))
    go_ret
    exact ⟨rfl, HL.out.k⟩

theorem muls_walk (a b : Nat → Int) (w : World) :
    Calls Try.prog 4 #[.agg (Vc.ar (a)), .agg (Vc.ar (b))] w fun e w' => e = .returned (.bool true) ∧ Kp w.heap.size w w' := by
  cases ha : Vc.wi 16777216 a 16
  · exact muls_no a b w (.inl ha)
  · cases hb : Vc.wi 16777216 b 16
    · exact muls_no a b w (.inr ⟨ha, hb⟩)
    · cases hm : Vc.wi 16777216 (Vc.mul a b) 16
      · exact muls_yes a b _ _ w ha hb (.inr ⟨hm, rfl, rfl⟩)
      · exact muls_yes a b _ _ w ha hb (.inl ⟨hm, rfl, rfl⟩)
end Go.Proofs.Ytbhdmfoigilibaa
