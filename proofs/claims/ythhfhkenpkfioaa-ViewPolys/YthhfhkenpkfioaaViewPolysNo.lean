/-
  ViewPolys: its Go text returns true where there is an error.
-/
import Derived.Test.YthhfhkenpkfioaaViewAwake
import Derived.Test.YthhfhkenpkfioaaViewRefSnap
import Derived.Test.YthhfhkenpkfioaaViewRefSame
import Derived.Test.YthhfhkenpkfioaaRegionGv
import Derived.BigGuard
namespace Go.Proofs.Ythhfhkenpkfioaa
open Go.RowKit

/-- one operation, alone, in a region that draws its order -/
theorem wpAny_one {ops : Array Oper} {listed : Array Bool} {fuel : Nat} {op : Oper} {a : Act} {w : World} {Q : Exit → Act → World → Prop} (z : Nat) (hr : Region.ready .any ops listed = [z]) (hz : ops[z]? = some op)
    (hgd : Region.wanted op (yielded ops a.tmps) = true) (h : ∀ K : Act → World → Prop, (∀ a' w', wpAny Try.prog .any ops Q fuel (listed.setIfInBounds z true) a' w' → K a' w') → op.wp Try.prog a w K Q) : wpAny Try.prog .any ops Q (fuel + 1) listed a w := by
  refine wpAny_ready hr (by simp) (AllReady.cons hz (fun K hK => ?_) AllReady.nil)
  rw [if_pos hgd]
  exact h K hK
theorem Sp.emptyS {w : World} {v : Value} (h : Ro.Sp Vw.cs 9 w v []) : ∃ a cap, v = .slice a 0 cap := h.len
theorem spot_pair {W : World} {b o : Nat} {s : Nat → Int} (h : W.rangeAt b o (Vw.cs s)) : W.cell? ⟨b, o, none⟩ = some (.int .i64 (s 0)) ∧ W.cell? ⟨b, o + 1, none⟩ = some (.int .i64 (s 1)) := ⟨h 0 _ rfl, h 1 _ rfl⟩
theorem range_vec {W : World} {b o : Nat} {c : Cn} (h : W.rangeAt b o (Cl.cs c)) : W.rangeAt b o [.int .i64 (c 0), .int .i64 (c 1), .int .i64 (c 2), .int .i64 (c 3)] := fun j v hv => by
  refine h j v ?_
  rcases j with _ | _ | _ | _ | j
  all_goals first | exact hv | (simp at hv)
set_option linter.unusedSimpArgs false in
set_option maxRecDepth 100000 in
set_option maxHeartbeats 8000000 in
theorem polys_big (l : List Cn) (v : Value) (x y z u : Int) (w : World) (hS : Sp w v l) (hl : 100 < l.length) :
    Calls Try.prog 5 #[v, .agg #[.int .i64 x, .int .i64 y, .int .i64 z, .int .i64 u]] w fun e w' => e = .returned (.bool true) ∧ Below w.heap.size w w' := by
  obtain ⟨a1, c1, rfl, -⟩ := hS.each
  have q1 : decide ((100 : Int) < (l.length : Int)) = true := decide_eq_true (by omega)
  clear hS hl
  have HO : Hid (Ow w _ [(w.heap.size, [.int .i64 x, .int .i64 y, .int .i64 z, .int .i64 u])]) := Lib.hid ((Ow.refl w).newAt w.heap.size rfl (.int .i64 x) [.int .i64 y, .int .i64 z, .int .i64 u] 28)
  go_enter Try.func5, Try.ntmps5
  go_wp2_with (first | go_big_skip | (go_at_call 9; refine (awake_any _).mono ?_; rintro e wz ⟨rfl, hk1⟩; have l2 := HO.out.call hk1; clear HO hk1; have HO := Lib.hid l2; clear l2))
  go_ret
  exact ⟨rfl, HO.out.k.below⟩
set_option linter.unusedSimpArgs false in
set_option maxRecDepth 100000 in
set_option maxHeartbeats 8000000 in
theorem polys_is (l : List Cn) (v : Value) (x y z u : Int) (w : World) (hS : Sp w v l) (hl : l.length ≤ 100) (hx : -9223372036854775808 ≤ x ∧ x ≤ 9223372036854775807) (hy : -9223372036854775808 ≤ y ∧ y ≤ 9223372036854775807) (hz : -9223372036854775808 ≤ z ∧ z ≤ 9223372036854775807) (hu : -9223372036854775808 ≤ u ∧ u ≤ 9223372036854775807) (h : Vw.is x y z u = false) :
    Calls Try.prog 5 #[v, .agg #[.int .i64 x, .int .i64 y, .int .i64 z, .int .i64 u]] w fun e w' => e = .returned (.bool true) ∧ Below w.heap.size w w' := by
  have P1 := fun W => vpoly_view v x y z u W hx hy hz hu h
  obtain ⟨a1, c1, rfl, -⟩ := hS.each
  have q1 : decide ((100 : Int) < (l.length : Int)) = false := decide_eq_false (by omega)
  have I1 := fun W => ris16_any x y z u W
  rw [h] at I1
  have hl2 : (l.length : Int) ≤ 100 := by omega
  clear hS hl h hx hy hz hu
  have HO : Hid (Ow w _ [(w.heap.size, [.int .i64 x, .int .i64 y, .int .i64 z, .int .i64 u])]) := Lib.hid ((Ow.refl w).newAt w.heap.size rfl (.int .i64 x) [.int .i64 y, .int .i64 z, .int .i64 u] 28)
  go_enter Try.func5, Try.ntmps5
  go_upto_region 4 with (first | go_big_skip | ((with_reducible show wpList _ _ _ ({ dst := _, op := Op.load 28 (Operand.tmp 3), type := _, pos := _, after := _, guard := _ } :: _) _ _); refine wpList_ldr ty_rect rfl _ rfl _ rfl _ rfl (HO.out.at 0 rfl) ?_) | (go_at_call 12; refine (P1 _).mono ?_; clear P1; rintro e w1 ⟨t, rfl, hs1, hb1⟩; have HB0 := Lib.hid (HO.out.k.below.trans (hb1.mono HO.out.k.size)); have l2 : Ro.Rp 32 Vw.cs 9 w1 w1 (.slice none 0 0) [] [(w.heap.size, [.int .i64 x, .int .i64 y, .int .i64 z, .int .i64 u])] := Ro.Rp.fresh (fun q hq => by rw [List.mem_singleton] at hq; subst hq; exact ⟨Ro.rc_below (HO.out.at 0 rfl) hb1 (HO.out.lt (q := (w.heap.size, _)) (by simp)), by simp⟩); have HS1 := Lib.hid hs1; clear HO hb1 hs1; have HO := Lib.hid l2; clear l2))
  obtain ⟨a2, c2, rfl⟩ := Sp.emptyS HS1.out
  go_wp2_with (first | go_big_skip | ((with_reducible show wpList _ _ _ ({ dst := _, op := Op.load 28 (Operand.tmp 3), type := _, pos := _, after := _, guard := _ } :: _) _ _); refine wpList_ldr ty_rect rfl _ rfl _ rfl _ rfl (HO.out.at 0 rfl) ?_) | (go_at_call 8; (with_reducible refine (I1 _).mono ?_); rintro e wz ⟨rfl, hk1⟩; have l2 := HO.out.call hk1; clear HO hk1; have HO := Lib.hid l2; clear l2) | (go_at_call 9; refine (awake_any _).mono ?_; rintro e wz ⟨rfl, hk1⟩; have l2 := HO.out.call hk1; clear HO hk1; have HO := Lib.hid l2; clear l2))
  go_ret
  exact ⟨rfl, HB0.out.trans (HO.out.bl.mono HB0.out.size)⟩
set_option linter.unusedSimpArgs false in
set_option maxRecDepth 100000 in
set_option maxHeartbeats 8000000 in
theorem polys_no (l : List Cn) (v : Value) (x y z u : Int) (w : World) (hS : Sp w v l) (hl : l.length ≤ 100) (h : Vw.is x y z u = true) (ha : l.all Vw.hasB = false) :
    Calls Try.prog 5 #[v, .agg #[.int .i64 x, .int .i64 y, .int .i64 z, .int .i64 u]] w fun e w' => e = .returned (.bool true) ∧ Below w.heap.size w w' := by
  have P1 := fun W hS => vpoly_any l v x y z u W [] 3 hS h hl (fun h2 => by rw [ha] at h2; cases h2) (fun _ => ⟨rfl, rfl⟩)
  obtain ⟨a1, c1, rfl, hc1, hux⟩ := hS.each
  have q1 : decide ((100 : Int) < (l.length : Int)) = false := decide_eq_false (by omega)
  have hl2 : (l.length : Int) ≤ 100 := by omega
  have I1 := fun W => ris16_any x y z u W
  rw [h] at I1
  have RSN := fun c W hc => rsnap16_any c x y z u W h (Vw.hasB_iff.1 hc).1 (Vw.hasB_iff.1 hc).2
  have HUX := Lib.hid hux
  obtain ⟨i0, hi0, hz0, hz1, hz3⟩ := info_parts infoSpot
  have HO : Hid (Ow w _ [(w.heap.size, [.int .i64 x, .int .i64 y, .int .i64 z, .int .i64 u])]) := Lib.hid ((Ow.refl w).newAt w.heap.size rfl (.int .i64 x) [.int .i64 y, .int .i64 z, .int .i64 u] 28)
  have P1 := P1 _ (hS.next HO.out.k)
  have HA := Lib.hid ha
  clear hS hl h hux ha
  generalize hf : (fun c => Vw.spot c x y z u) = f at *
  have hf2 : ∀ c, Vw.spot c x y z u = f c := fun c => by rw [← hf]
  simp only [hf2] at RSN
  clear hf hf2
  go_enter Try.func5, Try.ntmps5
  go_upto_region 4 with (first | go_big_skip | ((with_reducible show wpList _ _ _ ({ dst := _, op := Op.load 28 (Operand.tmp 3), type := _, pos := _, after := _, guard := _ } :: _) _ _); refine wpList_ldr ty_rect rfl _ rfl _ rfl _ rfl (HO.out.at 0 rfl) ?_) | (go_at_call 12; refine P1.mono ?_; clear P1; rintro e w1 ⟨t, rfl, hs1, hb1⟩; have HB0 := Lib.hid (HO.out.k.below.trans (hb1.mono HO.out.k.size)); have l2 : Ro.Rp 32 Vw.cs 9 w1 w1 (.slice none 0 0) [] [(w.heap.size, [.int .i64 x, .int .i64 y, .int .i64 z, .int .i64 u])] := Ro.Rp.fresh (fun q hq => by rw [List.mem_singleton] at hq; subst hq; exact ⟨Ro.rc_below (HO.out.at 0 rfl) hb1 (HO.out.lt (q := (w.heap.size, _)) (by simp)), by simp⟩); have HS1 := Lib.hid hs1; clear HO hb1 hs1; have HO := Lib.hid l2; clear l2))
  obtain ⟨a2, c2, rfl⟩ := Sp.emptyS HS1.out
  clear HS1
  go_wp2_with (first | go_big_skip | ((with_reducible show wpList _ _ _ ({ dst := _, op := Op.load 28 (Operand.tmp 3), type := _, pos := _, after := _, guard := _ } :: _) _ _); refine wpList_ldr ty_rect rfl _ rfl _ rfl _ rfl (HO.out.at 0 rfl) ?_) | (go_at_call 8; (with_reducible refine (I1 _).mono ?_); rintro e wz ⟨rfl, hk1⟩; have l2 := HO.out.call hk1; clear HO hk1; have HO := Lib.hid l2; clear l2))
  go_loopw [8, 7] (fun i t wr => ∃ j : Nat, j ≤ l.length ∧ i = .int .i64 j ∧ (l.take j).all Vw.hasB = true ∧ Ro.Rp 32 Vw.cs 9 w1 wr t ((l.take j).map f) [(w.heap.size, [.int .i64 x, .int .i64 y, .int .i64 z, .int .i64 u])]) (fun i _ _ => msrS l.length i)
  case atStart => exact ⟨0, by omega, rfl, rfl, HO.out⟩
  case round =>
    clear HO
    obtain ⟨j, hj, rfl, hs, ho⟩ := hrel
    have HO := Lib.hid ho
    clear ho
    by_cases hlt : j < l.length
    · have z1 : decide ((j : Int) < (l.length : Int)) = true := decide_eq_true (by omega)
      have z2 : (j : Int) < (l.length : Int) := by omega
      obtain ⟨b1, o1, e1, x1⟩ := HUX.out j hlt
      have HX := Lib.hid (Cl.all_take hlt Vw.hasB)
      have HM := Lib.hid (Vw.map_next f hlt)
      have HIN := Lib.hid (List.getElem_mem hlt)
      have HS := Lib.hid hs
      have HL : Hid (((l.take j).map f).length ≤ 100) := Lib.hid (by rw [List.length_map, List.length_take]; omega)
      have X1 : Hid (∀ U, Below w1.heap.size w1 U → U.rangeAt b1 (o1 + j * 10) [.int .i64 (l[j] 0), .int .i64 (l[j] 1), .int .i64 (l[j] 2), .int .i64 (l[j] 3), .int .i64 (l[j] 4), .int .i64 (l[j] 5), .int .i64 (l[j] 6), .int .i64 (l[j] 7), .int .i64 (l[j] 8), .int .i64 (l[j] 9)]) := Lib.hid fun U hb => x1 U (HB0.out.trans (hb.mono HB0.out.size))
      clear hs x1
      generalize l[j] = yc at *
      generalize (l.take j).map f = xs at *
      subst e1
      have M1 := fun W => rmay16_any yc W
      cases hyy : Vw.hasB yc
      · rw [hyy] at M1
        clear HX HM HIN hyy RSN
        go_wp2_with (first | go_big_skip | ((with_reducible show wpList _ _ _ ({ dst := _, op := Op.load 26 (Operand.tmp 43), type := _, pos := _, after := _, guard := _ } :: _) _ _); refine wpList_ldm ty_corner rfl _ rfl _ _ rfl _ rfl (X1.out _ HO.out.bl) ?_) | (go_at_call 10; (with_reducible refine (M1 _).mono ?_); rintro e wz ⟨rfl, hk1⟩; have l2 := HO.out.call hk1; clear HO hk1; have HO := Lib.hid l2; clear l2) | (go_at_call 9; refine (awake_any _).mono ?_; rintro e wz ⟨rfl, hk1⟩; have l2 := HO.out.call hk1; clear HO hk1; have HO := Lib.hid l2; clear l2))
        go_ret
        exact ⟨rfl, HB0.out.trans (HO.out.bl.mono HB0.out.size)⟩
      rw [hyy] at M1
      have RS := fun W => RSN yc W hyy
      have HZ : Hid ((l.take (j + 1)).all Vw.hasB = true) := Lib.hid (by rw [HX.out, HS.out, hyy]; rfl)
      clear HX HIN hyy RSN
      go_upto_region 12 with (first | ((with_reducible show wpList _ _ _ ({ dst := _, op := Op.load 26 (Operand.tmp 43), type := _, pos := _, after := _, guard := _ } :: _) _ _); refine wpList_ldm ty_corner rfl _ rfl _ _ rfl _ rfl (X1.out _ HO.out.bl) ?_) | (go_at_call 10; (with_reducible refine (M1 _).mono ?_); rintro e wz ⟨rfl, hk1⟩; have l2 := HO.out.call hk1; clear HO hk1; have HO := Lib.hid l2; clear l2))
      clear M1
      generalize f yc = s at *
      refine Rg3.region (σ := List (Nat × List Value)) (I := fun s W => Ro.Rp 32 Vw.cs 9 w1 W u7 xs (s ++ [(w.heap.size, [.int .i64 x, .int .i64 y, .int .i64 z, .int .i64 u])])) (dem := fun i => i == 7) (m := 8) (g := 2) (T := fun listed s st => ∀ W, Ro.Rp 32 Vw.cs 9 w1 W u7 xs (s ++ [(w.heap.size, [.int .i64 x, .int .i64 y, .int .i64 z, .int .i64 u])]) → wpAny Try.prog .any _ _ 2 listed st W) [] (by kernel_rfl) HO.out.drew rfl (fun _ _ _ _ h hI => h _ hI) ?_
      clear HO
      refine Rg3.take 0 (v := u7) rfl rfl (by kernel_rfl) (by kernel_rfl) (by kernel_rfl) (by kernel_rfl) (by kernel_rfl) (.inl ⟨rfl, fun bs wq hI => ?_⟩) ?_
      · go_simp
      simp only [Act.put, List.getElem_toArray, List.getElem_cons_zero, List.getElem_cons_succ, List.setIfInBounds_toArray, List.set_cons_zero, List.set_cons_succ]
      refine Rg3.take 1 (v := .slice (some ⟨b1, o1, none⟩) l.length c1) rfl rfl (by kernel_rfl) (by kernel_rfl) (by kernel_rfl) (by kernel_rfl) (by kernel_rfl) (.inl ⟨rfl, fun bs wq hI => ?_⟩) ?_
      · go_simp
      simp only [Act.put, List.getElem_toArray, List.getElem_cons_zero, List.getElem_cons_succ, List.setIfInBounds_toArray, List.set_cons_zero, List.set_cons_succ]
      refine Rg3.take 2 (v := .int .i64 j) rfl rfl (by kernel_rfl) (by kernel_rfl) (by kernel_rfl) (by kernel_rfl) (by kernel_rfl) (.inl ⟨rfl, fun bs wq hI => ?_⟩) ?_
      · go_simp
      simp only [Act.put, List.getElem_toArray, List.getElem_cons_zero, List.getElem_cons_succ, List.setIfInBounds_toArray, List.set_cons_zero, List.set_cons_succ]
      refine Rg3.take 3 (v := .pointer (some ⟨b1, o1 + j * 10, none⟩)) rfl rfl (by kernel_rfl) (by kernel_rfl) (by kernel_rfl) (by kernel_rfl) (by kernel_rfl) (.inl ⟨rfl, fun bs wq hI => ?_⟩) ?_
      · go_simp
      simp only [Act.put, List.getElem_toArray, List.getElem_cons_zero, List.getElem_cons_succ, List.setIfInBounds_toArray, List.set_cons_zero, List.set_cons_succ]
      refine Rg3.take 4 (v := .agg #[.int .i64 (yc 0), .int .i64 (yc 1), .int .i64 (yc 2), .int .i64 (yc 3), .int .i64 (yc 4), .int .i64 (yc 5), .int .i64 (yc 6), .int .i64 (yc 7), .int .i64 (yc 8), .int .i64 (yc 9)]) rfl rfl (by kernel_rfl) (by kernel_rfl) (by kernel_rfl) (by kernel_rfl) (by kernel_rfl) (.inl ⟨rfl, fun bs wq hI => ?_⟩) ?_
      · exact quiet_ldm ty_corner (.tmp 60) rfl rfl rfl (X1.out _ hI.bl)
      simp only [Act.put, List.getElem_toArray, List.getElem_cons_zero, List.getElem_cons_succ, List.setIfInBounds_toArray, List.set_cons_zero, List.set_cons_succ]
      refine Rg3.take 5 (v := .agg #[.int .i64 x, .int .i64 y, .int .i64 z, .int .i64 u]) rfl rfl (by kernel_rfl) (by kernel_rfl) (by kernel_rfl) (by kernel_rfl) (by kernel_rfl) (.inl ⟨rfl, fun bs wq hI => ?_⟩) ?_
      · exact quiet_ldr ty_rect (.tmp 3) rfl rfl rfl (hI.mem (List.mem_append_right _ (by simp)))
      simp only [Act.put, List.getElem_toArray, List.getElem_cons_zero, List.getElem_cons_succ, List.setIfInBounds_toArray, List.set_cons_zero, List.set_cons_succ]
      refine Rg3.take 6 (v := .agg #[.int .i64 (s 0), .int .i64 (s 1), .int .i64 (s 2), .int .i64 (s 3), .int .i64 (s 4), .int .i64 (s 5), .int .i64 (s 6), .int .i64 (s 7), .int .i64 (s 8)]) rfl rfl (by kernel_rfl) (by kernel_rfl) (by kernel_rfl) (by kernel_rfl) (by kernel_rfl) (.inl ⟨rfl, fun bs wq hI => ?_⟩) ?_
      · (go_simp; exact (RS _).mono fun e w2 h => ⟨h.1, hI.call h.2⟩)
      simp only [Act.put, List.getElem_toArray, List.getElem_cons_zero, List.getElem_cons_succ, List.setIfInBounds_toArray, List.set_cons_zero, List.set_cons_succ]
      refine Rg3.gives1 7 (fun s' v => ∃ b, s' = [(b, [.int .i64 (s 0), .int .i64 (s 1), .int .i64 (s 2), .int .i64 (s 3), .int .i64 (s 4), .int .i64 (s 5), .int .i64 (s 6), .int .i64 (s 7), .int .i64 (s 8)])] ∧ v = .slice (some ⟨b, 0, none⟩) 1 1) (by kernel_rfl) rfl rfl ⟨rfl, fun W hI => ⟨.slice (some ⟨W.heap.size, 0, none⟩) 1 1, W.alloc (.cells #[.int .i64 (s 0), .int .i64 (s 1), .int .i64 (s 2), .int .i64 (s 3), .int .i64 (s 4), .int .i64 (s 5), .int .i64 (s 6), .int .i64 (s 7), .int .i64 (s 8)] 32), ?_, [(W.heap.size, [.int .i64 (s 0), .int .i64 (s 1), .int .i64 (s 2), .int .i64 (s 3), .int .i64 (s 4), .int .i64 (s 5), .int .i64 (s 6), .int .i64 (s 7), .int .i64 (s 8)])], ⟨_, rfl, rfl⟩, hI.newAt W.heap.size rfl _ _ _⟩⟩ ?_
      · go_simp
      rintro s' v ⟨pb, rfl, rfl⟩
      simp only [Act.put, List.getElem_toArray, List.getElem_cons_zero, List.getElem_cons_succ, List.setIfInBounds_toArray, List.set_cons_zero, List.set_cons_succ]
      refine Rg3.done (rs := [8]) (by kernel_rfl) (by decide) (fun W hI => ?_)
      clear X1 RS
      have K1 : Hid (xs.length + 1 ≤ maxLen) := Lib.hid (by have := HL.out; unfold maxLen; omega)
      have K4 : Hid ((xs.length + 1) * 72 ≤ 140737488355328) := Lib.hid (by have := HL.out; omega)
      have K5 : Hid (w1.heap.size ≤ W.heap.size) := Lib.hid hI.bl.size
      refine wpAny_one 8 (by kernel_rfl) rfl rfl (fun K2 hK2 => ?_)
      refine wp_append_lies _ (.tmp 57) (.tmp 64) 44 rfl w1.heap.size 32 i0 _ 9 72 Try.underlying44 hi0 hz0 hz1 hz3 rfl (by decide) _ _ _ rfl hI.own ⟨pb, 0, none⟩ 1 1 [.int .i64 (s 0), .int .i64 (s 1), .int .i64 (s 2), .int .i64 (s 3), .int .i64 (s 4), .int .i64 (s 5), .int .i64 (s 6), .int .i64 (s 7), .int .i64 (s 8)] rfl rfl (Ro.news_of (hI.at 0 rfl)) (one9 s) (by decide) K1.out K4.out K5.out W.heap.size rfl ?_
      intro g cap w6 h1 h2 h3 h4
      have l2 := (hI.put0 (c := s) (m := xs.length) rfl h1 h2 h3).drop (ns := [(w.heap.size, [.int .i64 x, .int .i64 y, .int .i64 z, .int .i64 u])]) (fun q hq => List.mem_append_right _ hq)
      clear hI h1 h2 h3 h4 K1 K4 K5
      have HO := Lib.hid l2
      clear l2
      refine hK2 _ _ ?_
      clear hK2
      try simp only [Act.put, List.getElem_toArray, List.getElem_cons_zero, List.getElem_cons_succ, List.setIfInBounds_toArray, List.set_cons_zero, List.set_cons_succ]
      refine wpAny_one 9 (by kernel_rfl) rfl rfl (fun K3 hK3 => ?_)
      go_simp
      refine hK3 _ _ ?_
      clear hK3
      try simp only [Act.put, List.getElem_toArray, List.getElem_cons_zero, List.getElem_cons_succ, List.setIfInBounds_toArray, List.set_cons_zero, List.set_cons_succ]
      refine wpAny_done (by kernel_rfl) ?_ _
      go_wp2_with fail
      go_roundw
      case rel => exact ⟨j + 1, by omega, by go_num, HZ.out, by rw [HM.out]; exact HO.out⟩
      case measure => simp [msrS, intOf]; omega
    · exfalso
      obtain rfl : j = l.length := by omega
      rw [List.take_length] at hs
      rw [HA.out] at hs
      cases hs
end Go.Proofs.Ythhfhkenpkfioaa
