/-
  ViewPolys: its Go text returns true.
-/
import Derived.Test.YthhfhkenpkfioaaViewPolysNo
import Derived.BigGuard
namespace Go.Proofs.Ythhfhkenpkfioaa
open Go.RowKit

set_option linter.unusedSimpArgs false in
set_option maxRecDepth 100000 in
set_option maxHeartbeats 8000000 in
theorem polys_yes (l : List Cn) (v : Value) (x y z u : Int) (w : World) (hS : Sp w v l) (hl : l.length ≤ 100) (h : Vw.is x y z u = true) (ha : l.all Vw.hasB = true) :
    Calls Try.prog 5 #[v, .agg #[.int .i64 x, .int .i64 y, .int .i64 z, .int .i64 u]] w fun e w' => e = .returned (.bool true) ∧ Below w.heap.size w w' := by
  have P1 := fun W hS => vpoly_any l v x y z u W (l.map fun c => Vw.spot c x y z u) 0 hS h hl (fun _ => ⟨rfl, rfl⟩) (fun h2 => by rw [ha] at h2; cases h2)
  obtain ⟨vx, vy, vz, vu⟩ := Vw.is_iff.1 h
  obtain ⟨a1, c1, rfl, hc1, hux⟩ := hS.each
  have q1 : decide ((100 : Int) < (l.length : Int)) = false := decide_eq_false (by omega)
  have hl2 : (l.length : Int) ≤ 100 := by omega
  have I1 := fun W => ris16_any x y z u W
  rw [h] at I1
  have RSN := fun c W hc => rsnap16_any c x y z u W h (Vw.hasB_iff.1 hc).1 (Vw.hasB_iff.1 hc).2
  have HUX := Lib.hid hux
  obtain ⟨i0, hi0, hz0, hz1, hz3⟩ := info_parts infoSpot
  have HO : Hid (Ow w _ [(w.heap.size, [.int .i64 x, .int .i64 y, .int .i64 z, .int .i64 u])]) := Lib.hid ((Ow.refl w).newAt w.heap.size rfl (.int .i64 x) [.int .i64 y, .int .i64 z, .int .i64 u] 28)
  have P1 := P1 _ (hS.next HO.out.k)
  have HA : Hid (∀ c ∈ l, Vw.hasB c = true) := Lib.hid (List.all_eq_true.1 ha)
  have HXY : Hid (∀ c, Vw.hasB c = true → (-(c 3) ≤ c 0 ∧ c 0 ≤ c 3 ∧ -(c 3) ≤ c 1 ∧ c 1 ≤ c 3 → (16 * x ≤ Vw.spot c x y z u 0 ∧ Vw.spot c x y z u 0 ≤ 16 * z) ∧ (16 * y ≤ Vw.spot c x y z u 1 ∧ Vw.spot c x y z u 1 ≤ 16 * u)) ∧ (-1073741824 ≤ c 3 ∧ c 3 ≤ 1073741824)) :=
    Lib.hid fun c hc => ⟨fun hin => ⟨Vw.x_in (Vw.hasB_iff.1 hc).2 vx vz ⟨hin.1, hin.2.1⟩, Vw.y_in (Vw.hasB_iff.1 hc).2 vy vu ⟨hin.2.2.1, hin.2.2.2⟩⟩, (Vw.hasB_iff.1 hc).1.1 3 (by omega)⟩
  have q3 : -4096 ≤ x := vx.1
  have q4 : x ≤ 4096 := vx.2
  have q5 : -4096 ≤ y := vy.1
  have q6 : y ≤ 4096 := vy.2
  have q7 : -4096 ≤ z := by omega
  have q8 : z ≤ 8192 := by omega
  have q9 : -4096 ≤ u := by omega
  have q0 : u ≤ 8192 := by omega
  clear hS hl h hux ha vx vy vz vu
  generalize hf : (fun c => Vw.spot c x y z u) = f at *
  have hf2 : ∀ c, Vw.spot c x y z u = f c := fun c => by rw [← hf]
  simp only [hf2] at RSN HXY
  have HGET : Hid (∀ i (hi : i < l.length), ∃ h2 : i < (l.map f).length, (l.map f)[i] = f l[i]) := Lib.hid fun i hi => ⟨by simpa using hi, by simp⟩
  have hLL : (l.map f).length = l.length := by simp
  obtain ⟨L, hL⟩ : ∃ L, L = l.map f := ⟨_, rfl⟩
  rw [← hL] at P1 hLL
  have HGET : Hid (∀ i (hi : i < l.length), ∃ h2 : i < L.length, L[i] = f l[i]) := Lib.hid (by subst hL; exact HGET.out)
  have HLM := Lib.hid hL
  have HLL := Lib.hid hLL
  have q2 : (L.length : Int) ≤ 100 := by omega
  clear hf hf2 hL hLL
  go_enter Try.func5, Try.ntmps5
  go_upto_region 4 with (first | go_big_skip | ((with_reducible show wpList _ _ _ ({ dst := _, op := Op.load 28 (Operand.tmp 3), type := _, pos := _, after := _, guard := _ } :: _) _ _); refine wpList_ldr ty_rect rfl _ rfl _ rfl _ rfl (HO.out.at 0 rfl) ?_) | (go_at_call 12; refine P1.mono ?_; clear P1; rintro e w1 ⟨t, rfl, hs1, hb1⟩; have HB0 := Lib.hid (HO.out.k.below.trans (hb1.mono HO.out.k.size)); have l2 : Ro.Rp 32 Vw.cs 9 w1 w1 (.slice none 0 0) [] [(w.heap.size, [.int .i64 x, .int .i64 y, .int .i64 z, .int .i64 u])] := Ro.Rp.fresh (fun q hq => by rw [List.mem_singleton] at hq; subst hq; exact ⟨Ro.rc_below (HO.out.at 0 rfl) hb1 (HO.out.lt (q := (w.heap.size, _)) (by simp)), by simp⟩); have HS1 := Lib.hid hs1; clear HO hb1 hs1; have HO := Lib.hid l2; clear l2))
  go_wp2_with (first | go_big_skip | ((with_reducible show wpList _ _ _ ({ dst := _, op := Op.load 28 (Operand.tmp 3), type := _, pos := _, after := _, guard := _ } :: _) _ _); refine wpList_ldr ty_rect rfl _ rfl _ rfl _ rfl (HO.out.at 0 rfl) ?_) | (go_at_call 8; (with_reducible refine (I1 _).mono ?_); rintro e wz ⟨rfl, hk1⟩; have l2 := HO.out.call hk1; clear HO hk1; have HO := Lib.hid l2; clear l2))
  go_loopw [8, 7] (fun i t wr => ∃ j : Nat, j ≤ l.length ∧ i = .int .i64 j ∧ (l.take j).all Vw.hasB = true ∧ Ro.Rp 32 Vw.cs 9 w1 wr t ((l.take j).map f) [(w.heap.size, [.int .i64 x, .int .i64 y, .int .i64 z, .int .i64 u])]) (fun i _ _ => msrS l.length i)
  case atStart => exact ⟨0, by omega, rfl, rfl, HO.out⟩
  case round =>
    clear HO
    obtain ⟨j, hj, rfl, hs, ho⟩ := hrel
    have HO := Lib.hid ho
    clear ho
    by_cases hlt : j < l.length
    · have z1 : decide ((j : Int) < (l.length : Int)) = true := decide_eq_true (by omega)
      have z2 : (j : Int) < (l.length : Int) := by omega
      obtain ⟨b1, o1, e1, x1⟩ := HUX.out j hlt
      have HX := Lib.hid (Cl.all_take hlt Vw.hasB)
      have HM := Lib.hid (Vw.map_next f hlt)
      have HIN := Lib.hid (List.getElem_mem hlt)
      have HS := Lib.hid hs
      have HL : Hid (((l.take j).map f).length ≤ 100) := Lib.hid (by rw [List.length_map, List.length_take]; omega)
      have X1 : Hid (∀ U, Below w1.heap.size w1 U → U.rangeAt b1 (o1 + j * 10) [.int .i64 (l[j] 0), .int .i64 (l[j] 1), .int .i64 (l[j] 2), .int .i64 (l[j] 3), .int .i64 (l[j] 4), .int .i64 (l[j] 5), .int .i64 (l[j] 6), .int .i64 (l[j] 7), .int .i64 (l[j] 8), .int .i64 (l[j] 9)]) := Lib.hid fun U hb => x1 U (HB0.out.trans (hb.mono HB0.out.size))
      clear hs x1
      generalize l[j] = yc at *
      generalize (l.take j).map f = xs at *
      subst e1
      have M1 := fun W => rmay16_any yc W
      have hyy := HA.out yc HIN.out
      rw [hyy] at M1
      have RS := fun W => RSN yc W hyy
      have HZ : Hid ((l.take (j + 1)).all Vw.hasB = true) := Lib.hid (by rw [HX.out, HS.out, hyy]; rfl)
      clear HX HIN hyy RSN
      go_upto_region 12 with (first | ((with_reducible show wpList _ _ _ ({ dst := _, op := Op.load 26 (Operand.tmp 43), type := _, pos := _, after := _, guard := _ } :: _) _ _); refine wpList_ldm ty_corner rfl _ rfl _ _ rfl _ rfl (X1.out _ HO.out.bl) ?_) | (go_at_call 10; (with_reducible refine (M1 _).mono ?_); rintro e wz ⟨rfl, hk1⟩; have l2 := HO.out.call hk1; clear HO hk1; have HO := Lib.hid l2; clear l2))
      clear M1
      generalize f yc = s at *
      refine Rg3.region (σ := List (Nat × List Value)) (I := fun s W => Ro.Rp 32 Vw.cs 9 w1 W u7 xs (s ++ [(w.heap.size, [.int .i64 x, .int .i64 y, .int .i64 z, .int .i64 u])])) (dem := fun i => i == 7) (m := 8) (g := 2) (T := fun listed s st => ∀ W, Ro.Rp 32 Vw.cs 9 w1 W u7 xs (s ++ [(w.heap.size, [.int .i64 x, .int .i64 y, .int .i64 z, .int .i64 u])]) → wpAny Try.prog .any _ _ 2 listed st W) [] (by kernel_rfl) HO.out.drew rfl (fun _ _ _ _ h hI => h _ hI) ?_
      clear HO
      refine Rg3.take 0 (v := u7) rfl rfl (by kernel_rfl) (by kernel_rfl) (by kernel_rfl) (by kernel_rfl) (by kernel_rfl) (.inl ⟨rfl, fun bs wq hI => ?_⟩) ?_
      · go_simp
      simp only [Act.put, List.getElem_toArray, List.getElem_cons_zero, List.getElem_cons_succ, List.setIfInBounds_toArray, List.set_cons_zero, List.set_cons_succ]
      refine Rg3.take 1 (v := .slice (some ⟨b1, o1, none⟩) l.length c1) rfl rfl (by kernel_rfl) (by kernel_rfl) (by kernel_rfl) (by kernel_rfl) (by kernel_rfl) (.inl ⟨rfl, fun bs wq hI => ?_⟩) ?_
      · go_simp
      simp only [Act.put, List.getElem_toArray, List.getElem_cons_zero, List.getElem_cons_succ, List.setIfInBounds_toArray, List.set_cons_zero, List.set_cons_succ]
      refine Rg3.take 2 (v := .int .i64 j) rfl rfl (by kernel_rfl) (by kernel_rfl) (by kernel_rfl) (by kernel_rfl) (by kernel_rfl) (.inl ⟨rfl, fun bs wq hI => ?_⟩) ?_
      · go_simp
      simp only [Act.put, List.getElem_toArray, List.getElem_cons_zero, List.getElem_cons_succ, List.setIfInBounds_toArray, List.set_cons_zero, List.set_cons_succ]
      refine Rg3.take 3 (v := .pointer (some ⟨b1, o1 + j * 10, none⟩)) rfl rfl (by kernel_rfl) (by kernel_rfl) (by kernel_rfl) (by kernel_rfl) (by kernel_rfl) (.inl ⟨rfl, fun bs wq hI => ?_⟩) ?_
      · go_simp
      simp only [Act.put, List.getElem_toArray, List.getElem_cons_zero, List.getElem_cons_succ, List.setIfInBounds_toArray, List.set_cons_zero, List.set_cons_succ]
      refine Rg3.take 4 (v := .agg #[.int .i64 (yc 0), .int .i64 (yc 1), .int .i64 (yc 2), .int .i64 (yc 3), .int .i64 (yc 4), .int .i64 (yc 5), .int .i64 (yc 6), .int .i64 (yc 7), .int .i64 (yc 8), .int .i64 (yc 9)]) rfl rfl (by kernel_rfl) (by kernel_rfl) (by kernel_rfl) (by kernel_rfl) (by kernel_rfl) (.inl ⟨rfl, fun bs wq hI => ?_⟩) ?_
      · exact quiet_ldm ty_corner (.tmp 60) rfl rfl rfl (X1.out _ hI.bl)
      simp only [Act.put, List.getElem_toArray, List.getElem_cons_zero, List.getElem_cons_succ, List.setIfInBounds_toArray, List.set_cons_zero, List.set_cons_succ]
      refine Rg3.take 5 (v := .agg #[.int .i64 x, .int .i64 y, .int .i64 z, .int .i64 u]) rfl rfl (by kernel_rfl) (by kernel_rfl) (by kernel_rfl) (by kernel_rfl) (by kernel_rfl) (.inl ⟨rfl, fun bs wq hI => ?_⟩) ?_
      · exact quiet_ldr ty_rect (.tmp 3) rfl rfl rfl (hI.mem (List.mem_append_right _ (by simp)))
      simp only [Act.put, List.getElem_toArray, List.getElem_cons_zero, List.getElem_cons_succ, List.setIfInBounds_toArray, List.set_cons_zero, List.set_cons_succ]
      refine Rg3.take 6 (v := .agg #[.int .i64 (s 0), .int .i64 (s 1), .int .i64 (s 2), .int .i64 (s 3), .int .i64 (s 4), .int .i64 (s 5), .int .i64 (s 6), .int .i64 (s 7), .int .i64 (s 8)]) rfl rfl (by kernel_rfl) (by kernel_rfl) (by kernel_rfl) (by kernel_rfl) (by kernel_rfl) (.inl ⟨rfl, fun bs wq hI => ?_⟩) ?_
      · (go_simp; exact (RS _).mono fun e w2 h => ⟨h.1, hI.call h.2⟩)
      simp only [Act.put, List.getElem_toArray, List.getElem_cons_zero, List.getElem_cons_succ, List.setIfInBounds_toArray, List.set_cons_zero, List.set_cons_succ]
      refine Rg3.gives1 7 (fun s' v => ∃ b, s' = [(b, [.int .i64 (s 0), .int .i64 (s 1), .int .i64 (s 2), .int .i64 (s 3), .int .i64 (s 4), .int .i64 (s 5), .int .i64 (s 6), .int .i64 (s 7), .int .i64 (s 8)])] ∧ v = .slice (some ⟨b, 0, none⟩) 1 1) (by kernel_rfl) rfl rfl ⟨rfl, fun W hI => ⟨.slice (some ⟨W.heap.size, 0, none⟩) 1 1, W.alloc (.cells #[.int .i64 (s 0), .int .i64 (s 1), .int .i64 (s 2), .int .i64 (s 3), .int .i64 (s 4), .int .i64 (s 5), .int .i64 (s 6), .int .i64 (s 7), .int .i64 (s 8)] 32), ?_, [(W.heap.size, [.int .i64 (s 0), .int .i64 (s 1), .int .i64 (s 2), .int .i64 (s 3), .int .i64 (s 4), .int .i64 (s 5), .int .i64 (s 6), .int .i64 (s 7), .int .i64 (s 8)])], ⟨_, rfl, rfl⟩, hI.newAt W.heap.size rfl _ _ _⟩⟩ ?_
      · go_simp
      rintro s' v ⟨pb, rfl, rfl⟩
      simp only [Act.put, List.getElem_toArray, List.getElem_cons_zero, List.getElem_cons_succ, List.setIfInBounds_toArray, List.set_cons_zero, List.set_cons_succ]
      refine Rg3.done (rs := [8]) (by kernel_rfl) (by decide) (fun W hI => ?_)
      clear X1 RS
      have K1 : Hid (xs.length + 1 ≤ maxLen) := Lib.hid (by have := HL.out; unfold maxLen; omega)
      have K4 : Hid ((xs.length + 1) * 72 ≤ 140737488355328) := Lib.hid (by have := HL.out; omega)
      have K5 : Hid (w1.heap.size ≤ W.heap.size) := Lib.hid hI.bl.size
      refine wpAny_one 8 (by kernel_rfl) rfl rfl (fun K2 hK2 => ?_)
      refine wp_append_lies _ (.tmp 57) (.tmp 64) 44 rfl w1.heap.size 32 i0 _ 9 72 Try.underlying44 hi0 hz0 hz1 hz3 rfl (by decide) _ _ _ rfl hI.own ⟨pb, 0, none⟩ 1 1 [.int .i64 (s 0), .int .i64 (s 1), .int .i64 (s 2), .int .i64 (s 3), .int .i64 (s 4), .int .i64 (s 5), .int .i64 (s 6), .int .i64 (s 7), .int .i64 (s 8)] rfl rfl (Ro.news_of (hI.at 0 rfl)) (one9 s) (by decide) K1.out K4.out K5.out W.heap.size rfl ?_
      intro g cap w6 h1 h2 h3 h4
      have l2 := (hI.put0 (c := s) (m := xs.length) rfl h1 h2 h3).drop (ns := [(w.heap.size, [.int .i64 x, .int .i64 y, .int .i64 z, .int .i64 u])]) (fun q hq => List.mem_append_right _ hq)
      clear hI h1 h2 h3 h4 K1 K4 K5
      have HO := Lib.hid l2
      clear l2
      refine hK2 _ _ ?_
      clear hK2
      try simp only [Act.put, List.getElem_toArray, List.getElem_cons_zero, List.getElem_cons_succ, List.setIfInBounds_toArray, List.set_cons_zero, List.set_cons_succ]
      refine wpAny_one 9 (by kernel_rfl) rfl rfl (fun K3 hK3 => ?_)
      go_simp
      refine hK3 _ _ ?_
      clear hK3
      try simp only [Act.put, List.getElem_toArray, List.getElem_cons_zero, List.getElem_cons_succ, List.setIfInBounds_toArray, List.set_cons_zero, List.set_cons_succ]
      refine wpAny_done (by kernel_rfl) ?_ _
      go_wp2_with fail
      go_roundw
      case rel => exact ⟨j + 1, by omega, by go_num, HZ.out, by rw [HM.out]; exact HO.out⟩
      case measure => simp [msrS, intOf]; omega
    · have z1 : decide ((j : Int) < (l.length : Int)) = false := decide_eq_false (by omega)
      obtain rfl : j = l.length := by omega
      rw [List.take_length, ← HLM.out] at HO
      clear hs RSN HLM
      have HV := Lib.hid (HO.out.sp Vw.cs_len)
      have HL2 : Hid (L.length ≤ 100000) := Lib.hid (by rw [HLL.out]; omega)
      obtain ⟨a2, c2, rfl, hc2, hx2⟩ := HS1.out.each
      have HX2 := Lib.hid hx2
      have HSM := Lib.hid (fun W (hb : Below w1.heap.size w1 W) (hv : Ro.Sp Vw.cs 9 W u7 L) => rsame16_any L _ _ W (HS1.out.nextB hb) hv HL2.out)
      clear hx2 HS1 hc2
      go_wp2_with (first | go_big_skip | (go_at_call 13; refine (HSM.out _ HO.out.bl HV.out).mono ?_; clear HV; rintro e wz ⟨rfl, hk1⟩; have l2 := HO.out.call hk1; clear HO hk1; have HO := Lib.hid l2; clear l2))
      clear z1
      go_loopw [9] (fun i wr => ∃ j : Nat, j ≤ l.length ∧ i = .int .i64 j ∧ Ro.Rp 32 Vw.cs 9 w1 wr u7 L [(w.heap.size, [.int .i64 x, .int .i64 y, .int .i64 z, .int .i64 u])]) (fun i _ => msrS l.length i)
      case atStart => exact ⟨0, by omega, rfl, HO.out⟩
      case round =>
        clear HO
        obtain ⟨j, hj, rfl, ho⟩ := hrel
        have HO := Lib.hid ho
        clear ho
        by_cases hlt : j < l.length
        · have z1 : decide ((j : Int) < (l.length : Int)) = true := decide_eq_true (by omega)
          have z2 : (j : Int) < (l.length : Int) := by omega
          obtain ⟨hlt2, hg⟩ := HGET.out j hlt
          have z3 : (j : Int) < (L.length : Int) := by omega
          obtain ⟨b1, o1, e1, x1⟩ := HUX.out j hlt
          obtain ⟨b2, o2, e2, x2⟩ := HX2.out j hlt2
          rw [hg] at x2
          obtain ⟨hin, w3a, w3b⟩ := HXY.out l[j] (HA.out _ (List.getElem_mem hlt))
          have X1 : Hid (∀ U, Below w1.heap.size w1 U → U.rangeAt b1 (o1 + j * 10) [.int .i64 (l[j] 0), .int .i64 (l[j] 1), .int .i64 (l[j] 2), .int .i64 (l[j] 3)]) := Lib.hid fun U hb => range_vec (x1 U (HB0.out.trans (hb.mono HB0.out.size)))
          have X2 := Lib.hid x2
          clear x1 x2 hg
          generalize f l[j] = s at *
          generalize l[j] = yc at *
          subst e1 e2
          go_upto_region 19 with ((with_reducible show wpList _ _ _ ({ dst := _, op := Op.load 23 (Operand.tmp 83), type := _, pos := _, after := _, guard := _ } :: _) _ _); refine wpList_ldm ty_vec rfl _ rfl _ _ rfl _ rfl (X1.out _ HO.out.bl) ?_)
          have l2 := HO.out.newAt wr.heap.size rfl (.int .i64 (yc 0)) [.int .i64 (yc 1), .int .i64 (yc 2), .int .i64 (yc 3)] 23
          clear HO
          have HO := Lib.hid l2
          clear l2
          generalize hV : World.alloc _ _ = V1 at *
          clear hV
          generalize wr.heap.size = p7 at *
          have k0 := (HO.out.at 0 rfl).cell 0 rfl
          have k1 := (HO.out.at 0 rfl).cell 1 rfl
          have k3 := (HO.out.at 0 rfl).cell 3 rfl
          have HI := Lib.hid hin
          clear hin
          have V1 := Lib.hid (Vw.wrap (n := 16 * x) (by omega))
          have V2 := Lib.hid (Vw.wrap (n := 16 * z) (by omega))
          have V3 := Lib.hid (Vw.wrap (n := 16 * y) (by omega))
          have V4 := Lib.hid (Vw.wrap (n := 16 * u) (by omega))
          go_cut [11] (fun s11 wx => ∃ p : Bool, s11 = .bool p ∧ (p = true → -(yc 3) ≤ yc 0 ∧ yc 0 ≤ yc 3 ∧ -(yc 3) ≤ yc 1 ∧ yc 1 ≤ yc 3) ∧ Ro.Rp 32 Vw.cs 9 w1 wx u7 L [(p7, [.int .i64 (yc 0), .int .i64 (yc 1), .int .i64 (yc 2), .int .i64 (yc 3)]), (w.heap.size, [.int .i64 x, .int .i64 y, .int .i64 z, .int .i64 u])])
          case first =>
            clear HI V1 V2 V3 V4
            by_cases d1 : -(yc 3) ≤ yc 0
            case neg =>
              have t1 : decide (-(yc 3) ≤ yc 0) = false := decide_eq_false d1
              clear d1
              go_wp2_with go_big_skip
              go_meet
              exact ⟨false, rfl, fun e => (by cases e), HO.out⟩
            have t1 : decide (-(yc 3) ≤ yc 0) = true := decide_eq_true d1
            by_cases d2 : yc 0 ≤ yc 3
            case neg =>
              have t2 : decide (yc 0 ≤ yc 3) = false := decide_eq_false d2
              clear d1 d2
              go_wp2_with go_big_skip
              go_meet
              exact ⟨false, rfl, fun e => (by cases e), HO.out⟩
            have t2 : decide (yc 0 ≤ yc 3) = true := decide_eq_true d2
            by_cases d3 : -(yc 3) ≤ yc 1
            case neg =>
              have t3 : decide (-(yc 3) ≤ yc 1) = false := decide_eq_false d3
              clear d1 d2 d3
              go_wp2_with go_big_skip
              go_meet
              exact ⟨false, rfl, fun e => (by cases e), HO.out⟩
            have t3 : decide (-(yc 3) ≤ yc 1) = true := decide_eq_true d3
            by_cases d4 : yc 1 ≤ yc 3
            case neg =>
              have t4 : decide (yc 1 ≤ yc 3) = false := decide_eq_false d4
              clear d1 d2 d3 d4
              go_wp2_with go_big_skip
              go_meet
              exact ⟨false, rfl, fun e => (by cases e), HO.out⟩
            have t4 : decide (yc 1 ≤ yc 3) = true := decide_eq_true d4
            have HD := Lib.hid (And.intro d1 (And.intro d2 (And.intro d3 d4)))
            clear d1 d2 d3 d4
            go_wp2_with go_big_skip
            go_meet
            exact ⟨true, rfl, fun _ => HD.out, HO.out⟩
          case rest =>
            obtain ⟨p, rfl, hp, ho⟩ := hcut
            clear HO k0 k1 k3
            have HO := Lib.hid ho
            clear ho
            cases p
            · clear hp HI
              go_upto_region 20 with fail
              go_quiet (fail)
              have l3 := HO.out
              clear HO
              generalize hW2 : World.drewN _ _ = W2 at *
              have HO := Lib.hid (by rw [← hW2]; exact l3.drewN _ : Ro.Rp 32 Vw.cs 9 w1 W2 u7 L [(p7, [.int .i64 (yc 0), .int .i64 (yc 1), .int .i64 (yc 2), .int .i64 (yc 3)]), (w.heap.size, [.int .i64 x, .int .i64 y, .int .i64 z, .int .i64 u])])
              clear hW2 l3
              go_wp2_with fail
              go_roundw
              case rel => first | exact ⟨j + 1, by omega, by go_num, HO.out.drop (fun q hq => by simp at hq; simp [hq])⟩ | ((repeat apply Exists.intro); exact ⟨⟨j + 1, by omega, by go_num, HO.out.drop (fun q hq => by simp at hq; simp [hq])⟩, rfl⟩)
              case measure => simp [msrS, intOf]; omega
            · obtain ⟨⟨i1, i2⟩, i3, i4⟩ := HI.out (hp rfl)
              have g1 : decide (s 0 < 16 * x) = false := decide_eq_false (by omega)
              have g2 : decide (16 * z < s 0) = false := decide_eq_false (by omega)
              have g3 : decide (s 1 < 16 * y) = false := decide_eq_false (by omega)
              have g4 : decide (16 * u < s 1) = false := decide_eq_false (by omega)
              clear hp HI i1 i2 i3 i4
              obtain ⟨m1, m2⟩ := spot_pair (X2.out _ HO.out.bl)
              have k0 := (HO.out.at 1 rfl).cell 0 rfl
              have k1 := (HO.out.at 1 rfl).cell 1 rfl
              have k2 := (HO.out.at 1 rfl).cell 2 rfl
              have k3 := (HO.out.at 1 rfl).cell 3 rfl
              go_upto_region 20 with fail
              go_quiet (fail)
              clear m1 m2 k0 k1 k2 k3
              have l3 := HO.out
              clear HO
              generalize hW2 : World.drewN _ _ = W2 at *
              have HO := Lib.hid (by rw [← hW2]; exact l3.drewN _ : Ro.Rp 32 Vw.cs 9 w1 W2 u7 L [(p7, [.int .i64 (yc 0), .int .i64 (yc 1), .int .i64 (yc 2), .int .i64 (yc 3)]), (w.heap.size, [.int .i64 x, .int .i64 y, .int .i64 z, .int .i64 u])])
              clear hW2 l3
              go_wp2_with fail
              go_roundw
              case rel => first | exact ⟨j + 1, by omega, by go_num, HO.out.drop (fun q hq => by simp at hq; simp [hq])⟩ | ((repeat apply Exists.intro); exact ⟨⟨j + 1, by omega, by go_num, HO.out.drop (fun q hq => by simp at hq; simp [hq])⟩, rfl⟩)
              case measure => simp [msrS, intOf]; omega
        · have z1 : decide ((j : Int) < (l.length : Int)) = false := decide_eq_false (by omega)
          go_wp2_with (first | go_big_skip | (go_at_call 9; refine (awake_any _).mono ?_; rintro e wz ⟨rfl, hk1⟩; have l2 := HO.out.call hk1; clear HO hk1; have HO := Lib.hid l2; clear l2))
          go_ret
          exact ⟨rfl, HB0.out.trans (HO.out.bl.mono HB0.out.size)⟩
theorem polys_walk (l : List Cn) (v : Value) (x y z u : Int) (w : World) (hS : Sp w v l) (wx : (Lit.int .i64 x).wf = true) (wy : (Lit.int .i64 y).wf = true) (wz : (Lit.int .i64 z).wf = true) (wu : (Lit.int .i64 u).wf = true) :
    Calls Try.prog 5 #[v, .agg #[.int .i64 x, .int .i64 y, .int .i64 z, .int .i64 u]] w fun e w' => e = .returned (.bool true) ∧ Below w.heap.size w w' := by
  by_cases hl : 100 < l.length
  · exact polys_big l v x y z u w hS hl
  cases h : Vw.is x y z u
  · exact polys_is l v x y z u w hS (by omega) (wf64 wx) (wf64 wy) (wf64 wz) (wf64 wu) h
  cases ha : l.all Vw.hasB
  · exact polys_no l v x y z u w hS (by omega) h ha
  · exact polys_yes l v x y z u w hS (by omega) h ha
end Go.Proofs.Ythhfhkenpkfioaa
