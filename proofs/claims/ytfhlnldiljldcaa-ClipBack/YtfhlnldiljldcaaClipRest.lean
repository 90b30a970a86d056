/-
  Contract of layer 15 (clip): what is left of a polygon that is cut off at a plane.
-/
import Derived.Test.YtfhlnldiljldcaaClipCut
import Derived.Test.YtfhlnldiljldcaaClipRefAt
import Derived.BigGuard
namespace Go.Proofs.Ytfhlnldiljldcaa
open Go.RowKit

set_option linter.unusedSimpArgs false in
set_option maxRecDepth 100000 in
set_option maxHeartbeats 8000000 in
theorem rest_any (k : Nat) (l : List Cn) (v : Value) (w : World) (hS : Sp w v l) (hk : k < 7) (hm : ∀ c ∈ l, Cl.May c) (hl : l.length ≤ 100000) :
    Calls Try.prog 26 #[.int .i64 k, v] w fun e w' => RAt w (Cl.at k l) e w' := by
  obtain ⟨a1, c1, rfl, hc1, hu⟩ := hS.each
  have HU := Lib.hid hu
  have HM := Lib.hid hm
  have hl2 : (l.length : Int) ≤ 100000 := by omega
  obtain ⟨i0, hi0, hz0, hz1, hz3⟩ := info_parts infoCorner
  have HO := Lib.hid (Rp.start (Ow.refl w))
  clear hS hu hm hl
  go_enter Try.func26, Try.ntmps26
  go_wp2
  go_loopw [13, 5] (fun i u wr => ∃ (j : Nat), j ≤ l.length ∧ i = .int .i64 j ∧ Rp w wr u (Cl.upto k l j) []) (fun i _ _ => msrS l.length i)
  case atStart => exact ⟨0, by omega, rfl, HO.out⟩
  case round =>
    clear HO
    obtain ⟨j, hj, rfl, ho⟩ := hrel
    have HO := Lib.hid ho
    clear ho
    by_cases hlt : j < l.length
    · have z1 : decide ((j : Int) < (l.length : Int)) = true := decide_eq_true (by omega)
      have z2 : (j : Int) < (l.length : Int) := by omega
      obtain ⟨q, hq⟩ : ∃ q, (j + 1) % l.length = q := ⟨_, rfl⟩
      have hql : q < l.length := by rw [← hq]; exact Nat.mod_lt _ (by omega)
      have hq2 : ((j : Int) + 1) % (l.length : Int) = (q : Int) := by rw [← hq]; simp
      have hq3 : ((j : Int) + 1).tmod (l.length : Int) = (q : Int) := by rw [Int.tmod_eq_emod_of_nonneg (by omega)]; exact hq2
      have z3 : (q : Int) < (l.length : Int) := by omega
      obtain ⟨b1, o1, e1, x1⟩ := HU.out j hlt
      obtain ⟨b2, o2, e2, x2⟩ := HU.out q hql
      subst e1
      simp only [Option.some.injEq, Addr.mk.injEq, and_true] at e2
      obtain ⟨rfl, rfl⟩ := e2
      have hma := HM.out _ (List.getElem_mem hlt)
      have hmb := HM.out _ (List.getElem_mem hql)
      have hnext := Cl.upto_next k l j
      unfold Cl.piece at hnext
      rw [hq, Cl.nth_get hlt, Cl.nth_get hql] at hnext
      have hb9 := Cl.upto_len k l j
      have HB : Hid ((Cl.upto k l j).length ≤ 200000) := Lib.hid (by omega)
      have X1 : Hid (∀ U, Below w.heap.size w U → U.rangeAt b1 (o1 + j * 10) [.int .i64 (l[j] 0), .int .i64 (l[j] 1), .int .i64 (l[j] 2), .int .i64 (l[j] 3), .int .i64 (l[j] 4), .int .i64 (l[j] 5), .int .i64 (l[j] 6), .int .i64 (l[j] 7), .int .i64 (l[j] 8), .int .i64 (l[j] 9)]) := Lib.hid x1
      have X2 : Hid (∀ U, Below w.heap.size w U → U.rangeAt b1 (o1 + q * 10) [.int .i64 (l[q] 0), .int .i64 (l[q] 1), .int .i64 (l[q] 2), .int .i64 (l[q] 3), .int .i64 (l[q] 4), .int .i64 (l[q] 5), .int .i64 (l[q] 6), .int .i64 (l[q] 7), .int .i64 (l[q] 8), .int .i64 (l[q] 9)]) := Lib.hid x2
      clear x1 x2 hb9 hq HM
      generalize l[j] = ya at *
      generalize l[q] = yb at *
      generalize hxs : Cl.upto k l j = xs at *
      clear hxs
      have N1 := fun W => within_any k ya W hk hma.1
      have N2 := fun W => within_any k yb W hk hmb.1
      cases ha : Cl.inn k ya <;> cases hb : Cl.inn k yb
      · skip
        have hnx : Cl.upto k l (j + 1) = xs := by rw [hnext]; unfold Cl.own Cl.cross; rw [ha, hb]; simp
        rw [ha] at N1
        rw [hb] at N2
        have HX := Lib.hid hnx
        clear hnx hnext ha hb hma hmb
        go_upto_region 5 with ((with_reducible show wpList _ _ _ ({ dst := _, op := Op.load 26 (Operand.tmp 16), type := _, pos := _, after := _, guard := _ } :: _) _ _); refine wpList_ldm ty_corner rfl _ rfl _ _ rfl _ rfl (X1.out _ HO.out.bl) ?_)
        have l2 := HO.out.newAt wr.heap.size rfl (.int .i64 (ya 0)) [.int .i64 (ya 1), .int .i64 (ya 2), .int .i64 (ya 3), .int .i64 (ya 4), .int .i64 (ya 5), .int .i64 (ya 6), .int .i64 (ya 7), .int .i64 (ya 8), .int .i64 (ya 9)] 26
        clear HO
        have HO := Lib.hid l2
        clear l2
        generalize hV : World.alloc _ _ = V1 at *
        clear hV
        generalize wr.heap.size = p7 at *
        go_upto_region 6 with ((with_reducible show wpList _ _ _ ({ dst := _, op := Op.load 26 (Operand.tmp 24), type := _, pos := _, after := _, guard := _ } :: _) _ _); refine wpList_ldm ty_corner rfl _ rfl _ _ rfl _ rfl (X2.out _ HO.out.bl) ?_)
        have l2 := HO.out.newAt V1.heap.size rfl (.int .i64 (yb 0)) [.int .i64 (yb 1), .int .i64 (yb 2), .int .i64 (yb 3), .int .i64 (yb 4), .int .i64 (yb 5), .int .i64 (yb 6), .int .i64 (yb 7), .int .i64 (yb 8), .int .i64 (yb 9)] 26
        clear HO
        have HO := Lib.hid l2
        clear l2
        generalize hV : World.alloc _ _ = V2 at *
        clear hV
        generalize V1.heap.size = p8 at *
        clear X1 X2
        refine Rg.region (I := fun _ W => Rp w W u5 xs [(p8, [.int .i64 (yb 0), .int .i64 (yb 1), .int .i64 (yb 2), .int .i64 (yb 3), .int .i64 (yb 4), .int .i64 (yb 5), .int .i64 (yb 6), .int .i64 (yb 7), .int .i64 (yb 8), .int .i64 (yb 9)]), (p7, [.int .i64 (ya 0), .int .i64 (ya 1), .int .i64 (ya 2), .int .i64 (ya 3), .int .i64 (ya 4), .int .i64 (ya 5), .int .i64 (ya 6), .int .i64 (ya 7), .int .i64 (ya 8), .int .i64 (ya 9)])]) (dem := fun _ => false) (m := 8) (g := 0) (T := fun listed bs st => ∀ W, Rp w W u5 xs [(p8, [.int .i64 (yb 0), .int .i64 (yb 1), .int .i64 (yb 2), .int .i64 (yb 3), .int .i64 (yb 4), .int .i64 (yb 5), .int .i64 (yb 6), .int .i64 (yb 7), .int .i64 (yb 8), .int .i64 (yb 9)]), (p7, [.int .i64 (ya 0), .int .i64 (ya 1), .int .i64 (ya 2), .int .i64 (ya 3), .int .i64 (ya 4), .int .i64 (ya 5), .int .i64 (ya 6), .int .i64 (ya 7), .int .i64 (ya 8), .int .i64 (ya 9)])] → wpAny Try.prog .any _ _ 0 listed st W) (by kernel_rfl) HO.out.drew rfl (fun _ _ _ _ h hI => h _ hI) ?_
        clear HO
        refine Rg.take 0 (v := .int .i64 k) rfl rfl (by kernel_rfl) (by kernel_rfl) (by kernel_rfl) (by kernel_rfl) (by kernel_rfl) (.inl ⟨rfl, fun bs wq hI => ?_⟩) ?_
        · go_simp
        simp only [Act.put, List.getElem_toArray, List.getElem_cons_zero, List.getElem_cons_succ, List.setIfInBounds_toArray, List.set_cons_zero, List.set_cons_succ]
        refine Rg.take 1 (v := .agg #[.int .i64 (ya 0), .int .i64 (ya 1), .int .i64 (ya 2), .int .i64 (ya 3), .int .i64 (ya 4), .int .i64 (ya 5), .int .i64 (ya 6), .int .i64 (ya 7), .int .i64 (ya 8), .int .i64 (ya 9)]) rfl rfl (by kernel_rfl) (by kernel_rfl) (by kernel_rfl) (by kernel_rfl) (by kernel_rfl) (.inl ⟨rfl, fun bs wq hI => ?_⟩) ?_
        · exact quiet_ldr ty_corner (.tmp 7) rfl rfl rfl (hI.at 1 rfl)
        simp only [Act.put, List.getElem_toArray, List.getElem_cons_zero, List.getElem_cons_succ, List.setIfInBounds_toArray, List.set_cons_zero, List.set_cons_succ]
        refine Rg.take 2 (v := .bool false) rfl rfl (by kernel_rfl) (by kernel_rfl) (by kernel_rfl) (by kernel_rfl) (by kernel_rfl) (.inl ⟨rfl, fun bs wq hI => ?_⟩) ?_
        · (go_simp; exact (N1 _).mono fun e w2 h => ⟨h.1, hI.call h.2⟩)
        simp only [Act.put, List.getElem_toArray, List.getElem_cons_zero, List.getElem_cons_succ, List.setIfInBounds_toArray, List.set_cons_zero, List.set_cons_succ]
        refine Rg.take 3 (v := .int .i64 k) rfl rfl (by kernel_rfl) (by kernel_rfl) (by kernel_rfl) (by kernel_rfl) (by kernel_rfl) (.inl ⟨rfl, fun bs wq hI => ?_⟩) ?_
        · go_simp
        simp only [Act.put, List.getElem_toArray, List.getElem_cons_zero, List.getElem_cons_succ, List.setIfInBounds_toArray, List.set_cons_zero, List.set_cons_succ]
        refine Rg.take 4 (v := .agg #[.int .i64 (yb 0), .int .i64 (yb 1), .int .i64 (yb 2), .int .i64 (yb 3), .int .i64 (yb 4), .int .i64 (yb 5), .int .i64 (yb 6), .int .i64 (yb 7), .int .i64 (yb 8), .int .i64 (yb 9)]) rfl rfl (by kernel_rfl) (by kernel_rfl) (by kernel_rfl) (by kernel_rfl) (by kernel_rfl) (.inl ⟨rfl, fun bs wq hI => ?_⟩) ?_
        · exact quiet_ldr ty_corner (.tmp 8) rfl rfl rfl (hI.at 0 rfl)
        simp only [Act.put, List.getElem_toArray, List.getElem_cons_zero, List.getElem_cons_succ, List.setIfInBounds_toArray, List.set_cons_zero, List.set_cons_succ]
        refine Rg.take 5 (v := .bool false) rfl rfl (by kernel_rfl) (by kernel_rfl) (by kernel_rfl) (by kernel_rfl) (by kernel_rfl) (.inl ⟨rfl, fun bs wq hI => ?_⟩) ?_
        · (go_simp; exact (N2 _).mono fun e w2 h => ⟨h.1, hI.call h.2⟩)
        simp only [Act.put, List.getElem_toArray, List.getElem_cons_zero, List.getElem_cons_succ, List.setIfInBounds_toArray, List.set_cons_zero, List.set_cons_succ]
        refine Rg.take 6 (v := .bool false) rfl rfl (by kernel_rfl) (by kernel_rfl) (by kernel_rfl) (by kernel_rfl) (by kernel_rfl) (.inl ⟨rfl, fun bs wq hI => ?_⟩) ?_
        · go_simp
        simp only [Act.put, List.getElem_toArray, List.getElem_cons_zero, List.getElem_cons_succ, List.setIfInBounds_toArray, List.set_cons_zero, List.set_cons_succ]
        refine Rg.take 7 (v := .bool false) rfl rfl (by kernel_rfl) (by kernel_rfl) (by kernel_rfl) (by kernel_rfl) (by kernel_rfl) (.inl ⟨rfl, fun bs wq hI => ?_⟩) ?_
        · go_simp
        simp only [Act.put, List.getElem_toArray, List.getElem_cons_zero, List.getElem_cons_succ, List.setIfInBounds_toArray, List.set_cons_zero, List.set_cons_succ]
        refine Rg.done (rs := []) (by kernel_rfl) (by decide) (fun W hI => ?_)
        have HO := Lib.hid hI
        clear hI
        refine wpAny_done (by kernel_rfl) ?_ _
        clear N1 N2
        clear HB
        go_wp2_with go_big_skip
        go_roundw
        case rel => exact ⟨j + 1, by omega, by go_num, by rw [HX.out]; exact HO.out.drop (fun q hq => by cases hq)⟩
        case measure => simp [msrS, intOf]; omega
      · skip
        have hnx : Cl.upto k l (j + 1) = xs ++ [Cl.cut k yb ya] := by rw [hnext]; unfold Cl.own Cl.cross; rw [ha, hb]; simp
        rw [ha] at N1
        rw [hb] at N2
        have C1 := fun W => cutc_any k yb ya W hk hmb hma (Cl.inn_iff.1 hb) (Cl.inn_no.1 ha)
        have HX := Lib.hid hnx
        generalize Cl.cut k yb ya = yc at *
        clear hnx hnext ha hb hma hmb
        go_upto_region 5 with ((with_reducible show wpList _ _ _ ({ dst := _, op := Op.load 26 (Operand.tmp 16), type := _, pos := _, after := _, guard := _ } :: _) _ _); refine wpList_ldm ty_corner rfl _ rfl _ _ rfl _ rfl (X1.out _ HO.out.bl) ?_)
        have l2 := HO.out.newAt wr.heap.size rfl (.int .i64 (ya 0)) [.int .i64 (ya 1), .int .i64 (ya 2), .int .i64 (ya 3), .int .i64 (ya 4), .int .i64 (ya 5), .int .i64 (ya 6), .int .i64 (ya 7), .int .i64 (ya 8), .int .i64 (ya 9)] 26
        clear HO
        have HO := Lib.hid l2
        clear l2
        generalize hV : World.alloc _ _ = V1 at *
        clear hV
        generalize wr.heap.size = p7 at *
        go_upto_region 6 with ((with_reducible show wpList _ _ _ ({ dst := _, op := Op.load 26 (Operand.tmp 24), type := _, pos := _, after := _, guard := _ } :: _) _ _); refine wpList_ldm ty_corner rfl _ rfl _ _ rfl _ rfl (X2.out _ HO.out.bl) ?_)
        have l2 := HO.out.newAt V1.heap.size rfl (.int .i64 (yb 0)) [.int .i64 (yb 1), .int .i64 (yb 2), .int .i64 (yb 3), .int .i64 (yb 4), .int .i64 (yb 5), .int .i64 (yb 6), .int .i64 (yb 7), .int .i64 (yb 8), .int .i64 (yb 9)] 26
        clear HO
        have HO := Lib.hid l2
        clear l2
        generalize hV : World.alloc _ _ = V2 at *
        clear hV
        generalize V1.heap.size = p8 at *
        clear X1 X2
        refine Rg.region (I := fun _ W => Rp w W u5 xs [(p8, [.int .i64 (yb 0), .int .i64 (yb 1), .int .i64 (yb 2), .int .i64 (yb 3), .int .i64 (yb 4), .int .i64 (yb 5), .int .i64 (yb 6), .int .i64 (yb 7), .int .i64 (yb 8), .int .i64 (yb 9)]), (p7, [.int .i64 (ya 0), .int .i64 (ya 1), .int .i64 (ya 2), .int .i64 (ya 3), .int .i64 (ya 4), .int .i64 (ya 5), .int .i64 (ya 6), .int .i64 (ya 7), .int .i64 (ya 8), .int .i64 (ya 9)])]) (dem := fun _ => false) (m := 8) (g := 0) (T := fun listed bs st => ∀ W, Rp w W u5 xs [(p8, [.int .i64 (yb 0), .int .i64 (yb 1), .int .i64 (yb 2), .int .i64 (yb 3), .int .i64 (yb 4), .int .i64 (yb 5), .int .i64 (yb 6), .int .i64 (yb 7), .int .i64 (yb 8), .int .i64 (yb 9)]), (p7, [.int .i64 (ya 0), .int .i64 (ya 1), .int .i64 (ya 2), .int .i64 (ya 3), .int .i64 (ya 4), .int .i64 (ya 5), .int .i64 (ya 6), .int .i64 (ya 7), .int .i64 (ya 8), .int .i64 (ya 9)])] → wpAny Try.prog .any _ _ 0 listed st W) (by kernel_rfl) HO.out.drew rfl (fun _ _ _ _ h hI => h _ hI) ?_
        clear HO
        refine Rg.take 0 (v := .int .i64 k) rfl rfl (by kernel_rfl) (by kernel_rfl) (by kernel_rfl) (by kernel_rfl) (by kernel_rfl) (.inl ⟨rfl, fun bs wq hI => ?_⟩) ?_
        · go_simp
        simp only [Act.put, List.getElem_toArray, List.getElem_cons_zero, List.getElem_cons_succ, List.setIfInBounds_toArray, List.set_cons_zero, List.set_cons_succ]
        refine Rg.take 1 (v := .agg #[.int .i64 (ya 0), .int .i64 (ya 1), .int .i64 (ya 2), .int .i64 (ya 3), .int .i64 (ya 4), .int .i64 (ya 5), .int .i64 (ya 6), .int .i64 (ya 7), .int .i64 (ya 8), .int .i64 (ya 9)]) rfl rfl (by kernel_rfl) (by kernel_rfl) (by kernel_rfl) (by kernel_rfl) (by kernel_rfl) (.inl ⟨rfl, fun bs wq hI => ?_⟩) ?_
        · exact quiet_ldr ty_corner (.tmp 7) rfl rfl rfl (hI.at 1 rfl)
        simp only [Act.put, List.getElem_toArray, List.getElem_cons_zero, List.getElem_cons_succ, List.setIfInBounds_toArray, List.set_cons_zero, List.set_cons_succ]
        refine Rg.take 2 (v := .bool false) rfl rfl (by kernel_rfl) (by kernel_rfl) (by kernel_rfl) (by kernel_rfl) (by kernel_rfl) (.inl ⟨rfl, fun bs wq hI => ?_⟩) ?_
        · (go_simp; exact (N1 _).mono fun e w2 h => ⟨h.1, hI.call h.2⟩)
        simp only [Act.put, List.getElem_toArray, List.getElem_cons_zero, List.getElem_cons_succ, List.setIfInBounds_toArray, List.set_cons_zero, List.set_cons_succ]
        refine Rg.take 3 (v := .int .i64 k) rfl rfl (by kernel_rfl) (by kernel_rfl) (by kernel_rfl) (by kernel_rfl) (by kernel_rfl) (.inl ⟨rfl, fun bs wq hI => ?_⟩) ?_
        · go_simp
        simp only [Act.put, List.getElem_toArray, List.getElem_cons_zero, List.getElem_cons_succ, List.setIfInBounds_toArray, List.set_cons_zero, List.set_cons_succ]
        refine Rg.take 4 (v := .agg #[.int .i64 (yb 0), .int .i64 (yb 1), .int .i64 (yb 2), .int .i64 (yb 3), .int .i64 (yb 4), .int .i64 (yb 5), .int .i64 (yb 6), .int .i64 (yb 7), .int .i64 (yb 8), .int .i64 (yb 9)]) rfl rfl (by kernel_rfl) (by kernel_rfl) (by kernel_rfl) (by kernel_rfl) (by kernel_rfl) (.inl ⟨rfl, fun bs wq hI => ?_⟩) ?_
        · exact quiet_ldr ty_corner (.tmp 8) rfl rfl rfl (hI.at 0 rfl)
        simp only [Act.put, List.getElem_toArray, List.getElem_cons_zero, List.getElem_cons_succ, List.setIfInBounds_toArray, List.set_cons_zero, List.set_cons_succ]
        refine Rg.take 5 (v := .bool true) rfl rfl (by kernel_rfl) (by kernel_rfl) (by kernel_rfl) (by kernel_rfl) (by kernel_rfl) (.inl ⟨rfl, fun bs wq hI => ?_⟩) ?_
        · (go_simp; exact (N2 _).mono fun e w2 h => ⟨h.1, hI.call h.2⟩)
        simp only [Act.put, List.getElem_toArray, List.getElem_cons_zero, List.getElem_cons_succ, List.setIfInBounds_toArray, List.set_cons_zero, List.set_cons_succ]
        refine Rg.take 6 (v := .bool false) rfl rfl (by kernel_rfl) (by kernel_rfl) (by kernel_rfl) (by kernel_rfl) (by kernel_rfl) (.inl ⟨rfl, fun bs wq hI => ?_⟩) ?_
        · go_simp
        simp only [Act.put, List.getElem_toArray, List.getElem_cons_zero, List.getElem_cons_succ, List.setIfInBounds_toArray, List.set_cons_zero, List.set_cons_succ]
        refine Rg.take 7 (v := .bool true) rfl rfl (by kernel_rfl) (by kernel_rfl) (by kernel_rfl) (by kernel_rfl) (by kernel_rfl) (.inl ⟨rfl, fun bs wq hI => ?_⟩) ?_
        · go_simp
        simp only [Act.put, List.getElem_toArray, List.getElem_cons_zero, List.getElem_cons_succ, List.setIfInBounds_toArray, List.set_cons_zero, List.set_cons_succ]
        refine Rg.done (rs := []) (by kernel_rfl) (by decide) (fun W hI => ?_)
        have HO := Lib.hid hI
        clear hI
        refine wpAny_done (by kernel_rfl) ?_ _
        clear N1 N2
        have K1 : Hid (xs.length + 1 ≤ maxLen) := Lib.hid (by have := HB.out; (try simp only [List.length_append, List.length_cons, List.length_nil]); unfold maxLen; omega)
        have K2 : Hid ((xs.length + 1) * 80 ≤ 140737488355328) := Lib.hid (by have := HB.out; (try simp only [List.length_append, List.length_cons, List.length_nil]); omega)
        go_wp2_with (first | go_big_skip | ((with_reducible show wpList _ _ _ ({ dst := _, op := Op.load 26 (Operand.tmp 8), type := _, pos := _, after := _, guard := _ } :: _) _ _); refine wpList_ldr ty_corner rfl _ rfl _ rfl _ rfl (HO.out.at 0 rfl) ?_) | ((with_reducible show wpList _ _ _ ({ dst := _, op := Op.load 26 (Operand.tmp 7), type := _, pos := _, after := _, guard := _ } :: _) _ _); refine wpList_ldr ty_corner rfl _ rfl _ rfl _ rfl (HO.out.at 1 rfl) ?_) | (go_at_call 22; (with_reducible refine (C1 _).mono ?_); rintro e wz ⟨rfl, hk1⟩; have l2 := HO.out.call hk1; clear HO hk1; have HO := Lib.hid l2; clear l2; have K3 : Hid (w.heap.size ≤ wz.heap.size) := Lib.hid HO.out.bl.size) | (at_builtin; refine wpList_append_lies _ rfl (.tmp 54) (.tmp 59) 37 rfl w.heap.size 26 i0 _ 10 80 Try.underlying37 hi0 hz0 hz1 hz3 rfl (by decide) _ _ _ rfl (HO.out.own.alloc _) ⟨wz.heap.size, 0, none⟩ 1 1 [.int .i64 (yc 0), .int .i64 (yc 1), .int .i64 (yc 2), .int .i64 (yc 3), .int .i64 (yc 4), .int .i64 (yc 5), .int .i64 (yc 6), .int .i64 (yc 7), .int .i64 (yc 8), .int .i64 (yc 9)] rfl rfl (news10 _ yc _) (one10 yc) (by decide) K1.out K2.out (Nat.le_trans K3.out (by simp)) (wz.heap.size + 1) (by simp) ?_))
        intro g cap w4 h1 h2 h3 h4
        have l2 := HO.out.putN (c := yc) (n := xs.length) (by simp) h1 h2 h3
        clear HO h1 h2 h3 h4 K1 K2 K3
        have HO := Lib.hid l2
        clear l2
        clear HB
        go_wp2_with go_big_skip
        go_roundw
        case rel => exact ⟨j + 1, by omega, by go_num, by rw [HX.out]; exact HO.out.drop (fun q hq => by cases hq)⟩
        case measure => simp [msrS, intOf]; omega
      · skip
        have hnx : Cl.upto k l (j + 1) = xs ++ [ya] ++ [Cl.cut k ya yb] := by rw [hnext]; unfold Cl.own Cl.cross; rw [ha, hb]; simp
        rw [ha] at N1
        rw [hb] at N2
        have C1 := fun W => cutc_any k ya yb W hk hma hmb (Cl.inn_iff.1 ha) (Cl.inn_no.1 hb)
        have HX := Lib.hid hnx
        generalize Cl.cut k ya yb = yc at *
        clear hnx hnext ha hb hma hmb
        go_upto_region 5 with ((with_reducible show wpList _ _ _ ({ dst := _, op := Op.load 26 (Operand.tmp 16), type := _, pos := _, after := _, guard := _ } :: _) _ _); refine wpList_ldm ty_corner rfl _ rfl _ _ rfl _ rfl (X1.out _ HO.out.bl) ?_)
        have l2 := HO.out.newAt wr.heap.size rfl (.int .i64 (ya 0)) [.int .i64 (ya 1), .int .i64 (ya 2), .int .i64 (ya 3), .int .i64 (ya 4), .int .i64 (ya 5), .int .i64 (ya 6), .int .i64 (ya 7), .int .i64 (ya 8), .int .i64 (ya 9)] 26
        clear HO
        have HO := Lib.hid l2
        clear l2
        generalize hV : World.alloc _ _ = V1 at *
        clear hV
        generalize wr.heap.size = p7 at *
        go_upto_region 6 with ((with_reducible show wpList _ _ _ ({ dst := _, op := Op.load 26 (Operand.tmp 24), type := _, pos := _, after := _, guard := _ } :: _) _ _); refine wpList_ldm ty_corner rfl _ rfl _ _ rfl _ rfl (X2.out _ HO.out.bl) ?_)
        have l2 := HO.out.newAt V1.heap.size rfl (.int .i64 (yb 0)) [.int .i64 (yb 1), .int .i64 (yb 2), .int .i64 (yb 3), .int .i64 (yb 4), .int .i64 (yb 5), .int .i64 (yb 6), .int .i64 (yb 7), .int .i64 (yb 8), .int .i64 (yb 9)] 26
        clear HO
        have HO := Lib.hid l2
        clear l2
        generalize hV : World.alloc _ _ = V2 at *
        clear hV
        generalize V1.heap.size = p8 at *
        clear X1 X2
        refine Rg.region (I := fun _ W => Rp w W u5 xs [(p8, [.int .i64 (yb 0), .int .i64 (yb 1), .int .i64 (yb 2), .int .i64 (yb 3), .int .i64 (yb 4), .int .i64 (yb 5), .int .i64 (yb 6), .int .i64 (yb 7), .int .i64 (yb 8), .int .i64 (yb 9)]), (p7, [.int .i64 (ya 0), .int .i64 (ya 1), .int .i64 (ya 2), .int .i64 (ya 3), .int .i64 (ya 4), .int .i64 (ya 5), .int .i64 (ya 6), .int .i64 (ya 7), .int .i64 (ya 8), .int .i64 (ya 9)])]) (dem := fun _ => false) (m := 8) (g := 0) (T := fun listed bs st => ∀ W, Rp w W u5 xs [(p8, [.int .i64 (yb 0), .int .i64 (yb 1), .int .i64 (yb 2), .int .i64 (yb 3), .int .i64 (yb 4), .int .i64 (yb 5), .int .i64 (yb 6), .int .i64 (yb 7), .int .i64 (yb 8), .int .i64 (yb 9)]), (p7, [.int .i64 (ya 0), .int .i64 (ya 1), .int .i64 (ya 2), .int .i64 (ya 3), .int .i64 (ya 4), .int .i64 (ya 5), .int .i64 (ya 6), .int .i64 (ya 7), .int .i64 (ya 8), .int .i64 (ya 9)])] → wpAny Try.prog .any _ _ 0 listed st W) (by kernel_rfl) HO.out.drew rfl (fun _ _ _ _ h hI => h _ hI) ?_
        clear HO
        refine Rg.take 0 (v := .int .i64 k) rfl rfl (by kernel_rfl) (by kernel_rfl) (by kernel_rfl) (by kernel_rfl) (by kernel_rfl) (.inl ⟨rfl, fun bs wq hI => ?_⟩) ?_
        · go_simp
        simp only [Act.put, List.getElem_toArray, List.getElem_cons_zero, List.getElem_cons_succ, List.setIfInBounds_toArray, List.set_cons_zero, List.set_cons_succ]
        refine Rg.take 1 (v := .agg #[.int .i64 (ya 0), .int .i64 (ya 1), .int .i64 (ya 2), .int .i64 (ya 3), .int .i64 (ya 4), .int .i64 (ya 5), .int .i64 (ya 6), .int .i64 (ya 7), .int .i64 (ya 8), .int .i64 (ya 9)]) rfl rfl (by kernel_rfl) (by kernel_rfl) (by kernel_rfl) (by kernel_rfl) (by kernel_rfl) (.inl ⟨rfl, fun bs wq hI => ?_⟩) ?_
        · exact quiet_ldr ty_corner (.tmp 7) rfl rfl rfl (hI.at 1 rfl)
        simp only [Act.put, List.getElem_toArray, List.getElem_cons_zero, List.getElem_cons_succ, List.setIfInBounds_toArray, List.set_cons_zero, List.set_cons_succ]
        refine Rg.take 2 (v := .bool true) rfl rfl (by kernel_rfl) (by kernel_rfl) (by kernel_rfl) (by kernel_rfl) (by kernel_rfl) (.inl ⟨rfl, fun bs wq hI => ?_⟩) ?_
        · (go_simp; exact (N1 _).mono fun e w2 h => ⟨h.1, hI.call h.2⟩)
        simp only [Act.put, List.getElem_toArray, List.getElem_cons_zero, List.getElem_cons_succ, List.setIfInBounds_toArray, List.set_cons_zero, List.set_cons_succ]
        refine Rg.take 3 (v := .int .i64 k) rfl rfl (by kernel_rfl) (by kernel_rfl) (by kernel_rfl) (by kernel_rfl) (by kernel_rfl) (.inl ⟨rfl, fun bs wq hI => ?_⟩) ?_
        · go_simp
        simp only [Act.put, List.getElem_toArray, List.getElem_cons_zero, List.getElem_cons_succ, List.setIfInBounds_toArray, List.set_cons_zero, List.set_cons_succ]
        refine Rg.take 4 (v := .agg #[.int .i64 (yb 0), .int .i64 (yb 1), .int .i64 (yb 2), .int .i64 (yb 3), .int .i64 (yb 4), .int .i64 (yb 5), .int .i64 (yb 6), .int .i64 (yb 7), .int .i64 (yb 8), .int .i64 (yb 9)]) rfl rfl (by kernel_rfl) (by kernel_rfl) (by kernel_rfl) (by kernel_rfl) (by kernel_rfl) (.inl ⟨rfl, fun bs wq hI => ?_⟩) ?_
        · exact quiet_ldr ty_corner (.tmp 8) rfl rfl rfl (hI.at 0 rfl)
        simp only [Act.put, List.getElem_toArray, List.getElem_cons_zero, List.getElem_cons_succ, List.setIfInBounds_toArray, List.set_cons_zero, List.set_cons_succ]
        refine Rg.take 5 (v := .bool false) rfl rfl (by kernel_rfl) (by kernel_rfl) (by kernel_rfl) (by kernel_rfl) (by kernel_rfl) (.inl ⟨rfl, fun bs wq hI => ?_⟩) ?_
        · (go_simp; exact (N2 _).mono fun e w2 h => ⟨h.1, hI.call h.2⟩)
        simp only [Act.put, List.getElem_toArray, List.getElem_cons_zero, List.getElem_cons_succ, List.setIfInBounds_toArray, List.set_cons_zero, List.set_cons_succ]
        refine Rg.take 6 (v := .bool true) rfl rfl (by kernel_rfl) (by kernel_rfl) (by kernel_rfl) (by kernel_rfl) (by kernel_rfl) (.inl ⟨rfl, fun bs wq hI => ?_⟩) ?_
        · go_simp
        simp only [Act.put, List.getElem_toArray, List.getElem_cons_zero, List.getElem_cons_succ, List.setIfInBounds_toArray, List.set_cons_zero, List.set_cons_succ]
        refine Rg.take 7 (v := .bool false) rfl rfl (by kernel_rfl) (by kernel_rfl) (by kernel_rfl) (by kernel_rfl) (by kernel_rfl) (.inl ⟨rfl, fun bs wq hI => ?_⟩) ?_
        · go_simp
        simp only [Act.put, List.getElem_toArray, List.getElem_cons_zero, List.getElem_cons_succ, List.setIfInBounds_toArray, List.set_cons_zero, List.set_cons_succ]
        refine Rg.done (rs := []) (by kernel_rfl) (by decide) (fun W hI => ?_)
        have HO := Lib.hid hI
        clear hI
        refine wpAny_done (by kernel_rfl) ?_ _
        clear N1 N2
        have K1 : Hid (xs.length + 1 ≤ maxLen) := Lib.hid (by have := HB.out; (try simp only [List.length_append, List.length_cons, List.length_nil]); unfold maxLen; omega)
        have K2 : Hid ((xs.length + 1) * 80 ≤ 140737488355328) := Lib.hid (by have := HB.out; (try simp only [List.length_append, List.length_cons, List.length_nil]); omega)
        have K3 : Hid (w.heap.size ≤ W.heap.size) := Lib.hid HO.out.bl.size
        go_wp2_with (first | go_big_skip | ((with_reducible show wpList _ _ _ ({ dst := _, op := Op.load 26 (Operand.tmp 7), type := _, pos := _, after := _, guard := _ } :: _) _ _); refine wpList_ldr ty_corner rfl _ rfl _ rfl _ rfl (HO.out.at 1 rfl) ?_) | (at_builtin; refine wpList_append_lies _ rfl (.tmp 33) (.tmp 35) 37 rfl w.heap.size 26 i0 _ 10 80 Try.underlying37 hi0 hz0 hz1 hz3 rfl (by decide) _ _ _ rfl (HO.out.own.alloc _) ⟨W.heap.size, 0, none⟩ 1 1 [.int .i64 (ya 0), .int .i64 (ya 1), .int .i64 (ya 2), .int .i64 (ya 3), .int .i64 (ya 4), .int .i64 (ya 5), .int .i64 (ya 6), .int .i64 (ya 7), .int .i64 (ya 8), .int .i64 (ya 9)] rfl rfl (news10 _ ya _) (one10 ya) (by decide) K1.out K2.out (Nat.le_trans K3.out (by simp)) (W.heap.size + 1) (by simp) ?_))
        intro g cap w4 h1 h2 h3 h4
        have l2 := HO.out.putN (c := ya) (n := xs.length) (by simp) h1 h2 h3
        clear HO h1 h2 h3 h4 K1 K2 K3
        have HO := Lib.hid l2
        clear l2
        have K1 : Hid ((xs ++ [ya]).length + 1 ≤ maxLen) := Lib.hid (by have := HB.out; (try simp only [List.length_append, List.length_cons, List.length_nil]); unfold maxLen; omega)
        have K2 : Hid (((xs ++ [ya]).length + 1) * 80 ≤ 140737488355328) := Lib.hid (by have := HB.out; (try simp only [List.length_append, List.length_cons, List.length_nil]); omega)
        go_wp2_with (first | go_big_skip | ((with_reducible show wpList _ _ _ ({ dst := _, op := Op.load 26 (Operand.tmp 7), type := _, pos := _, after := _, guard := _ } :: _) _ _); refine wpList_ldr ty_corner rfl _ rfl _ rfl _ rfl (HO.out.at 1 rfl) ?_) | ((with_reducible show wpList _ _ _ ({ dst := _, op := Op.load 26 (Operand.tmp 8), type := _, pos := _, after := _, guard := _ } :: _) _ _); refine wpList_ldr ty_corner rfl _ rfl _ rfl _ rfl (HO.out.at 0 rfl) ?_) | (go_at_call 22; (with_reducible refine (C1 _).mono ?_); rintro e wz ⟨rfl, hk1⟩; have l2 := HO.out.call hk1; clear HO hk1; have HO := Lib.hid l2; clear l2; have K3 : Hid (w.heap.size ≤ wz.heap.size) := Lib.hid HO.out.bl.size) | (at_builtin; refine wpList_append_lies _ rfl (.tmp 42) (.tmp 47) 37 rfl w.heap.size 26 i0 _ 10 80 Try.underlying37 hi0 hz0 hz1 hz3 rfl (by decide) _ _ _ rfl (HO.out.own.alloc _) ⟨wz.heap.size, 0, none⟩ 1 1 [.int .i64 (yc 0), .int .i64 (yc 1), .int .i64 (yc 2), .int .i64 (yc 3), .int .i64 (yc 4), .int .i64 (yc 5), .int .i64 (yc 6), .int .i64 (yc 7), .int .i64 (yc 8), .int .i64 (yc 9)] rfl rfl (news10 _ yc _) (one10 yc) (by decide) K1.out K2.out (Nat.le_trans K3.out (by simp)) (wz.heap.size + 1) (by simp) ?_))
        intro g cap w4 h1 h2 h3 h4
        have l2 := HO.out.putN (c := yc) (n := xs.length + 1) (by simp) h1 h2 h3
        clear HO h1 h2 h3 h4 K1 K2 K3
        have HO := Lib.hid l2
        clear l2
        clear HB
        go_wp2_with go_big_skip
        go_roundw
        case rel => exact ⟨j + 1, by omega, by go_num, by rw [HX.out]; exact HO.out.drop (fun q hq => by cases hq)⟩
        case measure => simp [msrS, intOf]; omega
      · skip
        have hnx : Cl.upto k l (j + 1) = xs ++ [ya] := by rw [hnext]; unfold Cl.own Cl.cross; rw [ha, hb]; simp
        rw [ha] at N1
        rw [hb] at N2
        have HX := Lib.hid hnx
        clear hnx hnext ha hb hma hmb
        go_upto_region 5 with ((with_reducible show wpList _ _ _ ({ dst := _, op := Op.load 26 (Operand.tmp 16), type := _, pos := _, after := _, guard := _ } :: _) _ _); refine wpList_ldm ty_corner rfl _ rfl _ _ rfl _ rfl (X1.out _ HO.out.bl) ?_)
        have l2 := HO.out.newAt wr.heap.size rfl (.int .i64 (ya 0)) [.int .i64 (ya 1), .int .i64 (ya 2), .int .i64 (ya 3), .int .i64 (ya 4), .int .i64 (ya 5), .int .i64 (ya 6), .int .i64 (ya 7), .int .i64 (ya 8), .int .i64 (ya 9)] 26
        clear HO
        have HO := Lib.hid l2
        clear l2
        generalize hV : World.alloc _ _ = V1 at *
        clear hV
        generalize wr.heap.size = p7 at *
        go_upto_region 6 with ((with_reducible show wpList _ _ _ ({ dst := _, op := Op.load 26 (Operand.tmp 24), type := _, pos := _, after := _, guard := _ } :: _) _ _); refine wpList_ldm ty_corner rfl _ rfl _ _ rfl _ rfl (X2.out _ HO.out.bl) ?_)
        have l2 := HO.out.newAt V1.heap.size rfl (.int .i64 (yb 0)) [.int .i64 (yb 1), .int .i64 (yb 2), .int .i64 (yb 3), .int .i64 (yb 4), .int .i64 (yb 5), .int .i64 (yb 6), .int .i64 (yb 7), .int .i64 (yb 8), .int .i64 (yb 9)] 26
        clear HO
        have HO := Lib.hid l2
        clear l2
        generalize hV : World.alloc _ _ = V2 at *
        clear hV
        generalize V1.heap.size = p8 at *
        clear X1 X2
        refine Rg.region (I := fun _ W => Rp w W u5 xs [(p8, [.int .i64 (yb 0), .int .i64 (yb 1), .int .i64 (yb 2), .int .i64 (yb 3), .int .i64 (yb 4), .int .i64 (yb 5), .int .i64 (yb 6), .int .i64 (yb 7), .int .i64 (yb 8), .int .i64 (yb 9)]), (p7, [.int .i64 (ya 0), .int .i64 (ya 1), .int .i64 (ya 2), .int .i64 (ya 3), .int .i64 (ya 4), .int .i64 (ya 5), .int .i64 (ya 6), .int .i64 (ya 7), .int .i64 (ya 8), .int .i64 (ya 9)])]) (dem := fun _ => false) (m := 8) (g := 0) (T := fun listed bs st => ∀ W, Rp w W u5 xs [(p8, [.int .i64 (yb 0), .int .i64 (yb 1), .int .i64 (yb 2), .int .i64 (yb 3), .int .i64 (yb 4), .int .i64 (yb 5), .int .i64 (yb 6), .int .i64 (yb 7), .int .i64 (yb 8), .int .i64 (yb 9)]), (p7, [.int .i64 (ya 0), .int .i64 (ya 1), .int .i64 (ya 2), .int .i64 (ya 3), .int .i64 (ya 4), .int .i64 (ya 5), .int .i64 (ya 6), .int .i64 (ya 7), .int .i64 (ya 8), .int .i64 (ya 9)])] → wpAny Try.prog .any _ _ 0 listed st W) (by kernel_rfl) HO.out.drew rfl (fun _ _ _ _ h hI => h _ hI) ?_
        clear HO
        refine Rg.take 0 (v := .int .i64 k) rfl rfl (by kernel_rfl) (by kernel_rfl) (by kernel_rfl) (by kernel_rfl) (by kernel_rfl) (.inl ⟨rfl, fun bs wq hI => ?_⟩) ?_
        · go_simp
        simp only [Act.put, List.getElem_toArray, List.getElem_cons_zero, List.getElem_cons_succ, List.setIfInBounds_toArray, List.set_cons_zero, List.set_cons_succ]
        refine Rg.take 1 (v := .agg #[.int .i64 (ya 0), .int .i64 (ya 1), .int .i64 (ya 2), .int .i64 (ya 3), .int .i64 (ya 4), .int .i64 (ya 5), .int .i64 (ya 6), .int .i64 (ya 7), .int .i64 (ya 8), .int .i64 (ya 9)]) rfl rfl (by kernel_rfl) (by kernel_rfl) (by kernel_rfl) (by kernel_rfl) (by kernel_rfl) (.inl ⟨rfl, fun bs wq hI => ?_⟩) ?_
        · exact quiet_ldr ty_corner (.tmp 7) rfl rfl rfl (hI.at 1 rfl)
        simp only [Act.put, List.getElem_toArray, List.getElem_cons_zero, List.getElem_cons_succ, List.setIfInBounds_toArray, List.set_cons_zero, List.set_cons_succ]
        refine Rg.take 2 (v := .bool true) rfl rfl (by kernel_rfl) (by kernel_rfl) (by kernel_rfl) (by kernel_rfl) (by kernel_rfl) (.inl ⟨rfl, fun bs wq hI => ?_⟩) ?_
        · (go_simp; exact (N1 _).mono fun e w2 h => ⟨h.1, hI.call h.2⟩)
        simp only [Act.put, List.getElem_toArray, List.getElem_cons_zero, List.getElem_cons_succ, List.setIfInBounds_toArray, List.set_cons_zero, List.set_cons_succ]
        refine Rg.take 3 (v := .int .i64 k) rfl rfl (by kernel_rfl) (by kernel_rfl) (by kernel_rfl) (by kernel_rfl) (by kernel_rfl) (.inl ⟨rfl, fun bs wq hI => ?_⟩) ?_
        · go_simp
        simp only [Act.put, List.getElem_toArray, List.getElem_cons_zero, List.getElem_cons_succ, List.setIfInBounds_toArray, List.set_cons_zero, List.set_cons_succ]
        refine Rg.take 4 (v := .agg #[.int .i64 (yb 0), .int .i64 (yb 1), .int .i64 (yb 2), .int .i64 (yb 3), .int .i64 (yb 4), .int .i64 (yb 5), .int .i64 (yb 6), .int .i64 (yb 7), .int .i64 (yb 8), .int .i64 (yb 9)]) rfl rfl (by kernel_rfl) (by kernel_rfl) (by kernel_rfl) (by kernel_rfl) (by kernel_rfl) (.inl ⟨rfl, fun bs wq hI => ?_⟩) ?_
        · exact quiet_ldr ty_corner (.tmp 8) rfl rfl rfl (hI.at 0 rfl)
        simp only [Act.put, List.getElem_toArray, List.getElem_cons_zero, List.getElem_cons_succ, List.setIfInBounds_toArray, List.set_cons_zero, List.set_cons_succ]
        refine Rg.take 5 (v := .bool true) rfl rfl (by kernel_rfl) (by kernel_rfl) (by kernel_rfl) (by kernel_rfl) (by kernel_rfl) (.inl ⟨rfl, fun bs wq hI => ?_⟩) ?_
        · (go_simp; exact (N2 _).mono fun e w2 h => ⟨h.1, hI.call h.2⟩)
        simp only [Act.put, List.getElem_toArray, List.getElem_cons_zero, List.getElem_cons_succ, List.setIfInBounds_toArray, List.set_cons_zero, List.set_cons_succ]
        refine Rg.take 6 (v := .bool true) rfl rfl (by kernel_rfl) (by kernel_rfl) (by kernel_rfl) (by kernel_rfl) (by kernel_rfl) (.inl ⟨rfl, fun bs wq hI => ?_⟩) ?_
        · go_simp
        simp only [Act.put, List.getElem_toArray, List.getElem_cons_zero, List.getElem_cons_succ, List.setIfInBounds_toArray, List.set_cons_zero, List.set_cons_succ]
        refine Rg.take 7 (v := .bool true) rfl rfl (by kernel_rfl) (by kernel_rfl) (by kernel_rfl) (by kernel_rfl) (by kernel_rfl) (.inl ⟨rfl, fun bs wq hI => ?_⟩) ?_
        · go_simp
        simp only [Act.put, List.getElem_toArray, List.getElem_cons_zero, List.getElem_cons_succ, List.setIfInBounds_toArray, List.set_cons_zero, List.set_cons_succ]
        refine Rg.done (rs := []) (by kernel_rfl) (by decide) (fun W hI => ?_)
        have HO := Lib.hid hI
        clear hI
        refine wpAny_done (by kernel_rfl) ?_ _
        clear N1 N2
        have K1 : Hid (xs.length + 1 ≤ maxLen) := Lib.hid (by have := HB.out; (try simp only [List.length_append, List.length_cons, List.length_nil]); unfold maxLen; omega)
        have K2 : Hid ((xs.length + 1) * 80 ≤ 140737488355328) := Lib.hid (by have := HB.out; (try simp only [List.length_append, List.length_cons, List.length_nil]); omega)
        have K3 : Hid (w.heap.size ≤ W.heap.size) := Lib.hid HO.out.bl.size
        go_wp2_with (first | go_big_skip | ((with_reducible show wpList _ _ _ ({ dst := _, op := Op.load 26 (Operand.tmp 7), type := _, pos := _, after := _, guard := _ } :: _) _ _); refine wpList_ldr ty_corner rfl _ rfl _ rfl _ rfl (HO.out.at 1 rfl) ?_) | (at_builtin; refine wpList_append_lies _ rfl (.tmp 33) (.tmp 35) 37 rfl w.heap.size 26 i0 _ 10 80 Try.underlying37 hi0 hz0 hz1 hz3 rfl (by decide) _ _ _ rfl (HO.out.own.alloc _) ⟨W.heap.size, 0, none⟩ 1 1 [.int .i64 (ya 0), .int .i64 (ya 1), .int .i64 (ya 2), .int .i64 (ya 3), .int .i64 (ya 4), .int .i64 (ya 5), .int .i64 (ya 6), .int .i64 (ya 7), .int .i64 (ya 8), .int .i64 (ya 9)] rfl rfl (news10 _ ya _) (one10 ya) (by decide) K1.out K2.out (Nat.le_trans K3.out (by simp)) (W.heap.size + 1) (by simp) ?_))
        intro g cap w4 h1 h2 h3 h4
        have l2 := HO.out.putN (c := ya) (n := xs.length) (by simp) h1 h2 h3
        clear HO h1 h2 h3 h4 K1 K2 K3
        have HO := Lib.hid l2
        clear l2
        clear HB
        go_wp2_with go_big_skip
        go_roundw
        case rel => exact ⟨j + 1, by omega, by go_num, by rw [HX.out]; exact HO.out.drop (fun q hq => by cases hq)⟩
        case measure => simp [msrS, intOf]; omega
    · have z1 : decide ((j : Int) < (l.length : Int)) = false := decide_eq_false (by omega)
      obtain rfl : j = l.length := by omega
      go_wp2
      go_ret
      exact ⟨_, rfl, Sp.of_own HO.out.own, HO.out.bl⟩
end Go.Proofs.Ytfhlnldiljldcaa
