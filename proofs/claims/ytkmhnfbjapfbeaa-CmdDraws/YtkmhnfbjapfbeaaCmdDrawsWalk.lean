/-
  CmdDraws: its Go text returns true.
-/
import Derived.Test.YtkmhnfbjapfbeaaCmdDrawsL
import Derived.Test.YtkmhnfbjapfbeaaCmdDrawsN
import Derived.Test.YtkmhnfbjapfbeaaCmdAwake
import Derived.Test.YtkmhnfbjapfbeaaCmdEq
import Derived.BigGuard
namespace Go.Proofs.Ytkmhnfbjapfbeaa
open Go.RowKit

set_option linter.unusedSimpArgs false in
set_option maxRecDepth 100000 in
set_option maxHeartbeats 8000000 in
theorem draws_many (n : Nat) (a : Option Addr) (cap : Nat) (w : World) (h : 20 < n) :
    Calls Try.prog 5 #[.slice a n cap] w fun e w' => e = .returned (.bool true) ∧ Below w.heap.size w w' := by
  have z0 : decide (20 < (n : Int)) = true := decide_eq_true (by omega)
  have z1 : 20 < (n : Int) := by omega
  have HO := Lib.hid (Ow.refl w)
  go_enter Try.func5, Try.ntmps5
  go_wp2_with (first
    | go_big_skip
    | (go_at_call 7; refine (awake_any _).mono ?_; rintro e wz ⟨rfl, hk1⟩; have l2 := HO.out.call hk1; clear HO hk1; have HO := Lib.hid l2; clear l2))
  go_ret
  exact ⟨rfl, HO.out.k.below⟩
theorem one1K (x : Value) (h : x.oneCell' = true) : ∀ u ∈ [x], u.oneCell' = true := by
  intro u hu
  rw [List.mem_singleton] at hu
  rw [hu]; exact h
theorem Sl.nextBK {w w' : World} {v : Value} {xs : List Value} (h : Sl w v xs) (hb : Below w.heap.size w w') : Sl w' v xs := by
  obtain ⟨a, c, h1, h2, h3⟩ := h
  refine ⟨a, c, h1, h2, fun j x hj => ?_⟩
  obtain ⟨b, o, e1, e2, e3⟩ := h3 j x hj
  exact ⟨b, o, e1, Nat.lt_of_lt_of_le e2 hb.size, (hb.cell (p := ⟨b, o + j, none⟩) e2).trans e3⟩
set_option linter.unusedSimpArgs false in
set_option maxRecDepth 100000 in
set_option maxHeartbeats 8000000 in
theorem draws_few (L : List Cm.Rw) (v : Value) (w : World) (hv : Ro.Sp Cm.Rw.cs 8 w v L) (hk : ∀ r ∈ L, r.ok w) (hn : L.length ≤ 20) :
    Calls Try.prog 5 #[v] w fun e w' => e = .returned (.bool true) ∧ Below w.heap.size w w' := by
  obtain ⟨ad, cap, rfl, hcap, hx⟩ := hv.each
  have HX := Lib.hid hx
  have HK := Lib.hid hk
  have z0 : decide (20 < (L.length : Int)) = false := decide_eq_false (by omega)
  have l1 : (L.length : Int) ≤ 20 := by omega
  obtain ⟨i0, hi0, hz0, hz1, hz3⟩ := infoDraw
  obtain ⟨i1, hi1, hy0, hy1, hy3⟩ := infoBox
  clear hv hx hk hcap
  go_enter Try.func5, Try.ntmps5
  go_wp2
  go_loopw [3, 4, 5, 6] (fun t3 t4 t5 t6 wr => ∃ (j : Nat) (xs : List Value), j ≤ L.length ∧ xs.length = j ∧ t6 = .int .i64 j ∧ t5 = .bool ((L.take j).all Cm.Rw.is) ∧ Cm.Bxs xs L ∧ Ro.Rp 30 (fun x : Value => [x]) 1 w wr t3 xs [] ∧ Ro.Rp 49 Cm.dr 4 w wr t4 ((L.take j).map Cm.Rw.dr) [] ∧ ∀ k, t3.ownBlock = some k → t4.ownBlock ≠ some k) (fun _ _ _ i _ => Cm.ms L.length i)
  case atStart => exact ⟨0, [], by omega, rfl, rfl, rfl, (fun k hk => by simp at hk), Ro.Rp.start (Ow.refl w), Ro.Rp.start (Ow.refl w), fun k e => by simp [Value.ownBlock] at e⟩
  case round =>
    obtain ⟨j, xs, hj, rfl, rfl, h5, hbx, h3, h4, hap⟩ := hrel
    have HB := Lib.hid h3.bl
    by_cases hlt : xs.length < L.length
    · subst h5
      have z1 : decide ((xs.length : Int) < (L.length : Int)) = true := decide_eq_true (by omega)
      have z2 : (xs.length : Int) < (L.length : Int) := by omega
      obtain ⟨b1, o1, e1, x1⟩ := HX.out xs.length hlt
      have hok := HK.out L[xs.length] (List.getElem_mem hlt)
      have hall := Cm.all_next Cm.Rw.is hlt
      have hmap := Cm.map_next Cm.Rw.dr hlt
      have hbn : ∀ x, Cm.Bx x L[xs.length].is L[xs.length].dr → Cm.Bxs (xs ++ [x]) L := fun x hx => hbx.next (fun _ => hx)
      have hdl : ((L.take xs.length).map Cm.Rw.dr).length = xs.length := by rw [List.length_map, List.length_take]; omega
      generalize L[xs.length] = r at *
      generalize (L.take xs.length).map Cm.Rw.dr = ds at *
      generalize (L.take xs.length).all Cm.Rw.is = on at *
      obtain ⟨o, h, a, b, c, d, v, u, l, s⟩ := r
      have hS : Sl wr v (iv l) := hok.1.nextBK HB.out
      have hV : Ro.Sp Cm.vt 9 wr u s := hok.2.nextB HB.out
      obtain ⟨a1, c1, rfl, -, -⟩ := hS.keptN
      obtain ⟨a2, c2, rfl, -, -⟩ := hV.each
      have X1 : Hid (∀ U, Below w.heap.size w U → U.rangeAt b1 (o1 + xs.length * 8) [.int .i64 o, .int .i64 h, .int .i64 a, .int .i64 b, .int .i64 c, .int .i64 d, .slice a1 l.length c1, .slice a2 s.length c2]) := Lib.hid x1
      have HALL := Lib.hid hall
      have HMAP := Lib.hid hmap
      have HBN := Lib.hid hbn
      have HSl := Lib.hid hS
      have HSp := Lib.hid hV
      have HR3 := Lib.hid h3
      have HR4 := Lib.hid h4
      have HAP := Lib.hid hap
      have HDL := Lib.hid hdl
      have HO := Lib.hid (Ow.refl wr)
      have LT := fun W => light_any o h a b c d a1 a2 l.length c1 s.length c2 W
      clear hok hall hmap hbn hS hV x1 h3 h4 hap hbx hdl
      subst e1
      cases hb : (decide ((l.length : Int) ≤ 5000) && decide ((s.length : Int) ≤ 1100))
      · rw [hb] at LT
        clear hb
        go_wp2_with (first
          | go_big_skip
          | ((with_reducible show wpList _ _ _ ({ dst := _, op := Op.load 25 (Operand.tmp 27), type := _, pos := _, after := _, guard := _ } :: _) _ _); refine wpList_ldm ty_cmd rfl _ rfl _ _ rfl _ rfl (X1.out _ (HB.out.trans (HO.out.k.below.mono HB.out.size))) ?_)
          | (go_at_call 6; with_reducible refine (LT _).mono ?_; rintro e wz ⟨rfl, hk1⟩; have l2 := HO.out.call hk1; clear HO hk1; have HO := Lib.hid l2; clear l2)
          | (go_at_call 7; refine (awake_any _).mono ?_; rintro e wz ⟨rfl, hk1⟩; have l2 := HO.out.call hk1; clear HO hk1; have HO := Lib.hid l2; clear l2))
        go_ret
        exact ⟨rfl, (HB.out.trans (HO.out.k.below.mono HB.out.size))⟩
      · rw [hb] at LT
        rw [Bool.and_eq_true, decide_eq_true_eq, decide_eq_true_eq] at hb
        have HL5 : Hid (l.length ≤ 5000) := Lib.hid (by omega)
        have HN5 : Hid (s.length ≤ 5000) := Lib.hid (by omega)
        clear hb
        by_cases ho : o = 14
        · skip
          subst ho
          go_upto_region 12 with (first
            | ((with_reducible show wpList _ _ _ ({ dst := _, op := Op.load 25 (Operand.tmp 27), type := _, pos := _, after := _, guard := _ } :: _) _ _); refine wpList_ldm ty_cmd rfl _ rfl _ _ rfl _ rfl (X1.out _ (HB.out.trans (HO.out.k.below.mono HB.out.size))) ?_)
            | ((with_reducible show wpList _ _ _ ({ dst := _, op := Op.load 25 (Operand.tmp 35), type := _, pos := _, after := _, guard := _ } :: _) _ _); refine wpList_ldm ty_cmd rfl _ rfl _ _ rfl _ rfl (X1.out _ (HB.out.trans (HO.out.k.below.mono HB.out.size))) ?_)
            | (go_at_call 6; with_reducible refine (LT _).mono ?_; rintro e wz ⟨rfl, hk1⟩; have l2 := HO.out.call hk1; clear HO hk1; have HO := Lib.hid l2; clear l2)
            | (go_at_call 9; refine (of_bx _ h a b c d _ _ l s _ (HSl.out.next HO.out.k) (HSp.out.next HO.out.k) HL5.out HN5.out).mono ?_; rintro e w2 ⟨x, er, rfl, hB, hk1⟩; have HBx := Lib.hid hB; have l2 := HO.out.call hk1; clear HO hk1 hB; have HO := Lib.hid l2; clear l2))
          have hB : Cm.Bx x true (Cm.of4 h a b c) := by have := HBx.out; simpa using this
          have AD : ∀ W, Calls Try.prog 13 #[x] W fun e w' => e = .returned (.tuple #[.agg #[.int .i64 h, .int .i64 a, .int .i64 b, .int .i64 c], .bool true]) ∧ Kp W.heap.size W w' := fun W => asd_any hB W
          have HBY : Hid (Cm.Bxs (xs ++ [x]) L) := Lib.hid (HBN.out x (by simpa [Cm.Rw.is, Cm.Rw.dr] using hB))
          have hsh := hB.shape
          clear HBx hB HBN LT
          go_wp2_with (first
            | go_big_skip
            | (go_at_call 13; refine (AD _).mono ?_; rintro e w3 ⟨rfl, hk1⟩; have l2 := ((HO.out.call hk1).newAt (w3.heap.size) rfl (.int .i64 h) [.int .i64 a, .int .i64 b, .int .i64 c] 49).newAt (w3.heap.size + 1) (by simp) (.int .i64 0) [.int .i64 0, .int .i64 0, .int .i64 0] 49; clear HO hk1; have HO := Lib.hid l2; clear l2)
            | ((with_reducible show wpList _ _ _ ({ dst := _, op := Op.load 3 (Operand.tmp 49), type := _, pos := _, after := _, guard := _ } :: _) _ _); refine wpList_ldx rfl (ad := ⟨b1, o1 + xs.length * 8, none⟩) (.int .i64 14) (by simpa using X1.out _ (HB.out.trans (HO.out.k.below.mono HB.out.size)) 0 _ rfl) (fun cc K hK => by go_simp; exact hK) ?_))
          refine Rg2.region (σ := List (Nat × List Value)) (I := Rg2.Io wr [(w3.heap.size, [.int .i64 h, .int .i64 a, .int .i64 b, .int .i64 c])]) (mk := fun b sq => (b, [.int .i64 0, .int .i64 0, .int .i64 0, .int .i64 0]) :: sq) (dem := fun i => i == 21) (m := 22) (g := 0) (T := fun listed sq st => ∀ W, Rg2.Io wr [(w3.heap.size, [.int .i64 h, .int .i64 a, .int .i64 b, .int .i64 c])] sq W → wpAny Try.prog .any _ _ 0 listed st W) [(w3.heap.size + 1, [.int .i64 0, .int .i64 0, .int .i64 0, .int .i64 0])] (by kernel_rfl) (show Rg2.Io wr [(w3.heap.size, [.int .i64 h, .int .i64 a, .int .i64 b, .int .i64 c])] [(w3.heap.size + 1, [.int .i64 0, .int .i64 0, .int .i64 0, .int .i64 0])] _ from HO.out.drew) rfl (fun _ _ _ _ h hI => h _ hI) ?_
          clear HO
          refine Rg2.take 0 (v := .slice (some ⟨b1, o1, none⟩) L.length cap) rfl rfl (by kernel_rfl) (by kernel_rfl) (by kernel_rfl) (by kernel_rfl) (by kernel_rfl) (.inl ⟨rfl, fun bs wq hI => ?_⟩) ?_
          · go_simp
          simp only [Act.put, List.getElem_toArray, List.getElem_cons_zero, List.getElem_cons_succ, List.setIfInBounds_toArray, List.set_cons_zero, List.set_cons_succ]
          refine Rg2.take 1 (v := .int .i64 ((xs.length : Int))) rfl rfl (by kernel_rfl) (by kernel_rfl) (by kernel_rfl) (by kernel_rfl) (by kernel_rfl) (.inl ⟨rfl, fun bs wq hI => ?_⟩) ?_
          · go_simp
          simp only [Act.put, List.getElem_toArray, List.getElem_cons_zero, List.getElem_cons_succ, List.setIfInBounds_toArray, List.set_cons_zero, List.set_cons_succ]
          refine Rg2.take 2 (v := .pointer (some ⟨b1, o1 + xs.length * 8, none⟩)) rfl rfl (by kernel_rfl) (by kernel_rfl) (by kernel_rfl) (by kernel_rfl) (by kernel_rfl) (.inl ⟨rfl, fun bs wq hI => ?_⟩) ?_
          · go_simp
          simp only [Act.put, List.getElem_toArray, List.getElem_cons_zero, List.getElem_cons_succ, List.setIfInBounds_toArray, List.set_cons_zero, List.set_cons_succ]
          refine Rg2.take 3 (v := .pointer (some ⟨b1, o1 + xs.length * 8 + 1, none⟩)) rfl rfl (by kernel_rfl) (by kernel_rfl) (by kernel_rfl) (by kernel_rfl) (by kernel_rfl) (.inl ⟨rfl, fun bs wq hI => ?_⟩) ?_
          · go_simp
          simp only [Act.put, List.getElem_toArray, List.getElem_cons_zero, List.getElem_cons_succ, List.setIfInBounds_toArray, List.set_cons_zero, List.set_cons_succ]
          refine Rg2.take 4 (v := .int .i64 h) rfl rfl (by kernel_rfl) (by kernel_rfl) (by kernel_rfl) (by kernel_rfl) (by kernel_rfl) (.inl ⟨rfl, fun bs wq hI => ?_⟩) ?_
          · (have hc := X1.out _ (HB.out.trans ((Ow.k hI).below.mono HB.out.size)) 1 _ rfl; go_simp)
          simp only [Act.put, List.getElem_toArray, List.getElem_cons_zero, List.getElem_cons_succ, List.setIfInBounds_toArray, List.set_cons_zero, List.set_cons_succ]
          refine Rg2.take 5 (v := .slice (some ⟨b1, o1, none⟩) L.length cap) rfl rfl (by kernel_rfl) (by kernel_rfl) (by kernel_rfl) (by kernel_rfl) (by kernel_rfl) (.inl ⟨rfl, fun bs wq hI => ?_⟩) ?_
          · go_simp
          simp only [Act.put, List.getElem_toArray, List.getElem_cons_zero, List.getElem_cons_succ, List.setIfInBounds_toArray, List.set_cons_zero, List.set_cons_succ]
          refine Rg2.take 6 (v := .int .i64 ((xs.length : Int))) rfl rfl (by kernel_rfl) (by kernel_rfl) (by kernel_rfl) (by kernel_rfl) (by kernel_rfl) (.inl ⟨rfl, fun bs wq hI => ?_⟩) ?_
          · go_simp
          simp only [Act.put, List.getElem_toArray, List.getElem_cons_zero, List.getElem_cons_succ, List.setIfInBounds_toArray, List.set_cons_zero, List.set_cons_succ]
          refine Rg2.take 7 (v := .pointer (some ⟨b1, o1 + xs.length * 8, none⟩)) rfl rfl (by kernel_rfl) (by kernel_rfl) (by kernel_rfl) (by kernel_rfl) (by kernel_rfl) (.inl ⟨rfl, fun bs wq hI => ?_⟩) ?_
          · go_simp
          simp only [Act.put, List.getElem_toArray, List.getElem_cons_zero, List.getElem_cons_succ, List.setIfInBounds_toArray, List.set_cons_zero, List.set_cons_succ]
          refine Rg2.take 8 (v := .pointer (some ⟨b1, o1 + xs.length * 8 + 2, none⟩)) rfl rfl (by kernel_rfl) (by kernel_rfl) (by kernel_rfl) (by kernel_rfl) (by kernel_rfl) (.inl ⟨rfl, fun bs wq hI => ?_⟩) ?_
          · go_simp
          simp only [Act.put, List.getElem_toArray, List.getElem_cons_zero, List.getElem_cons_succ, List.setIfInBounds_toArray, List.set_cons_zero, List.set_cons_succ]
          refine Rg2.take 9 (v := .int .i64 a) rfl rfl (by kernel_rfl) (by kernel_rfl) (by kernel_rfl) (by kernel_rfl) (by kernel_rfl) (.inl ⟨rfl, fun bs wq hI => ?_⟩) ?_
          · (have hc := X1.out _ (HB.out.trans ((Ow.k hI).below.mono HB.out.size)) 2 _ rfl; go_simp)
          simp only [Act.put, List.getElem_toArray, List.getElem_cons_zero, List.getElem_cons_succ, List.setIfInBounds_toArray, List.set_cons_zero, List.set_cons_succ]
          refine Rg2.take 10 (v := .slice (some ⟨b1, o1, none⟩) L.length cap) rfl rfl (by kernel_rfl) (by kernel_rfl) (by kernel_rfl) (by kernel_rfl) (by kernel_rfl) (.inl ⟨rfl, fun bs wq hI => ?_⟩) ?_
          · go_simp
          simp only [Act.put, List.getElem_toArray, List.getElem_cons_zero, List.getElem_cons_succ, List.setIfInBounds_toArray, List.set_cons_zero, List.set_cons_succ]
          refine Rg2.take 11 (v := .int .i64 ((xs.length : Int))) rfl rfl (by kernel_rfl) (by kernel_rfl) (by kernel_rfl) (by kernel_rfl) (by kernel_rfl) (.inl ⟨rfl, fun bs wq hI => ?_⟩) ?_
          · go_simp
          simp only [Act.put, List.getElem_toArray, List.getElem_cons_zero, List.getElem_cons_succ, List.setIfInBounds_toArray, List.set_cons_zero, List.set_cons_succ]
          refine Rg2.take 12 (v := .pointer (some ⟨b1, o1 + xs.length * 8, none⟩)) rfl rfl (by kernel_rfl) (by kernel_rfl) (by kernel_rfl) (by kernel_rfl) (by kernel_rfl) (.inl ⟨rfl, fun bs wq hI => ?_⟩) ?_
          · go_simp
          simp only [Act.put, List.getElem_toArray, List.getElem_cons_zero, List.getElem_cons_succ, List.setIfInBounds_toArray, List.set_cons_zero, List.set_cons_succ]
          refine Rg2.take 13 (v := .pointer (some ⟨b1, o1 + xs.length * 8 + 3, none⟩)) rfl rfl (by kernel_rfl) (by kernel_rfl) (by kernel_rfl) (by kernel_rfl) (by kernel_rfl) (.inl ⟨rfl, fun bs wq hI => ?_⟩) ?_
          · go_simp
          simp only [Act.put, List.getElem_toArray, List.getElem_cons_zero, List.getElem_cons_succ, List.setIfInBounds_toArray, List.set_cons_zero, List.set_cons_succ]
          refine Rg2.take 14 (v := .int .i64 b) rfl rfl (by kernel_rfl) (by kernel_rfl) (by kernel_rfl) (by kernel_rfl) (by kernel_rfl) (.inl ⟨rfl, fun bs wq hI => ?_⟩) ?_
          · (have hc := X1.out _ (HB.out.trans ((Ow.k hI).below.mono HB.out.size)) 3 _ rfl; go_simp)
          simp only [Act.put, List.getElem_toArray, List.getElem_cons_zero, List.getElem_cons_succ, List.setIfInBounds_toArray, List.set_cons_zero, List.set_cons_succ]
          refine Rg2.take 15 (v := .slice (some ⟨b1, o1, none⟩) L.length cap) rfl rfl (by kernel_rfl) (by kernel_rfl) (by kernel_rfl) (by kernel_rfl) (by kernel_rfl) (.inl ⟨rfl, fun bs wq hI => ?_⟩) ?_
          · go_simp
          simp only [Act.put, List.getElem_toArray, List.getElem_cons_zero, List.getElem_cons_succ, List.setIfInBounds_toArray, List.set_cons_zero, List.set_cons_succ]
          refine Rg2.take 16 (v := .int .i64 ((xs.length : Int))) rfl rfl (by kernel_rfl) (by kernel_rfl) (by kernel_rfl) (by kernel_rfl) (by kernel_rfl) (.inl ⟨rfl, fun bs wq hI => ?_⟩) ?_
          · go_simp
          simp only [Act.put, List.getElem_toArray, List.getElem_cons_zero, List.getElem_cons_succ, List.setIfInBounds_toArray, List.set_cons_zero, List.set_cons_succ]
          refine Rg2.take 17 (v := .pointer (some ⟨b1, o1 + xs.length * 8, none⟩)) rfl rfl (by kernel_rfl) (by kernel_rfl) (by kernel_rfl) (by kernel_rfl) (by kernel_rfl) (.inl ⟨rfl, fun bs wq hI => ?_⟩) ?_
          · go_simp
          simp only [Act.put, List.getElem_toArray, List.getElem_cons_zero, List.getElem_cons_succ, List.setIfInBounds_toArray, List.set_cons_zero, List.set_cons_succ]
          refine Rg2.take 18 (v := .pointer (some ⟨b1, o1 + xs.length * 8 + 4, none⟩)) rfl rfl (by kernel_rfl) (by kernel_rfl) (by kernel_rfl) (by kernel_rfl) (by kernel_rfl) (.inl ⟨rfl, fun bs wq hI => ?_⟩) ?_
          · go_simp
          simp only [Act.put, List.getElem_toArray, List.getElem_cons_zero, List.getElem_cons_succ, List.setIfInBounds_toArray, List.set_cons_zero, List.set_cons_succ]
          refine Rg2.take 19 (v := .int .i64 c) rfl rfl (by kernel_rfl) (by kernel_rfl) (by kernel_rfl) (by kernel_rfl) (by kernel_rfl) (.inl ⟨rfl, fun bs wq hI => ?_⟩) ?_
          · (have hc := X1.out _ (HB.out.trans ((Ow.k hI).below.mono HB.out.size)) 4 _ rfl; go_simp)
          simp only [Act.put, List.getElem_toArray, List.getElem_cons_zero, List.getElem_cons_succ, List.setIfInBounds_toArray, List.set_cons_zero, List.set_cons_succ]
          refine Rg2.take 20 (v := .agg #[.int .i64 h, .int .i64 a, .int .i64 b, .int .i64 c]) rfl rfl (by kernel_rfl) (by kernel_rfl) (by kernel_rfl) (by kernel_rfl) (by kernel_rfl) (.inl ⟨rfl, fun bs wq hI => ?_⟩) ?_
          · go_simp
          simp only [Act.put, List.getElem_toArray, List.getElem_cons_zero, List.getElem_cons_succ, List.setIfInBounds_toArray, List.set_cons_zero, List.set_cons_succ]
          refine Rg2.put1 21 (by kernel_rfl) rfl rfl (Rg2.puts_row ty_draw 0 [.int .i64 h, .int .i64 a, .int .i64 b, .int .i64 c] rfl _ _ rfl _ rfl rfl _ rfl rfl rfl rfl) ?_
          simp only [Act.put, List.getElem_toArray, List.getElem_cons_zero, List.getElem_cons_succ, List.setIfInBounds_toArray, List.set_cons_zero, List.set_cons_succ]
          refine Rg2.done (rs := []) (by kernel_rfl) (by decide) (fun W hI => ?_)
          have HO := Lib.hid (show Ow wr W [(w3.heap.size + 1, [.int .i64 h, .int .i64 a, .int .i64 b, .int .i64 c]), (w3.heap.size, [.int .i64 h, .int .i64 a, .int .i64 b, .int .i64 c])] from hI)
          clear hI
          refine wpAny_done (by kernel_rfl) ?_ _
          have hE := run_eqDraw h a b c
          cases on
          all_goals
            go_upto_region 19 with (first
              | go_big_skip
              | ((with_reducible show wpList _ _ _ ({ dst := _, op := Op.load 3 (Operand.tmp 77), type := _, pos := _, after := _, guard := _ } :: _) _ _); refine wpList_ldx rfl (ad := ⟨b1, o1 + xs.length * 8, none⟩) (.int .i64 14) (by simpa using X1.out _ (HB.out.trans (HO.out.k.below.mono HB.out.size)) 0 _ rfl) (fun cc K hK => by go_simp; exact hK) ?_)
              | ((with_reducible show wpList _ _ _ ({ dst := _, op := Op.load 49 (Operand.tmp 9), type := _, pos := _, after := _, guard := _ } :: _) _ _); refine wpList_ldr ty_draw rfl _ rfl _ rfl _ rfl (HO.out.at 1 rfl) ?_)
              | ((with_reducible show wpList _ _ _ ({ dst := _, op := Op.load 49 (Operand.tmp 11), type := _, pos := _, after := _, guard := _ } :: _) _ _); refine wpList_ldr ty_draw rfl _ rfl _ rfl _ rfl (HO.out.at 0 rfl) ?_))
            clear hE X1 AD
            generalize w3.heap.size = bq at *
            have R3 := Lib.hid (HR3.out.beside HO.out)
            have R4 := Lib.hid (HR4.out.beside HO.out)
            clear HR3 HR4 HO HB
            have K1 : Hid (xs.length + 1 ≤ maxLen) := Lib.hid (by unfold maxLen; omega)
            have K2 : Hid ((xs.length + 1) * 16 ≤ 140737488355328) := Lib.hid (by omega)
            have K3 : Hid (w.heap.size ≤ W.heap.size) := Lib.hid R3.out.bl.size
            have K5 : Hid ((ds.length + 1) ≤ maxLen) := Lib.hid (by have := HDL.out; unfold maxLen; omega)
            have K6 : Hid ((ds.length + 1) * 32 ≤ 140737488355328) := Lib.hid (by have := HDL.out; omega)
            rcases hsh with rfl | ⟨T, y, rfl⟩
            all_goals
              go_wp2_with (at_builtin; refine wpList_append_lies _ rfl (.tmp 90) (.tmp 92) 46 rfl w.heap.size 30 i1 _ 1 16 Try.underlying46 hi1 hy0 hy1 hy3 rfl (by decide) _ _ _ rfl (R3.out.own.alloc _) ⟨W.heap.size, 0, none⟩ 1 1 _ rfl rfl (news1K _ _ _) (one1K _ rfl) (by decide) K1.out K2.out (Nat.le_trans K3.out (by simp)) (W.heap.size + 1) (by simp) ?_)
              intro g1 cap1 w4 h1 h2 h3 h4
              obtain ⟨l3, l4, l5⟩ := R3.out.push2L R4.out HAP.out rfl h1 h2 h3
              clear R3 R4 HAP K1 K2 K3 h1 h2 h3 h4
              have R3 := Lib.hid l3
              have R4 := Lib.hid l4
              have HAP := Lib.hid (fun k e e2 => l5 k e2 e)
              have K3 : Hid (w.heap.size ≤ w4.heap.size) := Lib.hid l3.bl.size
              clear l3 l4 l5
              go_wp2_with (first
                | ((with_reducible show wpList _ _ _ ({ dst := _, op := Op.load 49 (Operand.tmp 9), type := _, pos := _, after := _, guard := _ } :: _) _ _); refine wpList_ldr ty_draw rfl _ rfl _ rfl _ rfl (Ro.Rp.at R4.out 1 rfl) ?_)
                | (at_builtin; refine wpList_append_lies _ rfl (.tmp 94) (.tmp 96) 47 rfl w.heap.size 49 i0 _ 4 32 Try.underlying47 hi0 hz0 hz1 hz3 rfl (by decide) _ _ _ rfl (R4.out.own.alloc _) ⟨w4.heap.size, 0, none⟩ 1 1 (Cm.dr (Cm.of4 h a b c)) rfl rfl (Ro.news _ _ _) (one4K _) (by decide) K5.out K6.out (Nat.le_trans K3.out (by simp)) (w4.heap.size + 1) (by simp) ?_))
              intro g2 cap2 w5 h1 h2 h3 h4
              obtain ⟨l4, l3, l5⟩ := R4.out.push2L R3.out HAP.out (c := Cm.of4 h a b c) rfl h1 h2 h3
              clear R3 R4 HAP K3 K5 K6 h1 h2 h3 h4
              have R3 := Lib.hid l3
              have R4 := Lib.hid l4
              have HAP := Lib.hid (fun k e e2 => l5 k e2 e)
              clear l3 l4 l5
              go_wp2_with fail
              go_roundw
              case rel => exact ⟨xs.length + 1, _, by omega, by simp, by go_num, by rw [HALL.out]; simp [Cm.Rw.is], HBY.out, R3.out.forget, by rw [HMAP.out]; simp only [Cm.Rw.dr, if_true]; exact R4.out.forget, HAP.out⟩
              case measure => simp [Cm.ms, intOf]; omega
        · skip
          have e1 : (o == 14) = false := beq_eq_false_iff_ne.2 ho
          go_upto_region 12 with (first
            | ((with_reducible show wpList _ _ _ ({ dst := _, op := Op.load 25 (Operand.tmp 27), type := _, pos := _, after := _, guard := _ } :: _) _ _); refine wpList_ldm ty_cmd rfl _ rfl _ _ rfl _ rfl (X1.out _ (HB.out.trans (HO.out.k.below.mono HB.out.size))) ?_)
            | ((with_reducible show wpList _ _ _ ({ dst := _, op := Op.load 25 (Operand.tmp 35), type := _, pos := _, after := _, guard := _ } :: _) _ _); refine wpList_ldm ty_cmd rfl _ rfl _ _ rfl _ rfl (X1.out _ (HB.out.trans (HO.out.k.below.mono HB.out.size))) ?_)
            | (go_at_call 6; with_reducible refine (LT _).mono ?_; rintro e wz ⟨rfl, hk1⟩; have l2 := HO.out.call hk1; clear HO hk1; have HO := Lib.hid l2; clear l2)
            | (go_at_call 9; refine (of_bx _ h a b c d _ _ l s _ (HSl.out.next HO.out.k) (HSp.out.next HO.out.k) HL5.out HN5.out).mono ?_; rintro e w2 ⟨x, er, rfl, hB, hk1⟩; have HBx := Lib.hid hB; have l2 := HO.out.call hk1; clear HO hk1 hB; have HO := Lib.hid l2; clear l2))
          have hB : Cm.Bx x false (fun _ => 0) := by have := HBx.out; rwa [e1, if_neg ho] at this
          have AD : ∀ W, Calls Try.prog 13 #[x] W fun e w' => e = .returned (.tuple #[.agg #[.int .i64 0, .int .i64 0, .int .i64 0, .int .i64 0], .bool false]) ∧ Kp W.heap.size W w' := fun W => asd_any hB W
          have HBY : Hid (Cm.Bxs (xs ++ [x]) L) := Lib.hid (HBN.out x (by simp only [Cm.Rw.is, Cm.Rw.dr, e1, if_neg ho]; exact hB))
          have hsh := hB.shape
          clear HBx hB HBN LT
          have hE := run_eqDraw 0 0 0 0
          cases on
          all_goals
            go_upto_region 19 with (first
              | go_big_skip
              | (go_at_call 13; refine (AD _).mono ?_; rintro e w3 ⟨rfl, hk1⟩; have l2 := ((HO.out.call hk1).newAt (w3.heap.size) rfl (.int .i64 0) [.int .i64 0, .int .i64 0, .int .i64 0] 49).newAt (w3.heap.size + 1) (by simp) (.int .i64 0) [.int .i64 0, .int .i64 0, .int .i64 0] 49; clear HO hk1; have HO := Lib.hid l2; clear l2)
              | ((with_reducible show wpList _ _ _ ({ dst := _, op := Op.load 3 (Operand.tmp 49), type := _, pos := _, after := _, guard := _ } :: _) _ _); refine wpList_ldx rfl (ad := ⟨b1, o1 + xs.length * 8, none⟩) (.int .i64 o) (by simpa using X1.out _ (HB.out.trans (HO.out.k.below.mono HB.out.size)) 0 _ rfl) (fun cc K hK => by go_simp; exact hK) ?_)
              | ((with_reducible show wpList _ _ _ ({ dst := _, op := Op.load 3 (Operand.tmp 77), type := _, pos := _, after := _, guard := _ } :: _) _ _); refine wpList_ldx rfl (ad := ⟨b1, o1 + xs.length * 8, none⟩) (.int .i64 o) (by simpa using X1.out _ (HB.out.trans (HO.out.k.below.mono HB.out.size)) 0 _ rfl) (fun cc K hK => by go_simp; exact hK) ?_)
              | ((with_reducible show wpList _ _ _ ({ dst := _, op := Op.load 49 (Operand.tmp 9), type := _, pos := _, after := _, guard := _ } :: _) _ _); refine wpList_ldr ty_draw rfl _ rfl _ rfl _ rfl (HO.out.at 1 rfl) ?_)
              | ((with_reducible show wpList _ _ _ ({ dst := _, op := Op.load 49 (Operand.tmp 11), type := _, pos := _, after := _, guard := _ } :: _) _ _); refine wpList_ldr ty_draw rfl _ rfl _ rfl _ rfl (HO.out.at 0 rfl) ?_))
            generalize World.alloc _ _ = W at *
            clear hE X1 AD
            generalize w3.heap.size = bq at *
            have R3 := Lib.hid (HR3.out.beside HO.out)
            have R4 := Lib.hid (HR4.out.beside HO.out)
            clear HR3 HR4 HO HB
            have K1 : Hid (xs.length + 1 ≤ maxLen) := Lib.hid (by unfold maxLen; omega)
            have K2 : Hid ((xs.length + 1) * 16 ≤ 140737488355328) := Lib.hid (by omega)
            have K3 : Hid (w.heap.size ≤ W.heap.size) := Lib.hid R3.out.bl.size
            have K5 : Hid ((ds.length + 1) ≤ maxLen) := Lib.hid (by have := HDL.out; unfold maxLen; omega)
            have K6 : Hid ((ds.length + 1) * 32 ≤ 140737488355328) := Lib.hid (by have := HDL.out; omega)
            rcases hsh with rfl | ⟨T, y, rfl⟩
            all_goals
              go_wp2_with (at_builtin; refine wpList_append_lies _ rfl (.tmp 90) (.tmp 92) 46 rfl w.heap.size 30 i1 _ 1 16 Try.underlying46 hi1 hy0 hy1 hy3 rfl (by decide) _ _ _ rfl (R3.out.own.alloc _) ⟨W.heap.size, 0, none⟩ 1 1 _ rfl rfl (news1K _ _ _) (one1K _ rfl) (by decide) K1.out K2.out (Nat.le_trans K3.out (by simp)) (W.heap.size + 1) (by simp) ?_)
              intro g1 cap1 w4 h1 h2 h3 h4
              obtain ⟨l3, l4, l5⟩ := R3.out.push2L R4.out HAP.out rfl h1 h2 h3
              clear R3 R4 HAP K1 K2 K3 h1 h2 h3 h4
              have R3 := Lib.hid l3
              have R4 := Lib.hid l4
              have HAP := Lib.hid (fun k e e2 => l5 k e2 e)
              have K3 : Hid (w.heap.size ≤ w4.heap.size) := Lib.hid l3.bl.size
              clear l3 l4 l5
              go_wp2_with (first
                | ((with_reducible show wpList _ _ _ ({ dst := _, op := Op.load 49 (Operand.tmp 9), type := _, pos := _, after := _, guard := _ } :: _) _ _); refine wpList_ldr ty_draw rfl _ rfl _ rfl _ rfl (Ro.Rp.at R4.out 1 rfl) ?_)
                | (at_builtin; refine wpList_append_lies _ rfl (.tmp 94) (.tmp 96) 47 rfl w.heap.size 49 i0 _ 4 32 Try.underlying47 hi0 hz0 hz1 hz3 rfl (by decide) _ _ _ rfl (R4.out.own.alloc _) ⟨w4.heap.size, 0, none⟩ 1 1 (Cm.dr (fun _ => 0)) rfl rfl (Ro.news _ _ _) (one4K _) (by decide) K5.out K6.out (Nat.le_trans K3.out (by simp)) (w4.heap.size + 1) (by simp) ?_))
              intro g2 cap2 w5 h1 h2 h3 h4
              obtain ⟨l4, l3, l5⟩ := R4.out.push2L R3.out HAP.out (c := fun _ => 0) rfl h1 h2 h3
              clear R3 R4 HAP K3 K5 K6 h1 h2 h3 h4
              have R3 := Lib.hid l3
              have R4 := Lib.hid l4
              have HAP := Lib.hid (fun k e e2 => l5 k e2 e)
              clear l3 l4 l5
              go_wp2_with fail
              go_roundw
              case rel => exact ⟨xs.length + 1, _, by omega, by simp, by go_num, by rw [HALL.out]; simp [Cm.Rw.is, e1], HBY.out, R3.out.forget, by rw [HMAP.out]; simp only [Cm.Rw.dr, if_neg ho]; exact R4.out.forget, HAP.out⟩
              case measure => simp [Cm.ms, intOf]; omega
    · have hxl : xs.length = L.length := by omega
      have z1 : decide ((xs.length : Int) < (L.length : Int)) = false := decide_eq_false (by omega)
      have z3 : ¬ (xs.length : Int) < (L.length : Int) := by omega
      have hT : L.take xs.length = L := by rw [hxl, List.take_length]
      rw [hT] at h4 h5
      have hs3 := h3.sp (fun _ => rfl)
      have hs4 := h4.sp Cm.dr_len
      clear h3 h4 hap HX HK hT
      obtain ⟨ua, uc, rfl⟩ := hs3.len
      have hle : xs.length ≤ 20 := by omega
      have hdl : (L.map Cm.Rw.dr).length = xs.length := by rw [List.length_map]; omega
      cases hon : L.all Cm.Rw.is
      · rw [hon] at h5
        subst h5
        obtain ⟨ds, hd, hno, hb⟩ := Cm.draws_false hbx hxl hon
        have DR := draws_no xs ds _ wr hs3 hle hd hno hb
        clear hbx hs3 hno hb hon hdl hxl hle hd
        obtain ⟨va, vc, rfl⟩ := hs4.len
        clear hs4
        generalize (L.map Cm.Rw.dr).length = dn at *
        go_wp2_with (first
          | go_big_skip
          | (go_at_call 14; with_reducible refine DR.mono ?_; rintro e w2 ⟨rfl, hk1⟩; have l2 := HB.out.trans (hk1.mono HB.out.size); clear HB hk1; have HB := Lib.hid l2; clear l2)
          | (go_at_call 7; refine (awake_any _).mono ?_; rintro e wz ⟨rfl, hk1⟩; have l2 := HB.out.trans (hk1.below.mono HB.out.size); clear HB hk1; have HB := Lib.hid l2; clear l2))
        go_ret
        exact ⟨rfl, HB.out⟩
      · rw [hon] at h5
        subst h5
        have DR := draws_yes xs (L.map Cm.Rw.dr) _ wr hs3 hle hdl (Cm.draws_true hbx hon)
        clear hbx hs3 hon
        generalize L.map Cm.Rw.dr = ds at *
        have hdn : (ds.length : Int) ≤ 20 := by omega
        clear hdl hxl hle
        obtain ⟨va, vc, rfl, -, hy⟩ := hs4.each
        have HY := Lib.hid hy
        clear hs4 hy
        go_wp2_with (first
          | go_big_skip
          | (go_at_call 14; with_reducible refine DR.mono ?_; rintro e w2 ⟨ux, rfl, hsp, hk1⟩; obtain ⟨xa, xc, rfl, -, hz⟩ := hsp.each; have HZ := Lib.hid hz; have HK1 := Lib.hid hk1; have l2 := HB.out.trans (hk1.mono HB.out.size); clear HB hk1 hsp hz; have HB := Lib.hid l2; clear l2))
        go_loopw [14] (fun i wl => ∃ j : Nat, j ≤ ds.length ∧ i = .int .i64 j ∧ Ow w2 wl []) (fun i _ => Cm.ms ds.length i)
        case atStart => exact ⟨0, by omega, rfl, Ow.refl w2⟩
        case round =>
          obtain ⟨j, hj, rfl, ho⟩ := hrel
          have HO := Lib.hid ho
          clear ho
          by_cases hlt : j < ds.length
          · have z1 : decide ((j : Int) < (ds.length : Int)) = true := decide_eq_true (by omega)
            have z2 : (j : Int) < (ds.length : Int) := by omega
            obtain ⟨b1, o1, e1, x1⟩ := HZ.out j hlt
            obtain ⟨b2, o2, e2, x2⟩ := HY.out j hlt
            have hE := run_eqDraw (ds[j] 0) (ds[j] 1) (ds[j] 2) (ds[j] 3)
            have X1 : Hid (∀ U, Below w2.heap.size w2 U → U.rangeAt b1 (o1 + j * 4) [.int .i64 (ds[j] 0), .int .i64 (ds[j] 1), .int .i64 (ds[j] 2), .int .i64 (ds[j] 3)]) := Lib.hid x1
            have X2 : Hid (∀ U, Below _ _ U → U.rangeAt b2 (o2 + j * 4) [.int .i64 (ds[j] 0), .int .i64 (ds[j] 1), .int .i64 (ds[j] 2), .int .i64 (ds[j] 3)]) := Lib.hid x2
            clear x1 x2
            generalize ds[j] = d at *
            subst e1 e2
            go_wp2_with fail
            refine Rg.region (I := fun _ W => Ow w2 W []) (dem := fun _ => false) (m := 9) (g := 0) (T := fun listed bs st => ∀ W, Ow w2 W [] → wpAny Try.prog .any _ _ 0 listed st W) (by kernel_rfl) HO.out.drew rfl (fun _ _ _ _ h hI => h _ hI) ?_
            clear HO
            refine Rg.take 0 (v := .slice (some ⟨b1, o1, none⟩) ds.length xc) rfl rfl (by kernel_rfl) (by kernel_rfl) (by kernel_rfl) (by kernel_rfl) (by kernel_rfl) (.inl ⟨rfl, fun bs wq hI => ?_⟩) ?_
            · go_simp
            simp only [Act.put, List.getElem_toArray, List.getElem_cons_zero, List.getElem_cons_succ, List.setIfInBounds_toArray, List.set_cons_zero, List.set_cons_succ]
            refine Rg.take 1 (v := .int .i64 j) rfl rfl (by kernel_rfl) (by kernel_rfl) (by kernel_rfl) (by kernel_rfl) (by kernel_rfl) (.inl ⟨rfl, fun bs wq hI => ?_⟩) ?_
            · go_simp
            simp only [Act.put, List.getElem_toArray, List.getElem_cons_zero, List.getElem_cons_succ, List.setIfInBounds_toArray, List.set_cons_zero, List.set_cons_succ]
            refine Rg.take 2 (v := .pointer (some ⟨b1, o1 + j * 4, none⟩)) rfl rfl (by kernel_rfl) (by kernel_rfl) (by kernel_rfl) (by kernel_rfl) (by kernel_rfl) (.inl ⟨rfl, fun bs wq hI => ?_⟩) ?_
            · go_simp
            simp only [Act.put, List.getElem_toArray, List.getElem_cons_zero, List.getElem_cons_succ, List.setIfInBounds_toArray, List.set_cons_zero, List.set_cons_succ]
            refine Rg.take 3 (v := .agg #[.int .i64 (d 0), .int .i64 (d 1), .int .i64 (d 2), .int .i64 (d 3)]) rfl rfl (by kernel_rfl) (by kernel_rfl) (by kernel_rfl) (by kernel_rfl) (by kernel_rfl) (.inl ⟨rfl, fun bs wq hI => ?_⟩) ?_
            · exact quiet_ldm ty_draw (.tmp 132) rfl rfl rfl (X1.out _ hI.k.below)
            simp only [Act.put, List.getElem_toArray, List.getElem_cons_zero, List.getElem_cons_succ, List.setIfInBounds_toArray, List.set_cons_zero, List.set_cons_succ]
            refine Rg.take 4 (v := .slice (some ⟨b2, o2, none⟩) ds.length vc) rfl rfl (by kernel_rfl) (by kernel_rfl) (by kernel_rfl) (by kernel_rfl) (by kernel_rfl) (.inl ⟨rfl, fun bs wq hI => ?_⟩) ?_
            · go_simp
            simp only [Act.put, List.getElem_toArray, List.getElem_cons_zero, List.getElem_cons_succ, List.setIfInBounds_toArray, List.set_cons_zero, List.set_cons_succ]
            refine Rg.take 5 (v := .int .i64 j) rfl rfl (by kernel_rfl) (by kernel_rfl) (by kernel_rfl) (by kernel_rfl) (by kernel_rfl) (.inl ⟨rfl, fun bs wq hI => ?_⟩) ?_
            · go_simp
            simp only [Act.put, List.getElem_toArray, List.getElem_cons_zero, List.getElem_cons_succ, List.setIfInBounds_toArray, List.set_cons_zero, List.set_cons_succ]
            refine Rg.take 6 (v := .pointer (some ⟨b2, o2 + j * 4, none⟩)) rfl rfl (by kernel_rfl) (by kernel_rfl) (by kernel_rfl) (by kernel_rfl) (by kernel_rfl) (.inl ⟨rfl, fun bs wq hI => ?_⟩) ?_
            · go_simp
            simp only [Act.put, List.getElem_toArray, List.getElem_cons_zero, List.getElem_cons_succ, List.setIfInBounds_toArray, List.set_cons_zero, List.set_cons_succ]
            refine Rg.take 7 (v := .agg #[.int .i64 (d 0), .int .i64 (d 1), .int .i64 (d 2), .int .i64 (d 3)]) rfl rfl (by kernel_rfl) (by kernel_rfl) (by kernel_rfl) (by kernel_rfl) (by kernel_rfl) (.inl ⟨rfl, fun bs wq hI => ?_⟩) ?_
            · exact quiet_ldm ty_draw (.tmp 136) rfl rfl rfl (X2.out _ (HK1.out.trans (hI.k.below.mono HK1.out.size)))
            simp only [Act.put, List.getElem_toArray, List.getElem_cons_zero, List.getElem_cons_succ, List.setIfInBounds_toArray, List.set_cons_zero, List.set_cons_succ]
            refine Rg.take 8 (v := .bool false) rfl rfl (by kernel_rfl) (by kernel_rfl) (by kernel_rfl) (by kernel_rfl) (by kernel_rfl) (.inl ⟨rfl, fun bs wq hI => ?_⟩) ?_
            · go_simp
            simp only [Act.put, List.getElem_toArray, List.getElem_cons_zero, List.getElem_cons_succ, List.setIfInBounds_toArray, List.set_cons_zero, List.set_cons_succ]
            refine Rg.done (rs := []) (by kernel_rfl) (by decide) (fun W hI => ?_)
            have HO := Lib.hid hI
            clear hI
            refine wpAny_done (by kernel_rfl) ?_ _
            go_wp2_with go_big_skip
            go_roundw
            case rel => exact ⟨j + 1, by omega, by go_num, HO.out⟩
            case measure => simp [Cm.ms, intOf]; omega
          · have z1 : decide ((j : Int) < (ds.length : Int)) = false := decide_eq_false (by omega)
            have z2 : ¬ (j : Int) < (ds.length : Int) := by omega
            have l2 := HB.out.trans (HO.out.k.below.mono HB.out.size)
            clear HB HO
            have HB := Lib.hid l2
            clear l2
            go_wp2_with (first
              | go_big_skip
              | (go_at_call 7; refine (awake_any _).mono ?_; rintro e wz ⟨rfl, hk1⟩; have l2 := HB.out.trans (hk1.below.mono HB.out.size); clear HB hk1; have HB := Lib.hid l2; clear l2))
            go_ret
            exact ⟨rfl, HB.out⟩
theorem cmddraws_walk (L : List Cm.Rw) (v : Value) (w : World) (hv : Ro.Sp Cm.Rw.cs 8 w v L) (hk : ∀ r ∈ L, r.ok w) :
    Calls Try.prog 5 #[v] w fun e w' => e = .returned (.bool true) ∧ Below w.heap.size w w' := by
  by_cases hn : L.length ≤ 20
  · exact draws_few L v w hv hk hn
  · obtain ⟨a, cap, rfl⟩ := hv.len
    exact draws_many _ _ _ w (by omega)
end Go.Proofs.Ytkmhnfbjapfbeaa
