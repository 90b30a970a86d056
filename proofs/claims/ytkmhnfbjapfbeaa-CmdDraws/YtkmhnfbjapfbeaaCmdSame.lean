/-
  Contracts of the document's answers for layer 20 (cmd): two commands that are the same.
-/
import Derived.Test.YtkmhnfbjapfbeaaCmdEq
import Derived.BigGuard
namespace Go.Proofs.Ytkmhnfbjapfbeaa
open Go.RowKit

def msrK (n : Nat) (i : Value) : Nat := n - (intOf i).toNat
set_option linter.unusedSimpArgs false in
set_option maxRecDepth 100000 in
set_option maxHeartbeats 8000000 in
theorem rsame_yes (o h a b c d : Int) (v1 u1 v2 u2 : Value) (l : List Int) (s : List (Nat → Int)) (w : World) (h1 : Sl w v1 (iv l)) (h2 : Sl w v2 (iv l)) (h3 : Ro.Sp Cm.vt 9 w u1 s) (h4 : Ro.Sp Cm.vt 9 w u2 s) (hl : l.length ≤ 5000) (hs : s.length ≤ 5000) :
    Calls Try.prog 10 #[.agg #[.int .i64 o, .int .i64 h, .int .i64 a, .int .i64 b, .int .i64 c, .int .i64 d, v1, u1], .agg #[.int .i64 o, .int .i64 h, .int .i64 a, .int .i64 b, .int .i64 c, .int .i64 d, v2, u2]] w fun e w' => e = .returned (.bool true) ∧ Kp w.heap.size w w' := by
  obtain ⟨a1, c1, rfl, hc1, k1⟩ := h1.keptN
  obtain ⟨a2, c2, rfl, hc2, k2⟩ := h2.keptN
  obtain ⟨a3, c3, rfl, hc3, k3⟩ := h3.each
  obtain ⟨a4, c4, rfl, hc4, k4⟩ := h4.each
  have H1 := Lib.hid k1
  have H2 := Lib.hid k2
  have H3 := Lib.hid k3
  have H4 := Lib.hid k4
  clear h1 h2 h3 h4 k1 k2 k3 k4
  have n1 : (l.length : Int) ≤ 5000 := by omega
  have n2 : (s.length : Int) ≤ 5000 := by omega
  have HO := Lib.hid (((Ow.refl w).newAt (w.heap.size) rfl (.int .i64 o) [.int .i64 h, .int .i64 a, .int .i64 b, .int .i64 c, .int .i64 d, .slice a1 l.length c1, .slice a3 s.length c3] 25).newAt (w.heap.size + 1) (by simp) (.int .i64 o) [.int .i64 h, .int .i64 a, .int .i64 b, .int .i64 c, .int .i64 d, .slice a2 l.length c2, .slice a4 s.length c4] 25)
  go_enter Try.func10, Try.ntmps10
  go_wp2_with go_big_skip
  generalize World.alloc _ _ = W0 at *
  go_loopw [5] (fun i wr => ∃ j : Nat, j ≤ l.length ∧ i = .int .i64 j ∧ Ow w wr [(w.heap.size + 1, [.int .i64 o, .int .i64 h, .int .i64 a, .int .i64 b, .int .i64 c, .int .i64 d, .slice a2 l.length c2, .slice a4 s.length c4]), (w.heap.size, [.int .i64 o, .int .i64 h, .int .i64 a, .int .i64 b, .int .i64 c, .int .i64 d, .slice a1 l.length c1, .slice a3 s.length c3])]) (fun i _ => msrK l.length i)
  case atStart => exact ⟨0, by omega, rfl, HO.out⟩
  case round =>
    clear HO
    obtain ⟨j, hj, rfl, ho⟩ := hrel
    have HO := Lib.hid ho
    clear ho
    by_cases hlt : j < l.length
    · have z1 : decide ((j : Int) < (l.length : Int)) = true := decide_eq_true (by omega)
      have z2 : (j : Int) < (l.length : Int) := by omega
      obtain ⟨b1, o1, e1, x1⟩ := H1.out j hlt
      obtain ⟨b2, o2, e2, x2⟩ := H2.out j hlt
      have X1 := Lib.hid x1
      have X2 := Lib.hid x2
      clear x1 x2
      generalize l[j] = y at *
      subst e1 e2
      go_wp2_with (first
    | go_big_skip
    | ((with_reducible show wpList _ _ _ ({ dst := _, op := Op.load 22 (Operand.tmp 66), type := _, pos := _, after := _, guard := _ } :: _) _ _); refine wpList_ld1 rfl 6 (.slice (some ⟨b1, o1, none⟩) l.length c1) (HO.out.at 1 rfl) rfl (fun cc K hK => by go_simp; exact hK) ?_))
      refine Rg.region (I := fun _ W => Ow w W [(w.heap.size + 1, [.int .i64 o, .int .i64 h, .int .i64 a, .int .i64 b, .int .i64 c, .int .i64 d, .slice (some ⟨b2, o2, none⟩) l.length c2, .slice a4 s.length c4]), (w.heap.size, [.int .i64 o, .int .i64 h, .int .i64 a, .int .i64 b, .int .i64 c, .int .i64 d, .slice (some ⟨b1, o1, none⟩) l.length c1, .slice a3 s.length c3])]) (dem := fun _ => false) (m := 11) (g := 0) (T := fun listed bs st => ∀ W, Ow w W [(w.heap.size + 1, [.int .i64 o, .int .i64 h, .int .i64 a, .int .i64 b, .int .i64 c, .int .i64 d, .slice (some ⟨b2, o2, none⟩) l.length c2, .slice a4 s.length c4]), (w.heap.size, [.int .i64 o, .int .i64 h, .int .i64 a, .int .i64 b, .int .i64 c, .int .i64 d, .slice (some ⟨b1, o1, none⟩) l.length c1, .slice a3 s.length c3])] → wpAny Try.prog .any _ _ 0 listed st W) (by kernel_rfl) HO.out.drew rfl (fun _ _ _ _ h hI => h _ hI) ?_
      clear HO
      refine Rg.take 0 (v := .pointer (some ⟨w.heap.size, 6, none⟩)) rfl rfl (by kernel_rfl) (by kernel_rfl) (by kernel_rfl) (by kernel_rfl) (by kernel_rfl) (.inl ⟨rfl, fun bs wq hI => ?_⟩) ?_
      · go_simp
      simp only [Act.put, List.getElem_toArray, List.getElem_cons_zero, List.getElem_cons_succ, List.setIfInBounds_toArray, List.set_cons_zero, List.set_cons_succ]
      refine Rg.take 1 (v := .slice (some ⟨b1, o1, none⟩) l.length c1) rfl rfl (by kernel_rfl) (by kernel_rfl) (by kernel_rfl) (by kernel_rfl) (by kernel_rfl) (.inl ⟨rfl, fun bs wq hI => ?_⟩) ?_
      · (have hc := (hI.at 1 rfl).cell 6 rfl; go_simp)
      simp only [Act.put, List.getElem_toArray, List.getElem_cons_zero, List.getElem_cons_succ, List.setIfInBounds_toArray, List.set_cons_zero, List.set_cons_succ]
      refine Rg.take 2 (v := .int .i64 j) rfl rfl (by kernel_rfl) (by kernel_rfl) (by kernel_rfl) (by kernel_rfl) (by kernel_rfl) (.inl ⟨rfl, fun bs wq hI => ?_⟩) ?_
      · go_simp
      simp only [Act.put, List.getElem_toArray, List.getElem_cons_zero, List.getElem_cons_succ, List.setIfInBounds_toArray, List.set_cons_zero, List.set_cons_succ]
      refine Rg.take 3 (v := .pointer (some ⟨b1, o1 + j, none⟩)) rfl rfl (by kernel_rfl) (by kernel_rfl) (by kernel_rfl) (by kernel_rfl) (by kernel_rfl) (.inl ⟨rfl, fun bs wq hI => ?_⟩) ?_
      · go_simp
      simp only [Act.put, List.getElem_toArray, List.getElem_cons_zero, List.getElem_cons_succ, List.setIfInBounds_toArray, List.set_cons_zero, List.set_cons_succ]
      refine Rg.take 4 (v := .int .i64 y) rfl rfl (by kernel_rfl) (by kernel_rfl) (by kernel_rfl) (by kernel_rfl) (by kernel_rfl) (.inl ⟨rfl, fun bs wq hI => ?_⟩) ?_
      · (have hc := X1.out _ hI.k; go_simp)
      simp only [Act.put, List.getElem_toArray, List.getElem_cons_zero, List.getElem_cons_succ, List.setIfInBounds_toArray, List.set_cons_zero, List.set_cons_succ]
      refine Rg.take 5 (v := .pointer (some ⟨w.heap.size + 1, 6, none⟩)) rfl rfl (by kernel_rfl) (by kernel_rfl) (by kernel_rfl) (by kernel_rfl) (by kernel_rfl) (.inl ⟨rfl, fun bs wq hI => ?_⟩) ?_
      · go_simp
      simp only [Act.put, List.getElem_toArray, List.getElem_cons_zero, List.getElem_cons_succ, List.setIfInBounds_toArray, List.set_cons_zero, List.set_cons_succ]
      refine Rg.take 6 (v := .slice (some ⟨b2, o2, none⟩) l.length c2) rfl rfl (by kernel_rfl) (by kernel_rfl) (by kernel_rfl) (by kernel_rfl) (by kernel_rfl) (.inl ⟨rfl, fun bs wq hI => ?_⟩) ?_
      · (have hc := (hI.at 0 rfl).cell 6 rfl; go_simp)
      simp only [Act.put, List.getElem_toArray, List.getElem_cons_zero, List.getElem_cons_succ, List.setIfInBounds_toArray, List.set_cons_zero, List.set_cons_succ]
      refine Rg.take 7 (v := .int .i64 j) rfl rfl (by kernel_rfl) (by kernel_rfl) (by kernel_rfl) (by kernel_rfl) (by kernel_rfl) (.inl ⟨rfl, fun bs wq hI => ?_⟩) ?_
      · go_simp
      simp only [Act.put, List.getElem_toArray, List.getElem_cons_zero, List.getElem_cons_succ, List.setIfInBounds_toArray, List.set_cons_zero, List.set_cons_succ]
      refine Rg.take 8 (v := .pointer (some ⟨b2, o2 + j, none⟩)) rfl rfl (by kernel_rfl) (by kernel_rfl) (by kernel_rfl) (by kernel_rfl) (by kernel_rfl) (.inl ⟨rfl, fun bs wq hI => ?_⟩) ?_
      · go_simp
      simp only [Act.put, List.getElem_toArray, List.getElem_cons_zero, List.getElem_cons_succ, List.setIfInBounds_toArray, List.set_cons_zero, List.set_cons_succ]
      refine Rg.take 9 (v := .int .i64 y) rfl rfl (by kernel_rfl) (by kernel_rfl) (by kernel_rfl) (by kernel_rfl) (by kernel_rfl) (.inl ⟨rfl, fun bs wq hI => ?_⟩) ?_
      · (have hc := X2.out _ hI.k; go_simp)
      simp only [Act.put, List.getElem_toArray, List.getElem_cons_zero, List.getElem_cons_succ, List.setIfInBounds_toArray, List.set_cons_zero, List.set_cons_succ]
      refine Rg.take 10 (v := .bool false) rfl rfl (by kernel_rfl) (by kernel_rfl) (by kernel_rfl) (by kernel_rfl) (by kernel_rfl) (.inl ⟨rfl, fun bs wq hI => ?_⟩) ?_
      · (go_simp <;> simp)
      simp only [Act.put, List.getElem_toArray, List.getElem_cons_zero, List.getElem_cons_succ, List.setIfInBounds_toArray, List.set_cons_zero, List.set_cons_succ]
      refine Rg.done (rs := []) (by kernel_rfl) (by decide) (fun W hI => ?_)
      have HO := Lib.hid hI
      clear hI
      refine wpAny_done (by kernel_rfl) ?_ _
      go_wp2_with go_big_skip
      go_roundw
      case rel => exact ⟨j + 1, by omega, by go_num, HO.out⟩
      case measure => simp [msrK, intOf]; omega
    · have z1 : decide ((j : Int) < (l.length : Int)) = false := decide_eq_false (by omega)
      clear H1 H2
      go_wp2_with (first
    | go_big_skip
    | ((with_reducible show wpList _ _ _ ({ dst := _, op := Op.load 22 (Operand.tmp 66), type := _, pos := _, after := _, guard := _ } :: _) _ _); refine wpList_ld1 rfl 6 (.slice a1 l.length c1) (HO.out.at 1 rfl) rfl (fun cc K hK => by go_simp; exact hK) ?_))
      go_loopw [6] (fun i wr => ∃ j : Nat, j ≤ s.length ∧ i = .int .i64 j ∧ Ow w wr [(w.heap.size + 1, [.int .i64 o, .int .i64 h, .int .i64 a, .int .i64 b, .int .i64 c, .int .i64 d, .slice a2 l.length c2, .slice a4 s.length c4]), (w.heap.size, [.int .i64 o, .int .i64 h, .int .i64 a, .int .i64 b, .int .i64 c, .int .i64 d, .slice a1 l.length c1, .slice a3 s.length c3])]) (fun i _ => msrK s.length i)
      case atStart => exact ⟨0, by omega, rfl, HO.out⟩
      case round =>
        clear HO
        obtain ⟨j, hj, rfl, ho⟩ := hrel
        have HO := Lib.hid ho
        clear ho
        by_cases hlt : j < s.length
        · have z1 : decide ((j : Int) < (s.length : Int)) = true := decide_eq_true (by omega)
          have z2 : (j : Int) < (s.length : Int) := by omega
          obtain ⟨b1, o1, e1, x1⟩ := H3.out j hlt
          obtain ⟨b2, o2, e2, x2⟩ := H4.out j hlt
          have hE := run_eqVertex s[j]
          have X1 := Lib.hid x1
          have X2 := Lib.hid x2
          clear x1 x2
          generalize s[j] = y at *
          subst e1 e2
          go_wp2_with (first
    | go_big_skip
    | ((with_reducible show wpList _ _ _ ({ dst := _, op := Op.load 23 (Operand.tmp 84), type := _, pos := _, after := _, guard := _ } :: _) _ _); refine wpList_ld1 rfl 7 (.slice (some ⟨b1, o1, none⟩) s.length c3) (HO.out.at 1 rfl) rfl (fun cc K hK => by go_simp; exact hK) ?_))
          refine Rg.region (I := fun _ W => Ow w W [(w.heap.size + 1, [.int .i64 o, .int .i64 h, .int .i64 a, .int .i64 b, .int .i64 c, .int .i64 d, .slice a2 l.length c2, .slice (some ⟨b2, o2, none⟩) s.length c4]), (w.heap.size, [.int .i64 o, .int .i64 h, .int .i64 a, .int .i64 b, .int .i64 c, .int .i64 d, .slice a1 l.length c1, .slice (some ⟨b1, o1, none⟩) s.length c3])]) (dem := fun _ => false) (m := 11) (g := 0) (T := fun listed bs st => ∀ W, Ow w W [(w.heap.size + 1, [.int .i64 o, .int .i64 h, .int .i64 a, .int .i64 b, .int .i64 c, .int .i64 d, .slice a2 l.length c2, .slice (some ⟨b2, o2, none⟩) s.length c4]), (w.heap.size, [.int .i64 o, .int .i64 h, .int .i64 a, .int .i64 b, .int .i64 c, .int .i64 d, .slice a1 l.length c1, .slice (some ⟨b1, o1, none⟩) s.length c3])] → wpAny Try.prog .any _ _ 0 listed st W) (by kernel_rfl) HO.out.drew rfl (fun _ _ _ _ h hI => h _ hI) ?_
          clear HO
          refine Rg.take 0 (v := .pointer (some ⟨w.heap.size, 7, none⟩)) rfl rfl (by kernel_rfl) (by kernel_rfl) (by kernel_rfl) (by kernel_rfl) (by kernel_rfl) (.inl ⟨rfl, fun bs wq hI => ?_⟩) ?_
          · go_simp
          simp only [Act.put, List.getElem_toArray, List.getElem_cons_zero, List.getElem_cons_succ, List.setIfInBounds_toArray, List.set_cons_zero, List.set_cons_succ]
          refine Rg.take 1 (v := .slice (some ⟨b1, o1, none⟩) s.length c3) rfl rfl (by kernel_rfl) (by kernel_rfl) (by kernel_rfl) (by kernel_rfl) (by kernel_rfl) (.inl ⟨rfl, fun bs wq hI => ?_⟩) ?_
          · (have hc := (hI.at 1 rfl).cell 7 rfl; go_simp)
          simp only [Act.put, List.getElem_toArray, List.getElem_cons_zero, List.getElem_cons_succ, List.setIfInBounds_toArray, List.set_cons_zero, List.set_cons_succ]
          refine Rg.take 2 (v := .int .i64 j) rfl rfl (by kernel_rfl) (by kernel_rfl) (by kernel_rfl) (by kernel_rfl) (by kernel_rfl) (.inl ⟨rfl, fun bs wq hI => ?_⟩) ?_
          · go_simp
          simp only [Act.put, List.getElem_toArray, List.getElem_cons_zero, List.getElem_cons_succ, List.setIfInBounds_toArray, List.set_cons_zero, List.set_cons_succ]
          refine Rg.take 3 (v := .pointer (some ⟨b1, o1 + j * 9, none⟩)) rfl rfl (by kernel_rfl) (by kernel_rfl) (by kernel_rfl) (by kernel_rfl) (by kernel_rfl) (.inl ⟨rfl, fun bs wq hI => ?_⟩) ?_
          · go_simp
          simp only [Act.put, List.getElem_toArray, List.getElem_cons_zero, List.getElem_cons_succ, List.setIfInBounds_toArray, List.set_cons_zero, List.set_cons_succ]
          refine Rg.take 4 (v := .agg #[.int .i64 (y 0), .int .i64 (y 1), .int .i64 (y 2), .int .i64 (y 3), .int .i64 (y 4), .int .i64 (y 5), .int .i64 (y 6), .int .i64 (y 7), .int .i64 (y 8)]) rfl rfl (by kernel_rfl) (by kernel_rfl) (by kernel_rfl) (by kernel_rfl) (by kernel_rfl) (.inl ⟨rfl, fun bs wq hI => ?_⟩) ?_
          · exact quiet_ldm ty_vertex (.tmp 93) rfl rfl rfl (X1.out _ hI.k.below)
          simp only [Act.put, List.getElem_toArray, List.getElem_cons_zero, List.getElem_cons_succ, List.setIfInBounds_toArray, List.set_cons_zero, List.set_cons_succ]
          refine Rg.take 5 (v := .pointer (some ⟨w.heap.size + 1, 7, none⟩)) rfl rfl (by kernel_rfl) (by kernel_rfl) (by kernel_rfl) (by kernel_rfl) (by kernel_rfl) (.inl ⟨rfl, fun bs wq hI => ?_⟩) ?_
          · go_simp
          simp only [Act.put, List.getElem_toArray, List.getElem_cons_zero, List.getElem_cons_succ, List.setIfInBounds_toArray, List.set_cons_zero, List.set_cons_succ]
          refine Rg.take 6 (v := .slice (some ⟨b2, o2, none⟩) s.length c4) rfl rfl (by kernel_rfl) (by kernel_rfl) (by kernel_rfl) (by kernel_rfl) (by kernel_rfl) (.inl ⟨rfl, fun bs wq hI => ?_⟩) ?_
          · (have hc := (hI.at 0 rfl).cell 7 rfl; go_simp)
          simp only [Act.put, List.getElem_toArray, List.getElem_cons_zero, List.getElem_cons_succ, List.setIfInBounds_toArray, List.set_cons_zero, List.set_cons_succ]
          refine Rg.take 7 (v := .int .i64 j) rfl rfl (by kernel_rfl) (by kernel_rfl) (by kernel_rfl) (by kernel_rfl) (by kernel_rfl) (.inl ⟨rfl, fun bs wq hI => ?_⟩) ?_
          · go_simp
          simp only [Act.put, List.getElem_toArray, List.getElem_cons_zero, List.getElem_cons_succ, List.setIfInBounds_toArray, List.set_cons_zero, List.set_cons_succ]
          refine Rg.take 8 (v := .pointer (some ⟨b2, o2 + j * 9, none⟩)) rfl rfl (by kernel_rfl) (by kernel_rfl) (by kernel_rfl) (by kernel_rfl) (by kernel_rfl) (.inl ⟨rfl, fun bs wq hI => ?_⟩) ?_
          · go_simp
          simp only [Act.put, List.getElem_toArray, List.getElem_cons_zero, List.getElem_cons_succ, List.setIfInBounds_toArray, List.set_cons_zero, List.set_cons_succ]
          refine Rg.take 9 (v := .agg #[.int .i64 (y 0), .int .i64 (y 1), .int .i64 (y 2), .int .i64 (y 3), .int .i64 (y 4), .int .i64 (y 5), .int .i64 (y 6), .int .i64 (y 7), .int .i64 (y 8)]) rfl rfl (by kernel_rfl) (by kernel_rfl) (by kernel_rfl) (by kernel_rfl) (by kernel_rfl) (.inl ⟨rfl, fun bs wq hI => ?_⟩) ?_
          · exact quiet_ldm ty_vertex (.tmp 98) rfl rfl rfl (X2.out _ hI.k.below)
          simp only [Act.put, List.getElem_toArray, List.getElem_cons_zero, List.getElem_cons_succ, List.setIfInBounds_toArray, List.set_cons_zero, List.set_cons_succ]
          refine Rg.take 10 (v := .bool false) rfl rfl (by kernel_rfl) (by kernel_rfl) (by kernel_rfl) (by kernel_rfl) (by kernel_rfl) (.inl ⟨rfl, fun bs wq hI => ?_⟩) ?_
          · go_simp
          simp only [Act.put, List.getElem_toArray, List.getElem_cons_zero, List.getElem_cons_succ, List.setIfInBounds_toArray, List.set_cons_zero, List.set_cons_succ]
          refine Rg.done (rs := []) (by kernel_rfl) (by decide) (fun W hI => ?_)
          have HO := Lib.hid hI
          clear hI
          refine wpAny_done (by kernel_rfl) ?_ _
          go_wp2_with go_big_skip
          go_roundw
          case rel => exact ⟨j + 1, by omega, by go_num, HO.out⟩
          case measure => simp [msrK, intOf]; omega
        · have z1 : decide ((j : Int) < (s.length : Int)) = false := decide_eq_false (by omega)
          go_wp2_with (first
    | go_big_skip
    | ((with_reducible show wpList _ _ _ ({ dst := _, op := Op.load 23 (Operand.tmp 84), type := _, pos := _, after := _, guard := _ } :: _) _ _); refine wpList_ld1 rfl 7 (.slice a3 s.length c3) (HO.out.at 1 rfl) rfl (fun cc K hK => by go_simp; exact hK) ?_))
          go_ret
          exact ⟨rfl, HO.out.k⟩
end Go.Proofs.Ytkmhnfbjapfbeaa
