/-
  Contracts of layer 20 (cmd): Draws, of one that is no draw, among others.
-/
import Derived.Test.YtkmhnfbjapfbeaaCmdDrawsY
import Derived.Deep.AppendLies
import Derived.Defers
import Derived.Recover
import Derived.BigGuard
namespace Go.Proofs.Ytkmhnfbjapfbeaa
open Go.RowKit

set_option linter.unusedSimpArgs false in
set_option maxRecDepth 100000 in
set_option maxHeartbeats 8000000 in
theorem draws_no (xs : List Value) (ds : List (Nat → Int)) (v : Value) (w : World) (hv : Ro.Sp (fun x : Value => [x]) 1 w v xs) (hl : xs.length ≤ 20) (hd : ds.length < xs.length) (hno : ∃ d, Cm.Bx xs[ds.length] false d) (hb : ∀ k (h : k < xs.length) (h2 : k < ds.length), Cm.Bx xs[k] true ds[k]) :
    Calls Try.prog 14 #[v] w fun e w' => e = .returned (.tuple #[.slice none 0 0, .int .i64 14]) ∧ Below w.heap.size w w' := by
  have hmf : ∀ (fn : Fn) (first cap : Array Value) (w : World), (Instr.makeFunc fn first cap).run Try.prog w = .ok (.func fn first cap) w := fun _ _ _ _ => rfl
  obtain ⟨a, cap, rfl, hcap, hx⟩ := hv.each
  have HX := Lib.hid hx
  have HB := Lib.hid hb
  have HLX := Lib.hid hl
  have HD := Lib.hid hd
  have HNO := Lib.hid hno
  clear hno
  have l1 : (xs.length : Int) ≤ 20 := by omega
  obtain ⟨i0, hi0, hz0, hz1, hz3⟩ := infoDraw
  clear hv hx hb hl hcap
  have HO : Hid (Ro.Rp 49 Cm.dr 4 w _ (.slice none 0 0) [] [(w.heap.size + 1, [.int .i64 0]), (w.heap.size, [.slice none 0 0])]) := Lib.hid (Ro.Rp.start (((Ow.refl w).newAt (w.heap.size) rfl (.slice none 0 0) [] 47).newAt (w.heap.size + 1) (by simp) (.int .i64 0) [] 31))
  go_enter_defers Try.func14, Try.ntmps14
  go_wp2
  go_loopw [9] (fun i wr => ∃ (j : Nat) (u : Value), j ≤ xs.length ∧ j ≤ ds.length ∧ i = .int .i64 j ∧ Ro.Rp 49 Cm.dr 4 w wr u (ds.take j) [(w.heap.size + 1, [.int .i64 0]), (w.heap.size, [u])]) (fun i _ => Cm.ms xs.length i)
  case atStart => exact ⟨0, _, by omega, by omega, rfl, HO.out⟩
  case round =>
    clear HO
    obtain ⟨j, u, hj, hj2, rfl, ho⟩ := hrel
    have HO := Lib.hid ho
    clear ho
    by_cases hlt : j < ds.length
    · have hlt2 : j < xs.length := by have := HD.out; omega
      have z1 : decide ((j : Int) < (xs.length : Int)) = true := decide_eq_true (by omega)
      have z2 : (j : Int) < (xs.length : Int) := by omega
      obtain ⟨b1, o1, e1, x1⟩ := HX.out j hlt2
      have hxc : wr.cell? ⟨b1, o1 + j, none⟩ = some xs[j] := by simpa using x1 wr HO.out.bl 0 _ rfl
      have HBJ := Lib.hid (HB.out j hlt2 hlt)
      have HM : Hid (ds.take (j + 1) = ds.take j ++ [ds[j]]) := Lib.hid (List.take_succ_eq_append_getElem hlt)
      have HL : Hid ((ds.take j).length ≤ 20) := Lib.hid (by have := HLX.out; rw [List.length_take]; omega)
      clear x1
      generalize xs[j] = x at *
      generalize ds[j] = d at *
      generalize ds.take j = ls at *
      subst e1
      go_upto_region 5 with fail
      refine Rg3.region (σ := List (Nat × List Value)) (I := fun s W => Ro.Rp 49 Cm.dr 4 w W u ls (s ++ [(w.heap.size + 1, [.int .i64 0]), (w.heap.size, [u])])) (dem := fun i => i == 3) (m := 4) (g := 2) (T := fun listed s st => ∀ W, Ro.Rp 49 Cm.dr 4 w W u ls (s ++ [(w.heap.size + 1, [.int .i64 0]), (w.heap.size, [u])]) → wpAny Try.prog .any _ _ 2 listed st W) [] (by kernel_rfl) HO.out.drew rfl (fun _ _ _ _ h hI => h _ hI) ?_
      clear HO
      refine Rg3.take 0 (v := u) rfl rfl (by kernel_rfl) (by kernel_rfl) (by kernel_rfl) (by kernel_rfl) (by kernel_rfl) (.inl ⟨rfl, fun bs wq hI => ?_⟩) ?_
      · (have hc := ((show Rc wq w.heap.size [u] from Ro.Rp.mem hI (List.mem_append_right _ (by simp)))).cell 0 rfl; go_simp)
      simp only [Act.put, List.getElem_toArray, List.getElem_cons_zero, List.getElem_cons_succ, List.setIfInBounds_toArray, List.set_cons_zero, List.set_cons_succ]
      refine Rg3.take 1 (v := x) rfl rfl (by kernel_rfl) (by kernel_rfl) (by kernel_rfl) (by kernel_rfl) (by kernel_rfl) (.inl ⟨rfl, fun bs wq hI => ?_⟩) ?_
      · go_simp
      simp only [Act.put, List.getElem_toArray, List.getElem_cons_zero, List.getElem_cons_succ, List.setIfInBounds_toArray, List.set_cons_zero, List.set_cons_succ]
      refine Rg3.take 2 (v := .agg #[.int .i64 (d 0), .int .i64 (d 1), .int .i64 (d 2), .int .i64 (d 3)]) rfl rfl (by kernel_rfl) (by kernel_rfl) (by kernel_rfl) (by kernel_rfl) (by kernel_rfl) (.inl ⟨rfl, fun bs wq hI => ?_⟩) ?_
      · (go_simp; exact (draw_yes HBJ.out _).mono fun e w2 h => ⟨h.1, Ro.Rp.call hI h.2⟩)
      simp only [Act.put, List.getElem_toArray, List.getElem_cons_zero, List.getElem_cons_succ, List.setIfInBounds_toArray, List.set_cons_zero, List.set_cons_succ]
      refine Rg3.gives1 3 (fun s' v => ∃ b, s' = [(b, Cm.dr d)] ∧ v = .slice (some ⟨b, 0, none⟩) 1 1) (by kernel_rfl) rfl rfl ⟨rfl, fun W hI => ⟨.slice (some ⟨W.heap.size, 0, none⟩) 1 1, W.alloc (.cells #[.int .i64 (d 0), .int .i64 (d 1), .int .i64 (d 2), .int .i64 (d 3)] 49), ?_, [(W.heap.size, Cm.dr d)], ⟨_, rfl, rfl⟩, hI.newAt W.heap.size rfl _ _ _⟩⟩ ?_
      · go_simp
      rintro s' v ⟨pb, rfl, rfl⟩
      simp only [Act.put, List.getElem_toArray, List.getElem_cons_zero, List.getElem_cons_succ, List.setIfInBounds_toArray, List.set_cons_zero, List.set_cons_succ]
      refine Rg3.done (rs := [4]) (by kernel_rfl) (by decide) (fun W hI => ?_)
      have K1 : Hid (ls.length + 1 ≤ maxLen) := Lib.hid (by have := HL.out; unfold maxLen; omega)
      have K4 : Hid ((ls.length + 1) * 32 ≤ 140737488355328) := Lib.hid (by have := HL.out; omega)
      have K5 : Hid (w.heap.size ≤ W.heap.size) := Lib.hid hI.bl.size
      refine wpAny_oneK 4 (by kernel_rfl) rfl rfl (fun K2 hK2 => ?_)
      refine wp_append_lies _ (.tmp 13) (.tmp 16) 47 rfl w.heap.size 49 i0 _ 4 32 Try.underlying47 hi0 hz0 hz1 hz3 rfl (by decide) _ _ _ rfl hI.own ⟨pb, 0, none⟩ 1 1 (Cm.dr d) rfl rfl (Ro.news_of (hI.at 0 rfl)) (one4K d) (by decide) K1.out K4.out K5.out W.heap.size rfl ?_
      intro g cap w6 h1 h2 h3 h4
      have l2 := (hI.put0 (c := d) (m := ls.length) rfl h1 h2 h3).drop (ns := [(w.heap.size + 1, [.int .i64 0]), (w.heap.size, [u])]) (fun q hq => List.mem_append_right _ hq)
      clear hI h1 h2 h3 h4 K1 K4 K5
      have HO := Lib.hid l2
      clear l2
      refine hK2 _ _ ?_
      clear hK2
      try simp only [Act.put, List.getElem_toArray, List.getElem_cons_zero, List.getElem_cons_succ, List.setIfInBounds_toArray, List.set_cons_zero, List.set_cons_succ]
      refine wpAny_oneK 5 (by kernel_rfl) rfl rfl (fun K3 hK3 => ?_)
      have hc := (HO.out.at 1 rfl).cell 0 rfl
      have hz := (HO.out.at 1 rfl).froz 0 (by simp)
      go_simp
      refine hK3 _ _ ?_
      clear hK3 hc hz
      have l2 := HO.out.set (by simp) (by simp) 1 rfl (us := [.slice (some ⟨g, 0, none⟩) (ls.length + 1) cap]) rfl
      clear HO
      have HO := Lib.hid l2
      clear l2
      try simp only [Act.put, List.getElem_toArray, List.getElem_cons_zero, List.getElem_cons_succ, List.setIfInBounds_toArray, List.set_cons_zero, List.set_cons_succ]
      refine wpAny_done (by kernel_rfl) ?_ _
      go_wp2_with fail
      go_roundw
      case rel => exact ⟨j + 1, _, by omega, by omega, by go_num, by rw [HM.out]; exact HO.out⟩
      case measure => simp [Cm.ms, intOf]; omega
    · obtain rfl : j = ds.length := by omega
      have hlt2 := HD.out
      have z1 : decide ((ds.length : Int) < (xs.length : Int)) = true := decide_eq_true (by omega)
      have z2 : (ds.length : Int) < (xs.length : Int) := by omega
      obtain ⟨b1, o1, e1, x1⟩ := HX.out _ hlt2
      have hxc : wr.cell? ⟨b1, o1 + ds.length, none⟩ = some xs[ds.length] := by simpa using x1 wr HO.out.bl 0 _ rfl
      obtain ⟨d0, hn⟩ := HNO.out
      have HN := Lib.hid hn
      clear x1 hn HB HNO
      generalize xs[ds.length] = x at *
      rw [List.take_length] at HO
      subst e1
      obtain ⟨ua, uc, rfl⟩ := (HO.out.sp Cm.dr_len).len
      go_upto_region 5 with fail
      refine Rg3.region (σ := List (Nat × List Value)) (I := fun s W => Ro.Rp 49 Cm.dr 4 w W (.slice ua ds.length uc) ds (s ++ [(w.heap.size + 1, [.int .i64 0]), (w.heap.size, [.slice ua ds.length uc])])) (dem := fun i => false) (m := 0) (g := 6) (T := fun listed s st => ∀ W, Ro.Rp 49 Cm.dr 4 w W (.slice ua ds.length uc) ds (s ++ [(w.heap.size + 1, [.int .i64 0]), (w.heap.size, [.slice ua ds.length uc])]) → wpAny Try.prog .any _ _ 6 listed st W) [] (by kernel_rfl) HO.out.drew rfl (fun _ _ _ _ h hI => h _ hI) ?_
      clear HO
      refine Rg3.done (rs := [0, 1]) (by kernel_rfl) (by decide) (fun W hI => ?_)
      have hc := (hI.at 1 rfl).cell 0 rfl
      refine wpAny_ready (rs := [0, 1]) (by kernel_rfl) (by simp) (allReady_consK rfl rfl (fun K hK => ?_) (allReady_consK rfl rfl (fun K hK => ?_) AllReady.nil))
      · go_simp
        refine hK _ _ ?_
        try simp only [Act.put, List.getElem_toArray, List.getElem_cons_zero, List.getElem_cons_succ, List.setIfInBounds_toArray, List.set_cons_zero, List.set_cons_succ]
        refine wpAny_oneK 1 (by kernel_rfl) rfl rfl (fun K3 hK3 => ?_)
        go_simp
        refine hK3 _ _ ?_
        try simp only [Act.put, List.getElem_toArray, List.getElem_cons_zero, List.getElem_cons_succ, List.setIfInBounds_toArray, List.set_cons_zero, List.set_cons_succ]
        refine wpAny_oneK 2 (by kernel_rfl) rfl rfl (fun K4 hK4 => ?_)
        go_simp
        refine (draw_no HN.out _).mono ?_
        rintro e w6 ⟨⟨T, pv, rfl⟩, hk1⟩
        have l1 := hI.call hk1
        refine leaves_cons (f := 24) (args := #[.pointer (some ⟨w.heap.size, 0, none⟩), .pointer (some ⟨w.heap.size + 1, 0, none⟩)]) (by simp) (by simp [go_sem]) ?_
        refine (catch_panic _ _ _ _ _ _ [] _ ((l1.at 1 rfl).cell 0 rfl) ((l1.at 1 rfl).froz 0 (by simp)) ((l1.at 0 rfl).cell 0 rfl) ((l1.at 0 rfl).froz 0 (by simp)) (by simp)).mono ?_
        rintro e u' w9 ⟨rfl, rfl, rfl⟩
        have l3 := l1.set (by simp) (by simp) 1 rfl (us := [.slice none 0 0]) rfl
        have l2 := l3.set (by simp) (by simp) 0 rfl (us := [.int .i64 14]) rfl
        have hc : (w6.setCell ⟨w.heap.size, 0, none⟩ (.slice none 0 0)).cell? ⟨w.heap.size, 0, none⟩ = some (.slice none 0 0) := (l3.at 1 rfl).cell 0 rfl
        have hc2 : ((w6.setCell ⟨w.heap.size, 0, none⟩ (.slice none 0 0)).setCell ⟨w.heap.size + 1, 0, none⟩ (.int .i64 14)).cell? ⟨w.heap.size + 1, 0, none⟩ = some (.int .i64 14) := (l2.at 0 rfl).cell 0 rfl
        exact ⟨.tuple #[.slice none 0 0, .int .i64 14], by simp [results, Try.results14, go_sem, hc, hc2], rfl, l2.bl⟩
      · go_simp
        refine hK _ _ ?_
        try simp only [Act.put, List.getElem_toArray, List.getElem_cons_zero, List.getElem_cons_succ, List.setIfInBounds_toArray, List.set_cons_zero, List.set_cons_succ]
        refine wpAny_ready (rs := [0, 2]) (by kernel_rfl) (by simp) (allReady_consK rfl rfl (fun K3 hK3 => ?_) (allReady_consK rfl rfl (fun K4 hK4 => ?_) AllReady.nil))
        · go_simp
          refine hK3 _ _ ?_
          try simp only [Act.put, List.getElem_toArray, List.getElem_cons_zero, List.getElem_cons_succ, List.setIfInBounds_toArray, List.set_cons_zero, List.set_cons_succ]
          refine wpAny_oneK 2 (by kernel_rfl) rfl rfl (fun K5 hK5 => ?_)
          go_simp
          refine (draw_no HN.out _).mono ?_
          rintro e w6 ⟨⟨T, pv, rfl⟩, hk1⟩
          have l1 := hI.call hk1
          refine leaves_cons (f := 24) (args := #[.pointer (some ⟨w.heap.size, 0, none⟩), .pointer (some ⟨w.heap.size + 1, 0, none⟩)]) (by simp) (by simp [go_sem]) ?_
          refine (catch_panic _ _ _ _ _ _ [] _ ((l1.at 1 rfl).cell 0 rfl) ((l1.at 1 rfl).froz 0 (by simp)) ((l1.at 0 rfl).cell 0 rfl) ((l1.at 0 rfl).froz 0 (by simp)) (by simp)).mono ?_
          rintro e u' w9 ⟨rfl, rfl, rfl⟩
          have l3 := l1.set (by simp) (by simp) 1 rfl (us := [.slice none 0 0]) rfl
          have l2 := l3.set (by simp) (by simp) 0 rfl (us := [.int .i64 14]) rfl
          have hc : (w6.setCell ⟨w.heap.size, 0, none⟩ (.slice none 0 0)).cell? ⟨w.heap.size, 0, none⟩ = some (.slice none 0 0) := (l3.at 1 rfl).cell 0 rfl
          have hc2 : ((w6.setCell ⟨w.heap.size, 0, none⟩ (.slice none 0 0)).setCell ⟨w.heap.size + 1, 0, none⟩ (.int .i64 14)).cell? ⟨w.heap.size + 1, 0, none⟩ = some (.int .i64 14) := (l2.at 0 rfl).cell 0 rfl
          exact ⟨.tuple #[.slice none 0 0, .int .i64 14], by simp [results, Try.results14, go_sem, hc, hc2], rfl, l2.bl⟩
        · skip
          go_simp
          refine (draw_no HN.out _).mono ?_
          rintro e w6 ⟨⟨T, pv, rfl⟩, hk1⟩
          have l1 := hI.call hk1
          refine leaves_cons (f := 24) (args := #[.pointer (some ⟨w.heap.size, 0, none⟩), .pointer (some ⟨w.heap.size + 1, 0, none⟩)]) (by simp) (by simp [go_sem]) ?_
          refine (catch_panic _ _ _ _ _ _ [] _ ((l1.at 1 rfl).cell 0 rfl) ((l1.at 1 rfl).froz 0 (by simp)) ((l1.at 0 rfl).cell 0 rfl) ((l1.at 0 rfl).froz 0 (by simp)) (by simp)).mono ?_
          rintro e u' w9 ⟨rfl, rfl, rfl⟩
          have l3 := l1.set (by simp) (by simp) 1 rfl (us := [.slice none 0 0]) rfl
          have l2 := l3.set (by simp) (by simp) 0 rfl (us := [.int .i64 14]) rfl
          have hc : (w6.setCell ⟨w.heap.size, 0, none⟩ (.slice none 0 0)).cell? ⟨w.heap.size, 0, none⟩ = some (.slice none 0 0) := (l3.at 1 rfl).cell 0 rfl
          have hc2 : ((w6.setCell ⟨w.heap.size, 0, none⟩ (.slice none 0 0)).setCell ⟨w.heap.size + 1, 0, none⟩ (.int .i64 14)).cell? ⟨w.heap.size + 1, 0, none⟩ = some (.int .i64 14) := (l2.at 0 rfl).cell 0 rfl
          exact ⟨.tuple #[.slice none 0 0, .int .i64 14], by simp [results, Try.results14, go_sem, hc, hc2], rfl, l2.bl⟩
end Go.Proofs.Ytkmhnfbjapfbeaa
