/-
  RectPixels: its Go text returns true.
-/
import Derived.Test.YtfgeamidgaekjaaRectPix
namespace Go.Proofs.Ytfgeamidgaekjaa
open Go.RowKit

theorem eq_nil (bp : Nat) (w : World) : (binOp .eql 41 (.func (Fn.func 26) #[] #[.pointer (some ⟨bp, 0, none⟩)]) .nilFunc).run Try.prog w = .ok (.bool false) w := by
  kernel_rfl
theorem Ow.join {w W W' : World} {ms ns : List (Nat × List Value)} (h : Ow w W ms) (k : Ow W W' ns) : Ow w W' (ns ++ ms) := by
  refine ⟨(h.call k.k).k, fun q hq => ?_, List.pairwise_append.2 ⟨k.nd, h.nd, fun p hp q hq => ?_⟩⟩
  · rcases List.mem_append.1 hq with hq | hq
    · exact ⟨(k.all q hq).1, (k.all q hq).2.1, Nat.le_trans h.k.size (k.all q hq).2.2⟩
    · exact (h.call k.k).all q hq
  · have h1 := (k.all p hp).2.2
    have h2 := h.lt hq
    omega
theorem Ow.perm {w W : World} {ms ns : List (Nat × List Value)} (h : Ow w W ms) (p : ms.Perm ns) : Ow w W ns :=
  ⟨h.k, fun q hq => h.all q (p.mem_iff.2 hq), (p.pairwise_iff (fun h => Ne.symm h)).1 h.nd⟩
theorem perm_seven {α : Type} (a b c d e f g : α) : [a, b, c, d, e, f, g].Perm [b, c, e, a, g, f, d] :=
  (List.perm_middle (l₁ := [a])).trans (.cons b ((List.perm_middle (l₁ := [a])).trans (.cons c ((List.perm_middle (l₁ := [a, d])).trans (.cons e (.cons a ((List.perm_middle (l₁ := [d, f])).trans (.cons g (List.perm_middle (l₁ := [d])))))))))) 

set_option maxHeartbeats 4000000 in
theorem pixels_no (x0 y0 x1 y1 stop : Int) (w : World) (h : Rt.small x0 y0 x1 y1 = false) :
    Calls Try.prog 5 #[.agg #[.int .i64 x0, .int .i64 y0, .int .i64 x1, .int .i64 y1], .int .u8 stop] w fun e w' => e = .returned (.bool true) ∧ Kp w.heap.size w w' := by
  have T1 := fun W => area_no x0 y0 x1 y1 W h
  have hF := eq_nil
  have HO := Lib.hid (((Ow.refl w).newAt w.heap.size rfl (.int .i64 x0) [.int .i64 y0, .int .i64 x1, .int .i64 y1] 23).newAt (w.heap.size + 1) (by simp) (.int .u8 stop) [] 5)
  go_enter Try.func5, Try.ntmps5
  go_upto_region 2 with (first
    | ((with_reducible show wpList _ _ _ ({ dst := _, op := Op.load 23 _, type := _, pos := _, after := _, guard := _ } :: _) _ _); refine wpList_ldr ty_rect rfl _ rfl _ rfl _ rfl (HO.out.at 1 rfl) ?_)
    | (go_at_call 16; refine (T1 _).mono ?_; rintro e w1 ⟨rfl, hk1⟩; have l2 := (HO.out.call hk1).newAt w1.heap.size rfl (.int .i64 0) [] 3; clear HO hk1; have HO := Lib.hid l2; clear l2))
  generalize hW : World.alloc _ _ = W at *
  generalize hB : Array.size (World.heap w1) = bn at *
  clear hW hB
  clear w1
  go_upto_region 3 with (first
    | ((with_reducible show wpList _ _ _ ({ dst := _, op := Op.load 23 _, type := _, pos := _, after := _, guard := _ } :: _) _ _); refine wpList_ldr ty_rect rfl _ rfl _ rfl _ rfl (HO.out.at 2 rfl) ?_)
    | (go_at_call 17; refine (pixels_any x0 y0 x1 y1 _).mono ?_; rintro e w1 ⟨rfl, hk1⟩; have l2 := HO.out.join hk1; clear HO hk1; have HO := Lib.hid l2; clear l2))
  generalize hB : Array.size (World.heap W) = bp at *
  clear hB W
  go_upto_region 7 with (first
    | ((with_reducible show wpList _ _ _ ({ dst := _, op := Op.load 23 _, type := _, pos := _, after := _, guard := _ } :: _) _ _); refine wpList_ldr ty_rect rfl _ rfl _ rfl _ rfl (HO.out.at 3 rfl) ?_)
    | (go_at_call 18; refine (rsmall_any x0 y0 x1 y1 _).mono ?_; rintro e w1 ⟨rfl, hk1⟩; have l2 := HO.out.call hk1; clear HO hk1; have HO := Lib.hid l2; clear l2))
  have l2 := HO.out.newAt _ rfl (.bool true) [] 4
  clear HO
  have HO := Lib.hid l2
  clear l2
  generalize hW : World.alloc _ _ = W2 at *
  generalize hB : Array.size (World.heap w1) = b2 at *
  clear hW hB
  go_upto_region 8 with (go_at_call 26; refine (px_no x0 y0 x1 y1 _ _ w _ _ 1 rfl HO.out h).mono ?_; rintro e w2 ⟨rfl, l2⟩; clear HO; have HO := Lib.hid l2; clear l2)
  have c0 := (HO.out.at 0 rfl).cell 0 rfl
  have c1 := (HO.out.at 2 rfl).cell 0 rfl
  go_wp2_with (first | go_skip | (go_at_call 13; refine (awake_any _).mono ?_; rintro e w1 ⟨rfl, hk1⟩; have l2 := HO.out.call hk1; clear HO hk1; have HO := Lib.hid l2; clear l2))
  go_ret
  exact ⟨rfl, HO.out.k⟩

set_option linter.unusedSimpArgs false in
set_option maxRecDepth 100000 in
set_option maxHeartbeats 8000000 in
theorem pixels_yes (x0 y0 x1 y1 stop : Int) (w : World) (h : Rt.small x0 y0 x1 y1 = true) (hs : 0 ≤ stop ∧ stop ≤ 255) :
    Calls Try.prog 5 #[.agg #[.int .i64 x0, .int .i64 y0, .int .i64 x1, .int .i64 y1], .int .u8 stop] w fun e w' => e = .returned (.bool true) ∧ Kp w.heap.size w w' := by
  have T1 := fun W => area_yes x0 y0 x1 y1 W h
  have T2 := fun W => rarea_any x0 y0 x1 y1 W h
  have HS := Lib.hid (Rt.small_iff.1 h)
  have HP := Lib.hid (fun bo bi bn bw br bs bp W ho => px_yes bo bi bn bw br bs bp x0 y0 x1 y1 stop w W ho h hs)
  have T3 := fun W => rlow_any (Rt.area x0 y0 x1 y1) (stop + 1) W
  obtain ⟨s1, s2⟩ := hs
  have h' := h
  generalize Rt.area x0 y0 x1 y1 = n at *
  generalize Rt.mn n (stop + 1) = K at *
  have hF := eq_nil
  have HO := Lib.hid (((Ow.refl w).newAt w.heap.size rfl (.int .i64 x0) [.int .i64 y0, .int .i64 x1, .int .i64 y1] 23).newAt (w.heap.size + 1) (by simp) (.int .u8 stop) [] 5)
  go_enter Try.func5, Try.ntmps5
  go_upto_region 2 with (first
    | ((with_reducible show wpList _ _ _ ({ dst := _, op := Op.load 23 _, type := _, pos := _, after := _, guard := _ } :: _) _ _); refine wpList_ldr ty_rect rfl _ rfl _ rfl _ rfl (HO.out.at 1 rfl) ?_)
    | (go_at_call 16; refine (T1 _).mono ?_; rintro e w1 ⟨rfl, hk1⟩; have l2 := (HO.out.call hk1).newAt w1.heap.size rfl (.int .i64 n) [] 3; clear HO hk1; have HO := Lib.hid l2; clear l2))
  generalize hW : World.alloc _ _ = W at *
  generalize hB : Array.size (World.heap w1) = bn at *
  clear hW hB
  clear w1
  go_upto_region 3 with (first
    | ((with_reducible show wpList _ _ _ ({ dst := _, op := Op.load 23 _, type := _, pos := _, after := _, guard := _ } :: _) _ _); refine wpList_ldr ty_rect rfl _ rfl _ rfl _ rfl (HO.out.at 2 rfl) ?_)
    | (go_at_call 17; refine (pixels_any x0 y0 x1 y1 _).mono ?_; rintro e w1 ⟨rfl, hk1⟩; have l2 := HO.out.join hk1; clear HO hk1; have HO := Lib.hid l2; clear l2))
  generalize hB : Array.size (World.heap W) = bp at *
  clear hB W
  go_upto_region 9 with (first
    | ((with_reducible show wpList _ _ _ ({ dst := _, op := Op.load 23 _, type := _, pos := _, after := _, guard := _ } :: _) _ _); refine wpList_ldr ty_rect rfl _ rfl _ rfl _ rfl (HO.out.at 3 rfl) ?_)
    | (go_at_call 18; refine (rsmall_any x0 y0 x1 y1 _).mono ?_; rw [h']; rintro e w1 ⟨rfl, hk1⟩; have l2 := HO.out.call hk1; clear HO hk1; have HO := Lib.hid l2; clear l2))
  generalize hms : ([(bp, [.int .i64 x0, .int .i64 y0, .int .i64 x1, .int .i64 y1])] ++ ((bn, [.int .i64 n]) :: [(w.heap.size + 1, [.int .u8 stop]), (w.heap.size, [.int .i64 x0, .int .i64 y0, .int .i64 x1, .int .i64 y1])]) : List (Nat × List Value)) = ms at *
  have HR := Lib.hid (show (w.heap.size, [.int .i64 x0, .int .i64 y0, .int .i64 x1, .int .i64 y1]) ∈ ms by rw [← hms]; simp)
  have HN := Lib.hid (show (bn, [.int .i64 n]) ∈ ms by rw [← hms]; simp)
  have HM := Lib.hid hms
  clear hms
  refine Rg.region (I := fun _ W => Ow w W ms) (dem := fun _ => false) (m := 8) (g := 0) (T := fun listed bs a' => ∀ W, Ow w W ms → wpAny Try.prog .any _ _ 0 listed a' W) (by kernel_rfl) HO.out.drew rfl (fun _ _ _ _ h hI => h _ hI) ?_
  clear HO
  refine Rg.take 0 (v := .int .i64 0) rfl rfl (by kernel_rfl) (by kernel_rfl) (by kernel_rfl) (by kernel_rfl) (by kernel_rfl) (.inl ⟨rfl, fun bs wq hI => ?_⟩) ?_
  · go_simp
  simp only [Act.put, List.getElem_toArray, List.getElem_cons_zero, List.getElem_cons_succ, List.setIfInBounds_toArray, List.set_cons_zero, List.set_cons_succ]
  refine Rg.take 1 (v := .bool false) rfl rfl (by kernel_rfl) (by kernel_rfl) (by kernel_rfl) (by kernel_rfl) (by kernel_rfl) (.inl ⟨rfl, fun bs wq hI => ?_⟩) ?_
  · go_simp
  simp only [Act.put, List.getElem_toArray, List.getElem_cons_zero, List.getElem_cons_succ, List.setIfInBounds_toArray, List.set_cons_zero, List.set_cons_succ]
  refine Rg.take 2 (v := .bool false) rfl rfl (by kernel_rfl) (by kernel_rfl) (by kernel_rfl) (by kernel_rfl) (by kernel_rfl) (.inl ⟨rfl, fun bs wq hI => ?_⟩) ?_
  · go_simp
  simp only [Act.put, List.getElem_toArray, List.getElem_cons_zero, List.getElem_cons_succ, List.setIfInBounds_toArray, List.set_cons_zero, List.set_cons_succ]
  refine Rg.take 3 (v := .int .i64 n) rfl rfl (by kernel_rfl) (by kernel_rfl) (by kernel_rfl) (by kernel_rfl) (by kernel_rfl) (.inl ⟨rfl, fun bs wq hI => ?_⟩) ?_
  · (have c := (hI.mem HN.out).cell 0 rfl; go_simp)
  simp only [Act.put, List.getElem_toArray, List.getElem_cons_zero, List.getElem_cons_succ, List.setIfInBounds_toArray, List.set_cons_zero, List.set_cons_succ]
  refine Rg.take 4 (v := .agg #[.int .i64 x0, .int .i64 y0, .int .i64 x1, .int .i64 y1]) rfl rfl (by kernel_rfl) (by kernel_rfl) (by kernel_rfl) (by kernel_rfl) (by kernel_rfl) (.inl ⟨rfl, fun bs wq hI => ?_⟩) ?_
  · exact quiet_ldr ty_rect (.tmp 2) rfl rfl rfl (hI.mem HR.out)
  simp only [Act.put, List.getElem_toArray, List.getElem_cons_zero, List.getElem_cons_succ, List.setIfInBounds_toArray, List.set_cons_zero, List.set_cons_succ]
  refine Rg.take 5 (v := .int .i64 n) rfl rfl (by kernel_rfl) (by kernel_rfl) (by kernel_rfl) (by kernel_rfl) (by kernel_rfl) (.inl ⟨rfl, fun bs wq hI => ?_⟩) ?_
  · (go_simp; exact (T2 _).mono fun e w2 h => ⟨h.1, hI.call h.2⟩)
  simp only [Act.put, List.getElem_toArray, List.getElem_cons_zero, List.getElem_cons_succ, List.setIfInBounds_toArray, List.set_cons_zero, List.set_cons_succ]
  refine Rg.take 6 (v := .bool false) rfl rfl (by kernel_rfl) (by kernel_rfl) (by kernel_rfl) (by kernel_rfl) (by kernel_rfl) (.inl ⟨rfl, fun bs wq hI => ?_⟩) ?_
  · go_simp
  simp only [Act.put, List.getElem_toArray, List.getElem_cons_zero, List.getElem_cons_succ, List.setIfInBounds_toArray, List.set_cons_zero, List.set_cons_succ]
  refine Rg.take 7 (v := .bool false) rfl rfl (by kernel_rfl) (by kernel_rfl) (by kernel_rfl) (by kernel_rfl) (by kernel_rfl) (.inl ⟨rfl, fun bs wq hI => ?_⟩) ?_
  · go_simp
  simp only [Act.put, List.getElem_toArray, List.getElem_cons_zero, List.getElem_cons_succ, List.setIfInBounds_toArray, List.set_cons_zero, List.set_cons_succ]
  refine Rg.done (rs := []) (by kernel_rfl) (by decide) (fun W hI => ?_)
  rw [← HM.out] at hI
  have HO := Lib.hid hI
  clear hI HM HR HN ms w1
  refine wpAny_done (by kernel_rfl) ?_ _
  go_upto_region 12 with fail
  have l2 := HO.out.newAt _ rfl (.int .i64 0) [] 3
  clear HO
  have HO := Lib.hid l2
  clear l2
  generalize hW : World.alloc _ _ = W2 at *
  generalize hB : Array.size (World.heap W) = bi at *
  clear hW hB W
  go_upto_region 13 with fail
  have l2 := HO.out.newAt _ rfl (.bool true) [] 4
  clear HO
  have HO := Lib.hid l2
  clear l2
  generalize hW : World.alloc _ _ = W3 at *
  generalize hB : Array.size (World.heap W2) = bo at *
  clear hW hB W2
  obtain ⟨⟨a1, a2⟩, -, ⟨a3, a4⟩, -⟩ := HS.out
  have c0 := (HO.out.at 5 rfl).cell 0 rfl
  have c2 := (HO.out.at 5 rfl).cell 2 rfl
  go_upto_region 14 with fail
  clear c0 c2
  have l2 := HO.out.newAt _ rfl (.int .i64 (x1 - x0)) [] 3
  clear HO
  have HO := Lib.hid (l2.perm (perm_seven _ _ _ _ _ _ _))
  clear l2
  generalize hW : World.alloc _ _ = W4 at *
  generalize hB : Array.size (World.heap W3) = bw at *
  clear hW hB W3
  go_upto_region 15 with (go_at_call 26; refine (HP.out bo bi bn bw _ _ bp _ HO.out).mono ?_; rintro e w2 ⟨rfl, l2⟩; clear HO; have HO := Lib.hid l2; clear l2)
  generalize hms : Pb bo bi bn bw w.heap.size (w.heap.size + 1) bp x0 y0 x1 y1 n (x1 - x0) stop K = ms at *
  have HK := Lib.hid (show (bo, [.bool true]) ∈ ms by rw [← hms]; simp [Pb])
  have HI := Lib.hid (show (bi, [.int .i64 K]) ∈ ms by rw [← hms]; simp [Pb])
  have HN := Lib.hid (show (bn, [.int .i64 n]) ∈ ms by rw [← hms]; simp [Pb])
  have HZ := Lib.hid (show (w.heap.size + 1, [.int .u8 stop]) ∈ ms by rw [← hms]; simp [Pb])
  clear hms
  refine Rg.region (I := fun _ W => Ow w W ms) (dem := fun _ => false) (m := 14) (g := 0) (T := fun listed bs a' => ∀ W, Ow w W ms → wpAny Try.prog .any _ _ 0 listed a' W) (by kernel_rfl) HO.out.drew rfl (fun _ _ _ _ h hI => h _ hI) ?_
  clear HO
  refine Rg.take 0 (v := .bool true) rfl rfl (by kernel_rfl) (by kernel_rfl) (by kernel_rfl) (by kernel_rfl) (by kernel_rfl) (.inl ⟨rfl, fun bs wq hI => ?_⟩) ?_
  · (have c := (hI.mem HK.out).cell 0 rfl; go_simp)
  simp only [Act.put, List.getElem_toArray, List.getElem_cons_zero, List.getElem_cons_succ, List.setIfInBounds_toArray, List.set_cons_zero, List.set_cons_succ]
  refine Rg.take 1 (v := .bool true) rfl rfl (by kernel_rfl) (by kernel_rfl) (by kernel_rfl) (by kernel_rfl) (by kernel_rfl) (.inl ⟨rfl, fun bs wq hI => ?_⟩) ?_
  · go_simp
  simp only [Act.put, List.getElem_toArray, List.getElem_cons_zero, List.getElem_cons_succ, List.setIfInBounds_toArray, List.set_cons_zero, List.set_cons_succ]
  refine Rg.take 2 (v := .int .i64 K) rfl rfl (by kernel_rfl) (by kernel_rfl) (by kernel_rfl) (by kernel_rfl) (by kernel_rfl) (.inl ⟨rfl, fun bs wq hI => ?_⟩) ?_
  · (have c := (hI.mem HI.out).cell 0 rfl; go_simp)
  simp only [Act.put, List.getElem_toArray, List.getElem_cons_zero, List.getElem_cons_succ, List.setIfInBounds_toArray, List.set_cons_zero, List.set_cons_succ]
  refine Rg.take 3 (v := .int .i64 n) rfl rfl (by kernel_rfl) (by kernel_rfl) (by kernel_rfl) (by kernel_rfl) (by kernel_rfl) (.inl ⟨rfl, fun bs wq hI => ?_⟩) ?_
  · (have c := (hI.mem HN.out).cell 0 rfl; go_simp)
  simp only [Act.put, List.getElem_toArray, List.getElem_cons_zero, List.getElem_cons_succ, List.setIfInBounds_toArray, List.set_cons_zero, List.set_cons_succ]
  refine Rg.take 4 (v := .int .u8 stop) rfl rfl (by kernel_rfl) (by kernel_rfl) (by kernel_rfl) (by kernel_rfl) (by kernel_rfl) (.inl ⟨rfl, fun bs wq hI => ?_⟩) ?_
  · (have c := (hI.mem HZ.out).cell 0 rfl; go_simp)
  simp only [Act.put, List.getElem_toArray, List.getElem_cons_zero, List.getElem_cons_succ, List.setIfInBounds_toArray, List.set_cons_zero, List.set_cons_succ]
  refine Rg.take 5 (v := .int .i64 stop) rfl rfl (by kernel_rfl) (by kernel_rfl) (by kernel_rfl) (by kernel_rfl) (by kernel_rfl) (.inl ⟨rfl, fun bs wq hI => ?_⟩) ?_
  · (go_simp; exact Rt.wrap (by omega))
  simp only [Act.put, List.getElem_toArray, List.getElem_cons_zero, List.getElem_cons_succ, List.setIfInBounds_toArray, List.set_cons_zero, List.set_cons_succ]
  refine Rg.take 6 (v := .int .i64 (stop + 1)) rfl rfl (by kernel_rfl) (by kernel_rfl) (by kernel_rfl) (by kernel_rfl) (by kernel_rfl) (.inl ⟨rfl, fun bs wq hI => ?_⟩) ?_
  · (go_simp; exact Rt.wrap (by omega))
  simp only [Act.put, List.getElem_toArray, List.getElem_cons_zero, List.getElem_cons_succ, List.setIfInBounds_toArray, List.set_cons_zero, List.set_cons_succ]
  refine Rg.take 7 (v := .int .i64 K) rfl rfl (by kernel_rfl) (by kernel_rfl) (by kernel_rfl) (by kernel_rfl) (by kernel_rfl) (.inl ⟨rfl, fun bs wq hI => ?_⟩) ?_
  · (go_simp; exact (T3 _).mono fun e w2 h => ⟨h.1, h.2 ▸ hI⟩)
  simp only [Act.put, List.getElem_toArray, List.getElem_cons_zero, List.getElem_cons_succ, List.setIfInBounds_toArray, List.set_cons_zero, List.set_cons_succ]
  refine Rg.take 8 (v := .bool true) rfl rfl (by kernel_rfl) (by kernel_rfl) (by kernel_rfl) (by kernel_rfl) (by kernel_rfl) (.inl ⟨rfl, fun bs wq hI => ?_⟩) ?_
  · go_simp
  simp only [Act.put, List.getElem_toArray, List.getElem_cons_zero, List.getElem_cons_succ, List.setIfInBounds_toArray, List.set_cons_zero, List.set_cons_succ]
  refine Rg.take 9 (v := .bool true) rfl rfl (by kernel_rfl) (by kernel_rfl) (by kernel_rfl) (by kernel_rfl) (by kernel_rfl) (.inl ⟨rfl, fun bs wq hI => ?_⟩) ?_
  · go_simp
  simp only [Act.put, List.getElem_toArray, List.getElem_cons_zero, List.getElem_cons_succ, List.setIfInBounds_toArray, List.set_cons_zero, List.set_cons_succ]
  refine Rg.take 10 (v := .bool true) rfl rfl (by kernel_rfl) (by kernel_rfl) (by kernel_rfl) (by kernel_rfl) (by kernel_rfl) (.inl ⟨rfl, fun bs wq hI => ?_⟩) ?_
  · go_simp
  simp only [Act.put, List.getElem_toArray, List.getElem_cons_zero, List.getElem_cons_succ, List.setIfInBounds_toArray, List.set_cons_zero, List.set_cons_succ]
  refine Rg.take 11 (v := .bool true) rfl rfl (by kernel_rfl) (by kernel_rfl) (by kernel_rfl) (by kernel_rfl) (by kernel_rfl) (.inl ⟨rfl, fun bs wq hI => ?_⟩) ?_
  · (go_simp; exact (awake_any _).mono fun e w2 h => ⟨h.1, hI.call h.2⟩)
  simp only [Act.put, List.getElem_toArray, List.getElem_cons_zero, List.getElem_cons_succ, List.setIfInBounds_toArray, List.set_cons_zero, List.set_cons_succ]
  refine Rg.take 12 (v := .bool true) rfl rfl (by kernel_rfl) (by kernel_rfl) (by kernel_rfl) (by kernel_rfl) (by kernel_rfl) (.inl ⟨rfl, fun bs wq hI => ?_⟩) ?_
  · go_simp
  simp only [Act.put, List.getElem_toArray, List.getElem_cons_zero, List.getElem_cons_succ, List.setIfInBounds_toArray, List.set_cons_zero, List.set_cons_succ]
  refine Rg.take 13 (v := .bool true) rfl rfl (by kernel_rfl) (by kernel_rfl) (by kernel_rfl) (by kernel_rfl) (by kernel_rfl) (.inl ⟨rfl, fun bs wq hI => ?_⟩) ?_
  · go_simp
  simp only [Act.put, List.getElem_toArray, List.getElem_cons_zero, List.getElem_cons_succ, List.setIfInBounds_toArray, List.set_cons_zero, List.set_cons_succ]
  refine Rg.done (rs := []) (by kernel_rfl) (by decide) (fun W hI => ?_)
  have KK := Lib.hid hI.k
  clear hI
  refine wpAny_done (by kernel_rfl) ?_ _
  go_wp2_with fail
  go_ret
  exact ⟨rfl, KK.out⟩

theorem pixels_walk (x0 y0 x1 y1 stop : Int) (w : World) (hs : (Lit.int .u8 stop).wf = true) :
    Calls Try.prog 5 #[.agg #[.int .i64 x0, .int .i64 y0, .int .i64 x1, .int .i64 y1], .int .u8 stop] w fun e w' => e = .returned (.bool true) ∧ Kp w.heap.size w w' := by
  cases h : Rt.small x0 y0 x1 y1
  · exact pixels_no x0 y0 x1 y1 stop w h
  · exact pixels_yes x0 y0 x1 y1 stop w h (by simpa [Lit.wf, IntKind.min, IntKind.max, IntKind.signed, IntKind.bits] using hs)
end Go.Proofs.Ytfgeamidgaekjaa
