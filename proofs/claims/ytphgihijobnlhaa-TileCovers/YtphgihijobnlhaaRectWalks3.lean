/-
  Contracts of layer 10 (rect): And, Around, Pixels; the document's own; what must come at any rate.
-/
import Derived.Test.YtphgihijobnlhaaRectWalks2
namespace Go.Proofs.Ytphgihijobnlhaa
open Go.RowKit

set_option maxHeartbeats 1000000 in
theorem and_any (a0 a1 a2 a3 b0 b1 b2 b3 c0 c1 c2 c3 : Int) (w : World) (h : Rt.And a0 a1 a2 a3 b0 b1 b2 b3 c0 c1 c2 c3) :
    Calls Try.prog 25 #[.agg #[.int .i64 a0, .int .i64 a1, .int .i64 a2, .int .i64 a3], .agg #[.int .i64 b0, .int .i64 b1, .int .i64 b2, .int .i64 b3]] w fun e w' => e = .returned (.agg #[.int .i64 c0, .int .i64 c1, .int .i64 c2, .int .i64 c3]) ∧ Kp w.heap.size w w' := by
  rcases h with ⟨h, rfl, rfl, rfl, rfl⟩ | ⟨h, rfl, rfl, rfl, rfl⟩
  · skip
    have e0 : (if a0 < b0 then b0 else a0) = Rt.mx a0 b0 := rfl
    have e1 : (if a1 < b1 then b1 else a1) = Rt.mx a1 b1 := rfl
    have e2 : (if b2 < a2 then b2 else a2) = Rt.mn a2 b2 := rfl
    have e3 : (if b3 < a3 then b3 else a3) = Rt.mn a3 b3 := rfl
    have HO := Lib.hid (((((Ow.refl w).newAt w.heap.size rfl (.int .i64 a0) [.int .i64 a1, .int .i64 a2, .int .i64 a3] 33).newAt (w.heap.size + 1) (by simp) (.int .i64 b0) [.int .i64 b1, .int .i64 b2, .int .i64 b3] 33).newAt (w.heap.size + 2) (by simp) (.int .i64 0) [.int .i64 0, .int .i64 0, .int .i64 0] 33).newAt (w.heap.size + 3) (by simp) (.int .i64 (Rt.mx a0 b0)) [.int .i64 (Rt.mx a1 b1), .int .i64 (Rt.mn a2 b2), .int .i64 (Rt.mn a3 b3)] 33)
    go_enter Try.func25, Try.ntmps25
    go_wp2_with (first
      | ((with_reducible show wpList _ _ _ ({ dst := _, op := Op.load 33 _, type := _, pos := _, after := _, guard := _ } :: _) _ _); refine wpList_ldr ty_rect rfl _ rfl _ rfl _ rfl (HO.out.at 0 rfl) ?_)
      | ((with_reducible show wpList _ _ _ ({ dst := _, op := Op.store 33 _ _, type := _, pos := _, after := _, guard := _ } :: _) _ _); refine wpList_sto ty_rect HO.out 1 [.int .i64 0, .int .i64 0, .int .i64 0, .int .i64 0] rfl _ _ rfl _ rfl rfl _ rfl rfl rfl rfl ?_; intro w2 l2; clear HO; have HO := Lib.hid l2; clear l2)
      | (go_at_call 28; refine (empty_any _ _ _ _ _).mono ?_; rintro e w1 ⟨rfl, hk1⟩; have l2 := HO.out.call hk1; clear HO hk1; have HO := Lib.hid l2; clear l2))
    exact bodyPost_ret (results_c ty_rect rfl rfl rfl (HO.out.at 1 rfl)) rfl ⟨rfl, HO.out.k⟩
  · skip
    have e0 : (if a0 < b0 then b0 else a0) = Rt.mx a0 b0 := rfl
    have e1 : (if a1 < b1 then b1 else a1) = Rt.mx a1 b1 := rfl
    have e2 : (if b2 < a2 then b2 else a2) = Rt.mn a2 b2 := rfl
    have e3 : (if b3 < a3 then b3 else a3) = Rt.mn a3 b3 := rfl
    have HO := Lib.hid (((((Ow.refl w).newAt w.heap.size rfl (.int .i64 a0) [.int .i64 a1, .int .i64 a2, .int .i64 a3] 33).newAt (w.heap.size + 1) (by simp) (.int .i64 b0) [.int .i64 b1, .int .i64 b2, .int .i64 b3] 33).newAt (w.heap.size + 2) (by simp) (.int .i64 0) [.int .i64 0, .int .i64 0, .int .i64 0] 33).newAt (w.heap.size + 3) (by simp) (.int .i64 (Rt.mx a0 b0)) [.int .i64 (Rt.mx a1 b1), .int .i64 (Rt.mn a2 b2), .int .i64 (Rt.mn a3 b3)] 33)
    go_enter Try.func25, Try.ntmps25
    go_wp2_with (first
      | ((with_reducible show wpList _ _ _ ({ dst := _, op := Op.load 33 _, type := _, pos := _, after := _, guard := _ } :: _) _ _); refine wpList_ldr ty_rect rfl _ rfl _ rfl _ rfl (HO.out.at 0 rfl) ?_)
      | ((with_reducible show wpList _ _ _ ({ dst := _, op := Op.store 33 _ _, type := _, pos := _, after := _, guard := _ } :: _) _ _); refine wpList_sto ty_rect HO.out 1 [.int .i64 (Rt.mx a0 b0), .int .i64 (Rt.mx a1 b1), .int .i64 (Rt.mn a2 b2), .int .i64 (Rt.mn a3 b3)] rfl _ _ rfl _ rfl rfl _ rfl rfl rfl rfl ?_; intro w2 l2; clear HO; have HO := Lib.hid l2; clear l2)
      | (go_at_call 28; refine (empty_any _ _ _ _ _).mono ?_; rintro e w1 ⟨rfl, hk1⟩; have l2 := HO.out.call hk1; clear HO hk1; have HO := Lib.hid l2; clear l2))
    exact bodyPost_ret (results_c ty_rect rfl rfl rfl (HO.out.at 1 rfl)) rfl ⟨rfl, HO.out.k⟩


theorem makes_rect {w : World} {ms : List (Nat × List Value)} (a : Act) (o : Oper) (ho : o.op = .alloc 33) (bs : List Nat) (W : World) (hI : Mk w [.int .i64 0, .int .i64 0, .int .i64 0, .int .i64 0] ms bs W) :
    ∃ w1, (execOp a.eval o).run Try.prog W = .ok (.value (.pointer (some ⟨W.heap.size, 0, none⟩))) w1 ∧ Mk w [.int .i64 0, .int .i64 0, .int .i64 0, .int .i64 0] ms (W.heap.size :: bs) w1 ∧ W.heap.size ∉ bs := by
  refine ⟨W.alloc (.cells #[.int .i64 0, .int .i64 0, .int .i64 0, .int .i64 0] 33), ?_, (hI.make 33).1, (hI.make 33).2⟩
  simp [execOp, ho, go_sem]
/-- the blocks of Both -/
def Bb (w : World) (a0 a1 a2 a3 b0 b1 b2 b3 : Int) : List (Nat × List Value) :=
  [(w.heap.size + 2, [.int .i64 0, .int .i64 0, .int .i64 0, .int .i64 0]), (w.heap.size + 1, [.int .i64 b0, .int .i64 b1, .int .i64 b2, .int .i64 b3]), (w.heap.size, [.int .i64 a0, .int .i64 a1, .int .i64 a2, .int .i64 a3])]
set_option linter.unusedSimpArgs false in
set_option maxHeartbeats 4000000 in
theorem rboth_any (a0 a1 a2 a3 b0 b1 b2 b3 c0 c1 c2 c3 : Int) (w : World) (h : Rt.And a0 a1 a2 a3 b0 b1 b2 b3 c0 c1 c2 c3) :
    Calls Try.prog 27 #[.agg #[.int .i64 a0, .int .i64 a1, .int .i64 a2, .int .i64 a3], .agg #[.int .i64 b0, .int .i64 b1, .int .i64 b2, .int .i64 b3]] w fun e w' => e = .returned (.agg #[.int .i64 c0, .int .i64 c1, .int .i64 c2, .int .i64 c3]) ∧ Kp w.heap.size w w' := by
  rcases h with ⟨h, rfl, rfl, rfl, rfl⟩ | ⟨h, rfl, rfl, rfl, rfl⟩
  · skip
    have HO := Lib.hid ((((Ow.refl w).newAt w.heap.size rfl (.int .i64 a0) [.int .i64 a1, .int .i64 a2, .int .i64 a3] 33).newAt (w.heap.size + 1) (by simp) (.int .i64 b0) [.int .i64 b1, .int .i64 b2, .int .i64 b3] 33).newAt (w.heap.size + 2) (by simp) (.int .i64 0) [.int .i64 0, .int .i64 0, .int .i64 0] 33)
    have HA := Lib.hid (show (w.heap.size, [.int .i64 a0, .int .i64 a1, .int .i64 a2, .int .i64 a3]) ∈ Bb w a0 a1 a2 a3 b0 b1 b2 b3 by simp [Bb])
    have HB := Lib.hid (show (w.heap.size + 1, [.int .i64 b0, .int .i64 b1, .int .i64 b2, .int .i64 b3]) ∈ Bb w a0 a1 a2 a3 b0 b1 b2 b3 by simp [Bb])
    go_enter Try.func27, Try.ntmps27
    go_upto_region 1 with fail
    go_cut [5] (fun s5 wx => ∃ p : Nat, s5 = .pointer (some ⟨p, 0, none⟩) ∧ Ow w wx ((p, [.int .i64 (Rt.mx a0 b0), .int .i64 (Rt.mx a1 b1), .int .i64 (Rt.mn a2 b2), .int .i64 (Rt.mn a3 b3)]) :: Bb w a0 a1 a2 a3 b0 b1 b2 b3))
    case first =>
      refine Rg.region (I := Mk w [.int .i64 0, .int .i64 0, .int .i64 0, .int .i64 0] (Bb w a0 a1 a2 a3 b0 b1 b2 b3)) (dem := fun i => decide (21 ≤ i)) (m := 22) (g := 1) (T := fun listed bs st => ∀ W, Mk w [.int .i64 0, .int .i64 0, .int .i64 0, .int .i64 0] (Bb w a0 a1 a2 a3 b0 b1 b2 b3) bs W → wpAny Try.prog .any _ _ 1 listed st W) (by kernel_rfl) HO.out.drew rfl (fun _ _ _ _ h hI => h _ hI) ?_
      clear HO
      refine Rg.take 0 (v := .pointer (some ⟨w.heap.size, 0, none⟩)) rfl rfl (by kernel_rfl) (by kernel_rfl) (by kernel_rfl) (by kernel_rfl) (by kernel_rfl) (.inl ⟨rfl, fun bs wq hI => ?_⟩) ?_
      · go_simp
      simp only [Act.put, List.getElem_toArray, List.getElem_cons_zero, List.getElem_cons_succ, List.setIfInBounds_toArray, List.set_cons_zero, List.set_cons_succ]
      refine Rg.take 1 (v := .int .i64 a0) rfl rfl (by kernel_rfl) (by kernel_rfl) (by kernel_rfl) (by kernel_rfl) (by kernel_rfl) (.inl ⟨rfl, fun bs wq hI => ?_⟩) ?_
      · (have c := (Ow.mem hI (List.mem_append_right _ HA.out)).cell 0 rfl; go_simp)
      simp only [Act.put, List.getElem_toArray, List.getElem_cons_zero, List.getElem_cons_succ, List.setIfInBounds_toArray, List.set_cons_zero, List.set_cons_succ]
      refine Rg.take 2 (v := .pointer (some ⟨w.heap.size + 1, 0, none⟩)) rfl rfl (by kernel_rfl) (by kernel_rfl) (by kernel_rfl) (by kernel_rfl) (by kernel_rfl) (.inl ⟨rfl, fun bs wq hI => ?_⟩) ?_
      · go_simp
      simp only [Act.put, List.getElem_toArray, List.getElem_cons_zero, List.getElem_cons_succ, List.setIfInBounds_toArray, List.set_cons_zero, List.set_cons_succ]
      refine Rg.take 3 (v := .int .i64 b0) rfl rfl (by kernel_rfl) (by kernel_rfl) (by kernel_rfl) (by kernel_rfl) (by kernel_rfl) (.inl ⟨rfl, fun bs wq hI => ?_⟩) ?_
      · (have c := (Ow.mem hI (List.mem_append_right _ HB.out)).cell 0 rfl; go_simp)
      simp only [Act.put, List.getElem_toArray, List.getElem_cons_zero, List.getElem_cons_succ, List.setIfInBounds_toArray, List.set_cons_zero, List.set_cons_succ]
      refine Rg.take 4 (v := .int .i64 (Rt.mx a0 b0)) rfl rfl (by kernel_rfl) (by kernel_rfl) (by kernel_rfl) (by kernel_rfl) (by kernel_rfl) (.inl ⟨rfl, fun bs wq hI => ?_⟩) ?_
      · (go_simp; exact (rhigh_any _ _ _).mono fun e w2 h => ⟨h.1, h.2 ▸ hI⟩)
      simp only [Act.put, List.getElem_toArray, List.getElem_cons_zero, List.getElem_cons_succ, List.setIfInBounds_toArray, List.set_cons_zero, List.set_cons_succ]
      refine Rg.take 5 (v := .pointer (some ⟨w.heap.size, 1, none⟩)) rfl rfl (by kernel_rfl) (by kernel_rfl) (by kernel_rfl) (by kernel_rfl) (by kernel_rfl) (.inl ⟨rfl, fun bs wq hI => ?_⟩) ?_
      · go_simp
      simp only [Act.put, List.getElem_toArray, List.getElem_cons_zero, List.getElem_cons_succ, List.setIfInBounds_toArray, List.set_cons_zero, List.set_cons_succ]
      refine Rg.take 6 (v := .int .i64 a1) rfl rfl (by kernel_rfl) (by kernel_rfl) (by kernel_rfl) (by kernel_rfl) (by kernel_rfl) (.inl ⟨rfl, fun bs wq hI => ?_⟩) ?_
      · (have c := (Ow.mem hI (List.mem_append_right _ HA.out)).cell 1 rfl; go_simp)
      simp only [Act.put, List.getElem_toArray, List.getElem_cons_zero, List.getElem_cons_succ, List.setIfInBounds_toArray, List.set_cons_zero, List.set_cons_succ]
      refine Rg.take 7 (v := .pointer (some ⟨w.heap.size + 1, 1, none⟩)) rfl rfl (by kernel_rfl) (by kernel_rfl) (by kernel_rfl) (by kernel_rfl) (by kernel_rfl) (.inl ⟨rfl, fun bs wq hI => ?_⟩) ?_
      · go_simp
      simp only [Act.put, List.getElem_toArray, List.getElem_cons_zero, List.getElem_cons_succ, List.setIfInBounds_toArray, List.set_cons_zero, List.set_cons_succ]
      refine Rg.take 8 (v := .int .i64 b1) rfl rfl (by kernel_rfl) (by kernel_rfl) (by kernel_rfl) (by kernel_rfl) (by kernel_rfl) (.inl ⟨rfl, fun bs wq hI => ?_⟩) ?_
      · (have c := (Ow.mem hI (List.mem_append_right _ HB.out)).cell 1 rfl; go_simp)
      simp only [Act.put, List.getElem_toArray, List.getElem_cons_zero, List.getElem_cons_succ, List.setIfInBounds_toArray, List.set_cons_zero, List.set_cons_succ]
      refine Rg.take 9 (v := .int .i64 (Rt.mx a1 b1)) rfl rfl (by kernel_rfl) (by kernel_rfl) (by kernel_rfl) (by kernel_rfl) (by kernel_rfl) (.inl ⟨rfl, fun bs wq hI => ?_⟩) ?_
      · (go_simp; exact (rhigh_any _ _ _).mono fun e w2 h => ⟨h.1, h.2 ▸ hI⟩)
      simp only [Act.put, List.getElem_toArray, List.getElem_cons_zero, List.getElem_cons_succ, List.setIfInBounds_toArray, List.set_cons_zero, List.set_cons_succ]
      refine Rg.take 10 (v := .pointer (some ⟨w.heap.size, 2, none⟩)) rfl rfl (by kernel_rfl) (by kernel_rfl) (by kernel_rfl) (by kernel_rfl) (by kernel_rfl) (.inl ⟨rfl, fun bs wq hI => ?_⟩) ?_
      · go_simp
      simp only [Act.put, List.getElem_toArray, List.getElem_cons_zero, List.getElem_cons_succ, List.setIfInBounds_toArray, List.set_cons_zero, List.set_cons_succ]
      refine Rg.take 11 (v := .int .i64 a2) rfl rfl (by kernel_rfl) (by kernel_rfl) (by kernel_rfl) (by kernel_rfl) (by kernel_rfl) (.inl ⟨rfl, fun bs wq hI => ?_⟩) ?_
      · (have c := (Ow.mem hI (List.mem_append_right _ HA.out)).cell 2 rfl; go_simp)
      simp only [Act.put, List.getElem_toArray, List.getElem_cons_zero, List.getElem_cons_succ, List.setIfInBounds_toArray, List.set_cons_zero, List.set_cons_succ]
      refine Rg.take 12 (v := .pointer (some ⟨w.heap.size + 1, 2, none⟩)) rfl rfl (by kernel_rfl) (by kernel_rfl) (by kernel_rfl) (by kernel_rfl) (by kernel_rfl) (.inl ⟨rfl, fun bs wq hI => ?_⟩) ?_
      · go_simp
      simp only [Act.put, List.getElem_toArray, List.getElem_cons_zero, List.getElem_cons_succ, List.setIfInBounds_toArray, List.set_cons_zero, List.set_cons_succ]
      refine Rg.take 13 (v := .int .i64 b2) rfl rfl (by kernel_rfl) (by kernel_rfl) (by kernel_rfl) (by kernel_rfl) (by kernel_rfl) (.inl ⟨rfl, fun bs wq hI => ?_⟩) ?_
      · (have c := (Ow.mem hI (List.mem_append_right _ HB.out)).cell 2 rfl; go_simp)
      simp only [Act.put, List.getElem_toArray, List.getElem_cons_zero, List.getElem_cons_succ, List.setIfInBounds_toArray, List.set_cons_zero, List.set_cons_succ]
      refine Rg.take 14 (v := .int .i64 (Rt.mn a2 b2)) rfl rfl (by kernel_rfl) (by kernel_rfl) (by kernel_rfl) (by kernel_rfl) (by kernel_rfl) (.inl ⟨rfl, fun bs wq hI => ?_⟩) ?_
      · (go_simp; exact (rlow_any _ _ _).mono fun e w2 h => ⟨h.1, h.2 ▸ hI⟩)
      simp only [Act.put, List.getElem_toArray, List.getElem_cons_zero, List.getElem_cons_succ, List.setIfInBounds_toArray, List.set_cons_zero, List.set_cons_succ]
      refine Rg.take 15 (v := .pointer (some ⟨w.heap.size, 3, none⟩)) rfl rfl (by kernel_rfl) (by kernel_rfl) (by kernel_rfl) (by kernel_rfl) (by kernel_rfl) (.inl ⟨rfl, fun bs wq hI => ?_⟩) ?_
      · go_simp
      simp only [Act.put, List.getElem_toArray, List.getElem_cons_zero, List.getElem_cons_succ, List.setIfInBounds_toArray, List.set_cons_zero, List.set_cons_succ]
      refine Rg.take 16 (v := .int .i64 a3) rfl rfl (by kernel_rfl) (by kernel_rfl) (by kernel_rfl) (by kernel_rfl) (by kernel_rfl) (.inl ⟨rfl, fun bs wq hI => ?_⟩) ?_
      · (have c := (Ow.mem hI (List.mem_append_right _ HA.out)).cell 3 rfl; go_simp)
      simp only [Act.put, List.getElem_toArray, List.getElem_cons_zero, List.getElem_cons_succ, List.setIfInBounds_toArray, List.set_cons_zero, List.set_cons_succ]
      refine Rg.take 17 (v := .pointer (some ⟨w.heap.size + 1, 3, none⟩)) rfl rfl (by kernel_rfl) (by kernel_rfl) (by kernel_rfl) (by kernel_rfl) (by kernel_rfl) (.inl ⟨rfl, fun bs wq hI => ?_⟩) ?_
      · go_simp
      simp only [Act.put, List.getElem_toArray, List.getElem_cons_zero, List.getElem_cons_succ, List.setIfInBounds_toArray, List.set_cons_zero, List.set_cons_succ]
      refine Rg.take 18 (v := .int .i64 b3) rfl rfl (by kernel_rfl) (by kernel_rfl) (by kernel_rfl) (by kernel_rfl) (by kernel_rfl) (.inl ⟨rfl, fun bs wq hI => ?_⟩) ?_
      · (have c := (Ow.mem hI (List.mem_append_right _ HB.out)).cell 3 rfl; go_simp)
      simp only [Act.put, List.getElem_toArray, List.getElem_cons_zero, List.getElem_cons_succ, List.setIfInBounds_toArray, List.set_cons_zero, List.set_cons_succ]
      refine Rg.take 19 (v := .int .i64 (Rt.mn a3 b3)) rfl rfl (by kernel_rfl) (by kernel_rfl) (by kernel_rfl) (by kernel_rfl) (by kernel_rfl) (.inl ⟨rfl, fun bs wq hI => ?_⟩) ?_
      · (go_simp; exact (rlow_any _ _ _).mono fun e w2 h => ⟨h.1, h.2 ▸ hI⟩)
      simp only [Act.put, List.getElem_toArray, List.getElem_cons_zero, List.getElem_cons_succ, List.setIfInBounds_toArray, List.set_cons_zero, List.set_cons_succ]
      refine Rg.take 20 (v := .agg #[.int .i64 (Rt.mx a0 b0), .int .i64 (Rt.mx a1 b1), .int .i64 (Rt.mn a2 b2), .int .i64 (Rt.mn a3 b3)]) rfl rfl (by kernel_rfl) (by kernel_rfl) (by kernel_rfl) (by kernel_rfl) (by kernel_rfl) (.inl ⟨rfl, fun bs wq hI => ?_⟩) ?_
      · go_simp
      simp only [Act.put, List.getElem_toArray, List.getElem_cons_zero, List.getElem_cons_succ, List.setIfInBounds_toArray, List.set_cons_zero, List.set_cons_succ]
      refine Rg.made (rs := [21]) (by kernel_rfl) (by simp) (fun i hi => ?_)
      simp only [List.mem_cons, List.not_mem_nil, or_false] at hi
      subst hi
      refine Rg.up_made rfl rfl (fun a => ⟨rfl, makes_rect a _ rfl⟩) (fun p _ => ?_)
      simp only [Act.put, List.getElem_toArray, List.getElem_cons_zero, List.getElem_cons_succ, List.setIfInBounds_toArray, List.set_cons_zero, List.set_cons_succ]
      refine Rg.done (rs := [22]) (by kernel_rfl) (by decide) (fun W hI => ?_)
      refine wpAny_sto ty_rect 22 (by kernel_rfl) rfl hI 0 [.int .i64 (Rt.mx a0 b0), .int .i64 (Rt.mx a1 b1), .int .i64 (Rt.mn a2 b2), .int .i64 (Rt.mn a3 b3)] rfl _ _ rfl _ rfl rfl _ rfl rfl rfl rfl ?_
      intro W1 hI1
      simp only [Act.put, List.getElem_toArray, List.getElem_cons_zero, List.getElem_cons_succ, List.setIfInBounds_toArray, List.set_cons_zero, List.set_cons_succ]
      have HI1 := Lib.hid hI1
      clear hI hI1
      refine wpAny_done (by kernel_rfl) ?_ _
      go_wp2_with fail
      go_meet
      exact ⟨_, rfl, HI1.out⟩
    case rest =>
      obtain ⟨p, rfl, ho⟩ := hcut
      clear HO
      have HO := Lib.hid ho
      clear ho
      go_wp2_with (first
        | ((with_reducible show wpList _ _ _ ({ dst := _, op := Op.load 33 _, type := _, pos := _, after := _, guard := _ } :: _) _ _); refine wpList_ldr ty_rect rfl _ rfl _ rfl _ rfl (HO.out.at 0 rfl) ?_)
        | ((with_reducible show wpList _ _ _ ({ dst := _, op := Op.store 33 _ _, type := _, pos := _, after := _, guard := _ } :: _) _ _); refine wpList_sto ty_rect HO.out 1 [.int .i64 0, .int .i64 0, .int .i64 0, .int .i64 0] rfl _ _ rfl _ rfl rfl _ rfl rfl rfl rfl ?_; intro w2 l2; clear HO; have HO := Lib.hid l2; clear l2)
        | (go_at_call 15; refine (rempty_any _ _ _ _ _).mono ?_; rintro e w1 ⟨rfl, hk1⟩; have l2 := HO.out.call hk1; clear HO hk1; have HO := Lib.hid l2; clear l2))
      exact bodyPost_ret (results_c ty_rect rfl rfl rfl (HO.out.at 1 rfl)) rfl ⟨rfl, HO.out.k⟩
  · skip
    have HO := Lib.hid ((((Ow.refl w).newAt w.heap.size rfl (.int .i64 a0) [.int .i64 a1, .int .i64 a2, .int .i64 a3] 33).newAt (w.heap.size + 1) (by simp) (.int .i64 b0) [.int .i64 b1, .int .i64 b2, .int .i64 b3] 33).newAt (w.heap.size + 2) (by simp) (.int .i64 0) [.int .i64 0, .int .i64 0, .int .i64 0] 33)
    have HA := Lib.hid (show (w.heap.size, [.int .i64 a0, .int .i64 a1, .int .i64 a2, .int .i64 a3]) ∈ Bb w a0 a1 a2 a3 b0 b1 b2 b3 by simp [Bb])
    have HB := Lib.hid (show (w.heap.size + 1, [.int .i64 b0, .int .i64 b1, .int .i64 b2, .int .i64 b3]) ∈ Bb w a0 a1 a2 a3 b0 b1 b2 b3 by simp [Bb])
    go_enter Try.func27, Try.ntmps27
    go_upto_region 1 with fail
    go_cut [5] (fun s5 wx => ∃ p : Nat, s5 = .pointer (some ⟨p, 0, none⟩) ∧ Ow w wx ((p, [.int .i64 (Rt.mx a0 b0), .int .i64 (Rt.mx a1 b1), .int .i64 (Rt.mn a2 b2), .int .i64 (Rt.mn a3 b3)]) :: Bb w a0 a1 a2 a3 b0 b1 b2 b3))
    case first =>
      refine Rg.region (I := Mk w [.int .i64 0, .int .i64 0, .int .i64 0, .int .i64 0] (Bb w a0 a1 a2 a3 b0 b1 b2 b3)) (dem := fun i => decide (21 ≤ i)) (m := 22) (g := 1) (T := fun listed bs st => ∀ W, Mk w [.int .i64 0, .int .i64 0, .int .i64 0, .int .i64 0] (Bb w a0 a1 a2 a3 b0 b1 b2 b3) bs W → wpAny Try.prog .any _ _ 1 listed st W) (by kernel_rfl) HO.out.drew rfl (fun _ _ _ _ h hI => h _ hI) ?_
      clear HO
      refine Rg.take 0 (v := .pointer (some ⟨w.heap.size, 0, none⟩)) rfl rfl (by kernel_rfl) (by kernel_rfl) (by kernel_rfl) (by kernel_rfl) (by kernel_rfl) (.inl ⟨rfl, fun bs wq hI => ?_⟩) ?_
      · go_simp
      simp only [Act.put, List.getElem_toArray, List.getElem_cons_zero, List.getElem_cons_succ, List.setIfInBounds_toArray, List.set_cons_zero, List.set_cons_succ]
      refine Rg.take 1 (v := .int .i64 a0) rfl rfl (by kernel_rfl) (by kernel_rfl) (by kernel_rfl) (by kernel_rfl) (by kernel_rfl) (.inl ⟨rfl, fun bs wq hI => ?_⟩) ?_
      · (have c := (Ow.mem hI (List.mem_append_right _ HA.out)).cell 0 rfl; go_simp)
      simp only [Act.put, List.getElem_toArray, List.getElem_cons_zero, List.getElem_cons_succ, List.setIfInBounds_toArray, List.set_cons_zero, List.set_cons_succ]
      refine Rg.take 2 (v := .pointer (some ⟨w.heap.size + 1, 0, none⟩)) rfl rfl (by kernel_rfl) (by kernel_rfl) (by kernel_rfl) (by kernel_rfl) (by kernel_rfl) (.inl ⟨rfl, fun bs wq hI => ?_⟩) ?_
      · go_simp
      simp only [Act.put, List.getElem_toArray, List.getElem_cons_zero, List.getElem_cons_succ, List.setIfInBounds_toArray, List.set_cons_zero, List.set_cons_succ]
      refine Rg.take 3 (v := .int .i64 b0) rfl rfl (by kernel_rfl) (by kernel_rfl) (by kernel_rfl) (by kernel_rfl) (by kernel_rfl) (.inl ⟨rfl, fun bs wq hI => ?_⟩) ?_
      · (have c := (Ow.mem hI (List.mem_append_right _ HB.out)).cell 0 rfl; go_simp)
      simp only [Act.put, List.getElem_toArray, List.getElem_cons_zero, List.getElem_cons_succ, List.setIfInBounds_toArray, List.set_cons_zero, List.set_cons_succ]
      refine Rg.take 4 (v := .int .i64 (Rt.mx a0 b0)) rfl rfl (by kernel_rfl) (by kernel_rfl) (by kernel_rfl) (by kernel_rfl) (by kernel_rfl) (.inl ⟨rfl, fun bs wq hI => ?_⟩) ?_
      · (go_simp; exact (rhigh_any _ _ _).mono fun e w2 h => ⟨h.1, h.2 ▸ hI⟩)
      simp only [Act.put, List.getElem_toArray, List.getElem_cons_zero, List.getElem_cons_succ, List.setIfInBounds_toArray, List.set_cons_zero, List.set_cons_succ]
      refine Rg.take 5 (v := .pointer (some ⟨w.heap.size, 1, none⟩)) rfl rfl (by kernel_rfl) (by kernel_rfl) (by kernel_rfl) (by kernel_rfl) (by kernel_rfl) (.inl ⟨rfl, fun bs wq hI => ?_⟩) ?_
      · go_simp
      simp only [Act.put, List.getElem_toArray, List.getElem_cons_zero, List.getElem_cons_succ, List.setIfInBounds_toArray, List.set_cons_zero, List.set_cons_succ]
      refine Rg.take 6 (v := .int .i64 a1) rfl rfl (by kernel_rfl) (by kernel_rfl) (by kernel_rfl) (by kernel_rfl) (by kernel_rfl) (.inl ⟨rfl, fun bs wq hI => ?_⟩) ?_
      · (have c := (Ow.mem hI (List.mem_append_right _ HA.out)).cell 1 rfl; go_simp)
      simp only [Act.put, List.getElem_toArray, List.getElem_cons_zero, List.getElem_cons_succ, List.setIfInBounds_toArray, List.set_cons_zero, List.set_cons_succ]
      refine Rg.take 7 (v := .pointer (some ⟨w.heap.size + 1, 1, none⟩)) rfl rfl (by kernel_rfl) (by kernel_rfl) (by kernel_rfl) (by kernel_rfl) (by kernel_rfl) (.inl ⟨rfl, fun bs wq hI => ?_⟩) ?_
      · go_simp
      simp only [Act.put, List.getElem_toArray, List.getElem_cons_zero, List.getElem_cons_succ, List.setIfInBounds_toArray, List.set_cons_zero, List.set_cons_succ]
      refine Rg.take 8 (v := .int .i64 b1) rfl rfl (by kernel_rfl) (by kernel_rfl) (by kernel_rfl) (by kernel_rfl) (by kernel_rfl) (.inl ⟨rfl, fun bs wq hI => ?_⟩) ?_
      · (have c := (Ow.mem hI (List.mem_append_right _ HB.out)).cell 1 rfl; go_simp)
      simp only [Act.put, List.getElem_toArray, List.getElem_cons_zero, List.getElem_cons_succ, List.setIfInBounds_toArray, List.set_cons_zero, List.set_cons_succ]
      refine Rg.take 9 (v := .int .i64 (Rt.mx a1 b1)) rfl rfl (by kernel_rfl) (by kernel_rfl) (by kernel_rfl) (by kernel_rfl) (by kernel_rfl) (.inl ⟨rfl, fun bs wq hI => ?_⟩) ?_
      · (go_simp; exact (rhigh_any _ _ _).mono fun e w2 h => ⟨h.1, h.2 ▸ hI⟩)
      simp only [Act.put, List.getElem_toArray, List.getElem_cons_zero, List.getElem_cons_succ, List.setIfInBounds_toArray, List.set_cons_zero, List.set_cons_succ]
      refine Rg.take 10 (v := .pointer (some ⟨w.heap.size, 2, none⟩)) rfl rfl (by kernel_rfl) (by kernel_rfl) (by kernel_rfl) (by kernel_rfl) (by kernel_rfl) (.inl ⟨rfl, fun bs wq hI => ?_⟩) ?_
      · go_simp
      simp only [Act.put, List.getElem_toArray, List.getElem_cons_zero, List.getElem_cons_succ, List.setIfInBounds_toArray, List.set_cons_zero, List.set_cons_succ]
      refine Rg.take 11 (v := .int .i64 a2) rfl rfl (by kernel_rfl) (by kernel_rfl) (by kernel_rfl) (by kernel_rfl) (by kernel_rfl) (.inl ⟨rfl, fun bs wq hI => ?_⟩) ?_
      · (have c := (Ow.mem hI (List.mem_append_right _ HA.out)).cell 2 rfl; go_simp)
      simp only [Act.put, List.getElem_toArray, List.getElem_cons_zero, List.getElem_cons_succ, List.setIfInBounds_toArray, List.set_cons_zero, List.set_cons_succ]
      refine Rg.take 12 (v := .pointer (some ⟨w.heap.size + 1, 2, none⟩)) rfl rfl (by kernel_rfl) (by kernel_rfl) (by kernel_rfl) (by kernel_rfl) (by kernel_rfl) (.inl ⟨rfl, fun bs wq hI => ?_⟩) ?_
      · go_simp
      simp only [Act.put, List.getElem_toArray, List.getElem_cons_zero, List.getElem_cons_succ, List.setIfInBounds_toArray, List.set_cons_zero, List.set_cons_succ]
      refine Rg.take 13 (v := .int .i64 b2) rfl rfl (by kernel_rfl) (by kernel_rfl) (by kernel_rfl) (by kernel_rfl) (by kernel_rfl) (.inl ⟨rfl, fun bs wq hI => ?_⟩) ?_
      · (have c := (Ow.mem hI (List.mem_append_right _ HB.out)).cell 2 rfl; go_simp)
      simp only [Act.put, List.getElem_toArray, List.getElem_cons_zero, List.getElem_cons_succ, List.setIfInBounds_toArray, List.set_cons_zero, List.set_cons_succ]
      refine Rg.take 14 (v := .int .i64 (Rt.mn a2 b2)) rfl rfl (by kernel_rfl) (by kernel_rfl) (by kernel_rfl) (by kernel_rfl) (by kernel_rfl) (.inl ⟨rfl, fun bs wq hI => ?_⟩) ?_
      · (go_simp; exact (rlow_any _ _ _).mono fun e w2 h => ⟨h.1, h.2 ▸ hI⟩)
      simp only [Act.put, List.getElem_toArray, List.getElem_cons_zero, List.getElem_cons_succ, List.setIfInBounds_toArray, List.set_cons_zero, List.set_cons_succ]
      refine Rg.take 15 (v := .pointer (some ⟨w.heap.size, 3, none⟩)) rfl rfl (by kernel_rfl) (by kernel_rfl) (by kernel_rfl) (by kernel_rfl) (by kernel_rfl) (.inl ⟨rfl, fun bs wq hI => ?_⟩) ?_
      · go_simp
      simp only [Act.put, List.getElem_toArray, List.getElem_cons_zero, List.getElem_cons_succ, List.setIfInBounds_toArray, List.set_cons_zero, List.set_cons_succ]
      refine Rg.take 16 (v := .int .i64 a3) rfl rfl (by kernel_rfl) (by kernel_rfl) (by kernel_rfl) (by kernel_rfl) (by kernel_rfl) (.inl ⟨rfl, fun bs wq hI => ?_⟩) ?_
      · (have c := (Ow.mem hI (List.mem_append_right _ HA.out)).cell 3 rfl; go_simp)
      simp only [Act.put, List.getElem_toArray, List.getElem_cons_zero, List.getElem_cons_succ, List.setIfInBounds_toArray, List.set_cons_zero, List.set_cons_succ]
      refine Rg.take 17 (v := .pointer (some ⟨w.heap.size + 1, 3, none⟩)) rfl rfl (by kernel_rfl) (by kernel_rfl) (by kernel_rfl) (by kernel_rfl) (by kernel_rfl) (.inl ⟨rfl, fun bs wq hI => ?_⟩) ?_
      · go_simp
      simp only [Act.put, List.getElem_toArray, List.getElem_cons_zero, List.getElem_cons_succ, List.setIfInBounds_toArray, List.set_cons_zero, List.set_cons_succ]
      refine Rg.take 18 (v := .int .i64 b3) rfl rfl (by kernel_rfl) (by kernel_rfl) (by kernel_rfl) (by kernel_rfl) (by kernel_rfl) (.inl ⟨rfl, fun bs wq hI => ?_⟩) ?_
      · (have c := (Ow.mem hI (List.mem_append_right _ HB.out)).cell 3 rfl; go_simp)
      simp only [Act.put, List.getElem_toArray, List.getElem_cons_zero, List.getElem_cons_succ, List.setIfInBounds_toArray, List.set_cons_zero, List.set_cons_succ]
      refine Rg.take 19 (v := .int .i64 (Rt.mn a3 b3)) rfl rfl (by kernel_rfl) (by kernel_rfl) (by kernel_rfl) (by kernel_rfl) (by kernel_rfl) (.inl ⟨rfl, fun bs wq hI => ?_⟩) ?_
      · (go_simp; exact (rlow_any _ _ _).mono fun e w2 h => ⟨h.1, h.2 ▸ hI⟩)
      simp only [Act.put, List.getElem_toArray, List.getElem_cons_zero, List.getElem_cons_succ, List.setIfInBounds_toArray, List.set_cons_zero, List.set_cons_succ]
      refine Rg.take 20 (v := .agg #[.int .i64 (Rt.mx a0 b0), .int .i64 (Rt.mx a1 b1), .int .i64 (Rt.mn a2 b2), .int .i64 (Rt.mn a3 b3)]) rfl rfl (by kernel_rfl) (by kernel_rfl) (by kernel_rfl) (by kernel_rfl) (by kernel_rfl) (.inl ⟨rfl, fun bs wq hI => ?_⟩) ?_
      · go_simp
      simp only [Act.put, List.getElem_toArray, List.getElem_cons_zero, List.getElem_cons_succ, List.setIfInBounds_toArray, List.set_cons_zero, List.set_cons_succ]
      refine Rg.made (rs := [21]) (by kernel_rfl) (by simp) (fun i hi => ?_)
      simp only [List.mem_cons, List.not_mem_nil, or_false] at hi
      subst hi
      refine Rg.up_made rfl rfl (fun a => ⟨rfl, makes_rect a _ rfl⟩) (fun p _ => ?_)
      simp only [Act.put, List.getElem_toArray, List.getElem_cons_zero, List.getElem_cons_succ, List.setIfInBounds_toArray, List.set_cons_zero, List.set_cons_succ]
      refine Rg.done (rs := [22]) (by kernel_rfl) (by decide) (fun W hI => ?_)
      refine wpAny_sto ty_rect 22 (by kernel_rfl) rfl hI 0 [.int .i64 (Rt.mx a0 b0), .int .i64 (Rt.mx a1 b1), .int .i64 (Rt.mn a2 b2), .int .i64 (Rt.mn a3 b3)] rfl _ _ rfl _ rfl rfl _ rfl rfl rfl rfl ?_
      intro W1 hI1
      simp only [Act.put, List.getElem_toArray, List.getElem_cons_zero, List.getElem_cons_succ, List.setIfInBounds_toArray, List.set_cons_zero, List.set_cons_succ]
      have HI1 := Lib.hid hI1
      clear hI hI1
      refine wpAny_done (by kernel_rfl) ?_ _
      go_wp2_with fail
      go_meet
      exact ⟨_, rfl, HI1.out⟩
    case rest =>
      obtain ⟨p, rfl, ho⟩ := hcut
      clear HO
      have HO := Lib.hid ho
      clear ho
      go_wp2_with (first
        | ((with_reducible show wpList _ _ _ ({ dst := _, op := Op.load 33 _, type := _, pos := _, after := _, guard := _ } :: _) _ _); refine wpList_ldr ty_rect rfl _ rfl _ rfl _ rfl (HO.out.at 0 rfl) ?_)
        | ((with_reducible show wpList _ _ _ ({ dst := _, op := Op.store 33 _ _, type := _, pos := _, after := _, guard := _ } :: _) _ _); refine wpList_sto ty_rect HO.out 1 [.int .i64 (Rt.mx a0 b0), .int .i64 (Rt.mx a1 b1), .int .i64 (Rt.mn a2 b2), .int .i64 (Rt.mn a3 b3)] rfl _ _ rfl _ rfl rfl _ rfl rfl rfl rfl ?_; intro w2 l2; clear HO; have HO := Lib.hid l2; clear l2)
        | (go_at_call 15; refine (rempty_any _ _ _ _ _).mono ?_; rintro e w1 ⟨rfl, hk1⟩; have l2 := HO.out.call hk1; clear HO hk1; have HO := Lib.hid l2; clear l2))
      exact bodyPost_ret (results_c ty_rect rfl rfl rfl (HO.out.at 1 rfl)) rfl ⟨rfl, HO.out.k⟩



end Go.Proofs.Ytphgihijobnlhaa
