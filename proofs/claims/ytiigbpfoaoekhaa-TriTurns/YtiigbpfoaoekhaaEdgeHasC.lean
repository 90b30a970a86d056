/-
  Contract of layer 12's Has.
-/
import Derived.Test.YtiigbpfoaoekhaaEdgeWalks2
namespace Go.Proofs.Ytiigbpfoaoekhaa
open Go.RowKit

theorem Ow.pick {w W : World} {ms ms' : List (Nat × List Value)} (h : Ow w W ms) (hm : ∀ q ∈ ms', q ∈ ms) (hn : ms'.Pairwise fun p q => p.1 ≠ q.1) : Ow w W ms' := ⟨h.k, fun q hq => h.all q (hm q hq), hn⟩
theorem Ow.rest {w W : World} {q : Nat × List Value} {ms : List (Nat × List Value)} (h : Ow w W (q :: ms)) : Ow w W ms := h.pick (fun _ hq => List.mem_cons_of_mem _ hq) (List.pairwise_cons.1 h.nd).2

theorem idx3 (v0 v1 v2 v3 v4 v5 : Value) (w : World) :
    (Instr.index 61 (.agg #[v0, v1, v2, v3, v4, v5]) (.int .i64 0)).run Try.prog w = .ok (.agg #[v0, v1]) w ∧
    (Instr.index 61 (.agg #[v0, v1, v2, v3, v4, v5]) (.int .i64 1)).run Try.prog w = .ok (.agg #[v2, v3]) w ∧
    (Instr.index 61 (.agg #[v0, v1, v2, v3, v4, v5]) (.int .i64 2)).run Try.prog w = .ok (.agg #[v4, v5]) w := by
  refine ⟨?_, ?_, ?_⟩ <;> kernel_rfl
/-- a point is read out of a row of points by value -/
theorem wpList_idx {ty : TypeId} {ops : Array Oper} {rest : List Oper} {op : Oper} {a : Act} {w : World} {Q : Exit → Act → World → Prop} (hgd : Region.wanted op (yielded ops a.tmps) = true) (x i : Operand) (ho : op.op = .index ty x i)
    (cs : Array Value) (hx : a.eval x = .agg cs) (k : Int) (hi : a.eval i = .int .i64 k) (v : Value) (hr : ∀ W, (Instr.index ty (.agg cs) (.int .i64 k)).run Try.prog W = .ok v W)
    (h : wpList Try.prog ops Q rest (a.put op.dst v) w) : wpList Try.prog ops Q (op :: rest) a w :=
  wpList_of_wp hgd fun K hK => by
    unfold Oper.wp execOp
    simp only [ho, hx, hi, Sem.run_bind, Sem.run_pure, Result.andThen_ok, hr]
    exact hK _ _ h

theorem has_no1 (a1 a2 b1 b2 c1 c2 x y : Int) (w : World) (h : Eg.fits x y = false) :
    Calls Try.prog 30 #[.agg #[.int .i64 a1, .int .i64 a2, .int .i64 b1, .int .i64 b2, .int .i64 c1, .int .i64 c2], .int .i64 x, .int .i64 y] w fun e w' => e = .returned (.tuple #[.bool false, .int .i64 3]) ∧ Kp w.heap.size w w' := by
  have M1 := fun W => mid_no x y W h
  clear h
  have HO := Lib.hid ((Ow.refl w).newAt w.heap.size rfl (.int .i64 a1) [.int .i64 a2, .int .i64 b1, .int .i64 b2, .int .i64 c1, .int .i64 c2] 61)
  go_enter Try.func30, Try.ntmps30
  go_wp2_with (go_at_call 43; refine (M1 _).mono ?_; rintro e w1 ⟨rfl, hk1⟩; have l2 := (HO.out.call hk1).newAt w1.heap.size rfl (.int .i64 0) [.int .i64 0] 23; clear HO hk1; have HO := Lib.hid l2; clear l2)
  go_ret2
  exact ⟨rfl, HO.out.k⟩
set_option maxRecDepth 100000 in
set_option maxHeartbeats 1000000 in
theorem has_no2 (a1 a2 b1 b2 c1 c2 x y : Int) (w : World) (hf : Eg.fits x y = true) (h : (Eg.may a1 a2 && Eg.may b1 b2 && Eg.may c1 c2) = false) :
    Calls Try.prog 30 #[.agg #[.int .i64 a1, .int .i64 a2, .int .i64 b1, .int .i64 b2, .int .i64 c1, .int .i64 c2], .int .i64 x, .int .i64 y] w fun e w' => e = .returned (.tuple #[.bool false, .int .i64 3]) ∧ Kp w.heap.size w w' := by
  have M1 := fun W => mid_yes x y W hf
  clear hf
  have HO := Lib.hid ((Ow.refl w).newAt w.heap.size rfl (.int .i64 a1) [.int .i64 a2, .int .i64 b1, .int .i64 b2, .int .i64 c1, .int .i64 c2] 61)
  go_enter Try.func30, Try.ntmps30
  go_wp2_with (first
    | (go_at_call 43; refine (M1 _).mono ?_; rintro e w1 ⟨rfl, hk1⟩; have l2 := (HO.out.call hk1).newAt w1.heap.size rfl (.int .i64 (16 * x + 8)) [.int .i64 (16 * y + 8)] 23; clear HO hk1; have HO := Lib.hid l2; clear l2)
    | ((with_reducible show wpList _ _ _ ({ dst := _, op := Op.load 23 _, type := _, pos := _, after := _, guard := _ } :: _) _ _); refine wpList_ldo ty_point rfl _ rfl _ _ rfl [.int .i64 a1, .int .i64 a2, .int .i64 b1, .int .i64 b2, .int .i64 c1, .int .i64 c2] rfl (HO.out.at 1 rfl).some ?_; intro us hus; dsimp only [List.drop, List.take] at hus; subst hus)
    | (go_at_call 35; refine (mayBe_any a1 a2 b1 b2 c1 c2 _ _ (Rc.new _ [.int .i64 a1, .int .i64 a2, .int .i64 b1, .int .i64 b2, .int .i64 c1, .int .i64 c2] _ (by simp)).some).mono ?_; rintro e w2 ⟨rfl, hk1⟩; have l2 := (HO.out.call (Kp.new _ _ _)).call hk1; clear HO hk1; have HO := Lib.hid l2; clear l2))
  go_ret2
  exact ⟨rfl, HO.out.k⟩

set_option linter.unusedSimpArgs false in
set_option maxRecDepth 100000 in
set_option maxHeartbeats 4000000 in
theorem has_yes (a1 a2 b1 b2 c1 c2 x y : Int) (w : World) (ha : Eg.may a1 a2 = true) (hb : Eg.may b1 b2 = true) (hc : Eg.may c1 c2 = true) (hf : Eg.fits x y = true) :
    Calls Try.prog 30 #[.agg #[.int .i64 a1, .int .i64 a2, .int .i64 b1, .int .i64 b2, .int .i64 c1, .int .i64 c2], .int .i64 x, .int .i64 y] w fun e w' => e = .returned (.tuple #[.bool (Eg.has a1 a2 b1 b2 c1 c2 (16 * x + 8) (16 * y + 8)), .int .i64 0]) ∧ Kp w.heap.size w w' := by
  have hm : Eg.may (16 * x + 8) (16 * y + 8) = true := by rw [Eg.middle_may]; exact hf
  have M1 := fun W => mid_yes x y W hf
  have h0 : (Eg.may a1 a2 && Eg.may b1 b2 && Eg.may c1 c2) = true := by rw [ha, hb, hc]; rfl
  have S1 := fun W => side_any a1 a2 b1 b2 c1 c2 W ha hb hc
  have L1 := fun W => lets_any a1 a2 b1 b2 (16 * x + 8) (16 * y + 8) W ha hb hm
  have L2 := fun W => lets_any b1 b2 c1 c2 (16 * x + 8) (16 * y + 8) W hb hc hm
  have L3 := fun W => lets_any c1 c2 a1 a2 (16 * x + 8) (16 * y + 8) W hc ha hm
  have he : Eg.has a1 a2 b1 b2 c1 c2 (16 * x + 8) (16 * y + 8) = (decide (0 < Eg.side a1 a2 b1 b2 c1 c2) && Eg.on a1 a2 b1 b2 (16 * x + 8) (16 * y + 8) && Eg.on b1 b2 c1 c2 (16 * x + 8) (16 * y + 8) && Eg.on c1 c2 a1 a2 (16 * x + 8) (16 * y + 8)) := rfl
  clear ha hb hc hf hm
  generalize Eg.has a1 a2 b1 b2 c1 c2 (16 * x + 8) (16 * y + 8) = res at *
  generalize Eg.on a1 a2 b1 b2 (16 * x + 8) (16 * y + 8) = g1 at *
  generalize Eg.on b1 b2 c1 c2 (16 * x + 8) (16 * y + 8) = g2 at *
  generalize Eg.on c1 c2 a1 a2 (16 * x + 8) (16 * y + 8) = g3 at *
  generalize Eg.side a1 a2 b1 b2 c1 c2 = s at *
  generalize 16 * x + 8 = mx at *
  generalize 16 * y + 8 = my at *
  have HE := Lib.hid he
  clear he
  have HO := Lib.hid ((Ow.refl w).newAt w.heap.size rfl (.int .i64 a1) [.int .i64 a2, .int .i64 b1, .int .i64 b2, .int .i64 c1, .int .i64 c2] 61)
  cases h1 : decide (s ≤ 0)
  · have HS : Hid (0 < s) := Lib.hid (by simpa using h1)
    go_enter Try.func30, Try.ntmps30
    go_wp2_with (first   | (go_at_call 43; refine (M1 _).mono ?_; rintro e w1 ⟨rfl, hk1⟩; have l2 := (HO.out.call hk1).newAt w1.heap.size rfl (.int .i64 mx) [.int .i64 my] 23; clear HO hk1; have HO := Lib.hid l2; clear l2)   | ((with_reducible show wpList _ _ _ ({ dst := _, op := Op.load 23 _, type := _, pos := _, after := _, guard := _ } :: _) _ _); refine wpList_ldo ty_point rfl _ rfl _ _ rfl [.int .i64 a1, .int .i64 a2, .int .i64 b1, .int .i64 b2, .int .i64 c1, .int .i64 c2] rfl (HO.out.at 1 rfl).some ?_; intro us hus; dsimp only [List.drop, List.take] at hus; subst hus)   | ((with_reducible show wpList _ _ _ ({ dst := _, op := Op.load 61 _, type := _, pos := _, after := _, guard := _ } :: _) _ _); refine wpList_ldr ty_three rfl _ rfl _ rfl _ rfl (HO.out.at 1 rfl) ?_)   | (go_at_call 35; refine (mayBe_any a1 a2 b1 b2 c1 c2 _ _ (Rc.new _ [.int .i64 a1, .int .i64 a2, .int .i64 b1, .int .i64 b2, .int .i64 c1, .int .i64 c2] _ (by simp)).some).mono ?_; rintro e w2 ⟨rfl, hk1⟩; have l2 := (HO.out.call (Kp.new _ _ _)).call hk1; clear HO hk1; have HO := Lib.hid l2; clear l2)   | (go_at_call 36; refine (S1 _).mono ?_; rintro e w3 ⟨rfl, hk1⟩; have l2 := HO.out.call hk1; clear HO hk1; have HO := Lib.hid l2; clear l2))
    go_loopw [39, 10, 11] (fun i _ _ wr => R3 g1 g2 g3 i ∧ Ow w wr [(w1.heap.size, [.int .i64 mx, .int .i64 my]), (w.heap.size, [.int .i64 a1, .int .i64 a2, .int .i64 b1, .int .i64 b2, .int .i64 c1, .int .i64 c2])]) (fun i _ _ _ => msr3 i)
    case atStart => exact ⟨.inl rfl, HO.out⟩
    case round =>
      clear HO
      obtain ⟨hi, ho⟩ := hrel
      rcases hi with rfl | ⟨rfl, m1⟩ | ⟨rfl, m1, m2⟩ | ⟨rfl, m1, m2, m3⟩
      · skip
        have HO := Lib.hid (ho.newAt wr.heap.size rfl (.int .i64 a1) [.int .i64 a2] 23)
        clear ho
        go_upto_region 11 with ((with_reducible show wpList _ _ _ ({ dst := _, op := Op.index _ _ _, type := _, pos := _, after := _, guard := _ } :: _) _ _); refine wpList_idx rfl _ _ rfl _ rfl _ rfl (.agg #[.int .i64 a1, .int .i64 a2]) (fun W => (idx3 _ _ _ _ _ _ W).1) ?_)
        refine Rg.region (I := fun _ W => Ow w W [(wr.heap.size, [.int .i64 a1, .int .i64 a2]), (w1.heap.size, [.int .i64 mx, .int .i64 my]), (w.heap.size, [.int .i64 a1, .int .i64 a2, .int .i64 b1, .int .i64 b2, .int .i64 c1, .int .i64 c2])]) (dem := fun _ => false) (m := 9) (g := 0) (T := fun listed bs st => ∀ W, Ow w W [(wr.heap.size, [.int .i64 a1, .int .i64 a2]), (w1.heap.size, [.int .i64 mx, .int .i64 my]), (w.heap.size, [.int .i64 a1, .int .i64 a2, .int .i64 b1, .int .i64 b2, .int .i64 c1, .int .i64 c2])] → wpAny Try.prog .any _ _ 0 listed st W) (by kernel_rfl) HO.out.drew rfl (fun _ _ _ _ h hI => h _ hI) ?_
        clear HO
        refine Rg.take 0 (v := .agg #[.int .i64 a1, .int .i64 a2]) rfl rfl (by kernel_rfl) (by kernel_rfl) (by kernel_rfl) (by kernel_rfl) (by kernel_rfl) (.inl ⟨rfl, fun bs wq hI => ?_⟩) ?_
        · exact quiet_ldr ty_point (.tmp 11) rfl rfl rfl (hI.at 0 rfl)
        simp only [Act.put, List.getElem_toArray, List.getElem_cons_zero, List.getElem_cons_succ, List.setIfInBounds_toArray, List.set_cons_zero, List.set_cons_succ]
        refine Rg.take 1 (v := .int .i64 0) rfl rfl (by kernel_rfl) (by kernel_rfl) (by kernel_rfl) (by kernel_rfl) (by kernel_rfl) (.inl ⟨rfl, fun bs wq hI => ?_⟩) ?_
        · go_simp
        simp only [Act.put, List.getElem_toArray, List.getElem_cons_zero, List.getElem_cons_succ, List.setIfInBounds_toArray, List.set_cons_zero, List.set_cons_succ]
        refine Rg.take 2 (v := .int .i64 (0 + 1)) rfl rfl (by kernel_rfl) (by kernel_rfl) (by kernel_rfl) (by kernel_rfl) (by kernel_rfl) (.inl ⟨rfl, fun bs wq hI => ?_⟩) ?_
        · (go_simp; first | rfl | decide)
        simp only [Act.put, List.getElem_toArray, List.getElem_cons_zero, List.getElem_cons_succ, List.setIfInBounds_toArray, List.set_cons_zero, List.set_cons_succ]
        refine Rg.take 3 (v := .int .i64 1) rfl rfl (by kernel_rfl) (by kernel_rfl) (by kernel_rfl) (by kernel_rfl) (by kernel_rfl) (.inl ⟨rfl, fun bs wq hI => ?_⟩) ?_
        · go_simp
        simp only [Act.put, List.getElem_toArray, List.getElem_cons_zero, List.getElem_cons_succ, List.setIfInBounds_toArray, List.set_cons_zero, List.set_cons_succ]
        refine Rg.take 4 (v := .pointer (some ⟨w.heap.size, 2, none⟩)) rfl rfl (by kernel_rfl) (by kernel_rfl) (by kernel_rfl) (by kernel_rfl) (by kernel_rfl) (.inl ⟨rfl, fun bs wq hI => ?_⟩) ?_
        · go_simp
        simp only [Act.put, List.getElem_toArray, List.getElem_cons_zero, List.getElem_cons_succ, List.setIfInBounds_toArray, List.set_cons_zero, List.set_cons_succ]
        refine Rg.take 5 (v := .agg #[.int .i64 b1, .int .i64 b2]) rfl rfl (by kernel_rfl) (by kernel_rfl) (by kernel_rfl) (by kernel_rfl) (by kernel_rfl) (.inl ⟨rfl, fun bs wq hI => ?_⟩) ?_
        · exact quiet_ldo (vs := [.int .i64 a1, .int .i64 a2, .int .i64 b1, .int .i64 b2, .int .i64 c1, .int .i64 c2]) (us := [.int .i64 b1, .int .i64 b2]) ty_point (.tmp 47) rfl rfl rfl rfl (hI.at 2 rfl)
        simp only [Act.put, List.getElem_toArray, List.getElem_cons_zero, List.getElem_cons_succ, List.setIfInBounds_toArray, List.set_cons_zero, List.set_cons_succ]
        refine Rg.take 6 (v := .agg #[.int .i64 mx, .int .i64 my]) rfl rfl (by kernel_rfl) (by kernel_rfl) (by kernel_rfl) (by kernel_rfl) (by kernel_rfl) (.inl ⟨rfl, fun bs wq hI => ?_⟩) ?_
        · exact quiet_ldr ty_point (.tmp 8) rfl rfl rfl (hI.at 1 rfl)
        simp only [Act.put, List.getElem_toArray, List.getElem_cons_zero, List.getElem_cons_succ, List.setIfInBounds_toArray, List.set_cons_zero, List.set_cons_succ]
        refine Rg.take 7 (v := .bool g1) rfl rfl (by kernel_rfl) (by kernel_rfl) (by kernel_rfl) (by kernel_rfl) (by kernel_rfl) (.inl ⟨rfl, fun bs wq hI => ?_⟩) ?_
        · (go_simp; exact (L1 _).mono fun e w2 h => ⟨h.1, hI.call h.2⟩)
        simp only [Act.put, List.getElem_toArray, List.getElem_cons_zero, List.getElem_cons_succ, List.setIfInBounds_toArray, List.set_cons_zero, List.set_cons_succ]
        refine Rg.take 8 (v := .bool (!g1)) rfl rfl (by kernel_rfl) (by kernel_rfl) (by kernel_rfl) (by kernel_rfl) (by kernel_rfl) (.inl ⟨rfl, fun bs wq hI => ?_⟩) ?_
        · go_simp
        simp only [Act.put, List.getElem_toArray, List.getElem_cons_zero, List.getElem_cons_succ, List.setIfInBounds_toArray, List.set_cons_zero, List.set_cons_succ]
        refine Rg.done (rs := []) (by kernel_rfl) (by decide) (fun W hI => ?_)
        have HO := Lib.hid hI
        clear hI
        refine wpAny_done (by kernel_rfl) ?_ _
        cases g1
        all_goals go_wp2_with fail
        · go_ret2
          exact ⟨by rw [HE.out]; simp, HO.out.k⟩
        go_roundw
        case measure => simp [msr3, intOf]
        case rel => exact ⟨.inr (.inl ⟨by go_num, rfl⟩), HO.out.rest⟩
      · skip
        have HO := Lib.hid (ho.newAt wr.heap.size rfl (.int .i64 b1) [.int .i64 b2] 23)
        clear ho
        go_upto_region 11 with ((with_reducible show wpList _ _ _ ({ dst := _, op := Op.index _ _ _, type := _, pos := _, after := _, guard := _ } :: _) _ _); refine wpList_idx rfl _ _ rfl _ rfl _ rfl (.agg #[.int .i64 b1, .int .i64 b2]) (fun W => (idx3 _ _ _ _ _ _ W).2.1) ?_)
        refine Rg.region (I := fun _ W => Ow w W [(wr.heap.size, [.int .i64 b1, .int .i64 b2]), (w1.heap.size, [.int .i64 mx, .int .i64 my]), (w.heap.size, [.int .i64 a1, .int .i64 a2, .int .i64 b1, .int .i64 b2, .int .i64 c1, .int .i64 c2])]) (dem := fun _ => false) (m := 9) (g := 0) (T := fun listed bs st => ∀ W, Ow w W [(wr.heap.size, [.int .i64 b1, .int .i64 b2]), (w1.heap.size, [.int .i64 mx, .int .i64 my]), (w.heap.size, [.int .i64 a1, .int .i64 a2, .int .i64 b1, .int .i64 b2, .int .i64 c1, .int .i64 c2])] → wpAny Try.prog .any _ _ 0 listed st W) (by kernel_rfl) HO.out.drew rfl (fun _ _ _ _ h hI => h _ hI) ?_
        clear HO
        refine Rg.take 0 (v := .agg #[.int .i64 b1, .int .i64 b2]) rfl rfl (by kernel_rfl) (by kernel_rfl) (by kernel_rfl) (by kernel_rfl) (by kernel_rfl) (.inl ⟨rfl, fun bs wq hI => ?_⟩) ?_
        · exact quiet_ldr ty_point (.tmp 11) rfl rfl rfl (hI.at 0 rfl)
        simp only [Act.put, List.getElem_toArray, List.getElem_cons_zero, List.getElem_cons_succ, List.setIfInBounds_toArray, List.set_cons_zero, List.set_cons_succ]
        refine Rg.take 1 (v := .int .i64 1) rfl rfl (by kernel_rfl) (by kernel_rfl) (by kernel_rfl) (by kernel_rfl) (by kernel_rfl) (.inl ⟨rfl, fun bs wq hI => ?_⟩) ?_
        · go_simp
        simp only [Act.put, List.getElem_toArray, List.getElem_cons_zero, List.getElem_cons_succ, List.setIfInBounds_toArray, List.set_cons_zero, List.set_cons_succ]
        refine Rg.take 2 (v := .int .i64 (1 + 1)) rfl rfl (by kernel_rfl) (by kernel_rfl) (by kernel_rfl) (by kernel_rfl) (by kernel_rfl) (.inl ⟨rfl, fun bs wq hI => ?_⟩) ?_
        · (go_simp; first | rfl | decide)
        simp only [Act.put, List.getElem_toArray, List.getElem_cons_zero, List.getElem_cons_succ, List.setIfInBounds_toArray, List.set_cons_zero, List.set_cons_succ]
        refine Rg.take 3 (v := .int .i64 2) rfl rfl (by kernel_rfl) (by kernel_rfl) (by kernel_rfl) (by kernel_rfl) (by kernel_rfl) (.inl ⟨rfl, fun bs wq hI => ?_⟩) ?_
        · go_simp
        simp only [Act.put, List.getElem_toArray, List.getElem_cons_zero, List.getElem_cons_succ, List.setIfInBounds_toArray, List.set_cons_zero, List.set_cons_succ]
        refine Rg.take 4 (v := .pointer (some ⟨w.heap.size, 4, none⟩)) rfl rfl (by kernel_rfl) (by kernel_rfl) (by kernel_rfl) (by kernel_rfl) (by kernel_rfl) (.inl ⟨rfl, fun bs wq hI => ?_⟩) ?_
        · go_simp
        simp only [Act.put, List.getElem_toArray, List.getElem_cons_zero, List.getElem_cons_succ, List.setIfInBounds_toArray, List.set_cons_zero, List.set_cons_succ]
        refine Rg.take 5 (v := .agg #[.int .i64 c1, .int .i64 c2]) rfl rfl (by kernel_rfl) (by kernel_rfl) (by kernel_rfl) (by kernel_rfl) (by kernel_rfl) (.inl ⟨rfl, fun bs wq hI => ?_⟩) ?_
        · exact quiet_ldo (vs := [.int .i64 a1, .int .i64 a2, .int .i64 b1, .int .i64 b2, .int .i64 c1, .int .i64 c2]) (us := [.int .i64 c1, .int .i64 c2]) ty_point (.tmp 47) rfl rfl rfl rfl (hI.at 2 rfl)
        simp only [Act.put, List.getElem_toArray, List.getElem_cons_zero, List.getElem_cons_succ, List.setIfInBounds_toArray, List.set_cons_zero, List.set_cons_succ]
        refine Rg.take 6 (v := .agg #[.int .i64 mx, .int .i64 my]) rfl rfl (by kernel_rfl) (by kernel_rfl) (by kernel_rfl) (by kernel_rfl) (by kernel_rfl) (.inl ⟨rfl, fun bs wq hI => ?_⟩) ?_
        · exact quiet_ldr ty_point (.tmp 8) rfl rfl rfl (hI.at 1 rfl)
        simp only [Act.put, List.getElem_toArray, List.getElem_cons_zero, List.getElem_cons_succ, List.setIfInBounds_toArray, List.set_cons_zero, List.set_cons_succ]
        refine Rg.take 7 (v := .bool g2) rfl rfl (by kernel_rfl) (by kernel_rfl) (by kernel_rfl) (by kernel_rfl) (by kernel_rfl) (.inl ⟨rfl, fun bs wq hI => ?_⟩) ?_
        · (go_simp; exact (L2 _).mono fun e w2 h => ⟨h.1, hI.call h.2⟩)
        simp only [Act.put, List.getElem_toArray, List.getElem_cons_zero, List.getElem_cons_succ, List.setIfInBounds_toArray, List.set_cons_zero, List.set_cons_succ]
        refine Rg.take 8 (v := .bool (!g2)) rfl rfl (by kernel_rfl) (by kernel_rfl) (by kernel_rfl) (by kernel_rfl) (by kernel_rfl) (.inl ⟨rfl, fun bs wq hI => ?_⟩) ?_
        · go_simp
        simp only [Act.put, List.getElem_toArray, List.getElem_cons_zero, List.getElem_cons_succ, List.setIfInBounds_toArray, List.set_cons_zero, List.set_cons_succ]
        refine Rg.done (rs := []) (by kernel_rfl) (by decide) (fun W hI => ?_)
        have HO := Lib.hid hI
        clear hI
        refine wpAny_done (by kernel_rfl) ?_ _
        cases g2
        all_goals go_wp2_with fail
        · go_ret2
          exact ⟨by rw [HE.out]; simp, HO.out.k⟩
        go_roundw
        case measure => simp [msr3, intOf]
        case rel => exact ⟨.inr (.inr (.inl ⟨by go_num, m1, rfl⟩)), HO.out.rest⟩
      · skip
        have HO := Lib.hid (ho.newAt wr.heap.size rfl (.int .i64 c1) [.int .i64 c2] 23)
        clear ho
        go_upto_region 11 with ((with_reducible show wpList _ _ _ ({ dst := _, op := Op.index _ _ _, type := _, pos := _, after := _, guard := _ } :: _) _ _); refine wpList_idx rfl _ _ rfl _ rfl _ rfl (.agg #[.int .i64 c1, .int .i64 c2]) (fun W => (idx3 _ _ _ _ _ _ W).2.2) ?_)
        refine Rg.region (I := fun _ W => Ow w W [(wr.heap.size, [.int .i64 c1, .int .i64 c2]), (w1.heap.size, [.int .i64 mx, .int .i64 my]), (w.heap.size, [.int .i64 a1, .int .i64 a2, .int .i64 b1, .int .i64 b2, .int .i64 c1, .int .i64 c2])]) (dem := fun _ => false) (m := 9) (g := 0) (T := fun listed bs st => ∀ W, Ow w W [(wr.heap.size, [.int .i64 c1, .int .i64 c2]), (w1.heap.size, [.int .i64 mx, .int .i64 my]), (w.heap.size, [.int .i64 a1, .int .i64 a2, .int .i64 b1, .int .i64 b2, .int .i64 c1, .int .i64 c2])] → wpAny Try.prog .any _ _ 0 listed st W) (by kernel_rfl) HO.out.drew rfl (fun _ _ _ _ h hI => h _ hI) ?_
        clear HO
        refine Rg.take 0 (v := .agg #[.int .i64 c1, .int .i64 c2]) rfl rfl (by kernel_rfl) (by kernel_rfl) (by kernel_rfl) (by kernel_rfl) (by kernel_rfl) (.inl ⟨rfl, fun bs wq hI => ?_⟩) ?_
        · exact quiet_ldr ty_point (.tmp 11) rfl rfl rfl (hI.at 0 rfl)
        simp only [Act.put, List.getElem_toArray, List.getElem_cons_zero, List.getElem_cons_succ, List.setIfInBounds_toArray, List.set_cons_zero, List.set_cons_succ]
        refine Rg.take 1 (v := .int .i64 2) rfl rfl (by kernel_rfl) (by kernel_rfl) (by kernel_rfl) (by kernel_rfl) (by kernel_rfl) (.inl ⟨rfl, fun bs wq hI => ?_⟩) ?_
        · go_simp
        simp only [Act.put, List.getElem_toArray, List.getElem_cons_zero, List.getElem_cons_succ, List.setIfInBounds_toArray, List.set_cons_zero, List.set_cons_succ]
        refine Rg.take 2 (v := .int .i64 (2 + 1)) rfl rfl (by kernel_rfl) (by kernel_rfl) (by kernel_rfl) (by kernel_rfl) (by kernel_rfl) (.inl ⟨rfl, fun bs wq hI => ?_⟩) ?_
        · (go_simp; first | rfl | decide)
        simp only [Act.put, List.getElem_toArray, List.getElem_cons_zero, List.getElem_cons_succ, List.setIfInBounds_toArray, List.set_cons_zero, List.set_cons_succ]
        refine Rg.take 3 (v := .int .i64 0) rfl rfl (by kernel_rfl) (by kernel_rfl) (by kernel_rfl) (by kernel_rfl) (by kernel_rfl) (.inl ⟨rfl, fun bs wq hI => ?_⟩) ?_
        · go_simp
        simp only [Act.put, List.getElem_toArray, List.getElem_cons_zero, List.getElem_cons_succ, List.setIfInBounds_toArray, List.set_cons_zero, List.set_cons_succ]
        refine Rg.take 4 (v := .pointer (some ⟨w.heap.size, 0, none⟩)) rfl rfl (by kernel_rfl) (by kernel_rfl) (by kernel_rfl) (by kernel_rfl) (by kernel_rfl) (.inl ⟨rfl, fun bs wq hI => ?_⟩) ?_
        · go_simp
        simp only [Act.put, List.getElem_toArray, List.getElem_cons_zero, List.getElem_cons_succ, List.setIfInBounds_toArray, List.set_cons_zero, List.set_cons_succ]
        refine Rg.take 5 (v := .agg #[.int .i64 a1, .int .i64 a2]) rfl rfl (by kernel_rfl) (by kernel_rfl) (by kernel_rfl) (by kernel_rfl) (by kernel_rfl) (.inl ⟨rfl, fun bs wq hI => ?_⟩) ?_
        · exact quiet_ldo (vs := [.int .i64 a1, .int .i64 a2, .int .i64 b1, .int .i64 b2, .int .i64 c1, .int .i64 c2]) (us := [.int .i64 a1, .int .i64 a2]) ty_point (.tmp 47) rfl rfl rfl rfl (hI.at 2 rfl)
        simp only [Act.put, List.getElem_toArray, List.getElem_cons_zero, List.getElem_cons_succ, List.setIfInBounds_toArray, List.set_cons_zero, List.set_cons_succ]
        refine Rg.take 6 (v := .agg #[.int .i64 mx, .int .i64 my]) rfl rfl (by kernel_rfl) (by kernel_rfl) (by kernel_rfl) (by kernel_rfl) (by kernel_rfl) (.inl ⟨rfl, fun bs wq hI => ?_⟩) ?_
        · exact quiet_ldr ty_point (.tmp 8) rfl rfl rfl (hI.at 1 rfl)
        simp only [Act.put, List.getElem_toArray, List.getElem_cons_zero, List.getElem_cons_succ, List.setIfInBounds_toArray, List.set_cons_zero, List.set_cons_succ]
        refine Rg.take 7 (v := .bool g3) rfl rfl (by kernel_rfl) (by kernel_rfl) (by kernel_rfl) (by kernel_rfl) (by kernel_rfl) (.inl ⟨rfl, fun bs wq hI => ?_⟩) ?_
        · (go_simp; exact (L3 _).mono fun e w2 h => ⟨h.1, hI.call h.2⟩)
        simp only [Act.put, List.getElem_toArray, List.getElem_cons_zero, List.getElem_cons_succ, List.setIfInBounds_toArray, List.set_cons_zero, List.set_cons_succ]
        refine Rg.take 8 (v := .bool (!g3)) rfl rfl (by kernel_rfl) (by kernel_rfl) (by kernel_rfl) (by kernel_rfl) (by kernel_rfl) (.inl ⟨rfl, fun bs wq hI => ?_⟩) ?_
        · go_simp
        simp only [Act.put, List.getElem_toArray, List.getElem_cons_zero, List.getElem_cons_succ, List.setIfInBounds_toArray, List.set_cons_zero, List.set_cons_succ]
        refine Rg.done (rs := []) (by kernel_rfl) (by decide) (fun W hI => ?_)
        have HO := Lib.hid hI
        clear hI
        refine wpAny_done (by kernel_rfl) ?_ _
        cases g3
        all_goals go_wp2_with fail
        · go_ret2
          exact ⟨by rw [HE.out]; simp, HO.out.k⟩
        go_roundw
        case measure => simp [msr3, intOf]
        case rel => exact ⟨.inr (.inr (.inr ⟨by go_num, m1, m2, rfl⟩)), HO.out.rest⟩
      · have HO := Lib.hid ho
        clear ho
        subst m1 m2 m3
        go_wp2
        go_ret2
        exact ⟨by rw [HE.out]; simp [HS.out], HO.out.k⟩
  · have HS : Hid (s ≤ 0) := Lib.hid (by simpa using h1)
    go_enter Try.func30, Try.ntmps30
    go_wp2_with (first   | (go_at_call 43; refine (M1 _).mono ?_; rintro e w1 ⟨rfl, hk1⟩; have l2 := (HO.out.call hk1).newAt w1.heap.size rfl (.int .i64 mx) [.int .i64 my] 23; clear HO hk1; have HO := Lib.hid l2; clear l2)   | ((with_reducible show wpList _ _ _ ({ dst := _, op := Op.load 23 _, type := _, pos := _, after := _, guard := _ } :: _) _ _); refine wpList_ldo ty_point rfl _ rfl _ _ rfl [.int .i64 a1, .int .i64 a2, .int .i64 b1, .int .i64 b2, .int .i64 c1, .int .i64 c2] rfl (HO.out.at 1 rfl).some ?_; intro us hus; dsimp only [List.drop, List.take] at hus; subst hus)   | ((with_reducible show wpList _ _ _ ({ dst := _, op := Op.load 61 _, type := _, pos := _, after := _, guard := _ } :: _) _ _); refine wpList_ldr ty_three rfl _ rfl _ rfl _ rfl (HO.out.at 1 rfl) ?_)   | (go_at_call 35; refine (mayBe_any a1 a2 b1 b2 c1 c2 _ _ (Rc.new _ [.int .i64 a1, .int .i64 a2, .int .i64 b1, .int .i64 b2, .int .i64 c1, .int .i64 c2] _ (by simp)).some).mono ?_; rintro e w2 ⟨rfl, hk1⟩; have l2 := (HO.out.call (Kp.new _ _ _)).call hk1; clear HO hk1; have HO := Lib.hid l2; clear l2)   | (go_at_call 36; refine (S1 _).mono ?_; rintro e w3 ⟨rfl, hk1⟩; have l2 := HO.out.call hk1; clear HO hk1; have HO := Lib.hid l2; clear l2))
    go_ret2
    exact ⟨by rw [HE.out, decide_eq_false (by have := HS.out; omega)]; simp, HO.out.k⟩
end Go.Proofs.Ytiigbpfoaoekhaa
