/-
  Contract of layer 12's Has.
-/
import Derived.Test.YtankjlpanmmogaaGreatJFragTex
import Derived.Test.YtankjlpanmmogaaGreatRows
import Derived.WalkKit
import Derived.WalkSpells
import Derived.WalkLawsBesides
import Derived.ProofKit
import Derived.OpenShut
import Derived.Below
import Derived.Lib.Hide
import Derived.Laws.Externs
import Derived.Deep.RegionHeld3
import Derived.BigQuiet
import Derived.Test.YtankjlpanmmogaaGreatJFragCode
import Derived.Test.YtankjlpanmmogaaGreatJVecPlain
import Derived.Lib.Walk
import Derived.Lib.BitFns
import Derived.Deep.DeepCutAuto
import Derived.Deep.CutBlock
namespace Go.Proofs.YtankjlpanmmogaaGreat
set_option maxRecDepth 100000
open Go.RowKit

theorem Ow.pick {w W : World} {ms ms' : List (Nat × List Value)} (h : Ow w W ms) (hm : ∀ q ∈ ms', q ∈ ms) (hn : ms'.Pairwise fun p q => p.1 ≠ q.1) : Ow w W ms' := ⟨h.k, fun q hq => h.all q (hm q hq), hn⟩
theorem Ow.rest {w W : World} {q : Nat × List Value} {ms : List (Nat × List Value)} (h : Ow w W (q :: ms)) : Ow w W ms := h.pick (fun _ hq => List.mem_cons_of_mem _ hq) (List.pairwise_cons.1 h.nd).2

theorem idx3 (v0 v1 v2 v3 v4 v5 : Value) (w : World) :
    (Instr.index 126 (.agg #[v0, v1, v2, v3, v4, v5]) (.int .i64 0)).run Tryz.prog w = .ok (.agg #[v0, v1]) w ∧
    (Instr.index 126 (.agg #[v0, v1, v2, v3, v4, v5]) (.int .i64 1)).run Tryz.prog w = .ok (.agg #[v2, v3]) w ∧
    (Instr.index 126 (.agg #[v0, v1, v2, v3, v4, v5]) (.int .i64 2)).run Tryz.prog w = .ok (.agg #[v4, v5]) w := by
  refine ⟨?_, ?_, ?_⟩ <;> kernel_rfl
/-- a point is read out of a row of points by value -/
theorem wpList_idx {ty : TypeId} {ops : Array Oper} {rest : List Oper} {op : Oper} {a : Act} {w : World} {Q : Exit → Act → World → Prop} (hgd : Region.wanted op (yielded ops a.tmps) = true) (x i : Operand) (ho : op.op = .index ty x i)
    (cs : Array Value) (hx : a.eval x = .agg cs) (k : Int) (hi : a.eval i = .int .i64 k) (v : Value) (hr : ∀ W, (Instr.index ty (.agg cs) (.int .i64 k)).run Tryz.prog W = .ok v W)
    (h : wpList Tryz.prog ops Q rest (a.put op.dst v) w) : wpList Tryz.prog ops Q (op :: rest) a w :=
  wpList_of_wp hgd fun K hK => by
    unfold Oper.wp execOp
    simp only [ho, hx, hi, Sem.run_bind, Sem.run_pure, Result.andThen_ok, hr]
    exact hK _ _ h

theorem has_no1 (a1 a2 b1 b2 c1 c2 x y : Int) (w : World) (h : Eg.fits x y = false) :
    Calls Tryz.prog 80 #[.agg #[.int .i64 a1, .int .i64 a2, .int .i64 b1, .int .i64 b2, .int .i64 c1, .int .i64 c2], .int .i64 x, .int .i64 y] w fun e w' => e = .returned (.tuple #[.bool false, .int .i64 3]) ∧ Kp w.heap.size w w' := by
  have M1 := fun W => mid_no x y W h
  clear h
  have HO := Lib.hid ((Ow.refl w).newAt w.heap.size rfl (.int .i64 a1) [.int .i64 a2, .int .i64 b1, .int .i64 b2, .int .i64 c1, .int .i64 c2] 126)
  go_enter Tryz.func80, Tryz.ntmps80
  go_wp2_with (go_at_call 82; refine (M1 _).mono ?_; rintro e w1 ⟨rfl, hk1⟩; have l2 := (HO.out.call hk1).newAt w1.heap.size rfl (.int .i64 0) [.int .i64 0] 23; clear HO hk1; have HO := Lib.hid l2; clear l2)
  go_ret2
  exact ⟨rfl, HO.out.k⟩
set_option maxRecDepth 100000 in
set_option maxHeartbeats 1000000 in
theorem has_no2 (a1 a2 b1 b2 c1 c2 x y : Int) (w : World) (hf : Eg.fits x y = true) (h : (Eg.may a1 a2 && Eg.may b1 b2 && Eg.may c1 c2) = false) :
    Calls Tryz.prog 80 #[.agg #[.int .i64 a1, .int .i64 a2, .int .i64 b1, .int .i64 b2, .int .i64 c1, .int .i64 c2], .int .i64 x, .int .i64 y] w fun e w' => e = .returned (.tuple #[.bool false, .int .i64 3]) ∧ Kp w.heap.size w w' := by
  have M1 := fun W => mid_yes x y W hf
  clear hf
  have HO := Lib.hid ((Ow.refl w).newAt w.heap.size rfl (.int .i64 a1) [.int .i64 a2, .int .i64 b1, .int .i64 b2, .int .i64 c1, .int .i64 c2] 126)
  go_enter Tryz.func80, Tryz.ntmps80
  go_wp2_with (first
    | (go_at_call 82; refine (M1 _).mono ?_; rintro e w1 ⟨rfl, hk1⟩; have l2 := (HO.out.call hk1).newAt w1.heap.size rfl (.int .i64 (16 * x + 8)) [.int .i64 (16 * y + 8)] 23; clear HO hk1; have HO := Lib.hid l2; clear l2)
    | ((with_reducible show wpList _ _ _ ({ dst := _, op := Op.load 23 _, type := _, pos := _, after := _, guard := _ } :: _) _ _); refine wpList_ldo ty_point rfl _ rfl _ _ rfl [.int .i64 a1, .int .i64 a2, .int .i64 b1, .int .i64 b2, .int .i64 c1, .int .i64 c2] rfl (HO.out.at 1 rfl).some ?_; intro us hus; dsimp only [List.drop, List.take] at hus; subst hus)
    | (go_at_call 38; refine (mayBe_any a1 a2 b1 b2 c1 c2 _ _ (Rc.new _ [.int .i64 a1, .int .i64 a2, .int .i64 b1, .int .i64 b2, .int .i64 c1, .int .i64 c2] _ (by simp)).some).mono ?_; rintro e w2 ⟨rfl, hk1⟩; have l2 := (HO.out.call (Kp.new _ _ _)).call hk1; clear HO hk1; have HO := Lib.hid l2; clear l2))
  go_ret2
  exact ⟨rfl, HO.out.k⟩

set_option linter.unusedSimpArgs false in
set_option maxRecDepth 100000 in
set_option maxHeartbeats 4000000 in
theorem has_yes (a1 a2 b1 b2 c1 c2 x y : Int) (w : World) (ha : Eg.may a1 a2 = true) (hb : Eg.may b1 b2 = true) (hc : Eg.may c1 c2 = true) (hf : Eg.fits x y = true) :
    Calls Tryz.prog 80 #[.agg #[.int .i64 a1, .int .i64 a2, .int .i64 b1, .int .i64 b2, .int .i64 c1, .int .i64 c2], .int .i64 x, .int .i64 y] w fun e w' => e = .returned (.tuple #[.bool (Eg.has a1 a2 b1 b2 c1 c2 (16 * x + 8) (16 * y + 8)), .int .i64 0]) ∧ Kp w.heap.size w w' := by
  have hm : Eg.may (16 * x + 8) (16 * y + 8) = true := by rw [Eg.middle_may]; exact hf
  have M1 := fun W => mid_yes x y W hf
  have h0 : (Eg.may a1 a2 && Eg.may b1 b2 && Eg.may c1 c2) = true := by rw [ha, hb, hc]; rfl
  have S1 := fun W => side_any a1 a2 b1 b2 c1 c2 W ha hb hc
  have L1 := fun W => lets_any a1 a2 b1 b2 (16 * x + 8) (16 * y + 8) W ha hb hm
  have L2 := fun W => lets_any b1 b2 c1 c2 (16 * x + 8) (16 * y + 8) W hb hc hm
  have L3 := fun W => lets_any c1 c2 a1 a2 (16 * x + 8) (16 * y + 8) W hc ha hm
  have he : Eg.has a1 a2 b1 b2 c1 c2 (16 * x + 8) (16 * y + 8) = (decide (0 < Eg.side a1 a2 b1 b2 c1 c2) && Eg.on a1 a2 b1 b2 (16 * x + 8) (16 * y + 8) && Eg.on b1 b2 c1 c2 (16 * x + 8) (16 * y + 8) && Eg.on c1 c2 a1 a2 (16 * x + 8) (16 * y + 8)) := rfl
  clear ha hb hc hf hm
  generalize Eg.has a1 a2 b1 b2 c1 c2 (16 * x + 8) (16 * y + 8) = res at *
  generalize Eg.on a1 a2 b1 b2 (16 * x + 8) (16 * y + 8) = g1 at *
  generalize Eg.on b1 b2 c1 c2 (16 * x + 8) (16 * y + 8) = g2 at *
  generalize Eg.on c1 c2 a1 a2 (16 * x + 8) (16 * y + 8) = g3 at *
  generalize Eg.side a1 a2 b1 b2 c1 c2 = s at *
  generalize 16 * x + 8 = mx at *
  generalize 16 * y + 8 = my at *
  have HE := Lib.hid he
  clear he
  have HO := Lib.hid ((Ow.refl w).newAt w.heap.size rfl (.int .i64 a1) [.int .i64 a2, .int .i64 b1, .int .i64 b2, .int .i64 c1, .int .i64 c2] 126)
  cases h1 : decide (s ≤ 0)
  · have HS : Hid (0 < s) := Lib.hid (by simpa using h1)
    go_enter Tryz.func80, Tryz.ntmps80
    go_wp2_with (first   | (go_at_call 82; refine (M1 _).mono ?_; rintro e w1 ⟨rfl, hk1⟩; have l2 := (HO.out.call hk1).newAt w1.heap.size rfl (.int .i64 mx) [.int .i64 my] 23; clear HO hk1; have HO := Lib.hid l2; clear l2)   | ((with_reducible show wpList _ _ _ ({ dst := _, op := Op.load 23 _, type := _, pos := _, after := _, guard := _ } :: _) _ _); refine wpList_ldo ty_point rfl _ rfl _ _ rfl [.int .i64 a1, .int .i64 a2, .int .i64 b1, .int .i64 b2, .int .i64 c1, .int .i64 c2] rfl (HO.out.at 1 rfl).some ?_; intro us hus; dsimp only [List.drop, List.take] at hus; subst hus)   | ((with_reducible show wpList _ _ _ ({ dst := _, op := Op.load 126 _, type := _, pos := _, after := _, guard := _ } :: _) _ _); refine wpList_ldr ety_three rfl _ rfl _ rfl _ rfl (HO.out.at 1 rfl) ?_)   | (go_at_call 38; refine (mayBe_any a1 a2 b1 b2 c1 c2 _ _ (Rc.new _ [.int .i64 a1, .int .i64 a2, .int .i64 b1, .int .i64 b2, .int .i64 c1, .int .i64 c2] _ (by simp)).some).mono ?_; rintro e w2 ⟨rfl, hk1⟩; have l2 := (HO.out.call (Kp.new _ _ _)).call hk1; clear HO hk1; have HO := Lib.hid l2; clear l2)   | (go_at_call 39; refine (S1 _).mono ?_; rintro e w3 ⟨rfl, hk1⟩; have l2 := HO.out.call hk1; clear HO hk1; have HO := Lib.hid l2; clear l2))
    go_loopw [39, 10, 11] (fun i _ _ wr => R3 g1 g2 g3 i ∧ Ow w wr [(w1.heap.size, [.int .i64 mx, .int .i64 my]), (w.heap.size, [.int .i64 a1, .int .i64 a2, .int .i64 b1, .int .i64 b2, .int .i64 c1, .int .i64 c2])]) (fun i _ _ _ => emsr3 i)
    case atStart => exact ⟨.inl rfl, HO.out⟩
    case round =>
      clear HO
      obtain ⟨hi, ho⟩ := hrel
      rcases hi with rfl | ⟨rfl, m1⟩ | ⟨rfl, m1, m2⟩ | ⟨rfl, m1, m2, m3⟩
      · skip
        have HO := Lib.hid (ho.newAt wr.heap.size rfl (.int .i64 a1) [.int .i64 a2] 23)
        clear ho
        go_upto_region 11 with ((with_reducible show wpList _ _ _ ({ dst := _, op := Op.index _ _ _, type := _, pos := _, after := _, guard := _ } :: _) _ _); refine wpList_idx rfl _ _ rfl _ rfl _ rfl (.agg #[.int .i64 a1, .int .i64 a2]) (fun W => (idx3 _ _ _ _ _ _ W).1) ?_)
        refine Rg.region (I := fun _ W => Ow w W [(wr.heap.size, [.int .i64 a1, .int .i64 a2]), (w1.heap.size, [.int .i64 mx, .int .i64 my]), (w.heap.size, [.int .i64 a1, .int .i64 a2, .int .i64 b1, .int .i64 b2, .int .i64 c1, .int .i64 c2])]) (dem := fun _ => false) (m := 9) (g := 0) (T := fun listed bs st => ∀ W, Ow w W [(wr.heap.size, [.int .i64 a1, .int .i64 a2]), (w1.heap.size, [.int .i64 mx, .int .i64 my]), (w.heap.size, [.int .i64 a1, .int .i64 a2, .int .i64 b1, .int .i64 b2, .int .i64 c1, .int .i64 c2])] → wpAny Tryz.prog .any _ _ 0 listed st W) (by kernel_rfl) HO.out.drew rfl (fun _ _ _ _ h hI => h _ hI) ?_
        clear HO
        refine Rg.take 0 (v := .agg #[.int .i64 a1, .int .i64 a2]) rfl rfl (by kernel_rfl) (by kernel_rfl) (by kernel_rfl) (by kernel_rfl) (by kernel_rfl) (.inl ⟨rfl, fun bs wq hI => ?_⟩) ?_
        · exact quiet_ldr ty_point (.tmp 11) rfl rfl rfl (hI.at 0 rfl)
        simp only [Act.put, List.getElem_toArray, List.getElem_cons_zero, List.getElem_cons_succ, List.setIfInBounds_toArray, List.set_cons_zero, List.set_cons_succ]
        refine Rg.take 1 (v := .int .i64 0) rfl rfl (by kernel_rfl) (by kernel_rfl) (by kernel_rfl) (by kernel_rfl) (by kernel_rfl) (.inl ⟨rfl, fun bs wq hI => ?_⟩) ?_
        · go_simp
        simp only [Act.put, List.getElem_toArray, List.getElem_cons_zero, List.getElem_cons_succ, List.setIfInBounds_toArray, List.set_cons_zero, List.set_cons_succ]
        refine Rg.take 2 (v := .int .i64 (0 + 1)) rfl rfl (by kernel_rfl) (by kernel_rfl) (by kernel_rfl) (by kernel_rfl) (by kernel_rfl) (.inl ⟨rfl, fun bs wq hI => ?_⟩) ?_
        · (go_simp; first | rfl | decide)
        simp only [Act.put, List.getElem_toArray, List.getElem_cons_zero, List.getElem_cons_succ, List.setIfInBounds_toArray, List.set_cons_zero, List.set_cons_succ]
        refine Rg.take 3 (v := .int .i64 1) rfl rfl (by kernel_rfl) (by kernel_rfl) (by kernel_rfl) (by kernel_rfl) (by kernel_rfl) (.inl ⟨rfl, fun bs wq hI => ?_⟩) ?_
        · go_simp
        simp only [Act.put, List.getElem_toArray, List.getElem_cons_zero, List.getElem_cons_succ, List.setIfInBounds_toArray, List.set_cons_zero, List.set_cons_succ]
        refine Rg.take 4 (v := .pointer (some ⟨w.heap.size, 2, none⟩)) rfl rfl (by kernel_rfl) (by kernel_rfl) (by kernel_rfl) (by kernel_rfl) (by kernel_rfl) (.inl ⟨rfl, fun bs wq hI => ?_⟩) ?_
        · go_simp
        simp only [Act.put, List.getElem_toArray, List.getElem_cons_zero, List.getElem_cons_succ, List.setIfInBounds_toArray, List.set_cons_zero, List.set_cons_succ]
        refine Rg.take 5 (v := .agg #[.int .i64 b1, .int .i64 b2]) rfl rfl (by kernel_rfl) (by kernel_rfl) (by kernel_rfl) (by kernel_rfl) (by kernel_rfl) (.inl ⟨rfl, fun bs wq hI => ?_⟩) ?_
        · exact quiet_ldo (vs := [.int .i64 a1, .int .i64 a2, .int .i64 b1, .int .i64 b2, .int .i64 c1, .int .i64 c2]) (us := [.int .i64 b1, .int .i64 b2]) ty_point (.tmp 47) rfl rfl rfl rfl (hI.at 2 rfl)
        simp only [Act.put, List.getElem_toArray, List.getElem_cons_zero, List.getElem_cons_succ, List.setIfInBounds_toArray, List.set_cons_zero, List.set_cons_succ]
        refine Rg.take 6 (v := .agg #[.int .i64 mx, .int .i64 my]) rfl rfl (by kernel_rfl) (by kernel_rfl) (by kernel_rfl) (by kernel_rfl) (by kernel_rfl) (.inl ⟨rfl, fun bs wq hI => ?_⟩) ?_
        · exact quiet_ldr ty_point (.tmp 8) rfl rfl rfl (hI.at 1 rfl)
        simp only [Act.put, List.getElem_toArray, List.getElem_cons_zero, List.getElem_cons_succ, List.setIfInBounds_toArray, List.set_cons_zero, List.set_cons_succ]
        refine Rg.take 7 (v := .bool g1) rfl rfl (by kernel_rfl) (by kernel_rfl) (by kernel_rfl) (by kernel_rfl) (by kernel_rfl) (.inl ⟨rfl, fun bs wq hI => ?_⟩) ?_
        · (go_simp; exact (L1 _).mono fun e w2 h => ⟨h.1, hI.call h.2⟩)
        simp only [Act.put, List.getElem_toArray, List.getElem_cons_zero, List.getElem_cons_succ, List.setIfInBounds_toArray, List.set_cons_zero, List.set_cons_succ]
        refine Rg.take 8 (v := .bool (!g1)) rfl rfl (by kernel_rfl) (by kernel_rfl) (by kernel_rfl) (by kernel_rfl) (by kernel_rfl) (.inl ⟨rfl, fun bs wq hI => ?_⟩) ?_
        · go_simp
        simp only [Act.put, List.getElem_toArray, List.getElem_cons_zero, List.getElem_cons_succ, List.setIfInBounds_toArray, List.set_cons_zero, List.set_cons_succ]
        refine Rg.done (rs := []) (by kernel_rfl) (by decide) (fun W hI => ?_)
        have HO := Lib.hid hI
        clear hI
        refine wpAny_done (by kernel_rfl) ?_ _
        cases g1
        all_goals go_wp2_with fail
        · go_ret2
          exact ⟨by rw [HE.out]; simp, HO.out.k⟩
        go_roundw
        case measure => simp [emsr3, intOf]
        case rel => exact ⟨.inr (.inl ⟨by go_num, rfl⟩), HO.out.rest⟩
      · skip
        have HO := Lib.hid (ho.newAt wr.heap.size rfl (.int .i64 b1) [.int .i64 b2] 23)
        clear ho
        go_upto_region 11 with ((with_reducible show wpList _ _ _ ({ dst := _, op := Op.index _ _ _, type := _, pos := _, after := _, guard := _ } :: _) _ _); refine wpList_idx rfl _ _ rfl _ rfl _ rfl (.agg #[.int .i64 b1, .int .i64 b2]) (fun W => (idx3 _ _ _ _ _ _ W).2.1) ?_)
        refine Rg.region (I := fun _ W => Ow w W [(wr.heap.size, [.int .i64 b1, .int .i64 b2]), (w1.heap.size, [.int .i64 mx, .int .i64 my]), (w.heap.size, [.int .i64 a1, .int .i64 a2, .int .i64 b1, .int .i64 b2, .int .i64 c1, .int .i64 c2])]) (dem := fun _ => false) (m := 9) (g := 0) (T := fun listed bs st => ∀ W, Ow w W [(wr.heap.size, [.int .i64 b1, .int .i64 b2]), (w1.heap.size, [.int .i64 mx, .int .i64 my]), (w.heap.size, [.int .i64 a1, .int .i64 a2, .int .i64 b1, .int .i64 b2, .int .i64 c1, .int .i64 c2])] → wpAny Tryz.prog .any _ _ 0 listed st W) (by kernel_rfl) HO.out.drew rfl (fun _ _ _ _ h hI => h _ hI) ?_
        clear HO
        refine Rg.take 0 (v := .agg #[.int .i64 b1, .int .i64 b2]) rfl rfl (by kernel_rfl) (by kernel_rfl) (by kernel_rfl) (by kernel_rfl) (by kernel_rfl) (.inl ⟨rfl, fun bs wq hI => ?_⟩) ?_
        · exact quiet_ldr ty_point (.tmp 11) rfl rfl rfl (hI.at 0 rfl)
        simp only [Act.put, List.getElem_toArray, List.getElem_cons_zero, List.getElem_cons_succ, List.setIfInBounds_toArray, List.set_cons_zero, List.set_cons_succ]
        refine Rg.take 1 (v := .int .i64 1) rfl rfl (by kernel_rfl) (by kernel_rfl) (by kernel_rfl) (by kernel_rfl) (by kernel_rfl) (.inl ⟨rfl, fun bs wq hI => ?_⟩) ?_
        · go_simp
        simp only [Act.put, List.getElem_toArray, List.getElem_cons_zero, List.getElem_cons_succ, List.setIfInBounds_toArray, List.set_cons_zero, List.set_cons_succ]
        refine Rg.take 2 (v := .int .i64 (1 + 1)) rfl rfl (by kernel_rfl) (by kernel_rfl) (by kernel_rfl) (by kernel_rfl) (by kernel_rfl) (.inl ⟨rfl, fun bs wq hI => ?_⟩) ?_
        · (go_simp; first | rfl | decide)
        simp only [Act.put, List.getElem_toArray, List.getElem_cons_zero, List.getElem_cons_succ, List.setIfInBounds_toArray, List.set_cons_zero, List.set_cons_succ]
        refine Rg.take 3 (v := .int .i64 2) rfl rfl (by kernel_rfl) (by kernel_rfl) (by kernel_rfl) (by kernel_rfl) (by kernel_rfl) (.inl ⟨rfl, fun bs wq hI => ?_⟩) ?_
        · go_simp
        simp only [Act.put, List.getElem_toArray, List.getElem_cons_zero, List.getElem_cons_succ, List.setIfInBounds_toArray, List.set_cons_zero, List.set_cons_succ]
        refine Rg.take 4 (v := .pointer (some ⟨w.heap.size, 4, none⟩)) rfl rfl (by kernel_rfl) (by kernel_rfl) (by kernel_rfl) (by kernel_rfl) (by kernel_rfl) (.inl ⟨rfl, fun bs wq hI => ?_⟩) ?_
        · go_simp
        simp only [Act.put, List.getElem_toArray, List.getElem_cons_zero, List.getElem_cons_succ, List.setIfInBounds_toArray, List.set_cons_zero, List.set_cons_succ]
        refine Rg.take 5 (v := .agg #[.int .i64 c1, .int .i64 c2]) rfl rfl (by kernel_rfl) (by kernel_rfl) (by kernel_rfl) (by kernel_rfl) (by kernel_rfl) (.inl ⟨rfl, fun bs wq hI => ?_⟩) ?_
        · exact quiet_ldo (vs := [.int .i64 a1, .int .i64 a2, .int .i64 b1, .int .i64 b2, .int .i64 c1, .int .i64 c2]) (us := [.int .i64 c1, .int .i64 c2]) ty_point (.tmp 47) rfl rfl rfl rfl (hI.at 2 rfl)
        simp only [Act.put, List.getElem_toArray, List.getElem_cons_zero, List.getElem_cons_succ, List.setIfInBounds_toArray, List.set_cons_zero, List.set_cons_succ]
        refine Rg.take 6 (v := .agg #[.int .i64 mx, .int .i64 my]) rfl rfl (by kernel_rfl) (by kernel_rfl) (by kernel_rfl) (by kernel_rfl) (by kernel_rfl) (.inl ⟨rfl, fun bs wq hI => ?_⟩) ?_
        · exact quiet_ldr ty_point (.tmp 8) rfl rfl rfl (hI.at 1 rfl)
        simp only [Act.put, List.getElem_toArray, List.getElem_cons_zero, List.getElem_cons_succ, List.setIfInBounds_toArray, List.set_cons_zero, List.set_cons_succ]
        refine Rg.take 7 (v := .bool g2) rfl rfl (by kernel_rfl) (by kernel_rfl) (by kernel_rfl) (by kernel_rfl) (by kernel_rfl) (.inl ⟨rfl, fun bs wq hI => ?_⟩) ?_
        · (go_simp; exact (L2 _).mono fun e w2 h => ⟨h.1, hI.call h.2⟩)
        simp only [Act.put, List.getElem_toArray, List.getElem_cons_zero, List.getElem_cons_succ, List.setIfInBounds_toArray, List.set_cons_zero, List.set_cons_succ]
        refine Rg.take 8 (v := .bool (!g2)) rfl rfl (by kernel_rfl) (by kernel_rfl) (by kernel_rfl) (by kernel_rfl) (by kernel_rfl) (.inl ⟨rfl, fun bs wq hI => ?_⟩) ?_
        · go_simp
        simp only [Act.put, List.getElem_toArray, List.getElem_cons_zero, List.getElem_cons_succ, List.setIfInBounds_toArray, List.set_cons_zero, List.set_cons_succ]
        refine Rg.done (rs := []) (by kernel_rfl) (by decide) (fun W hI => ?_)
        have HO := Lib.hid hI
        clear hI
        refine wpAny_done (by kernel_rfl) ?_ _
        cases g2
        all_goals go_wp2_with fail
        · go_ret2
          exact ⟨by rw [HE.out]; simp, HO.out.k⟩
        go_roundw
        case measure => simp [emsr3, intOf]
        case rel => exact ⟨.inr (.inr (.inl ⟨by go_num, m1, rfl⟩)), HO.out.rest⟩
      · skip
        have HO := Lib.hid (ho.newAt wr.heap.size rfl (.int .i64 c1) [.int .i64 c2] 23)
        clear ho
        go_upto_region 11 with ((with_reducible show wpList _ _ _ ({ dst := _, op := Op.index _ _ _, type := _, pos := _, after := _, guard := _ } :: _) _ _); refine wpList_idx rfl _ _ rfl _ rfl _ rfl (.agg #[.int .i64 c1, .int .i64 c2]) (fun W => (idx3 _ _ _ _ _ _ W).2.2) ?_)
        refine Rg.region (I := fun _ W => Ow w W [(wr.heap.size, [.int .i64 c1, .int .i64 c2]), (w1.heap.size, [.int .i64 mx, .int .i64 my]), (w.heap.size, [.int .i64 a1, .int .i64 a2, .int .i64 b1, .int .i64 b2, .int .i64 c1, .int .i64 c2])]) (dem := fun _ => false) (m := 9) (g := 0) (T := fun listed bs st => ∀ W, Ow w W [(wr.heap.size, [.int .i64 c1, .int .i64 c2]), (w1.heap.size, [.int .i64 mx, .int .i64 my]), (w.heap.size, [.int .i64 a1, .int .i64 a2, .int .i64 b1, .int .i64 b2, .int .i64 c1, .int .i64 c2])] → wpAny Tryz.prog .any _ _ 0 listed st W) (by kernel_rfl) HO.out.drew rfl (fun _ _ _ _ h hI => h _ hI) ?_
        clear HO
        refine Rg.take 0 (v := .agg #[.int .i64 c1, .int .i64 c2]) rfl rfl (by kernel_rfl) (by kernel_rfl) (by kernel_rfl) (by kernel_rfl) (by kernel_rfl) (.inl ⟨rfl, fun bs wq hI => ?_⟩) ?_
        · exact quiet_ldr ty_point (.tmp 11) rfl rfl rfl (hI.at 0 rfl)
        simp only [Act.put, List.getElem_toArray, List.getElem_cons_zero, List.getElem_cons_succ, List.setIfInBounds_toArray, List.set_cons_zero, List.set_cons_succ]
        refine Rg.take 1 (v := .int .i64 2) rfl rfl (by kernel_rfl) (by kernel_rfl) (by kernel_rfl) (by kernel_rfl) (by kernel_rfl) (.inl ⟨rfl, fun bs wq hI => ?_⟩) ?_
        · go_simp
        simp only [Act.put, List.getElem_toArray, List.getElem_cons_zero, List.getElem_cons_succ, List.setIfInBounds_toArray, List.set_cons_zero, List.set_cons_succ]
        refine Rg.take 2 (v := .int .i64 (2 + 1)) rfl rfl (by kernel_rfl) (by kernel_rfl) (by kernel_rfl) (by kernel_rfl) (by kernel_rfl) (.inl ⟨rfl, fun bs wq hI => ?_⟩) ?_
        · (go_simp; first | rfl | decide)
        simp only [Act.put, List.getElem_toArray, List.getElem_cons_zero, List.getElem_cons_succ, List.setIfInBounds_toArray, List.set_cons_zero, List.set_cons_succ]
        refine Rg.take 3 (v := .int .i64 0) rfl rfl (by kernel_rfl) (by kernel_rfl) (by kernel_rfl) (by kernel_rfl) (by kernel_rfl) (.inl ⟨rfl, fun bs wq hI => ?_⟩) ?_
        · go_simp
        simp only [Act.put, List.getElem_toArray, List.getElem_cons_zero, List.getElem_cons_succ, List.setIfInBounds_toArray, List.set_cons_zero, List.set_cons_succ]
        refine Rg.take 4 (v := .pointer (some ⟨w.heap.size, 0, none⟩)) rfl rfl (by kernel_rfl) (by kernel_rfl) (by kernel_rfl) (by kernel_rfl) (by kernel_rfl) (.inl ⟨rfl, fun bs wq hI => ?_⟩) ?_
        · go_simp
        simp only [Act.put, List.getElem_toArray, List.getElem_cons_zero, List.getElem_cons_succ, List.setIfInBounds_toArray, List.set_cons_zero, List.set_cons_succ]
        refine Rg.take 5 (v := .agg #[.int .i64 a1, .int .i64 a2]) rfl rfl (by kernel_rfl) (by kernel_rfl) (by kernel_rfl) (by kernel_rfl) (by kernel_rfl) (.inl ⟨rfl, fun bs wq hI => ?_⟩) ?_
        · exact quiet_ldo (vs := [.int .i64 a1, .int .i64 a2, .int .i64 b1, .int .i64 b2, .int .i64 c1, .int .i64 c2]) (us := [.int .i64 a1, .int .i64 a2]) ty_point (.tmp 47) rfl rfl rfl rfl (hI.at 2 rfl)
        simp only [Act.put, List.getElem_toArray, List.getElem_cons_zero, List.getElem_cons_succ, List.setIfInBounds_toArray, List.set_cons_zero, List.set_cons_succ]
        refine Rg.take 6 (v := .agg #[.int .i64 mx, .int .i64 my]) rfl rfl (by kernel_rfl) (by kernel_rfl) (by kernel_rfl) (by kernel_rfl) (by kernel_rfl) (.inl ⟨rfl, fun bs wq hI => ?_⟩) ?_
        · exact quiet_ldr ty_point (.tmp 8) rfl rfl rfl (hI.at 1 rfl)
        simp only [Act.put, List.getElem_toArray, List.getElem_cons_zero, List.getElem_cons_succ, List.setIfInBounds_toArray, List.set_cons_zero, List.set_cons_succ]
        refine Rg.take 7 (v := .bool g3) rfl rfl (by kernel_rfl) (by kernel_rfl) (by kernel_rfl) (by kernel_rfl) (by kernel_rfl) (.inl ⟨rfl, fun bs wq hI => ?_⟩) ?_
        · (go_simp; exact (L3 _).mono fun e w2 h => ⟨h.1, hI.call h.2⟩)
        simp only [Act.put, List.getElem_toArray, List.getElem_cons_zero, List.getElem_cons_succ, List.setIfInBounds_toArray, List.set_cons_zero, List.set_cons_succ]
        refine Rg.take 8 (v := .bool (!g3)) rfl rfl (by kernel_rfl) (by kernel_rfl) (by kernel_rfl) (by kernel_rfl) (by kernel_rfl) (.inl ⟨rfl, fun bs wq hI => ?_⟩) ?_
        · go_simp
        simp only [Act.put, List.getElem_toArray, List.getElem_cons_zero, List.getElem_cons_succ, List.setIfInBounds_toArray, List.set_cons_zero, List.set_cons_succ]
        refine Rg.done (rs := []) (by kernel_rfl) (by decide) (fun W hI => ?_)
        have HO := Lib.hid hI
        clear hI
        refine wpAny_done (by kernel_rfl) ?_ _
        cases g3
        all_goals go_wp2_with fail
        · go_ret2
          exact ⟨by rw [HE.out]; simp, HO.out.k⟩
        go_roundw
        case measure => simp [emsr3, intOf]
        case rel => exact ⟨.inr (.inr (.inr ⟨by go_num, m1, m2, rfl⟩)), HO.out.rest⟩
      · have HO := Lib.hid ho
        clear ho
        subst m1 m2 m3
        go_wp2
        go_ret2
        exact ⟨by rw [HE.out]; simp [HS.out], HO.out.k⟩
  · have HS : Hid (s ≤ 0) := Lib.hid (by simpa using h1)
    go_enter Tryz.func80, Tryz.ntmps80
    go_wp2_with (first   | (go_at_call 82; refine (M1 _).mono ?_; rintro e w1 ⟨rfl, hk1⟩; have l2 := (HO.out.call hk1).newAt w1.heap.size rfl (.int .i64 mx) [.int .i64 my] 23; clear HO hk1; have HO := Lib.hid l2; clear l2)   | ((with_reducible show wpList _ _ _ ({ dst := _, op := Op.load 23 _, type := _, pos := _, after := _, guard := _ } :: _) _ _); refine wpList_ldo ty_point rfl _ rfl _ _ rfl [.int .i64 a1, .int .i64 a2, .int .i64 b1, .int .i64 b2, .int .i64 c1, .int .i64 c2] rfl (HO.out.at 1 rfl).some ?_; intro us hus; dsimp only [List.drop, List.take] at hus; subst hus)   | ((with_reducible show wpList _ _ _ ({ dst := _, op := Op.load 126 _, type := _, pos := _, after := _, guard := _ } :: _) _ _); refine wpList_ldr ety_three rfl _ rfl _ rfl _ rfl (HO.out.at 1 rfl) ?_)   | (go_at_call 38; refine (mayBe_any a1 a2 b1 b2 c1 c2 _ _ (Rc.new _ [.int .i64 a1, .int .i64 a2, .int .i64 b1, .int .i64 b2, .int .i64 c1, .int .i64 c2] _ (by simp)).some).mono ?_; rintro e w2 ⟨rfl, hk1⟩; have l2 := (HO.out.call (Kp.new _ _ _)).call hk1; clear HO hk1; have HO := Lib.hid l2; clear l2)   | (go_at_call 39; refine (S1 _).mono ?_; rintro e w3 ⟨rfl, hk1⟩; have l2 := HO.out.call hk1; clear HO hk1; have HO := Lib.hid l2; clear l2))
    go_ret2
    exact ⟨by rw [HE.out, decide_eq_false (by have := HS.out; omega)]; simp, HO.out.k⟩
end Go.Proofs.YtankjlpanmmogaaGreat

/-
  Contracts of layer 2 (wide): what its functions return, for every input.
-/
namespace Go.Proofs.YtankjlpanmmogaaGreat
set_option maxRecDepth 100000
open Go.RowKit

theorem ret_w {a b c d : Int} (h : a = c) (h' : b = d) : Ending.returned (.agg #[.int .i64 a, .int .u64 b]) = .returned (.agg #[.int .i64 c, .int .u64 d]) := by rw [h, h']
set_option maxHeartbeats 400000 in
theorem wof_any (n : Int) (w : World) (h : -9223372036854775808 ≤ n ∧ n ≤ 9223372036854775807) :
    Calls Tryz.prog 136 #[.int .i64 n] w fun e w' => e = .returned (.agg #[.int .i64 (Wd.hi (n)), .int .u64 (Wd.lo (n))]) ∧ Kp w.heap.size w w' := by
  by_cases h0 : n < 0
  · have HE := Lib.hid (Wd.of_neg h0 h.1)
    go_enter Tryz.func136, Tryz.ntmps136
    go_wp2
    exact bodyPost_ret (v := .agg #[.int .i64 (-1), .int .u64 (IntKind.u64.wrap n)]) (by simp [results, Tryz.results136, go_sem]) rfl ⟨ret_w HE.out.1.symm (by rw [IntKind.wrap_u64]; exact HE.out.2.symm), (Kp.refl _ _).alloc (Nat.le_refl _) _ _⟩
  · have HE := Lib.hid (Wd.of_pos h0 h.2)
    go_enter Tryz.func136, Tryz.ntmps136
    go_wp2
    exact bodyPost_ret (v := .agg #[.int .i64 0, .int .u64 n]) (by simp [results, Tryz.results136, go_sem]) rfl ⟨ret_w HE.out.1.symm HE.out.2.symm, (Kp.refl _ _).alloc (Nat.le_refl _) _ _⟩

theorem add64_0 (x y : Int) (hx : 0 ≤ x) (hy : 0 ≤ y) (w : World) : (callFunc 147 #[.int .u64 x, .int .u64 y, .int .u64 0]).run Tryz.prog w =
    .ok (.value (.tuple #[.int .u64 ((x + y) % 18446744073709551616), .int .u64 ((x + y) / 18446744073709551616)])) w := by
  rw [run_callFunc_extern Tryz.func147 (by kernel_rfl) (by kernel_rfl) (by kernel_rfl) (e := add64Entry) (by kernel_rfl), run_add64 x y 0 hx hy (by omega) (by omega)]
  simp only [Int.add_zero, Result.andThen]

set_option maxHeartbeats 400000 in
theorem add_any (x y : Int) (w : World) :
    Calls Tryz.prog 133 #[.agg #[.int .i64 (Wd.hi (x)), .int .u64 (Wd.lo (x))], .agg #[.int .i64 (Wd.hi (y)), .int .u64 (Wd.lo (y))]] w fun e w' => e = .returned (.agg #[.int .i64 (Wd.hi (x + y)), .int .u64 (Wd.lo (x + y))]) ∧ Kp w.heap.size w w' := by
  obtain ⟨a1, a2⟩ := Wd.hi_bd x
  obtain ⟨b1, b2⟩ := Wd.lo_bd x
  obtain ⟨c1, c2⟩ := Wd.hi_bd y
  obtain ⟨d1, d2⟩ := Wd.lo_bd y
  have H1 := Lib.hid (Wd.add_lo x y)
  have H2 := Lib.hid (Wd.add_hi x y)
  go_enter Tryz.func133, Tryz.ntmps133
  go_wp2_with (simp only [add64_0 _ _ b1 d1])
  exact bodyPost_ret (v := .agg #[.int .i64 (wrap64 (wrap64 (Wd.hi x + Wd.hi y) + (Wd.lo x + Wd.lo y) / 18446744073709551616)), .int .u64 ((Wd.lo x + Wd.lo y) % 18446744073709551616)]) (by simp [results, Tryz.results133, go_sem]) rfl ⟨ret_w H2.out.symm H1.out.symm, (((Kp.refl _ _).alloc (Nat.le_refl _) _ _).alloc (by simp) _ _).alloc (by simp; omega) _ _⟩


set_option maxHeartbeats 400000 in
theorem neg_any (x : Int) (w : World) :
    Calls Tryz.prog 149 #[.agg #[.int .i64 (Wd.hi (x)), .int .u64 (Wd.lo (x))]] w fun e w' => e = .returned (.agg #[.int .i64 (Wd.hi (-x)), .int .u64 (Wd.lo (-x))]) ∧ Kp w.heap.size w w' := by
  obtain ⟨a1, a2⟩ := Wd.hi_bd x
  obtain ⟨b1, b2⟩ := Wd.lo_bd x
  have HN1 := Lib.hid (Wd.not_hi x)
  have HN2 := Lib.hid (Wd.not_lo x)
  go_enter Tryz.func149, Tryz.ntmps149
  go_wp2
  go_region_held3 (fun w' => w'.cell? ⟨w.heap.size, 0, none⟩ = some (.int .i64 (Wd.hi x)) ∧ w'.cell? ⟨w.heap.size, 1, none⟩ = some (.int .u64 (Wd.lo x))) (simp [go_sem, World.cell?_alloc_past, *])
    (first
      | (go_at_call 136; refine (wof_any _ _ (by omega)).mono ?_; rintro e w1 ⟨rfl, hk1⟩; have hc1 := hk1.cells; have hf1 := hk1.frozen; have hz1 := hk1.size; have HK1 := Lib.hid hk1; clear hk1; simp at hc1 hf1 hz1; have hl1 : w.heap.size < w1.heap.size := (by omega); have hl1' : w.heap.size + 1 < w1.heap.size := by omega)
      | (go_at_call 133; rw [HN1.out, HN2.out]; refine (add_any _ _ _).mono ?_; rintro e w2 ⟨rfl, hk2⟩; have hc2 := hk2.cells; have hf2 := hk2.frozen; have hz2 := hk2.size; have HK2 := Lib.hid hk2; clear hk2))
  go_wp2
  refine bodyPost_ret (v := .agg #[.int .i64 (Wd.hi (-x)), .int .u64 (Wd.lo (-x))]) (by simp [results, Tryz.results149, go_sem, *]) rfl ⟨rfl, ?_⟩
  have k0 := (((Kp.refl w.heap.size w).alloc (Nat.le_refl _) #[.int .i64 (Wd.hi x), .int .u64 (Wd.lo x)] 154).alloc (by simp) #[.int .i64 0, .int .u64 0] 154).drew
  exact (((k0.trans (HK1.out.mono (by simp; omega))).trans (HK2.out.mono (by omega))).setCell (by simp) _).setCell (by simp) _
end Go.Proofs.YtankjlpanmmogaaGreat

/-
  Contracts of layer 2 (wide), second part: products of 128 bits, amounts.
-/
namespace Go.Proofs.YtankjlpanmmogaaGreat
set_option maxRecDepth 100000
open Go.RowKit

theorem Wd.mask32 (a : Nat) (ha : a < 18446744073709551616) : bits .and .u64 (a : Int) 4294967295 = ((a % 4294967296 : Nat) : Int) := by
  have h := bits_and_u64_nat a 4294967295 ha (by omega)
  rw [show a &&& 4294967295 = a % 4294967296 from Nat.and_two_pow_sub_one_eq_mod a 32] at h
  exact h

theorem ret_two {k l : IntKind} {a b c d : Int} (h : a = c) (h' : b = d) : Ending.returned (.tuple #[.int k a, .int l b]) = .returned (.tuple #[.int k c, .int l d]) := by rw [h, h']
theorem Wd.up_div (a : Nat) : (a : Int) / 4294967296 = ((a / 4294967296 : Nat) : Int) := by omega
theorem Wd.up_mul (a b : Nat) : (a : Int) * (b : Int) = ((a * b : Nat) : Int) := (Int.natCast_mul a b).symm
theorem Wd.up_add (a b : Nat) : (a : Int) + (b : Int) = ((a + b : Nat) : Int) := (Int.natCast_add a b).symm
theorem Wd.up_wrap (a : Nat) (ha : a < 18446744073709551616) : IntKind.u64.wrap (a : Int) = (a : Int) := by rw [IntKind.wrap_u64]; omega
theorem Wd.up_mod (a : Nat) : IntKind.u64.wrap (a : Int) = ((a % 18446744073709551616 : Nat) : Int) := by rw [IntKind.wrap_u64]; omega

set_option maxHeartbeats 1000000 in
theorem mul64_any (x y : Nat) (hx : x < 18446744073709551616) (hy : y < 18446744073709551616) (w : World) :
    Calls Tryz.prog 148 #[.int .u64 x, .int .u64 y] w fun e w' => e = .returned (.tuple #[.int .u64 ((x * y / 18446744073709551616 : Nat) : Int), .int .u64 ((x * y % 18446744073709551616 : Nat) : Int)]) ∧ w = w' := by
  go_enter Tryz.func148, Tryz.ntmps148
  go_wp2
  go_ret2
  obtain ⟨p1, p2, p3, p4⟩ := Lib.mul64_hi x y hx hy
  have q1 := Lib.half_mul_le (a := x / 4294967296) (b := y / 4294967296) (by omega) (by omega)
  have q2 := Lib.half_mul_le (a := x / 4294967296) (b := y % 4294967296) (by omega) (by omega)
  have q3 := Lib.half_mul_le (a := x % 4294967296) (b := y / 4294967296) (by omega) (by omega)
  refine ⟨ret_two ?_ ?_, rfl⟩
  · simp only [Wd.mask32 x hx, Wd.mask32 y hy, Wd.up_div, Wd.up_mul]
    rw [Wd.up_wrap (x / 4294967296 * (y / 4294967296)) (by omega), Wd.up_wrap (x / 4294967296 * (y % 4294967296)) (by omega), Wd.up_wrap (x % 4294967296 * (y % 4294967296)) p1, Wd.up_wrap (x % 4294967296 * (y / 4294967296)) (by omega)]
    simp only [Wd.up_div, Wd.up_add]
    rw [Wd.up_wrap _ p2, Wd.mask32 _ p2]
    simp only [Wd.up_div, Wd.up_add]
    rw [Wd.up_wrap _ p3]
    simp only [Wd.up_div]
    rw [Wd.up_wrap (x / 4294967296 * (y / 4294967296) + _) (by omega)]
    simp only [Wd.up_add]
    rw [Wd.up_wrap _ (by omega), p4]
  · rw [Wd.up_mul, Wd.up_mod]


set_option maxHeartbeats 400000 in
theorem amount_any (x : Int) (w : World) :
    Calls Tryz.prog 135 #[.agg #[.int .i64 (Wd.hi (x)), .int .u64 (Wd.lo (x))]] w fun e w' => e = .returned (.tuple #[.int .u64 (Wd.ahi x), .int .u64 (Wd.alo x)]) ∧ Kp w.heap.size w w' := by
  obtain ⟨a1, a2⟩ := Wd.hi_bd x
  obtain ⟨b1, b2⟩ := Wd.lo_bd x
  by_cases h0 : Wd.hi x < 0
  · have HE := Lib.hid (Wd.am_neg h0)
    go_enter Tryz.func135, Tryz.ntmps135
    go_wp2_with fail
    refine (neg_any _ _).mono ?_
    rintro e w1 ⟨rfl, hk1⟩
    have hc1 := hk1.cells; have hf1 := hk1.frozen; have hz1 := hk1.size; have HK1 := Lib.hid hk1; clear hk1; simp at hc1 hf1 hz1
    go_wp2_with fail
    go_quiet (fail)
    go_wp2
    go_ret2
    exact ⟨ret_two (by rw [IntKind.wrap_u64]; exact HE.out.1.symm) HE.out.2.symm, (((((Kp.refl _ _).alloc (Nat.le_refl _) _ _).trans (HK1.out.mono (by simp))).setCell (Nat.le_refl _) _).setCell (Nat.le_refl _) _).drewN _⟩
  · have HE := Lib.hid (Wd.am_pos h0)
    go_enter Tryz.func135, Tryz.ntmps135
    go_wp2_with fail
    go_quiet (fail)
    go_wp2
    go_ret2
    exact ⟨ret_two HE.out.1.symm HE.out.2.symm, ((Kp.refl _ _).alloc (Nat.le_refl _) _ _).drewN _⟩

theorem mul64_int (p q : Int) (w : World) (hp : 0 ≤ p ∧ p < 18446744073709551616) (hq : 0 ≤ q ∧ q < 18446744073709551616) :
    Calls Tryz.prog 148 #[.int .u64 p, .int .u64 q] w fun e w' => e = .returned (.tuple #[.int .u64 (Wd.ph p q), .int .u64 (Wd.pl p q)]) ∧ w = w' := by
  obtain ⟨x, rfl⟩ := Int.eq_ofNat_of_zero_le hp.1
  obtain ⟨y, rfl⟩ := Int.eq_ofNat_of_zero_le hq.1
  refine (mul64_any x y (by omega) (by omega) w).mono ?_
  rintro e w' ⟨rfl, rfl⟩
  refine ⟨ret_two ?_ ?_, rfl⟩
  · unfold Wd.ph; rw [Wd.up_mul]; omega
  · unfold Wd.pl; rw [Wd.up_mul]; omega

set_option maxHeartbeats 1000000 in
theorem mul_any (a b : Int) (w : World) (ha : -9223372036854775808 ≤ a ∧ a ≤ 9223372036854775807) (hb : -9223372036854775808 ≤ b ∧ b ≤ 9223372036854775807) :
    Calls Tryz.prog 134 #[.int .i64 a, .int .i64 b] w fun e w' => e = .returned (.agg #[.int .i64 (Wd.hi (a * b)), .int .u64 (Wd.lo (a * b))]) ∧ Kp w.heap.size w w' := by
  obtain ⟨a1, a2⟩ := ha
  obtain ⟨b1, b2⟩ := hb
  have u1 := Wd.u_bd a
  have u2 := Wd.u_bd b
  have HP := Lib.hid (Wd.mul_halves a b ⟨a1, a2⟩ ⟨b1, b2⟩)
  have HA := Lib.hid (fun h => Wd.u_pos (a := a) h a2)
  have HB := Lib.hid (fun h => Wd.u_pos (a := b) h b2)
  by_cases h0 : a < 0 <;> by_cases h1 : b < 0
  all_goals
    go_enter Tryz.func134, Tryz.ntmps134
    go_wp2_with fail
    refine (mul64_int _ _ _ (by omega) (by omega)).mono ?_
    rintro e w' ⟨rfl, rfl⟩
    go_wp2
    refine bodyPost_ret (by simp [results, Tryz.results134, go_sem]; exact ⟨rfl, rfl⟩) rfl ⟨ret_w ?_ ?_, ((Kp.refl _ _).alloc (Nat.le_refl _) _ _).alloc (by simp) _ _⟩
    · rw [HP.out.2]; (try rw [HA.out (by omega)]); (try rw [HB.out (by omega)]); (repeat' split) <;> (unfold wrap64; omega)
    · rw [HP.out.1]; (try rw [HA.out (by omega)]); (try rw [HB.out (by omega)])
end Go.Proofs.YtankjlpanmmogaaGreat

/-
  Contracts of layer 2 (wide), third part: how many bits a word has.
-/
namespace Go.Proofs.YtankjlpanmmogaaGreat
set_option maxRecDepth 100000
open Go.RowKit

theorem Wd.tab (i : Int) (h : i.toNat < Lib.len8tab.size) (h0 : 0 ≤ i) (h1 : i ≤ 255) : ((Lib.len8tab[i.toNat]'h).toNat : Int) = (Lib.bitLen i.toNat : Nat) := by
  have e := Lib.len8_of i h0 h1
  unfold Lib.len8 at e
  rw [ByteArray.getElem?_lt' _ _ h] at e
  simpa using e
theorem Wd.tab_shift (x i : Int) (k : Nat) (c : Int) (hc : c = k) (h : i.toNat < Lib.len8tab.size) (hi : i.toNat = x.toNat / 2 ^ k) (h0 : 0 ≤ i) (h1 : i ≤ 255) (hx : 2 ^ k ≤ x.toNat) (hx1 : x.toNat < 2 ^ 64) (hk : k ≤ 56) :
    wrap64 (c + wrap64 ((Lib.len8tab[i.toNat]'h).toNat : Int)) = (Lib.bitLen x.toNat : Nat) := by
  have l := Lib.bitLen_le8' i h0 h1
  rw [Wd.tab i h h0 h1, Lib.bitLen_shift k x.toNat hx hx1, ← hi]
  subst hc
  generalize Lib.bitLen i.toNat = b at *
  unfold wrap64; omega

set_option maxHeartbeats 4000000 in
set_option maxRecDepth 100000 in
theorem len64_any (x : Int) (w : World) (h0 : 0 ≤ x) (h1 : x ≤ 18446744073709551615) :
    Calls Tryz.prog 152 #[.int .u64 x] w fun e w' => e = .returned (.int .i64 (Lib.bitLen x.toNat)) ∧ w = w' := by
  have HS := Lib.hid Lib.len8tab_size
  go_enter Tryz.func152, Tryz.ntmps152
  go_wp2
  all_goals have hS := HS.out
  all_goals first
    | (exfalso; omega)
    | (go_ret; exact ⟨ret_int (Wd.tab_shift x _ 56 _ rfl _ (by omega) (by omega) (by omega) (by omega) (by omega) (by omega)), rfl⟩)
    | (go_ret; exact ⟨ret_int (Wd.tab_shift x _ 48 _ rfl _ (by omega) (by omega) (by omega) (by omega) (by omega) (by omega)), rfl⟩)
    | (go_ret; exact ⟨ret_int (Wd.tab_shift x _ 40 _ rfl _ (by omega) (by omega) (by omega) (by omega) (by omega) (by omega)), rfl⟩)
    | (go_ret; exact ⟨ret_int (Wd.tab_shift x _ 32 _ rfl _ (by omega) (by omega) (by omega) (by omega) (by omega) (by omega)), rfl⟩)
    | (go_ret; exact ⟨ret_int (Wd.tab_shift x _ 24 _ rfl _ (by omega) (by omega) (by omega) (by omega) (by omega) (by omega)), rfl⟩)
    | (go_ret; exact ⟨ret_int (Wd.tab_shift x _ 16 _ rfl _ (by omega) (by omega) (by omega) (by omega) (by omega) (by omega)), rfl⟩)
    | (go_ret; exact ⟨ret_int (Wd.tab_shift x _ 8 _ rfl _ (by omega) (by omega) (by omega) (by omega) (by omega) (by omega)), rfl⟩)
    | (go_ret; refine ⟨ret_int ?_, rfl⟩; rw [Wd.tab x _ h0 (by omega)]; have l := Lib.bitLen_le8' x h0 (by omega); generalize Lib.bitLen x.toNat = b at *; unfold wrap64; omega)
end Go.Proofs.YtankjlpanmmogaaGreat

/-
  Contracts of layer 2 (wide), fourth part: a quotient of two words by one.
-/
namespace Go.Proofs.YtankjlpanmmogaaGreat
set_option maxRecDepth 100000
open Go.RowKit

/-- how far a word may be shifted up -/
def Wd.lz (y : Int) : Nat := 64 - Lib.bitLen y.toNat
theorem Wd.bitLen_pos (x : Nat) (h0 : x ≠ 0) (h : x < 2 ^ 64) : 1 ≤ Lib.bitLen x := by rw [Lib.bitLen_half x h0 h]; omega
theorem Wd.bitLen_up (x : Nat) (h : x < 2 ^ 64) : x < 2 ^ Lib.bitLen x := by
  rcases Nat.lt_or_ge x (2 ^ Lib.bitLen x) with k | k
  · exact k
  · exfalso
    have e := Lib.bitLen_shift (Lib.bitLen x) x k h
    have hp : 0 < 2 ^ Lib.bitLen x := Nat.two_pow_pos _
    have h1 : x / 2 ^ Lib.bitLen x ≠ 0 := by
      have := (Nat.le_div_iff_mul_le hp (x := 1) (y := x)).2 (by omega)
      omega
    have h2 : x / 2 ^ Lib.bitLen x ≤ x := Nat.div_le_self _ _
    have := Wd.bitLen_pos (x / 2 ^ Lib.bitLen x) h1 (by omega)
    omega
theorem Wd.lz_spec (y : Int) (h0 : 0 < y) (h1 : y ≤ 18446744073709551615) : Wd.lz y ≤ 63 ∧ 9223372036854775808 ≤ y * 2 ^ Wd.lz y ∧ y * 2 ^ Wd.lz y ≤ 18446744073709551615 := by
  obtain ⟨x, rfl⟩ := Int.eq_ofNat_of_zero_le (Int.le_of_lt h0)
  have hx : x < 2 ^ 64 := by omega
  have hle := Lib.bitLen_le x 64 (by omega) hx
  have hpos := Wd.bitLen_pos x (by omega) hx
  have hup := Wd.bitLen_up x hx
  have hlow : 2 ^ (Lib.bitLen x - 1) ≤ x := by
    rcases Nat.lt_or_ge x (2 ^ (Lib.bitLen x - 1)) with k | k
    · have := Lib.bitLen_le x (Lib.bitLen x - 1) (by omega) k; omega
    · exact k
  unfold Wd.lz
  rw [Int.toNat_natCast]
  generalize Lib.bitLen x = b at *
  have e1 : 2 ^ b * 2 ^ (64 - b) = 2 ^ 64 := by rw [← Nat.pow_add, show b + (64 - b) = 64 by omega]
  have e2 : 2 ^ (b - 1) * 2 ^ (64 - b) = 2 ^ 63 := by rw [← Nat.pow_add, show b - 1 + (64 - b) = 63 by omega]
  have hp : 0 < 2 ^ (64 - b) := Nat.two_pow_pos _
  have k1 : x * 2 ^ (64 - b) < 2 ^ b * 2 ^ (64 - b) := Nat.mul_lt_mul_of_pos_right hup hp
  have k2 : 2 ^ (b - 1) * 2 ^ (64 - b) ≤ x * 2 ^ (64 - b) := Nat.mul_le_mul_right _ hlow
  have e3 : ((x * 2 ^ (64 - b) : Nat) : Int) = (x : Int) * 2 ^ (64 - b) := by simp
  rw [← e3]
  generalize x * 2 ^ (64 - b) = z at *
  omega

set_option maxHeartbeats 400000 in
theorem lz64_any (y : Int) (w : World) (h0 : 0 < y) (h1 : y ≤ 18446744073709551615) :
    Calls Tryz.prog 150 #[.int .u64 y] w fun e w' => e = .returned (.int .i64 (Wd.lz y)) ∧ w = w' := by
  have hle := Lib.bitLen_le y.toNat 64 (by omega) (by omega)
  have HE : Hid ((64 : Int) - (Lib.bitLen y.toNat : Nat) = (Wd.lz y : Nat)) := by unfold Wd.lz; show (64 : Int) - _ = _; omega
  go_enter Tryz.func150, Tryz.ntmps150
  go_wp2_with fail
  refine (len64_any _ _ (by omega) h1).mono ?_
  rintro e w' ⟨rfl, rfl⟩
  go_wp2
  go_ret
  exact ⟨ret_int HE.out, rfl⟩

theorem Wd.mask32_int (a : Int) (h0 : 0 ≤ a) (h1 : a ≤ 18446744073709551615) : bits .and .u64 a 4294967295 = a % 4294967296 := by
  obtain ⟨n, rfl⟩ := Int.eq_ofNat_of_zero_le h0
  rw [Wd.mask32 n (by omega)]; omega

set_option maxHeartbeats 1000000 in
theorem div64_low (l y : Int) (w : World) (l0 : 0 ≤ l) (l1 : l ≤ 18446744073709551615) (yp : 0 < y) (y1 : y ≤ 18446744073709551615) :
    Calls Tryz.prog 137 #[.int .u64 0, .int .u64 l, .int .u64 y] w fun e w' => e = .returned (.tuple #[.int .u64 (l / y), .int .u64 (l % y)]) ∧ ∃ n, w' = w.drewN n := by
  have yb : (y == 0) = false := by simp; omega
  have yh : ¬ y ≤ 0 := by omega
  have yn : y ≠ 0 := by omega
  have m1 := Int.ediv_nonneg l0 (Int.le_of_lt yp)
  have m2 := Int.ediv_le_self y l0
  have m3 := Int.emod_nonneg l yn
  have m4 := Int.emod_lt_of_pos l yp
  go_enter Tryz.func137, Tryz.ntmps137
  go_wp2
  go_quiet (fail)
  go_wp2
  go_ret2
  exact ⟨rfl, _, rfl⟩

set_option maxHeartbeats 1000000 in
set_option maxRecDepth 100000 in
theorem div64_high (h l y : Int) (w : World) (h0 : 0 < h) (h1 : h < y) (l0 : 0 ≤ l) (l1 : l ≤ 18446744073709551615) (y1 : y ≤ 18446744073709551615) :
    Calls Tryz.prog 137 #[.int .u64 h, .int .u64 l, .int .u64 y] w fun e w' => e = .returned (.tuple #[.int .u64 ((h * 18446744073709551616 + l) / y), .int .u64 ((h * 18446744073709551616 + l) % y)]) ∧ ∃ n, w' = w.drewN n := by
  obtain ⟨s1, s2, s3⟩ := Wd.lz_spec y (by omega) y1
  have yb : (y == 0) = false := by simp; omega
  have hb : (h == 0) = false := by simp; omega
  have yh : ¬ y ≤ h := by omega
  have yp : 0 < y := by omega
  obtain ⟨eU, U1, U2, eN⟩ := Wd.scaled h l y (Wd.lz y) s1 (by omega) l0 l1 s3 h1
  obtain ⟨eQ, eR⟩ := Wd.unscaled (h * 18446744073709551616 + l) y (Wd.lz y)
  have V12 := Wd.u_bd (l * 2 ^ Wd.lz y)
  rw [← eN] at eQ eR
  generalize eUd : h * 2 ^ Wd.lz y + l / 2 ^ (64 - Wd.lz y) = U at *
  generalize eV : IntKind.u64.wrap (l * 2 ^ Wd.lz y) = V at *
  generalize eY : y * 2 ^ Wd.lz y = Y at *
  obtain ⟨V1, V2⟩ := V12
  have HQ := Lib.hid eQ
  have HR := Lib.hid eR
  clear eQ eR eN eUd
  have HT := Lib.hid (Wd.two_steps U V Y U1 U2 V1 (by omega))
  have ey0 := Wd.mask32_int Y (by omega) s3
  have ev0 := Wd.mask32_int V V1 (by omega)
  have eYs : Y = Y / 4294967296 * 4294967296 + Y % 4294967296 := by omega
  have HYs := Lib.hid eYs
  clear eYs
  have hd1 : 2147483648 ≤ Y / 4294967296 := by omega
  have hd2 : Y / 4294967296 ≤ 4294967295 := by omega
  have hd0 : 0 ≤ Y % 4294967296 := by omega
  have hd0' : Y % 4294967296 ≤ 4294967295 := by omega
  have hv1 : 0 ≤ V / 4294967296 := by omega
  have hv1' : V / 4294967296 ≤ 4294967295 := by omega
  have hv0 : 0 ≤ V % 4294967296 := by omega
  have hv0' : V % 4294967296 ≤ 4294967295 := by omega
  obtain ⟨g1, g2, g3, g4, g5⟩ := Wd.guess (u := V / 4294967296) HYs.out hd1 hd0 (by omega) U1 U2 (by omega)
  have g6 : 0 ≤ U / (Y / 4294967296) * (Y / 4294967296) := Int.mul_nonneg g1 (by omega)
  generalize ey1 : Y / 4294967296 = d1 at *
  generalize ed0 : Y % 4294967296 = d0 at *
  generalize ew1 : V / 4294967296 = v1 at *
  generalize ew0 : V % 4294967296 = v0 at *
  go_enter Tryz.func137, Tryz.ntmps137
  go_wp2_with fail
  refine (lz64_any _ _ yp y1).mono ?_
  rintro e w' ⟨rfl, rfl⟩
  go_upto_block 0 with fail
  go_cut [15] (fun s15 wx => s15 = .int .u64 (Wd.nq U v1 Y) ∧ wx = w)
  case first =>
    go_wp2
    go_loop [15, 16] (fun a b => ∃ q r : Int, a = .int .u64 q ∧ b = .int .u64 r ∧ 0 ≤ q ∧ q ≤ 4294967297 ∧ 0 ≤ r ∧ r < 4294967296 ∧ U = q * d1 + r ∧ Wd.nq U v1 Y ≤ q) (fun a _ => (intOf a).toNat)
    case atStart => exact ⟨_, _, rfl, rfl, g1, g2, g3, by omega, by omega, g5⟩
    case round =>
      obtain ⟨q, r, rfl, rfl, q1, q2, r1, r2, eq, nqq⟩ := hrel
      have HE := Lib.hid eq
      clear eq
      have n0 := (Wd.nq_bd (u := v1) U1 U2 hv1 (by omega)).1
      by_cases hq : q < 4294967296
      · have hp1 : 0 ≤ q * d0 := Int.mul_nonneg q1 hd0
        have hp2 : q * d0 ≤ 4294967295 * 4294967295 := Int.mul_le_mul (by omega) hd0' hd0 (by omega)
        by_cases ht : 4294967296 * r + v1 < q * d0
        · have hn := Wd.too_great HYs.out (by omega) HE.out ht
          have HE2 : Hid (U = (q - 1) * d1 + (r + d1)) := by have := HE.out; show U = _; rw [this, Int.sub_mul]; omega
          by_cases hr : r + d1 < 4294967296
          · go_wp2
            go_round
            case rel => exact ⟨q - 1, r + d1, rfl, rfl, by omega, by omega, by omega, hr, HE2.out, hn⟩
            case measure => simp [intOf]; omega
          · go_wp2
            go_meet
            exact ⟨congrArg (Value.int .u64) (Wd.found' HYs.out (by omega) HE2.out hn hv1 hd0 (by omega) (by omega) (by omega) (by omega)), rfl⟩
        · go_wp2
          go_meet
          exact ⟨congrArg (Value.int .u64) (Wd.found HYs.out (by omega) HE.out nqq (by omega)), rfl⟩
      · have hn := Wd.too_great' (u := v1) U1 U2 hv1 (by omega) (Int.not_lt.1 hq)
        have HE2 : Hid (U = (q - 1) * d1 + (r + d1)) := by have := HE.out; show U = _; rw [this, Int.sub_mul]; omega
        by_cases hr : r + d1 < 4294967296
        · go_wp2
          go_round
          case rel => exact ⟨q - 1, r + d1, rfl, rfl, by omega, by omega, by omega, hr, HE2.out, hn⟩
          case measure => simp [intOf]; omega
        · go_wp2
          go_meet
          exact ⟨congrArg (Value.int .u64) (Wd.found' HYs.out (by omega) HE2.out hn hv1 hd0 (by omega) (by omega) (by omega) (by omega)), rfl⟩
  case rest =>
    obtain ⟨rfl, rfl⟩ := hcut
    clear g1 g2 g3 g4 g5 g6
    obtain ⟨n1, n2⟩ := Wd.nq_bd (u := v1) U1 U2 hv1 (by omega)
    obtain ⟨R1, R2⟩ := Wd.nr_bd (u := v1) U1 U2
    have eL := Wd.left_word (u := v1) U1 U2 s3
    generalize eq1 : Wd.nq U v1 Y = Q1 at *
    generalize er1 : Wd.nr U v1 Y = R at *
    have HQ1 := Lib.hid eq1
    have HR1 := Lib.hid er1
    clear eq1 er1
    obtain ⟨g1, g2, g3, g4, g5⟩ := Wd.guess (u := v0) HYs.out hd1 hd0 (by omega) R1 R2 (by omega)
    have g6 : 0 ≤ R / d1 * d1 := Int.mul_nonneg g1 (by omega)
    have eL2 := Wd.left_word (u := v0) R1 R2 s3
    obtain ⟨S1, S2⟩ := Wd.nr_bd (u := v0) R1 R2
    have HL2 := Lib.hid eL2
    clear eL2
    go_upto_block 2 with fail
    go_cut [18] (fun s18 wx => s18 = .int .u64 (Wd.nq R v0 Y) ∧ wx = wc)
    case first =>
      go_wp2
      go_loop [18, 16] (fun a b => ∃ q r : Int, a = .int .u64 q ∧ b = .int .u64 r ∧ 0 ≤ q ∧ q ≤ 4294967297 ∧ 0 ≤ r ∧ r < 4294967296 ∧ R = q * d1 + r ∧ Wd.nq R v0 Y ≤ q) (fun a _ => (intOf a).toNat)
      case atStart => exact ⟨_, _, rfl, rfl, g1, g2, g3, by omega, by omega, g5⟩
      case round =>
        obtain ⟨q, r, rfl, rfl, q1, q2, r1, r2, eq, nqq⟩ := hrel
        have HE := Lib.hid eq
        clear eq
        have n0 := (Wd.nq_bd (u := v0) R1 R2 hv0 (by omega)).1
        by_cases hq : q < 4294967296
        · have hp1 : 0 ≤ q * d0 := Int.mul_nonneg q1 hd0
          have hp2 : q * d0 ≤ 4294967295 * 4294967295 := Int.mul_le_mul (by omega) hd0' hd0 (by omega)
          by_cases ht : 4294967296 * r + v0 < q * d0
          · have hn := Wd.too_great HYs.out (by omega) HE.out ht
            have HE2 : Hid (R = (q - 1) * d1 + (r + d1)) := by have := HE.out; show R = _; rw [this, Int.sub_mul]; omega
            by_cases hr : r + d1 < 4294967296
            · go_wp2
              go_round
              case rel => exact ⟨q - 1, r + d1, rfl, rfl, by omega, by omega, by omega, hr, HE2.out, hn⟩
              case measure => simp [intOf]; omega
            · go_wp2
              go_meet
              exact ⟨congrArg (Value.int .u64) (Wd.found' HYs.out (by omega) HE2.out hn hv0 hd0 (by omega) (by omega) (by omega) (by omega)), rfl⟩
          · go_wp2
            go_meet
            exact ⟨congrArg (Value.int .u64) (Wd.found HYs.out (by omega) HE.out nqq (by omega)), rfl⟩
        · have hn := Wd.too_great' (u := v0) R1 R2 hv0 (by omega) (Int.not_lt.1 hq)
          have HE2 : Hid (R = (q - 1) * d1 + (r + d1)) := by have := HE.out; show R = _; rw [this, Int.sub_mul]; omega
          by_cases hr : r + d1 < 4294967296
          · go_wp2
            go_round
            case rel => exact ⟨q - 1, r + d1, rfl, rfl, by omega, by omega, by omega, hr, HE2.out, hn⟩
            case measure => simp [intOf]; omega
          · go_wp2
            go_meet
            exact ⟨congrArg (Value.int .u64) (Wd.found' HYs.out (by omega) HE2.out hn hv0 hd0 (by omega) (by omega) (by omega) (by omega)), rfl⟩
    case rest =>
      obtain ⟨rfl, rfl⟩ := hcut
      clear g1 g2 g3 g4 g5 g6
      obtain ⟨m1, m2⟩ := Wd.nq_bd (u := v0) R1 R2 hv0 (by omega)
      have eL2 := HL2.out
      generalize eq0 : Wd.nq R v0 Y = Q0 at *
      generalize er0 : Wd.nr R v0 Y = S at *
      have HQ0 := Lib.hid eq0
      have HR0 := Lib.hid er0
      clear eq0 er0
      go_wp2
      go_ret2
      refine ⟨ret_two ?_ ?_, 0, rfl⟩
      · rw [← HQ.out, HT.out.1]
      · rw [← HR.out, HT.out.2]

theorem div64_any (h l y : Int) (w : World) (h0 : 0 ≤ h) (h1 : h < y) (l0 : 0 ≤ l) (l1 : l ≤ 18446744073709551615) (y1 : y ≤ 18446744073709551615) :
    Calls Tryz.prog 137 #[.int .u64 h, .int .u64 l, .int .u64 y] w fun e w' => e = .returned (.tuple #[.int .u64 ((h * 18446744073709551616 + l) / y), .int .u64 ((h * 18446744073709551616 + l) % y)]) ∧ ∃ n, w' = w.drewN n := by
  by_cases hz : h = 0
  · subst hz
    have := div64_low l y w l0 l1 (by omega) y1
    rwa [Int.zero_mul, Int.zero_add]
  · exact div64_high h l y w (by omega) h1 l0 l1 y1
end Go.Proofs.YtankjlpanmmogaaGreat

/-
  Contracts of layer 2 (wide), fifth part: quotients cut downwards.
-/
namespace Go.Proofs.YtankjlpanmmogaaGreat
set_option maxRecDepth 100000
open Go.RowKit
set_option linter.unusedVariables false

theorem div64_kp (h l y : Int) (w : World) (h0 : 0 ≤ h) (h1 : h < y) (l0 : 0 ≤ l) (l1 : l ≤ 18446744073709551615) (y1 : y ≤ 18446744073709551615) :
    Calls Tryz.prog 137 #[.int .u64 h, .int .u64 l, .int .u64 y] w fun e w' => e = .returned (.tuple #[.int .u64 (Wd.dq h l y), .int .u64 (Wd.dr h l y)]) ∧ Kp w.heap.size w w' := by
  refine (div64_any h l y w h0 h1 l0 l1 y1).mono ?_
  rintro e w' ⟨rfl, n, rfl⟩
  exact ⟨rfl, (Kp.refl _ _).drewN n⟩

set_option maxHeartbeats 1000000 in
theorem below_no (q m : Int) (w : World) (q0 : 0 ≤ q) (q1 : q ≤ 18446744073709551615) (m0 : 0 ≤ m) (m1 : m ≤ 18446744073709551615) (h : 9223372036854775808 < q ∨ q = 9223372036854775808 ∧ m ≠ 0) :
    Calls Tryz.prog 138 #[.int .u64 q, .int .u64 m] w fun e w' => e = .returned (.tuple #[.int .i64 0, .int .i64 3]) ∧ w = w' := by
  rcases h with h | ⟨rfl, h⟩
  · go_enter Tryz.func138, Tryz.ntmps138
    go_wp2
    go_ret2
    exact ⟨rfl, rfl⟩
  · have hm : (m != 0) = true := by simpa using h
    clear h
    go_enter Tryz.func138, Tryz.ntmps138
    go_wp2
    go_ret2
    exact ⟨rfl, rfl⟩

set_option maxHeartbeats 1000000 in
theorem below_ok (q m : Int) (w : World) (q0 : 0 ≤ q) (m0 : 0 ≤ m) (m1 : m ≤ 18446744073709551615) (h : q < 9223372036854775808 ∨ q = 9223372036854775808 ∧ m = 0) :
    Calls Tryz.prog 138 #[.int .u64 q, .int .u64 m] w fun e w' => e = .returned (.tuple #[.int .i64 (-q - (if m = 0 then 0 else 1)), .int .i64 0]) ∧ w = w' := by
  rcases h with h | ⟨rfl, rfl⟩
  · have h' : ¬ 9223372036854775808 < q := by omega
    have hq : (q == 9223372036854775808) = false := by simp; omega
    by_cases hm : m = 0
    · subst hm
      rw [if_pos rfl]
      go_enter Tryz.func138, Tryz.ntmps138
      go_wp2
      go_ret2
      exact ⟨ret_two (by omega) rfl, rfl⟩
    · have hm : (m != 0) = true := by simpa using hm
      rw [if_neg (by simpa using hm)]
      go_enter Tryz.func138, Tryz.ntmps138
      go_wp2
      go_ret2
      exact ⟨ret_two rfl rfl, rfl⟩
  · rw [if_pos rfl]
    go_enter Tryz.func138, Tryz.ntmps138
    go_wp2
    go_ret2
    exact ⟨ret_two (by unfold wrap64; omega) rfl, rfl⟩

set_option maxHeartbeats 400000 in
theorem wfloor_zero (x : Int) (w : World) :
    Calls Tryz.prog 116 #[.agg #[.int .i64 (Wd.hi (x)), .int .u64 (Wd.lo (x))], .int .i64 0] w fun e w' => e = .returned (.tuple #[.int .i64 0, .int .i64 2]) ∧ Kp w.heap.size w w' := by
  go_enter Tryz.func116, Tryz.ntmps116
  go_wp2
  go_ret2
  exact ⟨rfl, (Kp.refl _ _).alloc (Nat.le_refl _) _ _⟩

set_option maxHeartbeats 1000000 in
theorem floor_any (x b : Int) (w : World) (hb : Wd.isInt b) (hb0 : b ≠ 0) :
    Calls Tryz.prog 116 #[.agg #[.int .i64 (Wd.hi (x)), .int .u64 (Wd.lo (x))], .int .i64 b] w fun e w' => e = .returned (.tuple #[.int .i64 (Wd.fq x b), .int .i64 (Wd.fe x b)]) ∧ Kp w.heap.size w w' := by
  obtain ⟨a1, a2⟩ := Wd.hi_bd x
  obtain ⟨A1, A2, A3, A4, _⟩ := Wd.a_bd x
  obtain ⟨B1, B2, B3, B4, _⟩ := Wd.a_bd b
  have hbb : (b == 0) = false := by simpa using hb0
  have B5 : 0 < Wd.alo b := by have := Wd.alo_int hb; split at this <;> omega
  by_cases hf : Wd.alo b ≤ Wd.ahi x
  · have HF := Lib.hid (Wd.fq_out (Wd.fl_far hb hb0 hf))
    go_enter Tryz.func116, Tryz.ntmps116
    go_wp2_with fail
    refine (amount_any _ _).mono ?_
    rintro e w1 ⟨rfl, hk1⟩
    have HK1 := Lib.hid hk1; clear hk1
    go_wp2_with fail
    refine (wof_any _ _ hb).mono ?_
    rintro e w2 ⟨rfl, hk2⟩
    have HK2 := Lib.hid hk2; clear hk2
    go_wp2_with fail
    refine (amount_any _ _).mono ?_
    rintro e w3 ⟨rfl, hk3⟩
    have HK3 := Lib.hid hk3; clear hk3
    go_wp2
    go_ret2
    have z1 := HK1.out.size; have z2 := HK2.out.size; simp at z1
    exact ⟨ret_two HF.out.1.symm HF.out.2.symm, ((((Kp.refl _ _).alloc (Nat.le_refl _) _ _).trans (HK1.out.mono (by simp))).trans (HK2.out.mono (by omega))).trans (HK3.out.mono (by omega))⟩
  · obtain ⟨q0, q1, m0, m1⟩ := Wd.dq_bd (l := Wd.alo x) A1 (Int.not_le.1 hf) A3 A4
    have hcase : (Wd.hi x < 0 ↔ b < 0) ∧ 9223372036854775807 < Wd.dq (Wd.ahi x) (Wd.alo x) (Wd.alo b) ∧ Wd.fq x b = 0 ∧ Wd.fe x b = 3
        ∨ (Wd.hi x < 0 ↔ b < 0) ∧ ¬ 9223372036854775807 < Wd.dq (Wd.ahi x) (Wd.alo x) (Wd.alo b) ∧ Wd.fq x b = Wd.dq (Wd.ahi x) (Wd.alo x) (Wd.alo b) ∧ Wd.fe x b = 0
        ∨ ¬ (Wd.hi x < 0 ↔ b < 0) := by
      by_cases hs : Wd.hi x < 0 ↔ b < 0
      · have e := Wd.fl_same hb hb0 hs
        by_cases hq : 9223372036854775807 < Wd.dq (Wd.ahi x) (Wd.alo x) (Wd.alo b)
        · exact .inl ⟨hs, hq, Wd.fq_out (by rw [e]; unfold Wd.isInt; omega)⟩
        · have := Wd.fq_in (x := x) (b := b) (by rw [e]; unfold Wd.isInt; omega)
          rw [e] at this
          exact .inr (.inl ⟨hs, hq, this⟩)
      · exact .inr (.inr hs)
    rcases hcase with ⟨hs, hq, hF⟩ | ⟨hs, hq, hF⟩ | hs
    · have HF := Lib.hid hF
      clear hF
      rcases (show (Wd.hi x < 0 ∧ b < 0) ∨ (¬ Wd.hi x < 0 ∧ ¬ b < 0) by omega) with ⟨hx, hy⟩ | ⟨hx, hy⟩
      all_goals
        clear hs
        have hd1 : decide (Wd.hi x < 0) = decide (Wd.hi x < 0) := rfl
        have hd2 : decide (b < 0) = decide (b < 0) := rfl
        conv at hd1 => rhs; simp only [hx, decide_true, decide_false]
        conv at hd2 => rhs; simp only [hy, decide_true, decide_false]
        go_enter Tryz.func116, Tryz.ntmps116
        go_wp2_with fail
        refine (amount_any _ _).mono ?_
        rintro e w1 ⟨rfl, hk1⟩
        have h1 := hk1.cells; have z1 := hk1.size; simp at h1 z1; have HK1 := Lib.hid hk1; clear hk1
        go_wp2_with fail
        refine (wof_any _ _ hb).mono ?_
        rintro e w2 ⟨rfl, hk2⟩
        have h2 := hk2.cells; have z2 := hk2.size; have HK2 := Lib.hid hk2; clear hk2
        go_wp2_with fail
        refine (amount_any _ _).mono ?_
        rintro e w3 ⟨rfl, hk3⟩
        have h3 := hk3.cells; have z3 := hk3.size; have HK3 := Lib.hid hk3; clear hk3
        go_wp2_with fail
        refine (div64_kp _ _ _ _ A1 (by omega) A3 A4 B4).mono ?_
        rintro e w4 ⟨rfl, hk4⟩
        have h4 := hk4.cells; have HK4 := Lib.hid hk4; clear hk4
        have l1 : w.heap.size < w1.heap.size := by omega
        have l2 : w.heap.size < w2.heap.size := by omega
        have l3 : w.heap.size < w3.heap.size := by omega
        go_wp2
        go_ret2
        exact ⟨ret_two HF.out.1.symm HF.out.2.symm, (((((Kp.refl _ _).alloc (Nat.le_refl _) _ _).trans (HK1.out.mono (by simp))).trans (HK2.out.mono (by omega))).trans (HK3.out.mono (by omega))).trans (HK4.out.mono (by omega))⟩
    · have HF := Lib.hid hF
      clear hF
      rcases (show (Wd.hi x < 0 ∧ b < 0) ∨ (¬ Wd.hi x < 0 ∧ ¬ b < 0) by omega) with ⟨hx, hy⟩ | ⟨hx, hy⟩
      all_goals
        clear hs
        have hd1 : decide (Wd.hi x < 0) = decide (Wd.hi x < 0) := rfl
        have hd2 : decide (b < 0) = decide (b < 0) := rfl
        conv at hd1 => rhs; simp only [hx, decide_true, decide_false]
        conv at hd2 => rhs; simp only [hy, decide_true, decide_false]
        go_enter Tryz.func116, Tryz.ntmps116
        go_wp2_with fail
        refine (amount_any _ _).mono ?_
        rintro e w1 ⟨rfl, hk1⟩
        have h1 := hk1.cells; have z1 := hk1.size; simp at h1 z1; have HK1 := Lib.hid hk1; clear hk1
        go_wp2_with fail
        refine (wof_any _ _ hb).mono ?_
        rintro e w2 ⟨rfl, hk2⟩
        have h2 := hk2.cells; have z2 := hk2.size; have HK2 := Lib.hid hk2; clear hk2
        go_wp2_with fail
        refine (amount_any _ _).mono ?_
        rintro e w3 ⟨rfl, hk3⟩
        have h3 := hk3.cells; have z3 := hk3.size; have HK3 := Lib.hid hk3; clear hk3
        go_wp2_with fail
        refine (div64_kp _ _ _ _ A1 (by omega) A3 A4 B4).mono ?_
        rintro e w4 ⟨rfl, hk4⟩
        have h4 := hk4.cells; have HK4 := Lib.hid hk4; clear hk4
        have l1 : w.heap.size < w1.heap.size := by omega
        have l2 : w.heap.size < w2.heap.size := by omega
        have l3 : w.heap.size < w3.heap.size := by omega
        go_wp2
        go_ret2
        exact ⟨ret_two HF.out.1.symm HF.out.2.symm, (((((Kp.refl _ _).alloc (Nat.le_refl _) _ _).trans (HK1.out.mono (by simp))).trans (HK2.out.mono (by omega))).trans (HK3.out.mono (by omega))).trans (HK4.out.mono (by omega))⟩
    · have HO := Lib.hid (Wd.fl_other hb hb0 hs)
      by_cases hr : Wd.dq (Wd.ahi x) (Wd.alo x) (Wd.alo b) < 9223372036854775808 ∨ Wd.dq (Wd.ahi x) (Wd.alo x) (Wd.alo b) = 9223372036854775808 ∧ Wd.dr (Wd.ahi x) (Wd.alo x) (Wd.alo b) = 0
      · have HF := Lib.hid (Wd.fq_in (x := x) (b := b) (by rw [HO.out]; unfold Wd.isInt; split <;> omega))
        have HR := Lib.hid hr
        clear hr
        rcases (show (Wd.hi x < 0 ∧ ¬ b < 0) ∨ (¬ Wd.hi x < 0 ∧ b < 0) by omega) with ⟨hx, hy⟩ | ⟨hx, hy⟩
        all_goals
          clear hs
          have hd1 : decide (Wd.hi x < 0) = decide (Wd.hi x < 0) := rfl
          have hd2 : decide (b < 0) = decide (b < 0) := rfl
          conv at hd1 => rhs; simp only [hx, decide_true, decide_false]
          conv at hd2 => rhs; simp only [hy, decide_true, decide_false]
          go_enter Tryz.func116, Tryz.ntmps116
          go_wp2_with fail
          refine (amount_any _ _).mono ?_
          rintro e w1 ⟨rfl, hk1⟩
          have h1 := hk1.cells; have z1 := hk1.size; simp at h1 z1; have HK1 := Lib.hid hk1; clear hk1
          go_wp2_with fail
          refine (wof_any _ _ hb).mono ?_
          rintro e w2 ⟨rfl, hk2⟩
          have h2 := hk2.cells; have z2 := hk2.size; have HK2 := Lib.hid hk2; clear hk2
          go_wp2_with fail
          refine (amount_any _ _).mono ?_
          rintro e w3 ⟨rfl, hk3⟩
          have h3 := hk3.cells; have z3 := hk3.size; have HK3 := Lib.hid hk3; clear hk3
          go_wp2_with fail
          refine (div64_kp _ _ _ _ A1 (by omega) A3 A4 B4).mono ?_
          rintro e w4 ⟨rfl, hk4⟩
          have h4 := hk4.cells; have HK4 := Lib.hid hk4; clear hk4
          have l1 : w.heap.size < w1.heap.size := by omega
          have l2 : w.heap.size < w2.heap.size := by omega
          have l3 : w.heap.size < w3.heap.size := by omega
          go_wp2_with fail
          refine (below_ok _ _ _ q0 m0 (by omega) HR.out).mono ?_
          rintro e w' ⟨rfl, rfl⟩
          rw [← HO.out]
          go_wp2
          go_ret2
          exact ⟨ret_two HF.out.1.symm HF.out.2.symm, (((((Kp.refl _ _).alloc (Nat.le_refl _) _ _).trans (HK1.out.mono (by simp))).trans (HK2.out.mono (by omega))).trans (HK3.out.mono (by omega))).trans (HK4.out.mono (by omega))⟩
      · have HF := Lib.hid (Wd.fq_out (x := x) (b := b) (by rw [HO.out]; unfold Wd.isInt; split <;> omega))
        have HR : Hid (9223372036854775808 < Wd.dq (Wd.ahi x) (Wd.alo x) (Wd.alo b) ∨ Wd.dq (Wd.ahi x) (Wd.alo x) (Wd.alo b) = 9223372036854775808 ∧ Wd.dr (Wd.ahi x) (Wd.alo x) (Wd.alo b) ≠ 0) := by show _ ∨ _; omega
        clear hr
        rcases (show (Wd.hi x < 0 ∧ ¬ b < 0) ∨ (¬ Wd.hi x < 0 ∧ b < 0) by omega) with ⟨hx, hy⟩ | ⟨hx, hy⟩
        all_goals
          clear hs
          have hd1 : decide (Wd.hi x < 0) = decide (Wd.hi x < 0) := rfl
          have hd2 : decide (b < 0) = decide (b < 0) := rfl
          conv at hd1 => rhs; simp only [hx, decide_true, decide_false]
          conv at hd2 => rhs; simp only [hy, decide_true, decide_false]
          go_enter Tryz.func116, Tryz.ntmps116
          go_wp2_with fail
          refine (amount_any _ _).mono ?_
          rintro e w1 ⟨rfl, hk1⟩
          have h1 := hk1.cells; have z1 := hk1.size; simp at h1 z1; have HK1 := Lib.hid hk1; clear hk1
          go_wp2_with fail
          refine (wof_any _ _ hb).mono ?_
          rintro e w2 ⟨rfl, hk2⟩
          have h2 := hk2.cells; have z2 := hk2.size; have HK2 := Lib.hid hk2; clear hk2
          go_wp2_with fail
          refine (amount_any _ _).mono ?_
          rintro e w3 ⟨rfl, hk3⟩
          have h3 := hk3.cells; have z3 := hk3.size; have HK3 := Lib.hid hk3; clear hk3
          go_wp2_with fail
          refine (div64_kp _ _ _ _ A1 (by omega) A3 A4 B4).mono ?_
          rintro e w4 ⟨rfl, hk4⟩
          have h4 := hk4.cells; have HK4 := Lib.hid hk4; clear hk4
          have l1 : w.heap.size < w1.heap.size := by omega
          have l2 : w.heap.size < w2.heap.size := by omega
          have l3 : w.heap.size < w3.heap.size := by omega
          go_wp2_with fail
          refine (below_no _ _ _ q0 q1 m0 (by omega) HR.out).mono ?_
          rintro e w' ⟨rfl, rfl⟩
          go_wp2
          go_ret2
          exact ⟨ret_two HF.out.1.symm HF.out.2.symm, (((((Kp.refl _ _).alloc (Nat.le_refl _) _ _).trans (HK1.out.mono (by simp))).trans (HK2.out.mono (by omega))).trans (HK3.out.mono (by omega))).trans (HK4.out.mono (by omega))⟩

end Go.Proofs.YtankjlpanmmogaaGreat
