/-
  Contract of the document's own answers for layer 15 (clip): the cut of two corners.
-/
import Derived.Test.YtfhlnldiljldcaaClipRefBtw
import Derived.Test.YtfhlnldiljldcaaMem2
import Derived.BigGuard
namespace Go.Proofs.Ytfhlnldiljldcaa
open Go.RowKit

def Cl.zero : Cn := fun _ => 0
/-- the first n numbers of a corner, the others 0 -/
def Cl.part (m : Cn) (n : Nat) : Cn := fun i => if i < n then m i else 0
theorem Cl.part_next (m : Cn) (n : Nat) : Cl.set (Cl.part m n) n (m n) = Cl.part m (n + 1) := by
  funext i
  unfold Cl.set Cl.part
  by_cases h : i = n
  · subst h; rw [if_pos rfl, if_pos (by omega)]
  · rw [if_neg h]
    by_cases h2 : i < n
    · rw [if_pos h2, if_pos (by omega)]
    · rw [if_neg h2, if_neg (by omega)]
theorem Cl.part_all (m : Cn) : Cl.cs (Cl.part m 10) = Cl.cs m := rfl
theorem Cl.part_none (m : Cn) : Cl.cs (Cl.part m 0) = Cl.cs Cl.zero := rfl
theorem Cl.cs_set (c : Cn) (j : Nat) (hj : j < 10) (v : Int) : (Cl.cs c).set j (.int .i64 v) = Cl.cs (Cl.set c j v) := by
  rcases j with _ | _ | _ | _ | _ | _ | _ | _ | _ | _ | j
  all_goals first | omega | rfl
/-- one number of a corner of the call's own is written -/
theorem Ow.setN {w W : World} {ms : List (Nat × List Value)} (h : Ow w W ms) (i : Nat) {b : Nat} {c : Cn} (hi : ms[i]? = some (b, Cl.cs c)) (j : Nat) (hj : j < 10) (v : Int) :
    Ow w (W.setCell ⟨b, j, none⟩ (.int .i64 v)) (ms.set i (b, Cl.cs (Cl.set c j v))) := by
  rw [← Cl.cs_set c j hj v]
  exact h.put1 i hi j (by rw [Cl.cs_len]; exact hj) _
theorem Cl.cs_get (c : Cn) (j : Nat) (hj : j < 10) : (Cl.cs c)[j]? = some (.int .i64 (c j)) := by
  rcases j with _ | _ | _ | _ | _ | _ | _ | _ | _ | _ | j
  all_goals first | omega | rfl
theorem Rc.num {W : World} {b : Nat} {c : Cn} (h : Rc W b (Cl.cs c)) (j : Nat) (hj : j < 10) : W.cell? ⟨b, j, none⟩ = some (.int .i64 (c j)) := h.cell j (Cl.cs_get c j hj)
theorem Rc.free {W : World} {b : Nat} {c : Cn} (h : Rc W b (Cl.cs c)) (j : Nat) (hj : j < 10) : W.frozen? ⟨b, j, none⟩ = false := h.froz j (by rw [Cl.cs_len]; exact hj)
theorem Cl.mid_bd {k : Nat} {a b : Cn} (ha : Cl.May a) (hb : Cl.May b) (h0 : 0 ≤ Cl.far k a) (h1 : Cl.far k b < 0) (i : Nat) (hi : i < 10) : (-1073741824 ≤ a i ∧ a i ≤ 1073741824) ∧ (-1073741824 ≤ b i ∧ b i ≤ 1073741824) := by
  by_cases h4 : i < 4
  · exact ⟨ha.1 i h4, hb.1 i h4⟩
  · have := ha.2 i (by omega) hi
    have := hb.2 i (by omega) hi
    omega
def msrQ (i : Value) : Nat := 6 - (intOf i).toNat
/-- a store of one number, the last operation of a region that draws its order -/
theorem wpAny_set1 {ops : Array Oper} {listed : Array Bool} {fuel : Nat} {op : Oper} {a : Act} {w0 w : World} {Q : Exit → Act → World → Prop} {ms : List (Nat × List Value)} (z : Nat) (hr : Region.ready .any ops listed = [z]) (hz : ops[z]? = some op) (HO : Ow w0 w ms) (i : Nat)
    (hgd : Region.wanted op (yielded ops a.tmps) = true) {b : Nat} {c : Cn} (j : Nat) (hj : j < 10) (v : Int) (hi : ms[i]? = some (b, Cl.cs c))
    (hrun : ∀ K : Act → World → Prop, K (a.put op.dst undef) (w.setCell ⟨b, j, none⟩ (.int .i64 v)) → op.wp Try.prog a w K Q)
    (h : ∀ w', Ow w0 w' (ms.set i (b, Cl.cs (Cl.set c j v))) → wpAny Try.prog .any ops Q fuel (listed.setIfInBounds z true) (a.put op.dst undef) w') : wpAny Try.prog .any ops Q (fuel + 1) listed a w := by
  refine wpAny_ready hr (by simp) (AllReady.cons hz (fun K hK => ?_) AllReady.nil)
  rw [if_pos hgd]
  exact hrun _ (hK _ _ (h _ (HO.setN i hi j hj v)))
set_option linter.unusedSimpArgs false in
set_option maxRecDepth 100000 in
set_option maxHeartbeats 8000000 in
theorem rcut_any (k : Nat) (a b : Cn) (w : World) (hk : k < 7) (ha : Cl.May a) (hb : Cl.May b) (h0 : 0 ≤ Cl.far k a) (h1 : Cl.far k b < 0) :
    Calls Try.prog 12 #[.int .i64 k, .agg #[.int .i64 (a 0), .int .i64 (a 1), .int .i64 (a 2), .int .i64 (a 3), .int .i64 (a 4), .int .i64 (a 5), .int .i64 (a 6), .int .i64 (a 7), .int .i64 (a 8), .int .i64 (a 9)], .agg #[.int .i64 (b 0), .int .i64 (b 1), .int .i64 (b 2), .int .i64 (b 3), .int .i64 (b 4), .int .i64 (b 5), .int .i64 (b 6), .int .i64 (b 7), .int .i64 (b 8), .int .i64 (b 9)]] w fun en w' => en = .returned (.agg #[.int .i64 ((Cl.cut k a b) 0), .int .i64 ((Cl.cut k a b) 1), .int .i64 ((Cl.cut k a b) 2), .int .i64 ((Cl.cut k a b) 3), .int .i64 ((Cl.cut k a b) 4), .int .i64 ((Cl.cut k a b) 5), .int .i64 ((Cl.cut k a b) 6), .int .i64 ((Cl.cut k a b) 7), .int .i64 ((Cl.cut k a b) 8), .int .i64 ((Cl.cut k a b) 9)]) ∧ Kp w.heap.size w w' := by
  have HW := Lib.hid ((Cl.mid_may ha hb h0 h1).1 3 (by omega))
  have D1 := fun W => rfar_any k a W hk ha.1
  have D2 := fun W => rfar_any k b W hk hb.1
  have BT : Hid (∀ i, i < 10 → ∀ W, Calls Try.prog 25 #[.int .i64 (a i), .int .i64 (b i), .int .i64 (Cl.far k a), .int .i64 (Cl.far k b)] W fun en w' => en = .returned (.int .i64 (Cl.mid k a b i)) ∧ Kp W.heap.size W w') := Lib.hid fun i hi W => by
    have q1 := Cl.far_bd (k := k) ha
    have q2 := Cl.far_bd (k := k) hb
    have q3 := Cl.mid_bd ha hb h0 h1 i hi
    exact rbetween_any (a i) (b i) _ _ W ⟨h0, q1.2⟩ ⟨h1, q2.1⟩ q3.1 q3.2
  have HC : Hid (Cl.cut k a b = Cl.meet k (Cl.mid k a b)) := Lib.hid rfl
  generalize Cl.cut k a b = res at *
  generalize Cl.mid k a b = m at *
  generalize Cl.far k a = d at *
  generalize Cl.far k b = e at *
  clear ha hb h0 h1
  have HO : Hid (Ow w _ [(w.heap.size + 2, Cl.cs Cl.zero), (w.heap.size + 1, Cl.cs b), (w.heap.size, Cl.cs a)]) := Lib.hid (((Ow.refl w).newAt w.heap.size rfl (.int .i64 (a 0)) [.int .i64 (a 1), .int .i64 (a 2), .int .i64 (a 3), .int .i64 (a 4), .int .i64 (a 5), .int .i64 (a 6), .int .i64 (a 7), .int .i64 (a 8), .int .i64 (a 9)] 26).newAt (w.heap.size + 1) (by simp) (.int .i64 (b 0)) [.int .i64 (b 1), .int .i64 (b 2), .int .i64 (b 3), .int .i64 (b 4), .int .i64 (b 5), .int .i64 (b 6), .int .i64 (b 7), .int .i64 (b 8), .int .i64 (b 9)] 26 |>.newAt (w.heap.size + 2) (by simp) (.int .i64 0) [.int .i64 0, .int .i64 0, .int .i64 0, .int .i64 0, .int .i64 0, .int .i64 0, .int .i64 0, .int .i64 0, .int .i64 0] 26)
  go_enter Try.func12, Try.ntmps12
  go_upto_region 3 with (first
    | ((with_reducible show wpList _ _ _ ({ dst := _, op := Op.load 23 (Operand.tmp 12), type := _, pos := _, after := _, guard := _ } :: _) _ _); refine wpList_ldm ty_vec rfl _ rfl _ _ rfl _ rfl (Rc.vec (c := a) (HO.out.at 2 rfl)) ?_)
    | ((with_reducible show wpList _ _ _ ({ dst := _, op := Op.load 23 (Operand.tmp 16), type := _, pos := _, after := _, guard := _ } :: _) _ _); refine wpList_ldm ty_vec rfl _ rfl _ _ rfl _ rfl (Rc.vec (c := b) (HO.out.at 1 rfl)) ?_)
    | (go_at_call 11; (first | (with_reducible refine (D1 _).mono ?_) | (with_reducible refine (D2 _).mono ?_)); rintro e wz ⟨rfl, hk1⟩; have l2 := HO.out.call hk1; clear HO hk1; have HO := Lib.hid l2; clear l2))
  clear D1 D2
  go_upto_region 4 with fail
  have l2 : Ow w _ [(_, Cl.cs (Cl.part m 0)), (w.heap.size + 2, Cl.cs Cl.zero), (w.heap.size + 1, Cl.cs b), (w.heap.size, Cl.cs a)] := HO.out.newAt _ rfl (.int .i64 0) [.int .i64 0, .int .i64 0, .int .i64 0, .int .i64 0, .int .i64 0, .int .i64 0, .int .i64 0, .int .i64 0, .int .i64 0] 26
  clear HO
  have HO := Lib.hid l2
  clear l2
  generalize hV : World.alloc _ _ = V0 at *
  clear hV
  generalize wz.heap.size = z0 at *
  have ca := (HO.out.at 3 rfl).num 0 (by omega)
  have cb := (HO.out.at 2 rfl).num 0 (by omega)
  have B1 := BT.out 0 (by omega)
  go_upto_region 5 with (go_at_call 25; refine (B1 _).mono ?_; rintro en wy ⟨rfl, hk1⟩; have l2 := HO.out.call hk1; clear HO hk1 ca cb; have HO := Lib.hid l2; clear l2; have dd := (HO.out.at 0 rfl).num 0 (by omega); have ff := (HO.out.at 0 rfl).free 0 (by omega))
  have l2 := HO.out.setN 0 rfl 0 (by omega) (m 0)
  rw [Cl.part_next] at l2
  clear HO dd ff B1
  have HO := Lib.hid l2
  clear l2
  generalize hV : World.setCell _ _ _ = V5 at *
  clear hV
  have ca := (HO.out.at 3 rfl).num 1 (by omega)
  have cb := (HO.out.at 2 rfl).num 1 (by omega)
  have B1 := BT.out 1 (by omega)
  go_upto_region 6 with (go_at_call 25; refine (B1 _).mono ?_; rintro en wy ⟨rfl, hk1⟩; have l2 := HO.out.call hk1; clear HO hk1 ca cb; have HO := Lib.hid l2; clear l2; have dd := (HO.out.at 0 rfl).num 1 (by omega); have ff := (HO.out.at 0 rfl).free 1 (by omega))
  have l2 := HO.out.setN 0 rfl 1 (by omega) (m 1)
  rw [Cl.part_next] at l2
  clear HO dd ff B1
  have HO := Lib.hid l2
  clear l2
  generalize hV : World.setCell _ _ _ = V6 at *
  clear hV
  have ca := (HO.out.at 3 rfl).num 2 (by omega)
  have cb := (HO.out.at 2 rfl).num 2 (by omega)
  have B1 := BT.out 2 (by omega)
  go_upto_region 7 with (go_at_call 25; refine (B1 _).mono ?_; rintro en wy ⟨rfl, hk1⟩; have l2 := HO.out.call hk1; clear HO hk1 ca cb; have HO := Lib.hid l2; clear l2; have dd := (HO.out.at 0 rfl).num 2 (by omega); have ff := (HO.out.at 0 rfl).free 2 (by omega))
  have l2 := HO.out.setN 0 rfl 2 (by omega) (m 2)
  rw [Cl.part_next] at l2
  clear HO dd ff B1
  have HO := Lib.hid l2
  clear l2
  generalize hV : World.setCell _ _ _ = V7 at *
  clear hV
  have ca := (HO.out.at 3 rfl).num 3 (by omega)
  have cb := (HO.out.at 2 rfl).num 3 (by omega)
  have B1 := BT.out 3 (by omega)
  go_upto_region 8 with (go_at_call 25; refine (B1 _).mono ?_; rintro en wy ⟨rfl, hk1⟩; have l2 := HO.out.call hk1; clear HO hk1 ca cb; have HO := Lib.hid l2; clear l2; have dd := (HO.out.at 0 rfl).num 3 (by omega); have ff := (HO.out.at 0 rfl).free 3 (by omega))
  have l2 := HO.out.setN 0 rfl 3 (by omega) (m 3)
  rw [Cl.part_next] at l2
  clear HO dd ff B1
  have HO := Lib.hid l2
  clear l2
  generalize hV : World.setCell _ _ _ = V8 at *
  clear hV
  go_wp2_with fail
  go_loopw [10] (fun i wr => ∃ j : Nat, j ≤ 6 ∧ i = .int .i64 j ∧ Ow w wr [(z0, Cl.cs (Cl.part m (4 + j))), (w.heap.size + 2, Cl.cs Cl.zero), (w.heap.size + 1, Cl.cs b), (w.heap.size, Cl.cs a)]) (fun i _ => msrQ i)
  case atStart => exact ⟨0, by omega, rfl, HO.out⟩
  case round =>
    clear HO
    obtain ⟨j, hj, rfl, ho⟩ := hrel
    by_cases hlt : j < 6
    · have z1 : decide ((j : Int) < 6) = true := decide_eq_true (by omega)
      have z2 : (j : Int) < 6 := by omega
      have HO := Lib.hid ho
      clear ho
      go_upto_region 11 with fail
      refine Rg.region (I := fun _ W => Ow w W [(z0, Cl.cs (Cl.part m (4 + j))), (w.heap.size + 2, Cl.cs Cl.zero), (w.heap.size + 1, Cl.cs b), (w.heap.size, Cl.cs a)]) (dem := fun _ => false) (m := 14) (g := 1) (T := fun listed bs st => ∀ W, Ow w W [(z0, Cl.cs (Cl.part m (4 + j))), (w.heap.size + 2, Cl.cs Cl.zero), (w.heap.size + 1, Cl.cs b), (w.heap.size, Cl.cs a)] → wpAny Try.prog .any _ _ 1 listed st W) (by kernel_rfl) HO.out.drew rfl (fun _ _ _ _ h hI => h _ hI) ?_
      clear HO
      refine Rg.take 0 (v := .int .i64 j) rfl rfl (by kernel_rfl) (by kernel_rfl) (by kernel_rfl) (by kernel_rfl) (by kernel_rfl) (.inl ⟨rfl, fun bs wq hI => ?_⟩) ?_
      · go_simp
      simp only [Act.put, List.getElem_toArray, List.getElem_cons_zero, List.getElem_cons_succ, List.setIfInBounds_toArray, List.set_cons_zero, List.set_cons_succ]
      refine Rg.take 1 (v := .int .i64 j) rfl rfl (by kernel_rfl) (by kernel_rfl) (by kernel_rfl) (by kernel_rfl) (by kernel_rfl) (.inl ⟨rfl, fun bs wq hI => ?_⟩) ?_
      · go_simp
      simp only [Act.put, List.getElem_toArray, List.getElem_cons_zero, List.getElem_cons_succ, List.setIfInBounds_toArray, List.set_cons_zero, List.set_cons_succ]
      refine Rg.take 2 (v := .pointer (some ⟨w.heap.size, 4, none⟩)) rfl rfl (by kernel_rfl) (by kernel_rfl) (by kernel_rfl) (by kernel_rfl) (by kernel_rfl) (.inl ⟨rfl, fun bs wq hI => ?_⟩) ?_
      · go_simp
      simp only [Act.put, List.getElem_toArray, List.getElem_cons_zero, List.getElem_cons_succ, List.setIfInBounds_toArray, List.set_cons_zero, List.set_cons_succ]
      refine Rg.take 3 (v := .pointer (some ⟨w.heap.size, 4 + j, none⟩)) rfl rfl (by kernel_rfl) (by kernel_rfl) (by kernel_rfl) (by kernel_rfl) (by kernel_rfl) (.inl ⟨rfl, fun bs wq hI => ?_⟩) ?_
      · go_simp
      simp only [Act.put, List.getElem_toArray, List.getElem_cons_zero, List.getElem_cons_succ, List.setIfInBounds_toArray, List.set_cons_zero, List.set_cons_succ]
      refine Rg.take 4 (v := .int .i64 (a (4 + j))) rfl rfl (by kernel_rfl) (by kernel_rfl) (by kernel_rfl) (by kernel_rfl) (by kernel_rfl) (.inl ⟨rfl, fun bs wq hI => ?_⟩) ?_
      · (have hc := (hI.at 3 rfl).num (4 + j) (by omega); go_simp)
      simp only [Act.put, List.getElem_toArray, List.getElem_cons_zero, List.getElem_cons_succ, List.setIfInBounds_toArray, List.set_cons_zero, List.set_cons_succ]
      refine Rg.take 5 (v := .int .i64 j) rfl rfl (by kernel_rfl) (by kernel_rfl) (by kernel_rfl) (by kernel_rfl) (by kernel_rfl) (.inl ⟨rfl, fun bs wq hI => ?_⟩) ?_
      · go_simp
      simp only [Act.put, List.getElem_toArray, List.getElem_cons_zero, List.getElem_cons_succ, List.setIfInBounds_toArray, List.set_cons_zero, List.set_cons_succ]
      refine Rg.take 6 (v := .pointer (some ⟨w.heap.size + 1, 4, none⟩)) rfl rfl (by kernel_rfl) (by kernel_rfl) (by kernel_rfl) (by kernel_rfl) (by kernel_rfl) (.inl ⟨rfl, fun bs wq hI => ?_⟩) ?_
      · go_simp
      simp only [Act.put, List.getElem_toArray, List.getElem_cons_zero, List.getElem_cons_succ, List.setIfInBounds_toArray, List.set_cons_zero, List.set_cons_succ]
      refine Rg.take 7 (v := .pointer (some ⟨w.heap.size + 1, 4 + j, none⟩)) rfl rfl (by kernel_rfl) (by kernel_rfl) (by kernel_rfl) (by kernel_rfl) (by kernel_rfl) (.inl ⟨rfl, fun bs wq hI => ?_⟩) ?_
      · go_simp
      simp only [Act.put, List.getElem_toArray, List.getElem_cons_zero, List.getElem_cons_succ, List.setIfInBounds_toArray, List.set_cons_zero, List.set_cons_succ]
      refine Rg.take 8 (v := .int .i64 (b (4 + j))) rfl rfl (by kernel_rfl) (by kernel_rfl) (by kernel_rfl) (by kernel_rfl) (by kernel_rfl) (.inl ⟨rfl, fun bs wq hI => ?_⟩) ?_
      · (have hc := (hI.at 2 rfl).num (4 + j) (by omega); go_simp)
      simp only [Act.put, List.getElem_toArray, List.getElem_cons_zero, List.getElem_cons_succ, List.setIfInBounds_toArray, List.set_cons_zero, List.set_cons_succ]
      refine Rg.take 9 (v := .int .i64 d) rfl rfl (by kernel_rfl) (by kernel_rfl) (by kernel_rfl) (by kernel_rfl) (by kernel_rfl) (.inl ⟨rfl, fun bs wq hI => ?_⟩) ?_
      · go_simp
      simp only [Act.put, List.getElem_toArray, List.getElem_cons_zero, List.getElem_cons_succ, List.setIfInBounds_toArray, List.set_cons_zero, List.set_cons_succ]
      refine Rg.take 10 (v := .int .i64 e) rfl rfl (by kernel_rfl) (by kernel_rfl) (by kernel_rfl) (by kernel_rfl) (by kernel_rfl) (.inl ⟨rfl, fun bs wq hI => ?_⟩) ?_
      · go_simp
      simp only [Act.put, List.getElem_toArray, List.getElem_cons_zero, List.getElem_cons_succ, List.setIfInBounds_toArray, List.set_cons_zero, List.set_cons_succ]
      refine Rg.take 11 (v := .int .i64 (m (4 + j))) rfl rfl (by kernel_rfl) (by kernel_rfl) (by kernel_rfl) (by kernel_rfl) (by kernel_rfl) (.inl ⟨rfl, fun bs wq hI => ?_⟩) ?_
      · (go_simp; exact (BT.out (4 + j) (by omega) _).mono fun e w2 h => ⟨h.1, hI.call h.2⟩)
      simp only [Act.put, List.getElem_toArray, List.getElem_cons_zero, List.getElem_cons_succ, List.setIfInBounds_toArray, List.set_cons_zero, List.set_cons_succ]
      refine Rg.take 12 (v := .pointer (some ⟨z0, 4, none⟩)) rfl rfl (by kernel_rfl) (by kernel_rfl) (by kernel_rfl) (by kernel_rfl) (by kernel_rfl) (.inl ⟨rfl, fun bs wq hI => ?_⟩) ?_
      · go_simp
      simp only [Act.put, List.getElem_toArray, List.getElem_cons_zero, List.getElem_cons_succ, List.setIfInBounds_toArray, List.set_cons_zero, List.set_cons_succ]
      refine Rg.take 13 (v := .pointer (some ⟨z0, 4 + j, none⟩)) rfl rfl (by kernel_rfl) (by kernel_rfl) (by kernel_rfl) (by kernel_rfl) (by kernel_rfl) (.inl ⟨rfl, fun bs wq hI => ?_⟩) ?_
      · go_simp
      simp only [Act.put, List.getElem_toArray, List.getElem_cons_zero, List.getElem_cons_succ, List.setIfInBounds_toArray, List.set_cons_zero, List.set_cons_succ]
      refine Rg.done (rs := [14]) (by kernel_rfl) (by decide) (fun W hI => ?_)
      refine wpAny_set1 14 (by kernel_rfl) rfl hI 0 rfl (4 + j) (by omega) (m (4 + j)) rfl (fun K hK => ?_) ?_
      · have cc := (hI.at 0 rfl).num (4 + j) (by omega)
        have ff := (hI.at 0 rfl).free (4 + j) (by omega)
        go_simp
        exact hK
      intro W1 hI1
      rw [Cl.part_next] at hI1
      simp only [Act.put, List.getElem_toArray, List.getElem_cons_zero, List.getElem_cons_succ, List.setIfInBounds_toArray, List.set_cons_zero, List.set_cons_succ]
      have HO := Lib.hid hI1
      clear hI hI1
      refine wpAny_done (by kernel_rfl) ?_ _
      go_wp2_with fail
      go_roundw
      case rel => exact ⟨j + 1, by omega, by go_num, HO.out⟩
      case measure => simp [msrQ, intOf]; omega
    · have z1 : decide ((j : Int) < 6) = false := decide_eq_false (by omega)
      obtain rfl : j = 6 := by omega
      have HO : Hid (Ow w wr [(z0, Cl.cs m), (w.heap.size + 2, Cl.cs Cl.zero), (w.heap.size + 1, Cl.cs b), (w.heap.size, Cl.cs a)]) := Lib.hid (by rw [← Cl.part_all]; exact ho)
      clear ho BT
      obtain rfl | rfl | rfl | rfl | rfl | rfl | rfl : k = 0 ∨ k = 1 ∨ k = 2 ∨ k = 3 ∨ k = 4 ∨ k = 5 ∨ k = 6 := by omega
      · obtain ⟨w1, w2⟩ := HW.out
        have cw := (HO.out.at 0 rfl).num 3 (by omega)
        have cc := (HO.out.at 0 rfl).num 3 (by omega)
        have ff := (HO.out.at 0 rfl).free 3 (by omega)
        go_upto_region 26 with fail
        generalize hV : World.setCell _ _ _ = V at *
        have l2 : Ow w V [(z0, Cl.cs (Cl.set m 3 (1))), (w.heap.size + 2, Cl.cs Cl.zero), (w.heap.size + 1, Cl.cs b), (w.heap.size, Cl.cs a)] := by rw [← hV]; simpa using HO.out.setN 0 rfl 3 (by omega) (1)
        clear hV HO cw cc ff w1 w2
        have HO := Lib.hid l2
        clear l2
        have HE : Hid (Cl.set m 3 (1) = res) := Lib.hid HC.out.symm
        generalize Cl.set m 3 (1) = q at *
        go_wp2_with (first | ((with_reducible show wpList _ _ _ ({ dst := _, op := Op.load 26 (Operand.tmp 9), type := _, pos := _, after := _, guard := _ } :: _) _ _); refine wpList_ldr ty_corner rfl _ rfl _ rfl _ rfl (HO.out.at 0 rfl) ?_) | ((with_reducible show wpList _ _ _ ({ dst := _, op := Op.store 26 _ _, type := _, pos := _, after := _, guard := _ } :: _) _ _); refine wpList_sto ty_corner HO.out 1 [.int .i64 (q 0), .int .i64 (q 1), .int .i64 (q 2), .int .i64 (q 3), .int .i64 (q 4), .int .i64 (q 5), .int .i64 (q 6), .int .i64 (q 7), .int .i64 (q 8), .int .i64 (q 9)] rfl _ _ rfl _ rfl rfl _ rfl rfl rfl rfl ?_; intro w2 l2; clear HO; have HO := Lib.hid l2; clear l2))
        exact bodyPost_ret (results_c ty_corner rfl rfl rfl (HO.out.at 1 rfl)) rfl ⟨by rw [← HE.out], HO.out.k⟩
      · obtain ⟨w1, w2⟩ := HW.out
        have cw := (HO.out.at 0 rfl).num 3 (by omega)
        have cc := (HO.out.at 0 rfl).num 2 (by omega)
        have ff := (HO.out.at 0 rfl).free 2 (by omega)
        go_upto_region 26 with fail
        generalize hV : World.setCell _ _ _ = V at *
        have l2 : Ow w V [(z0, Cl.cs (Cl.set m 2 (-(m 3)))), (w.heap.size + 2, Cl.cs Cl.zero), (w.heap.size + 1, Cl.cs b), (w.heap.size, Cl.cs a)] := by rw [← hV]; simpa using HO.out.setN 0 rfl 2 (by omega) (-(m 3))
        clear hV HO cw cc ff w1 w2
        have HO := Lib.hid l2
        clear l2
        have HE : Hid (Cl.set m 2 (-(m 3)) = res) := Lib.hid HC.out.symm
        generalize Cl.set m 2 (-(m 3)) = q at *
        go_wp2_with (first | ((with_reducible show wpList _ _ _ ({ dst := _, op := Op.load 26 (Operand.tmp 9), type := _, pos := _, after := _, guard := _ } :: _) _ _); refine wpList_ldr ty_corner rfl _ rfl _ rfl _ rfl (HO.out.at 0 rfl) ?_) | ((with_reducible show wpList _ _ _ ({ dst := _, op := Op.store 26 _ _, type := _, pos := _, after := _, guard := _ } :: _) _ _); refine wpList_sto ty_corner HO.out 1 [.int .i64 (q 0), .int .i64 (q 1), .int .i64 (q 2), .int .i64 (q 3), .int .i64 (q 4), .int .i64 (q 5), .int .i64 (q 6), .int .i64 (q 7), .int .i64 (q 8), .int .i64 (q 9)] rfl _ _ rfl _ rfl rfl _ rfl rfl rfl rfl ?_; intro w2 l2; clear HO; have HO := Lib.hid l2; clear l2))
        exact bodyPost_ret (results_c ty_corner rfl rfl rfl (HO.out.at 1 rfl)) rfl ⟨by rw [← HE.out], HO.out.k⟩
      · obtain ⟨w1, w2⟩ := HW.out
        have cw := (HO.out.at 0 rfl).num 3 (by omega)
        have cc := (HO.out.at 0 rfl).num 2 (by omega)
        have ff := (HO.out.at 0 rfl).free 2 (by omega)
        go_upto_region 26 with fail
        generalize hV : World.setCell _ _ _ = V at *
        have l2 : Ow w V [(z0, Cl.cs (Cl.set m 2 (m 3))), (w.heap.size + 2, Cl.cs Cl.zero), (w.heap.size + 1, Cl.cs b), (w.heap.size, Cl.cs a)] := by rw [← hV]; simpa using HO.out.setN 0 rfl 2 (by omega) (m 3)
        clear hV HO cw cc ff w1 w2
        have HO := Lib.hid l2
        clear l2
        have HE : Hid (Cl.set m 2 (m 3) = res) := Lib.hid HC.out.symm
        generalize Cl.set m 2 (m 3) = q at *
        go_wp2_with (first | ((with_reducible show wpList _ _ _ ({ dst := _, op := Op.load 26 (Operand.tmp 9), type := _, pos := _, after := _, guard := _ } :: _) _ _); refine wpList_ldr ty_corner rfl _ rfl _ rfl _ rfl (HO.out.at 0 rfl) ?_) | ((with_reducible show wpList _ _ _ ({ dst := _, op := Op.store 26 _ _, type := _, pos := _, after := _, guard := _ } :: _) _ _); refine wpList_sto ty_corner HO.out 1 [.int .i64 (q 0), .int .i64 (q 1), .int .i64 (q 2), .int .i64 (q 3), .int .i64 (q 4), .int .i64 (q 5), .int .i64 (q 6), .int .i64 (q 7), .int .i64 (q 8), .int .i64 (q 9)] rfl _ _ rfl _ rfl rfl _ rfl rfl rfl rfl ?_; intro w2 l2; clear HO; have HO := Lib.hid l2; clear l2))
        exact bodyPost_ret (results_c ty_corner rfl rfl rfl (HO.out.at 1 rfl)) rfl ⟨by rw [← HE.out], HO.out.k⟩
      · obtain ⟨w1, w2⟩ := HW.out
        have cw := (HO.out.at 0 rfl).num 3 (by omega)
        have cc := (HO.out.at 0 rfl).num 0 (by omega)
        have ff := (HO.out.at 0 rfl).free 0 (by omega)
        go_upto_region 26 with fail
        generalize hV : World.setCell _ _ _ = V at *
        have l2 : Ow w V [(z0, Cl.cs (Cl.set m 0 (4 * m 3))), (w.heap.size + 2, Cl.cs Cl.zero), (w.heap.size + 1, Cl.cs b), (w.heap.size, Cl.cs a)] := by rw [← hV]; simpa using HO.out.setN 0 rfl 0 (by omega) (4 * m 3)
        clear hV HO cw cc ff w1 w2
        have HO := Lib.hid l2
        clear l2
        have HE : Hid (Cl.set m 0 (4 * m 3) = res) := Lib.hid HC.out.symm
        generalize Cl.set m 0 (4 * m 3) = q at *
        go_wp2_with (first | ((with_reducible show wpList _ _ _ ({ dst := _, op := Op.load 26 (Operand.tmp 9), type := _, pos := _, after := _, guard := _ } :: _) _ _); refine wpList_ldr ty_corner rfl _ rfl _ rfl _ rfl (HO.out.at 0 rfl) ?_) | ((with_reducible show wpList _ _ _ ({ dst := _, op := Op.store 26 _ _, type := _, pos := _, after := _, guard := _ } :: _) _ _); refine wpList_sto ty_corner HO.out 1 [.int .i64 (q 0), .int .i64 (q 1), .int .i64 (q 2), .int .i64 (q 3), .int .i64 (q 4), .int .i64 (q 5), .int .i64 (q 6), .int .i64 (q 7), .int .i64 (q 8), .int .i64 (q 9)] rfl _ _ rfl _ rfl rfl _ rfl rfl rfl rfl ?_; intro w2 l2; clear HO; have HO := Lib.hid l2; clear l2))
        exact bodyPost_ret (results_c ty_corner rfl rfl rfl (HO.out.at 1 rfl)) rfl ⟨by rw [← HE.out], HO.out.k⟩
      · obtain ⟨w1, w2⟩ := HW.out
        have cw := (HO.out.at 0 rfl).num 3 (by omega)
        have cc := (HO.out.at 0 rfl).num 0 (by omega)
        have ff := (HO.out.at 0 rfl).free 0 (by omega)
        go_upto_region 26 with fail
        generalize hV : World.setCell _ _ _ = V at *
        have l2 : Ow w V [(z0, Cl.cs (Cl.set m 0 (-(4 * m 3)))), (w.heap.size + 2, Cl.cs Cl.zero), (w.heap.size + 1, Cl.cs b), (w.heap.size, Cl.cs a)] := by rw [← hV]; simpa using HO.out.setN 0 rfl 0 (by omega) (-(4 * m 3))
        clear hV HO cw cc ff w1 w2
        have HO := Lib.hid l2
        clear l2
        have HE : Hid (Cl.set m 0 (-(4 * m 3)) = res) := Lib.hid HC.out.symm
        generalize Cl.set m 0 (-(4 * m 3)) = q at *
        go_wp2_with (first | ((with_reducible show wpList _ _ _ ({ dst := _, op := Op.load 26 (Operand.tmp 9), type := _, pos := _, after := _, guard := _ } :: _) _ _); refine wpList_ldr ty_corner rfl _ rfl _ rfl _ rfl (HO.out.at 0 rfl) ?_) | ((with_reducible show wpList _ _ _ ({ dst := _, op := Op.store 26 _ _, type := _, pos := _, after := _, guard := _ } :: _) _ _); refine wpList_sto ty_corner HO.out 1 [.int .i64 (q 0), .int .i64 (q 1), .int .i64 (q 2), .int .i64 (q 3), .int .i64 (q 4), .int .i64 (q 5), .int .i64 (q 6), .int .i64 (q 7), .int .i64 (q 8), .int .i64 (q 9)] rfl _ _ rfl _ rfl rfl _ rfl rfl rfl rfl ?_; intro w2 l2; clear HO; have HO := Lib.hid l2; clear l2))
        exact bodyPost_ret (results_c ty_corner rfl rfl rfl (HO.out.at 1 rfl)) rfl ⟨by rw [← HE.out], HO.out.k⟩
      · obtain ⟨w1, w2⟩ := HW.out
        have cw := (HO.out.at 0 rfl).num 3 (by omega)
        have cc := (HO.out.at 0 rfl).num 1 (by omega)
        have ff := (HO.out.at 0 rfl).free 1 (by omega)
        go_upto_region 26 with fail
        generalize hV : World.setCell _ _ _ = V at *
        have l2 : Ow w V [(z0, Cl.cs (Cl.set m 1 (4 * m 3))), (w.heap.size + 2, Cl.cs Cl.zero), (w.heap.size + 1, Cl.cs b), (w.heap.size, Cl.cs a)] := by rw [← hV]; simpa using HO.out.setN 0 rfl 1 (by omega) (4 * m 3)
        clear hV HO cw cc ff w1 w2
        have HO := Lib.hid l2
        clear l2
        have HE : Hid (Cl.set m 1 (4 * m 3) = res) := Lib.hid HC.out.symm
        generalize Cl.set m 1 (4 * m 3) = q at *
        go_wp2_with (first | ((with_reducible show wpList _ _ _ ({ dst := _, op := Op.load 26 (Operand.tmp 9), type := _, pos := _, after := _, guard := _ } :: _) _ _); refine wpList_ldr ty_corner rfl _ rfl _ rfl _ rfl (HO.out.at 0 rfl) ?_) | ((with_reducible show wpList _ _ _ ({ dst := _, op := Op.store 26 _ _, type := _, pos := _, after := _, guard := _ } :: _) _ _); refine wpList_sto ty_corner HO.out 1 [.int .i64 (q 0), .int .i64 (q 1), .int .i64 (q 2), .int .i64 (q 3), .int .i64 (q 4), .int .i64 (q 5), .int .i64 (q 6), .int .i64 (q 7), .int .i64 (q 8), .int .i64 (q 9)] rfl _ _ rfl _ rfl rfl _ rfl rfl rfl rfl ?_; intro w2 l2; clear HO; have HO := Lib.hid l2; clear l2))
        exact bodyPost_ret (results_c ty_corner rfl rfl rfl (HO.out.at 1 rfl)) rfl ⟨by rw [← HE.out], HO.out.k⟩
      · obtain ⟨w1, w2⟩ := HW.out
        have cw := (HO.out.at 0 rfl).num 3 (by omega)
        have cc := (HO.out.at 0 rfl).num 1 (by omega)
        have ff := (HO.out.at 0 rfl).free 1 (by omega)
        go_upto_region 26 with fail
        generalize hV : World.setCell _ _ _ = V at *
        have l2 : Ow w V [(z0, Cl.cs (Cl.set m 1 (-(4 * m 3)))), (w.heap.size + 2, Cl.cs Cl.zero), (w.heap.size + 1, Cl.cs b), (w.heap.size, Cl.cs a)] := by rw [← hV]; simpa using HO.out.setN 0 rfl 1 (by omega) (-(4 * m 3))
        clear hV HO cw cc ff w1 w2
        have HO := Lib.hid l2
        clear l2
        have HE : Hid (Cl.set m 1 (-(4 * m 3)) = res) := Lib.hid HC.out.symm
        generalize Cl.set m 1 (-(4 * m 3)) = q at *
        go_wp2_with (first | ((with_reducible show wpList _ _ _ ({ dst := _, op := Op.load 26 (Operand.tmp 9), type := _, pos := _, after := _, guard := _ } :: _) _ _); refine wpList_ldr ty_corner rfl _ rfl _ rfl _ rfl (HO.out.at 0 rfl) ?_) | ((with_reducible show wpList _ _ _ ({ dst := _, op := Op.store 26 _ _, type := _, pos := _, after := _, guard := _ } :: _) _ _); refine wpList_sto ty_corner HO.out 1 [.int .i64 (q 0), .int .i64 (q 1), .int .i64 (q 2), .int .i64 (q 3), .int .i64 (q 4), .int .i64 (q 5), .int .i64 (q 6), .int .i64 (q 7), .int .i64 (q 8), .int .i64 (q 9)] rfl _ _ rfl _ rfl rfl _ rfl rfl rfl rfl ?_; intro w2 l2; clear HO; have HO := Lib.hid l2; clear l2))
        exact bodyPost_ret (results_c ty_corner rfl rfl rfl (HO.out.at 1 rfl)) rfl ⟨by rw [← HE.out], HO.out.k⟩
end Go.Proofs.Ytfhlnldiljldcaa
