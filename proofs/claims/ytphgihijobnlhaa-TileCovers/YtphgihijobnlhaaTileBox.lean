/-
  Contracts of layer 11 (tile): Box; the document's own; what must come at any rate.
-/
import Derived.Test.YtphgihijobnlhaaTileWalks
namespace Go.Proofs.Ytphgihijobnlhaa
open Go.RowKit

theorem box_no1 (n m k : Int) (w : World) (h : Tl.is n m = false) :
    Calls Try.prog 11 #[.int .i64 n, .int .i64 m, .int .i64 k] w fun e w' => e = .returned (.tuple #[.agg #[.int .i64 0, .int .i64 0, .int .i64 0, .int .i64 0], .int .i64 3]) ∧ Kp w.heap.size w w' := by
  have C1 := fun W => count_no n m W h
  have HO := Lib.hid ((Ow.refl w).newAt w.heap.size rfl (.int .i64 0) [.int .i64 0, .int .i64 0, .int .i64 0] 33)
  clear h
  go_enter Try.func11, Try.ntmps11
  go_wp2_with (first   | go_big_skip   | ((with_reducible show wpList _ _ _ ({ dst := _, op := Op.store 33 _ _, type := _, pos := _, after := _, guard := _ } :: _) _ _); refine wpList_sto ty_rect HO.out 0 [.int .i64 0, .int .i64 0, .int .i64 0, .int .i64 0] rfl _ _ rfl _ rfl rfl _ rfl rfl rfl rfl ?_; intro w2 l2; clear HO; have HO := Lib.hid l2; clear l2)   | (go_at_call 7; refine (C1 _).mono ?_; rintro e w' ⟨rfl, rfl⟩))
  exact bodyPost_ret (results_c2 ty_rect rfl rfl rfl rfl (HO.out.at 0 rfl)) rfl ⟨rfl, HO.out.k⟩
theorem box_no2 (n m k : Int) (w : World) (h : Tl.is n m = true) (h1 : k < 0 ∨ Tl.bg n * Tl.bg m ≤ k) :
    Calls Try.prog 11 #[.int .i64 n, .int .i64 m, .int .i64 k] w fun e w' => e = .returned (.tuple #[.agg #[.int .i64 0, .int .i64 0, .int .i64 0, .int .i64 0], .int .i64 2]) ∧ Kp w.heap.size w w' := by
  have C1 := fun W => count_yes n m W h
  have h9 := Tl.is_iff.1 h
  obtain ⟨a1, a2⟩ := Tl.bg_le (n := n) (by omega) (by omega)
  obtain ⟨b1, b2⟩ := Tl.bg_le (n := m) (by omega) (by omega)
  obtain ⟨c1, c2⟩ := Tl.mul_le a1 a2 b1 b2
  have HO := Lib.hid ((Ow.refl w).newAt w.heap.size rfl (.int .i64 0) [.int .i64 0, .int .i64 0, .int .i64 0] 33)
  clear h h9
  cases h2 : decide (k < 0)
  · have h3 : decide (Tl.bg n * Tl.bg m ≤ k) = true := by simp at h2; simp; omega
    clear h1
    go_enter Try.func11, Try.ntmps11
    go_wp2_with (first   | go_big_skip   | ((with_reducible show wpList _ _ _ ({ dst := _, op := Op.store 33 _ _, type := _, pos := _, after := _, guard := _ } :: _) _ _); refine wpList_sto ty_rect HO.out 0 [.int .i64 0, .int .i64 0, .int .i64 0, .int .i64 0] rfl _ _ rfl _ rfl rfl _ rfl rfl rfl rfl ?_; intro w2 l2; clear HO; have HO := Lib.hid l2; clear l2)   | (go_at_call 7; refine (C1 _).mono ?_; rintro e w' ⟨rfl, rfl⟩))
    exact bodyPost_ret (results_c2 ty_rect rfl rfl rfl rfl (HO.out.at 0 rfl)) rfl ⟨rfl, HO.out.k⟩
  · clear h1
    go_enter Try.func11, Try.ntmps11
    go_wp2_with (first   | go_big_skip   | ((with_reducible show wpList _ _ _ ({ dst := _, op := Op.store 33 _ _, type := _, pos := _, after := _, guard := _ } :: _) _ _); refine wpList_sto ty_rect HO.out 0 [.int .i64 0, .int .i64 0, .int .i64 0, .int .i64 0] rfl _ _ rfl _ rfl rfl _ rfl rfl rfl rfl ?_; intro w2 l2; clear HO; have HO := Lib.hid l2; clear l2)   | (go_at_call 7; refine (C1 _).mono ?_; rintro e w' ⟨rfl, rfl⟩))
    exact bodyPost_ret (results_c2 ty_rect rfl rfl rfl rfl (HO.out.at 0 rfl)) rfl ⟨rfl, HO.out.k⟩

/-- the blocks of Box -/
def Bx (w : World) (p : Nat) (c r : Int) : List (Nat × List Value) := [(p, [.int .i64 (c * 16), .int .i64 (r * 16), .int .i64 (c * 16 + 16), .int .i64 (r * 16 + 16)]), (w.heap.size, [.int .i64 0, .int .i64 0, .int .i64 0, .int .i64 0])]
set_option linter.unusedSimpArgs false in
set_option maxHeartbeats 4000000 in
theorem box_yes (n m k c r : Int) (w : World) (h : Tl.is n m = true) (hA : Tl.At n m k c r) :
    Calls Try.prog 11 #[.int .i64 n, .int .i64 m, .int .i64 k] w fun e w' => e = .returned (.tuple #[.agg #[.int .i64 (c * 16), .int .i64 (r * 16), .int .i64 (Rt.mn (c * 16 + 16) n), .int .i64 (Rt.mn (r * 16 + 16) m)], .int .i64 0]) ∧ Kp w.heap.size w w' := by
  have C1 := fun W => count_yes n m W h
  have h9 := Tl.is_iff.1 h
  obtain ⟨a1, a2⟩ := Tl.bg_le (n := n) (by omega) (by omega)
  obtain ⟨b1, b2⟩ := Tl.bg_le (n := m) (by omega) (by omega)
  obtain ⟨c1, c2⟩ := Tl.mul_le a1 a2 b1 b2
  have A1 := fun W => and_any _ _ _ _ _ _ _ _ _ _ _ _ W (Tl.box hA)
  obtain ⟨h1, h2⟩ := hA.lt
  have hc := hA.col.1
  have hr := hA.col.2
  obtain ⟨d1, d2, d3, d4, -⟩ := hA
  have hz : Tl.bg n ≠ 0 := by omega
  have hz1 : (Tl.bg n == 0) = false := by rw [beq_eq_false_iff_ne]; exact hz
  have t1 : decide (k < 0) = false := decide_eq_false (by omega)
  have t2 : decide (Tl.bg n * Tl.bg m ≤ k) = false := decide_eq_false (by omega)
  have HO := Lib.hid ((Ow.refl w).newAt w.heap.size rfl (.int .i64 0) [.int .i64 0, .int .i64 0, .int .i64 0] 33)
  have s1 : c ≤ 15 := by omega
  have s2 : r ≤ 15 := by omega
  clear h h9
  go_enter Try.func11, Try.ntmps11
  go_upto_region 6 with (first   | go_big_skip   | ((with_reducible show wpList _ _ _ ({ dst := _, op := Op.store 33 _ _, type := _, pos := _, after := _, guard := _ } :: _) _ _); refine wpList_sto ty_rect HO.out 0 [.int .i64 0, .int .i64 0, .int .i64 0, .int .i64 0] rfl _ _ rfl _ rfl rfl _ rfl rfl rfl rfl ?_; intro w2 l2; clear HO; have HO := Lib.hid l2; clear l2)   | (go_at_call 7; refine (C1 _).mono ?_; rintro e w' ⟨rfl, rfl⟩))
  go_quiet (fail)
  generalize hW : World.drewN _ _ = W at *
  have l2 : Ow w W [(w.heap.size, [.int .i64 0, .int .i64 0, .int .i64 0, .int .i64 0])] := by rw [← hW]; exact HO.out.drewN _
  have l3 := l2.newAt W.heap.size rfl (.int .i64 (c * 16)) [.int .i64 (r * 16), .int .i64 (c * 16 + 16), .int .i64 (r * 16 + 16)] 33
  clear HO hW l2 C1
  have HO := Lib.hid l3
  clear l3
  go_upto_region 8 with fail
  generalize hB : W.heap.size = p at *
  generalize hW2 : World.alloc _ _ = W2 at *
  clear hB hW2 W
  refine Rg.region (I := fun _ W => Ow w W (Bx w p c r)) (dem := fun _ => false) (m := 5) (g := 2) (T := fun listed bs st => ∀ W, Ow w W (Bx w p c r) → wpAny Try.prog .any _ _ 2 listed st W) (by kernel_rfl) HO.out.drew rfl (fun _ _ _ _ h hI => h _ hI) ?_
  clear HO
  refine Rg.take 0 (v := .agg #[.int .i64 (c * 16), .int .i64 (r * 16), .int .i64 (c * 16 + 16), .int .i64 (r * 16 + 16)]) rfl rfl (by kernel_rfl) (by kernel_rfl) (by kernel_rfl) (by kernel_rfl) (by kernel_rfl) (.inl ⟨rfl, fun bs wq hI => ?_⟩) ?_
  · exact quiet_ldr ty_rect (.tmp 13) rfl rfl rfl (hI.at 0 rfl)
  simp only [Act.put, List.getElem_toArray, List.getElem_cons_zero, List.getElem_cons_succ, List.setIfInBounds_toArray, List.set_cons_zero, List.set_cons_succ]
  refine Rg.take 1 (v := .int .i64 n) rfl rfl (by kernel_rfl) (by kernel_rfl) (by kernel_rfl) (by kernel_rfl) (by kernel_rfl) (.inl ⟨rfl, fun bs wq hI => ?_⟩) ?_
  · go_simp
  simp only [Act.put, List.getElem_toArray, List.getElem_cons_zero, List.getElem_cons_succ, List.setIfInBounds_toArray, List.set_cons_zero, List.set_cons_succ]
  refine Rg.take 2 (v := .int .i64 m) rfl rfl (by kernel_rfl) (by kernel_rfl) (by kernel_rfl) (by kernel_rfl) (by kernel_rfl) (.inl ⟨rfl, fun bs wq hI => ?_⟩) ?_
  · go_simp
  simp only [Act.put, List.getElem_toArray, List.getElem_cons_zero, List.getElem_cons_succ, List.setIfInBounds_toArray, List.set_cons_zero, List.set_cons_succ]
  refine Rg.take 3 (v := .agg #[.int .i64 0, .int .i64 0, .int .i64 n, .int .i64 m]) rfl rfl (by kernel_rfl) (by kernel_rfl) (by kernel_rfl) (by kernel_rfl) (by kernel_rfl) (.inl ⟨rfl, fun bs wq hI => ?_⟩) ?_
  · (go_simp; exact (whole_any n m _).mono fun e w2 h => ⟨h.1, hI.call h.2⟩)
  simp only [Act.put, List.getElem_toArray, List.getElem_cons_zero, List.getElem_cons_succ, List.setIfInBounds_toArray, List.set_cons_zero, List.set_cons_succ]
  refine Rg.take 4 (v := .agg #[.int .i64 (c * 16), .int .i64 (r * 16), .int .i64 (Rt.mn (c * 16 + 16) n), .int .i64 (Rt.mn (r * 16 + 16) m)]) rfl rfl (by kernel_rfl) (by kernel_rfl) (by kernel_rfl) (by kernel_rfl) (by kernel_rfl) (.inl ⟨rfl, fun bs wq hI => ?_⟩) ?_
  · (go_simp; exact (A1 _).mono fun e w2 h => ⟨h.1, hI.call h.2⟩)
  simp only [Act.put, List.getElem_toArray, List.getElem_cons_zero, List.getElem_cons_succ, List.setIfInBounds_toArray, List.set_cons_zero, List.set_cons_succ]
  refine Rg.done (rs := [5]) (by kernel_rfl) (by decide) (fun W hI => ?_)
  refine wpAny_sto ty_rect 5 (by kernel_rfl) rfl hI 1 [.int .i64 (c * 16), .int .i64 (r * 16), .int .i64 (Rt.mn (c * 16 + 16) n), .int .i64 (Rt.mn (r * 16 + 16) m)] rfl _ _ rfl _ rfl rfl _ rfl rfl rfl rfl ?_
  intro W1 hI1
  simp only [Act.put, List.getElem_toArray, List.getElem_cons_zero, List.getElem_cons_succ, List.setIfInBounds_toArray, List.set_cons_zero, List.set_cons_succ]
  have HO := Lib.hid hI1
  clear hI hI1
  refine wpAny_ready (rs := [6]) (by kernel_rfl) (by simp) (AllReady.cons (o := _) rfl (fun K hK => ?_) AllReady.nil)
  go_simp
  refine hK _ _ ?_
  clear hK K
  refine wpAny_done (by kernel_rfl) ?_ _
  go_wp2_with fail
  exact bodyPost_ret (results_c2 ty_rect rfl rfl rfl rfl (HO.out.at 1 rfl)) rfl ⟨rfl, HO.out.k⟩

set_option maxHeartbeats 4000000 in
theorem rbox_any (n m k c r : Int) (w : World) (h : Tl.is n m = true) (hA : Tl.At n m k c r) :
    Calls Try.prog 14 #[.int .i64 n, .int .i64 m, .int .i64 k] w fun e w' => e = .returned (.agg #[.int .i64 (c * 16), .int .i64 (r * 16), .int .i64 (Rt.mn (c * 16 + 16) n), .int .i64 (Rt.mn (r * 16 + 16) m)]) ∧ Kp w.heap.size w w' := by
  have h9 := Tl.is_iff.1 h
  have C1 := fun W => rcols_any n W (by omega) (by omega)
  obtain ⟨a1, a2⟩ := Tl.bg_le (n := n) (by omega) (by omega)
  obtain ⟨b1, b2⟩ := Tl.bg_le (n := m) (by omega) (by omega)
  obtain ⟨h1, h2⟩ := hA.lt
  have hc := hA.col.1
  have hr := hA.col.2
  have hr2 : k.tdiv (Tl.bg n) = r := by rw [Int.tdiv_eq_ediv_of_nonneg h1]; exact hr
  obtain ⟨d1, d2, d3, d4, -⟩ := hA
  have hz : Tl.bg n ≠ 0 := by omega
  have hz1 : (Tl.bg n == 0) = false := by rw [beq_eq_false_iff_ne]; exact hz
  have s1 : c ≤ 15 := by omega
  have s2 : r ≤ 15 := by omega
  have HO := Lib.hid ((Ow.refl w).newAt w.heap.size rfl (.int .i64 0) [.int .i64 0, .int .i64 0, .int .i64 0] 33)
  clear h h9
  go_enter Try.func14, Try.ntmps14
  go_wp2_with (first
    | ((with_reducible show wpList _ _ _ ({ dst := _, op := Op.store 33 _ _, type := _, pos := _, after := _, guard := _ } :: _) _ _); refine wpList_sto ty_rect HO.out 0 [.int .i64 (c * 16), .int .i64 (r * 16), .int .i64 (Rt.mn (c * 16 + 16) n), .int .i64 (Rt.mn (r * 16 + 16) m)] rfl _ _ rfl _ rfl rfl _ rfl rfl rfl rfl ?_; intro w2 l2; clear HO; have HO := Lib.hid l2; clear l2)
    | (go_at_call 24; refine (C1 _).mono ?_; rintro e w' ⟨rfl, rfl⟩)
    | (go_at_call 26; refine (rlow_any _ _ _).mono ?_; rintro e w' ⟨rfl, rfl⟩))
  exact bodyPost_ret (results_c ty_rect rfl rfl rfl (HO.out.at 0 rfl)) rfl ⟨rfl, HO.out.k⟩

set_option maxHeartbeats 1000000 in
theorem awake_any (w : World) :
    Calls Try.prog 9 #[] w fun e w' => e = .returned (.bool true) ∧ Kp w.heap.size w w' := by
  have P1 : ∀ W, Calls Try.prog 7 #[.int .i64 40, .int .i64 20] W fun e w' => e = .returned (.tuple #[.int .i64 3, .int .i64 2, .int .i64 0]) ∧ W = w' := fun W => count_yes 40 20 W (by decide)
  have P2 : ∀ W, Calls Try.prog 6 #[.int .i64 40, .int .i64 20, .int .i64 33, .int .i64 17] W fun e w' => e = .returned (.tuple #[.int .i64 5, .int .i64 0]) ∧ Kp W.heap.size W w' := fun W => at_yes 40 20 33 17 W (by decide) (by decide)
  have P3 : ∀ W, Calls Try.prog 11 #[.int .i64 40, .int .i64 20, .int .i64 5] W fun e w' => e = .returned (.tuple #[.agg #[.int .i64 32, .int .i64 16, .int .i64 40, .int .i64 20], .int .i64 0]) ∧ Kp W.heap.size W w' := fun W => box_yes 40 20 5 2 1 W (by decide) ⟨by decide, by decide, by decide, by decide, by decide⟩
  have hE := run_eqR_same
  have HO := Lib.hid (Ow.refl w)
  go_enter Try.func9, Try.ntmps9
  go_upto_region 4 with (first
    | (go_at_call 7; refine (P1 _).mono ?_; rintro e w' ⟨rfl, rfl⟩)
    | (go_at_call 6; refine (P2 _).mono ?_; rintro e w1 ⟨rfl, hk1⟩; have l2 := HO.out.call hk1; clear HO hk1; have HO := Lib.hid l2; clear l2)
    | (go_at_call 11; refine (P3 _).mono ?_; rintro e w1 ⟨rfl, hk1⟩; have l2 := (HO.out.call hk1).newAt w1.heap.size rfl (.int .i64 32) [.int .i64 16, .int .i64 40, .int .i64 20] 33; clear HO hk1; have HO := Lib.hid l2; clear l2))
  go_wp2_with ((with_reducible show wpList _ _ _ ({ dst := _, op := Op.load 33 _, type := _, pos := _, after := _, guard := _ } :: _) _ _); refine wpList_ldr ty_rect rfl _ rfl _ rfl _ rfl (HO.out.at 0 rfl) ?_)
  go_ret
  exact ⟨rfl, HO.out.k⟩
end Go.Proofs.Ytphgihijobnlhaa
