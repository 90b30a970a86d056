/-
  Contracts of layer 6 (tint): Times of right colours; the document's own.
-/
import Derived.Test.YtamabnaibhgkbaaTintTimesF
namespace Go.Proofs.Ytamabnaibhgkbaa
open Go.RowKit

/-- the blocks of Times -/
def Tb (w : World) (r g b a r' g' b' a' : Int) : List (Nat × List Value) :=
  [(w.heap.size + 2, [.int .i64 0, .int .i64 0, .int .i64 0, .int .i64 0]), (w.heap.size + 1, [.int .i64 r', .int .i64 g', .int .i64 b', .int .i64 a']), (w.heap.size, [.int .i64 r, .int .i64 g, .int .i64 b, .int .i64 a])]
theorem makes_four {w : World} {ms : List (Nat × List Value)} (a : Act) (o : Oper) (ho : o.op = .alloc 42) (bs : List Nat) (W : World) (hI : Mk w [.int .i64 0, .int .i64 0, .int .i64 0, .int .i64 0] ms bs W) :
    ∃ w1, (execOp a.eval o).run Try.prog W = .ok (.value (.pointer (some ⟨W.heap.size, 0, none⟩))) w1 ∧ Mk w [.int .i64 0, .int .i64 0, .int .i64 0, .int .i64 0] ms (W.heap.size :: bs) w1 ∧ W.heap.size ∉ bs := by
  refine ⟨W.alloc (.cells #[.int .i64 0, .int .i64 0, .int .i64 0, .int .i64 0] 42), ?_, (hI.make 42).1, (hI.make 42).2⟩
  simp [execOp, ho, go_sem]
set_option linter.unusedSimpArgs false in
set_option maxHeartbeats 4000000 in
theorem times_yes (r g b a r' g' b' a' : Int) (w : World) (h : Tn.right r g b a = true) (h' : Tn.right r' g' b' a' = true) :
    Calls Try.prog 13 #[.agg #[.int .i64 r, .int .i64 g, .int .i64 b, .int .i64 a], .agg #[.int .i64 (r'), .int .i64 (g'), .int .i64 (b'), .int .i64 (a')]] w fun e w' => e = .returned (.tuple #[.agg #[.int .i64 (Tn.tm r r'), .int .i64 (Tn.tm g g'), .int .i64 (Tn.tm b b'), .int .i64 (Tn.tm a a')], .int .i64 0]) ∧ Kp w.heap.size w w' := by
  have HO := Lib.hid ((((Ow.refl w).newAt w.heap.size rfl (.int .i64 r) [.int .i64 g, .int .i64 b, .int .i64 a] 23).newAt (w.heap.size + 1) (by simp) (.int .i64 r') [.int .i64 g', .int .i64 b', .int .i64 a'] 23).newAt (w.heap.size + 2) (by simp) (.int .i64 0) [.int .i64 0, .int .i64 0, .int .i64 0] 23)
  go_enter Try.func13, Try.ntmps13
  go_upto_region 3 with (first | go_skip | ((with_reducible show wpList _ _ _ ({ dst := _, op := Op.load 23 _, type := _, pos := _, after := _, guard := _ } :: _) _ _); refine wpList_ldr ty_color rfl _ rfl _ rfl _ rfl (HO.out.at 2 rfl) ?_) | ((with_reducible show wpList _ _ _ ({ dst := _, op := Op.load 23 _, type := _, pos := _, after := _, guard := _ } :: _) _ _); refine wpList_ldr ty_color rfl _ rfl _ rfl _ rfl (HO.out.at 1 rfl) ?_) | (go_at_call 9; (first | with_reducible refine (right_any r g b a _).mono ?_ | with_reducible refine (right_any r' g' b' a' _).mono ?_); rintro e w1 ⟨rfl, hk⟩; have l2 := HO.out.call hk; clear HO hk; have HO := Lib.hid l2; clear l2))
  go_cut [6, 7] (fun s6 s7 wx => ∃ p q : Nat, s6 = .pointer (some ⟨p, 0, none⟩) ∧ s7 = .pointer (some ⟨q, 0, none⟩) ∧ Ow w wx ((p, [.int .i64 r, .int .i64 g, .int .i64 b, .int .i64 a]) :: (q, [.int .i64 r', .int .i64 g', .int .i64 b', .int .i64 a']) :: Tb w r g b a r' g' b' a'))
  case first =>
    refine Rg.region (I := Mk w [.int .i64 0, .int .i64 0, .int .i64 0, .int .i64 0] (Tb w r g b a r' g' b' a')) (dem := fun i => decide (4 ≤ i)) (m := 6) (g := 2) (T := fun listed bs st => ∀ W, Mk w [.int .i64 0, .int .i64 0, .int .i64 0, .int .i64 0] (Tb w r g b a r' g' b' a') bs W → wpAny Try.prog .any _ _ 2 listed st W) (by kernel_rfl) HO.out.drew rfl (fun _ _ _ _ h hI => h _ hI) ?_
    clear HO
    refine Rg.take 0 (v := .agg #[.int .i64 r, .int .i64 g, .int .i64 b, .int .i64 a]) rfl rfl (by kernel_rfl) (by kernel_rfl) (by kernel_rfl) (by kernel_rfl) (by kernel_rfl) (.inl ⟨rfl, fun bs wq hI => ?_⟩) ?_
    · exact quiet_ldr ty_color (.tmp 2) rfl rfl rfl (Ow.mem hI (List.mem_append_right _ (by simp [Tb])))
    simp only [Act.put, List.getElem_toArray, List.getElem_cons_zero, List.getElem_cons_succ, List.setIfInBounds_toArray, List.set_cons_zero, List.set_cons_succ]
    refine Rg.take 1 (v := .agg #[.int .i64 r, .int .i64 g, .int .i64 b, .int .i64 a]) rfl rfl (by kernel_rfl) (by kernel_rfl) (by kernel_rfl) (by kernel_rfl) (by kernel_rfl) (.inl ⟨rfl, fun bs wq hI => ?_⟩) ?_
    · (go_simp; exact (channels_any r g b a _).mono fun e w2 h => ⟨h.1, hI.call h.2⟩)
    simp only [Act.put, List.getElem_toArray, List.getElem_cons_zero, List.getElem_cons_succ, List.setIfInBounds_toArray, List.set_cons_zero, List.set_cons_succ]
    refine Rg.take 2 (v := .agg #[.int .i64 (r'), .int .i64 (g'), .int .i64 (b'), .int .i64 (a')]) rfl rfl (by kernel_rfl) (by kernel_rfl) (by kernel_rfl) (by kernel_rfl) (by kernel_rfl) (.inl ⟨rfl, fun bs wq hI => ?_⟩) ?_
    · exact quiet_ldr ty_color (.tmp 3) rfl rfl rfl (Ow.mem hI (List.mem_append_right _ (by simp [Tb])))
    simp only [Act.put, List.getElem_toArray, List.getElem_cons_zero, List.getElem_cons_succ, List.setIfInBounds_toArray, List.set_cons_zero, List.set_cons_succ]
    refine Rg.take 3 (v := .agg #[.int .i64 (r'), .int .i64 (g'), .int .i64 (b'), .int .i64 (a')]) rfl rfl (by kernel_rfl) (by kernel_rfl) (by kernel_rfl) (by kernel_rfl) (by kernel_rfl) (.inl ⟨rfl, fun bs wq hI => ?_⟩) ?_
    · (go_simp; exact (channels_any r' g' b' a' _).mono fun e w2 h => ⟨h.1, hI.call h.2⟩)
    simp only [Act.put, List.getElem_toArray, List.getElem_cons_zero, List.getElem_cons_succ, List.setIfInBounds_toArray, List.set_cons_zero, List.set_cons_succ]
    refine Rg.made (rs := [4, 5]) (by kernel_rfl) (by simp) (fun i hi => ?_)
    simp only [List.mem_cons, List.not_mem_nil, or_false] at hi
    rcases hi with rfl | rfl
    · refine Rg.up_made rfl rfl (fun a => ⟨rfl, makes_four a _ rfl⟩) (fun b1 _ => ?_)
      simp only [Act.put, List.getElem_toArray, List.getElem_cons_zero, List.getElem_cons_succ, List.setIfInBounds_toArray, List.set_cons_zero, List.set_cons_succ]
      refine Rg.made (rs := [5]) (by kernel_rfl) (by simp) (fun i hi => ?_)
      simp only [List.mem_cons, List.not_mem_nil, or_false] at hi
      subst hi
      refine Rg.up_made rfl rfl (fun a => ⟨rfl, makes_four a _ rfl⟩) (fun b2 _ => ?_)
      simp only [Act.put, List.getElem_toArray, List.getElem_cons_zero, List.getElem_cons_succ, List.setIfInBounds_toArray, List.set_cons_zero, List.set_cons_succ]
      refine Rg.done (rs := [6]) (by kernel_rfl) (by decide) (fun W hI => ?_)
      refine wpAny_sto ty_four 6 (by kernel_rfl) rfl hI 1 [.int .i64 r, .int .i64 g, .int .i64 b, .int .i64 a] rfl _ _ rfl _ rfl rfl _ rfl rfl rfl rfl ?_
      intro W1 hI1
      simp only [Act.put, List.getElem_toArray, List.getElem_cons_zero, List.getElem_cons_succ, List.setIfInBounds_toArray, List.set_cons_zero, List.set_cons_succ]
      refine wpAny_sto ty_four 7 (by kernel_rfl) rfl hI1 0 [.int .i64 r', .int .i64 g', .int .i64 b', .int .i64 a'] rfl _ _ rfl _ rfl rfl _ rfl rfl rfl rfl ?_
      intro W2 hI2
      simp only [Act.put, List.getElem_toArray, List.getElem_cons_zero, List.getElem_cons_succ, List.setIfInBounds_toArray, List.set_cons_zero, List.set_cons_succ]
      have HI2 := Lib.hid hI2
      clear hI hI1 hI2
      refine wpAny_done (by kernel_rfl) ?_ _
      go_wp2_with fail
      go_meet
      exact ⟨_, _, rfl, rfl, Ow.swap HI2.out⟩
    · refine Rg.up_made rfl rfl (fun a => ⟨rfl, makes_four a _ rfl⟩) (fun b1 _ => ?_)
      simp only [Act.put, List.getElem_toArray, List.getElem_cons_zero, List.getElem_cons_succ, List.setIfInBounds_toArray, List.set_cons_zero, List.set_cons_succ]
      refine Rg.made (rs := [4]) (by kernel_rfl) (by simp) (fun i hi => ?_)
      simp only [List.mem_cons, List.not_mem_nil, or_false] at hi
      subst hi
      refine Rg.up_made rfl rfl (fun a => ⟨rfl, makes_four a _ rfl⟩) (fun b2 _ => ?_)
      simp only [Act.put, List.getElem_toArray, List.getElem_cons_zero, List.getElem_cons_succ, List.setIfInBounds_toArray, List.set_cons_zero, List.set_cons_succ]
      refine Rg.done (rs := [6]) (by kernel_rfl) (by decide) (fun W hI => ?_)
      refine wpAny_sto ty_four 6 (by kernel_rfl) rfl hI 0 [.int .i64 r, .int .i64 g, .int .i64 b, .int .i64 a] rfl _ _ rfl _ rfl rfl _ rfl rfl rfl rfl ?_
      intro W1 hI1
      simp only [Act.put, List.getElem_toArray, List.getElem_cons_zero, List.getElem_cons_succ, List.setIfInBounds_toArray, List.set_cons_zero, List.set_cons_succ]
      refine wpAny_sto ty_four 7 (by kernel_rfl) rfl hI1 1 [.int .i64 r', .int .i64 g', .int .i64 b', .int .i64 a'] rfl _ _ rfl _ rfl rfl _ rfl rfl rfl rfl ?_
      intro W2 hI2
      simp only [Act.put, List.getElem_toArray, List.getElem_cons_zero, List.getElem_cons_succ, List.setIfInBounds_toArray, List.set_cons_zero, List.set_cons_succ]
      have HI2 := Lib.hid hI2
      clear hI hI1 hI2
      refine wpAny_done (by kernel_rfl) ?_ _
      go_wp2_with fail
      go_meet
      exact ⟨_, _, rfl, rfl, HI2.out⟩
  case rest =>
    obtain ⟨p, q, rfl, rfl, ho⟩ := hcut
    clear HO
    have HO := Lib.hid ho
    clear ho
    go_wp2_with (first | go_skip | (go_at_call 21; refine (made_times r g b a r' g' b' a' p q _ (HO.out.at 0 rfl) (HO.out.at 1 rfl) h h').mono ?_; rintro e w1 ⟨rfl, hk⟩; have l2 := HO.out.call hk; clear HO hk; have HO := Lib.hid l2; clear l2) | ((with_reducible show wpList _ _ _ ({ dst := _, op := Op.store 23 _ _, type := _, pos := _, after := _, guard := _ } :: _) _ _); refine wpList_sto ty_color HO.out 2 [.int .i64 (Tn.tm r r'), .int .i64 (Tn.tm g g'), .int .i64 (Tn.tm b b'), .int .i64 (Tn.tm a a')] rfl _ _ rfl _ rfl rfl _ rfl rfl rfl rfl ?_; intro w2 l2; clear HO; have HO := Lib.hid l2; clear l2))
    exact bodyPost_ret (results_c2 ty_color rfl rfl rfl rfl (HO.out.at 2 rfl)) rfl ⟨rfl, HO.out.k⟩
end Go.Proofs.Ytamabnaibhgkbaa
