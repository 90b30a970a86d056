/-
  Contracts of layer 6 (tint): Of, Right, Gray.
-/
import Derived.Test.YtneomplhikenfaaTintWalks2
namespace Go.Proofs.Ytneomplhikenfaa
open Go.RowKit

set_option maxHeartbeats 1000000 in
theorem of_any (l0 l1 l2 l3 l4 l5 : Int) (w : World) :
    Calls Try.prog 22 #[.agg #[.int .i64 l0, .int .i64 l1, .int .i64 l2, .int .i64 l3, .int .i64 l4, .int .i64 l5]] w fun e w' => e = .returned (.agg #[.int .i64 (Tn.ch l0), .int .i64 (Tn.ch l1), .int .i64 (Tn.ch l2), .int .i64 (Tn.ch l3)]) ∧ Kp w.heap.size w w' := by
  have HO := Lib.hid (((Ow.refl w).newAt w.heap.size rfl (.int .i64 l0) [.int .i64 l1, .int .i64 l2, .int .i64 l3, .int .i64 l4, .int .i64 l5] 50).newAt (w.heap.size + 1) (by simp) (.int .i64 0) [.int .i64 0, .int .i64 0, .int .i64 0] 25)
  go_enter Try.func22, Try.ntmps22
  go_wp2_with (first
    | (go_at_call 32; refine (made_of l0 l1 l2 l3 l4 l5 w.heap.size _ (HO.out.at 1 rfl)).mono ?_; rintro e w1 ⟨rfl, hk⟩; have l2 := HO.out.call hk; clear HO hk; have HO := Lib.hid l2; clear l2)
    | ((with_reducible show wpList _ _ _ ({ dst := _, op := Op.store 25 _ _, type := _, pos := _, after := _, guard := _ } :: _) _ _); refine wpList_sto ty_color HO.out 0 [.int .i64 (Tn.ch l0), .int .i64 (Tn.ch l1), .int .i64 (Tn.ch l2), .int .i64 (Tn.ch l3)] rfl _ _ rfl _ rfl rfl _ rfl rfl rfl rfl ?_; intro w2 l2; clear HO; have HO := Lib.hid l2; clear l2))
  exact bodyPost_ret (results_c ty_color rfl rfl rfl (HO.out.at 0 rfl)) rfl ⟨rfl, HO.out.k⟩

theorem run_eqC (r g b a r' g' b' a' : Int) (w : World) : (Op.equalIn 10000 25 (.agg #[.int .i64 r, .int .i64 g, .int .i64 b, .int .i64 a]) (.agg #[.int .i64 (r'), .int .i64 (g'), .int .i64 (b'), .int .i64 (a')])).run Try.prog w = .ok (r == r' && g == g' && b == b' && a == a') w := by
  rw [run_equalIn_struct w 9999 25 _ _ (by kernel_rfl) (by kernel_rfl)]
  simp only [Program.fieldsOf, Try.underlying25]
  rw [show (r == r' && g == g' && b == b' && a == a') = (r == r' && (g == g' && (b == b' && (a == a' && true)))) by simp [Bool.and_assoc]]
  refine eqStep (by decide) (eqInt r r' rfl rfl) (eqStep (by decide) (eqInt g g' rfl rfl) (eqStep (by decide) (eqInt b b' rfl rfl) (eqStep (by decide) (eqInt a a' rfl rfl) (by simp [Op.eqFields]))))
theorem run_eqC_same (r g b a : Int) (w : World) : (Op.equalIn 10000 25 (.agg #[.int .i64 r, .int .i64 g, .int .i64 b, .int .i64 a]) (.agg #[.int .i64 r, .int .i64 g, .int .i64 b, .int .i64 a])).run Try.prog w = .ok true w := by
  rw [run_eqC]; simp

set_option linter.unusedSimpArgs false in
set_option maxHeartbeats 1000000 in
theorem right_any (r g b a : Int) (w : World) :
    Calls Try.prog 15 #[.agg #[.int .i64 r, .int .i64 g, .int .i64 b, .int .i64 a]] w fun e w' => e = .returned (.bool (Tn.right r g b a)) ∧ Kp w.heap.size w w' := by
  have hE := run_eqC
  have hright : (r == Tn.ch r && g == Tn.ch g && b == Tn.ch b && a == Tn.ch a) = Tn.right r g b a := by simp only [Tn.ch_is, Tn.right]
  have HO := Lib.hid ((Ow.refl w).new (.int .i64 r) [.int .i64 g, .int .i64 b, .int .i64 a] 25)
  go_enter Try.func15, Try.ntmps15
  go_upto_region 1 with fail
  generalize hw0 : w.alloc (.cells #[.int .i64 r, .int .i64 g, .int .i64 b, .int .i64 a] 25) = W0 at *
  clear hw0
  refine Rg.region (I := fun _ W => Ow w W [(w.heap.size, [.int .i64 r, .int .i64 g, .int .i64 b, .int .i64 a])]) (dem := fun _ => false) (m := 13) (g := 0) (T := fun listed bs a' => ∀ W, Ow w W [(w.heap.size, [.int .i64 r, .int .i64 g, .int .i64 b, .int .i64 a])] → wpAny Try.prog .any _ _ 0 listed a' W) (by kernel_rfl) HO.out.drew rfl (fun _ _ _ _ h hI => h _ hI) ?_
  refine Rg.take 0 (v := .agg #[.int .i64 r, .int .i64 g, .int .i64 b, .int .i64 a]) rfl rfl (by kernel_rfl) (by kernel_rfl) (by kernel_rfl) (by kernel_rfl) (by kernel_rfl) (.inl ⟨rfl, fun bs wq hI => ?_⟩) ?_
  · exact quiet_ldr ty_color (.tmp 1) rfl rfl rfl (hI.at 0 rfl)
  simp only [Act.put, List.getElem_toArray, List.getElem_cons_zero, List.getElem_cons_succ, List.setIfInBounds_toArray, List.set_cons_zero, List.set_cons_succ]
  refine Rg.take 1 (v := .pointer (some ⟨w.heap.size, 0, none⟩)) rfl rfl (by kernel_rfl) (by kernel_rfl) (by kernel_rfl) (by kernel_rfl) (by kernel_rfl) (.inl ⟨rfl, fun bs wq hI => ?_⟩) ?_
  · go_simp
  simp only [Act.put, List.getElem_toArray, List.getElem_cons_zero, List.getElem_cons_succ, List.setIfInBounds_toArray, List.set_cons_zero, List.set_cons_succ]
  refine Rg.take 2 (v := .int .i64 r) rfl rfl (by kernel_rfl) (by kernel_rfl) (by kernel_rfl) (by kernel_rfl) (by kernel_rfl) (.inl ⟨rfl, fun bs wq hI => ?_⟩) ?_
  · (have c := (hI.at 0 rfl).cell 0 rfl; go_simp)
  simp only [Act.put, List.getElem_toArray, List.getElem_cons_zero, List.getElem_cons_succ, List.setIfInBounds_toArray, List.set_cons_zero, List.set_cons_succ]
  refine Rg.take 3 (v := .pointer (some ⟨w.heap.size, 1, none⟩)) rfl rfl (by kernel_rfl) (by kernel_rfl) (by kernel_rfl) (by kernel_rfl) (by kernel_rfl) (.inl ⟨rfl, fun bs wq hI => ?_⟩) ?_
  · go_simp
  simp only [Act.put, List.getElem_toArray, List.getElem_cons_zero, List.getElem_cons_succ, List.setIfInBounds_toArray, List.set_cons_zero, List.set_cons_succ]
  refine Rg.take 4 (v := .int .i64 g) rfl rfl (by kernel_rfl) (by kernel_rfl) (by kernel_rfl) (by kernel_rfl) (by kernel_rfl) (.inl ⟨rfl, fun bs wq hI => ?_⟩) ?_
  · (have c := (hI.at 0 rfl).cell 1 rfl; go_simp)
  simp only [Act.put, List.getElem_toArray, List.getElem_cons_zero, List.getElem_cons_succ, List.setIfInBounds_toArray, List.set_cons_zero, List.set_cons_succ]
  refine Rg.take 5 (v := .pointer (some ⟨w.heap.size, 2, none⟩)) rfl rfl (by kernel_rfl) (by kernel_rfl) (by kernel_rfl) (by kernel_rfl) (by kernel_rfl) (.inl ⟨rfl, fun bs wq hI => ?_⟩) ?_
  · go_simp
  simp only [Act.put, List.getElem_toArray, List.getElem_cons_zero, List.getElem_cons_succ, List.setIfInBounds_toArray, List.set_cons_zero, List.set_cons_succ]
  refine Rg.take 6 (v := .int .i64 b) rfl rfl (by kernel_rfl) (by kernel_rfl) (by kernel_rfl) (by kernel_rfl) (by kernel_rfl) (.inl ⟨rfl, fun bs wq hI => ?_⟩) ?_
  · (have c := (hI.at 0 rfl).cell 2 rfl; go_simp)
  simp only [Act.put, List.getElem_toArray, List.getElem_cons_zero, List.getElem_cons_succ, List.setIfInBounds_toArray, List.set_cons_zero, List.set_cons_succ]
  refine Rg.take 7 (v := .pointer (some ⟨w.heap.size, 3, none⟩)) rfl rfl (by kernel_rfl) (by kernel_rfl) (by kernel_rfl) (by kernel_rfl) (by kernel_rfl) (.inl ⟨rfl, fun bs wq hI => ?_⟩) ?_
  · go_simp
  simp only [Act.put, List.getElem_toArray, List.getElem_cons_zero, List.getElem_cons_succ, List.setIfInBounds_toArray, List.set_cons_zero, List.set_cons_succ]
  refine Rg.take 8 (v := .int .i64 a) rfl rfl (by kernel_rfl) (by kernel_rfl) (by kernel_rfl) (by kernel_rfl) (by kernel_rfl) (.inl ⟨rfl, fun bs wq hI => ?_⟩) ?_
  · (have c := (hI.at 0 rfl).cell 3 rfl; go_simp)
  simp only [Act.put, List.getElem_toArray, List.getElem_cons_zero, List.getElem_cons_succ, List.setIfInBounds_toArray, List.set_cons_zero, List.set_cons_succ]
  refine Rg.take 9 (v := .agg #[.int .i64 r, .int .i64 g, .int .i64 b, .int .i64 a, .int .i64 0, .int .i64 0]) rfl rfl (by kernel_rfl) (by kernel_rfl) (by kernel_rfl) (by kernel_rfl) (by kernel_rfl) (.inl ⟨rfl, fun bs wq hI => ?_⟩) ?_
  · go_simp
  simp only [Act.put, List.getElem_toArray, List.getElem_cons_zero, List.getElem_cons_succ, List.setIfInBounds_toArray, List.set_cons_zero, List.set_cons_succ]
  refine Rg.take 10 (v := .agg #[.int .i64 (Tn.ch r), .int .i64 (Tn.ch g), .int .i64 (Tn.ch b), .int .i64 (Tn.ch a)]) rfl rfl (by kernel_rfl) (by kernel_rfl) (by kernel_rfl) (by kernel_rfl) (by kernel_rfl) (.inl ⟨rfl, fun bs wq hI => ?_⟩) ?_
  · (go_simp; exact (of_any r g b a 0 0 _).mono fun e w2 h => ⟨h.1, hI.call h.2⟩)
  simp only [Act.put, List.getElem_toArray, List.getElem_cons_zero, List.getElem_cons_succ, List.setIfInBounds_toArray, List.set_cons_zero, List.set_cons_succ]
  refine Rg.take 11 (v := .bool (Tn.right r g b a)) rfl rfl (by kernel_rfl) (by kernel_rfl) (by kernel_rfl) (by kernel_rfl) (by kernel_rfl) (.inl ⟨rfl, fun bs wq hI => ?_⟩) ?_
  · go_simp
  simp only [Act.put, List.getElem_toArray, List.getElem_cons_zero, List.getElem_cons_succ, List.setIfInBounds_toArray, List.set_cons_zero, List.set_cons_succ]
  refine Rg.take 12 (v := .bool (Tn.right r g b a)) rfl rfl (by kernel_rfl) (by kernel_rfl) (by kernel_rfl) (by kernel_rfl) (by kernel_rfl) (.inl ⟨rfl, fun bs wq hI => ?_⟩) ?_
  · go_simp
  simp only [Act.put, List.getElem_toArray, List.getElem_cons_zero, List.getElem_cons_succ, List.setIfInBounds_toArray, List.set_cons_zero, List.set_cons_succ]
  refine Rg.done (rs := []) (by kernel_rfl) (by decide) (fun W hI => ?_)
  have KK := Lib.hid hI.k
  clear hI
  refine wpAny_done (by kernel_rfl) ?_ _
  go_wp2_with fail
  go_ret
  exact ⟨rfl, KK.out⟩
end Go.Proofs.Ytneomplhikenfaa
