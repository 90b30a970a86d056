/-
  Contracts of layer 9 (sten): Test, Put; the document's own; what must come at any rate.
-/
import Derived.Test.YtankjlpanmmogaaJMem5
namespace Go.Proofs.Ytankjlpanmmogaa
set_option maxRecDepth 100000
open Go.RowKit

/-- of a stencil test that may be: what each number is -/
theorem Sn.chk_ok {fn ref rd wr f z p : Int} (h : Sn.chk fn ref rd wr f z p = 0) : (Dp.is fn = true ∧ Dp.is f = true ∧ Dp.is z = true ∧ Dp.is p = true) ∧ Sn.is ref = true ∧ Sn.is rd = true ∧ Sn.is wr = true := by
  unfold Sn.chk at h
  split at h
  · rename_i h1
    split at h
    · rename_i h2
      simp only [Bool.and_eq_true] at h1 h2
      simp [h1, h2]
    · omega
  · omega
theorem Sn.deed_is {f z p : Int} (h1 : Dp.is f = true) (h2 : Dp.is z = true) (h3 : Dp.is p = true) (k : Nat) : Dp.is (Sn.deed f z p k) = true := by
  rcases k with _ | _ | k <;> assumption

set_option maxHeartbeats 1000000 in
theorem test_no1 (fn ref rd wr f z p old : Int) (w : World) (h : Sn.chk fn ref rd wr f z p ≠ 0) :
    Calls Try.prog 44 #[.agg #[.int .i64 fn, .int .i64 ref, .int .i64 rd, .int .i64 wr, .int .i64 f, .int .i64 z, .int .i64 p], .int .i64 old] w fun e w' => e = .returned (.tuple #[.bool false, .int .i64 (Sn.chk fn ref rd wr f z p)]) ∧ Kp w.heap.size w w' := by
  have HO := Lib.hid ((Ow.refl w).newAt w.heap.size rfl (.int .i64 fn) [.int .i64 ref, .int .i64 rd, .int .i64 wr, .int .i64 f, .int .i64 z, .int .i64 p] 33)
  have hd : (Sn.chk fn ref rd wr f z p != 0) = true := by simpa using h
  go_enter Try.func44, Try.ntmps44
  go_wp2_with (first | ((with_reducible show wpList _ _ _ ({ dst := _, op := Op.load 33 _, type := _, pos := _, after := _, guard := _ } :: _) _ _); refine wpList_ldr ty_sten rfl _ rfl _ rfl _ rfl (HO.out.at 0 rfl) ?_) | (go_at_call 39; refine (scheck_any fn ref rd wr f z p _).mono ?_; rintro e w1 ⟨rfl, hk1⟩; have l2 := HO.out.call hk1; clear HO hk1; have HO := Lib.hid l2; clear l2))
  go_ret2
  exact ⟨rfl, HO.out.k⟩
set_option maxHeartbeats 1000000 in
theorem test_no2 (fn ref rd wr f z p old : Int) (w : World) (h : Sn.chk fn ref rd wr f z p = 0) (ho : Sn.is old = false) :
    Calls Try.prog 44 #[.agg #[.int .i64 fn, .int .i64 ref, .int .i64 rd, .int .i64 wr, .int .i64 f, .int .i64 z, .int .i64 p], .int .i64 old] w fun e w' => e = .returned (.tuple #[.bool false, .int .i64 3]) ∧ Kp w.heap.size w w' := by
  have HO := Lib.hid ((Ow.refl w).newAt w.heap.size rfl (.int .i64 fn) [.int .i64 ref, .int .i64 rd, .int .i64 wr, .int .i64 f, .int .i64 z, .int .i64 p] 33)
  go_enter Try.func44, Try.ntmps44
  go_wp2_with (first | ((with_reducible show wpList _ _ _ ({ dst := _, op := Op.load 33 _, type := _, pos := _, after := _, guard := _ } :: _) _ _); refine wpList_ldr ty_sten rfl _ rfl _ rfl _ rfl (HO.out.at 0 rfl) ?_) | (go_at_call 39; refine (scheck_any fn ref rd wr f z p _).mono ?_; rintro e w1 ⟨rfl, hk1⟩; have l2 := HO.out.call hk1; clear HO hk1; have HO := Lib.hid l2; clear l2) | (go_at_call 63; refine (isSten_any _ _).mono ?_; rintro e w' ⟨rfl, rfl⟩))
  go_ret2
  exact ⟨rfl, HO.out.k⟩
set_option maxHeartbeats 1000000 in
theorem stest_yes (fn ref rd wr f z p old : Int) (w : World) (h : Sn.chk fn ref rd wr f z p = 0) (ho : Sn.is old = true) :
    Calls Try.prog 44 #[.agg #[.int .i64 fn, .int .i64 ref, .int .i64 rd, .int .i64 wr, .int .i64 f, .int .i64 z, .int .i64 p], .int .i64 old] w fun e w' => e = .returned (.tuple #[.bool (Dp.pass fn (Sn.and ref rd) (Sn.and old rd)), .int .i64 0]) ∧ Kp w.heap.size w w' := by
  have HO := Lib.hid ((Ow.refl w).newAt w.heap.size rfl (.int .i64 fn) [.int .i64 ref, .int .i64 rd, .int .i64 wr, .int .i64 f, .int .i64 z, .int .i64 p] 33)
  obtain ⟨⟨h0, -, -, -⟩, s1, s2, -⟩ := Sn.chk_ok h
  have B1 := Sn.bits_and s1 s2
  have B2 := Sn.bits_and ho s2
  go_enter Try.func44, Try.ntmps44
  go_upto_region 4 with (first | ((with_reducible show wpList _ _ _ ({ dst := _, op := Op.load 33 _, type := _, pos := _, after := _, guard := _ } :: _) _ _); refine wpList_ldr ty_sten rfl _ rfl _ rfl _ rfl (HO.out.at 0 rfl) ?_) | (go_at_call 39; refine (scheck_any fn ref rd wr f z p _).mono ?_; rintro e w1 ⟨rfl, hk1⟩; have l2 := HO.out.call hk1; clear HO hk1; have HO := Lib.hid l2; clear l2))
  have c0 := (HO.out.at 0 rfl).cell 0 rfl
  have c1 := (HO.out.at 0 rfl).cell 1 rfl
  have c2 := (HO.out.at 0 rfl).cell 2 rfl
  go_wp2_with (first | (go_at_call 63; refine (isSten_any _ _).mono ?_; rintro e w' ⟨rfl, rfl⟩) | (go_at_call 60; refine (passes_yes fn (Sn.and ref rd) (Sn.and old rd) _ h0).mono ?_; rintro e w' ⟨rfl, rfl⟩))
  go_ret2
  exact ⟨rfl, HO.out.k⟩

set_option maxHeartbeats 1000000 in
theorem put_no1 (fn ref rd wr f z p how old : Int) (w : World) (h : Sn.chk fn ref rd wr f z p ≠ 0) :
    Calls Try.prog 66 #[.agg #[.int .i64 fn, .int .i64 ref, .int .i64 rd, .int .i64 wr, .int .i64 f, .int .i64 z, .int .i64 p], .int .i64 how, .int .i64 old] w fun e w' => e = .returned (.tuple #[.int .i64 0, .int .i64 (Sn.chk fn ref rd wr f z p)]) ∧ Kp w.heap.size w w' := by
  have HO := Lib.hid ((Ow.refl w).newAt w.heap.size rfl (.int .i64 fn) [.int .i64 ref, .int .i64 rd, .int .i64 wr, .int .i64 f, .int .i64 z, .int .i64 p] 33)
  have hd : (Sn.chk fn ref rd wr f z p != 0) = true := by simpa using h
  go_enter Try.func66, Try.ntmps66
  go_wp2_with (first | ((with_reducible show wpList _ _ _ ({ dst := _, op := Op.load 33 _, type := _, pos := _, after := _, guard := _ } :: _) _ _); refine wpList_ldr ty_sten rfl _ rfl _ rfl _ rfl (HO.out.at 0 rfl) ?_) | (go_at_call 39; refine (scheck_any fn ref rd wr f z p _).mono ?_; rintro e w1 ⟨rfl, hk1⟩; have l2 := HO.out.call hk1; clear HO hk1; have HO := Lib.hid l2; clear l2))
  go_ret2
  exact ⟨rfl, HO.out.k⟩
set_option maxHeartbeats 1000000 in
theorem put_no2 (fn ref rd wr f z p how old : Int) (w : World) (h : Sn.chk fn ref rd wr f z p = 0) (hh : how < 0 ∨ 2 < how) :
    Calls Try.prog 66 #[.agg #[.int .i64 fn, .int .i64 ref, .int .i64 rd, .int .i64 wr, .int .i64 f, .int .i64 z, .int .i64 p], .int .i64 how, .int .i64 old] w fun e w' => e = .returned (.tuple #[.int .i64 0, .int .i64 2]) ∧ Kp w.heap.size w w' := by
  have HO := Lib.hid ((Ow.refl w).newAt w.heap.size rfl (.int .i64 fn) [.int .i64 ref, .int .i64 rd, .int .i64 wr, .int .i64 f, .int .i64 z, .int .i64 p] 33)
  by_cases h1 : how < 0
  · have hd : decide (how < 0) = true := decide_eq_true h1
    go_enter Try.func66, Try.ntmps66
    go_wp2_with (first | go_skip | ((with_reducible show wpList _ _ _ ({ dst := _, op := Op.load 33 _, type := _, pos := _, after := _, guard := _ } :: _) _ _); refine wpList_ldr ty_sten rfl _ rfl _ rfl _ rfl (HO.out.at 0 rfl) ?_) | (go_at_call 39; refine (scheck_any fn ref rd wr f z p _).mono ?_; rintro e w1 ⟨rfl, hk1⟩; have l2 := HO.out.call hk1; clear HO hk1; have HO := Lib.hid l2; clear l2))
    go_ret2
    exact ⟨rfl, HO.out.k⟩
  · have hd : decide (how < 0) = false := decide_eq_false h1
    have hd2 : decide (3 ≤ how) = true := decide_eq_true (by omega)
    go_enter Try.func66, Try.ntmps66
    go_wp2_with (first | go_skip | ((with_reducible show wpList _ _ _ ({ dst := _, op := Op.load 33 _, type := _, pos := _, after := _, guard := _ } :: _) _ _); refine wpList_ldr ty_sten rfl _ rfl _ rfl _ rfl (HO.out.at 0 rfl) ?_) | (go_at_call 39; refine (scheck_any fn ref rd wr f z p _).mono ?_; rintro e w1 ⟨rfl, hk1⟩; have l2 := HO.out.call hk1; clear HO hk1; have HO := Lib.hid l2; clear l2))
    go_ret2
    exact ⟨rfl, HO.out.k⟩
set_option maxHeartbeats 1000000 in
theorem put_no3 (fn ref rd wr f z p how old : Int) (w : World) (h : Sn.chk fn ref rd wr f z p = 0) (hh : 0 ≤ how ∧ how ≤ 2) (ho : Sn.is old = false) :
    Calls Try.prog 66 #[.agg #[.int .i64 fn, .int .i64 ref, .int .i64 rd, .int .i64 wr, .int .i64 f, .int .i64 z, .int .i64 p], .int .i64 how, .int .i64 old] w fun e w' => e = .returned (.tuple #[.int .i64 0, .int .i64 3]) ∧ Kp w.heap.size w w' := by
  have HO := Lib.hid ((Ow.refl w).newAt w.heap.size rfl (.int .i64 fn) [.int .i64 ref, .int .i64 rd, .int .i64 wr, .int .i64 f, .int .i64 z, .int .i64 p] 33)
  have hd : decide (how < 0) = false := decide_eq_false (by omega)
  have hd2 : decide (3 ≤ how) = false := decide_eq_false (by omega)
  go_enter Try.func66, Try.ntmps66
  go_wp2_with (first | go_skip | ((with_reducible show wpList _ _ _ ({ dst := _, op := Op.load 33 _, type := _, pos := _, after := _, guard := _ } :: _) _ _); refine wpList_ldr ty_sten rfl _ rfl _ rfl _ rfl (HO.out.at 0 rfl) ?_) | (go_at_call 39; refine (scheck_any fn ref rd wr f z p _).mono ?_; rintro e w1 ⟨rfl, hk1⟩; have l2 := HO.out.call hk1; clear HO hk1; have HO := Lib.hid l2; clear l2) | (go_at_call 63; refine (isSten_any _ _).mono ?_; rintro e w' ⟨rfl, rfl⟩))
  go_ret2
  exact ⟨rfl, HO.out.k⟩
set_option maxRecDepth 100000 in
set_option maxHeartbeats 1000000 in
theorem put_yes (fn ref rd wr f z p : Int) (k : Nat) (old : Int) (w : World) (h : Sn.chk fn ref rd wr f z p = 0) (hk : k < 3) (ho : Sn.is old = true) :
    Calls Try.prog 66 #[.agg #[.int .i64 fn, .int .i64 ref, .int .i64 rd, .int .i64 wr, .int .i64 f, .int .i64 z, .int .i64 p], .int .i64 k, .int .i64 old] w fun e w' => e = .returned (.tuple #[.int .i64 (Sn.put (Sn.deed f z p k) old ref wr), .int .i64 0]) ∧ Kp w.heap.size w w' := by
  have HO := Lib.hid ((Ow.refl w).newAt w.heap.size rfl (.int .i64 fn) [.int .i64 ref, .int .i64 rd, .int .i64 wr, .int .i64 f, .int .i64 z, .int .i64 p] 33)
  obtain ⟨⟨-, h1, h2, h3⟩, s1, -, s3⟩ := Sn.chk_ok h
  have hd := Sn.deed_is h1 h2 h3 k
  have HM := Lib.hid (show ∀ W, Calls Try.prog 81 #[.int .i64 (Sn.deed f z p k), .int .i64 old, .int .i64 ref] W fun e w' => e = .returned (.int .i64 (Sn.made (Sn.deed f z p k) old ref)) ∧ W = w' from fun W => made_any _ _ _ W hd ho s1)
  have HR := Lib.hid (show bits .or .i64 (bits .and .i64 (Sn.made (Sn.deed f z p k) old ref) wr) (bits .andNot .i64 old wr) = Sn.put (Sn.deed f z p k) old ref wr by
    rw [Sn.bits_and (Sn.made_is _ ho s1) s3, Sn.bits_andNot ho s3, Sn.bits_or _ _ s3]; rfl)
  have hx1 : decide ((k : Int) < 0) = false := decide_eq_false (by omega)
  have hx2 : decide (3 ≤ (k : Int)) = false := decide_eq_false (by omega)
  have HX := Lib.hid (index_three f z p k hk)
  clear h1 h2 h3 s1 s3 hd
  generalize Sn.put (Sn.deed f z p k) old ref wr = P at *
  generalize Sn.made (Sn.deed f z p k) old ref = M at *
  generalize Sn.deed f z p k = D at *
  go_enter Try.func66, Try.ntmps66
  go_upto_region 8 with (first | go_skip | ((with_reducible show wpList _ _ _ ({ dst := _, op := Op.load 33 _, type := _, pos := _, after := _, guard := _ } :: _) _ _); refine wpList_ldr ty_sten rfl _ rfl _ rfl _ rfl (HO.out.at 0 rfl) ?_) | (go_at_call 39; refine (scheck_any fn ref rd wr f z p _).mono ?_; rintro e w1 ⟨rfl, hk1⟩; have l2 := HO.out.call hk1; clear HO hk1; have HO := Lib.hid l2; clear l2) | (go_at_call 63; refine (isSten_any _ _).mono ?_; rintro e w' ⟨rfl, rfl⟩))
  refine Rg.region (I := fun _ W => Ow w W [(w.heap.size, Sn.row fn ref rd wr f z p)]) (dem := fun _ => false) (m := 9) (g := 0) (T := fun listed bs a' => ∀ W, Ow w W [(w.heap.size, Sn.row fn ref rd wr f z p)] → wpAny Try.prog .any _ _ 0 listed a' W) (by kernel_rfl) HO.out.drew rfl (fun _ _ _ _ h hI => h _ hI) ?_
  refine Rg.take 0 (v := .agg #[.int .i64 fn, .int .i64 ref, .int .i64 rd, .int .i64 wr, .int .i64 f, .int .i64 z, .int .i64 p]) rfl rfl (by kernel_rfl) (by kernel_rfl) (by kernel_rfl) (by kernel_rfl) (by kernel_rfl) (.inl ⟨rfl, fun bs wq hI => ?_⟩) ?_
  · exact quiet_ldr ty_sten (.tmp 3) rfl rfl rfl (hI.at 0 rfl)
  simp only [Act.put, List.getElem_toArray, List.getElem_cons_zero, List.getElem_cons_succ, List.setIfInBounds_toArray, List.set_cons_zero, List.set_cons_succ]
  refine Rg.take 1 (v := .agg #[.int .i64 f, .int .i64 z, .int .i64 p]) rfl rfl (by kernel_rfl) (by kernel_rfl) (by kernel_rfl) (by kernel_rfl) (by kernel_rfl) (.inl ⟨rfl, fun bs wq hI => ?_⟩) ?_
  · (go_simp; exact (deedsOf_any fn ref rd wr f z p _).mono fun e w2 h => ⟨h.1, hI.call h.2⟩)
  simp only [Act.put, List.getElem_toArray, List.getElem_cons_zero, List.getElem_cons_succ, List.setIfInBounds_toArray, List.set_cons_zero, List.set_cons_succ]
  refine Rg.take 2 (v := .int .i64 (k : Int)) rfl rfl (by kernel_rfl) (by kernel_rfl) (by kernel_rfl) (by kernel_rfl) (by kernel_rfl) (.inl ⟨rfl, fun bs wq hI => ?_⟩) ?_
  · go_simp
  simp only [Act.put, List.getElem_toArray, List.getElem_cons_zero, List.getElem_cons_succ, List.setIfInBounds_toArray, List.set_cons_zero, List.set_cons_succ]
  refine Rg.take 3 (v := .int .i64 D) rfl rfl (by kernel_rfl) (by kernel_rfl) (by kernel_rfl) (by kernel_rfl) (by kernel_rfl) (.inl ⟨rfl, fun bs wq hI => ?_⟩) ?_
  · (have hx := HX.out wq; go_simp)
  simp only [Act.put, List.getElem_toArray, List.getElem_cons_zero, List.getElem_cons_succ, List.setIfInBounds_toArray, List.set_cons_zero, List.set_cons_succ]
  refine Rg.take 4 (v := .int .i64 old) rfl rfl (by kernel_rfl) (by kernel_rfl) (by kernel_rfl) (by kernel_rfl) (by kernel_rfl) (.inl ⟨rfl, fun bs wq hI => ?_⟩) ?_
  · go_simp
  simp only [Act.put, List.getElem_toArray, List.getElem_cons_zero, List.getElem_cons_succ, List.setIfInBounds_toArray, List.set_cons_zero, List.set_cons_succ]
  refine Rg.take 5 (v := .pointer (some ⟨w.heap.size, 1, none⟩)) rfl rfl (by kernel_rfl) (by kernel_rfl) (by kernel_rfl) (by kernel_rfl) (by kernel_rfl) (.inl ⟨rfl, fun bs wq hI => ?_⟩) ?_
  · go_simp
  simp only [Act.put, List.getElem_toArray, List.getElem_cons_zero, List.getElem_cons_succ, List.setIfInBounds_toArray, List.set_cons_zero, List.set_cons_succ]
  refine Rg.take 6 (v := .int .i64 ref) rfl rfl (by kernel_rfl) (by kernel_rfl) (by kernel_rfl) (by kernel_rfl) (by kernel_rfl) (.inl ⟨rfl, fun bs wq hI => ?_⟩) ?_
  · (have c := (hI.at 0 rfl).cell 1 rfl; go_simp)
  simp only [Act.put, List.getElem_toArray, List.getElem_cons_zero, List.getElem_cons_succ, List.setIfInBounds_toArray, List.set_cons_zero, List.set_cons_succ]
  refine Rg.take 7 (v := .int .i64 M) rfl rfl (by kernel_rfl) (by kernel_rfl) (by kernel_rfl) (by kernel_rfl) (by kernel_rfl) (.inl ⟨rfl, fun bs wq hI => ?_⟩) ?_
  · (go_simp; exact (HM.out _).mono fun e w2 h => ⟨h.1, h.2 ▸ hI⟩)
  simp only [Act.put, List.getElem_toArray, List.getElem_cons_zero, List.getElem_cons_succ, List.setIfInBounds_toArray, List.set_cons_zero, List.set_cons_succ]
  refine Rg.take 8 (v := .int .i64 M) rfl rfl (by kernel_rfl) (by kernel_rfl) (by kernel_rfl) (by kernel_rfl) (by kernel_rfl) (.inl ⟨rfl, fun bs wq hI => ?_⟩) ?_
  · go_simp
  simp only [Act.put, List.getElem_toArray, List.getElem_cons_zero, List.getElem_cons_succ, List.setIfInBounds_toArray, List.set_cons_zero, List.set_cons_succ]
  refine Rg.done (rs := []) (by kernel_rfl) (by decide) (fun W hI => ?_)
  have KK := Lib.hid hI.k
  have c3 := (hI.at 0 rfl).cell 3 rfl
  clear hI HO
  refine wpAny_done (by kernel_rfl) ?_ _
  go_wp2_with fail
  go_ret2
  exact ⟨by rw [HR.out]; rfl, KK.out⟩

set_option maxHeartbeats 1000000 in
theorem rtest_any (fn ref rd wr f z p old : Int) (w : World) (h : Sn.chk fn ref rd wr f z p = 0) (ho : Sn.is old = true) :
    Calls Try.prog 31 #[.agg #[.int .i64 fn, .int .i64 ref, .int .i64 rd, .int .i64 wr, .int .i64 f, .int .i64 z, .int .i64 p], .int .i64 old] w fun e w' => e = .returned (.bool (Dp.pass fn (Sn.and ref rd) (Sn.and old rd))) ∧ Kp w.heap.size w w' := by
  have HO := Lib.hid ((Ow.refl w).newAt w.heap.size rfl (.int .i64 fn) [.int .i64 ref, .int .i64 rd, .int .i64 wr, .int .i64 f, .int .i64 z, .int .i64 p] 33)
  obtain ⟨⟨h0, -, -, -⟩, s1, s2, s3⟩ := Sn.chk_ok h
  have A1 := fun W => rand_any ref rd W s1 s2
  have A2 := fun W => rand_any old rd W ho s2
  have A3 := fun W => rpasses_any fn (Sn.and ref rd) (Sn.and old rd) W h0
  have c0 := (HO.out.at 0 rfl).cell 0 rfl
  have c1 := (HO.out.at 0 rfl).cell 1 rfl
  have c2 := (HO.out.at 0 rfl).cell 2 rfl
  clear h ho h0 s1 s2 s3
  go_enter Try.func31, Try.ntmps31
  go_wp2_with fail
  go_quiet (first
    | (go_at_call 55; with_reducible exact Calls.quiet_of_same ((A1 _).mono fun _ _ h => ⟨h.1, h.2.symm⟩))
    | (go_at_call 55; with_reducible exact Calls.quiet_of_same ((A2 _).mono fun _ _ h => ⟨h.1, h.2.symm⟩))
    | (go_at_call 33; exact Calls.quiet_of_same ((A3 _).mono fun _ _ h => ⟨h.1, h.2.symm⟩)))
  go_wp2_with fail
  go_ret
  exact ⟨rfl, HO.out.k.drewN _⟩

set_option maxHeartbeats 1000000 in
theorem rput_any (fn ref rd wr f z p : Int) (k : Nat) (old : Int) (w : World) (h : Sn.chk fn ref rd wr f z p = 0) (hk : k < 3) (ho : Sn.is old = true) :
    Calls Try.prog 32 #[.agg #[.int .i64 fn, .int .i64 ref, .int .i64 rd, .int .i64 wr, .int .i64 f, .int .i64 z, .int .i64 p], .int .i64 k, .int .i64 old] w fun e w' => e = .returned (.int .i64 (Sn.put (Sn.deed f z p k) old ref wr)) ∧ Kp w.heap.size w w' := by
  have HO := Lib.hid ((Ow.refl w).newAt w.heap.size rfl (.int .i64 fn) [.int .i64 ref, .int .i64 rd, .int .i64 wr, .int .i64 f, .int .i64 z, .int .i64 p] 33)
  obtain ⟨⟨-, h1, h2, h3⟩, s1, -, s3⟩ := Sn.chk_ok h
  have c1 := (HO.out.at 0 rfl).cell 1 rfl
  have c3 := (HO.out.at 0 rfl).cell 3 rfl
  have c4 := (HO.out.at 0 rfl).cell 4 rfl
  have c5 := (HO.out.at 0 rfl).cell 5 rfl
  have c6 := (HO.out.at 0 rfl).cell 6 rfl
  obtain rfl | rfl | rfl : k = 0 ∨ k = 1 ∨ k = 2 := by omega
  · clear hk
    have M1 := fun W => rdeed_any f old ref W h1 ho s1
    have A1 := fun W => rand_any (Sn.made f old ref) wr W (Sn.made_is f ho s1) s3
    have A2 := fun W => rand_any old (255 - wr) W ho (Sn.not_is s3)
    have HP : Hid (Sn.put (Sn.deed f z p 0) old ref wr = Sn.and (Sn.made f old ref) wr + Sn.and old (255 - wr)) := Lib.hid rfl
    obtain ⟨q1, q2⟩ := Sn.is_iff.1 (Sn.and_is (Sn.made f old ref) s3)
    obtain ⟨q3, q4⟩ := Sn.is_iff.1 (Sn.and_is old (Sn.not_is s3))
    obtain ⟨q5, q6⟩ := Sn.is_iff.1 s3
    clear h ho h1 h2 h3 s1 s3
    go_enter Try.func32, Try.ntmps32
    go_wp2_with fail
    go_quiet (first
      | (go_at_call 56; exact Calls.quiet_of_same ((M1 _).mono fun _ _ h => ⟨h.1, h.2.symm⟩))
      | (go_at_call 55; with_reducible exact Calls.quiet_of_same ((A1 _).mono fun _ _ h => ⟨h.1, h.2.symm⟩))
      | (go_at_call 55; with_reducible exact Calls.quiet_of_same ((A2 _).mono fun _ _ h => ⟨h.1, h.2.symm⟩)))
    go_wp2_with fail
    go_ret
    exact ⟨ret_int HP.out.symm, HO.out.k.drewN _⟩
  · clear hk
    have M1 := fun W => rdeed_any z old ref W h2 ho s1
    have A1 := fun W => rand_any (Sn.made z old ref) wr W (Sn.made_is z ho s1) s3
    have A2 := fun W => rand_any old (255 - wr) W ho (Sn.not_is s3)
    have HP : Hid (Sn.put (Sn.deed f z p 1) old ref wr = Sn.and (Sn.made z old ref) wr + Sn.and old (255 - wr)) := Lib.hid rfl
    obtain ⟨q1, q2⟩ := Sn.is_iff.1 (Sn.and_is (Sn.made z old ref) s3)
    obtain ⟨q3, q4⟩ := Sn.is_iff.1 (Sn.and_is old (Sn.not_is s3))
    obtain ⟨q5, q6⟩ := Sn.is_iff.1 s3
    clear h ho h1 h2 h3 s1 s3
    go_enter Try.func32, Try.ntmps32
    go_wp2_with fail
    go_quiet (first
      | (go_at_call 56; exact Calls.quiet_of_same ((M1 _).mono fun _ _ h => ⟨h.1, h.2.symm⟩))
      | (go_at_call 55; with_reducible exact Calls.quiet_of_same ((A1 _).mono fun _ _ h => ⟨h.1, h.2.symm⟩))
      | (go_at_call 55; with_reducible exact Calls.quiet_of_same ((A2 _).mono fun _ _ h => ⟨h.1, h.2.symm⟩)))
    go_wp2_with fail
    go_ret
    exact ⟨ret_int HP.out.symm, HO.out.k.drewN _⟩
  · clear hk
    have M1 := fun W => rdeed_any p old ref W h3 ho s1
    have A1 := fun W => rand_any (Sn.made p old ref) wr W (Sn.made_is p ho s1) s3
    have A2 := fun W => rand_any old (255 - wr) W ho (Sn.not_is s3)
    have HP : Hid (Sn.put (Sn.deed f z p 2) old ref wr = Sn.and (Sn.made p old ref) wr + Sn.and old (255 - wr)) := Lib.hid rfl
    obtain ⟨q1, q2⟩ := Sn.is_iff.1 (Sn.and_is (Sn.made p old ref) s3)
    obtain ⟨q3, q4⟩ := Sn.is_iff.1 (Sn.and_is old (Sn.not_is s3))
    obtain ⟨q5, q6⟩ := Sn.is_iff.1 s3
    clear h ho h1 h2 h3 s1 s3
    go_enter Try.func32, Try.ntmps32
    go_wp2_with fail
    go_quiet (first
      | (go_at_call 56; exact Calls.quiet_of_same ((M1 _).mono fun _ _ h => ⟨h.1, h.2.symm⟩))
      | (go_at_call 55; with_reducible exact Calls.quiet_of_same ((A1 _).mono fun _ _ h => ⟨h.1, h.2.symm⟩))
      | (go_at_call 55; with_reducible exact Calls.quiet_of_same ((A2 _).mono fun _ _ h => ⟨h.1, h.2.symm⟩)))
    go_wp2_with fail
    go_ret
    exact ⟨ret_int HP.out.symm, HO.out.k.drewN _⟩

end Go.Proofs.Ytankjlpanmmogaa
