/-
  EdgeShared: its Go text returns true.
-/
import Derived.Test.YthchlpklofgbeaaEdgeLaw
import Derived.Test.YthchlpklofgbeaaEdgeRef
import Derived.Test.YthchlpklofgbeaaRegionAl
import Derived.BigGuard
namespace Go.Proofs.Ythchlpklofgbeaa
open Go.RowKit

/-- which of a region's sixteen operations make a variable, which write one -/
def mk4 (i : Nat) : Bool := decide (8 ≤ i) && decide (i < 12)
def pu4 (i : Nat) : Bool := decide (12 ≤ i)
def Uq (a1 a2 b1 b2 c1 c2 d1 d2 : Int) (j : Nat) : List Value := if j = 12 then [.int .i64 a1, .int .i64 a2] else if j = 13 then [.int .i64 b1, .int .i64 b2] else if j = 14 then [.int .i64 c1, .int .i64 c2] else [.int .i64 d1, .int .i64 d2]
theorem uq_ok (a1 a2 b1 b2 c1 c2 d1 d2 : Int) (j : Nat) (_ : pu4 j = true) : (Uq a1 a2 b1 b2 c1 c2 d1 d2 j).length = 2 ∧ (Uq a1 a2 b1 b2 c1 c2 d1 d2 j).all (·.oneCell') = true := by
  unfold Uq
  split
  · exact ⟨rfl, rfl⟩
  split
  · exact ⟨rfl, rfl⟩
  split
  · exact ⟨rfl, rfl⟩
  · exact ⟨rfl, rfl⟩
set_option linter.unusedSimpArgs false in
set_option maxRecDepth 100000 in
set_option maxHeartbeats 16000000 in
theorem shared_walk (a1 a2 b1 b2 c1 c2 d1 d2 x y : Int) (w : World) :
    Calls Try.prog 5 #[.agg #[.int .i64 a1, .int .i64 a2, .int .i64 b1, .int .i64 b2, .int .i64 c1, .int .i64 c2, .int .i64 d1, .int .i64 d2], .int .i64 x, .int .i64 y] w fun e w' => e = .returned (.bool true) ∧ Kp w.heap.size w w' := by
  have HO := Lib.hid ((Ow.refl w).newAt w.heap.size rfl (.int .i64 a1) [.int .i64 a2, .int .i64 b1, .int .i64 b2, .int .i64 c1, .int .i64 c2, .int .i64 d1, .int .i64 d2] 40)
  go_enter Try.func5, Try.ntmps5
  go_upto_region 1 with fail
  refine Rg3.region (I := Rg3.Ih 2 w [(w.heap.size, [.int .i64 a1, .int .i64 a2, .int .i64 b1, .int .i64 b2, .int .i64 c1, .int .i64 c2, .int .i64 d1, .int .i64 d2])]) (z := [.int .i64 0, .int .i64 0]) (r := fun j => j - 4) (u := Uq a1 a2 b1 b2 c1 c2 d1 d2) (ex := fun j b => Rg3.stS 23 (Uq a1 a2 b1 b2 c1 c2 d1 d2 j) b) (mkB := mk4) (puB := pu4) (T := fun listed s st => ∀ W, Rg3.Ih 2 w [(w.heap.size, [.int .i64 a1, .int .i64 a2, .int .i64 b1, .int .i64 b2, .int .i64 c1, .int .i64 c2, .int .i64 d1, .int .i64 d2])] s W → wpAny Try.prog .any _ _ 0 listed st W) (fun _ => none) (by kernel_rfl) (Rg3.makes 23 rfl (fun i o ho hm => ?_) alloc_point) (Rg3.puts ty_point (uq_ok _ _ _ _ _ _ _ _)) (Rg3.Ih.start HO.out.drew) (fun _ _ _ _ h hI => h _ hI) ?_
  · obtain rfl | rfl | rfl | rfl : i = 8 ∨ i = 9 ∨ i = 10 ∨ i = 11 := by simp [mk4] at hm; omega
    all_goals (obtain rfl := Option.some.inj ho; exact ⟨rfl, rfl⟩)
  clear HO
  refine Rg3.take 0 (v := .pointer (some ⟨w.heap.size, 0, none⟩)) rfl rfl rfl (by kernel_rfl) (by kernel_rfl) (by kernel_rfl) (.inl ⟨rfl, fun bs wq hI => ?_⟩) ?_
  · go_simp
  simp only [Act.put, List.getElem_toArray, List.getElem_cons_zero, List.getElem_cons_succ, List.setIfInBounds_toArray, List.set_cons_zero, List.set_cons_succ]
  refine Rg3.take 1 (v := .agg #[.int .i64 a1, .int .i64 a2]) rfl rfl rfl (by kernel_rfl) (by kernel_rfl) (by kernel_rfl) (.inl ⟨rfl, fun bs wq hI => ?_⟩) ?_
  · exact quiet_ldo (vs := [.int .i64 a1, .int .i64 a2, .int .i64 b1, .int .i64 b2, .int .i64 c1, .int .i64 c2, .int .i64 d1, .int .i64 d2]) (us := [.int .i64 a1, .int .i64 a2]) ty_point (.tmp 15) rfl rfl rfl rfl (hI.own.at 0 rfl)
  simp only [Act.put, List.getElem_toArray, List.getElem_cons_zero, List.getElem_cons_succ, List.setIfInBounds_toArray, List.set_cons_zero, List.set_cons_succ]
  refine Rg3.take 2 (v := .pointer (some ⟨w.heap.size, 2, none⟩)) rfl rfl rfl (by kernel_rfl) (by kernel_rfl) (by kernel_rfl) (.inl ⟨rfl, fun bs wq hI => ?_⟩) ?_
  · go_simp
  simp only [Act.put, List.getElem_toArray, List.getElem_cons_zero, List.getElem_cons_succ, List.setIfInBounds_toArray, List.set_cons_zero, List.set_cons_succ]
  refine Rg3.take 3 (v := .agg #[.int .i64 b1, .int .i64 b2]) rfl rfl rfl (by kernel_rfl) (by kernel_rfl) (by kernel_rfl) (.inl ⟨rfl, fun bs wq hI => ?_⟩) ?_
  · exact quiet_ldo (vs := [.int .i64 a1, .int .i64 a2, .int .i64 b1, .int .i64 b2, .int .i64 c1, .int .i64 c2, .int .i64 d1, .int .i64 d2]) (us := [.int .i64 b1, .int .i64 b2]) ty_point (.tmp 17) rfl rfl rfl rfl (hI.own.at 0 rfl)
  simp only [Act.put, List.getElem_toArray, List.getElem_cons_zero, List.getElem_cons_succ, List.setIfInBounds_toArray, List.set_cons_zero, List.set_cons_succ]
  refine Rg3.take 4 (v := .pointer (some ⟨w.heap.size, 4, none⟩)) rfl rfl rfl (by kernel_rfl) (by kernel_rfl) (by kernel_rfl) (.inl ⟨rfl, fun bs wq hI => ?_⟩) ?_
  · go_simp
  simp only [Act.put, List.getElem_toArray, List.getElem_cons_zero, List.getElem_cons_succ, List.setIfInBounds_toArray, List.set_cons_zero, List.set_cons_succ]
  refine Rg3.take 5 (v := .agg #[.int .i64 c1, .int .i64 c2]) rfl rfl rfl (by kernel_rfl) (by kernel_rfl) (by kernel_rfl) (.inl ⟨rfl, fun bs wq hI => ?_⟩) ?_
  · exact quiet_ldo (vs := [.int .i64 a1, .int .i64 a2, .int .i64 b1, .int .i64 b2, .int .i64 c1, .int .i64 c2, .int .i64 d1, .int .i64 d2]) (us := [.int .i64 c1, .int .i64 c2]) ty_point (.tmp 19) rfl rfl rfl rfl (hI.own.at 0 rfl)
  simp only [Act.put, List.getElem_toArray, List.getElem_cons_zero, List.getElem_cons_succ, List.setIfInBounds_toArray, List.set_cons_zero, List.set_cons_succ]
  refine Rg3.take 6 (v := .pointer (some ⟨w.heap.size, 6, none⟩)) rfl rfl rfl (by kernel_rfl) (by kernel_rfl) (by kernel_rfl) (.inl ⟨rfl, fun bs wq hI => ?_⟩) ?_
  · go_simp
  simp only [Act.put, List.getElem_toArray, List.getElem_cons_zero, List.getElem_cons_succ, List.setIfInBounds_toArray, List.set_cons_zero, List.set_cons_succ]
  refine Rg3.take 7 (v := .agg #[.int .i64 d1, .int .i64 d2]) rfl rfl rfl (by kernel_rfl) (by kernel_rfl) (by kernel_rfl) (.inl ⟨rfl, fun bs wq hI => ?_⟩) ?_
  · exact quiet_ldo (vs := [.int .i64 a1, .int .i64 a2, .int .i64 b1, .int .i64 b2, .int .i64 c1, .int .i64 c2, .int .i64 d1, .int .i64 d2]) (us := [.int .i64 d1, .int .i64 d2]) ty_point (.tmp 21) rfl rfl rfl rfl (hI.own.at 0 rfl)
  simp only [Act.put, List.getElem_toArray, List.getElem_cons_zero, List.getElem_cons_succ, List.setIfInBounds_toArray, List.set_cons_zero, List.set_cons_succ]
  refine Rg3.takeMake 8 rfl rfl (by kernel_rfl) (by kernel_rfl) (by kernel_rfl) (by kernel_rfl) (by kernel_rfl) (fun na => ?_)
  simp only [Act.put, List.getElem_toArray, List.getElem_cons_zero, List.getElem_cons_succ, List.setIfInBounds_toArray, List.set_cons_zero, List.set_cons_succ]
  refine Rg3.takeMake 9 rfl rfl (by kernel_rfl) (by kernel_rfl) (by kernel_rfl) (by kernel_rfl) (by kernel_rfl) (fun nb => ?_)
  simp only [Act.put, List.getElem_toArray, List.getElem_cons_zero, List.getElem_cons_succ, List.setIfInBounds_toArray, List.set_cons_zero, List.set_cons_succ]
  refine Rg3.takeMake 10 rfl rfl (by kernel_rfl) (by kernel_rfl) (by kernel_rfl) (by kernel_rfl) (by kernel_rfl) (fun nc => ?_)
  simp only [Act.put, List.getElem_toArray, List.getElem_cons_zero, List.getElem_cons_succ, List.setIfInBounds_toArray, List.set_cons_zero, List.set_cons_succ]
  refine Rg3.takeMake 11 rfl rfl (by kernel_rfl) (by kernel_rfl) (by kernel_rfl) (by kernel_rfl) (by kernel_rfl) (fun nd => ?_)
  simp only [Act.put, List.getElem_toArray, List.getElem_cons_zero, List.getElem_cons_succ, List.setIfInBounds_toArray, List.set_cons_zero, List.set_cons_succ]
  refine Rg3.put1 12 (by kernel_rfl) rfl rfl rfl ⟨rfl, na, _, rfl, rfl⟩ ?_
  simp only [Act.put, List.getElem_toArray, List.getElem_cons_zero, List.getElem_cons_succ, List.setIfInBounds_toArray, List.set_cons_zero, List.set_cons_succ]
  refine Rg3.put1 13 (by kernel_rfl) rfl rfl rfl ⟨rfl, nb, _, rfl, rfl⟩ ?_
  simp only [Act.put, List.getElem_toArray, List.getElem_cons_zero, List.getElem_cons_succ, List.setIfInBounds_toArray, List.set_cons_zero, List.set_cons_succ]
  refine Rg3.put1 14 (by kernel_rfl) rfl rfl rfl ⟨rfl, nc, _, rfl, rfl⟩ ?_
  simp only [Act.put, List.getElem_toArray, List.getElem_cons_zero, List.getElem_cons_succ, List.setIfInBounds_toArray, List.set_cons_zero, List.set_cons_succ]
  refine Rg3.put1 15 (by kernel_rfl) rfl rfl rfl ⟨rfl, nd, _, rfl, rfl⟩ ?_
  simp only [Act.put, List.getElem_toArray, List.getElem_cons_zero, List.getElem_cons_succ, List.setIfInBounds_toArray, List.set_cons_zero, List.set_cons_succ]
  refine ⟨by kernel_rfl, fun W hI => ?_⟩
  have hO : Ow w W [(na, [.int .i64 a1, .int .i64 a2]), (nb, [.int .i64 b1, .int .i64 b2]), (nc, [.int .i64 c1, .int .i64 c2]), (nd, [.int .i64 d1, .int .i64 d2]), (w.heap.size, [.int .i64 a1, .int .i64 a2, .int .i64 b1, .int .i64 b2, .int .i64 c1, .int .i64 c2, .int .i64 d1, .int .i64 d2])] := hI.out (by decide) [8, 9, 10, 11] [(na, [.int .i64 a1, .int .i64 a2]), (nb, [.int .i64 b1, .int .i64 b2]), (nc, [.int .i64 c1, .int .i64 c2]), (nd, [.int .i64 d1, .int .i64 d2])] (by decide) rfl
  obtain ⟨ms, hms⟩ : ∃ ms : List (Nat × List Value), ms = [(na, [.int .i64 a1, .int .i64 a2]), (nb, [.int .i64 b1, .int .i64 b2]), (nc, [.int .i64 c1, .int .i64 c2]), (nd, [.int .i64 d1, .int .i64 d2]), (w.heap.size, [.int .i64 a1, .int .i64 a2, .int .i64 b1, .int .i64 b2, .int .i64 c1, .int .i64 c2, .int .i64 d1, .int .i64 d2])] := ⟨_, rfl⟩
  have HA : Hid ((na, [.int .i64 a1, .int .i64 a2]) ∈ ms) := Lib.hid (by rw [hms]; simp)
  have HB_ : Hid ((nb, [.int .i64 b1, .int .i64 b2]) ∈ ms) := Lib.hid (by rw [hms]; simp)
  have HC : Hid ((nc, [.int .i64 c1, .int .i64 c2]) ∈ ms) := Lib.hid (by rw [hms]; simp)
  have HD : Hid ((nd, [.int .i64 d1, .int .i64 d2]) ∈ ms) := Lib.hid (by rw [hms]; simp)
  rw [← hms] at hO
  have HO := Lib.hid hO
  clear hO hI hms
  refine wpAny_done (by kernel_rfl) ?_ _
  cases ha : Eg.may a1 a2
  · skip
    go_wp2_with (first
        | go_big_skip
        | ((with_reducible show wpList _ _ _ ({ dst := _, op := Op.load 23 (Operand.tmp 7), type := _, pos := _, after := _, guard := _ } :: _) _ _); refine wpList_ldr ty_point rfl _ rfl _ rfl _ rfl (HO.out.mem HA.out) ?_)
        | (go_at_call 18; (with_reducible refine (rmay_any a1 a2 _).mono ?_); rintro e w1 ⟨rfl, hk1⟩; have l2 := HO.out.call hk1; clear HO hk1; have HO := Lib.hid l2; clear l2)
        | (go_at_call 9; refine (awake_any _).mono ?_; rintro e w1 ⟨rfl, hk1⟩; have l2 := HO.out.call hk1; clear HO hk1; have HO := Lib.hid l2; clear l2))
    go_ret
    exact ⟨rfl, HO.out.k⟩
  cases hb : Eg.may b1 b2
  · skip
    go_wp2_with (first
        | go_big_skip
        | ((with_reducible show wpList _ _ _ ({ dst := _, op := Op.load 23 (Operand.tmp 7), type := _, pos := _, after := _, guard := _ } :: _) _ _); refine wpList_ldr ty_point rfl _ rfl _ rfl _ rfl (HO.out.mem HA.out) ?_)
        | ((with_reducible show wpList _ _ _ ({ dst := _, op := Op.load 23 (Operand.tmp 8), type := _, pos := _, after := _, guard := _ } :: _) _ _); refine wpList_ldr ty_point rfl _ rfl _ rfl _ rfl (HO.out.mem HB_.out) ?_)
        | (go_at_call 18; (with_reducible refine (rmay_any a1 a2 _).mono ?_); rintro e w1 ⟨rfl, hk1⟩; have l2 := HO.out.call hk1; clear HO hk1; have HO := Lib.hid l2; clear l2)
        | (go_at_call 18; (with_reducible refine (rmay_any b1 b2 _).mono ?_); rintro e w1 ⟨rfl, hk1⟩; have l2 := HO.out.call hk1; clear HO hk1; have HO := Lib.hid l2; clear l2)
        | (go_at_call 9; refine (awake_any _).mono ?_; rintro e w1 ⟨rfl, hk1⟩; have l2 := HO.out.call hk1; clear HO hk1; have HO := Lib.hid l2; clear l2))
    go_ret
    exact ⟨rfl, HO.out.k⟩
  cases hc : Eg.may c1 c2
  · skip
    go_wp2_with (first
        | go_big_skip
        | ((with_reducible show wpList _ _ _ ({ dst := _, op := Op.load 23 (Operand.tmp 7), type := _, pos := _, after := _, guard := _ } :: _) _ _); refine wpList_ldr ty_point rfl _ rfl _ rfl _ rfl (HO.out.mem HA.out) ?_)
        | ((with_reducible show wpList _ _ _ ({ dst := _, op := Op.load 23 (Operand.tmp 8), type := _, pos := _, after := _, guard := _ } :: _) _ _); refine wpList_ldr ty_point rfl _ rfl _ rfl _ rfl (HO.out.mem HB_.out) ?_)
        | ((with_reducible show wpList _ _ _ ({ dst := _, op := Op.load 23 (Operand.tmp 9), type := _, pos := _, after := _, guard := _ } :: _) _ _); refine wpList_ldr ty_point rfl _ rfl _ rfl _ rfl (HO.out.mem HC.out) ?_)
        | (go_at_call 18; (with_reducible refine (rmay_any a1 a2 _).mono ?_); rintro e w1 ⟨rfl, hk1⟩; have l2 := HO.out.call hk1; clear HO hk1; have HO := Lib.hid l2; clear l2)
        | (go_at_call 18; (with_reducible refine (rmay_any b1 b2 _).mono ?_); rintro e w1 ⟨rfl, hk1⟩; have l2 := HO.out.call hk1; clear HO hk1; have HO := Lib.hid l2; clear l2)
        | (go_at_call 18; (with_reducible refine (rmay_any c1 c2 _).mono ?_); rintro e w1 ⟨rfl, hk1⟩; have l2 := HO.out.call hk1; clear HO hk1; have HO := Lib.hid l2; clear l2)
        | (go_at_call 9; refine (awake_any _).mono ?_; rintro e w1 ⟨rfl, hk1⟩; have l2 := HO.out.call hk1; clear HO hk1; have HO := Lib.hid l2; clear l2))
    go_ret
    exact ⟨rfl, HO.out.k⟩
  cases hd : Eg.may d1 d2
  · skip
    go_wp2_with (first
        | go_big_skip
        | ((with_reducible show wpList _ _ _ ({ dst := _, op := Op.load 23 (Operand.tmp 7), type := _, pos := _, after := _, guard := _ } :: _) _ _); refine wpList_ldr ty_point rfl _ rfl _ rfl _ rfl (HO.out.mem HA.out) ?_)
        | ((with_reducible show wpList _ _ _ ({ dst := _, op := Op.load 23 (Operand.tmp 8), type := _, pos := _, after := _, guard := _ } :: _) _ _); refine wpList_ldr ty_point rfl _ rfl _ rfl _ rfl (HO.out.mem HB_.out) ?_)
        | ((with_reducible show wpList _ _ _ ({ dst := _, op := Op.load 23 (Operand.tmp 9), type := _, pos := _, after := _, guard := _ } :: _) _ _); refine wpList_ldr ty_point rfl _ rfl _ rfl _ rfl (HO.out.mem HC.out) ?_)
        | ((with_reducible show wpList _ _ _ ({ dst := _, op := Op.load 23 (Operand.tmp 10), type := _, pos := _, after := _, guard := _ } :: _) _ _); refine wpList_ldr ty_point rfl _ rfl _ rfl _ rfl (HO.out.mem HD.out) ?_)
        | (go_at_call 18; (with_reducible refine (rmay_any a1 a2 _).mono ?_); rintro e w1 ⟨rfl, hk1⟩; have l2 := HO.out.call hk1; clear HO hk1; have HO := Lib.hid l2; clear l2)
        | (go_at_call 18; (with_reducible refine (rmay_any b1 b2 _).mono ?_); rintro e w1 ⟨rfl, hk1⟩; have l2 := HO.out.call hk1; clear HO hk1; have HO := Lib.hid l2; clear l2)
        | (go_at_call 18; (with_reducible refine (rmay_any c1 c2 _).mono ?_); rintro e w1 ⟨rfl, hk1⟩; have l2 := HO.out.call hk1; clear HO hk1; have HO := Lib.hid l2; clear l2)
        | (go_at_call 18; (with_reducible refine (rmay_any d1 d2 _).mono ?_); rintro e w1 ⟨rfl, hk1⟩; have l2 := HO.out.call hk1; clear HO hk1; have HO := Lib.hid l2; clear l2)
        | (go_at_call 9; refine (awake_any _).mono ?_; rintro e w1 ⟨rfl, hk1⟩; have l2 := HO.out.call hk1; clear HO hk1; have HO := Lib.hid l2; clear l2))
    go_ret
    exact ⟨rfl, HO.out.k⟩
  cases hf : Eg.fits x y
  · skip
    go_wp2_with (first
        | go_big_skip
        | ((with_reducible show wpList _ _ _ ({ dst := _, op := Op.load 23 (Operand.tmp 7), type := _, pos := _, after := _, guard := _ } :: _) _ _); refine wpList_ldr ty_point rfl _ rfl _ rfl _ rfl (HO.out.mem HA.out) ?_)
        | ((with_reducible show wpList _ _ _ ({ dst := _, op := Op.load 23 (Operand.tmp 8), type := _, pos := _, after := _, guard := _ } :: _) _ _); refine wpList_ldr ty_point rfl _ rfl _ rfl _ rfl (HO.out.mem HB_.out) ?_)
        | ((with_reducible show wpList _ _ _ ({ dst := _, op := Op.load 23 (Operand.tmp 9), type := _, pos := _, after := _, guard := _ } :: _) _ _); refine wpList_ldr ty_point rfl _ rfl _ rfl _ rfl (HO.out.mem HC.out) ?_)
        | ((with_reducible show wpList _ _ _ ({ dst := _, op := Op.load 23 (Operand.tmp 10), type := _, pos := _, after := _, guard := _ } :: _) _ _); refine wpList_ldr ty_point rfl _ rfl _ rfl _ rfl (HO.out.mem HD.out) ?_)
        | (go_at_call 18; (with_reducible refine (rmay_any a1 a2 _).mono ?_); rintro e w1 ⟨rfl, hk1⟩; have l2 := HO.out.call hk1; clear HO hk1; have HO := Lib.hid l2; clear l2)
        | (go_at_call 18; (with_reducible refine (rmay_any b1 b2 _).mono ?_); rintro e w1 ⟨rfl, hk1⟩; have l2 := HO.out.call hk1; clear HO hk1; have HO := Lib.hid l2; clear l2)
        | (go_at_call 18; (with_reducible refine (rmay_any c1 c2 _).mono ?_); rintro e w1 ⟨rfl, hk1⟩; have l2 := HO.out.call hk1; clear HO hk1; have HO := Lib.hid l2; clear l2)
        | (go_at_call 18; (with_reducible refine (rmay_any d1 d2 _).mono ?_); rintro e w1 ⟨rfl, hk1⟩; have l2 := HO.out.call hk1; clear HO hk1; have HO := Lib.hid l2; clear l2)
        | (go_at_call 15; refine (rfits_any x y _).mono ?_; rintro e w' ⟨rfl, rfl⟩)
        | (go_at_call 9; refine (awake_any _).mono ?_; rintro e w1 ⟨rfl, hk1⟩; have l2 := HO.out.call hk1; clear HO hk1; have HO := Lib.hid l2; clear l2))
    go_ret
    exact ⟨rfl, HO.out.k⟩
  have Rabc := fun W => rside_any a1 a2 b1 b2 c1 c2 W ha hb hc
  cases gabc : decide (Eg.side a1 a2 b1 b2 c1 c2 ≤ 0)
  rotate_left
  · skip
    go_wp2_with (first
        | go_big_skip
        | ((with_reducible show wpList _ _ _ ({ dst := _, op := Op.load 23 (Operand.tmp 7), type := _, pos := _, after := _, guard := _ } :: _) _ _); refine wpList_ldr ty_point rfl _ rfl _ rfl _ rfl (HO.out.mem HA.out) ?_)
        | ((with_reducible show wpList _ _ _ ({ dst := _, op := Op.load 23 (Operand.tmp 8), type := _, pos := _, after := _, guard := _ } :: _) _ _); refine wpList_ldr ty_point rfl _ rfl _ rfl _ rfl (HO.out.mem HB_.out) ?_)
        | ((with_reducible show wpList _ _ _ ({ dst := _, op := Op.load 23 (Operand.tmp 9), type := _, pos := _, after := _, guard := _ } :: _) _ _); refine wpList_ldr ty_point rfl _ rfl _ rfl _ rfl (HO.out.mem HC.out) ?_)
        | ((with_reducible show wpList _ _ _ ({ dst := _, op := Op.load 23 (Operand.tmp 10), type := _, pos := _, after := _, guard := _ } :: _) _ _); refine wpList_ldr ty_point rfl _ rfl _ rfl _ rfl (HO.out.mem HD.out) ?_)
        | (go_at_call 18; (with_reducible refine (rmay_any a1 a2 _).mono ?_); rintro e w1 ⟨rfl, hk1⟩; have l2 := HO.out.call hk1; clear HO hk1; have HO := Lib.hid l2; clear l2)
        | (go_at_call 18; (with_reducible refine (rmay_any b1 b2 _).mono ?_); rintro e w1 ⟨rfl, hk1⟩; have l2 := HO.out.call hk1; clear HO hk1; have HO := Lib.hid l2; clear l2)
        | (go_at_call 18; (with_reducible refine (rmay_any c1 c2 _).mono ?_); rintro e w1 ⟨rfl, hk1⟩; have l2 := HO.out.call hk1; clear HO hk1; have HO := Lib.hid l2; clear l2)
        | (go_at_call 18; (with_reducible refine (rmay_any d1 d2 _).mono ?_); rintro e w1 ⟨rfl, hk1⟩; have l2 := HO.out.call hk1; clear HO hk1; have HO := Lib.hid l2; clear l2)
        | (go_at_call 15; refine (rfits_any x y _).mono ?_; rintro e w' ⟨rfl, rfl⟩)
        | (go_at_call 12; (with_reducible refine (Rabc _).mono ?_); rintro e w1 ⟨rfl, hk1⟩; have l2 := HO.out.call hk1; clear HO hk1; have HO := Lib.hid l2; clear l2)
        | (go_at_call 9; refine (awake_any _).mono ?_; rintro e w1 ⟨rfl, hk1⟩; have l2 := HO.out.call hk1; clear HO hk1; have HO := Lib.hid l2; clear l2))
    go_ret
    exact ⟨rfl, HO.out.k⟩
  have Rbad := fun W => rside_any b1 b2 a1 a2 d1 d2 W hb ha hd
  cases gbad : decide (Eg.side b1 b2 a1 a2 d1 d2 ≤ 0)
  rotate_left
  · skip
    go_wp2_with (first
        | go_big_skip
        | ((with_reducible show wpList _ _ _ ({ dst := _, op := Op.load 23 (Operand.tmp 7), type := _, pos := _, after := _, guard := _ } :: _) _ _); refine wpList_ldr ty_point rfl _ rfl _ rfl _ rfl (HO.out.mem HA.out) ?_)
        | ((with_reducible show wpList _ _ _ ({ dst := _, op := Op.load 23 (Operand.tmp 8), type := _, pos := _, after := _, guard := _ } :: _) _ _); refine wpList_ldr ty_point rfl _ rfl _ rfl _ rfl (HO.out.mem HB_.out) ?_)
        | ((with_reducible show wpList _ _ _ ({ dst := _, op := Op.load 23 (Operand.tmp 9), type := _, pos := _, after := _, guard := _ } :: _) _ _); refine wpList_ldr ty_point rfl _ rfl _ rfl _ rfl (HO.out.mem HC.out) ?_)
        | ((with_reducible show wpList _ _ _ ({ dst := _, op := Op.load 23 (Operand.tmp 10), type := _, pos := _, after := _, guard := _ } :: _) _ _); refine wpList_ldr ty_point rfl _ rfl _ rfl _ rfl (HO.out.mem HD.out) ?_)
        | (go_at_call 18; (with_reducible refine (rmay_any a1 a2 _).mono ?_); rintro e w1 ⟨rfl, hk1⟩; have l2 := HO.out.call hk1; clear HO hk1; have HO := Lib.hid l2; clear l2)
        | (go_at_call 18; (with_reducible refine (rmay_any b1 b2 _).mono ?_); rintro e w1 ⟨rfl, hk1⟩; have l2 := HO.out.call hk1; clear HO hk1; have HO := Lib.hid l2; clear l2)
        | (go_at_call 18; (with_reducible refine (rmay_any c1 c2 _).mono ?_); rintro e w1 ⟨rfl, hk1⟩; have l2 := HO.out.call hk1; clear HO hk1; have HO := Lib.hid l2; clear l2)
        | (go_at_call 18; (with_reducible refine (rmay_any d1 d2 _).mono ?_); rintro e w1 ⟨rfl, hk1⟩; have l2 := HO.out.call hk1; clear HO hk1; have HO := Lib.hid l2; clear l2)
        | (go_at_call 15; refine (rfits_any x y _).mono ?_; rintro e w' ⟨rfl, rfl⟩)
        | (go_at_call 12; (with_reducible refine (Rabc _).mono ?_); rintro e w1 ⟨rfl, hk1⟩; have l2 := HO.out.call hk1; clear HO hk1; have HO := Lib.hid l2; clear l2)
        | (go_at_call 12; (with_reducible refine (Rbad _).mono ?_); rintro e w1 ⟨rfl, hk1⟩; have l2 := HO.out.call hk1; clear HO hk1; have HO := Lib.hid l2; clear l2)
        | (go_at_call 9; refine (awake_any _).mono ?_; rintro e w1 ⟨rfl, hk1⟩; have l2 := HO.out.call hk1; clear HO hk1; have HO := Lib.hid l2; clear l2))
    go_ret
    exact ⟨rfl, HO.out.k⟩
  have z1 : 0 < Eg.side a1 a2 b1 b2 c1 c2 := by simpa using gabc
  have z2 : 0 < Eg.side b1 b2 a1 a2 d1 d2 := by simpa using gbad
  have N1 := fun W => lhas_any a1 a2 b1 b2 c1 c2 x y W ha hb hc hf
  have N2 := fun W => lhas_any b1 b2 a1 a2 d1 d2 x y W hb ha hd hf
  have HS := Lib.hid (Eg.shared (c1 := c1) (c2 := c2) (d1 := d1) (d2 := d2) (q1 := 16 * x + 8) (q2 := 16 * y + 8) ha hb)
  have HB := Lib.hid (fun h0 g1 g2 g3 g4 => Eg.between (q1 := 16 * x + 8) (q2 := 16 * y + 8) z1 z2 h0 g1 g2 g3 g4)
  have L1 := Eg.n_le (Eg.has a1 a2 b1 b2 c1 c2 (16 * x + 8) (16 * y + 8))
  have L2 := Eg.n_le (Eg.has b1 b2 a1 a2 d1 d2 (16 * x + 8) (16 * y + 8))
  have hm : Eg.may (16 * x + 8) (16 * y + 8) = true := by rw [Eg.middle_may]; exact hf
  have M1 := fun W => rmiddle_any x y W hf
  have Rabm := fun W => rside_any a1 a2 b1 b2 (16 * x + 8) (16 * y + 8) W ha hb hm
  have Rbcm := fun W => rside_any b1 b2 c1 c2 (16 * x + 8) (16 * y + 8) W hb hc hm
  have Rcam := fun W => rside_any c1 c2 a1 a2 (16 * x + 8) (16 * y + 8) W hc ha hm
  have Radm := fun W => rside_any a1 a2 d1 d2 (16 * x + 8) (16 * y + 8) W ha hd hm
  have Rdbm := fun W => rside_any d1 d2 b1 b2 (16 * x + 8) (16 * y + 8) W hd hb hm
  clear z1 z2 hm
  generalize Eg.n (Eg.has a1 a2 b1 b2 c1 c2 (16 * x + 8) (16 * y + 8)) = n1 at *
  generalize Eg.n (Eg.has b1 b2 a1 a2 d1 d2 (16 * x + 8) (16 * y + 8)) = n2 at *
  generalize Eg.side a1 a2 b1 b2 (16 * x + 8) (16 * y + 8) = sabm at *
  generalize Eg.side b1 b2 c1 c2 (16 * x + 8) (16 * y + 8) = sbcm at *
  generalize Eg.side c1 c2 a1 a2 (16 * x + 8) (16 * y + 8) = scam at *
  generalize Eg.side a1 a2 d1 d2 (16 * x + 8) (16 * y + 8) = sadm at *
  generalize Eg.side d1 d2 b1 b2 (16 * x + 8) (16 * y + 8) = sdbm at *
  obtain ⟨l1, l2⟩ := L1
  obtain ⟨l3, l4⟩ := L2
  have d1_ : decide (1 < n1) = false := decide_eq_false (by omega)
  have d2_ : decide (1 < n2) = false := decide_eq_false (by omega)
  have d3_ : decide (1 < n1 + n2) = false := decide_eq_false (by have := HS.out; omega)
  generalize 16 * x + 8 = mx at *
  generalize 16 * y + 8 = my at *
  clear HS
  go_upto_region 4 with (first
      | go_big_skip
      | ((with_reducible show wpList _ _ _ ({ dst := _, op := Op.load 23 (Operand.tmp 7), type := _, pos := _, after := _, guard := _ } :: _) _ _); refine wpList_ldr ty_point rfl _ rfl _ rfl _ rfl (HO.out.mem HA.out) ?_)
      | ((with_reducible show wpList _ _ _ ({ dst := _, op := Op.load 23 (Operand.tmp 8), type := _, pos := _, after := _, guard := _ } :: _) _ _); refine wpList_ldr ty_point rfl _ rfl _ rfl _ rfl (HO.out.mem HB_.out) ?_)
      | ((with_reducible show wpList _ _ _ ({ dst := _, op := Op.load 23 (Operand.tmp 9), type := _, pos := _, after := _, guard := _ } :: _) _ _); refine wpList_ldr ty_point rfl _ rfl _ rfl _ rfl (HO.out.mem HC.out) ?_)
      | ((with_reducible show wpList _ _ _ ({ dst := _, op := Op.load 23 (Operand.tmp 10), type := _, pos := _, after := _, guard := _ } :: _) _ _); refine wpList_ldr ty_point rfl _ rfl _ rfl _ rfl (HO.out.mem HD.out) ?_)
      | (go_at_call 18; (with_reducible refine (rmay_any a1 a2 _).mono ?_); rintro e w1 ⟨rfl, hk1⟩; have l2 := HO.out.call hk1; clear HO hk1; have HO := Lib.hid l2; clear l2)
      | (go_at_call 18; (with_reducible refine (rmay_any b1 b2 _).mono ?_); rintro e w1 ⟨rfl, hk1⟩; have l2 := HO.out.call hk1; clear HO hk1; have HO := Lib.hid l2; clear l2)
      | (go_at_call 18; (with_reducible refine (rmay_any c1 c2 _).mono ?_); rintro e w1 ⟨rfl, hk1⟩; have l2 := HO.out.call hk1; clear HO hk1; have HO := Lib.hid l2; clear l2)
      | (go_at_call 18; (with_reducible refine (rmay_any d1 d2 _).mono ?_); rintro e w1 ⟨rfl, hk1⟩; have l2 := HO.out.call hk1; clear HO hk1; have HO := Lib.hid l2; clear l2)
      | (go_at_call 15; refine (rfits_any x y _).mono ?_; rintro e w' ⟨rfl, rfl⟩)
      | (go_at_call 12; (with_reducible refine (Rabc _).mono ?_); rintro e w1 ⟨rfl, hk1⟩; have l2 := HO.out.call hk1; clear HO hk1; have HO := Lib.hid l2; clear l2)
      | (go_at_call 12; (with_reducible refine (Rbad _).mono ?_); rintro e w1 ⟨rfl, hk1⟩; have l2 := HO.out.call hk1; clear HO hk1; have HO := Lib.hid l2; clear l2))
  refine Rg.region (I := fun _ W => Ow w W ms) (dem := fun _ => false) (m := 14) (g := 0) (T := fun listed bs st => ∀ W, Ow w W ms → wpAny Try.prog .any _ _ 0 listed st W) (by kernel_rfl) HO.out.drew rfl (fun _ _ _ _ h hI => h _ hI) ?_
  clear HO
  refine Rg.take 0 (v := .agg #[.int .i64 a1, .int .i64 a2]) rfl rfl (by kernel_rfl) (by kernel_rfl) (by kernel_rfl) (by kernel_rfl) (by kernel_rfl) (.inl ⟨rfl, fun bs wq hI => ?_⟩) ?_
  · exact quiet_ldr ty_point (.tmp 7) rfl rfl rfl (hI.mem HA.out)
  simp only [Act.put, List.getElem_toArray, List.getElem_cons_zero, List.getElem_cons_succ, List.setIfInBounds_toArray, List.set_cons_zero, List.set_cons_succ]
  refine Rg.take 1 (v := .agg #[.int .i64 b1, .int .i64 b2]) rfl rfl (by kernel_rfl) (by kernel_rfl) (by kernel_rfl) (by kernel_rfl) (by kernel_rfl) (.inl ⟨rfl, fun bs wq hI => ?_⟩) ?_
  · exact quiet_ldr ty_point (.tmp 8) rfl rfl rfl (hI.mem HB_.out)
  simp only [Act.put, List.getElem_toArray, List.getElem_cons_zero, List.getElem_cons_succ, List.setIfInBounds_toArray, List.set_cons_zero, List.set_cons_succ]
  refine Rg.take 2 (v := .agg #[.int .i64 c1, .int .i64 c2]) rfl rfl (by kernel_rfl) (by kernel_rfl) (by kernel_rfl) (by kernel_rfl) (by kernel_rfl) (.inl ⟨rfl, fun bs wq hI => ?_⟩) ?_
  · exact quiet_ldr ty_point (.tmp 9) rfl rfl rfl (hI.mem HC.out)
  simp only [Act.put, List.getElem_toArray, List.getElem_cons_zero, List.getElem_cons_succ, List.setIfInBounds_toArray, List.set_cons_zero, List.set_cons_succ]
  refine Rg.take 3 (v := .int .i64 x) rfl rfl (by kernel_rfl) (by kernel_rfl) (by kernel_rfl) (by kernel_rfl) (by kernel_rfl) (.inl ⟨rfl, fun bs wq hI => ?_⟩) ?_
  · go_simp
  simp only [Act.put, List.getElem_toArray, List.getElem_cons_zero, List.getElem_cons_succ, List.setIfInBounds_toArray, List.set_cons_zero, List.set_cons_succ]
  refine Rg.take 4 (v := .int .i64 y) rfl rfl (by kernel_rfl) (by kernel_rfl) (by kernel_rfl) (by kernel_rfl) (by kernel_rfl) (.inl ⟨rfl, fun bs wq hI => ?_⟩) ?_
  · go_simp
  simp only [Act.put, List.getElem_toArray, List.getElem_cons_zero, List.getElem_cons_succ, List.setIfInBounds_toArray, List.set_cons_zero, List.set_cons_succ]
  refine Rg.take 5 (v := .int .i64 n1) rfl rfl (by kernel_rfl) (by kernel_rfl) (by kernel_rfl) (by kernel_rfl) (by kernel_rfl) (.inl ⟨rfl, fun bs wq hI => ?_⟩) ?_
  · (go_simp; exact (N1 _).mono fun e w2 h => ⟨h.1, hI.call h.2⟩)
  simp only [Act.put, List.getElem_toArray, List.getElem_cons_zero, List.getElem_cons_succ, List.setIfInBounds_toArray, List.set_cons_zero, List.set_cons_succ]
  refine Rg.take 6 (v := .agg #[.int .i64 b1, .int .i64 b2]) rfl rfl (by kernel_rfl) (by kernel_rfl) (by kernel_rfl) (by kernel_rfl) (by kernel_rfl) (.inl ⟨rfl, fun bs wq hI => ?_⟩) ?_
  · exact quiet_ldr ty_point (.tmp 8) rfl rfl rfl (hI.mem HB_.out)
  simp only [Act.put, List.getElem_toArray, List.getElem_cons_zero, List.getElem_cons_succ, List.setIfInBounds_toArray, List.set_cons_zero, List.set_cons_succ]
  refine Rg.take 7 (v := .agg #[.int .i64 a1, .int .i64 a2]) rfl rfl (by kernel_rfl) (by kernel_rfl) (by kernel_rfl) (by kernel_rfl) (by kernel_rfl) (.inl ⟨rfl, fun bs wq hI => ?_⟩) ?_
  · exact quiet_ldr ty_point (.tmp 7) rfl rfl rfl (hI.mem HA.out)
  simp only [Act.put, List.getElem_toArray, List.getElem_cons_zero, List.getElem_cons_succ, List.setIfInBounds_toArray, List.set_cons_zero, List.set_cons_succ]
  refine Rg.take 8 (v := .agg #[.int .i64 d1, .int .i64 d2]) rfl rfl (by kernel_rfl) (by kernel_rfl) (by kernel_rfl) (by kernel_rfl) (by kernel_rfl) (.inl ⟨rfl, fun bs wq hI => ?_⟩) ?_
  · exact quiet_ldr ty_point (.tmp 10) rfl rfl rfl (hI.mem HD.out)
  simp only [Act.put, List.getElem_toArray, List.getElem_cons_zero, List.getElem_cons_succ, List.setIfInBounds_toArray, List.set_cons_zero, List.set_cons_succ]
  refine Rg.take 9 (v := .int .i64 x) rfl rfl (by kernel_rfl) (by kernel_rfl) (by kernel_rfl) (by kernel_rfl) (by kernel_rfl) (.inl ⟨rfl, fun bs wq hI => ?_⟩) ?_
  · go_simp
  simp only [Act.put, List.getElem_toArray, List.getElem_cons_zero, List.getElem_cons_succ, List.setIfInBounds_toArray, List.set_cons_zero, List.set_cons_succ]
  refine Rg.take 10 (v := .int .i64 y) rfl rfl (by kernel_rfl) (by kernel_rfl) (by kernel_rfl) (by kernel_rfl) (by kernel_rfl) (.inl ⟨rfl, fun bs wq hI => ?_⟩) ?_
  · go_simp
  simp only [Act.put, List.getElem_toArray, List.getElem_cons_zero, List.getElem_cons_succ, List.setIfInBounds_toArray, List.set_cons_zero, List.set_cons_succ]
  refine Rg.take 11 (v := .int .i64 n2) rfl rfl (by kernel_rfl) (by kernel_rfl) (by kernel_rfl) (by kernel_rfl) (by kernel_rfl) (.inl ⟨rfl, fun bs wq hI => ?_⟩) ?_
  · (go_simp; exact (N2 _).mono fun e w2 h => ⟨h.1, hI.call h.2⟩)
  simp only [Act.put, List.getElem_toArray, List.getElem_cons_zero, List.getElem_cons_succ, List.setIfInBounds_toArray, List.set_cons_zero, List.set_cons_succ]
  refine Rg.take 12 (v := .int .i64 n1) rfl rfl (by kernel_rfl) (by kernel_rfl) (by kernel_rfl) (by kernel_rfl) (by kernel_rfl) (.inl ⟨rfl, fun bs wq hI => ?_⟩) ?_
  · go_simp
  simp only [Act.put, List.getElem_toArray, List.getElem_cons_zero, List.getElem_cons_succ, List.setIfInBounds_toArray, List.set_cons_zero, List.set_cons_succ]
  refine Rg.take 13 (v := .int .i64 n2) rfl rfl (by kernel_rfl) (by kernel_rfl) (by kernel_rfl) (by kernel_rfl) (by kernel_rfl) (.inl ⟨rfl, fun bs wq hI => ?_⟩) ?_
  · go_simp
  simp only [Act.put, List.getElem_toArray, List.getElem_cons_zero, List.getElem_cons_succ, List.setIfInBounds_toArray, List.set_cons_zero, List.set_cons_succ]
  refine Rg.done (rs := []) (by kernel_rfl) (by decide) (fun W hI => ?_)
  have HO := Lib.hid hI
  clear hI
  refine wpAny_done (by kernel_rfl) ?_ _
  go_upto_region 8 with (first
      | go_big_skip
      | (go_at_call 16; refine (M1 _).mono ?_; rintro e w1 ⟨rfl, hk1⟩; have l2 := (HO.out.call hk1).newAt w1.heap.size rfl (.int .i64 mx) [.int .i64 my] 23; clear HO hk1; have HO := Lib.hid l2; clear l2))
  have HM : Hid ((w1.heap.size, [.int .i64 mx, .int .i64 my]) ∈ ((w1.heap.size, [.int .i64 mx, .int .i64 my]) :: ms)) := Lib.hid (by simp)
  have hI0 := HO.out
  obtain ⟨ns, hns⟩ : ∃ ns : List (Nat × List Value), ns = ((w1.heap.size, [.int .i64 mx, .int .i64 my]) :: ms) := ⟨_, rfl⟩
  rw [← hns] at HM hI0
  have HA2 : Hid ((na, [.int .i64 a1, .int .i64 a2]) ∈ ns) := Lib.hid (by rw [hns]; exact List.mem_cons_of_mem _ HA.out)
  have HB2 : Hid ((nb, [.int .i64 b1, .int .i64 b2]) ∈ ns) := Lib.hid (by rw [hns]; exact List.mem_cons_of_mem _ HB_.out)
  have HC2 : Hid ((nc, [.int .i64 c1, .int .i64 c2]) ∈ ns) := Lib.hid (by rw [hns]; exact List.mem_cons_of_mem _ HC.out)
  have HD2 : Hid ((nd, [.int .i64 d1, .int .i64 d2]) ∈ ns) := Lib.hid (by rw [hns]; exact List.mem_cons_of_mem _ HD.out)
  clear HO hns
  have HO := Lib.hid hI0
  clear hI0
  cases k0 : (sabm == 0)
  · skip
    go_wp2_with (first
        | go_big_skip
        | ((with_reducible show wpList _ _ _ ({ dst := _, op := Op.load 23 (Operand.tmp 7), type := _, pos := _, after := _, guard := _ } :: _) _ _); refine wpList_ldr ty_point rfl _ rfl _ rfl _ rfl (HO.out.mem HA2.out) ?_)
        | ((with_reducible show wpList _ _ _ ({ dst := _, op := Op.load 23 (Operand.tmp 8), type := _, pos := _, after := _, guard := _ } :: _) _ _); refine wpList_ldr ty_point rfl _ rfl _ rfl _ rfl (HO.out.mem HB2.out) ?_)
        | ((with_reducible show wpList _ _ _ ({ dst := _, op := Op.load 23 (Operand.tmp 9), type := _, pos := _, after := _, guard := _ } :: _) _ _); refine wpList_ldr ty_point rfl _ rfl _ rfl _ rfl (HO.out.mem HC2.out) ?_)
        | ((with_reducible show wpList _ _ _ ({ dst := _, op := Op.load 23 (Operand.tmp 10), type := _, pos := _, after := _, guard := _ } :: _) _ _); refine wpList_ldr ty_point rfl _ rfl _ rfl _ rfl (HO.out.mem HD2.out) ?_)
        | ((with_reducible show wpList _ _ _ ({ dst := _, op := Op.load 23 (Operand.tmp 13), type := _, pos := _, after := _, guard := _ } :: _) _ _); refine wpList_ldr ty_point rfl _ rfl _ rfl _ rfl (HO.out.mem HM.out) ?_)
        | (go_at_call 12; (with_reducible refine (Rabm _).mono ?_); rintro e w1 ⟨rfl, hk1⟩; have l2 := HO.out.call hk1; clear HO hk1; have HO := Lib.hid l2; clear l2)
        | (go_at_call 9; refine (awake_any _).mono ?_; rintro e w1 ⟨rfl, hk1⟩; have l2 := HO.out.call hk1; clear HO hk1; have HO := Lib.hid l2; clear l2))
    go_ret
    exact ⟨rfl, HO.out.k⟩
  cases k1 : decide (0 < sbcm)
  · skip
    go_wp2_with (first
        | go_big_skip
        | ((with_reducible show wpList _ _ _ ({ dst := _, op := Op.load 23 (Operand.tmp 7), type := _, pos := _, after := _, guard := _ } :: _) _ _); refine wpList_ldr ty_point rfl _ rfl _ rfl _ rfl (HO.out.mem HA2.out) ?_)
        | ((with_reducible show wpList _ _ _ ({ dst := _, op := Op.load 23 (Operand.tmp 8), type := _, pos := _, after := _, guard := _ } :: _) _ _); refine wpList_ldr ty_point rfl _ rfl _ rfl _ rfl (HO.out.mem HB2.out) ?_)
        | ((with_reducible show wpList _ _ _ ({ dst := _, op := Op.load 23 (Operand.tmp 9), type := _, pos := _, after := _, guard := _ } :: _) _ _); refine wpList_ldr ty_point rfl _ rfl _ rfl _ rfl (HO.out.mem HC2.out) ?_)
        | ((with_reducible show wpList _ _ _ ({ dst := _, op := Op.load 23 (Operand.tmp 10), type := _, pos := _, after := _, guard := _ } :: _) _ _); refine wpList_ldr ty_point rfl _ rfl _ rfl _ rfl (HO.out.mem HD2.out) ?_)
        | ((with_reducible show wpList _ _ _ ({ dst := _, op := Op.load 23 (Operand.tmp 13), type := _, pos := _, after := _, guard := _ } :: _) _ _); refine wpList_ldr ty_point rfl _ rfl _ rfl _ rfl (HO.out.mem HM.out) ?_)
        | (go_at_call 12; (with_reducible refine (Rabm _).mono ?_); rintro e w1 ⟨rfl, hk1⟩; have l2 := HO.out.call hk1; clear HO hk1; have HO := Lib.hid l2; clear l2)
        | (go_at_call 12; (with_reducible refine (Rbcm _).mono ?_); rintro e w1 ⟨rfl, hk1⟩; have l2 := HO.out.call hk1; clear HO hk1; have HO := Lib.hid l2; clear l2)
        | (go_at_call 9; refine (awake_any _).mono ?_; rintro e w1 ⟨rfl, hk1⟩; have l2 := HO.out.call hk1; clear HO hk1; have HO := Lib.hid l2; clear l2))
    go_ret
    exact ⟨rfl, HO.out.k⟩
  cases k2 : decide (0 < scam)
  · skip
    go_wp2_with (first
        | go_big_skip
        | ((with_reducible show wpList _ _ _ ({ dst := _, op := Op.load 23 (Operand.tmp 7), type := _, pos := _, after := _, guard := _ } :: _) _ _); refine wpList_ldr ty_point rfl _ rfl _ rfl _ rfl (HO.out.mem HA2.out) ?_)
        | ((with_reducible show wpList _ _ _ ({ dst := _, op := Op.load 23 (Operand.tmp 8), type := _, pos := _, after := _, guard := _ } :: _) _ _); refine wpList_ldr ty_point rfl _ rfl _ rfl _ rfl (HO.out.mem HB2.out) ?_)
        | ((with_reducible show wpList _ _ _ ({ dst := _, op := Op.load 23 (Operand.tmp 9), type := _, pos := _, after := _, guard := _ } :: _) _ _); refine wpList_ldr ty_point rfl _ rfl _ rfl _ rfl (HO.out.mem HC2.out) ?_)
        | ((with_reducible show wpList _ _ _ ({ dst := _, op := Op.load 23 (Operand.tmp 10), type := _, pos := _, after := _, guard := _ } :: _) _ _); refine wpList_ldr ty_point rfl _ rfl _ rfl _ rfl (HO.out.mem HD2.out) ?_)
        | ((with_reducible show wpList _ _ _ ({ dst := _, op := Op.load 23 (Operand.tmp 13), type := _, pos := _, after := _, guard := _ } :: _) _ _); refine wpList_ldr ty_point rfl _ rfl _ rfl _ rfl (HO.out.mem HM.out) ?_)
        | (go_at_call 12; (with_reducible refine (Rabm _).mono ?_); rintro e w1 ⟨rfl, hk1⟩; have l2 := HO.out.call hk1; clear HO hk1; have HO := Lib.hid l2; clear l2)
        | (go_at_call 12; (with_reducible refine (Rbcm _).mono ?_); rintro e w1 ⟨rfl, hk1⟩; have l2 := HO.out.call hk1; clear HO hk1; have HO := Lib.hid l2; clear l2)
        | (go_at_call 12; (with_reducible refine (Rcam _).mono ?_); rintro e w1 ⟨rfl, hk1⟩; have l2 := HO.out.call hk1; clear HO hk1; have HO := Lib.hid l2; clear l2)
        | (go_at_call 9; refine (awake_any _).mono ?_; rintro e w1 ⟨rfl, hk1⟩; have l2 := HO.out.call hk1; clear HO hk1; have HO := Lib.hid l2; clear l2))
    go_ret
    exact ⟨rfl, HO.out.k⟩
  cases k3 : decide (0 < sadm)
  · skip
    go_wp2_with (first
        | go_big_skip
        | ((with_reducible show wpList _ _ _ ({ dst := _, op := Op.load 23 (Operand.tmp 7), type := _, pos := _, after := _, guard := _ } :: _) _ _); refine wpList_ldr ty_point rfl _ rfl _ rfl _ rfl (HO.out.mem HA2.out) ?_)
        | ((with_reducible show wpList _ _ _ ({ dst := _, op := Op.load 23 (Operand.tmp 8), type := _, pos := _, after := _, guard := _ } :: _) _ _); refine wpList_ldr ty_point rfl _ rfl _ rfl _ rfl (HO.out.mem HB2.out) ?_)
        | ((with_reducible show wpList _ _ _ ({ dst := _, op := Op.load 23 (Operand.tmp 9), type := _, pos := _, after := _, guard := _ } :: _) _ _); refine wpList_ldr ty_point rfl _ rfl _ rfl _ rfl (HO.out.mem HC2.out) ?_)
        | ((with_reducible show wpList _ _ _ ({ dst := _, op := Op.load 23 (Operand.tmp 10), type := _, pos := _, after := _, guard := _ } :: _) _ _); refine wpList_ldr ty_point rfl _ rfl _ rfl _ rfl (HO.out.mem HD2.out) ?_)
        | ((with_reducible show wpList _ _ _ ({ dst := _, op := Op.load 23 (Operand.tmp 13), type := _, pos := _, after := _, guard := _ } :: _) _ _); refine wpList_ldr ty_point rfl _ rfl _ rfl _ rfl (HO.out.mem HM.out) ?_)
        | (go_at_call 12; (with_reducible refine (Rabm _).mono ?_); rintro e w1 ⟨rfl, hk1⟩; have l2 := HO.out.call hk1; clear HO hk1; have HO := Lib.hid l2; clear l2)
        | (go_at_call 12; (with_reducible refine (Rbcm _).mono ?_); rintro e w1 ⟨rfl, hk1⟩; have l2 := HO.out.call hk1; clear HO hk1; have HO := Lib.hid l2; clear l2)
        | (go_at_call 12; (with_reducible refine (Rcam _).mono ?_); rintro e w1 ⟨rfl, hk1⟩; have l2 := HO.out.call hk1; clear HO hk1; have HO := Lib.hid l2; clear l2)
        | (go_at_call 12; (with_reducible refine (Radm _).mono ?_); rintro e w1 ⟨rfl, hk1⟩; have l2 := HO.out.call hk1; clear HO hk1; have HO := Lib.hid l2; clear l2)
        | (go_at_call 9; refine (awake_any _).mono ?_; rintro e w1 ⟨rfl, hk1⟩; have l2 := HO.out.call hk1; clear HO hk1; have HO := Lib.hid l2; clear l2))
    go_ret
    exact ⟨rfl, HO.out.k⟩
  cases k4 : decide (0 < sdbm)
  · skip
    go_wp2_with (first
        | go_big_skip
        | ((with_reducible show wpList _ _ _ ({ dst := _, op := Op.load 23 (Operand.tmp 7), type := _, pos := _, after := _, guard := _ } :: _) _ _); refine wpList_ldr ty_point rfl _ rfl _ rfl _ rfl (HO.out.mem HA2.out) ?_)
        | ((with_reducible show wpList _ _ _ ({ dst := _, op := Op.load 23 (Operand.tmp 8), type := _, pos := _, after := _, guard := _ } :: _) _ _); refine wpList_ldr ty_point rfl _ rfl _ rfl _ rfl (HO.out.mem HB2.out) ?_)
        | ((with_reducible show wpList _ _ _ ({ dst := _, op := Op.load 23 (Operand.tmp 9), type := _, pos := _, after := _, guard := _ } :: _) _ _); refine wpList_ldr ty_point rfl _ rfl _ rfl _ rfl (HO.out.mem HC2.out) ?_)
        | ((with_reducible show wpList _ _ _ ({ dst := _, op := Op.load 23 (Operand.tmp 10), type := _, pos := _, after := _, guard := _ } :: _) _ _); refine wpList_ldr ty_point rfl _ rfl _ rfl _ rfl (HO.out.mem HD2.out) ?_)
        | ((with_reducible show wpList _ _ _ ({ dst := _, op := Op.load 23 (Operand.tmp 13), type := _, pos := _, after := _, guard := _ } :: _) _ _); refine wpList_ldr ty_point rfl _ rfl _ rfl _ rfl (HO.out.mem HM.out) ?_)
        | (go_at_call 12; (with_reducible refine (Rabm _).mono ?_); rintro e w1 ⟨rfl, hk1⟩; have l2 := HO.out.call hk1; clear HO hk1; have HO := Lib.hid l2; clear l2)
        | (go_at_call 12; (with_reducible refine (Rbcm _).mono ?_); rintro e w1 ⟨rfl, hk1⟩; have l2 := HO.out.call hk1; clear HO hk1; have HO := Lib.hid l2; clear l2)
        | (go_at_call 12; (with_reducible refine (Rcam _).mono ?_); rintro e w1 ⟨rfl, hk1⟩; have l2 := HO.out.call hk1; clear HO hk1; have HO := Lib.hid l2; clear l2)
        | (go_at_call 12; (with_reducible refine (Radm _).mono ?_); rintro e w1 ⟨rfl, hk1⟩; have l2 := HO.out.call hk1; clear HO hk1; have HO := Lib.hid l2; clear l2)
        | (go_at_call 12; (with_reducible refine (Rdbm _).mono ?_); rintro e w1 ⟨rfl, hk1⟩; have l2 := HO.out.call hk1; clear HO hk1; have HO := Lib.hid l2; clear l2)
        | (go_at_call 9; refine (awake_any _).mono ?_; rintro e w1 ⟨rfl, hk1⟩; have l2 := HO.out.call hk1; clear HO hk1; have HO := Lib.hid l2; clear l2))
    go_ret
    exact ⟨rfl, HO.out.k⟩
  have d4_ : (n1 + n2 == 1) = true := by simpa using HB.out (by simpa using k0) (by simpa using k1) (by simpa using k2) (by simpa using k3) (by simpa using k4)
  go_wp2_with (first
      | go_big_skip
      | ((with_reducible show wpList _ _ _ ({ dst := _, op := Op.load 23 (Operand.tmp 7), type := _, pos := _, after := _, guard := _ } :: _) _ _); refine wpList_ldr ty_point rfl _ rfl _ rfl _ rfl (HO.out.mem HA2.out) ?_)
      | ((with_reducible show wpList _ _ _ ({ dst := _, op := Op.load 23 (Operand.tmp 8), type := _, pos := _, after := _, guard := _ } :: _) _ _); refine wpList_ldr ty_point rfl _ rfl _ rfl _ rfl (HO.out.mem HB2.out) ?_)
      | ((with_reducible show wpList _ _ _ ({ dst := _, op := Op.load 23 (Operand.tmp 9), type := _, pos := _, after := _, guard := _ } :: _) _ _); refine wpList_ldr ty_point rfl _ rfl _ rfl _ rfl (HO.out.mem HC2.out) ?_)
      | ((with_reducible show wpList _ _ _ ({ dst := _, op := Op.load 23 (Operand.tmp 10), type := _, pos := _, after := _, guard := _ } :: _) _ _); refine wpList_ldr ty_point rfl _ rfl _ rfl _ rfl (HO.out.mem HD2.out) ?_)
      | ((with_reducible show wpList _ _ _ ({ dst := _, op := Op.load 23 (Operand.tmp 13), type := _, pos := _, after := _, guard := _ } :: _) _ _); refine wpList_ldr ty_point rfl _ rfl _ rfl _ rfl (HO.out.mem HM.out) ?_)
      | (go_at_call 12; (with_reducible refine (Rabm _).mono ?_); rintro e w1 ⟨rfl, hk1⟩; have l2 := HO.out.call hk1; clear HO hk1; have HO := Lib.hid l2; clear l2)
      | (go_at_call 12; (with_reducible refine (Rbcm _).mono ?_); rintro e w1 ⟨rfl, hk1⟩; have l2 := HO.out.call hk1; clear HO hk1; have HO := Lib.hid l2; clear l2)
      | (go_at_call 12; (with_reducible refine (Rcam _).mono ?_); rintro e w1 ⟨rfl, hk1⟩; have l2 := HO.out.call hk1; clear HO hk1; have HO := Lib.hid l2; clear l2)
      | (go_at_call 12; (with_reducible refine (Radm _).mono ?_); rintro e w1 ⟨rfl, hk1⟩; have l2 := HO.out.call hk1; clear HO hk1; have HO := Lib.hid l2; clear l2)
      | (go_at_call 12; (with_reducible refine (Rdbm _).mono ?_); rintro e w1 ⟨rfl, hk1⟩; have l2 := HO.out.call hk1; clear HO hk1; have HO := Lib.hid l2; clear l2)
      | (go_at_call 9; refine (awake_any _).mono ?_; rintro e w1 ⟨rfl, hk1⟩; have l2 := HO.out.call hk1; clear HO hk1; have HO := Lib.hid l2; clear l2))
  go_ret
  exact ⟨rfl, HO.out.k⟩
end Go.Proofs.Ythchlpklofgbeaa
