/-
  Contract of the document's own Cover of layer 11.
-/
import Derived.Test.YtphgihijobnlhaaTileBox
import Derived.Test.YtphgihijobnlhaaTilePlain2
import Derived.Test.YtphgihijobnlhaaTileRows
namespace Go.Proofs.Ytphgihijobnlhaa
open Go.RowKit

/-- how many rounds are left -/
def msrR (z : Nat) (i : Value) : Nat := z - (intOf i).toNat
/-- what the document's Cover answers -/
def RCov (w : World) (xs : List Int) (e : Ending) (w' : World) : Prop := ∃ u, e = .returned u ∧ Sl w' u (iv xs) ∧ Below w.heap.size w w'
theorem iv_next (l : List Int) (x : Int) : iv (l ++ [x]) = iv l ++ [.int .i64 x] := by simp [iv]
set_option linter.unusedSimpArgs false in
set_option maxHeartbeats 4000000 in
theorem rcover_any (n m a0 a1 a2 a3 : Int) (z : Nat) (w : World) (h : Tl.is n m = true) (hz : Tl.bg n * Tl.bg m = (z : Int)) :
    Calls Try.prog 18 #[.int .i64 n, .int .i64 m, .agg #[.int .i64 a0, .int .i64 a1, .int .i64 a2, .int .i64 a3]] w fun e w' => RCov w (Tl.sel (Tl.hit n m a0 a1 a2 a3) z) e w' := by
  have h9 := Tl.is_iff.1 h
  have N1 := fun W => rcount_any n m W h
  rw [hz] at N1
  obtain ⟨i1, i2⟩ := Tl.bg_le (n := n) (by omega) (by omega)
  obtain ⟨j1, j2⟩ := Tl.bg_le (n := m) (by omega) (by omega)
  obtain ⟨k1, k2⟩ := Tl.mul_le i1 i2 j1 j2
  have hz2 : z ≤ 256 := by omega
  have HA : Hid (∀ k : Nat, k < z → Tl.At n m k ((k : Int) % Tl.bg n) ((k : Int) / Tl.bg n)) := Lib.hid fun k hk => Tl.at_of (by omega) (by omega) (by omega)
  have HH := Lib.hid h
  obtain ⟨i0, hi, hz0, hz1, hz3⟩ := info_parts infoInt
  have HO := Lib.hid (Ro.start ((Ow.refl w).newAt w.heap.size rfl (.int .i64 a0) [.int .i64 a1, .int .i64 a2, .int .i64 a3] 33))
  clear h h9 hz i1 i2 j1 j2 k1 k2
  go_enter Try.func18, Try.ntmps18
  go_wp2_with fail
  go_loopw [8, 7] (fun i v wr => ∃ k : Nat, k ≤ z ∧ i = .int .i64 k ∧ Ro w wr v (iv (Tl.sel (Tl.hit n m a0 a1 a2 a3) k)) [(w.heap.size, [.int .i64 a0, .int .i64 a1, .int .i64 a2, .int .i64 a3])]) (fun i _ _ => msrR z i)
  case atStart => exact ⟨0, Nat.zero_le _, rfl, HO.out⟩
  case round =>
    clear HO
    obtain ⟨k, hk, rfl, ho⟩ := hrel
    by_cases hlt : k < z
    · have z1 : decide ((k : Int) < (z : Int)) = true := decide_eq_true (by omega)
      have hA := HA.out k hlt
      have B1 := fun W => rbox_any n m k _ _ W HH.out hA
      obtain ⟨s0, s1, s2, s3, hS⟩ := Rt.and_some ((k : Int) % Tl.bg n * 16) ((k : Int) / Tl.bg n * 16) (Rt.mn ((k : Int) % Tl.bg n * 16 + 16) n) (Rt.mn ((k : Int) / Tl.bg n * 16 + 16) m) a0 a1 a2 a3
      have B2 := fun W => rboth_any _ _ _ _ _ _ _ _ _ _ _ _ W hS
      have B3 := fun W => rempty_any s0 s1 s2 s3 W
      have hp : Rt.emp s0 s1 s2 s3 = !(Tl.hit n m a0 a1 a2 a3 (k : Int)) := by rw [hS.emp]; unfold Tl.hit Tl.cut; rw [Bool.not_not]
      rw [hp] at B3
      clear hp hS hA HA HH
      generalize Rt.mn ((k : Int) % Tl.bg n * 16 + 16) n = b2 at *
      generalize Rt.mn ((k : Int) / Tl.bg n * 16 + 16) m = b3 at *
      generalize (k : Int) % Tl.bg n * 16 = b0 at *
      generalize (k : Int) / Tl.bg n * 16 = b1 at *
      cases hq : Tl.hit n m a0 a1 a2 a3 (k : Int)
      · rw [hq] at B3
        have HX := Lib.hid (Tl.sel_no hq)
        clear hq
        generalize hxs : Tl.sel (Tl.hit n m a0 a1 a2 a3) k = xs at *
        clear hxs
        have HO := Lib.hid ho
        clear ho
        go_upto_region 5 with (go_at_call 10; refine (N1 _).mono ?_; rintro e w' ⟨rfl, rfl⟩)
        refine Rg.region (I := fun _ W => Ro w W u7 (iv xs) [(w.heap.size, [.int .i64 a0, .int .i64 a1, .int .i64 a2, .int .i64 a3])]) (dem := fun _ => false) (m := 8) (g := 0) (T := fun listed bs st => ∀ W, Ro w W u7 (iv xs) [(w.heap.size, [.int .i64 a0, .int .i64 a1, .int .i64 a2, .int .i64 a3])] → wpAny Try.prog .any _ _ 0 listed st W) (by kernel_rfl) HO.out.drew rfl (fun _ _ _ _ h hI => h _ hI) ?_
        clear HO
        refine Rg.take 0 (v := .int .i64 n) rfl rfl (by kernel_rfl) (by kernel_rfl) (by kernel_rfl) (by kernel_rfl) (by kernel_rfl) (.inl ⟨rfl, fun bs wq hI => ?_⟩) ?_
        · go_simp
        simp only [Act.put, List.getElem_toArray, List.getElem_cons_zero, List.getElem_cons_succ, List.setIfInBounds_toArray, List.set_cons_zero, List.set_cons_succ]
        refine Rg.take 1 (v := .int .i64 m) rfl rfl (by kernel_rfl) (by kernel_rfl) (by kernel_rfl) (by kernel_rfl) (by kernel_rfl) (.inl ⟨rfl, fun bs wq hI => ?_⟩) ?_
        · go_simp
        simp only [Act.put, List.getElem_toArray, List.getElem_cons_zero, List.getElem_cons_succ, List.setIfInBounds_toArray, List.set_cons_zero, List.set_cons_succ]
        refine Rg.take 2 (v := .int .i64 k) rfl rfl (by kernel_rfl) (by kernel_rfl) (by kernel_rfl) (by kernel_rfl) (by kernel_rfl) (.inl ⟨rfl, fun bs wq hI => ?_⟩) ?_
        · go_simp
        simp only [Act.put, List.getElem_toArray, List.getElem_cons_zero, List.getElem_cons_succ, List.setIfInBounds_toArray, List.set_cons_zero, List.set_cons_succ]
        refine Rg.take 3 (v := .agg #[.int .i64 b0, .int .i64 b1, .int .i64 b2, .int .i64 b3]) rfl rfl (by kernel_rfl) (by kernel_rfl) (by kernel_rfl) (by kernel_rfl) (by kernel_rfl) (.inl ⟨rfl, fun bs wq hI => ?_⟩) ?_
        · (go_simp; exact (B1 _).mono fun e w2 h => ⟨h.1, hI.call h.2⟩)
        simp only [Act.put, List.getElem_toArray, List.getElem_cons_zero, List.getElem_cons_succ, List.setIfInBounds_toArray, List.set_cons_zero, List.set_cons_succ]
        refine Rg.take 4 (v := .agg #[.int .i64 a0, .int .i64 a1, .int .i64 a2, .int .i64 a3]) rfl rfl (by kernel_rfl) (by kernel_rfl) (by kernel_rfl) (by kernel_rfl) (by kernel_rfl) (.inl ⟨rfl, fun bs wq hI => ?_⟩) ?_
        · exact quiet_ldr ty_rect (.tmp 5) rfl rfl rfl (hI.at 0 rfl)
        simp only [Act.put, List.getElem_toArray, List.getElem_cons_zero, List.getElem_cons_succ, List.setIfInBounds_toArray, List.set_cons_zero, List.set_cons_succ]
        refine Rg.take 5 (v := .agg #[.int .i64 s0, .int .i64 s1, .int .i64 s2, .int .i64 s3]) rfl rfl (by kernel_rfl) (by kernel_rfl) (by kernel_rfl) (by kernel_rfl) (by kernel_rfl) (.inl ⟨rfl, fun bs wq hI => ?_⟩) ?_
        · (go_simp; exact (B2 _).mono fun e w2 h => ⟨h.1, hI.call h.2⟩)
        simp only [Act.put, List.getElem_toArray, List.getElem_cons_zero, List.getElem_cons_succ, List.setIfInBounds_toArray, List.set_cons_zero, List.set_cons_succ]
        refine Rg.take 6 (v := .bool (!false)) rfl rfl (by kernel_rfl) (by kernel_rfl) (by kernel_rfl) (by kernel_rfl) (by kernel_rfl) (.inl ⟨rfl, fun bs wq hI => ?_⟩) ?_
        · (go_simp; exact (B3 _).mono fun e w2 h => ⟨h.1, hI.call h.2⟩)
        simp only [Act.put, List.getElem_toArray, List.getElem_cons_zero, List.getElem_cons_succ, List.setIfInBounds_toArray, List.set_cons_zero, List.set_cons_succ]
        refine Rg.take 7 (v := .bool false) rfl rfl (by kernel_rfl) (by kernel_rfl) (by kernel_rfl) (by kernel_rfl) (by kernel_rfl) (.inl ⟨rfl, fun bs wq hI => ?_⟩) ?_
        · go_simp
        simp only [Act.put, List.getElem_toArray, List.getElem_cons_zero, List.getElem_cons_succ, List.setIfInBounds_toArray, List.set_cons_zero, List.set_cons_succ]
        refine Rg.done (rs := []) (by kernel_rfl) (by decide) (fun W hI => ?_)
        have HO := Lib.hid hI
        clear hI
        refine wpAny_done (by kernel_rfl) ?_ _
        go_wp2_with fail
        go_roundw
        case rel => exact ⟨k + 1, by omega, by go_num, by rw [HX.out]; exact HO.out⟩
        case measure => simp [msrR, intOf]; omega
      · rw [hq] at B3
        have HX := Lib.hid (Tl.sel_yes hq)
        have hlen := Tl.sel_len (Tl.hit n m a0 a1 a2 a3) k
        clear hq
        generalize hxs : Tl.sel (Tl.hit n m a0 a1 a2 a3) k = xs at *
        clear hxs
        have HO := Lib.hid ho
        clear ho
        go_upto_region 5 with (go_at_call 10; refine (N1 _).mono ?_; rintro e w' ⟨rfl, rfl⟩)
        refine Rg.region (I := fun _ W => Ro w W u7 (iv xs) [(w.heap.size, [.int .i64 a0, .int .i64 a1, .int .i64 a2, .int .i64 a3])]) (dem := fun _ => false) (m := 8) (g := 0) (T := fun listed bs st => ∀ W, Ro w W u7 (iv xs) [(w.heap.size, [.int .i64 a0, .int .i64 a1, .int .i64 a2, .int .i64 a3])] → wpAny Try.prog .any _ _ 0 listed st W) (by kernel_rfl) HO.out.drew rfl (fun _ _ _ _ h hI => h _ hI) ?_
        clear HO
        refine Rg.take 0 (v := .int .i64 n) rfl rfl (by kernel_rfl) (by kernel_rfl) (by kernel_rfl) (by kernel_rfl) (by kernel_rfl) (.inl ⟨rfl, fun bs wq hI => ?_⟩) ?_
        · go_simp
        simp only [Act.put, List.getElem_toArray, List.getElem_cons_zero, List.getElem_cons_succ, List.setIfInBounds_toArray, List.set_cons_zero, List.set_cons_succ]
        refine Rg.take 1 (v := .int .i64 m) rfl rfl (by kernel_rfl) (by kernel_rfl) (by kernel_rfl) (by kernel_rfl) (by kernel_rfl) (.inl ⟨rfl, fun bs wq hI => ?_⟩) ?_
        · go_simp
        simp only [Act.put, List.getElem_toArray, List.getElem_cons_zero, List.getElem_cons_succ, List.setIfInBounds_toArray, List.set_cons_zero, List.set_cons_succ]
        refine Rg.take 2 (v := .int .i64 k) rfl rfl (by kernel_rfl) (by kernel_rfl) (by kernel_rfl) (by kernel_rfl) (by kernel_rfl) (.inl ⟨rfl, fun bs wq hI => ?_⟩) ?_
        · go_simp
        simp only [Act.put, List.getElem_toArray, List.getElem_cons_zero, List.getElem_cons_succ, List.setIfInBounds_toArray, List.set_cons_zero, List.set_cons_succ]
        refine Rg.take 3 (v := .agg #[.int .i64 b0, .int .i64 b1, .int .i64 b2, .int .i64 b3]) rfl rfl (by kernel_rfl) (by kernel_rfl) (by kernel_rfl) (by kernel_rfl) (by kernel_rfl) (.inl ⟨rfl, fun bs wq hI => ?_⟩) ?_
        · (go_simp; exact (B1 _).mono fun e w2 h => ⟨h.1, hI.call h.2⟩)
        simp only [Act.put, List.getElem_toArray, List.getElem_cons_zero, List.getElem_cons_succ, List.setIfInBounds_toArray, List.set_cons_zero, List.set_cons_succ]
        refine Rg.take 4 (v := .agg #[.int .i64 a0, .int .i64 a1, .int .i64 a2, .int .i64 a3]) rfl rfl (by kernel_rfl) (by kernel_rfl) (by kernel_rfl) (by kernel_rfl) (by kernel_rfl) (.inl ⟨rfl, fun bs wq hI => ?_⟩) ?_
        · exact quiet_ldr ty_rect (.tmp 5) rfl rfl rfl (hI.at 0 rfl)
        simp only [Act.put, List.getElem_toArray, List.getElem_cons_zero, List.getElem_cons_succ, List.setIfInBounds_toArray, List.set_cons_zero, List.set_cons_succ]
        refine Rg.take 5 (v := .agg #[.int .i64 s0, .int .i64 s1, .int .i64 s2, .int .i64 s3]) rfl rfl (by kernel_rfl) (by kernel_rfl) (by kernel_rfl) (by kernel_rfl) (by kernel_rfl) (.inl ⟨rfl, fun bs wq hI => ?_⟩) ?_
        · (go_simp; exact (B2 _).mono fun e w2 h => ⟨h.1, hI.call h.2⟩)
        simp only [Act.put, List.getElem_toArray, List.getElem_cons_zero, List.getElem_cons_succ, List.setIfInBounds_toArray, List.set_cons_zero, List.set_cons_succ]
        refine Rg.take 6 (v := .bool (!true)) rfl rfl (by kernel_rfl) (by kernel_rfl) (by kernel_rfl) (by kernel_rfl) (by kernel_rfl) (.inl ⟨rfl, fun bs wq hI => ?_⟩) ?_
        · (go_simp; exact (B3 _).mono fun e w2 h => ⟨h.1, hI.call h.2⟩)
        simp only [Act.put, List.getElem_toArray, List.getElem_cons_zero, List.getElem_cons_succ, List.setIfInBounds_toArray, List.set_cons_zero, List.set_cons_succ]
        refine Rg.take 7 (v := .bool true) rfl rfl (by kernel_rfl) (by kernel_rfl) (by kernel_rfl) (by kernel_rfl) (by kernel_rfl) (.inl ⟨rfl, fun bs wq hI => ?_⟩) ?_
        · go_simp
        simp only [Act.put, List.getElem_toArray, List.getElem_cons_zero, List.getElem_cons_succ, List.setIfInBounds_toArray, List.set_cons_zero, List.set_cons_succ]
        refine Rg.done (rs := []) (by kernel_rfl) (by decide) (fun W hI => ?_)
        have HO := Lib.hid hI
        clear hI
        refine wpAny_done (by kernel_rfl) ?_ _
        have K1 : Hid ((iv xs).length + 1 ≤ maxLen) := Lib.hid (by rw [iv_len]; unfold maxLen; omega)
        have K2 : Hid (((iv xs).length + 1) * 8 ≤ 140737488355328) := Lib.hid (by rw [iv_len]; omega)
        have K3 : Hid (w.heap.size ≤ W.heap.size) := Lib.hid HO.out.bl.size
        clear hlen
        go_wp2_with (at_builtin; refine wpList_append_lies _ rfl (.tmp 24) (.tmp 26) 42 rfl w.heap.size 3 i0 (.int .i64 0) 1 8 Try.underlying42 hi hz0 hz1 hz3 rfl (by decide) _ _ _ rfl (HO.out.own.alloc _) ⟨W.heap.size, 0, none⟩ 1 1 [.int .i64 k] rfl rfl (news1 _ _ _) (one1 _ rfl) (by decide) K1.out K2.out (Nat.le_trans K3.out (by simp)) (W.heap.size + 1) (by simp) ?_)
        intro g cap w2 h1 h2 h3 h4
        have HO2 := Lib.hid (HO.out.put h1 h2 h3)
        clear h1 h2 h3 h4 HO K1 K2 K3
        go_wp2
        go_roundw
        case rel => exact ⟨k + 1, by omega, by go_num, by rw [HX.out, iv_next]; exact HO2.out⟩
        case measure => simp [msrR, intOf]; omega
    · have z1 : decide ((k : Int) < (z : Int)) = false := decide_eq_false (by omega)
      obtain rfl : k = z := by omega
      have HO := Lib.hid ho
      clear ho HA HH
      go_wp2_with (go_at_call 10; refine (N1 _).mono ?_; rintro e w' ⟨rfl, rfl⟩)
      go_ret
      exact ⟨_, rfl, Sl.of_own HO.out.own, HO.out.bl⟩
end Go.Proofs.Ytphgihijobnlhaa
