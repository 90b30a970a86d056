/-
  Contracts of layer 11 (tile): Cover.
-/
import Derived.Test.YtphgihijobnlhaaTileBox
import Derived.Test.YtphgihijobnlhaaTilePlain2
import Derived.Test.YtphgihijobnlhaaTileRows
namespace Go.Proofs.Ytphgihijobnlhaa
open Go.RowKit

/-- how many rounds are left -/
def msrC (z : Nat) (i : Value) : Nat := z - (intOf i).toNat
/-- what Cover answers -/
def Cov (w : World) (xs : List Int) (e : Ending) (w' : World) : Prop := ∃ u, e = .returned (.tuple #[u, .int .i64 0]) ∧ Sl w' u (iv xs) ∧ Below w.heap.size w w'
theorem iv_more (l : List Int) (x : Int) : iv (l ++ [x]) = iv l ++ [.int .i64 x] := by simp [iv]
theorem cover_no (n m a0 a1 a2 a3 : Int) (w : World) (h : Tl.is n m = false) :
    Calls Try.prog 16 #[.int .i64 n, .int .i64 m, .agg #[.int .i64 a0, .int .i64 a1, .int .i64 a2, .int .i64 a3]] w fun e w' => e = .returned (.tuple #[.slice none 0 0, .int .i64 3]) ∧ Kp w.heap.size w w' := by
  have C1 := fun W => count_no n m W h
  have HO := Lib.hid ((Ow.refl w).newAt w.heap.size rfl (.int .i64 a0) [.int .i64 a1, .int .i64 a2, .int .i64 a3] 33)
  clear h
  go_enter Try.func16, Try.ntmps16
  go_wp2_with (go_at_call 7; refine (C1 _).mono ?_; rintro e w' ⟨rfl, rfl⟩)
  go_ret2
  exact ⟨rfl, HO.out.k⟩
/-- the blocks of Cover -/
def Cb (w : World) (p : Nat) (a0 a1 a2 a3 s0 s1 s2 s3 : Int) : List (Nat × List Value) := [(p, [.int .i64 s0, .int .i64 s1, .int .i64 s2, .int .i64 s3]), (w.heap.size, [.int .i64 a0, .int .i64 a1, .int .i64 a2, .int .i64 a3])]
set_option linter.unusedSimpArgs false in
set_option maxHeartbeats 8000000 in
theorem cover_yes (n m a0 a1 a2 a3 s0 s1 s2 s3 : Int) (R C : Nat) (w : World) (h : Tl.is n m = true) (hS : Rt.And a0 a1 a2 a3 0 0 n m s0 s1 s2 s3)
    (hR : Tl.bg s3 - s1 / 16 = (R : Int)) (hC : Tl.bg s2 - s0 / 16 = (C : Int)) :
    Calls Try.prog 16 #[.int .i64 n, .int .i64 m, .agg #[.int .i64 a0, .int .i64 a1, .int .i64 a2, .int .i64 a3]] w fun e w' => Cov w (Tl.cov (Tl.bg n) (s0 / 16) (s1 / 16) R C) e w' := by
  have h9 := Tl.is_iff.1 h
  have C1 := fun W => count_yes n m W h
  have A1 := fun W => and_any _ _ _ _ _ _ _ _ _ _ _ _ W hS
  have hs := Tl.seen (by omega) (by omega) hS
  obtain ⟨x0, x1, x2, y0, y1, y2⟩ := hs
  have x3 : s2 ≤ 256 := by omega
  have y3 : s3 ≤ 256 := by omega
  have D1 := fun W => begun_any s3 W (by omega) (by omega)
  have D2 := fun W => begun_any s2 W (by omega) (by omega)
  obtain ⟨i1, i2⟩ := Tl.bg_le (n := n) (by omega) (by omega)
  obtain ⟨j1, j2⟩ := Tl.bg_le (n := s3) (by omega) (by omega)
  obtain ⟨k1, k2⟩ := Tl.bg_le (n := s2) (by omega) (by omega)
  have hR2 : R ≤ 16 := by omega
  have hC2 : C ≤ 16 := by omega
  obtain ⟨l, hl⟩ : ∃ l, s0 / 16 = l := ⟨_, rfl⟩
  obtain ⟨t, ht⟩ : ∃ t, s1 / 16 = t := ⟨_, rfl⟩
  rw [hl] at hC
  rw [ht] at hR
  rw [hl, ht]
  have l0 : 0 ≤ l := by omega
  have l1 : l + (C : Int) ≤ 16 := by omega
  have t0 : 0 ≤ t := by omega
  have t1 : t + (R : Int) ≤ 16 := by omega
  have HN : Hid (∀ (k q : Nat) (W : World), k < R → q < C → Calls Try.prog 21 #[.int .i64 (Tl.bg n), .int .i64 (l + (q : Int)), .int .i64 (t + (k : Int))] W fun e w' => e = .returned (.int .i64 ((t + (k : Int)) * Tl.bg n + (l + (q : Int)))) ∧ W = w') := Lib.hid fun k q W hk hq => by
    obtain ⟨e1, e2⟩ := Tl.mul_le (a := t + (k : Int)) (b := Tl.bg n) (by omega) (by omega) i1 i2
    exact number_any (Tl.bg n) (l + (q : Int)) (t + (k : Int)) W e1 e2 (by omega) (by omega)
  obtain ⟨i0, hi, hz0, hz1, hz3⟩ := info_parts infoInt
  have HO := Lib.hid ((Ow.refl w).newAt w.heap.size rfl (.int .i64 a0) [.int .i64 a1, .int .i64 a2, .int .i64 a3] 33)
  clear h h9 hS
  go_enter Try.func16, Try.ntmps16
  go_upto_region 4 with (go_at_call 7; refine (C1 _).mono ?_; rintro e w' ⟨rfl, rfl⟩)
  go_cut [11] (fun s11 wx => ∃ p : Nat, s11 = .pointer (some ⟨p, 0, none⟩) ∧ Ow w wx (Cb w p a0 a1 a2 a3 s0 s1 s2 s3))
  case first =>
    refine Rg.region (I := Mk w [.int .i64 0, .int .i64 0, .int .i64 0, .int .i64 0] [(w.heap.size, [.int .i64 a0, .int .i64 a1, .int .i64 a2, .int .i64 a3])]) (dem := fun i => decide (5 ≤ i)) (m := 6) (g := 1) (T := fun listed bs st => ∀ W, Mk w [.int .i64 0, .int .i64 0, .int .i64 0, .int .i64 0] [(w.heap.size, [.int .i64 a0, .int .i64 a1, .int .i64 a2, .int .i64 a3])] bs W → wpAny Try.prog .any _ _ 1 listed st W) (by kernel_rfl) HO.out.drew rfl (fun _ _ _ _ h hI => h _ hI) ?_
    clear HO
    refine Rg.take 0 (v := .agg #[.int .i64 a0, .int .i64 a1, .int .i64 a2, .int .i64 a3]) rfl rfl (by kernel_rfl) (by kernel_rfl) (by kernel_rfl) (by kernel_rfl) (by kernel_rfl) (.inl ⟨rfl, fun bs wq hI => ?_⟩) ?_
    · exact quiet_ldr ty_rect (.tmp 5) rfl rfl rfl (Ow.mem hI (List.mem_append_right _ (List.mem_singleton.2 rfl)))
    simp only [Act.put, List.getElem_toArray, List.getElem_cons_zero, List.getElem_cons_succ, List.setIfInBounds_toArray, List.set_cons_zero, List.set_cons_succ]
    refine Rg.take 1 (v := .int .i64 n) rfl rfl (by kernel_rfl) (by kernel_rfl) (by kernel_rfl) (by kernel_rfl) (by kernel_rfl) (.inl ⟨rfl, fun bs wq hI => ?_⟩) ?_
    · go_simp
    simp only [Act.put, List.getElem_toArray, List.getElem_cons_zero, List.getElem_cons_succ, List.setIfInBounds_toArray, List.set_cons_zero, List.set_cons_succ]
    refine Rg.take 2 (v := .int .i64 m) rfl rfl (by kernel_rfl) (by kernel_rfl) (by kernel_rfl) (by kernel_rfl) (by kernel_rfl) (.inl ⟨rfl, fun bs wq hI => ?_⟩) ?_
    · go_simp
    simp only [Act.put, List.getElem_toArray, List.getElem_cons_zero, List.getElem_cons_succ, List.setIfInBounds_toArray, List.set_cons_zero, List.set_cons_succ]
    refine Rg.take 3 (v := .agg #[.int .i64 0, .int .i64 0, .int .i64 n, .int .i64 m]) rfl rfl (by kernel_rfl) (by kernel_rfl) (by kernel_rfl) (by kernel_rfl) (by kernel_rfl) (.inl ⟨rfl, fun bs wq hI => ?_⟩) ?_
    · (go_simp; exact (whole_any n m _).mono fun e w2 h => ⟨h.1, hI.call h.2⟩)
    simp only [Act.put, List.getElem_toArray, List.getElem_cons_zero, List.getElem_cons_succ, List.setIfInBounds_toArray, List.set_cons_zero, List.set_cons_succ]
    refine Rg.take 4 (v := .agg #[.int .i64 s0, .int .i64 s1, .int .i64 s2, .int .i64 s3]) rfl rfl (by kernel_rfl) (by kernel_rfl) (by kernel_rfl) (by kernel_rfl) (by kernel_rfl) (.inl ⟨rfl, fun bs wq hI => ?_⟩) ?_
    · (go_simp; exact (A1 _).mono fun e w2 h => ⟨h.1, hI.call h.2⟩)
    simp only [Act.put, List.getElem_toArray, List.getElem_cons_zero, List.getElem_cons_succ, List.setIfInBounds_toArray, List.set_cons_zero, List.set_cons_succ]
    refine Rg.made (rs := [5]) (by kernel_rfl) (by simp) (fun i hi => ?_)
    simp only [List.mem_cons, List.not_mem_nil, or_false] at hi
    subst hi
    refine Rg.up_made rfl rfl (fun a => ⟨rfl, makes_rect a _ rfl⟩) (fun p _ => ?_)
    simp only [Act.put, List.getElem_toArray, List.getElem_cons_zero, List.getElem_cons_succ, List.setIfInBounds_toArray, List.set_cons_zero, List.set_cons_succ]
    refine Rg.done (rs := [6]) (by kernel_rfl) (by decide) (fun W hI => ?_)
    refine wpAny_sto ty_rect 6 (by kernel_rfl) rfl hI 0 [.int .i64 s0, .int .i64 s1, .int .i64 s2, .int .i64 s3] rfl _ _ rfl _ rfl rfl _ rfl rfl rfl rfl ?_
    intro W1 hI1
    simp only [Act.put, List.getElem_toArray, List.getElem_cons_zero, List.getElem_cons_succ, List.setIfInBounds_toArray, List.set_cons_zero, List.set_cons_succ]
    have HI1 := Lib.hid hI1
    clear hI hI1
    refine wpAny_done (by kernel_rfl) ?_ _
    go_wp2_with fail
    go_meet
    exact ⟨_, rfl, HI1.out⟩
  case rest =>
    clear HO A1 C1
    obtain ⟨p, rfl, ho⟩ := hcut
    have c0 := (ho.at 0 rfl).cell 0 rfl
    have c1 := (ho.at 0 rfl).cell 1 rfl
    have HO := Lib.hid ho
    clear ho
    go_upto_region 5 with fail
    go_quiet (fail)
    generalize hW : World.drewN _ _ = W at *
    have l2 : Ow w W (Cb w p a0 a1 a2 a3 s0 s1 s2 s3) := by rw [← hW]; exact HO.out.drewN _
    clear hW HO c0 c1
    have c3 := (l2.at 0 rfl).cell 3 rfl
    have HO := Lib.hid (Ro.start l2)
    clear l2
    go_wp2_with (go_at_call 23; refine (D1 _).mono ?_; rintro e w' ⟨rfl, rfl⟩)
    clear c3 D1
    go_loopw [43, 14] (fun i v wr => ∃ k : Nat, k ≤ R ∧ i = .int .i64 k ∧ Ro w wr v (iv (Tl.cov (Tl.bg n) l t k C)) (Cb w p a0 a1 a2 a3 s0 s1 s2 s3)) (fun i _ _ => msrC R i)
    case atStart => exact ⟨0, Nat.zero_le _, rfl, HO.out⟩
    case round =>
      clear HO
      obtain ⟨k, hk, rfl, ho⟩ := hrel
      by_cases hlt : k < R
      · have z1 : decide ((k : Int) < (R : Int)) = true := decide_eq_true (by omega)
        have c2 := (ho.at 0 rfl).cell 2 rfl
        have HO := Lib.hid ho
        clear ho
        go_wp2_with (go_at_call 23; refine (D2 _).mono ?_; rintro e w' ⟨rfl, rfl⟩)
        clear c2
        go_loopw [51, 14] (fun i v wr => ∃ q : Nat, q ≤ C ∧ i = .int .i64 q ∧ Ro w wr v (iv (Tl.cov (Tl.bg n) l t k C ++ Tl.line (Tl.bg n) l t k q)) (Cb w p a0 a1 a2 a3 s0 s1 s2 s3)) (fun i _ _ => msrC C i)
        case atStart => exact ⟨0, Nat.zero_le _, rfl, by rw [Tl.line_zero, List.append_nil]; exact HO.out⟩
        case round =>
          clear HO
          obtain ⟨q, hq, rfl, ho⟩ := hrel
          by_cases hlq : q < C
          · have z2 : decide ((q : Int) < (C : Int)) = true := decide_eq_true (by omega)
            have hlen : (Tl.cov (Tl.bg n) l t k C ++ Tl.line (Tl.bg n) l t k q).length ≤ 1000 := by
              rw [List.length_append, Tl.cov_len, Tl.line_len]
              have : k * C ≤ 16 * 16 := Nat.mul_le_mul (by omega) hC2
              omega
            have HX := Lib.hid (Tl.line_next (Tl.bg n) l t k q)
            have B1 := fun W => HN.out k q W hlt hlq
            generalize (t + (k : Int)) * Tl.bg n + (l + (q : Int)) = x at *
            generalize hxs : Tl.cov (Tl.bg n) l t k C = xs at *
            generalize hys : Tl.line (Tl.bg n) l t k q = ys at *
            clear hxs hys
            generalize hzs : xs ++ ys = zs at *
            have HZ := Lib.hid hzs
            clear hzs
            have HO := Lib.hid ho
            have K1 : Hid ((iv zs).length + 1 ≤ maxLen) := Lib.hid (by rw [iv_len]; unfold maxLen; omega)
            have K2 : Hid (((iv zs).length + 1) * 8 ≤ 140737488355328) := Lib.hid (by rw [iv_len]; omega)
            have K3 := Lib.hid ho.bl.size
            clear ho hlen
            go_wp2_with (first
              | (go_at_call 21; refine (B1 _).mono ?_; rintro e w' ⟨rfl, rfl⟩)
              | (at_builtin; refine wpList_append_lies _ rfl (.tmp 54) (.tmp 63) 42 rfl w.heap.size 3 i0 (.int .i64 0) 1 8 Try.underlying42 hi hz0 hz1 hz3 rfl (by decide) _ _ _ rfl (HO.out.own.alloc _) ⟨wr.heap.size, 0, none⟩ 1 1 [.int .i64 x] rfl rfl (news1 _ _ _) (one1 _ rfl) (by decide) K1.out K2.out (Nat.le_trans K3.out (by simp)) (wr.heap.size + 1) (by simp) ?_))
            intro g cap w2 h1 h2 h3 h4
            have HO2 := Lib.hid (HO.out.put h1 h2 h3)
            clear h1 h2 h3 h4 HO K1 K2 K3
            go_wp2
            go_roundw
            case rel => exact ⟨q + 1, by omega, by go_num, by rw [HX.out, ← List.append_assoc, HZ.out, iv_more]; exact HO2.out⟩
            case measure => simp [msrC, intOf]; omega
          · have z2 : decide ((q : Int) < (C : Int)) = false := decide_eq_false (by omega)
            obtain rfl : q = C := by omega
            have HO := Lib.hid ho
            clear ho
            go_wp2
            go_roundw
            case rel => exact ⟨k + 1, by omega, by go_num, by rw [Tl.cov_next]; exact HO.out⟩
            case measure => simp [msrC, intOf]; omega
      · have z1 : decide ((k : Int) < (R : Int)) = false := decide_eq_false (by omega)
        obtain rfl : k = R := by omega
        have HO := Lib.hid ho
        clear ho
        go_wp2
        go_ret2
        exact ⟨_, rfl, Sl.of_own HO.out.own, HO.out.bl⟩
end Go.Proofs.Ytphgihijobnlhaa
