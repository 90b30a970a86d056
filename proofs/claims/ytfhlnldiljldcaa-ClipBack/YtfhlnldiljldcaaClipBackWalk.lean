/-
  ClipBack: its Go text returns true.
-/
import Derived.Test.YtfhlnldiljldcaaClipPolys
import Derived.BigGuard
namespace Go.Proofs.Ytfhlnldiljldcaa
open Go.RowKit

set_option linter.unusedSimpArgs false in
set_option maxRecDepth 100000 in
set_option maxHeartbeats 8000000 in
theorem backs_out (k : Int) (l : List Cn) (v : Value) (w : World) (hS : Sp w v l) (hx : Cl.pl k = false ∨ (Cl.pl k = true ∧ Cl.chk l ≠ 0)) :
    Calls Try.prog 6 #[.int .i64 k, v] w fun e w' => e = .returned (.bool true) ∧ Below w.heap.size w w' := by
  have HB := Lib.hid (Below.refl w.heap.size w)
  rcases hx with hk | ⟨hk, hc⟩
  · rcases Cl.pl_no.1 hk with h1 | h1
    · have q1 : decide (k < 0) = true := decide_eq_true h1
      clear hk h1 hS
      go_enter Try.func6, Try.ntmps6
      go_wp2_with (first | go_big_skip | (go_at_call 9; refine (awake_any _).mono ?_; rintro e wz ⟨rfl, hk1⟩; have l2 := HB.out.trans (hk1.below.mono HB.out.size); clear HB hk1; have HB := Lib.hid l2; clear l2))
      go_ret
      exact ⟨rfl, HB.out⟩
    · have q1 : decide (k < 0) = false := decide_eq_false (by omega)
      have q2 : decide (6 < k) = true := decide_eq_true h1
      clear hk h1 hS
      go_enter Try.func6, Try.ntmps6
      go_wp2_with (first | go_big_skip | (go_at_call 9; refine (awake_any _).mono ?_; rintro e wz ⟨rfl, hk1⟩; have l2 := HB.out.trans (hk1.below.mono HB.out.size); clear HB hk1; have HB := Lib.hid l2; clear l2))
      go_ret
      exact ⟨rfl, HB.out⟩
  · have R1 := fun W (h : Below w.heap.size w W) => rchk_any l v W (hS.nextB h)
    have h2 := Cl.pl_iff.1 hk
    have q1 : decide (k < 0) = false := decide_eq_false (by omega)
    have q2 : decide (6 < k) = false := decide_eq_false (by omega)
    have q3 : (Cl.chk l != 0) = true := by simpa using hc
    generalize Cl.chk l = r at *
    clear hk hc h2 hS
    go_enter Try.func6, Try.ntmps6
    go_wp2_with (first | go_big_skip | (go_at_call 14; refine (R1 _ HB.out).mono ?_; rintro e wz ⟨rfl, hk1⟩; have l2 := HB.out.trans (hk1.below.mono HB.out.size); clear HB hk1; have HB := Lib.hid l2; clear l2) | (go_at_call 9; refine (awake_any _).mono ?_; rintro e wz ⟨rfl, hk1⟩; have l2 := HB.out.trans (hk1.below.mono HB.out.size); clear HB hk1; have HB := Lib.hid l2; clear l2))
    go_ret
    exact ⟨rfl, HB.out⟩
def msrB (i : Value) : Nat := (intOf i + 1).toNat
set_option linter.unusedSimpArgs false in
set_option maxRecDepth 100000 in
set_option maxHeartbeats 8000000 in
theorem backs_yes (k : Nat) (l : List Cn) (v : Value) (w : World) (hS : Sp w v l) (hk : k < 7) (hc : Cl.chk l = 0) :
    Calls Try.prog 6 #[.int .i64 k, v] w fun e w' => e = .returned (.bool true) ∧ Below w.heap.size w w' := by
  obtain ⟨hl, hm⟩ := Cl.chk_ok.1 hc
  have R1 := fun W (h : Below w.heap.size w W) => rchk_any l v W (hS.nextB h)
  rw [hc] at R1
  have PA := Lib.hid fun W (h : Below w.heap.size w W) => at_yes k l v W (hS.nextB h) hk hc
  have PL := Lib.hid fun W u (h : Sp W u l.reverse) => at_yes k l.reverse u W h hk (Cl.chk_back hc)
  obtain ⟨i0, hi0, hz0, hz1, hz3⟩ := info_parts infoCorner
  have HS := Lib.hid hS
  obtain ⟨a0, c0, rfl, hc0, hx0⟩ := hS.each
  have HX0 := Lib.hid hx0
  have HP : Hid ((Cl.at k l.reverse).length = (Cl.at k l).length ∧ ∀ c, Cl.count (Cl.at k l.reverse) c = Cl.count (Cl.at k l) c) := Lib.hid ⟨(Cl.back k l).length_eq, Cl.count_perm (Cl.back k l)⟩
  have hL := Cl.at_len k l
  have HL : Hid ((Cl.at k l).length ≤ 100000) := Lib.hid (by omega)
  have HB := Lib.hid (Below.refl w.heap.size w)
  have q1 : decide ((k : Int) < 0) = false := decide_eq_false (by omega)
  have q2 : decide (6 < (k : Int)) = false := decide_eq_false (by omega)
  have hl2 : (l.length : Int) ≤ 16 := by omega
  clear hS hx0 hm hc hL
  generalize Cl.at k l = A at *
  generalize Cl.at k l.reverse = B at *
  go_enter Try.func6, Try.ntmps6
  go_wp2_with (first | go_big_skip | (go_at_call 14; refine (R1 _ HB.out).mono ?_; rintro e wz ⟨rfl, hk1⟩; have l2 := HB.out.trans (hk1.below.mono HB.out.size); clear HB hk1; have HB := Lib.hid l2; clear l2))
  clear R1 q1 q2
  go_loopw [5, 6] (fun u i wr => ∃ m j : Nat, m + j = l.length ∧ i = .int .i64 ((m : Int) - 1) ∧ Below w.heap.size w wr ∧ Rp w wr u (l.reverse.take j) []) (fun _ i _ => msrB i)
  case atStart => exact ⟨l.length, 0, rfl, rfl, HB.out, (Rp.start (Ow.refl w)).next HB.out⟩
  case round =>
    clear HB
    obtain ⟨m, j, hj, rfl, hb, ho⟩ := hrel
    have HB := Lib.hid hb
    have HO := Lib.hid ho
    clear hb ho
    rcases m with _ | m
    · obtain rfl : j = l.length := by omega
      have HR : Hid (Sp wr u5 l.reverse) := Lib.hid (by
        have h := Sp.of_own HO.out.own
        rwa [List.take_of_length_le (by simp)] at h)
      clear HO
      obtain ⟨a3, c3, e3, _⟩ := HR.out.parts
      rw [List.length_reverse] at e3
      subst e3
      have P1 := PA.out _ HB.out
      have P2 : Hid (∀ W, Below wr.heap.size wr W → Calls Try.prog 13 #[.int .i64 k, .slice a3 l.length c3] W fun e w' => PAt W B 0 e w') := Lib.hid fun W h => PL.out W _ (HR.out.nextB h)
      clear PA PL HR
      go_wp2_with (first
        | go_big_skip
        | (go_at_call 13; (with_reducible refine P1.mono ?_); clear P1; rintro e w1 ⟨u, rfl, hs1, hb1⟩; obtain ⟨a1, c1, rfl, _⟩ := hs1.parts; have HQ := P2.out w1 hb1; have l2 := HB.out.trans (hb1.mono HB.out.size); clear HB P2 hb1; have HB := Lib.hid l2; have HU := Lib.hid hs1; clear hs1 l2)
        | (go_at_call 13; (with_reducible refine HQ.mono ?_); clear HQ; rintro e w2 ⟨u, rfl, hs2, hb2⟩; obtain ⟨a2, c2, e2, _⟩ := hs2.parts; rw [HP.out.1] at e2; subst e2; have l2 := HB.out.trans (hb2.mono HB.out.size); have l3 := HU.out.nextB hb2; clear HB HU hb2; have HB := Lib.hid l2; have HU := Lib.hid l3; have HV := Lib.hid hs2; clear hs2 l2 l3))
      obtain ⟨_, _, e4, _, hx1⟩ := HU.out.each
      cases e4
      have HX := Lib.hid hx1
      have HO := Lib.hid (Ow.refl w2)
      clear hx1
      go_loopw [11] (fun i wr => ∃ j : Nat, j ≤ A.length ∧ i = .int .i64 j ∧ Ow w2 wr []) (fun i _ => msrS A.length i)
      case atStart => exact ⟨0, by omega, rfl, HO.out⟩
      case round =>
        clear HO
        obtain ⟨j, hj, rfl, ho⟩ := hrel
        have HO := Lib.hid ho
        clear ho
        by_cases hlt : j < A.length
        · have z1 : decide ((j : Int) < (A.length : Int)) = true := decide_eq_true (by omega)
          have z2 : (j : Int) < (A.length : Int) := by omega
          have z3 : (A.length : Int) ≤ 100000 := by have := HL.out; omega
          obtain ⟨b1, o1, e1, x1⟩ := HX.out j hlt
          have R1 := fun U (h : Kp w2.heap.size w2 U) => rhas_any A A[j] _ U (HU.out.next h) HL.out
          have R2 := fun U (h : Kp w2.heap.size w2 U) => rhas_any B A[j] _ U (HV.out.next h) (by rw [HP.out.1]; exact HL.out)
          rw [HP.out.2 A[j]] at R2
          have X1 : Hid (∀ U, Below w2.heap.size w2 U → U.rangeAt b1 (o1 + j * 10) [.int .i64 (A[j] 0), .int .i64 (A[j] 1), .int .i64 (A[j] 2), .int .i64 (A[j] 3), .int .i64 (A[j] 4), .int .i64 (A[j] 5), .int .i64 (A[j] 6), .int .i64 (A[j] 7), .int .i64 (A[j] 8), .int .i64 (A[j] 9)]) := Lib.hid x1
          clear x1
          generalize A[j] = y at *
          generalize Cl.count A y = n at *
          subst e1
          go_upto_region 15 with fail
          refine Rg.region (I := fun _ W => Ow w2 W []) (dem := fun _ => false) (m := 13) (g := 0) (T := fun listed bs st => ∀ W, Ow w2 W [] → wpAny Try.prog .any _ _ 0 listed st W) (by kernel_rfl) HO.out.drew rfl (fun _ _ _ _ h hI => h _ hI) ?_
          clear HO
          refine Rg.take 0 (v := .slice (some ⟨b1, o1, none⟩) A.length c1) rfl rfl (by kernel_rfl) (by kernel_rfl) (by kernel_rfl) (by kernel_rfl) (by kernel_rfl) (.inl ⟨rfl, fun bs wq hI => ?_⟩) ?_
          · go_simp
          simp only [Act.put, List.getElem_toArray, List.getElem_cons_zero, List.getElem_cons_succ, List.setIfInBounds_toArray, List.set_cons_zero, List.set_cons_succ]
          refine Rg.take 1 (v := .slice (some ⟨b1, o1, none⟩) A.length c1) rfl rfl (by kernel_rfl) (by kernel_rfl) (by kernel_rfl) (by kernel_rfl) (by kernel_rfl) (.inl ⟨rfl, fun bs wq hI => ?_⟩) ?_
          · go_simp
          simp only [Act.put, List.getElem_toArray, List.getElem_cons_zero, List.getElem_cons_succ, List.setIfInBounds_toArray, List.set_cons_zero, List.set_cons_succ]
          refine Rg.take 2 (v := .int .i64 j) rfl rfl (by kernel_rfl) (by kernel_rfl) (by kernel_rfl) (by kernel_rfl) (by kernel_rfl) (.inl ⟨rfl, fun bs wq hI => ?_⟩) ?_
          · go_simp
          simp only [Act.put, List.getElem_toArray, List.getElem_cons_zero, List.getElem_cons_succ, List.setIfInBounds_toArray, List.set_cons_zero, List.set_cons_succ]
          refine Rg.take 3 (v := .pointer (some ⟨b1, o1 + j * 10, none⟩)) rfl rfl (by kernel_rfl) (by kernel_rfl) (by kernel_rfl) (by kernel_rfl) (by kernel_rfl) (.inl ⟨rfl, fun bs wq hI => ?_⟩) ?_
          · go_simp
          simp only [Act.put, List.getElem_toArray, List.getElem_cons_zero, List.getElem_cons_succ, List.setIfInBounds_toArray, List.set_cons_zero, List.set_cons_succ]
          refine Rg.take 4 (v := .agg #[.int .i64 (y 0), .int .i64 (y 1), .int .i64 (y 2), .int .i64 (y 3), .int .i64 (y 4), .int .i64 (y 5), .int .i64 (y 6), .int .i64 (y 7), .int .i64 (y 8), .int .i64 (y 9)]) rfl rfl (by kernel_rfl) (by kernel_rfl) (by kernel_rfl) (by kernel_rfl) (by kernel_rfl) (.inl ⟨rfl, fun bs wq hI => ?_⟩) ?_
          · exact quiet_ldm ty_corner (.tmp 72) rfl rfl rfl (X1.out _ hI.k.below)
          simp only [Act.put, List.getElem_toArray, List.getElem_cons_zero, List.getElem_cons_succ, List.setIfInBounds_toArray, List.set_cons_zero, List.set_cons_succ]
          refine Rg.take 5 (v := .int .i64 n) rfl rfl (by kernel_rfl) (by kernel_rfl) (by kernel_rfl) (by kernel_rfl) (by kernel_rfl) (.inl ⟨rfl, fun bs wq hI => ?_⟩) ?_
          · (go_simp; exact (R1 _ hI.k).mono fun e w2 h => ⟨h.1, hI.call h.2⟩)
          simp only [Act.put, List.getElem_toArray, List.getElem_cons_zero, List.getElem_cons_succ, List.setIfInBounds_toArray, List.set_cons_zero, List.set_cons_succ]
          refine Rg.take 6 (v := .slice a2 A.length c2) rfl rfl (by kernel_rfl) (by kernel_rfl) (by kernel_rfl) (by kernel_rfl) (by kernel_rfl) (.inl ⟨rfl, fun bs wq hI => ?_⟩) ?_
          · go_simp
          simp only [Act.put, List.getElem_toArray, List.getElem_cons_zero, List.getElem_cons_succ, List.setIfInBounds_toArray, List.set_cons_zero, List.set_cons_succ]
          refine Rg.take 7 (v := .slice (some ⟨b1, o1, none⟩) A.length c1) rfl rfl (by kernel_rfl) (by kernel_rfl) (by kernel_rfl) (by kernel_rfl) (by kernel_rfl) (.inl ⟨rfl, fun bs wq hI => ?_⟩) ?_
          · go_simp
          simp only [Act.put, List.getElem_toArray, List.getElem_cons_zero, List.getElem_cons_succ, List.setIfInBounds_toArray, List.set_cons_zero, List.set_cons_succ]
          refine Rg.take 8 (v := .int .i64 j) rfl rfl (by kernel_rfl) (by kernel_rfl) (by kernel_rfl) (by kernel_rfl) (by kernel_rfl) (.inl ⟨rfl, fun bs wq hI => ?_⟩) ?_
          · go_simp
          simp only [Act.put, List.getElem_toArray, List.getElem_cons_zero, List.getElem_cons_succ, List.setIfInBounds_toArray, List.set_cons_zero, List.set_cons_succ]
          refine Rg.take 9 (v := .pointer (some ⟨b1, o1 + j * 10, none⟩)) rfl rfl (by kernel_rfl) (by kernel_rfl) (by kernel_rfl) (by kernel_rfl) (by kernel_rfl) (.inl ⟨rfl, fun bs wq hI => ?_⟩) ?_
          · go_simp
          simp only [Act.put, List.getElem_toArray, List.getElem_cons_zero, List.getElem_cons_succ, List.setIfInBounds_toArray, List.set_cons_zero, List.set_cons_succ]
          refine Rg.take 10 (v := .agg #[.int .i64 (y 0), .int .i64 (y 1), .int .i64 (y 2), .int .i64 (y 3), .int .i64 (y 4), .int .i64 (y 5), .int .i64 (y 6), .int .i64 (y 7), .int .i64 (y 8), .int .i64 (y 9)]) rfl rfl (by kernel_rfl) (by kernel_rfl) (by kernel_rfl) (by kernel_rfl) (by kernel_rfl) (.inl ⟨rfl, fun bs wq hI => ?_⟩) ?_
          · exact quiet_ldm ty_corner (.tmp 78) rfl rfl rfl (X1.out _ hI.k.below)
          simp only [Act.put, List.getElem_toArray, List.getElem_cons_zero, List.getElem_cons_succ, List.setIfInBounds_toArray, List.set_cons_zero, List.set_cons_succ]
          refine Rg.take 11 (v := .int .i64 n) rfl rfl (by kernel_rfl) (by kernel_rfl) (by kernel_rfl) (by kernel_rfl) (by kernel_rfl) (.inl ⟨rfl, fun bs wq hI => ?_⟩) ?_
          · (go_simp; exact (R2 _ hI.k).mono fun e w2 h => ⟨h.1, hI.call h.2⟩)
          simp only [Act.put, List.getElem_toArray, List.getElem_cons_zero, List.getElem_cons_succ, List.setIfInBounds_toArray, List.set_cons_zero, List.set_cons_succ]
          refine Rg.take 12 (v := .bool false) rfl rfl (by kernel_rfl) (by kernel_rfl) (by kernel_rfl) (by kernel_rfl) (by kernel_rfl) (.inl ⟨rfl, fun bs wq hI => ?_⟩) ?_
          · go_simp
          simp only [Act.put, List.getElem_toArray, List.getElem_cons_zero, List.getElem_cons_succ, List.setIfInBounds_toArray, List.set_cons_zero, List.set_cons_succ]
          refine Rg.done (rs := []) (by kernel_rfl) (by decide) (fun W hI => ?_)
          have HO := Lib.hid hI
          clear hI
          refine wpAny_done (by kernel_rfl) ?_ _
          go_wp2_with fail
          go_roundw
          case rel => exact ⟨j + 1, by omega, by go_num, HO.out⟩
          case measure => simp [msrS, intOf]; omega
        · have z1 : decide ((j : Int) < (A.length : Int)) = false := decide_eq_false (by omega)
          go_wp2_with (go_at_call 9; refine (awake_any _).mono ?_; rintro e wz ⟨rfl, hk1⟩; have l2 := HO.out.call hk1; clear HO hk1; have HO := Lib.hid l2; clear l2)
          go_ret
          exact ⟨rfl, HB.out.trans (HO.out.k.below.mono HB.out.size)⟩
    · have hml : m < l.length := by omega
      have e0 : ((m + 1 : Nat) : Int) - 1 = (m : Int) := by omega
      rw [e0]
      have z2 : (m : Int) < (l.length : Int) := by omega
      obtain ⟨b1, o1, e1, x1⟩ := HX0.out m hml
      have hjr : j < l.reverse.length := by simp; omega
      have HT : Hid (l.reverse.take (j + 1) = l.reverse.take j ++ [l[m]]) := Lib.hid (by
        rw [List.take_succ_eq_append_getElem hjr, List.getElem_reverse]
        have : l.length - 1 - j = m := by omega
        simp only [this])
      have X1 : Hid (∀ U, Below w.heap.size w U → U.rangeAt b1 (o1 + m * 10) [.int .i64 (l[m] 0), .int .i64 (l[m] 1), .int .i64 (l[m] 2), .int .i64 (l[m] 3), .int .i64 (l[m] 4), .int .i64 (l[m] 5), .int .i64 (l[m] 6), .int .i64 (l[m] 7), .int .i64 (l[m] 8), .int .i64 (l[m] 9)]) := Lib.hid x1
      have hlen : (l.reverse.take j).length = j := by rw [List.length_take]; omega
      clear x1
      generalize l[m] = y at *
      generalize l.reverse.take j = xs at *
      subst e1
      obtain rfl := hlen
      have K1 : Hid (xs.length + 1 ≤ maxLen) := Lib.hid (by unfold maxLen; omega)
      have K2 : Hid ((xs.length + 1) * 80 ≤ 140737488355328) := Lib.hid (by omega)
      have K3 : Hid (w.heap.size ≤ wr.heap.size) := Lib.hid HB.out.size
      go_wp2_with (first | ((with_reducible show wpList _ _ _ ({ dst := _, op := Op.load 26 (Operand.tmp 34), type := _, pos := _, after := _, guard := _ } :: _) _ _); refine wpList_ldm ty_corner rfl _ rfl _ _ rfl _ rfl (X1.out _ HB.out) ?_) | (at_builtin; refine wpList_append_lies _ rfl (.tmp 31) (.tmp 36) 37 rfl w.heap.size 26 i0 _ 10 80 Try.underlying37 hi0 hz0 hz1 hz3 rfl (by decide) _ _ _ rfl (HO.out.own.alloc _) ⟨wr.heap.size, 0, none⟩ 1 1 [.int .i64 (y 0), .int .i64 (y 1), .int .i64 (y 2), .int .i64 (y 3), .int .i64 (y 4), .int .i64 (y 5), .int .i64 (y 6), .int .i64 (y 7), .int .i64 (y 8), .int .i64 (y 9)] rfl rfl (news10 _ y _) (one10 y) (by decide) K1.out K2.out (Nat.le_trans K3.out (by simp)) (wr.heap.size + 1) (by simp) ?_))
      intro g cap w4 h1 h2 h3 h4
      have l2 := HO.out.putN (c := y) (n := xs.length) rfl h1 h2 h3
      clear HO h1 h2 h3 h4 K1 K2 K3 HB
      have HO := Lib.hid l2
      clear l2
      go_wp2_with fail
      go_roundw
      case rel => exact ⟨m, xs.length + 1, by omega, by go_num, HO.out.bl, by rw [HT.out]; exact HO.out⟩
      case measure => simp [msrB, intOf]
theorem backs_walk (k : Int) (l : List Cn) (v : Value) (w : World) (hS : Sp w v l) :
    Calls Try.prog 6 #[.int .i64 k, v] w fun e w' => e = .returned (.bool true) ∧ Below w.heap.size w w' := by
  cases hp : Cl.pl k
  · exact backs_out k l v w hS (.inl hp)
  obtain ⟨k1, k2⟩ := Cl.pl_iff.1 hp
  obtain ⟨z, rfl⟩ : ∃ z : Nat, k = (z : Int) := ⟨k.toNat, by omega⟩
  by_cases hc : Cl.chk l = 0
  · exact backs_yes z l v w hS (by omega) hc
  · exact backs_out z l v w hS (.inr ⟨hp, hc⟩)
end Go.Proofs.Ytfhlnldiljldcaa
