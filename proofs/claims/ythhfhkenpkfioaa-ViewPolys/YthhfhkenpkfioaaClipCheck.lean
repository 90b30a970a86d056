/-
  Contracts of layer 15 (clip): check, Far; the errors of At and All.
-/
import Derived.Test.YthhfhkenpkfioaaClipSmall
import Derived.Test.YthhfhkenpkfioaaClipRefPoly
import Derived.Test.YthhfhkenpkfioaaMem3
import Derived.BigGuard
namespace Go.Proofs.Ythhfhkenpkfioaa
open Go.RowKit

set_option linter.unusedSimpArgs false in
set_option maxRecDepth 100000 in
set_option maxHeartbeats 8000000 in
theorem check_any (k : Int) (l : List Cn) (v : Value) (w : World) (hS : Sp w v l) :
    Calls Try.prog 26 #[.int .i64 k, v] w fun e w' => e = .returned (.int .i64 (Cl.atE k l)) ∧ Kp w.heap.size w w' := by
  obtain ⟨a1, c1, rfl, hc1, hu⟩ := hS.each
  clear hS
  have HO := Lib.hid (Ow.refl w)
  by_cases h0 : k < 0
  · have q1 : decide (k < 0) = true := decide_eq_true h0
    have HE := Lib.hid (Cl.atE_pl (l := l) (Cl.pl_no.2 (.inl h0)))
    generalize Cl.atE k l = r at *
    clear hu h0
    go_enter Try.func26, Try.ntmps26
    go_wp2_with go_big_skip
    go_ret
    exact ⟨ret_int HE.out.symm, HO.out.k⟩
  have q1 : decide (k < 0) = false := decide_eq_false h0
  by_cases h6 : 6 < k
  · have q2 : decide (7 ≤ k) = true := decide_eq_true (by omega)
    have HE := Lib.hid (Cl.atE_pl (l := l) (Cl.pl_no.2 (.inr h6)))
    generalize Cl.atE k l = r at *
    clear hu h0 h6
    go_enter Try.func26, Try.ntmps26
    go_wp2_with go_big_skip
    go_ret
    exact ⟨ret_int HE.out.symm, HO.out.k⟩
  have q2 : decide (7 ≤ k) = false := decide_eq_false (by omega)
  have hE := Cl.atE_chk (l := l) (Cl.pl_iff.2 ⟨show 0 ≤ k by omega, by omega⟩)
  by_cases hl : 16 < l.length
  · have q3 : decide ((16 : Int) < (l.length : Int)) = true := decide_eq_true (by omega)
    have HE : Hid (Cl.atE k l = 4) := Lib.hid (by rw [hE]; unfold Cl.chk; rw [if_pos hl])
    generalize Cl.atE k l = r at *
    clear hu h0 h6 hl hE
    go_enter Try.func26, Try.ntmps26
    go_wp2_with go_big_skip
    go_ret
    exact ⟨ret_int HE.out.symm, HO.out.k⟩
  have q3 : decide ((16 : Int) < (l.length : Int)) = false := decide_eq_false (by omega)
  have HR : Hid ((l.all Cl.mayB = true → Cl.atE k l = 0) ∧ (l.all Cl.mayB = false → Cl.atE k l = 3)) := Lib.hid ⟨fun h => by rw [hE]; unfold Cl.chk; rw [if_neg hl, if_pos h], fun h => by rw [hE]; unfold Cl.chk; rw [if_neg hl, h]; rfl⟩
  generalize Cl.atE k l = r at *
  have hl2 : (l.length : Int) ≤ 16 := by omega
  have HU := Lib.hid hu
  clear hl hu h0 h6 hE
  go_enter Try.func26, Try.ntmps26
  go_wp2_with go_big_skip
  clear q1 q2 q3
  go_loopw [18] (fun i wr => ∃ j : Nat, j ≤ l.length ∧ i = .int .i64 j ∧ (l.take j).all Cl.mayB = true ∧ Ow w wr []) (fun i _ => msrL l.length i)
  case atStart => exact ⟨0, by omega, rfl, rfl, HO.out⟩
  case round =>
    clear HO
    obtain ⟨j, hj, rfl, hs, ho⟩ := hrel
    by_cases hlt : j < l.length
    · have z1 : decide ((j : Int) < (l.length : Int)) = true := decide_eq_true (by omega)
      have z2 : (j : Int) < (l.length : Int) := by omega
      obtain ⟨b1, o1, e1, x1⟩ := HU.out j hlt
      have M1 := fun W => mayBe_any l[j] W
      have HX := Lib.hid (Cl.all_take hlt Cl.mayB)
      have HY : Hid (Cl.mayB l[j] = false → l.all Cl.mayB = false) := Lib.hid fun h => by
        rw [← Bool.not_eq_true, List.all_eq_true]; intro h2; rw [h2 _ (List.getElem_mem hlt)] at h; cases h
      have HS := Lib.hid hs
      have HO := Lib.hid ho
      have X1 : Hid (∀ U, Below w.heap.size w U → U.rangeAt b1 (o1 + j * 10) [.int .i64 (l[j] 0), .int .i64 (l[j] 1), .int .i64 (l[j] 2), .int .i64 (l[j] 3), .int .i64 (l[j] 4), .int .i64 (l[j] 5), .int .i64 (l[j] 6), .int .i64 (l[j] 7), .int .i64 (l[j] 8), .int .i64 (l[j] 9)]) := Lib.hid x1
      clear hs ho x1
      generalize l[j] = y at *
      subst e1
      go_upto_region 8 with ((with_reducible show wpList _ _ _ ({ dst := _, op := Op.load 26 (Operand.tmp 20), type := _, pos := _, after := _, guard := _ } :: _) _ _); refine wpList_ldm ty_corner rfl _ rfl _ _ rfl _ rfl (X1.out _ HO.out.k.below) ?_)
      have l2 := HO.out.newAt wr.heap.size rfl (.int .i64 (y 0)) [.int .i64 (y 1), .int .i64 (y 2), .int .i64 (y 3), .int .i64 (y 4), .int .i64 (y 5), .int .i64 (y 6), .int .i64 (y 7), .int .i64 (y 8), .int .i64 (y 9)] 26
      clear HO
      have HO := Lib.hid l2
      clear l2
      generalize hV : World.alloc _ _ = V1 at *
      clear hV
      generalize wr.heap.size = p7 at *
      cases hy : Cl.mayB y
      · rw [hy] at M1
        obtain rfl := HR.out.2 (HY.out hy)
        clear HR HX HY hy
        go_wp2_with (first | ((with_reducible show wpList _ _ _ ({ dst := _, op := Op.load 26 (Operand.tmp 6), type := _, pos := _, after := _, guard := _ } :: _) _ _); refine wpList_ldr ty_corner rfl _ rfl _ rfl _ rfl (HO.out.at 0 rfl) ?_) | (go_at_call 31; refine (M1 _).mono ?_; rintro e wz ⟨rfl, hk1⟩; have l2 := HO.out.call hk1; clear HO hk1; have HO := Lib.hid l2; clear l2))
        go_ret
        exact ⟨rfl, HO.out.k⟩
      · rw [hy] at M1
        have HZ : Hid ((l.take (j + 1)).all Cl.mayB = true) := Lib.hid (by rw [HX.out, HS.out, hy]; rfl)
        clear HX HY hy
        go_wp2_with (first | ((with_reducible show wpList _ _ _ ({ dst := _, op := Op.load 26 (Operand.tmp 6), type := _, pos := _, after := _, guard := _ } :: _) _ _); refine wpList_ldr ty_corner rfl _ rfl _ rfl _ rfl (HO.out.at 0 rfl) ?_) | (go_at_call 31; refine (M1 _).mono ?_; rintro e wz ⟨rfl, hk1⟩; have l2 := HO.out.call hk1; clear HO hk1; have HO := Lib.hid l2; clear l2))
        go_roundw
        case rel => exact ⟨j + 1, by omega, by go_num, HZ.out, HO.out.drop1⟩
        case measure => simp [msrL, intOf]; omega
    · have z1 : decide ((j : Int) < (l.length : Int)) = false := decide_eq_false (by omega)
      obtain rfl : j = l.length := by omega
      rw [List.take_length] at hs
      obtain rfl := HR.out.1 hs
      have HO := Lib.hid ho
      clear ho hs HR
      go_wp2
      go_ret
      exact ⟨rfl, HO.out.k⟩
theorem Sp.one (W : World) (c : Cn) (b : Nat) (cap : Nat) (hc : 1 ≤ cap) (hR : Rc W b [.int .i64 (c 0), .int .i64 (c 1), .int .i64 (c 2), .int .i64 (c 3), .int .i64 (c 4), .int .i64 (c 5), .int .i64 (c 6), .int .i64 (c 7), .int .i64 (c 8), .int .i64 (c 9)]) : Sp W (.slice (some ⟨b, 0, none⟩) 1 cap) [c] :=
  ⟨some ⟨b, 0, none⟩, cap, rfl, ⟨hc, fun e => by cases e⟩, fun i d hi => by
    rcases i with _ | i
    · simp at hi; subst hi
      exact ⟨b, 0, rfl, hR.lt (by simp), fun j v hv => by rw [show 0 + 0 * 10 + j = j by omega]; exact (hR j v hv).1⟩
    · simp at hi⟩
theorem Sp.two (W : World) (c d : Cn) (b : Nat) (cap : Nat) (hc : 2 ≤ cap) (hR : Rc W b (Cl.cs c ++ Cl.cs d)) : Sp W (.slice (some ⟨b, 0, none⟩) 2 cap) [c, d] :=
  ⟨some ⟨b, 0, none⟩, cap, rfl, ⟨hc, fun e => by cases e⟩, fun i g hi => by
    have hl := hR.lt (by simp [Cl.cs])
    rcases i with _ | _ | i
    · simp at hi; subst hi
      refine ⟨b, 0, rfl, hl, fun j v hv => ?_⟩
      rw [show 0 + 0 * 10 + j = j by omega]
      have hj : j < 10 := by have := (List.getElem?_eq_some_iff.1 hv).1; rwa [Cl.cs_len] at this
      exact (hR j v (by rw [List.getElem?_append_left (by rw [Cl.cs_len]; omega)]; exact hv)).1
    · simp at hi; subst hi
      refine ⟨b, 0, rfl, hl, fun j v hv => ?_⟩
      rw [show 0 + (0 + 1) * 10 + j = 10 + j by omega]
      exact (hR (10 + j) v (by rw [List.getElem?_append_right (by rw [Cl.cs_len]; omega), Cl.cs_len, show 10 + j - 10 = j by omega]; exact hv)).1
    · simp at hi⟩
set_option linter.unusedSimpArgs false in
set_option maxRecDepth 100000 in
set_option maxHeartbeats 8000000 in
theorem far_no (k : Int) (c : Cn) (w : World) (h : Cl.farE k c ≠ 0) :
    Calls Try.prog 21 #[.int .i64 k, .agg #[.int .i64 (c 0), .int .i64 (c 1), .int .i64 (c 2), .int .i64 (c 3), .int .i64 (c 4), .int .i64 (c 5), .int .i64 (c 6), .int .i64 (c 7), .int .i64 (c 8), .int .i64 (c 9)]] w fun e w' => e = .returned (.tuple #[.int .i64 0, .int .i64 (Cl.farE k c)]) ∧ Kp w.heap.size w w' := by
  have C1 := fun v W hS => check_any k [c] v W hS
  rw [Cl.atE_one] at C1
  generalize Cl.farE k c = r at *
  have q1 : (r != 0) = true := by simpa using h
  have HO : Hid (Ow w _ [(w.heap.size, [.int .i64 (c 0), .int .i64 (c 1), .int .i64 (c 2), .int .i64 (c 3), .int .i64 (c 4), .int .i64 (c 5), .int .i64 (c 6), .int .i64 (c 7), .int .i64 (c 8), .int .i64 (c 9)])]) := Lib.hid ((Ow.refl w).newAt w.heap.size rfl (.int .i64 (c 0)) [.int .i64 (c 1), .int .i64 (c 2), .int .i64 (c 3), .int .i64 (c 4), .int .i64 (c 5), .int .i64 (c 6), .int .i64 (c 7), .int .i64 (c 8), .int .i64 (c 9)] 26)
  clear h
  go_enter Try.func21, Try.ntmps21
  go_wp2_with (first | ((with_reducible show wpList _ _ _ ({ dst := _, op := Op.load 26 (Operand.tmp 3), type := _, pos := _, after := _, guard := _ } :: _) _ _); refine wpList_ldr ty_corner rfl _ rfl _ rfl _ rfl (HO.out.at 0 rfl) ?_) | (go_at_call 26; refine (C1 _ _ ?_).mono ?_; (exact Sp.one _ c _ _ (Nat.le_refl _) (Rc.new _ _ _ (by simp))); rintro e wz ⟨rfl, hk1⟩; have l2 := (HO.out.call (Kp.new _ _ _)).call hk1; clear HO hk1; have HO := Lib.hid l2; clear l2))
  go_ret2
  exact ⟨rfl, HO.out.k⟩
set_option linter.unusedSimpArgs false in
set_option maxRecDepth 100000 in
set_option maxHeartbeats 8000000 in
theorem far_yes (k : Nat) (c : Cn) (w : World) (hk : k < 7) (h : Cl.May c) :
    Calls Try.prog 21 #[.int .i64 k, .agg #[.int .i64 (c 0), .int .i64 (c 1), .int .i64 (c 2), .int .i64 (c 3), .int .i64 (c 4), .int .i64 (c 5), .int .i64 (c 6), .int .i64 (c 7), .int .i64 (c 8), .int .i64 (c 9)]] w fun e w' => e = .returned (.tuple #[.int .i64 (Cl.far k c), .int .i64 0]) ∧ Kp w.heap.size w w' := by
  have C1 := fun v W hS => check_any k [c] v W hS
  rw [show Cl.atE k [c] = 0 by rw [Cl.atE_one]; unfold Cl.farE; rw [Cl.pl_iff.2 (by omega), Cl.may_iff.2 h]; rfl] at C1
  have F1 := fun W => far_any k c W hk h.1
  generalize Cl.far k c = f at *
  have HO : Hid (Ow w _ [(w.heap.size, [.int .i64 (c 0), .int .i64 (c 1), .int .i64 (c 2), .int .i64 (c 3), .int .i64 (c 4), .int .i64 (c 5), .int .i64 (c 6), .int .i64 (c 7), .int .i64 (c 8), .int .i64 (c 9)])]) := Lib.hid ((Ow.refl w).newAt w.heap.size rfl (.int .i64 (c 0)) [.int .i64 (c 1), .int .i64 (c 2), .int .i64 (c 3), .int .i64 (c 4), .int .i64 (c 5), .int .i64 (c 6), .int .i64 (c 7), .int .i64 (c 8), .int .i64 (c 9)] 26)
  clear h
  go_enter Try.func21, Try.ntmps21
  go_wp2_with (first | ((with_reducible show wpList _ _ _ ({ dst := _, op := Op.load 26 (Operand.tmp 3), type := _, pos := _, after := _, guard := _ } :: _) _ _); refine wpList_ldr ty_corner rfl _ rfl _ rfl _ rfl (HO.out.at 0 rfl) ?_) | ((with_reducible show wpList _ _ _ ({ dst := _, op := Op.load 23 (Operand.tmp 15), type := _, pos := _, after := _, guard := _ } :: _) _ _); refine wpList_ldm ty_vec rfl _ rfl _ _ rfl _ rfl (Rc.vec (c := c) (HO.out.at 0 rfl)) ?_) | (go_at_call 26; refine (C1 _ _ ?_).mono ?_; (exact Sp.one _ c _ _ (Nat.le_refl _) (Rc.new _ _ _ (by simp))); rintro e wz ⟨rfl, hk1⟩; have l2 := (HO.out.call (Kp.new _ _ _)).call hk1; clear HO hk1; have HO := Lib.hid l2; clear l2) | (go_at_call 27; refine (F1 _).mono ?_; rintro e wz ⟨rfl, hk1⟩; have l2 := HO.out.call hk1; clear HO hk1; have HO := Lib.hid l2; clear l2))
  go_ret2
  exact ⟨rfl, HO.out.k⟩
end Go.Proofs.Ythhfhkenpkfioaa
