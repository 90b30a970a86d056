/-
  Contracts of layer 18 (state): the identity, the code's and the document's; the document's truths.
-/
import Derived.Test.YtoejknkjfnnffaaStateCode
import Derived.BigGuard
namespace Go.Proofs.Ytoejknkjfnnffaa
open Go.RowKit

/-- the first k numbers of the diagonal are laid -/
def Sx.dk (k : Nat) : Sf := fun i => if i % 5 = 0 ∧ i / 5 < k then 65536 else 0
theorem vat_any (i j : Int) (w : World) (hi : 0 ≤ i ∧ i ≤ 3) (hj : 0 ≤ j ∧ j ≤ 3) :
    Calls Try.prog 66 #[.int .i64 i, .int .i64 j] w fun e w' => e = .returned (.int .i64 (i * 4 + j)) ∧ w = w' := by
  obtain ⟨h1, h2⟩ := hi
  obtain ⟨h3, h4⟩ := hj
  go_enter Try.func66, Try.ntmps66
  go_wp2
  all_goals go_ret
  all_goals exact ⟨rfl, rfl⟩
theorem ty_vrow : Ty 84 4 := ⟨by kernel_rfl, _, Try.underlying84, rfl⟩
theorem Sx.dk_zero : ([.int .i64 ((Sx.dk 0) 0), .int .i64 ((Sx.dk 0) 1), .int .i64 ((Sx.dk 0) 2), .int .i64 ((Sx.dk 0) 3), .int .i64 ((Sx.dk 0) 4), .int .i64 ((Sx.dk 0) 5), .int .i64 ((Sx.dk 0) 6), .int .i64 ((Sx.dk 0) 7), .int .i64 ((Sx.dk 0) 8), .int .i64 ((Sx.dk 0) 9), .int .i64 ((Sx.dk 0) 10), .int .i64 ((Sx.dk 0) 11), .int .i64 ((Sx.dk 0) 12), .int .i64 ((Sx.dk 0) 13), .int .i64 ((Sx.dk 0) 14), .int .i64 ((Sx.dk 0) 15)] : List Value) = [.int .i64 0, .int .i64 0, .int .i64 0, .int .i64 0, .int .i64 0, .int .i64 0, .int .i64 0, .int .i64 0, .int .i64 0, .int .i64 0, .int .i64 0, .int .i64 0, .int .i64 0, .int .i64 0, .int .i64 0, .int .i64 0] := rfl
theorem ixv (k : Nat) (hk : k < 4) (w : World) : (Instr.index 84 (.agg #[.int .i64 65536, .int .i64 65536, .int .i64 65536, .int .i64 65536]) (.int .i64 k)).run Try.prog w = .ok (.int .i64 65536) w := by
  rcases k with _ | _ | _ | _ | k
  all_goals first | omega | kernel_rfl
theorem Sx.dk_next (k : Nat) (hk : k < 4) : ([.int .i64 ((Sx.dk k) 0), .int .i64 ((Sx.dk k) 1), .int .i64 ((Sx.dk k) 2), .int .i64 ((Sx.dk k) 3), .int .i64 ((Sx.dk k) 4), .int .i64 ((Sx.dk k) 5), .int .i64 ((Sx.dk k) 6), .int .i64 ((Sx.dk k) 7), .int .i64 ((Sx.dk k) 8), .int .i64 ((Sx.dk k) 9), .int .i64 ((Sx.dk k) 10), .int .i64 ((Sx.dk k) 11), .int .i64 ((Sx.dk k) 12), .int .i64 ((Sx.dk k) 13), .int .i64 ((Sx.dk k) 14), .int .i64 ((Sx.dk k) 15)] : List Value).set (5 * k) (.int .i64 65536) = [.int .i64 ((Sx.dk (k + 1)) 0), .int .i64 ((Sx.dk (k + 1)) 1), .int .i64 ((Sx.dk (k + 1)) 2), .int .i64 ((Sx.dk (k + 1)) 3), .int .i64 ((Sx.dk (k + 1)) 4), .int .i64 ((Sx.dk (k + 1)) 5), .int .i64 ((Sx.dk (k + 1)) 6), .int .i64 ((Sx.dk (k + 1)) 7), .int .i64 ((Sx.dk (k + 1)) 8), .int .i64 ((Sx.dk (k + 1)) 9), .int .i64 ((Sx.dk (k + 1)) 10), .int .i64 ((Sx.dk (k + 1)) 11), .int .i64 ((Sx.dk (k + 1)) 12), .int .i64 ((Sx.dk (k + 1)) 13), .int .i64 ((Sx.dk (k + 1)) 14), .int .i64 ((Sx.dk (k + 1)) 15)] := by
  rcases k with _ | _ | _ | _ | k
  all_goals first | omega | rfl
set_option maxHeartbeats 2000000 in
theorem diagonal_one (w : World) :
    Calls Try.prog 59 #[.agg #[.int .i64 65536, .int .i64 65536, .int .i64 65536, .int .i64 65536]] w fun e w' => e = .returned (.agg #[.int .i64 ((Sx.idn) 0), .int .i64 ((Sx.idn) 1), .int .i64 ((Sx.idn) 2), .int .i64 ((Sx.idn) 3), .int .i64 ((Sx.idn) 4), .int .i64 ((Sx.idn) 5), .int .i64 ((Sx.idn) 6), .int .i64 ((Sx.idn) 7), .int .i64 ((Sx.idn) 8), .int .i64 ((Sx.idn) 9), .int .i64 ((Sx.idn) 10), .int .i64 ((Sx.idn) 11), .int .i64 ((Sx.idn) 12), .int .i64 ((Sx.idn) 13), .int .i64 ((Sx.idn) 14), .int .i64 ((Sx.idn) 15)]) ∧ Kp w.heap.size w w' := by
  have HO := Lib.hid ((((Ow.refl w).newAt (w.heap.size) rfl (.int .i64 65536) [.int .i64 65536, .int .i64 65536, .int .i64 65536] 84).newAt (w.heap.size + 1) (by simp) (.int .i64 0) [.int .i64 0, .int .i64 0, .int .i64 0, .int .i64 0, .int .i64 0, .int .i64 0, .int .i64 0, .int .i64 0, .int .i64 0, .int .i64 0, .int .i64 0, .int .i64 0, .int .i64 0, .int .i64 0, .int .i64 0] 23).newAt (w.heap.size + 2) (by simp) (.int .i64 0) [.int .i64 0, .int .i64 0, .int .i64 0, .int .i64 0, .int .i64 0, .int .i64 0, .int .i64 0, .int .i64 0, .int .i64 0, .int .i64 0, .int .i64 0, .int .i64 0, .int .i64 0, .int .i64 0, .int .i64 0] 23)
  go_enter Try.func59, Try.ntmps59
  go_wp2_with ((with_reducible show wpList _ _ _ ({ dst := _, op := Op.load 84 (Operand.tmp 1), type := _, pos := _, after := _, guard := _ } :: _) _ _); refine wpList_ldr ty_vrow rfl _ rfl _ rfl _ rfl (HO.out.at 2 rfl) ?_)
  go_loopw [7] (fun i wr => ∃ k : Nat, k ≤ 4 ∧ i = .int .i64 k ∧ Ow w wr [(w.heap.size + 2, [.int .i64 ((Sx.dk k) 0), .int .i64 ((Sx.dk k) 1), .int .i64 ((Sx.dk k) 2), .int .i64 ((Sx.dk k) 3), .int .i64 ((Sx.dk k) 4), .int .i64 ((Sx.dk k) 5), .int .i64 ((Sx.dk k) 6), .int .i64 ((Sx.dk k) 7), .int .i64 ((Sx.dk k) 8), .int .i64 ((Sx.dk k) 9), .int .i64 ((Sx.dk k) 10), .int .i64 ((Sx.dk k) 11), .int .i64 ((Sx.dk k) 12), .int .i64 ((Sx.dk k) 13), .int .i64 ((Sx.dk k) 14), .int .i64 ((Sx.dk k) 15)]), (w.heap.size + 1, [.int .i64 0, .int .i64 0, .int .i64 0, .int .i64 0, .int .i64 0, .int .i64 0, .int .i64 0, .int .i64 0, .int .i64 0, .int .i64 0, .int .i64 0, .int .i64 0, .int .i64 0, .int .i64 0, .int .i64 0, .int .i64 0]), (w.heap.size, [.int .i64 65536, .int .i64 65536, .int .i64 65536, .int .i64 65536])]) (fun i _ => msrS 4 i)
  case atStart => exact ⟨0, by omega, rfl, by rw [Sx.dk_zero]; exact HO.out⟩
  case round =>
    clear HO
    obtain ⟨k, hk, rfl, ho⟩ := hrel
    by_cases hlt : k < 4
    · have hi := fun W => ixv k hlt W
      have z2 : (k : Int) < 4 := by omega
      have V1 := fun W => vat_any k k W (by omega) (by omega)
      have e5 : (k : Int) * 4 + k = ((5 * k : Nat) : Int) := by omega
      rw [e5] at V1
      have hl : 5 * k < 16 := by omega
      have cc := (ho.at 0 rfl).cell (5 * k) (get16 (Sx.dk k) (5 * k) hl)
      have ff := (ho.at 0 rfl).froz (5 * k) (by simpa using hl)
      have HN : Hid (∃ W, wr.setCell ⟨w.heap.size + 2, 5 * k, none⟩ (.int .i64 65536) = W ∧ Ow w W [(w.heap.size + 2, [.int .i64 ((Sx.dk (k + 1)) 0), .int .i64 ((Sx.dk (k + 1)) 1), .int .i64 ((Sx.dk (k + 1)) 2), .int .i64 ((Sx.dk (k + 1)) 3), .int .i64 ((Sx.dk (k + 1)) 4), .int .i64 ((Sx.dk (k + 1)) 5), .int .i64 ((Sx.dk (k + 1)) 6), .int .i64 ((Sx.dk (k + 1)) 7), .int .i64 ((Sx.dk (k + 1)) 8), .int .i64 ((Sx.dk (k + 1)) 9), .int .i64 ((Sx.dk (k + 1)) 10), .int .i64 ((Sx.dk (k + 1)) 11), .int .i64 ((Sx.dk (k + 1)) 12), .int .i64 ((Sx.dk (k + 1)) 13), .int .i64 ((Sx.dk (k + 1)) 14), .int .i64 ((Sx.dk (k + 1)) 15)]), (w.heap.size + 1, [.int .i64 0, .int .i64 0, .int .i64 0, .int .i64 0, .int .i64 0, .int .i64 0, .int .i64 0, .int .i64 0, .int .i64 0, .int .i64 0, .int .i64 0, .int .i64 0, .int .i64 0, .int .i64 0, .int .i64 0, .int .i64 0]), (w.heap.size, [.int .i64 65536, .int .i64 65536, .int .i64 65536, .int .i64 65536])]) := Lib.hid ⟨_, rfl, by
        have h := ho.put1 0 rfl (5 * k) (by simpa using hl) (.int .i64 65536)
        rw [Sx.dk_next k hlt] at h
        exact h⟩
      clear ho e5
      generalize 5 * k = j at *
      go_wp2_with (go_at_call 66; (with_reducible refine (V1 _).mono ?_); rintro e w' ⟨rfl, rfl⟩)
      go_roundw
      case rel =>
        obtain ⟨W, e, h⟩ := HN.out
        exact ⟨k + 1, by omega, by go_num, e ▸ h⟩
      case measure => simp [msrS, intOf]; omega
    · obtain rfl : k = 4 := by omega
      have HO := Lib.hid ho
      clear ho
      go_wp2_with (first | ((with_reducible show wpList _ _ _ ({ dst := _, op := Op.load 23 (Operand.tmp 3), type := _, pos := _, after := _, guard := _ } :: _) _ _); refine wpList_ldr ty_mat rfl _ rfl _ rfl _ rfl (HO.out.at 0 rfl) ?_) | ((with_reducible show wpList _ _ _ ({ dst := _, op := Op.store 23 (Operand.tmp 2) _, type := _, pos := _, after := _, guard := _ } :: _) _ _); refine wpList_sto ty_mat HO.out 1 [.int .i64 ((Sx.dk 4) 0), .int .i64 ((Sx.dk 4) 1), .int .i64 ((Sx.dk 4) 2), .int .i64 ((Sx.dk 4) 3), .int .i64 ((Sx.dk 4) 4), .int .i64 ((Sx.dk 4) 5), .int .i64 ((Sx.dk 4) 6), .int .i64 ((Sx.dk 4) 7), .int .i64 ((Sx.dk 4) 8), .int .i64 ((Sx.dk 4) 9), .int .i64 ((Sx.dk 4) 10), .int .i64 ((Sx.dk 4) 11), .int .i64 ((Sx.dk 4) 12), .int .i64 ((Sx.dk 4) 13), .int .i64 ((Sx.dk 4) 14), .int .i64 ((Sx.dk 4) 15)] rfl _ _ rfl _ rfl rfl _ rfl rfl rfl rfl ?_; intro w2 l2; clear HO; have HO := Lib.hid l2; clear l2))
      exact bodyPost_ret (results_c ty_mat rfl rfl rfl (HO.out.at 1 rfl)) rfl ⟨rfl, HO.out.k⟩
theorem identity_any (w : World) :
    Calls Try.prog 36 #[] w fun e w' => e = .returned (.agg #[.int .i64 ((Sx.idn) 0), .int .i64 ((Sx.idn) 1), .int .i64 ((Sx.idn) 2), .int .i64 ((Sx.idn) 3), .int .i64 ((Sx.idn) 4), .int .i64 ((Sx.idn) 5), .int .i64 ((Sx.idn) 6), .int .i64 ((Sx.idn) 7), .int .i64 ((Sx.idn) 8), .int .i64 ((Sx.idn) 9), .int .i64 ((Sx.idn) 10), .int .i64 ((Sx.idn) 11), .int .i64 ((Sx.idn) 12), .int .i64 ((Sx.idn) 13), .int .i64 ((Sx.idn) 14), .int .i64 ((Sx.idn) 15)]) ∧ Kp w.heap.size w w' := by
  have HO := Lib.hid ((Ow.refl w).newAt (w.heap.size) rfl (.int .i64 0) [.int .i64 0, .int .i64 0, .int .i64 0, .int .i64 0, .int .i64 0, .int .i64 0, .int .i64 0, .int .i64 0, .int .i64 0, .int .i64 0, .int .i64 0, .int .i64 0, .int .i64 0, .int .i64 0, .int .i64 0] 23)
  go_enter Try.func36, Try.ntmps36
  go_wp2_with (first | ((with_reducible show wpList _ _ _ ({ dst := _, op := Op.store 23 (Operand.tmp 0) _, type := _, pos := _, after := _, guard := _ } :: _) _ _); refine wpList_sto ty_mat HO.out 0 [.int .i64 (Sx.idn 0), .int .i64 (Sx.idn 1), .int .i64 (Sx.idn 2), .int .i64 (Sx.idn 3), .int .i64 (Sx.idn 4), .int .i64 (Sx.idn 5), .int .i64 (Sx.idn 6), .int .i64 (Sx.idn 7), .int .i64 (Sx.idn 8), .int .i64 (Sx.idn 9), .int .i64 (Sx.idn 10), .int .i64 (Sx.idn 11), .int .i64 (Sx.idn 12), .int .i64 (Sx.idn 13), .int .i64 (Sx.idn 14), .int .i64 (Sx.idn 15)] rfl _ _ rfl _ rfl rfl _ rfl rfl rfl rfl ?_; intro w2 l2; clear HO; have HO := Lib.hid l2; clear l2) | (go_at_call 59; refine (diagonal_one _).mono ?_; rintro e wz ⟨rfl, hk1⟩; have l2 := HO.out.call hk1; clear HO hk1; have HO := Lib.hid l2; clear l2))
  exact bodyPost_ret (results_c ty_mat rfl rfl rfl (HO.out.at 0 rfl)) rfl ⟨rfl, HO.out.k⟩
theorem ridentity_any (w : World) :
    Calls Try.prog 39 #[] w fun e w' => e = .returned (.agg #[.int .i64 ((Sx.idn) 0), .int .i64 ((Sx.idn) 1), .int .i64 ((Sx.idn) 2), .int .i64 ((Sx.idn) 3), .int .i64 ((Sx.idn) 4), .int .i64 ((Sx.idn) 5), .int .i64 ((Sx.idn) 6), .int .i64 ((Sx.idn) 7), .int .i64 ((Sx.idn) 8), .int .i64 ((Sx.idn) 9), .int .i64 ((Sx.idn) 10), .int .i64 ((Sx.idn) 11), .int .i64 ((Sx.idn) 12), .int .i64 ((Sx.idn) 13), .int .i64 ((Sx.idn) 14), .int .i64 ((Sx.idn) 15)]) ∧ Kp w.heap.size w w' := by
  have HO := Lib.hid ((Ow.refl w).newAt (w.heap.size) rfl (.int .i64 0) [.int .i64 0, .int .i64 0, .int .i64 0, .int .i64 0, .int .i64 0, .int .i64 0, .int .i64 0, .int .i64 0, .int .i64 0, .int .i64 0, .int .i64 0, .int .i64 0, .int .i64 0, .int .i64 0, .int .i64 0] 23)
  go_enter Try.func39, Try.ntmps39
  go_wp2_with ((with_reducible show wpList _ _ _ ({ dst := _, op := Op.store 23 (Operand.tmp 0) _, type := _, pos := _, after := _, guard := _ } :: _) _ _); refine wpList_sto ty_mat HO.out 0 [.int .i64 65536, .int .i64 0, .int .i64 0, .int .i64 0, .int .i64 0, .int .i64 65536, .int .i64 0, .int .i64 0, .int .i64 0, .int .i64 0, .int .i64 65536, .int .i64 0, .int .i64 0, .int .i64 0, .int .i64 0, .int .i64 65536] rfl _ _ rfl _ rfl rfl _ rfl rfl rfl rfl ?_; intro w2 l2; clear HO; have HO := Lib.hid l2; clear l2)
  exact bodyPost_ret (results_c ty_mat rfl rfl rfl (HO.out.at 0 rfl)) rfl ⟨rfl, HO.out.k⟩
/-- the error of a test, and of a truth -/
theorem tested_any (k t : Int) (w : World) :
    Calls Try.prog 18 #[.int .i64 k, .int .i64 t] w fun e w' => e = .returned (.int .i64 (Sx.fst [Sx.test k, Sx.flag t])) ∧ w = w' := by
  have R1 := fun W => ris_any k W
  cases h : Dp.is k
  · have HR : Hid (Sx.fst [Sx.test k, Sx.flag t] = 9) := Lib.hid (by simp [Sx.fst, Sx.test, h])
    rw [h] at R1
    go_enter Try.func18, Try.ntmps18
    go_wp2_with (first | go_big_skip | (go_at_call 24; (with_reducible refine (R1 _).mono ?_); rintro e w' ⟨rfl, rfl⟩))
    go_ret
    exact ⟨ret_int HR.out.symm, rfl⟩
  · rw [h] at R1
    have HT : Hid (Sx.fst [Sx.test k, Sx.flag t] = Sx.flag t) := Lib.hid (by simp only [Sx.fst, Sx.test, h, if_true]; split <;> simp_all)
    by_cases h0 : t = 0
    · subst h0
      have HR : Hid (Sx.fst [Sx.test k, Sx.flag 0] = 0) := Lib.hid (by rw [HT.out]; rfl)
      go_enter Try.func18, Try.ntmps18
      go_wp2_with (first | go_big_skip | (go_at_call 24; (with_reducible refine (R1 _).mono ?_); rintro e w' ⟨rfl, rfl⟩))
      go_ret
      exact ⟨ret_int HR.out.symm, rfl⟩
    have b0 : (t != 0) = true := by simpa using h0
    by_cases h1 : t = 1
    · subst h1
      have HR : Hid (Sx.fst [Sx.test k, Sx.flag 1] = 0) := Lib.hid (by rw [HT.out]; rfl)
      go_enter Try.func18, Try.ntmps18
      go_wp2_with (first | go_big_skip | (go_at_call 24; (with_reducible refine (R1 _).mono ?_); rintro e w' ⟨rfl, rfl⟩))
      go_ret
      exact ⟨ret_int HR.out.symm, rfl⟩
    · have b1 : (t != 1) = true := by simpa using h1
      have HR : Hid (Sx.fst [Sx.test k, Sx.flag t] = 2) := Lib.hid (by
        rw [HT.out]
        have : Sx.wi 0 1 t = false := by rw [← Bool.not_eq_true, Sx.wi_iff]; omega
        unfold Sx.flag; rw [this]; rfl)
      clear h0 h1 HT
      go_enter Try.func18, Try.ntmps18
      go_wp2_with (first | go_big_skip | (go_at_call 24; (with_reducible refine (R1 _).mono ?_); rintro e w' ⟨rfl, rfl⟩))
      go_ret
      exact ⟨ret_int HR.out.symm, rfl⟩
end Go.Proofs.Ytoejknkjfnnffaa
