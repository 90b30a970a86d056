/-
  Contracts of layer 18 (state): the identity, the code's and the document's; the document's truths.
-/
import Derived.Test.YtankjlpanmmogaaGreatJEdgeWalks
import Derived.BigGuard
namespace Go.Proofs.YtankjlpanmmogaaGreat
set_option maxRecDepth 100000
open Go.RowKit

/-- the first k numbers of the diagonal are laid -/
def Sx.dk (k : Nat) : Sf := fun i => if i % 5 = 0 ∧ i / 5 < k then 65536 else 0
theorem vat_any (i j : Int) (w : World) (hi : 0 ≤ i ∧ i ≤ 3) (hj : 0 ≤ j ∧ j ≤ 3) :
    Calls Tryz.prog 98 #[.int .i64 i, .int .i64 j] w fun e w' => e = .returned (.int .i64 (i * 4 + j)) ∧ w = w' := by
  obtain ⟨h1, h2⟩ := hi
  obtain ⟨h3, h4⟩ := hj
  go_enter Tryz.func98, Tryz.ntmps98
  go_wp2
  all_goals go_ret
  all_goals exact ⟨rfl, rfl⟩
theorem ty_vrow : Ty 111 4 := ⟨by kernel_rfl, _, Tryz.underlying111, rfl⟩
theorem Sx.dk_zero : ([.int .i64 ((Sx.dk 0) 0), .int .i64 ((Sx.dk 0) 1), .int .i64 ((Sx.dk 0) 2), .int .i64 ((Sx.dk 0) 3), .int .i64 ((Sx.dk 0) 4), .int .i64 ((Sx.dk 0) 5), .int .i64 ((Sx.dk 0) 6), .int .i64 ((Sx.dk 0) 7), .int .i64 ((Sx.dk 0) 8), .int .i64 ((Sx.dk 0) 9), .int .i64 ((Sx.dk 0) 10), .int .i64 ((Sx.dk 0) 11), .int .i64 ((Sx.dk 0) 12), .int .i64 ((Sx.dk 0) 13), .int .i64 ((Sx.dk 0) 14), .int .i64 ((Sx.dk 0) 15)] : List Value) = [.int .i64 0, .int .i64 0, .int .i64 0, .int .i64 0, .int .i64 0, .int .i64 0, .int .i64 0, .int .i64 0, .int .i64 0, .int .i64 0, .int .i64 0, .int .i64 0, .int .i64 0, .int .i64 0, .int .i64 0, .int .i64 0] := rfl
theorem ixv (k : Nat) (hk : k < 4) (w : World) : (Instr.index 111 (.agg #[.int .i64 65536, .int .i64 65536, .int .i64 65536, .int .i64 65536]) (.int .i64 k)).run Tryz.prog w = .ok (.int .i64 65536) w := by
  rcases k with _ | _ | _ | _ | k
  all_goals first | omega | kernel_rfl
theorem Sx.dk_next (k : Nat) (hk : k < 4) : ([.int .i64 ((Sx.dk k) 0), .int .i64 ((Sx.dk k) 1), .int .i64 ((Sx.dk k) 2), .int .i64 ((Sx.dk k) 3), .int .i64 ((Sx.dk k) 4), .int .i64 ((Sx.dk k) 5), .int .i64 ((Sx.dk k) 6), .int .i64 ((Sx.dk k) 7), .int .i64 ((Sx.dk k) 8), .int .i64 ((Sx.dk k) 9), .int .i64 ((Sx.dk k) 10), .int .i64 ((Sx.dk k) 11), .int .i64 ((Sx.dk k) 12), .int .i64 ((Sx.dk k) 13), .int .i64 ((Sx.dk k) 14), .int .i64 ((Sx.dk k) 15)] : List Value).set (5 * k) (.int .i64 65536) = [.int .i64 ((Sx.dk (k + 1)) 0), .int .i64 ((Sx.dk (k + 1)) 1), .int .i64 ((Sx.dk (k + 1)) 2), .int .i64 ((Sx.dk (k + 1)) 3), .int .i64 ((Sx.dk (k + 1)) 4), .int .i64 ((Sx.dk (k + 1)) 5), .int .i64 ((Sx.dk (k + 1)) 6), .int .i64 ((Sx.dk (k + 1)) 7), .int .i64 ((Sx.dk (k + 1)) 8), .int .i64 ((Sx.dk (k + 1)) 9), .int .i64 ((Sx.dk (k + 1)) 10), .int .i64 ((Sx.dk (k + 1)) 11), .int .i64 ((Sx.dk (k + 1)) 12), .int .i64 ((Sx.dk (k + 1)) 13), .int .i64 ((Sx.dk (k + 1)) 14), .int .i64 ((Sx.dk (k + 1)) 15)] := by
  rcases k with _ | _ | _ | _ | k
  all_goals first | omega | rfl
set_option maxHeartbeats 2000000 in
theorem diagonal_one (w : World) :
    Calls Tryz.prog 63 #[.agg #[.int .i64 65536, .int .i64 65536, .int .i64 65536, .int .i64 65536]] w fun e w' => e = .returned (.agg #[.int .i64 ((Sx.idn) 0), .int .i64 ((Sx.idn) 1), .int .i64 ((Sx.idn) 2), .int .i64 ((Sx.idn) 3), .int .i64 ((Sx.idn) 4), .int .i64 ((Sx.idn) 5), .int .i64 ((Sx.idn) 6), .int .i64 ((Sx.idn) 7), .int .i64 ((Sx.idn) 8), .int .i64 ((Sx.idn) 9), .int .i64 ((Sx.idn) 10), .int .i64 ((Sx.idn) 11), .int .i64 ((Sx.idn) 12), .int .i64 ((Sx.idn) 13), .int .i64 ((Sx.idn) 14), .int .i64 ((Sx.idn) 15)]) ∧ Kp w.heap.size w w' := by
  have HO := Lib.hid ((((Ow.refl w).newAt (w.heap.size) rfl (.int .i64 65536) [.int .i64 65536, .int .i64 65536, .int .i64 65536] 111).newAt (w.heap.size + 1) (by simp) (.int .i64 0) [.int .i64 0, .int .i64 0, .int .i64 0, .int .i64 0, .int .i64 0, .int .i64 0, .int .i64 0, .int .i64 0, .int .i64 0, .int .i64 0, .int .i64 0, .int .i64 0, .int .i64 0, .int .i64 0, .int .i64 0] 43).newAt (w.heap.size + 2) (by simp) (.int .i64 0) [.int .i64 0, .int .i64 0, .int .i64 0, .int .i64 0, .int .i64 0, .int .i64 0, .int .i64 0, .int .i64 0, .int .i64 0, .int .i64 0, .int .i64 0, .int .i64 0, .int .i64 0, .int .i64 0, .int .i64 0] 43)
  go_enter Tryz.func63, Tryz.ntmps63
  go_wp2_with ((with_reducible show wpList _ _ _ ({ dst := _, op := Op.load 111 (Operand.tmp 1), type := _, pos := _, after := _, guard := _ } :: _) _ _); refine wpList_ldr ty_vrow rfl _ rfl _ rfl _ rfl (HO.out.at 2 rfl) ?_)
  go_loopw [7] (fun i wr => ∃ k : Nat, k ≤ 4 ∧ i = .int .i64 k ∧ Ow w wr [(w.heap.size + 2, [.int .i64 ((Sx.dk k) 0), .int .i64 ((Sx.dk k) 1), .int .i64 ((Sx.dk k) 2), .int .i64 ((Sx.dk k) 3), .int .i64 ((Sx.dk k) 4), .int .i64 ((Sx.dk k) 5), .int .i64 ((Sx.dk k) 6), .int .i64 ((Sx.dk k) 7), .int .i64 ((Sx.dk k) 8), .int .i64 ((Sx.dk k) 9), .int .i64 ((Sx.dk k) 10), .int .i64 ((Sx.dk k) 11), .int .i64 ((Sx.dk k) 12), .int .i64 ((Sx.dk k) 13), .int .i64 ((Sx.dk k) 14), .int .i64 ((Sx.dk k) 15)]), (w.heap.size + 1, [.int .i64 0, .int .i64 0, .int .i64 0, .int .i64 0, .int .i64 0, .int .i64 0, .int .i64 0, .int .i64 0, .int .i64 0, .int .i64 0, .int .i64 0, .int .i64 0, .int .i64 0, .int .i64 0, .int .i64 0, .int .i64 0]), (w.heap.size, [.int .i64 65536, .int .i64 65536, .int .i64 65536, .int .i64 65536])]) (fun i _ => msrS 4 i)
  case atStart => exact ⟨0, by omega, rfl, by rw [Sx.dk_zero]; exact HO.out⟩
  case round =>
    clear HO
    obtain ⟨k, hk, rfl, ho⟩ := hrel
    by_cases hlt : k < 4
    · have hi := fun W => ixv k hlt W
      have z2 : (k : Int) < 4 := by omega
      have V1 := fun W => vat_any k k W (by omega) (by omega)
      have e5 : (k : Int) * 4 + k = ((5 * k : Nat) : Int) := by omega
      rw [e5] at V1
      have hl : 5 * k < 16 := by omega
      have cc := (ho.at 0 rfl).cell (5 * k) (get16 (Sx.dk k) (5 * k) hl)
      have ff := (ho.at 0 rfl).froz (5 * k) (by simpa using hl)
      have HN : Hid (∃ W, wr.setCell ⟨w.heap.size + 2, 5 * k, none⟩ (.int .i64 65536) = W ∧ Ow w W [(w.heap.size + 2, [.int .i64 ((Sx.dk (k + 1)) 0), .int .i64 ((Sx.dk (k + 1)) 1), .int .i64 ((Sx.dk (k + 1)) 2), .int .i64 ((Sx.dk (k + 1)) 3), .int .i64 ((Sx.dk (k + 1)) 4), .int .i64 ((Sx.dk (k + 1)) 5), .int .i64 ((Sx.dk (k + 1)) 6), .int .i64 ((Sx.dk (k + 1)) 7), .int .i64 ((Sx.dk (k + 1)) 8), .int .i64 ((Sx.dk (k + 1)) 9), .int .i64 ((Sx.dk (k + 1)) 10), .int .i64 ((Sx.dk (k + 1)) 11), .int .i64 ((Sx.dk (k + 1)) 12), .int .i64 ((Sx.dk (k + 1)) 13), .int .i64 ((Sx.dk (k + 1)) 14), .int .i64 ((Sx.dk (k + 1)) 15)]), (w.heap.size + 1, [.int .i64 0, .int .i64 0, .int .i64 0, .int .i64 0, .int .i64 0, .int .i64 0, .int .i64 0, .int .i64 0, .int .i64 0, .int .i64 0, .int .i64 0, .int .i64 0, .int .i64 0, .int .i64 0, .int .i64 0, .int .i64 0]), (w.heap.size, [.int .i64 65536, .int .i64 65536, .int .i64 65536, .int .i64 65536])]) := Lib.hid ⟨_, rfl, by
        have h := ho.put1 0 rfl (5 * k) (by simpa using hl) (.int .i64 65536)
        rw [Sx.dk_next k hlt] at h
        exact h⟩
      clear ho e5
      generalize 5 * k = j at *
      go_wp2_with (go_at_call 98; (with_reducible refine (V1 _).mono ?_); rintro e w' ⟨rfl, rfl⟩)
      go_roundw
      case rel =>
        obtain ⟨W, e, h⟩ := HN.out
        exact ⟨k + 1, by omega, by go_num, e ▸ h⟩
      case measure => simp [msrS, intOf]; omega
    · obtain rfl : k = 4 := by omega
      have HO := Lib.hid ho
      clear ho
      go_wp2_with (first | ((with_reducible show wpList _ _ _ ({ dst := _, op := Op.load 43 (Operand.tmp 3), type := _, pos := _, after := _, guard := _ } :: _) _ _); refine wpList_ldr ty_mat rfl _ rfl _ rfl _ rfl (HO.out.at 0 rfl) ?_) | ((with_reducible show wpList _ _ _ ({ dst := _, op := Op.store 43 (Operand.tmp 2) _, type := _, pos := _, after := _, guard := _ } :: _) _ _); refine wpList_sto ty_mat HO.out 1 [.int .i64 ((Sx.dk 4) 0), .int .i64 ((Sx.dk 4) 1), .int .i64 ((Sx.dk 4) 2), .int .i64 ((Sx.dk 4) 3), .int .i64 ((Sx.dk 4) 4), .int .i64 ((Sx.dk 4) 5), .int .i64 ((Sx.dk 4) 6), .int .i64 ((Sx.dk 4) 7), .int .i64 ((Sx.dk 4) 8), .int .i64 ((Sx.dk 4) 9), .int .i64 ((Sx.dk 4) 10), .int .i64 ((Sx.dk 4) 11), .int .i64 ((Sx.dk 4) 12), .int .i64 ((Sx.dk 4) 13), .int .i64 ((Sx.dk 4) 14), .int .i64 ((Sx.dk 4) 15)] rfl _ _ rfl _ rfl rfl _ rfl rfl rfl rfl ?_; intro w2 l2; clear HO; have HO := Lib.hid l2; clear l2))
      exact bodyPost_ret (results_c ty_mat rfl rfl rfl (HO.out.at 1 rfl)) rfl ⟨rfl, HO.out.k⟩
theorem identity_any (w : World) :
    Calls Tryz.prog 30 #[] w fun e w' => e = .returned (.agg #[.int .i64 ((Sx.idn) 0), .int .i64 ((Sx.idn) 1), .int .i64 ((Sx.idn) 2), .int .i64 ((Sx.idn) 3), .int .i64 ((Sx.idn) 4), .int .i64 ((Sx.idn) 5), .int .i64 ((Sx.idn) 6), .int .i64 ((Sx.idn) 7), .int .i64 ((Sx.idn) 8), .int .i64 ((Sx.idn) 9), .int .i64 ((Sx.idn) 10), .int .i64 ((Sx.idn) 11), .int .i64 ((Sx.idn) 12), .int .i64 ((Sx.idn) 13), .int .i64 ((Sx.idn) 14), .int .i64 ((Sx.idn) 15)]) ∧ Kp w.heap.size w w' := by
  have HO := Lib.hid ((Ow.refl w).newAt (w.heap.size) rfl (.int .i64 0) [.int .i64 0, .int .i64 0, .int .i64 0, .int .i64 0, .int .i64 0, .int .i64 0, .int .i64 0, .int .i64 0, .int .i64 0, .int .i64 0, .int .i64 0, .int .i64 0, .int .i64 0, .int .i64 0, .int .i64 0] 43)
  go_enter Tryz.func30, Tryz.ntmps30
  go_wp2_with (first | ((with_reducible show wpList _ _ _ ({ dst := _, op := Op.store 43 (Operand.tmp 0) _, type := _, pos := _, after := _, guard := _ } :: _) _ _); refine wpList_sto ty_mat HO.out 0 [.int .i64 (Sx.idn 0), .int .i64 (Sx.idn 1), .int .i64 (Sx.idn 2), .int .i64 (Sx.idn 3), .int .i64 (Sx.idn 4), .int .i64 (Sx.idn 5), .int .i64 (Sx.idn 6), .int .i64 (Sx.idn 7), .int .i64 (Sx.idn 8), .int .i64 (Sx.idn 9), .int .i64 (Sx.idn 10), .int .i64 (Sx.idn 11), .int .i64 (Sx.idn 12), .int .i64 (Sx.idn 13), .int .i64 (Sx.idn 14), .int .i64 (Sx.idn 15)] rfl _ _ rfl _ rfl rfl _ rfl rfl rfl rfl ?_; intro w2 l2; clear HO; have HO := Lib.hid l2; clear l2) | (go_at_call 63; refine (diagonal_one _).mono ?_; rintro e wz ⟨rfl, hk1⟩; have l2 := HO.out.call hk1; clear HO hk1; have HO := Lib.hid l2; clear l2))
  exact bodyPost_ret (results_c ty_mat rfl rfl rfl (HO.out.at 0 rfl)) rfl ⟨rfl, HO.out.k⟩
end Go.Proofs.YtankjlpanmmogaaGreat
