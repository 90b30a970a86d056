/-
  Contracts of layer 6 (tint): Unpack, where nothing else of that layer is called.
-/
import Derived.Test.YtbhpjklomnjkfaaTintWalks
namespace Go.Proofs.Ytbhpjklomnjkfaa
open Go.RowKit

/-- the channels of a packed colour -/
theorem unpack1_any (n k : Int) (i : Nat) (hk : k = i) (hi : i < 4) (bx : Nat) (w : World) (hR : Rc w bx [.int .i64 n]) (hn : 0 ≤ n ∧ n ≤ 4294967295) :
    Calls Try.prog 34 #[.int .i64 k, .pointer (some ⟨bx, 0, none⟩)] w fun e w' => e = .returned (.int .i64 (Tn.part n i)) ∧ w = w' := by
  have c0 := hR.cell 0 rfl
  have hb := bits_255
  obtain ⟨h1, h2⟩ := hn
  clear hR
  obtain ⟨rfl, rfl⟩ | ⟨rfl, rfl⟩ | ⟨rfl, rfl⟩ | ⟨rfl, rfl⟩ : i = 0 ∧ k = 0 ∨ i = 1 ∧ k = 1 ∨ i = 2 ∧ k = 2 ∨ i = 3 ∧ k = 3 := by omega
  all_goals
    clear hk hi
    go_enter Try.func34, Try.ntmps34
    go_wp2
    go_ret
    exact ⟨ret_int (by first | rw [Tn.part0] | rw [Tn.part1] | rw [Tn.part2] | rw [Tn.part3]), rfl⟩
set_option maxHeartbeats 1000000 in
theorem made_unpack (n : Int) (bx : Nat) (w : World) (hR : Rc w bx [.int .i64 n]) (hn : 0 ≤ n ∧ n ≤ 4294967295) :
    Calls Try.prog 33 #[.func (Fn.func 34) #[] #[.pointer (some ⟨bx, 0, none⟩)]] w fun e w' => e = .returned (.agg #[.int .i64 (Tn.part n 0), .int .i64 (Tn.part n 1), .int .i64 (Tn.part n 2), .int .i64 (Tn.part n 3)]) ∧ Kp w.heap.size w w' := by
  have HR := Lib.hid (hR.kp (Kp.new w #[.int .i64 0, .int .i64 0, .int .i64 0, .int .i64 0] 29) (hR.lt (by simp)))
  clear hR
  go_enter Try.func33, Try.ntmps33
  go_wp2_with (go_at_call 34; (first | with_reducible refine (unpack1_any n 0 0 rfl (by omega) bx _ HR.out hn).mono ?_ | with_reducible refine (unpack1_any n 1 1 rfl (by omega) bx _ HR.out hn).mono ?_ | with_reducible refine (unpack1_any n 2 2 rfl (by omega) bx _ HR.out hn).mono ?_ | with_reducible refine (unpack1_any n 3 3 rfl (by omega) bx _ HR.out hn).mono ?_); rintro e w' ⟨rfl, rfl⟩)
  exact bodyPost_ret (results_c ty_color rfl rfl rfl (Rc.new w [.int .i64 _, .int .i64 _, .int .i64 _, .int .i64 _] _ rfl)) rfl ⟨rfl, Kp.new _ _ _⟩

set_option maxHeartbeats 1000000 in
theorem unpack_no (n : Int) (w : World) (h : n < 0 ∨ 4294967295 < n) :
    Calls Try.prog 24 #[.int .i64 n] w fun e w' => e = .returned (.tuple #[.agg #[.int .i64 0, .int .i64 0, .int .i64 0, .int .i64 0], .int .i64 3]) ∧ Kp w.heap.size w w' := by
  have HO := Lib.hid (((Ow.refl w).newAt w.heap.size rfl (.int .i64 n) [] 3).newAt (w.heap.size + 1) (by simp) (.int .i64 0) [.int .i64 0, .int .i64 0, .int .i64 0] 29)
  by_cases h1 : n < 0
  · go_enter Try.func24, Try.ntmps24
    go_wp2_with (first | go_skip | ((with_reducible show wpList _ _ _ ({ dst := _, op := Op.store 29 _ _, type := _, pos := _, after := _, guard := _ } :: _) _ _); refine wpList_sto ty_color HO.out 0 [.int .i64 0, .int .i64 0, .int .i64 0, .int .i64 0] rfl _ _ rfl _ rfl rfl _ rfl rfl rfl rfl ?_; intro w2 l2; clear HO; have HO := Lib.hid l2; clear l2))
    exact bodyPost_ret (results_c2 ty_color rfl rfl rfl rfl (HO.out.at 0 rfl)) rfl ⟨rfl, HO.out.k⟩
  · have hd : decide (n < 0) = false := decide_eq_false h1
    have h2 : 4294967295 < n := by omega
    go_enter Try.func24, Try.ntmps24
    go_wp2_with (first | go_skip | ((with_reducible show wpList _ _ _ ({ dst := _, op := Op.store 29 _ _, type := _, pos := _, after := _, guard := _ } :: _) _ _); refine wpList_sto ty_color HO.out 0 [.int .i64 0, .int .i64 0, .int .i64 0, .int .i64 0] rfl _ _ rfl _ rfl rfl _ rfl rfl rfl rfl ?_; intro w2 l2; clear HO; have HO := Lib.hid l2; clear l2))
    exact bodyPost_ret (results_c2 ty_color rfl rfl rfl rfl (HO.out.at 0 rfl)) rfl ⟨rfl, HO.out.k⟩
set_option maxHeartbeats 1000000 in
theorem unpack_yes (n : Int) (w : World) (h : 0 ≤ n ∧ n ≤ 4294967295) :
    Calls Try.prog 24 #[.int .i64 n] w fun e w' => e = .returned (.tuple #[.agg #[.int .i64 (Tn.part n 0), .int .i64 (Tn.part n 1), .int .i64 (Tn.part n 2), .int .i64 (Tn.part n 3)], .int .i64 0]) ∧ Kp w.heap.size w w' := by
  have HO := Lib.hid (((Ow.refl w).newAt w.heap.size rfl (.int .i64 n) [] 3).newAt (w.heap.size + 1) (by simp) (.int .i64 0) [.int .i64 0, .int .i64 0, .int .i64 0] 29)
  obtain ⟨h1, h2⟩ := h
  have hd : decide (n < 0) = false := decide_eq_false (by omega)
  have hd2 : decide (4294967295 < n) = false := decide_eq_false (by omega)
  go_enter Try.func24, Try.ntmps24
  go_wp2_with (first | go_skip | (go_at_call 33; refine (made_unpack n w.heap.size _ (HO.out.at 1 rfl) ⟨h1, h2⟩).mono ?_; rintro e w1 ⟨rfl, hk⟩; have l2 := HO.out.call hk; clear HO hk; have HO := Lib.hid l2; clear l2) | ((with_reducible show wpList _ _ _ ({ dst := _, op := Op.store 29 _ _, type := _, pos := _, after := _, guard := _ } :: _) _ _); refine wpList_sto ty_color HO.out 0 [.int .i64 (Tn.part n 0), .int .i64 (Tn.part n 1), .int .i64 (Tn.part n 2), .int .i64 (Tn.part n 3)] rfl _ _ rfl _ rfl rfl _ rfl rfl rfl rfl ?_; intro w2 l2; clear HO; have HO := Lib.hid l2; clear l2))
  exact bodyPost_ret (results_c2 ty_color rfl rfl rfl rfl (HO.out.at 0 rfl)) rfl ⟨rfl, HO.out.k⟩

end Go.Proofs.Ytbhpjklomnjkfaa
