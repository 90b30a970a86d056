/-
  The document's own matrix, view, bound (layer 18).
-/
import Derived.Test.YtoejknkjfnnffaaStateCopy
import Derived.Test.YtoejknkjfnnffaaJDepthPlain
import Derived.BigGuard
namespace Go.Proofs.Ytoejknkjfnnffaa
open Go.RowKit

set_option linter.unusedSimpArgs false in
set_option maxRecDepth 100000 in
set_option maxHeartbeats 8000000 in
theorem matrix_no (l : List Int) (v : Value) (w : World) (hS : Sl w v (iv l)) (h : l.length ≠ 16) :
    Calls Try.prog 16 #[v] w fun e w' => e = .returned (.tuple #[.agg #[.int .i64 0, .int .i64 0, .int .i64 0, .int .i64 0, .int .i64 0, .int .i64 0, .int .i64 0, .int .i64 0, .int .i64 0, .int .i64 0, .int .i64 0, .int .i64 0, .int .i64 0, .int .i64 0, .int .i64 0, .int .i64 0], .int .i64 6]) ∧ Kp w.heap.size w w' := by
  obtain ⟨a, cp, rfl, hle, hu⟩ := hS.kept
  rw [iv_len]
  have hn : ((l.length : Int) != 16) = true := by simp; omega
  clear hS hle hu h
  generalize l.length = n at *
  have HO := Lib.hid (((Ow.refl w).newAt (w.heap.size) rfl (.int .i64 0) [.int .i64 0, .int .i64 0, .int .i64 0, .int .i64 0, .int .i64 0, .int .i64 0, .int .i64 0, .int .i64 0, .int .i64 0, .int .i64 0, .int .i64 0, .int .i64 0, .int .i64 0, .int .i64 0, .int .i64 0] 23).newAt (w.heap.size + 1) (by simp) (.int .i64 0) [.int .i64 0, .int .i64 0, .int .i64 0, .int .i64 0, .int .i64 0, .int .i64 0, .int .i64 0, .int .i64 0, .int .i64 0, .int .i64 0, .int .i64 0, .int .i64 0, .int .i64 0, .int .i64 0, .int .i64 0] 23)
  go_enter Try.func16, Try.ntmps16
  go_wp2_with (first
    | ((with_reducible show wpList _ _ _ ({ dst := _, op := Op.load 23 (Operand.tmp 4), type := _, pos := _, after := _, guard := _ } :: _) _ _); refine wpList_ldr ty_mat rfl _ rfl _ rfl _ rfl (HO.out.at 0 rfl) ?_)
    | ((with_reducible show wpList _ _ _ ({ dst := _, op := Op.store 23 (Operand.tmp 2) _, type := _, pos := _, after := _, guard := _ } :: _) _ _); refine wpList_sto ty_mat HO.out 1 [.int .i64 0, .int .i64 0, .int .i64 0, .int .i64 0, .int .i64 0, .int .i64 0, .int .i64 0, .int .i64 0, .int .i64 0, .int .i64 0, .int .i64 0, .int .i64 0, .int .i64 0, .int .i64 0, .int .i64 0, .int .i64 0] rfl _ _ rfl _ rfl rfl _ rfl rfl rfl rfl ?_; intro w2 l2; clear HO; have HO := Lib.hid l2; clear l2))
  exact bodyPost_ret (results_c2 ty_mat rfl rfl rfl rfl (HO.out.at 1 rfl)) rfl ⟨rfl, HO.out.k⟩
/-- the first k numbers are laid -/
def Sx.upto (l : List Int) (k : Nat) : Sf := fun i => if i < k then Sx.num l i else 0
theorem Sx.upto_next (l : List Int) (k : Nat) : (fun i => if i = k then Sx.num l k else Sx.upto l k i) = Sx.upto l (k + 1) := by
  funext i
  unfold Sx.upto
  by_cases h : i = k
  · subst h; rw [if_pos rfl, if_pos (by omega)]
  · rw [if_neg h]
    by_cases h2 : i < k
    · rw [if_pos h2, if_pos (by omega)]
    · rw [if_neg h2, if_neg (by omega)]
theorem Sx.upto_all (l : List Int) : ([.int .i64 ((Sx.upto l 16) 0), .int .i64 ((Sx.upto l 16) 1), .int .i64 ((Sx.upto l 16) 2), .int .i64 ((Sx.upto l 16) 3), .int .i64 ((Sx.upto l 16) 4), .int .i64 ((Sx.upto l 16) 5), .int .i64 ((Sx.upto l 16) 6), .int .i64 ((Sx.upto l 16) 7), .int .i64 ((Sx.upto l 16) 8), .int .i64 ((Sx.upto l 16) 9), .int .i64 ((Sx.upto l 16) 10), .int .i64 ((Sx.upto l 16) 11), .int .i64 ((Sx.upto l 16) 12), .int .i64 ((Sx.upto l 16) 13), .int .i64 ((Sx.upto l 16) 14), .int .i64 ((Sx.upto l 16) 15)] : List Value) = [.int .i64 ((Sx.num l) 0), .int .i64 ((Sx.num l) 1), .int .i64 ((Sx.num l) 2), .int .i64 ((Sx.num l) 3), .int .i64 ((Sx.num l) 4), .int .i64 ((Sx.num l) 5), .int .i64 ((Sx.num l) 6), .int .i64 ((Sx.num l) 7), .int .i64 ((Sx.num l) 8), .int .i64 ((Sx.num l) 9), .int .i64 ((Sx.num l) 10), .int .i64 ((Sx.num l) 11), .int .i64 ((Sx.num l) 12), .int .i64 ((Sx.num l) 13), .int .i64 ((Sx.num l) 14), .int .i64 ((Sx.num l) 15)] := rfl
theorem Sx.upto_zero (l : List Int) : ([.int .i64 ((Sx.upto l 0) 0), .int .i64 ((Sx.upto l 0) 1), .int .i64 ((Sx.upto l 0) 2), .int .i64 ((Sx.upto l 0) 3), .int .i64 ((Sx.upto l 0) 4), .int .i64 ((Sx.upto l 0) 5), .int .i64 ((Sx.upto l 0) 6), .int .i64 ((Sx.upto l 0) 7), .int .i64 ((Sx.upto l 0) 8), .int .i64 ((Sx.upto l 0) 9), .int .i64 ((Sx.upto l 0) 10), .int .i64 ((Sx.upto l 0) 11), .int .i64 ((Sx.upto l 0) 12), .int .i64 ((Sx.upto l 0) 13), .int .i64 ((Sx.upto l 0) 14), .int .i64 ((Sx.upto l 0) 15)] : List Value) = [.int .i64 0, .int .i64 0, .int .i64 0, .int .i64 0, .int .i64 0, .int .i64 0, .int .i64 0, .int .i64 0, .int .i64 0, .int .i64 0, .int .i64 0, .int .i64 0, .int .i64 0, .int .i64 0, .int .i64 0, .int .i64 0] := rfl
theorem Sx.num_get {l : List Int} {k : Nat} (h : k < l.length) : (iv l)[k]? = some (.int .i64 (Sx.num l k)) := by
  rw [iv_get h]; unfold Sx.num; rw [List.getD_eq_getElem?_getD, List.getElem?_eq_getElem h]; rfl
/-- a slice of n numbers: where they lie -/
theorem Sl.nums {w : World} {v : Value} {l : List Int} (hS : Sl w v (iv l)) (h : 0 < l.length) : ∃ b o c, v = .slice (some ⟨b, o, none⟩) l.length c ∧ ∀ W, Kp w.heap.size w W → ∀ k, k < l.length → W.cell? ⟨b, o + k, none⟩ = some (.int .i64 (Sx.num l k)) := by
  obtain ⟨a, cp, rfl, hle, hu⟩ := hS.kept
  obtain ⟨b, o, rfl, _⟩ := hu w (Kp.refl _ _) 0 _ (Sx.num_get h)
  refine ⟨b, o, cp, by rw [iv_len], fun W hk k hl => ?_⟩
  obtain ⟨b2, o2, e, h2⟩ := hu W hk k _ (Sx.num_get hl)
  cases e
  exact h2
set_option linter.unusedSimpArgs false in
set_option maxRecDepth 100000 in
set_option maxHeartbeats 8000000 in
theorem matrix_yes (l : List Int) (v : Value) (w : World) (hS : Sl w v (iv l)) (h : l.length = 16) :
    Calls Try.prog 16 #[v] w fun e w' => e = .returned (.tuple #[.agg #[.int .i64 ((Sx.num l) 0), .int .i64 ((Sx.num l) 1), .int .i64 ((Sx.num l) 2), .int .i64 ((Sx.num l) 3), .int .i64 ((Sx.num l) 4), .int .i64 ((Sx.num l) 5), .int .i64 ((Sx.num l) 6), .int .i64 ((Sx.num l) 7), .int .i64 ((Sx.num l) 8), .int .i64 ((Sx.num l) 9), .int .i64 ((Sx.num l) 10), .int .i64 ((Sx.num l) 11), .int .i64 ((Sx.num l) 12), .int .i64 ((Sx.num l) 13), .int .i64 ((Sx.num l) 14), .int .i64 ((Sx.num l) 15)], .int .i64 (Sx.cell (Sx.num l))]) ∧ Kp w.heap.size w w' := by
  obtain ⟨b, o, cp, rfl, hu⟩ := hS.nums (by omega)
  have HU : Hid (∀ W, Kp w.heap.size w W → ∀ k, k < 16 → W.cell? ⟨b, o + k, none⟩ = some (.int .i64 (Sx.num l k))) := Lib.hid fun W hk k hl => hu W hk k (by omega)
  have M1 := fun W => rmay_any (Sx.num l) W
  have HC : Hid (Sx.cell (Sx.num l) = if Vc.wi 16777216 (Sx.num l) 16 then 0 else 11) := Lib.hid rfl
  have HZ := Lib.hid (Sx.upto_zero l)
  have HA := Lib.hid (Sx.upto_all l)
  have HN := Lib.hid (fun k => Sx.upto_next l k)
  have HP := Lib.hid (fun k => set16 (Sx.upto l k) k (Sx.num l k))
  rw [h]
  clear hS hu h
  have HO := Lib.hid (((Ow.refl w).newAt (w.heap.size) rfl (.int .i64 0) [.int .i64 0, .int .i64 0, .int .i64 0, .int .i64 0, .int .i64 0, .int .i64 0, .int .i64 0, .int .i64 0, .int .i64 0, .int .i64 0, .int .i64 0, .int .i64 0, .int .i64 0, .int .i64 0, .int .i64 0] 23).newAt (w.heap.size + 1) (by simp) (.int .i64 0) [.int .i64 0, .int .i64 0, .int .i64 0, .int .i64 0, .int .i64 0, .int .i64 0, .int .i64 0, .int .i64 0, .int .i64 0, .int .i64 0, .int .i64 0, .int .i64 0, .int .i64 0, .int .i64 0, .int .i64 0] 23)
  go_enter Try.func16, Try.ntmps16
  go_wp2_with fail
  go_loopw [5] (fun i wr => ∃ k : Nat, k ≤ 16 ∧ i = .int .i64 k ∧ Ow w wr [(w.heap.size + 1, [.int .i64 ((Sx.upto l k) 0), .int .i64 ((Sx.upto l k) 1), .int .i64 ((Sx.upto l k) 2), .int .i64 ((Sx.upto l k) 3), .int .i64 ((Sx.upto l k) 4), .int .i64 ((Sx.upto l k) 5), .int .i64 ((Sx.upto l k) 6), .int .i64 ((Sx.upto l k) 7), .int .i64 ((Sx.upto l k) 8), .int .i64 ((Sx.upto l k) 9), .int .i64 ((Sx.upto l k) 10), .int .i64 ((Sx.upto l k) 11), .int .i64 ((Sx.upto l k) 12), .int .i64 ((Sx.upto l k) 13), .int .i64 ((Sx.upto l k) 14), .int .i64 ((Sx.upto l k) 15)]), (w.heap.size, [.int .i64 0, .int .i64 0, .int .i64 0, .int .i64 0, .int .i64 0, .int .i64 0, .int .i64 0, .int .i64 0, .int .i64 0, .int .i64 0, .int .i64 0, .int .i64 0, .int .i64 0, .int .i64 0, .int .i64 0, .int .i64 0])]) (fun i _ => msrS 16 i)
  case atStart => exact ⟨0, by omega, rfl, by rw [HZ.out]; exact HO.out⟩
  case round =>
    clear HO
    obtain ⟨k, hk, rfl, ho⟩ := hrel
    by_cases hlt : k < 16
    · have cs := HU.out wr ho.k k hlt
      have cc := (ho.at 0 rfl).cell k (get16 (Sx.upto l k) k hlt)
      have ff := (ho.at 0 rfl).froz k (by simpa using hlt)
      have z2 : (k : Int) < 16 := by omega
      have HX : Hid (∃ W, wr.setCell ⟨w.heap.size + 1, k, none⟩ (.int .i64 (Sx.num l k)) = W ∧ Ow w W [(w.heap.size + 1, [.int .i64 ((Sx.upto l (k + 1)) 0), .int .i64 ((Sx.upto l (k + 1)) 1), .int .i64 ((Sx.upto l (k + 1)) 2), .int .i64 ((Sx.upto l (k + 1)) 3), .int .i64 ((Sx.upto l (k + 1)) 4), .int .i64 ((Sx.upto l (k + 1)) 5), .int .i64 ((Sx.upto l (k + 1)) 6), .int .i64 ((Sx.upto l (k + 1)) 7), .int .i64 ((Sx.upto l (k + 1)) 8), .int .i64 ((Sx.upto l (k + 1)) 9), .int .i64 ((Sx.upto l (k + 1)) 10), .int .i64 ((Sx.upto l (k + 1)) 11), .int .i64 ((Sx.upto l (k + 1)) 12), .int .i64 ((Sx.upto l (k + 1)) 13), .int .i64 ((Sx.upto l (k + 1)) 14), .int .i64 ((Sx.upto l (k + 1)) 15)]), (w.heap.size, [.int .i64 0, .int .i64 0, .int .i64 0, .int .i64 0, .int .i64 0, .int .i64 0, .int .i64 0, .int .i64 0, .int .i64 0, .int .i64 0, .int .i64 0, .int .i64 0, .int .i64 0, .int .i64 0, .int .i64 0, .int .i64 0])]) := Lib.hid ⟨_, rfl, by
        have h := ho.put1 0 rfl k (by simpa using hlt) (.int .i64 (Sx.num l k))
        rw [HP.out k] at h
        have e := HN.out k
        rw [← e]
        exact h⟩
      clear ho HP HN HC M1 HZ HA
      generalize Sx.num l k = x at *
      generalize Sx.upto l k k = y at *
      go_wp2_with fail
      go_roundw
      case rel =>
        obtain ⟨W, e, h⟩ := HX.out
        exact ⟨k + 1, by omega, by go_num, e ▸ h⟩
      case measure => simp [msrS, intOf]; omega
    · obtain rfl : k = 16 := by omega
      rw [HA.out] at ho
      have HO := Lib.hid ho
      clear ho
      cases hc : Vc.wi 16777216 (Sx.num l) 16
      all_goals
        rw [hc] at M1 HC
        have HE := Lib.hid HC.out
        clear HC hc
        go_wp2_with (first
    | go_big_skip
    | ((with_reducible show wpList _ _ _ ({ dst := _, op := Op.load 23 (Operand.tmp 4), type := _, pos := _, after := _, guard := _ } :: _) _ _); refine wpList_ldr ty_mat rfl _ rfl _ rfl _ rfl (HO.out.at 0 rfl) ?_)
    | (go_at_call 22; (with_reducible refine (M1 _).mono ?_); rintro e wz ⟨rfl, hk1⟩; have l2 := HO.out.call hk1; clear HO hk1; have HO := Lib.hid l2; clear l2)
    | ((with_reducible show wpList _ _ _ ({ dst := _, op := Op.store 23 (Operand.tmp 2) _, type := _, pos := _, after := _, guard := _ } :: _) _ _); refine wpList_sto ty_mat HO.out 1 [.int .i64 ((Sx.num l) 0), .int .i64 ((Sx.num l) 1), .int .i64 ((Sx.num l) 2), .int .i64 ((Sx.num l) 3), .int .i64 ((Sx.num l) 4), .int .i64 ((Sx.num l) 5), .int .i64 ((Sx.num l) 6), .int .i64 ((Sx.num l) 7), .int .i64 ((Sx.num l) 8), .int .i64 ((Sx.num l) 9), .int .i64 ((Sx.num l) 10), .int .i64 ((Sx.num l) 11), .int .i64 ((Sx.num l) 12), .int .i64 ((Sx.num l) 13), .int .i64 ((Sx.num l) 14), .int .i64 ((Sx.num l) 15)] rfl _ _ rfl _ rfl rfl _ rfl rfl rfl rfl ?_; intro w2 l2; clear HO; have HO := Lib.hid l2; clear l2))
        refine bodyPost_ret (results_c2 (v := .int .i64 _) ty_mat rfl rfl rfl rfl (HO.out.at 1 rfl)) rfl ⟨by rw [HE.out]; rfl, HO.out.k⟩
set_option linter.unusedSimpArgs false in
set_option maxRecDepth 100000 in
set_option maxHeartbeats 8000000 in
theorem view18_no (c : Sf) (v u : Value) (w : World) (h : Rt.view (c 2) (c 3) (c 4) (c 5) = false) :
    Calls Try.prog 17 #[.agg #[.int .i64 (c 0), .int .i64 (c 1), .int .i64 (c 2), .int .i64 (c 3), .int .i64 (c 4), .int .i64 (c 5), v, u]] w fun e w' => e = .returned (.tuple #[.agg #[.int .i64 0, .int .i64 0, .int .i64 0, .int .i64 0], .int .i64 12]) ∧ Kp w.heap.size w w' := by
  have V1 := fun W => rview_no (c 2) (c 3) (c 4) (c 5) W h
  clear h
  have HO := Lib.hid (((Ow.refl w).newAt (w.heap.size) rfl (.int .i64 (c 0)) [.int .i64 (c 1), .int .i64 (c 2), .int .i64 (c 3), .int .i64 (c 4), .int .i64 (c 5), v, u] 35).newAt (w.heap.size + 1) (by simp) (.int .i64 0) [.int .i64 0, .int .i64 0, .int .i64 0] 25)
  have c2 := (HO.out.at 1 rfl).cell 2 rfl
  have c3 := (HO.out.at 1 rfl).cell 3 rfl
  have c4 := (HO.out.at 1 rfl).cell 4 rfl
  have c5 := (HO.out.at 1 rfl).cell 5 rfl
  go_enter Try.func17, Try.ntmps17
  go_upto_region 2 with (go_at_call 48; (with_reducible refine (V1 _).mono ?_); rintro e w1 ⟨rfl, hk1⟩; have l2 := (HO.out.call hk1).newAt w1.heap.size rfl (.int .i64 0) [.int .i64 0, .int .i64 0, .int .i64 0] 25; clear HO hk1; have HO := Lib.hid l2; clear l2)
  generalize w1.heap.size = p4 at *
  generalize hV : World.alloc _ _ = V0 at *
  clear hV
  go_wp2_with (first
    | go_big_skip
    | ((with_reducible show wpList _ _ _ ({ dst := _, op := Op.load 25 (Operand.tmp 4), type := _, pos := _, after := _, guard := _ } :: _) _ _); refine wpList_ldr ty_rect rfl _ rfl _ rfl _ rfl (HO.out.at 0 rfl) ?_)
    | ((with_reducible show wpList _ _ _ ({ dst := _, op := Op.store 25 (Operand.tmp 2) _, type := _, pos := _, after := _, guard := _ } :: _) _ _); refine wpList_sto ty_rect HO.out 1 [.int .i64 0, .int .i64 0, .int .i64 0, .int .i64 0] rfl _ _ rfl _ rfl rfl _ rfl rfl rfl rfl ?_; intro w2 l2; clear HO; have HO := Lib.hid l2; clear l2))
  exact bodyPost_ret (results_c2 ty_rect rfl rfl rfl rfl (HO.out.at 1 rfl)) rfl ⟨rfl, HO.out.k⟩
set_option linter.unusedSimpArgs false in
set_option maxRecDepth 100000 in
set_option maxHeartbeats 8000000 in
theorem view18_yes (c : Sf) (v u : Value) (w : World) (h : Rt.view (c 2) (c 3) (c 4) (c 5) = true) :
    Calls Try.prog 17 #[.agg #[.int .i64 (c 0), .int .i64 (c 1), .int .i64 (c 2), .int .i64 (c 3), .int .i64 (c 4), .int .i64 (c 5), v, u]] w fun e w' => e = .returned (.tuple #[.agg #[.int .i64 (c 2), .int .i64 (c 3), .int .i64 (c 2 + c 4), .int .i64 (c 3 + c 5)], .int .i64 0]) ∧ Kp w.heap.size w w' := by
  have V1 := fun W => rview_yes (c 2) (c 3) (c 4) (c 5) W h
  clear h
  generalize c 2 + c 4 = x at *
  generalize c 3 + c 5 = y at *
  have HO := Lib.hid (((Ow.refl w).newAt (w.heap.size) rfl (.int .i64 (c 0)) [.int .i64 (c 1), .int .i64 (c 2), .int .i64 (c 3), .int .i64 (c 4), .int .i64 (c 5), v, u] 35).newAt (w.heap.size + 1) (by simp) (.int .i64 0) [.int .i64 0, .int .i64 0, .int .i64 0] 25)
  have c2 := (HO.out.at 1 rfl).cell 2 rfl
  have c3 := (HO.out.at 1 rfl).cell 3 rfl
  have c4 := (HO.out.at 1 rfl).cell 4 rfl
  have c5 := (HO.out.at 1 rfl).cell 5 rfl
  go_enter Try.func17, Try.ntmps17
  go_upto_region 2 with (go_at_call 48; (with_reducible refine (V1 _).mono ?_); rintro e w1 ⟨rfl, hk1⟩; have l2 := (HO.out.call hk1).newAt w1.heap.size rfl (.int .i64 (c 2)) [.int .i64 (c 3), .int .i64 x, .int .i64 y] 25; clear HO hk1; have HO := Lib.hid l2; clear l2)
  generalize w1.heap.size = p4 at *
  generalize hV : World.alloc _ _ = V0 at *
  clear hV
  go_wp2_with (first
    | go_big_skip
    | ((with_reducible show wpList _ _ _ ({ dst := _, op := Op.load 25 (Operand.tmp 4), type := _, pos := _, after := _, guard := _ } :: _) _ _); refine wpList_ldr ty_rect rfl _ rfl _ rfl _ rfl (HO.out.at 0 rfl) ?_)
    | ((with_reducible show wpList _ _ _ ({ dst := _, op := Op.store 25 (Operand.tmp 2) _, type := _, pos := _, after := _, guard := _ } :: _) _ _); refine wpList_sto ty_rect HO.out 1 [.int .i64 (c 2), .int .i64 (c 3), .int .i64 x, .int .i64 y] rfl _ _ rfl _ rfl rfl _ rfl rfl rfl rfl ?_; intro w2 l2; clear HO; have HO := Lib.hid l2; clear l2))
  exact bodyPost_ret (results_c2 ty_rect rfl rfl rfl rfl (HO.out.at 1 rfl)) rfl ⟨rfl, HO.out.k⟩
set_option linter.unusedSimpArgs false in
set_option maxRecDepth 100000 in
set_option maxHeartbeats 8000000 in
theorem Sx.eBind_is (c : Sf) : Sx.eBind c = if 0 ≤ c 1 ∧ c 1 ≤ 64 then (if 0 ≤ c 2 ∧ c 2 ≤ 2 then (if 0 ≤ c 3 ∧ c 3 ≤ 1 then 0 else 2) else 9) else 7 := by
  unfold Sx.eBind Sx.hand Sx.kind Sx.flag
  have e1 : Sx.wi 0 64 (c 1) = decide (0 ≤ c 1 ∧ c 1 ≤ 64) := by rw [Bool.eq_iff_iff, Sx.wi_iff]; simp
  have e2 : Sx.wi 0 2 (c 2) = decide (0 ≤ c 2 ∧ c 2 ≤ 2) := by rw [Bool.eq_iff_iff, Sx.wi_iff]; simp
  have e3 : Sx.wi 0 1 (c 3) = decide (0 ≤ c 3 ∧ c 3 ≤ 1) := by rw [Bool.eq_iff_iff, Sx.wi_iff]; simp
  rw [e1, e2, e3]
  by_cases h1 : 0 ≤ c 1 ∧ c 1 ≤ 64 <;> by_cases h2 : 0 ≤ c 2 ∧ c 2 ≤ 2 <;> by_cases h3 : 0 ≤ c 3 ∧ c 3 ≤ 1 <;> simp [Sx.fst, h1, h2, h3]
theorem bound_any (c : Sf) (v u : Value) (w : World) :
    Calls Try.prog 21 #[.agg #[.int .i64 (c 0), .int .i64 (c 1), .int .i64 (c 2), .int .i64 (c 3), .int .i64 (c 4), .int .i64 (c 5), v, u]] w fun e w' => e = .returned (.int .i64 (Sx.eBind c)) ∧ Kp w.heap.size w w' := by
  have HB := Lib.hid (Sx.eBind_is c)
  have HO := Lib.hid ((Ow.refl w).newAt (w.heap.size) rfl (.int .i64 (c 0)) [.int .i64 (c 1), .int .i64 (c 2), .int .i64 (c 3), .int .i64 (c 4), .int .i64 (c 5), v, u] 35)
  have c1 := (HO.out.at 0 rfl).cell 1 rfl
  have c2 := (HO.out.at 0 rfl).cell 2 rfl
  have c3 := (HO.out.at 0 rfl).cell 3 rfl
  generalize Sx.eBind c = r at *
  generalize c 1 = a at *
  generalize c 2 = b at *
  generalize c 3 = d at *
  by_cases h1 : a < 0
  · have dh1 : decide (a < 0) = true := decide_eq_true h1
    obtain rfl : r = 7 := by rw [HB.out]; (repeat' split) <;> omega
    clear HB
    go_enter Try.func21, Try.ntmps21
    go_wp2_with go_big_skip
    go_ret
    exact ⟨rfl, HO.out.k⟩
  have dh1 : decide (a < 0) = false := decide_eq_false h1
  by_cases h2 : 64 < a
  · have dh2 : decide (64 < a) = true := decide_eq_true h2
    obtain rfl : r = 7 := by rw [HB.out]; (repeat' split) <;> omega
    clear HB
    go_enter Try.func21, Try.ntmps21
    go_wp2_with go_big_skip
    go_ret
    exact ⟨rfl, HO.out.k⟩
  have dh2 : decide (64 < a) = false := decide_eq_false h2
  by_cases h3 : b < 0
  · have dh3 : decide (b < 0) = true := decide_eq_true h3
    obtain rfl : r = 9 := by rw [HB.out]; (repeat' split) <;> omega
    clear HB
    go_enter Try.func21, Try.ntmps21
    go_wp2_with go_big_skip
    go_ret
    exact ⟨rfl, HO.out.k⟩
  have dh3 : decide (b < 0) = false := decide_eq_false h3
  by_cases h4 : 2 < b
  · have dh4 : decide (2 < b) = true := decide_eq_true h4
    obtain rfl : r = 9 := by rw [HB.out]; (repeat' split) <;> omega
    clear HB
    go_enter Try.func21, Try.ntmps21
    go_wp2_with go_big_skip
    go_ret
    exact ⟨rfl, HO.out.k⟩
  have dh4 : decide (2 < b) = false := decide_eq_false h4
  by_cases h5 : d = 0
  · subst h5
    obtain rfl : r = 0 := by rw [HB.out]; (repeat' split) <;> omega
    clear HB
    go_enter Try.func21, Try.ntmps21
    go_wp2_with go_big_skip
    go_ret
    exact ⟨rfl, HO.out.k⟩
  by_cases h6 : d = 1
  · subst h6
    obtain rfl : r = 0 := by rw [HB.out]; (repeat' split) <;> omega
    clear HB
    go_enter Try.func21, Try.ntmps21
    go_wp2_with go_big_skip
    go_ret
    exact ⟨rfl, HO.out.k⟩
  have n0 : (d != 0) = true := by simpa using h5
  have n1 : (d != 1) = true := by simpa using h6
  obtain rfl : r = 2 := by rw [HB.out]; (repeat' split) <;> omega
  clear HB
  go_enter Try.func21, Try.ntmps21
  go_wp2_with go_big_skip
  go_ret
  exact ⟨rfl, HO.out.k⟩
end Go.Proofs.Ytoejknkjfnnffaa
