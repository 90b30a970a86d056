/-
  Contracts of the document's answers for layer 20 (cmd): a command's own fields.
-/
import Derived.Test.YtkmhnfbjapfbeaaCmdFields
import Derived.BigGuard
namespace Go.Proofs.Ytkmhnfbjapfbeaa
open Go.RowKit

set_option linter.unusedSimpArgs false in
set_option maxRecDepth 100000 in
set_option maxHeartbeats 8000000 in
theorem rown_ff (s : ByteArray) (o h a b c d : Int) (a1 a2 : Option Addr) (n1 c1 n2 c2 : Nat) (xH xA xB xC xD : Bool) (w : World) (hk : 1 ≤ o ∧ o ≤ 19) (PH : ∀ W, Calls Try.prog 21 #[.string s, .int .u8 72, .int .i64 h] W fun e w' => e = .returned (.int .i64 (Cm.pk xH h)) ∧ W = w') (PA : ∀ W, Calls Try.prog 21 #[.string s, .int .u8 65, .int .i64 a] W fun e w' => e = .returned (.int .i64 (Cm.pk xA a)) ∧ W = w') (PB : ∀ W, Calls Try.prog 21 #[.string s, .int .u8 66, .int .i64 b] W fun e w' => e = .returned (.int .i64 (Cm.pk xB b)) ∧ W = w') (PC : ∀ W, Calls Try.prog 21 #[.string s, .int .u8 67, .int .i64 c] W fun e w' => e = .returned (.int .i64 (Cm.pk xC c)) ∧ W = w') (PD : ∀ W, Calls Try.prog 21 #[.string s, .int .u8 68, .int .i64 d] W fun e w' => e = .returned (.int .i64 (Cm.pk xD d)) ∧ W = w') (QL : ∀ W, Calls Try.prog 22 #[.string s, .int .u8 76] W fun e w' => e = .returned (.bool false) ∧ W = w') (QV : ∀ W, Calls Try.prog 22 #[.string s, .int .u8 86] W fun e w' => e = .returned (.bool false) ∧ W = w') (FF : ∀ W, Calls Try.prog 20 #[.int .i64 o] W fun e w' => e = .returned (.string s) ∧ Kp W.heap.size W w') :
    Calls Try.prog 11 #[.agg #[.int .i64 o, .int .i64 h, .int .i64 a, .int .i64 b, .int .i64 c, .int .i64 d, .slice a1 n1 c1, .slice a2 n2 c2]] w fun e w' => e = .returned (.agg #[.int .i64 o, .int .i64 (Cm.pk xH h), .int .i64 (Cm.pk xA a), .int .i64 (Cm.pk xB b), .int .i64 (Cm.pk xC c), .int .i64 (Cm.pk xD d), .slice none 0 0, .slice none 0 0]) ∧ Kp w.heap.size w w' := by
  have z1 : decide (o < 1) = false := decide_eq_false (by omega)
  have z2 : decide (19 < o) = false := decide_eq_false (by omega)
  have z3 : ¬ o < 1 := by omega
  have z4 : ¬ 19 < o := by omega
  clear hk
  have HO := Lib.hid (((Ow.refl w).newAt (w.heap.size) rfl (.int .i64 o) [.int .i64 h, .int .i64 a, .int .i64 b, .int .i64 c, .int .i64 d, .slice a1 n1 c1, .slice a2 n2 c2] 25).newAt (w.heap.size + 1) (by simp) (.int .i64 0) [.int .i64 0, .int .i64 0, .int .i64 0, .int .i64 0, .int .i64 0, .slice none 0 0, .slice none 0 0] 25)
  generalize Cm.pk xH h = kH at *
  generalize Cm.pk xA a = kA at *
  generalize Cm.pk xB b = kB at *
  generalize Cm.pk xC c = kC at *
  generalize Cm.pk xD d = kD at *
  go_enter Try.func11, Try.ntmps11
  go_wp2_with (first
    | go_big_skip
    | ((with_reducible show wpList _ _ _ ({ dst := _, op := Op.load 3 (Operand.tmp 14), type := _, pos := _, after := _, guard := _ } :: _) _ _); refine wpList_ld1 rfl 0 (.int .i64 o) (HO.out.at 1 rfl) rfl (fun cc K hK => by go_simp; exact hK) ?_)
    | (go_at_call 20; (with_reducible refine (FF _).mono ?_); rintro e wz ⟨rfl, hk1⟩; have l2 := HO.out.call hk1; clear HO hk1; have HO := Lib.hid l2; clear l2))
  refine Rg2.region (σ := List (Nat × List Value)) (I := Rg2.Io w [(w.heap.size + 1, [.int .i64 0, .int .i64 0, .int .i64 0, .int .i64 0, .int .i64 0, .int .i64 0, .slice none 0 0, .slice none 0 0]), (w.heap.size, [.int .i64 o, .int .i64 h, .int .i64 a, .int .i64 b, .int .i64 c, .int .i64 d, .slice a1 n1 c1, .slice a2 n2 c2])]) (mk := fun b sq => (b, [.int .i64 0, .int .i64 0, .int .i64 0, .int .i64 0, .int .i64 0, .int .i64 0, .slice none 0 0, .slice none 0 0]) :: sq) (dem := fun i => i == 23 || i == 24) (m := 25) (g := 0) (T := fun listed sq st => ∀ W, Rg2.Io w [(w.heap.size + 1, [.int .i64 0, .int .i64 0, .int .i64 0, .int .i64 0, .int .i64 0, .int .i64 0, .slice none 0 0, .slice none 0 0]), (w.heap.size, [.int .i64 o, .int .i64 h, .int .i64 a, .int .i64 b, .int .i64 c, .int .i64 d, .slice a1 n1 c1, .slice a2 n2 c2])] sq W → wpAny Try.prog .any _ _ 0 listed st W) [] (by kernel_rfl) (show Rg2.Io w [(w.heap.size + 1, [.int .i64 0, .int .i64 0, .int .i64 0, .int .i64 0, .int .i64 0, .int .i64 0, .slice none 0 0, .slice none 0 0]), (w.heap.size, [.int .i64 o, .int .i64 h, .int .i64 a, .int .i64 b, .int .i64 c, .int .i64 d, .slice a1 n1 c1, .slice a2 n2 c2])] [] _ from HO.out.drew) rfl (fun _ _ _ _ h hI => h _ hI) ?_
  clear HO
  refine Rg2.take 0 (v := .pointer (some ⟨w.heap.size, 0, none⟩)) rfl rfl (by kernel_rfl) (by kernel_rfl) (by kernel_rfl) (by kernel_rfl) (by kernel_rfl) (.inl ⟨rfl, fun bs wq hI => ?_⟩) ?_
  · go_simp
  simp only [Act.put, List.getElem_toArray, List.getElem_cons_zero, List.getElem_cons_succ, List.setIfInBounds_toArray, List.set_cons_zero, List.set_cons_succ]
  refine Rg2.take 1 (v := .int .i64 o) rfl rfl (by kernel_rfl) (by kernel_rfl) (by kernel_rfl) (by kernel_rfl) (by kernel_rfl) (.inl ⟨rfl, fun bs wq hI => ?_⟩) ?_
  · (have hc := (hI.rc (List.mem_of_getElem? (i := 1) rfl)).cell 0 rfl; go_simp)
  simp only [Act.put, List.getElem_toArray, List.getElem_cons_zero, List.getElem_cons_succ, List.setIfInBounds_toArray, List.set_cons_zero, List.set_cons_succ]
  refine Rg2.take 2 (v := .string s) rfl rfl (by kernel_rfl) (by kernel_rfl) (by kernel_rfl) (by kernel_rfl) (by kernel_rfl) (.inl ⟨rfl, fun bs wq hI => ?_⟩) ?_
  · go_simp
  simp only [Act.put, List.getElem_toArray, List.getElem_cons_zero, List.getElem_cons_succ, List.setIfInBounds_toArray, List.set_cons_zero, List.set_cons_succ]
  refine Rg2.take 3 (v := .pointer (some ⟨w.heap.size, 1, none⟩)) rfl rfl (by kernel_rfl) (by kernel_rfl) (by kernel_rfl) (by kernel_rfl) (by kernel_rfl) (.inl ⟨rfl, fun bs wq hI => ?_⟩) ?_
  · go_simp
  simp only [Act.put, List.getElem_toArray, List.getElem_cons_zero, List.getElem_cons_succ, List.setIfInBounds_toArray, List.set_cons_zero, List.set_cons_succ]
  refine Rg2.take 4 (v := .int .i64 h) rfl rfl (by kernel_rfl) (by kernel_rfl) (by kernel_rfl) (by kernel_rfl) (by kernel_rfl) (.inl ⟨rfl, fun bs wq hI => ?_⟩) ?_
  · (have hc := (hI.rc (List.mem_of_getElem? (i := 1) rfl)).cell 1 rfl; go_simp)
  simp only [Act.put, List.getElem_toArray, List.getElem_cons_zero, List.getElem_cons_succ, List.setIfInBounds_toArray, List.set_cons_zero, List.set_cons_succ]
  refine Rg2.take 5 (v := .int .i64 kH) rfl rfl (by kernel_rfl) (by kernel_rfl) (by kernel_rfl) (by kernel_rfl) (by kernel_rfl) (.inl ⟨rfl, fun bs wq hI => ?_⟩) ?_
  · (go_simp; exact (PH _).mono fun e w2 h => ⟨h.1, h.2 ▸ hI⟩)
  simp only [Act.put, List.getElem_toArray, List.getElem_cons_zero, List.getElem_cons_succ, List.setIfInBounds_toArray, List.set_cons_zero, List.set_cons_succ]
  refine Rg2.take 6 (v := .string s) rfl rfl (by kernel_rfl) (by kernel_rfl) (by kernel_rfl) (by kernel_rfl) (by kernel_rfl) (.inl ⟨rfl, fun bs wq hI => ?_⟩) ?_
  · go_simp
  simp only [Act.put, List.getElem_toArray, List.getElem_cons_zero, List.getElem_cons_succ, List.setIfInBounds_toArray, List.set_cons_zero, List.set_cons_succ]
  refine Rg2.take 7 (v := .pointer (some ⟨w.heap.size, 2, none⟩)) rfl rfl (by kernel_rfl) (by kernel_rfl) (by kernel_rfl) (by kernel_rfl) (by kernel_rfl) (.inl ⟨rfl, fun bs wq hI => ?_⟩) ?_
  · go_simp
  simp only [Act.put, List.getElem_toArray, List.getElem_cons_zero, List.getElem_cons_succ, List.setIfInBounds_toArray, List.set_cons_zero, List.set_cons_succ]
  refine Rg2.take 8 (v := .int .i64 a) rfl rfl (by kernel_rfl) (by kernel_rfl) (by kernel_rfl) (by kernel_rfl) (by kernel_rfl) (.inl ⟨rfl, fun bs wq hI => ?_⟩) ?_
  · (have hc := (hI.rc (List.mem_of_getElem? (i := 1) rfl)).cell 2 rfl; go_simp)
  simp only [Act.put, List.getElem_toArray, List.getElem_cons_zero, List.getElem_cons_succ, List.setIfInBounds_toArray, List.set_cons_zero, List.set_cons_succ]
  refine Rg2.take 9 (v := .int .i64 kA) rfl rfl (by kernel_rfl) (by kernel_rfl) (by kernel_rfl) (by kernel_rfl) (by kernel_rfl) (.inl ⟨rfl, fun bs wq hI => ?_⟩) ?_
  · (go_simp; exact (PA _).mono fun e w2 h => ⟨h.1, h.2 ▸ hI⟩)
  simp only [Act.put, List.getElem_toArray, List.getElem_cons_zero, List.getElem_cons_succ, List.setIfInBounds_toArray, List.set_cons_zero, List.set_cons_succ]
  refine Rg2.take 10 (v := .string s) rfl rfl (by kernel_rfl) (by kernel_rfl) (by kernel_rfl) (by kernel_rfl) (by kernel_rfl) (.inl ⟨rfl, fun bs wq hI => ?_⟩) ?_
  · go_simp
  simp only [Act.put, List.getElem_toArray, List.getElem_cons_zero, List.getElem_cons_succ, List.setIfInBounds_toArray, List.set_cons_zero, List.set_cons_succ]
  refine Rg2.take 11 (v := .pointer (some ⟨w.heap.size, 3, none⟩)) rfl rfl (by kernel_rfl) (by kernel_rfl) (by kernel_rfl) (by kernel_rfl) (by kernel_rfl) (.inl ⟨rfl, fun bs wq hI => ?_⟩) ?_
  · go_simp
  simp only [Act.put, List.getElem_toArray, List.getElem_cons_zero, List.getElem_cons_succ, List.setIfInBounds_toArray, List.set_cons_zero, List.set_cons_succ]
  refine Rg2.take 12 (v := .int .i64 b) rfl rfl (by kernel_rfl) (by kernel_rfl) (by kernel_rfl) (by kernel_rfl) (by kernel_rfl) (.inl ⟨rfl, fun bs wq hI => ?_⟩) ?_
  · (have hc := (hI.rc (List.mem_of_getElem? (i := 1) rfl)).cell 3 rfl; go_simp)
  simp only [Act.put, List.getElem_toArray, List.getElem_cons_zero, List.getElem_cons_succ, List.setIfInBounds_toArray, List.set_cons_zero, List.set_cons_succ]
  refine Rg2.take 13 (v := .int .i64 kB) rfl rfl (by kernel_rfl) (by kernel_rfl) (by kernel_rfl) (by kernel_rfl) (by kernel_rfl) (.inl ⟨rfl, fun bs wq hI => ?_⟩) ?_
  · (go_simp; exact (PB _).mono fun e w2 h => ⟨h.1, h.2 ▸ hI⟩)
  simp only [Act.put, List.getElem_toArray, List.getElem_cons_zero, List.getElem_cons_succ, List.setIfInBounds_toArray, List.set_cons_zero, List.set_cons_succ]
  refine Rg2.take 14 (v := .string s) rfl rfl (by kernel_rfl) (by kernel_rfl) (by kernel_rfl) (by kernel_rfl) (by kernel_rfl) (.inl ⟨rfl, fun bs wq hI => ?_⟩) ?_
  · go_simp
  simp only [Act.put, List.getElem_toArray, List.getElem_cons_zero, List.getElem_cons_succ, List.setIfInBounds_toArray, List.set_cons_zero, List.set_cons_succ]
  refine Rg2.take 15 (v := .pointer (some ⟨w.heap.size, 4, none⟩)) rfl rfl (by kernel_rfl) (by kernel_rfl) (by kernel_rfl) (by kernel_rfl) (by kernel_rfl) (.inl ⟨rfl, fun bs wq hI => ?_⟩) ?_
  · go_simp
  simp only [Act.put, List.getElem_toArray, List.getElem_cons_zero, List.getElem_cons_succ, List.setIfInBounds_toArray, List.set_cons_zero, List.set_cons_succ]
  refine Rg2.take 16 (v := .int .i64 c) rfl rfl (by kernel_rfl) (by kernel_rfl) (by kernel_rfl) (by kernel_rfl) (by kernel_rfl) (.inl ⟨rfl, fun bs wq hI => ?_⟩) ?_
  · (have hc := (hI.rc (List.mem_of_getElem? (i := 1) rfl)).cell 4 rfl; go_simp)
  simp only [Act.put, List.getElem_toArray, List.getElem_cons_zero, List.getElem_cons_succ, List.setIfInBounds_toArray, List.set_cons_zero, List.set_cons_succ]
  refine Rg2.take 17 (v := .int .i64 kC) rfl rfl (by kernel_rfl) (by kernel_rfl) (by kernel_rfl) (by kernel_rfl) (by kernel_rfl) (.inl ⟨rfl, fun bs wq hI => ?_⟩) ?_
  · (go_simp; exact (PC _).mono fun e w2 h => ⟨h.1, h.2 ▸ hI⟩)
  simp only [Act.put, List.getElem_toArray, List.getElem_cons_zero, List.getElem_cons_succ, List.setIfInBounds_toArray, List.set_cons_zero, List.set_cons_succ]
  refine Rg2.take 18 (v := .string s) rfl rfl (by kernel_rfl) (by kernel_rfl) (by kernel_rfl) (by kernel_rfl) (by kernel_rfl) (.inl ⟨rfl, fun bs wq hI => ?_⟩) ?_
  · go_simp
  simp only [Act.put, List.getElem_toArray, List.getElem_cons_zero, List.getElem_cons_succ, List.setIfInBounds_toArray, List.set_cons_zero, List.set_cons_succ]
  refine Rg2.take 19 (v := .pointer (some ⟨w.heap.size, 5, none⟩)) rfl rfl (by kernel_rfl) (by kernel_rfl) (by kernel_rfl) (by kernel_rfl) (by kernel_rfl) (.inl ⟨rfl, fun bs wq hI => ?_⟩) ?_
  · go_simp
  simp only [Act.put, List.getElem_toArray, List.getElem_cons_zero, List.getElem_cons_succ, List.setIfInBounds_toArray, List.set_cons_zero, List.set_cons_succ]
  refine Rg2.take 20 (v := .int .i64 d) rfl rfl (by kernel_rfl) (by kernel_rfl) (by kernel_rfl) (by kernel_rfl) (by kernel_rfl) (.inl ⟨rfl, fun bs wq hI => ?_⟩) ?_
  · (have hc := (hI.rc (List.mem_of_getElem? (i := 1) rfl)).cell 5 rfl; go_simp)
  simp only [Act.put, List.getElem_toArray, List.getElem_cons_zero, List.getElem_cons_succ, List.setIfInBounds_toArray, List.set_cons_zero, List.set_cons_succ]
  refine Rg2.take 21 (v := .int .i64 kD) rfl rfl (by kernel_rfl) (by kernel_rfl) (by kernel_rfl) (by kernel_rfl) (by kernel_rfl) (.inl ⟨rfl, fun bs wq hI => ?_⟩) ?_
  · (go_simp; exact (PD _).mono fun e w2 h => ⟨h.1, h.2 ▸ hI⟩)
  simp only [Act.put, List.getElem_toArray, List.getElem_cons_zero, List.getElem_cons_succ, List.setIfInBounds_toArray, List.set_cons_zero, List.set_cons_succ]
  refine Rg2.take 22 (v := .agg #[.int .i64 o, .int .i64 kH, .int .i64 kA, .int .i64 kB, .int .i64 kC, .int .i64 kD, .slice none 0 0, .slice none 0 0]) rfl rfl (by kernel_rfl) (by kernel_rfl) (by kernel_rfl) (by kernel_rfl) (by kernel_rfl) (.inl ⟨rfl, fun bs wq hI => ?_⟩) ?_
  · go_simp
  simp only [Act.put, List.getElem_toArray, List.getElem_cons_zero, List.getElem_cons_succ, List.setIfInBounds_toArray, List.set_cons_zero, List.set_cons_succ]
  refine Rg2.made1 23 (by kernel_rfl) rfl rfl (Rg2.makes_of (ty := 25) (.int .i64 0) [.int .i64 0, .int .i64 0, .int .i64 0, .int .i64 0, .int .i64 0, .slice none 0 0, .slice none 0 0] (fun _ => rfl) (fun a W => by simp [execOp, go_sem])) (fun bn => ?_)
  simp only [Act.put, List.getElem_toArray, List.getElem_cons_zero, List.getElem_cons_succ, List.setIfInBounds_toArray, List.set_cons_zero, List.set_cons_succ]
  refine Rg2.put1 24 (by kernel_rfl) rfl rfl (Rg2.puts_row ty_cmd 0 [.int .i64 o, .int .i64 kH, .int .i64 kA, .int .i64 kB, .int .i64 kC, .int .i64 kD, .slice none 0 0, .slice none 0 0] rfl _ _ rfl _ rfl rfl _ rfl rfl rfl rfl) ?_
  simp only [Act.put, List.getElem_toArray, List.getElem_cons_zero, List.getElem_cons_succ, List.setIfInBounds_toArray, List.set_cons_zero, List.set_cons_succ]
  refine Rg2.done (rs := []) (by kernel_rfl) (by decide) (fun W hI => ?_)
  have HO := Lib.hid (show Ow w W [(bn, [.int .i64 o, .int .i64 kH, .int .i64 kA, .int .i64 kB, .int .i64 kC, .int .i64 kD, .slice none 0 0, .slice none 0 0]), (w.heap.size + 1, [.int .i64 0, .int .i64 0, .int .i64 0, .int .i64 0, .int .i64 0, .int .i64 0, .slice none 0 0, .slice none 0 0]), (w.heap.size, [.int .i64 o, .int .i64 h, .int .i64 a, .int .i64 b, .int .i64 c, .int .i64 d, .slice a1 n1 c1, .slice a2 n2 c2])] from hI)
  clear hI
  refine wpAny_done (by kernel_rfl) ?_ _
  go_wp2_with (first
    | go_big_skip
    | (go_at_call 22; (with_reducible refine (QL _).mono ?_); rintro e w' ⟨rfl, rfl⟩)
    | (go_at_call 22; (with_reducible refine (QV _).mono ?_); rintro e w' ⟨rfl, rfl⟩)
    | ((with_reducible show wpList _ _ _ ({ dst := _, op := Op.load 25 (Operand.tmp 4), type := _, pos := _, after := _, guard := _ } :: _) _ _); refine wpList_ldr ty_cmd rfl _ rfl _ rfl _ rfl (HO.out.at 0 rfl) ?_)
    | ((with_reducible show wpList _ _ _ ({ dst := _, op := Op.store 25 (Operand.tmp 2) _, type := _, pos := _, after := _, guard := _ } :: _) _ _); refine wpList_sto ty_cmd HO.out 1 [.int .i64 o, .int .i64 kH, .int .i64 kA, .int .i64 kB, .int .i64 kC, .int .i64 kD, .slice none 0 0, .slice none 0 0] rfl _ _ rfl _ rfl rfl _ rfl rfl rfl rfl ?_; intro w2 l2; clear HO; have HO := Lib.hid l2; clear l2))
  refine bodyPost_ret (results_c ty_cmd rfl rfl rfl (HO.out.at 1 rfl)) rfl ⟨rfl, HO.out.k⟩
end Go.Proofs.Ytkmhnfbjapfbeaa
