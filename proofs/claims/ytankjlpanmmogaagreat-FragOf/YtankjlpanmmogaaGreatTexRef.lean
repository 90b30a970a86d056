/-
  Contracts of the document's own answers for layer 14: At, the channels of four texels.
-/
import Derived.Test.YtankjlpanmmogaaGreatJTexMix
import Derived.BigGuard
namespace Go.Proofs.YtankjlpanmmogaaGreat
set_option maxRecDepth 100000
open Go.RowKit

set_option linter.unusedSimpArgs false in
set_option maxRecDepth 100000 in
set_option maxHeartbeats 8000000 in
theorem rat_any (n m x y k : Int) (l : List Int) (v : Value) (w : World) (hS : Sl w v (iv l)) (hc : Tx.chk n m l = 0) (hk : Tx.is k = true) (hx : -1048576 ≤ x ∧ x ≤ 1048576) (hy : -1048576 ≤ y ∧ y ≤ 1048576) :
    Calls Tryz.prog 59 #[.agg #[.int .i64 n, .int .i64 m, v], .int .i64 x, .int .i64 y, .int .i64 k] w fun e w' => e = .returned (.agg #[.int .i64 (Tn.part (Tx.px n m l x y k) 0), .int .i64 (Tn.part (Tx.px n m l x y k) 1), .int .i64 (Tn.part (Tx.px n m l x y k) 2), .int .i64 (Tn.part (Tx.px n m l x y k) 3)]) ∧ Kp w.heap.size w w' := by
  obtain ⟨q1, q2, q3, q4⟩ := Tx.chk_ok.1 hc
  have A1 := fun U => rwrap_any k x n U hk q1 hx
  have A2 := fun U => rwrap_any k y m U hk q2 hy
  obtain ⟨a1, a2⟩ := Tx.area_bd q1 q2
  obtain ⟨b1, b2⟩ := Tx.wrap_bd (k := k) (n := x) q1.1
  obtain ⟨b3, b4⟩ := Tx.wrap_bd (k := k) (n := y) q2.1
  obtain ⟨j, hj, hjl, hpx, hg⟩ := Tx.px_at (x := x) (y := y) (k := k) hc
  have U1 := fun U => runpack_yes (Tx.px n m l x y k) U (by rw [← hpx]; exact hg)
  obtain ⟨a, c, rfl, hac, hu⟩ := hS.parts
  have hcell := fun U hk2 => hu U hk2 j _ (iv_get hjl)
  rw [iv_len] at hac ⊢
  rw [hpx] at hcell
  obtain ⟨p, o, rfl, -⟩ := hcell w (Kp.refl _ _)
  have HC : Hid (∀ U, Kp w.heap.size w U → U.cell? ⟨p, o + j, none⟩ = some (.int .i64 (Tx.px n m l x y k))) := Lib.hid fun U hk2 => by
    obtain ⟨p', o', e1, e2⟩ := hcell U hk2
    simp only [Option.some.injEq, Addr.mk.injEq, and_true] at e1
    obtain ⟨rfl, rfl⟩ := e1
    exact e2
  clear hcell hu
  unfold Tx.spot at hj
  have m1 : 0 ≤ Tx.wrap k y m * n := Int.mul_nonneg b3 (by omega)
  have m2 : Tx.wrap k y m * n ≤ 4096 := by omega
  have j1 : (j : Int) < (l.length : Int) := by omega
  generalize Tx.px n m l x y k = px at *
  generalize Tx.wrap k x n = cc at *
  generalize Tx.wrap k y m = rr at *
  have V1 := Lib.hid (wraps_i64 (rr * n) m1 (by omega))
  have V2 := Lib.hid ((wraps_i64 (rr * n + cc) (by omega) (by omega)).trans hj.symm)
  clear hj hS hc hk hx hy hpx hg q1 q2 q3 q4 a1 a2 b1 b2 b3 b4 m1 m2
  have HO : Hid (Ow w _ (Tx.mb w n m (.slice (some ⟨p, o, none⟩) l.length c))) := Lib.hid (((Ow.refl w).newAt w.heap.size rfl (.int .i64 n) [.int .i64 m, .slice (some ⟨p, o, none⟩) l.length c] 30).newAt (w.heap.size + 1) (by simp) (.int .i64 0) [.int .i64 0, .int .i64 0, .int .i64 0] 51)
  have HX := Lib.hid (show (w.heap.size, [.int .i64 n, .int .i64 m, .slice (some ⟨p, o, none⟩) l.length c]) ∈ Tx.mb w n m (.slice (some ⟨p, o, none⟩) l.length c) by simp [Tx.mb])
  go_enter Tryz.func59, Tryz.ntmps59
  go_upto_region 1 with fail
  refine Rg2.region (σ := List (Nat × List Value)) (I := Rg2.Io w (Tx.mb w n m (.slice (some ⟨p, o, none⟩) l.length c))) (mk := fun b s => (b, [.int .i64 0, .int .i64 0, .int .i64 0, .int .i64 0]) :: s) (dem := fun i => i == 22 || i == 23) (m := 25) (g := 0) (T := fun listed s st => ∀ W, Rg2.Io w (Tx.mb w n m (.slice (some ⟨p, o, none⟩) l.length c)) s W → wpAny Tryz.prog .any _ _ 0 listed st W) [] (by kernel_rfl) HO.out.drew rfl (fun _ _ _ _ h hI => h _ hI) ?_
  clear HO
  refine Rg2.take 0 (v := .pointer (some ⟨w.heap.size, 2, none⟩)) rfl rfl (by kernel_rfl) (by kernel_rfl) (by kernel_rfl) (by kernel_rfl) (by kernel_rfl) (.inl ⟨rfl, fun bs wq hI => ?_⟩) ?_
  · go_simp
  simp only [Act.put, List.getElem_toArray, List.getElem_cons_zero, List.getElem_cons_succ, List.setIfInBounds_toArray, List.set_cons_zero, List.set_cons_succ]
  refine Rg2.take 1 (v := .slice (some ⟨p, o, none⟩) l.length c) rfl rfl (by kernel_rfl) (by kernel_rfl) (by kernel_rfl) (by kernel_rfl) (by kernel_rfl) (.inl ⟨rfl, fun bs wq hI => ?_⟩) ?_
  · (have hc := (hI.rc HX.out).cell 2 rfl; go_simp)
  simp only [Act.put, List.getElem_toArray, List.getElem_cons_zero, List.getElem_cons_succ, List.setIfInBounds_toArray, List.set_cons_zero, List.set_cons_succ]
  refine Rg2.take 2 (v := .int .i64 k) rfl rfl (by kernel_rfl) (by kernel_rfl) (by kernel_rfl) (by kernel_rfl) (by kernel_rfl) (.inl ⟨rfl, fun bs wq hI => ?_⟩) ?_
  · go_simp
  simp only [Act.put, List.getElem_toArray, List.getElem_cons_zero, List.getElem_cons_succ, List.setIfInBounds_toArray, List.set_cons_zero, List.set_cons_succ]
  refine Rg2.take 3 (v := .int .i64 y) rfl rfl (by kernel_rfl) (by kernel_rfl) (by kernel_rfl) (by kernel_rfl) (by kernel_rfl) (.inl ⟨rfl, fun bs wq hI => ?_⟩) ?_
  · go_simp
  simp only [Act.put, List.getElem_toArray, List.getElem_cons_zero, List.getElem_cons_succ, List.setIfInBounds_toArray, List.set_cons_zero, List.set_cons_succ]
  refine Rg2.take 4 (v := .pointer (some ⟨w.heap.size, 1, none⟩)) rfl rfl (by kernel_rfl) (by kernel_rfl) (by kernel_rfl) (by kernel_rfl) (by kernel_rfl) (.inl ⟨rfl, fun bs wq hI => ?_⟩) ?_
  · go_simp
  simp only [Act.put, List.getElem_toArray, List.getElem_cons_zero, List.getElem_cons_succ, List.setIfInBounds_toArray, List.set_cons_zero, List.set_cons_succ]
  refine Rg2.take 5 (v := .int .i64 m) rfl rfl (by kernel_rfl) (by kernel_rfl) (by kernel_rfl) (by kernel_rfl) (by kernel_rfl) (.inl ⟨rfl, fun bs wq hI => ?_⟩) ?_
  · (have hc := (hI.rc HX.out).cell 1 rfl; go_simp)
  simp only [Act.put, List.getElem_toArray, List.getElem_cons_zero, List.getElem_cons_succ, List.setIfInBounds_toArray, List.set_cons_zero, List.set_cons_succ]
  refine Rg2.take 6 (v := .int .i64 rr) rfl rfl (by kernel_rfl) (by kernel_rfl) (by kernel_rfl) (by kernel_rfl) (by kernel_rfl) (.inl ⟨rfl, fun bs wq hI => ?_⟩) ?_
  · (go_simp; exact (A2 _).mono fun e w2 h => ⟨h.1, h.2 ▸ hI⟩)
  simp only [Act.put, List.getElem_toArray, List.getElem_cons_zero, List.getElem_cons_succ, List.setIfInBounds_toArray, List.set_cons_zero, List.set_cons_succ]
  refine Rg2.take 7 (v := .pointer (some ⟨w.heap.size, 0, none⟩)) rfl rfl (by kernel_rfl) (by kernel_rfl) (by kernel_rfl) (by kernel_rfl) (by kernel_rfl) (.inl ⟨rfl, fun bs wq hI => ?_⟩) ?_
  · go_simp
  simp only [Act.put, List.getElem_toArray, List.getElem_cons_zero, List.getElem_cons_succ, List.setIfInBounds_toArray, List.set_cons_zero, List.set_cons_succ]
  refine Rg2.take 8 (v := .int .i64 n) rfl rfl (by kernel_rfl) (by kernel_rfl) (by kernel_rfl) (by kernel_rfl) (by kernel_rfl) (.inl ⟨rfl, fun bs wq hI => ?_⟩) ?_
  · (have hc := (hI.rc HX.out).cell 0 rfl; go_simp)
  simp only [Act.put, List.getElem_toArray, List.getElem_cons_zero, List.getElem_cons_succ, List.setIfInBounds_toArray, List.set_cons_zero, List.set_cons_succ]
  refine Rg2.take 9 (v := .int .i64 (rr * n)) rfl rfl (by kernel_rfl) (by kernel_rfl) (by kernel_rfl) (by kernel_rfl) (by kernel_rfl) (.inl ⟨rfl, fun bs wq hI => ?_⟩) ?_
  · (go_simp <;> exact V1.out)
  simp only [Act.put, List.getElem_toArray, List.getElem_cons_zero, List.getElem_cons_succ, List.setIfInBounds_toArray, List.set_cons_zero, List.set_cons_succ]
  refine Rg2.take 10 (v := .int .i64 k) rfl rfl (by kernel_rfl) (by kernel_rfl) (by kernel_rfl) (by kernel_rfl) (by kernel_rfl) (.inl ⟨rfl, fun bs wq hI => ?_⟩) ?_
  · go_simp
  simp only [Act.put, List.getElem_toArray, List.getElem_cons_zero, List.getElem_cons_succ, List.setIfInBounds_toArray, List.set_cons_zero, List.set_cons_succ]
  refine Rg2.take 11 (v := .int .i64 x) rfl rfl (by kernel_rfl) (by kernel_rfl) (by kernel_rfl) (by kernel_rfl) (by kernel_rfl) (.inl ⟨rfl, fun bs wq hI => ?_⟩) ?_
  · go_simp
  simp only [Act.put, List.getElem_toArray, List.getElem_cons_zero, List.getElem_cons_succ, List.setIfInBounds_toArray, List.set_cons_zero, List.set_cons_succ]
  refine Rg2.take 12 (v := .pointer (some ⟨w.heap.size, 0, none⟩)) rfl rfl (by kernel_rfl) (by kernel_rfl) (by kernel_rfl) (by kernel_rfl) (by kernel_rfl) (.inl ⟨rfl, fun bs wq hI => ?_⟩) ?_
  · go_simp
  simp only [Act.put, List.getElem_toArray, List.getElem_cons_zero, List.getElem_cons_succ, List.setIfInBounds_toArray, List.set_cons_zero, List.set_cons_succ]
  refine Rg2.take 13 (v := .int .i64 n) rfl rfl (by kernel_rfl) (by kernel_rfl) (by kernel_rfl) (by kernel_rfl) (by kernel_rfl) (.inl ⟨rfl, fun bs wq hI => ?_⟩) ?_
  · (have hc := (hI.rc HX.out).cell 0 rfl; go_simp)
  simp only [Act.put, List.getElem_toArray, List.getElem_cons_zero, List.getElem_cons_succ, List.setIfInBounds_toArray, List.set_cons_zero, List.set_cons_succ]
  refine Rg2.take 14 (v := .int .i64 cc) rfl rfl (by kernel_rfl) (by kernel_rfl) (by kernel_rfl) (by kernel_rfl) (by kernel_rfl) (.inl ⟨rfl, fun bs wq hI => ?_⟩) ?_
  · (go_simp; exact (A1 _).mono fun e w2 h => ⟨h.1, h.2 ▸ hI⟩)
  simp only [Act.put, List.getElem_toArray, List.getElem_cons_zero, List.getElem_cons_succ, List.setIfInBounds_toArray, List.set_cons_zero, List.set_cons_succ]
  refine Rg2.take 15 (v := .int .i64 j) rfl rfl (by kernel_rfl) (by kernel_rfl) (by kernel_rfl) (by kernel_rfl) (by kernel_rfl) (.inl ⟨rfl, fun bs wq hI => ?_⟩) ?_
  · (go_simp <;> exact V2.out)
  simp only [Act.put, List.getElem_toArray, List.getElem_cons_zero, List.getElem_cons_succ, List.setIfInBounds_toArray, List.set_cons_zero, List.set_cons_succ]
  refine Rg2.take 16 (v := .pointer (some ⟨p, o + j, none⟩)) rfl rfl (by kernel_rfl) (by kernel_rfl) (by kernel_rfl) (by kernel_rfl) (by kernel_rfl) (.inl ⟨rfl, fun bs wq hI => ?_⟩) ?_
  · go_simp
  simp only [Act.put, List.getElem_toArray, List.getElem_cons_zero, List.getElem_cons_succ, List.setIfInBounds_toArray, List.set_cons_zero, List.set_cons_succ]
  refine Rg2.take 17 (v := .int .i64 px) rfl rfl (by kernel_rfl) (by kernel_rfl) (by kernel_rfl) (by kernel_rfl) (by kernel_rfl) (.inl ⟨rfl, fun bs wq hI => ?_⟩) ?_
  · (have hc := HC.out _ (Ow.k hI); go_simp)
  simp only [Act.put, List.getElem_toArray, List.getElem_cons_zero, List.getElem_cons_succ, List.setIfInBounds_toArray, List.set_cons_zero, List.set_cons_succ]
  refine Rg2.take 18 (v := .tuple #[.agg #[.int .i64 (Tn.part px 0), .int .i64 (Tn.part px 1), .int .i64 (Tn.part px 2), .int .i64 (Tn.part px 3)], .bool true]) rfl rfl (by kernel_rfl) (by kernel_rfl) (by kernel_rfl) (by kernel_rfl) (by kernel_rfl) (.inl ⟨rfl, fun bs wq hI => ?_⟩) ?_
  · (go_simp; exact (U1 _).mono fun e w2 h => ⟨h.1, hI.call h.2⟩)
  simp only [Act.put, List.getElem_toArray, List.getElem_cons_zero, List.getElem_cons_succ, List.setIfInBounds_toArray, List.set_cons_zero, List.set_cons_succ]
  refine Rg2.take 19 (v := .tuple #[.agg #[.int .i64 (Tn.part px 0), .int .i64 (Tn.part px 1), .int .i64 (Tn.part px 2), .int .i64 (Tn.part px 3)], .bool true]) rfl rfl (by kernel_rfl) (by kernel_rfl) (by kernel_rfl) (by kernel_rfl) (by kernel_rfl) (.inl ⟨rfl, fun bs wq hI => ?_⟩) ?_
  · go_simp
  simp only [Act.put, List.getElem_toArray, List.getElem_cons_zero, List.getElem_cons_succ, List.setIfInBounds_toArray, List.set_cons_zero, List.set_cons_succ]
  refine Rg2.take 20 (v := .agg #[.int .i64 (Tn.part px 0), .int .i64 (Tn.part px 1), .int .i64 (Tn.part px 2), .int .i64 (Tn.part px 3)]) rfl rfl (by kernel_rfl) (by kernel_rfl) (by kernel_rfl) (by kernel_rfl) (by kernel_rfl) (.inl ⟨rfl, fun bs wq hI => ?_⟩) ?_
  · go_simp
  simp only [Act.put, List.getElem_toArray, List.getElem_cons_zero, List.getElem_cons_succ, List.setIfInBounds_toArray, List.set_cons_zero, List.set_cons_succ]
  refine Rg2.take 21 (v := .bool true) rfl rfl (by kernel_rfl) (by kernel_rfl) (by kernel_rfl) (by kernel_rfl) (by kernel_rfl) (.inl ⟨rfl, fun bs wq hI => ?_⟩) ?_
  · go_simp
  simp only [Act.put, List.getElem_toArray, List.getElem_cons_zero, List.getElem_cons_succ, List.setIfInBounds_toArray, List.set_cons_zero, List.set_cons_succ]
  refine Rg2.made1 22 (by kernel_rfl) rfl rfl (Rg2.makes_four (ty := 51) (fun _ => rfl) (fun a W => by simp [execOp, go_sem])) (fun z => ?_)
  simp only [Act.put, List.getElem_toArray, List.getElem_cons_zero, List.getElem_cons_succ, List.setIfInBounds_toArray, List.set_cons_zero, List.set_cons_succ]
  refine Rg2.put1 23 (by kernel_rfl) rfl rfl (Rg2.puts_row ty_color 0 [.int .i64 (Tn.part px 0), .int .i64 (Tn.part px 1), .int .i64 (Tn.part px 2), .int .i64 (Tn.part px 3)] rfl _ _ rfl _ rfl rfl _ rfl rfl rfl rfl) ?_
  simp only [Act.put, List.getElem_toArray, List.getElem_cons_zero, List.getElem_cons_succ, List.setIfInBounds_toArray, List.set_cons_zero, List.set_cons_succ]
  refine Rg2.take 24 (v := .bool true) rfl rfl (by kernel_rfl) (by kernel_rfl) (by kernel_rfl) (by kernel_rfl) (by kernel_rfl) (.inl ⟨rfl, fun bs wq hI => ?_⟩) ?_
  · go_simp
  simp only [Act.put, List.getElem_toArray, List.getElem_cons_zero, List.getElem_cons_succ, List.setIfInBounds_toArray, List.set_cons_zero, List.set_cons_succ]
  refine Rg2.done (rs := []) (by kernel_rfl) (by decide) (fun W hI => ?_)
  have HO := Lib.hid (show Ow w W _ from hI)
  clear hI
  refine wpAny_done (by kernel_rfl) ?_ _
  go_wp2_with (first | ((with_reducible show wpList _ _ _ ({ dst := _, op := Op.load 51 (Operand.tmp 9), type := _, pos := _, after := _, guard := _ } :: _) _ _); refine wpList_ldr ty_color rfl _ rfl _ rfl _ rfl (HO.out.at 0 rfl) ?_) | ((with_reducible show wpList _ _ _ ({ dst := _, op := Op.store 51 _ _, type := _, pos := _, after := _, guard := _ } :: _) _ _); refine wpList_sto ty_color HO.out 1 [.int .i64 (Tn.part px 0), .int .i64 (Tn.part px 1), .int .i64 (Tn.part px 2), .int .i64 (Tn.part px 3)] rfl _ _ rfl _ rfl rfl _ rfl rfl rfl rfl ?_; intro w2 l2; clear HO; have HO := Lib.hid l2; clear l2))
  exact bodyPost_ret (results_c ty_color rfl rfl rfl (HO.out.at 1 rfl)) rfl ⟨rfl, HO.out.k⟩
theorem Tx.two {a p : Int} (ha : 0 ≤ a ∧ a ≤ 255) (hp : 0 ≤ p ∧ p ≤ 256) : 0 ≤ a * p ∧ a * p ≤ 65280 := by
  have h1 := Int.mul_nonneg ha.1 hp.1
  have h2 : a * p ≤ 255 * p := Int.mul_le_mul_of_nonneg_right ha.2 hp.1
  omega
theorem Tx.three {a p q : Int} (ha : 0 ≤ a ∧ a ≤ 255) (hp : 0 ≤ p ∧ p ≤ 256) (hq : 0 ≤ q ∧ q ≤ 256) : (0 ≤ a * p ∧ a * p ≤ 65280) ∧ 0 ≤ a * p * q ∧ a * p * q ≤ 16711680 := by
  obtain ⟨h1, h2⟩ := Tx.two ha hp
  have h3 := Int.mul_nonneg h1 hq.1
  have h4 : a * p * q ≤ 65280 * q := Int.mul_le_mul_of_nonneg_right h2 hq.1
  exact ⟨⟨h1, h2⟩, h3, by omega⟩
set_option maxHeartbeats 1000000 in
theorem rmixed_any (a b c d fx fy : Int) (w : World) (ha : 0 ≤ a ∧ a ≤ 255) (hb : 0 ≤ b ∧ b ≤ 255) (hc : 0 ≤ c ∧ c ≤ 255) (hd : 0 ≤ d ∧ d ≤ 255) (hx : 0 ≤ fx ∧ fx ≤ 255) (hy : 0 ≤ fy ∧ fy ≤ 255) :
    Calls Tryz.prog 61 #[.int .i64 a, .int .i64 b, .int .i64 c, .int .i64 d, .int .i64 fx, .int .i64 fy] w fun e w' => e = .returned (.int .i64 (Tx.lin a b c d fx fy)) ∧ w = w' := by
  obtain ⟨⟨a1, a2⟩, a3, a4⟩ := Tx.three ha (p := 256 - fx) (q := 256 - fy) (by omega) (by omega)
  obtain ⟨⟨b1, b2⟩, b3, b4⟩ := Tx.three hb (p := fx) (q := 256 - fy) (by omega) (by omega)
  obtain ⟨⟨c1, c2⟩, c3, c4⟩ := Tx.three hc (p := 256 - fx) (q := fy) (by omega) (by omega)
  obtain ⟨⟨d1, d2⟩, d3, d4⟩ := Tx.three hd (p := fx) (q := fy) (by omega) (by omega)
  have HR := Lib.hid (Tx.lin_ref a b c d fx fy)
  generalize Tx.lin a b c d fx fy = r at *
  obtain ⟨x1, x2⟩ := hx
  obtain ⟨y1, y2⟩ := hy
  clear ha hb hc hd
  go_enter Tryz.func61, Tryz.ntmps61
  go_wp2
  go_ret
  exact ⟨ret_int HR.out, rfl⟩
end Go.Proofs.YtankjlpanmmogaaGreat
