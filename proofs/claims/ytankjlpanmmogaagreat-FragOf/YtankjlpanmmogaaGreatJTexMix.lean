/-
  Contracts of layer 14 (texel): the functions that add four texels and cut the sums.
-/
import Derived.Test.YtankjlpanmmogaaGreatJTexPlain
import Derived.Test.YtankjlpanmmogaaGreatJViewIs
import Derived.Test.YtankjlpanmmogaaGreatJRegionOw
import Derived.BigGuard
namespace Go.Proofs.YtankjlpanmmogaaGreat
set_option maxRecDepth 100000
open Go.RowKit

theorem ty_corner : Ty 162 3 := ⟨by kernel_rfl, _, Tryz.underlying162, rfl⟩
/-- where the sums lie -/
theorem summed_any (w : World) :
    Calls Tryz.prog 119 #[] w fun e w' => ∃ b, e = .returned (.tuple #[.func (Fn.func 140) #[] #[.pointer (some ⟨b, 0, none⟩)], .func (Fn.func 141) #[] #[.pointer (some ⟨b, 0, none⟩)]]) ∧ Ow w w' [(b, [.int .i64 0, .int .i64 0, .int .i64 0, .int .i64 0])] := by
  have HO := Lib.hid ((Ow.refl w).newAt w.heap.size rfl (.int .i64 0) [.int .i64 0, .int .i64 0, .int .i64 0] 51)
  go_enter Tryz.func119, Tryz.ntmps119
  go_wp2
  go_ret2
  exact ⟨_, rfl, HO.out⟩
set_option linter.unusedSimpArgs false in
set_option maxRecDepth 100000 in
set_option maxHeartbeats 8000000 in
theorem xadd_any (bs : Nat) (r g b a p s0 s1 s2 s3 : Int) (w0 w : World) (ms : List (Nat × List Value)) (ho : Ow w0 w ((bs, [.int .i64 s0, .int .i64 s1, .int .i64 s2, .int .i64 s3]) :: ms)) (hr : 0 ≤ r ∧ r ≤ 255) (hg : 0 ≤ g ∧ g ≤ 255) (hb : 0 ≤ b ∧ b ≤ 255) (ha : 0 ≤ a ∧ a ≤ 255)
    (hp : 0 ≤ p ∧ p ≤ 65536) (h0 : 0 ≤ s0 ∧ s0 ≤ 67108864) (h1 : 0 ≤ s1 ∧ s1 ≤ 67108864) (h2 : 0 ≤ s2 ∧ s2 ≤ 67108864) (h3 : 0 ≤ s3 ∧ s3 ≤ 67108864) :
    Calls Tryz.prog 140 #[.agg #[.int .i64 r, .int .i64 g, .int .i64 b, .int .i64 a], .int .i64 p, .pointer (some ⟨bs, 0, none⟩)] w fun e w' => e = .returned (.tuple #[]) ∧ Ow w0 w' ((bs, [.int .i64 (s0 + r * p), .int .i64 (s1 + g * p), .int .i64 (s2 + b * p), .int .i64 (s3 + a * p)]) :: ms) := by
  obtain ⟨r1, -, r2⟩ := Tx.part_mul hr hp
  obtain ⟨g1, -, g2⟩ := Tx.part_mul hg hp
  obtain ⟨b1, -, b2⟩ := Tx.part_mul hb hp
  obtain ⟨a1, -, a2⟩ := Tx.part_mul ha hp
  obtain ⟨h01, h02⟩ := h0
  obtain ⟨h11, h12⟩ := h1
  obtain ⟨h21, h22⟩ := h2
  obtain ⟨h31, h32⟩ := h3
  have HO := Lib.hid (ho.newAt w.heap.size rfl (.int .i64 r) [.int .i64 g, .int .i64 b, .int .i64 a] 51)
  clear ho hr hg hb ha hp
  go_enter Tryz.func140, Tryz.ntmps140
  go_upto_region 1 with fail
  have c0 := (HO.out.at 0 rfl).cell 0 rfl
  have d0 := (HO.out.at 1 rfl).cell 0 rfl
  have f0 := (HO.out.at 1 rfl).froz 0 (by simp)
  go_upto_region 2 with fail
  have l2 := HO.out.put1 1 rfl 0 (by simp) (.int .i64 (s0 + r * p))
  clear HO c0 d0 f0
  have HO := Lib.hid l2
  clear l2
  generalize hW : World.setCell _ _ _ = V0 at *
  clear hW
  have c1 := (HO.out.at 0 rfl).cell 1 rfl
  have d1 := (HO.out.at 1 rfl).cell 1 rfl
  have f1 := (HO.out.at 1 rfl).froz 1 (by simp)
  go_upto_region 3 with fail
  have l2 := HO.out.put1 1 rfl 1 (by simp) (.int .i64 (s1 + g * p))
  clear HO c1 d1 f1
  have HO := Lib.hid l2
  clear l2
  generalize hW : World.setCell _ _ _ = V1 at *
  clear hW
  have c2 := (HO.out.at 0 rfl).cell 2 rfl
  have d2 := (HO.out.at 1 rfl).cell 2 rfl
  have f2 := (HO.out.at 1 rfl).froz 2 (by simp)
  go_upto_region 4 with fail
  have l2 := HO.out.put1 1 rfl 2 (by simp) (.int .i64 (s2 + b * p))
  clear HO c2 d2 f2
  have HO := Lib.hid l2
  clear l2
  generalize hW : World.setCell _ _ _ = V2 at *
  clear hW
  have c3 := (HO.out.at 0 rfl).cell 3 rfl
  have d3 := (HO.out.at 1 rfl).cell 3 rfl
  have f3 := (HO.out.at 1 rfl).froz 3 (by simp)
  go_wp2_with fail
  have l2 := HO.out.put1 1 rfl 3 (by simp) (.int .i64 (s3 + a * p))
  clear HO c3 d3 f3
  have HO := Lib.hid l2
  clear l2
  first | refine bodyPost_ret (results_none rfl _ _ _) rfl ?_ | refine bodyPost_end (results_none rfl _ _ _) rfl ?_
  exact ⟨rfl, HO.out.drop1⟩
set_option linter.unusedSimpArgs false in
set_option maxRecDepth 100000 in
set_option maxHeartbeats 8000000 in
theorem cut_any (bs : Nat) (s0 s1 s2 s3 : Int) (w : World) (hR : Rc w bs [.int .i64 s0, .int .i64 s1, .int .i64 s2, .int .i64 s3]) (h0 : 0 ≤ s0 ∧ s0 ≤ 67108864) (h1 : 0 ≤ s1 ∧ s1 ≤ 67108864) (h2 : 0 ≤ s2 ∧ s2 ≤ 67108864) (h3 : 0 ≤ s3 ∧ s3 ≤ 67108864) :
    Calls Tryz.prog 141 #[.pointer (some ⟨bs, 0, none⟩)] w fun e w' => e = .returned (.agg #[.int .i64 ((s0 + 32768) / 65536), .int .i64 ((s1 + 32768) / 65536), .int .i64 ((s2 + 32768) / 65536), .int .i64 ((s3 + 32768) / 65536)]) ∧ Kp w.heap.size w w' := by
  have N0 := fun W => xnearest_any s0 W h0.1 h0.2
  have N1 := fun W => xnearest_any s1 W h1.1 h1.2
  have N2 := fun W => xnearest_any s2 W h2.1 h2.2
  have N3 := fun W => xnearest_any s3 W h3.1 h3.2
  have HL := Lib.hid (hR.lt (by simp))
  have HR := Lib.hid hR
  have HO := Lib.hid ((Ow.refl w).newAt w.heap.size rfl (.int .i64 0) [.int .i64 0, .int .i64 0, .int .i64 0] 51)
  clear hR h0 h1 h2 h3
  go_enter Tryz.func141, Tryz.ntmps141
  go_upto_region 1 with fail
  refine Rg.region (I := fun _ W => Ow w W [(w.heap.size, [.int .i64 0, .int .i64 0, .int .i64 0, .int .i64 0])]) (dem := fun _ => false) (m := 13) (g := 1) (T := fun listed bs st => ∀ W, Ow w W [(w.heap.size, [.int .i64 0, .int .i64 0, .int .i64 0, .int .i64 0])] → wpAny Tryz.prog .any _ _ 1 listed st W) (by kernel_rfl) HO.out.drew rfl (fun _ _ _ _ h hI => h _ hI) ?_
  clear HO
  refine Rg.take 0 (v := .pointer (some ⟨bs, 0, none⟩)) rfl rfl (by kernel_rfl) (by kernel_rfl) (by kernel_rfl) (by kernel_rfl) (by kernel_rfl) (.inl ⟨rfl, fun bs wq hI => ?_⟩) ?_
  · go_simp
  simp only [Act.put, List.getElem_toArray, List.getElem_cons_zero, List.getElem_cons_succ, List.setIfInBounds_toArray, List.set_cons_zero, List.set_cons_succ]
  refine Rg.take 1 (v := .int .i64 s0) rfl rfl (by kernel_rfl) (by kernel_rfl) (by kernel_rfl) (by kernel_rfl) (by kernel_rfl) (.inl ⟨rfl, fun bs wq hI => ?_⟩) ?_
  · (have hc := (HR.out.kp hI.k HL.out).cell 0 rfl; go_simp)
  simp only [Act.put, List.getElem_toArray, List.getElem_cons_zero, List.getElem_cons_succ, List.setIfInBounds_toArray, List.set_cons_zero, List.set_cons_succ]
  refine Rg.take 2 (v := .int .i64 ((s0 + 32768) / 65536)) rfl rfl (by kernel_rfl) (by kernel_rfl) (by kernel_rfl) (by kernel_rfl) (by kernel_rfl) (.inl ⟨rfl, fun bs wq hI => ?_⟩) ?_
  · (go_simp; exact (N0 _).mono fun e w2 h => ⟨h.1, h.2 ▸ hI⟩)
  simp only [Act.put, List.getElem_toArray, List.getElem_cons_zero, List.getElem_cons_succ, List.setIfInBounds_toArray, List.set_cons_zero, List.set_cons_succ]
  refine Rg.take 3 (v := .pointer (some ⟨bs, 1, none⟩)) rfl rfl (by kernel_rfl) (by kernel_rfl) (by kernel_rfl) (by kernel_rfl) (by kernel_rfl) (.inl ⟨rfl, fun bs wq hI => ?_⟩) ?_
  · go_simp
  simp only [Act.put, List.getElem_toArray, List.getElem_cons_zero, List.getElem_cons_succ, List.setIfInBounds_toArray, List.set_cons_zero, List.set_cons_succ]
  refine Rg.take 4 (v := .int .i64 s1) rfl rfl (by kernel_rfl) (by kernel_rfl) (by kernel_rfl) (by kernel_rfl) (by kernel_rfl) (.inl ⟨rfl, fun bs wq hI => ?_⟩) ?_
  · (have hc := (HR.out.kp hI.k HL.out).cell 1 rfl; go_simp)
  simp only [Act.put, List.getElem_toArray, List.getElem_cons_zero, List.getElem_cons_succ, List.setIfInBounds_toArray, List.set_cons_zero, List.set_cons_succ]
  refine Rg.take 5 (v := .int .i64 ((s1 + 32768) / 65536)) rfl rfl (by kernel_rfl) (by kernel_rfl) (by kernel_rfl) (by kernel_rfl) (by kernel_rfl) (.inl ⟨rfl, fun bs wq hI => ?_⟩) ?_
  · (go_simp; exact (N1 _).mono fun e w2 h => ⟨h.1, h.2 ▸ hI⟩)
  simp only [Act.put, List.getElem_toArray, List.getElem_cons_zero, List.getElem_cons_succ, List.setIfInBounds_toArray, List.set_cons_zero, List.set_cons_succ]
  refine Rg.take 6 (v := .pointer (some ⟨bs, 2, none⟩)) rfl rfl (by kernel_rfl) (by kernel_rfl) (by kernel_rfl) (by kernel_rfl) (by kernel_rfl) (.inl ⟨rfl, fun bs wq hI => ?_⟩) ?_
  · go_simp
  simp only [Act.put, List.getElem_toArray, List.getElem_cons_zero, List.getElem_cons_succ, List.setIfInBounds_toArray, List.set_cons_zero, List.set_cons_succ]
  refine Rg.take 7 (v := .int .i64 s2) rfl rfl (by kernel_rfl) (by kernel_rfl) (by kernel_rfl) (by kernel_rfl) (by kernel_rfl) (.inl ⟨rfl, fun bs wq hI => ?_⟩) ?_
  · (have hc := (HR.out.kp hI.k HL.out).cell 2 rfl; go_simp)
  simp only [Act.put, List.getElem_toArray, List.getElem_cons_zero, List.getElem_cons_succ, List.setIfInBounds_toArray, List.set_cons_zero, List.set_cons_succ]
  refine Rg.take 8 (v := .int .i64 ((s2 + 32768) / 65536)) rfl rfl (by kernel_rfl) (by kernel_rfl) (by kernel_rfl) (by kernel_rfl) (by kernel_rfl) (.inl ⟨rfl, fun bs wq hI => ?_⟩) ?_
  · (go_simp; exact (N2 _).mono fun e w2 h => ⟨h.1, h.2 ▸ hI⟩)
  simp only [Act.put, List.getElem_toArray, List.getElem_cons_zero, List.getElem_cons_succ, List.setIfInBounds_toArray, List.set_cons_zero, List.set_cons_succ]
  refine Rg.take 9 (v := .pointer (some ⟨bs, 3, none⟩)) rfl rfl (by kernel_rfl) (by kernel_rfl) (by kernel_rfl) (by kernel_rfl) (by kernel_rfl) (.inl ⟨rfl, fun bs wq hI => ?_⟩) ?_
  · go_simp
  simp only [Act.put, List.getElem_toArray, List.getElem_cons_zero, List.getElem_cons_succ, List.setIfInBounds_toArray, List.set_cons_zero, List.set_cons_succ]
  refine Rg.take 10 (v := .int .i64 s3) rfl rfl (by kernel_rfl) (by kernel_rfl) (by kernel_rfl) (by kernel_rfl) (by kernel_rfl) (.inl ⟨rfl, fun bs wq hI => ?_⟩) ?_
  · (have hc := (HR.out.kp hI.k HL.out).cell 3 rfl; go_simp)
  simp only [Act.put, List.getElem_toArray, List.getElem_cons_zero, List.getElem_cons_succ, List.setIfInBounds_toArray, List.set_cons_zero, List.set_cons_succ]
  refine Rg.take 11 (v := .int .i64 ((s3 + 32768) / 65536)) rfl rfl (by kernel_rfl) (by kernel_rfl) (by kernel_rfl) (by kernel_rfl) (by kernel_rfl) (.inl ⟨rfl, fun bs wq hI => ?_⟩) ?_
  · (go_simp; exact (N3 _).mono fun e w2 h => ⟨h.1, h.2 ▸ hI⟩)
  simp only [Act.put, List.getElem_toArray, List.getElem_cons_zero, List.getElem_cons_succ, List.setIfInBounds_toArray, List.set_cons_zero, List.set_cons_succ]
  refine Rg.take 12 (v := .agg #[.int .i64 ((s0 + 32768) / 65536), .int .i64 ((s1 + 32768) / 65536), .int .i64 ((s2 + 32768) / 65536), .int .i64 ((s3 + 32768) / 65536)]) rfl rfl (by kernel_rfl) (by kernel_rfl) (by kernel_rfl) (by kernel_rfl) (by kernel_rfl) (.inl ⟨rfl, fun bs wq hI => ?_⟩) ?_
  · go_simp
  simp only [Act.put, List.getElem_toArray, List.getElem_cons_zero, List.getElem_cons_succ, List.setIfInBounds_toArray, List.set_cons_zero, List.set_cons_succ]
  refine Rg.done (rs := [13]) (by kernel_rfl) (by decide) (fun W hI => ?_)
  refine wpAny_sto ty_color 13 (by kernel_rfl) rfl hI 0 [.int .i64 ((s0 + 32768) / 65536), .int .i64 ((s1 + 32768) / 65536), .int .i64 ((s2 + 32768) / 65536), .int .i64 ((s3 + 32768) / 65536)] rfl _ _ rfl _ rfl rfl _ rfl rfl rfl rfl ?_
  intro W1 hI1
  simp only [Act.put, List.getElem_toArray, List.getElem_cons_zero, List.getElem_cons_succ, List.setIfInBounds_toArray, List.set_cons_zero, List.set_cons_succ]
  have HO := Lib.hid hI1
  clear hI hI1
  refine wpAny_done (by kernel_rfl) ?_ _
  go_wp2_with fail
  exact bodyPost_ret (results_c ty_color rfl rfl rfl (HO.out.at 0 rfl)) rfl ⟨rfl, HO.out.k⟩
/-- sums, round by round -/
def Tx.acc (f p : Nat → Int) : Nat → Int
  | 0 => 0
  | k + 1 => Tx.acc f p k + f k * p k
theorem Tx.acc_bd {f p : Nat → Int} (hf : ∀ k, 0 ≤ f k ∧ f k ≤ 255) (hp : ∀ k, 0 ≤ p k ∧ p k ≤ 65536) (k : Nat) (hk : k ≤ 4) : 0 ≤ Tx.acc f p k ∧ Tx.acc f p k ≤ 67108864 := by
  suffices h : ∀ k : Nat, 0 ≤ Tx.acc f p k ∧ Tx.acc f p k ≤ 16711680 * (k : Int) by have := h k; omega
  intro k
  induction k with
  | zero => simp [Tx.acc]
  | succ k ih =>
    have := Tx.part_mul (hf k) (hp k)
    show 0 ≤ Tx.acc f p k + f k * p k ∧ Tx.acc f p k + f k * p k ≤ _
    omega
/-- the four corners: places, weights -/
def Tx.cx (x : Int) : Nat → Int | 0 => x | 1 => x + 1 | 2 => x | _ => x + 1
def Tx.cy (y : Int) : Nat → Int | 0 => y | 1 => y | 2 => y + 1 | _ => y + 1
def Tx.cw (p0 p1 p2 p3 : Int) : Nat → Int | 0 => p0 | 1 => p1 | 2 => p2 | _ => p3
theorem Tx.cw_bd {p0 p1 p2 p3 : Int} (h0 : 0 ≤ p0 ∧ p0 ≤ 65536) (h1 : 0 ≤ p1 ∧ p1 ≤ 65536) (h2 : 0 ≤ p2 ∧ p2 ≤ 65536) (h3 : 0 ≤ p3 ∧ p3 ≤ 65536) (k : Nat) : 0 ≤ Tx.cw p0 p1 p2 p3 k ∧ Tx.cw p0 p1 p2 p3 k ≤ 65536 := by
  rcases k with _ | _ | _ | k
  · exact h0
  · exact h1
  · exact h2
  · exact h3
theorem Tx.cx_bd (x : Int) (k : Nat) : x ≤ Tx.cx x k ∧ Tx.cx x k ≤ x + 1 := by
  rcases k with _ | _ | _ | k <;> simp only [Tx.cx] <;> omega
theorem Tx.cy_bd (x : Int) (k : Nat) : x ≤ Tx.cy x k ∧ Tx.cy x k ≤ x + 1 := by
  rcases k with _ | _ | _ | k <;> simp only [Tx.cy] <;> omega
theorem ix4 (x y p0 p1 p2 p3 : Int) (k : Nat) (hk : k < 4) (w : World) :
    (Instr.index 163 (.agg #[.int .i64 x, .int .i64 y, .int .i64 p0, .int .i64 (x + 1), .int .i64 y, .int .i64 p1, .int .i64 x, .int .i64 (y + 1), .int .i64 p2, .int .i64 (x + 1), .int .i64 (y + 1), .int .i64 p3]) (.int .i64 k)).run Tryz.prog w = .ok (.agg #[.int .i64 (Tx.cx x k), .int .i64 (Tx.cy y k), .int .i64 (Tx.cw p0 p1 p2 p3 k)]) w := by
  rcases k with _ | _ | _ | _ | k
  · kernel_rfl
  · kernel_rfl
  · kernel_rfl
  · kernel_rfl
  · omega
/-- the texels' channels -/
def Tx.ch (W H : Int) (l : List Int) (x y kd : Int) (i k : Nat) : Int := Tn.part (Tx.px W H l (Tx.cx x k) (Tx.cy y k) kd) i
theorem Tx.acc_lin (W H : Int) (l : List Int) (x y kd fx fy : Int) (i : Nat) :
    (Tx.acc (Tx.ch W H l x y kd i) (Tx.cw ((256 - fx) * (256 - fy)) (fx * (256 - fy)) ((256 - fx) * fy) (fx * fy)) 4 + 32768) / 65536 =
    Tx.lin (Tn.part (Tx.px W H l x y kd) i) (Tn.part (Tx.px W H l (x + 1) y kd) i) (Tn.part (Tx.px W H l x (y + 1) kd) i) (Tn.part (Tx.px W H l (x + 1) (y + 1) kd) i) fx fy := by
  simp only [Tx.acc, Tx.ch, Tx.cx, Tx.cy, Tx.cw, Tx.lin, Int.zero_add]
def msr4 (i : Value) : Nat := 4 - (intOf i).toNat
end Go.Proofs.YtankjlpanmmogaaGreat

/-
  Contract of layer 14 (texel): a soft sample of a right texture.
-/
namespace Go.Proofs.YtankjlpanmmogaaGreat
set_option maxRecDepth 100000
open Go.RowKit

/-- the sums behind k rounds, as cells -/
def Tx.accs (F : Nat → Nat → Int) (p : Nat → Int) (k : Nat) : List Value := [.int .i64 (Tx.acc (F 0) p k), .int .i64 (Tx.acc (F 1) p k), .int .i64 (Tx.acc (F 2) p k), .int .i64 (Tx.acc (F 3) p k)]
/-- the blocks of a soft sample, but for the sums -/
def Tx.mb (w : World) (W H : Int) (v : Value) : List (Nat × List Value) := [(w.heap.size + 1, [.int .i64 0, .int .i64 0, .int .i64 0, .int .i64 0]), (w.heap.size, [.int .i64 W, .int .i64 H, v])]
set_option linter.unusedSimpArgs false in
set_option maxRecDepth 100000 in
set_option maxHeartbeats 4000000 in
theorem mixed_yes (W H u v k : Int) (l : List Int) (t : Value) (w : World) (hS : Sl w t (iv l)) (hc : Tx.chk W H l = 0) (hk : Tx.is k = true) (hu : -65536 ≤ u ∧ u ≤ 65536) (hv : -65536 ≤ v ∧ v ≤ 65536) :
    Calls Tryz.prog 88 #[.agg #[.int .i64 W, .int .i64 H, t], .int .i64 u, .int .i64 v, .int .i64 k] w fun e w' => e = .returned (.tuple #[.agg #[.int .i64 (Tx.soft W H l u v k 0), .int .i64 (Tx.soft W H l u v k 1), .int .i64 (Tx.soft W H l u v k 2), .int .i64 (Tx.soft W H l u v k 3)], .int .i64 0]) ∧ Kp w.heap.size w w' := by
  have hsoft : ∀ i, Tx.soft W H l u v k i = (Tx.acc (Tx.ch W H l ((u - 128) / 256) ((v - 128) / 256) k i) (Tx.cw ((256 - (u - 128) % 256) * (256 - (v - 128) % 256)) ((u - 128) % 256 * (256 - (v - 128) % 256)) ((256 - (u - 128) % 256) * ((v - 128) % 256)) ((u - 128) % 256 * ((v - 128) % 256))) 4 + 32768) / 65536 := fun i => (Tx.acc_lin W H l _ _ k _ _ i).symm
  rw [hsoft 0, hsoft 1, hsoft 2, hsoft 3]
  clear hsoft
  have D1 := fun U => split_any (u - 128) U (by omega) (by omega)
  have D2 := fun U => split_any (v - 128) U (by omega) (by omega)
  obtain ⟨x1, x2⟩ : -300 ≤ (u - 128) / 256 ∧ (u - 128) / 256 ≤ 300 := by omega
  obtain ⟨y1, y2⟩ : -300 ≤ (v - 128) / 256 ∧ (v - 128) / 256 ≤ 300 := by omega
  obtain ⟨f1, f2⟩ : 0 ≤ (u - 128) % 256 ∧ (u - 128) % 256 ≤ 255 := by omega
  obtain ⟨g1, g2⟩ : 0 ≤ (v - 128) % 256 ∧ (v - 128) % 256 ≤ 255 := by omega
  obtain ⟨u1, u2⟩ := hu
  obtain ⟨v1, v2⟩ := hv
  generalize (u - 128) / 256 = x at *
  generalize (v - 128) / 256 = y at *
  generalize (u - 128) % 256 = fx at *
  generalize (v - 128) % 256 = fy at *
  obtain ⟨⟨p01, p02⟩, ⟨p11, p12⟩, ⟨p21, p22⟩, ⟨p31, p32⟩, -⟩ := Tx.weights ⟨f1, f2⟩ ⟨g1, g2⟩
  have R : Hid (∀ (j : Nat) (U : World), Kp w.heap.size w U → Calls Tryz.prog 90 #[.agg #[.int .i64 W, .int .i64 H, t], .int .i64 (Tx.cx x j), .int .i64 (Tx.cy y j), .int .i64 k] U fun e w' => e = .returned (.tuple #[.agg #[.int .i64 (Tx.ch W H l x y k 0 j), .int .i64 (Tx.ch W H l x y k 1 j), .int .i64 (Tx.ch W H l x y k 2 j), .int .i64 (Tx.ch W H l x y k 3 j)], .int .i64 0]) ∧ Kp U.heap.size U w') :=
    Lib.hid fun j U hk2 => read_yes W H (Tx.cx x j) (Tx.cy y j) k l t U (hS.next hk2) hc hk (by have := Tx.cx_bd x j; omega) (by have := Tx.cy_bd y j; omega)
  have hF : Hid (∀ i j, 0 ≤ Tx.ch W H l x y k i j ∧ Tx.ch W H l x y k i j ≤ 255) := Lib.hid fun i j => Tx.part_bd _ _
  generalize Tx.ch W H l x y k = F at *
  clear hS hc hk
  obtain ⟨n0, hn0⟩ : ∃ n, n = (Tx.acc (F 0) (Tx.cw ((256 - fx) * (256 - fy)) (fx * (256 - fy)) ((256 - fx) * fy) (fx * fy)) 4 + 32768) / 65536 := ⟨_, rfl⟩
  obtain ⟨n1, hn1⟩ : ∃ n, n = (Tx.acc (F 1) (Tx.cw ((256 - fx) * (256 - fy)) (fx * (256 - fy)) ((256 - fx) * fy) (fx * fy)) 4 + 32768) / 65536 := ⟨_, rfl⟩
  obtain ⟨n2, hn2⟩ : ∃ n, n = (Tx.acc (F 2) (Tx.cw ((256 - fx) * (256 - fy)) (fx * (256 - fy)) ((256 - fx) * fy) (fx * fy)) 4 + 32768) / 65536 := ⟨_, rfl⟩
  obtain ⟨n3, hn3⟩ : ∃ n, n = (Tx.acc (F 3) (Tx.cw ((256 - fx) * (256 - fy)) (fx * (256 - fy)) ((256 - fx) * fy) (fx * fy)) 4 + 32768) / 65536 := ⟨_, rfl⟩
  rw [← hn0, ← hn1, ← hn2, ← hn3]
  have HN0 := Lib.hid hn0
  have HN1 := Lib.hid hn1
  have HN2 := Lib.hid hn2
  have HN3 := Lib.hid hn3
  clear hn0 hn1 hn2 hn3
  have HO : Hid (Ow w _ (Tx.mb w W H t)) := Lib.hid (((Ow.refl w).newAt w.heap.size rfl (.int .i64 W) [.int .i64 H, t] 30).newAt (w.heap.size + 1) (by simp) (.int .i64 0) [.int .i64 0, .int .i64 0, .int .i64 0] 51)
  go_enter Tryz.func88, Tryz.ntmps88
  go_wp2_with (first
    | (go_at_call 89; (first | (with_reducible refine (D1 _).mono ?_) | (with_reducible refine (D2 _).mono ?_)); rintro e w' ⟨rfl, rfl⟩)
    | (go_at_call 119; refine (summed_any _).mono ?_; rintro e wz ⟨b, rfl, hb⟩; have l2 : Ow w wz ((b, [.int .i64 0, .int .i64 0, .int .i64 0, .int .i64 0]) :: Tx.mb w W H t) := HO.out.join hb; clear HO hb; have HO := Lib.hid l2; clear l2))
  generalize (256 - fx) * (256 - fy) = p0 at *
  generalize fx * (256 - fy) = p1 at *
  generalize (256 - fx) * fy = p2 at *
  generalize fx * fy = p3 at *
  have hP := Lib.hid (Tx.cw_bd ⟨p01, p02⟩ ⟨p11, p12⟩ ⟨p21, p22⟩ ⟨p31, p32⟩)
  have hA : Hid (∀ i j, j ≤ 4 → 0 ≤ Tx.acc (F i) (Tx.cw p0 p1 p2 p3) j ∧ Tx.acc (F i) (Tx.cw p0 p1 p2 p3) j ≤ 67108864) := Lib.hid fun i j hj => Tx.acc_bd (hF.out i) hP.out j hj
  clear D1 D2 p01 p02 p11 p12 p21 p22 p31 p32 u1 u2 v1 v2 x1 x2 y1 y2 f1 f2 g1 g2
  go_loopw [69] (fun i wr => ∃ j : Nat, j ≤ 4 ∧ i = .int .i64 j ∧ Ow w wr ((b, Tx.accs F (Tx.cw p0 p1 p2 p3) j) :: Tx.mb w W H t)) (fun i _ => msr4 i)
  case atStart => exact ⟨0, by omega, rfl, HO.out⟩
  case round =>
    clear HO
    obtain ⟨j, hj, rfl, ho⟩ := hrel
    have HO := Lib.hid ho
    clear ho
    by_cases hlt : j < 4
    · have z1 : decide ((j : Int) < 4) = true := decide_eq_true (by omega)
      have hix := ix4 x y p0 p1 p2 p3 j hlt
      have R1 := R.out j
      go_upto_region 7 with fail
      have l2 := HO.out.newAt wr.heap.size rfl (.int .i64 (Tx.cx x j)) [.int .i64 (Tx.cy y j), .int .i64 (Tx.cw p0 p1 p2 p3 j)] 162
      clear HO hix z1
      have HO := Lib.hid l2
      clear l2
      have c0 := (HO.out.at 0 rfl).cell 0 rfl
      have c1 := (HO.out.at 0 rfl).cell 1 rfl
      generalize hW : World.alloc _ _ = W1 at *
      clear hW
      generalize wr.heap.size = n1 at *
      go_upto_region 8 with (first
        | ((with_reducible show wpList _ _ _ ({ dst := _, op := Op.load 30 _, type := _, pos := _, after := _, guard := _ } :: _) _ _); refine wpList_ldr ty_tex rfl _ rfl _ rfl _ rfl (HO.out.at 3 rfl) ?_)
        | (go_at_call 90; refine (R1 _ HO.out.k).mono ?_; rintro e wz ⟨rfl, hk1⟩; have l2 := (HO.out.call hk1).newAt wz.heap.size rfl (.int .i64 (F 0 j)) [.int .i64 (F 1 j), .int .i64 (F 2 j), .int .i64 (F 3 j)] 51; clear HO hk1 c0 c1; have HO := Lib.hid l2; clear l2))
      have c2 := (HO.out.at 1 rfl).cell 2 rfl
      clear R1
      go_wp2_with (first
        | ((with_reducible show wpList _ _ _ ({ dst := _, op := Op.load 51 _, type := _, pos := _, after := _, guard := _ } :: _) _ _); refine wpList_ldr ty_color rfl _ rfl _ rfl _ rfl (HO.out.at 0 rfl) ?_)
        | (go_at_call 140; refine (xadd_any b _ _ _ _ _ _ _ _ _ w _ (Tx.mb w W H t) HO.out.drop1.drop1 (hF.out 0 j) (hF.out 1 j) (hF.out 2 j) (hF.out 3 j) (hP.out j) (hA.out 0 j hj) (hA.out 1 j hj) (hA.out 2 j hj) (hA.out 3 j hj)).mono ?_; rintro e wz ⟨rfl, ho2⟩; clear HO c2; have HO := Lib.hid ho2; clear ho2))
      go_roundw
      case rel => exact ⟨j + 1, by omega, by go_num, HO.out⟩
      case measure => simp [msr4, intOf]; omega
    · have z1 : decide ((j : Int) < 4) = false := decide_eq_false (by omega)
      obtain rfl : j = 4 := by omega
      have C1 := fun U (hR : Rc U b (Tx.accs F (Tx.cw p0 p1 p2 p3) 4)) => cut_any b _ _ _ _ U hR (hA.out 0 4 hj) (hA.out 1 4 hj) (hA.out 2 4 hj) (hA.out 3 4 hj)
      simp only [← HN0.out, ← HN1.out, ← HN2.out, ← HN3.out] at C1
      go_wp2_with (first
        | (go_at_call 141; refine (C1 _ (HO.out.at 0 rfl)).mono ?_; rintro e wz ⟨rfl, hk1⟩; have l2 := HO.out.call hk1; clear HO hk1; have HO := Lib.hid l2; clear l2)
        | ((with_reducible show wpList _ _ _ ({ dst := _, op := Op.store 51 _ _, type := _, pos := _, after := _, guard := _ } :: _) _ _); refine wpList_sto ty_color HO.out 1 [.int .i64 n0, .int .i64 n1, .int .i64 n2, .int .i64 n3] rfl _ _ rfl _ rfl rfl _ rfl rfl rfl rfl ?_; intro w2 l2; clear HO; have HO := Lib.hid l2; clear l2))
      exact bodyPost_ret (results_c2 ty_color rfl rfl rfl rfl (HO.out.at 1 rfl)) rfl ⟨rfl, HO.out.k⟩
end Go.Proofs.YtankjlpanmmogaaGreat

/-
  Contracts of layer 14 (texel): Sample.
-/
namespace Go.Proofs.YtankjlpanmmogaaGreat
set_option maxRecDepth 100000
open Go.RowKit

/-- the error of Sample -/
def Tx.smpE (W H : Int) (l : List Int) (k u v : Int) : Int := if Tx.chk W H l = 0 then (if Tx.is k then (if Tx.within 65536 u && Tx.within 65536 v then 0 else 3) else 9) else Tx.chk W H l
theorem Tx.smpE_chk {W H : Int} {l : List Int} {k u v : Int} (h : Tx.chk W H l ≠ 0) : Tx.smpE W H l k u v = Tx.chk W H l := by unfold Tx.smpE; rw [if_neg h]
theorem Tx.smpE_kind {W H : Int} {l : List Int} {k u v : Int} (h : Tx.chk W H l = 0) (hk : Tx.is k = false) : Tx.smpE W H l k u v = 9 := by unfold Tx.smpE; rw [if_pos h, hk]; rfl
theorem Tx.smpE_out {W H : Int} {l : List Int} {k u v : Int} (h : Tx.chk W H l = 0) (hk : Tx.is k = true) (hn : (Tx.within 65536 u && Tx.within 65536 v) = false) : Tx.smpE W H l k u v = 3 := by unfold Tx.smpE; rw [if_pos h, hk, hn]; rfl
theorem Tx.smpE_ok {W H : Int} {l : List Int} {k u v : Int} (h : Tx.chk W H l = 0) (hk : Tx.is k = true) (hu : Tx.within 65536 u = true) (hv : Tx.within 65536 v = true) : Tx.smpE W H l k u v = 0 := by unfold Tx.smpE; rw [if_pos h, hk, hu, hv]; rfl
set_option maxHeartbeats 2000000 in
theorem sample_no (W H u v k : Int) (soft : Bool) (l : List Int) (t : Value) (w : World) (hS : Sl w t (iv l)) (hi : Tx.ints l) (h : Tx.smpE W H l k u v ≠ 0) :
    Calls Tryz.prog 50 #[.agg #[.int .i64 W, .int .i64 H, t], .int .i64 u, .int .i64 v, .int .i64 k, .bool soft] w fun e w' => e = .returned (.tuple #[.agg #[.int .i64 0, .int .i64 0, .int .i64 0, .int .i64 0], .int .i64 (Tx.smpE W H l k u v)]) ∧ Kp w.heap.size w w' := by
  have C1 := fun U (hk : Kp w.heap.size w U) => xcheck_any W H l t U (hS.next hk) hi
  have K1 := fun U => kind_any k U
  have W1 := fun U => xwithin_any 65536 u U (by omega)
  have W2 := fun U => xwithin_any 65536 v U (by omega)
  have HO := Lib.hid (((Ow.refl w).newAt w.heap.size rfl (.int .i64 W) [.int .i64 H, t] 30).newAt (w.heap.size + 1) (by simp) (.int .i64 0) [.int .i64 0, .int .i64 0, .int .i64 0] 51)
  by_cases hc : Tx.chk W H l = 0
  · rw [hc] at C1
    cases hk : Tx.is k
    · rw [Tx.smpE_kind hc hk]
      rw [hk] at K1
      clear hS hi h hc hk
      go_enter Tryz.func50, Tryz.ntmps50
      go_wp2_with (first | ((with_reducible show wpList _ _ _ ({ dst := _, op := Op.load 30 _, type := _, pos := _, after := _, guard := _ } :: _) _ _); refine wpList_ldr ty_tex rfl _ rfl _ rfl _ rfl (HO.out.at 1 rfl) ?_) | (go_at_call 85; refine (C1 _ HO.out.k).mono ?_; rintro e wz ⟨rfl, hk1⟩; have l2 := HO.out.call hk1; clear HO hk1; have HO := Lib.hid l2; clear l2) | (go_at_call 86; refine (K1 _).mono ?_; rintro e w' ⟨rfl, rfl⟩) | ((with_reducible show wpList _ _ _ ({ dst := _, op := Op.store 51 _ _, type := _, pos := _, after := _, guard := _ } :: _) _ _); refine wpList_sto ty_color HO.out 0 [.int .i64 0, .int .i64 0, .int .i64 0, .int .i64 0] rfl _ _ rfl _ rfl rfl _ rfl rfl rfl rfl ?_; intro w2 l2; clear HO; have HO := Lib.hid l2; clear l2))
      exact bodyPost_ret (results_c2 ty_color rfl rfl rfl rfl (HO.out.at 0 rfl)) rfl ⟨rfl, HO.out.k⟩
    · rw [hk] at K1
      cases hu : Tx.within 65536 u
      · rw [Tx.smpE_out hc hk (by rw [hu]; rfl)]
        rw [hu] at W1
        clear hS hi h hc hk hu
        go_enter Tryz.func50, Tryz.ntmps50
        go_wp2_with (first | go_big_skip | ((with_reducible show wpList _ _ _ ({ dst := _, op := Op.load 30 _, type := _, pos := _, after := _, guard := _ } :: _) _ _); refine wpList_ldr ty_tex rfl _ rfl _ rfl _ rfl (HO.out.at 1 rfl) ?_) | (go_at_call 85; refine (C1 _ HO.out.k).mono ?_; rintro e wz ⟨rfl, hk1⟩; have l2 := HO.out.call hk1; clear HO hk1; have HO := Lib.hid l2; clear l2) | (go_at_call 86; refine (K1 _).mono ?_; rintro e w' ⟨rfl, rfl⟩) | (go_at_call 87; refine (W1 _).mono ?_; rintro e w' ⟨rfl, rfl⟩) | ((with_reducible show wpList _ _ _ ({ dst := _, op := Op.store 51 _ _, type := _, pos := _, after := _, guard := _ } :: _) _ _); refine wpList_sto ty_color HO.out 0 [.int .i64 0, .int .i64 0, .int .i64 0, .int .i64 0] rfl _ _ rfl _ rfl rfl _ rfl rfl rfl rfl ?_; intro w2 l2; clear HO; have HO := Lib.hid l2; clear l2))
        exact bodyPost_ret (results_c2 ty_color rfl rfl rfl rfl (HO.out.at 0 rfl)) rfl ⟨rfl, HO.out.k⟩
      · cases hv : Tx.within 65536 v
        · rw [Tx.smpE_out hc hk (by rw [hu, hv]; rfl)]
          rw [hu] at W1
          rw [hv] at W2
          clear hS hi h hc hk hu hv
          go_enter Tryz.func50, Tryz.ntmps50
          go_wp2_with (first | go_big_skip | ((with_reducible show wpList _ _ _ ({ dst := _, op := Op.load 30 _, type := _, pos := _, after := _, guard := _ } :: _) _ _); refine wpList_ldr ty_tex rfl _ rfl _ rfl _ rfl (HO.out.at 1 rfl) ?_) | (go_at_call 85; refine (C1 _ HO.out.k).mono ?_; rintro e wz ⟨rfl, hk1⟩; have l2 := HO.out.call hk1; clear HO hk1; have HO := Lib.hid l2; clear l2) | (go_at_call 86; refine (K1 _).mono ?_; rintro e w' ⟨rfl, rfl⟩) | (go_at_call 87; (first | (with_reducible refine (W1 _).mono ?_) | (with_reducible refine (W2 _).mono ?_)); rintro e w' ⟨rfl, rfl⟩) | ((with_reducible show wpList _ _ _ ({ dst := _, op := Op.store 51 _ _, type := _, pos := _, after := _, guard := _ } :: _) _ _); refine wpList_sto ty_color HO.out 0 [.int .i64 0, .int .i64 0, .int .i64 0, .int .i64 0] rfl _ _ rfl _ rfl rfl _ rfl rfl rfl rfl ?_; intro w2 l2; clear HO; have HO := Lib.hid l2; clear l2))
          exact bodyPost_ret (results_c2 ty_color rfl rfl rfl rfl (HO.out.at 0 rfl)) rfl ⟨rfl, HO.out.k⟩
        · exact absurd (Tx.smpE_ok hc hk hu hv) h
  · rw [Tx.smpE_chk hc]
    have hc2 : (Tx.chk W H l == 0) = false := by simpa using hc
    generalize Tx.chk W H l = e0 at *
    clear hS hi h hc K1 W1 W2
    go_enter Tryz.func50, Tryz.ntmps50
    go_wp2_with (first | ((with_reducible show wpList _ _ _ ({ dst := _, op := Op.load 30 _, type := _, pos := _, after := _, guard := _ } :: _) _ _); refine wpList_ldr ty_tex rfl _ rfl _ rfl _ rfl (HO.out.at 1 rfl) ?_) | (go_at_call 85; refine (C1 _ HO.out.k).mono ?_; rintro e wz ⟨rfl, hk1⟩; have l2 := HO.out.call hk1; clear HO hk1; have HO := Lib.hid l2; clear l2) | ((with_reducible show wpList _ _ _ ({ dst := _, op := Op.store 51 _ _, type := _, pos := _, after := _, guard := _ } :: _) _ _); refine wpList_sto ty_color HO.out 0 [.int .i64 0, .int .i64 0, .int .i64 0, .int .i64 0] rfl _ _ rfl _ rfl rfl _ rfl rfl rfl rfl ?_; intro w2 l2; clear HO; have HO := Lib.hid l2; clear l2))
    exact bodyPost_ret (results_c2 ty_color rfl rfl rfl rfl (HO.out.at 0 rfl)) rfl ⟨rfl, HO.out.k⟩
set_option maxHeartbeats 2000000 in
theorem sample_yes (W H u v k : Int) (soft : Bool) (l : List Int) (t : Value) (w : World) (hS : Sl w t (iv l)) (hi : Tx.ints l) (hc : Tx.chk W H l = 0) (hk : Tx.is k = true) (hu : -65536 ≤ u ∧ u ≤ 65536) (hv : -65536 ≤ v ∧ v ≤ 65536) :
    Calls Tryz.prog 50 #[.agg #[.int .i64 W, .int .i64 H, t], .int .i64 u, .int .i64 v, .int .i64 k, .bool soft] w fun e w' => e = .returned (.tuple #[.agg #[.int .i64 (Tx.smp W H l u v k soft 0), .int .i64 (Tx.smp W H l u v k soft 1), .int .i64 (Tx.smp W H l u v k soft 2), .int .i64 (Tx.smp W H l u v k soft 3)], .int .i64 0]) ∧ Kp w.heap.size w w' := by
  have C1 := fun U (hk : Kp w.heap.size w U) => xcheck_any W H l t U (hS.next hk) hi
  have K1 := fun U => kind_any k U
  have W1 := fun U => xwithin_any 65536 u U (by omega)
  have W2 := fun U => xwithin_any 65536 v U (by omega)
  have D1 := fun U => split_any u U (by omega) (by omega)
  have D2 := fun U => split_any v U (by omega) (by omega)
  rw [hc] at C1
  rw [hk] at K1
  rw [Tx.within_iff.2 hu] at W1
  rw [Tx.within_iff.2 hv] at W2
  have HO := Lib.hid (((Ow.refl w).newAt w.heap.size rfl (.int .i64 W) [.int .i64 H, t] 30).newAt (w.heap.size + 1) (by simp) (.int .i64 0) [.int .i64 0, .int .i64 0, .int .i64 0] 51)
  cases soft
  · have R1 : ∀ U, Kp w.heap.size w U → Calls Tryz.prog 90 #[.agg #[.int .i64 W, .int .i64 H, t], .int .i64 (u / 256), .int .i64 (v / 256), .int .i64 k] U fun e w' => e = .returned (.tuple #[.agg #[.int .i64 (Tx.smp W H l u v k false 0), .int .i64 (Tx.smp W H l u v k false 1), .int .i64 (Tx.smp W H l u v k false 2), .int .i64 (Tx.smp W H l u v k false 3)], .int .i64 0]) ∧ Kp U.heap.size U w' :=
      fun U hk2 => read_yes W H (u / 256) (v / 256) k l t U (hS.next hk2) hc hk (by omega) (by omega)
    generalize Tx.smp W H l u v k false = F at *
    clear hS hi hc hk hu hv
    go_enter Tryz.func50, Tryz.ntmps50
    go_wp2_with (first | go_big_skip | ((with_reducible show wpList _ _ _ ({ dst := _, op := Op.load 30 _, type := _, pos := _, after := _, guard := _ } :: _) _ _); refine wpList_ldr ty_tex rfl _ rfl _ rfl _ rfl (HO.out.at 1 rfl) ?_) | (go_at_call 85; refine (C1 _ HO.out.k).mono ?_; rintro e wz ⟨rfl, hk1⟩; have l2 := HO.out.call hk1; clear HO hk1; have HO := Lib.hid l2; clear l2) | (go_at_call 86; refine (K1 _).mono ?_; rintro e w' ⟨rfl, rfl⟩) | (go_at_call 87; (first | (with_reducible refine (W1 _).mono ?_) | (with_reducible refine (W2 _).mono ?_)); rintro e w' ⟨rfl, rfl⟩) | (go_at_call 89; (first | (with_reducible refine (D1 _).mono ?_) | (with_reducible refine (D2 _).mono ?_)); rintro e w' ⟨rfl, rfl⟩) | (go_at_call 90; refine (R1 _ HO.out.k).mono ?_; rintro e wz ⟨rfl, hk1⟩; have l2 := HO.out.call hk1; clear HO hk1; have HO := Lib.hid l2; clear l2) | ((with_reducible show wpList _ _ _ ({ dst := _, op := Op.store 51 _ _, type := _, pos := _, after := _, guard := _ } :: _) _ _); refine wpList_sto ty_color HO.out 0 [.int .i64 (F 0), .int .i64 (F 1), .int .i64 (F 2), .int .i64 (F 3)] rfl _ _ rfl _ rfl rfl _ rfl rfl rfl rfl ?_; intro w2 l2; clear HO; have HO := Lib.hid l2; clear l2))
    exact bodyPost_ret (results_c2 ty_color rfl rfl rfl rfl (HO.out.at 0 rfl)) rfl ⟨rfl, HO.out.k⟩
  · have R1 : ∀ U, Kp w.heap.size w U → Calls Tryz.prog 88 #[.agg #[.int .i64 W, .int .i64 H, t], .int .i64 u, .int .i64 v, .int .i64 k] U fun e w' => e = .returned (.tuple #[.agg #[.int .i64 (Tx.smp W H l u v k true 0), .int .i64 (Tx.smp W H l u v k true 1), .int .i64 (Tx.smp W H l u v k true 2), .int .i64 (Tx.smp W H l u v k true 3)], .int .i64 0]) ∧ Kp U.heap.size U w' :=
      fun U hk2 => mixed_yes W H u v k l t U (hS.next hk2) hc hk hu hv
    generalize Tx.smp W H l u v k true = F at *
    clear hS hi hc hk hu hv D1 D2
    go_enter Tryz.func50, Tryz.ntmps50
    go_wp2_with (first | go_big_skip | ((with_reducible show wpList _ _ _ ({ dst := _, op := Op.load 30 _, type := _, pos := _, after := _, guard := _ } :: _) _ _); refine wpList_ldr ty_tex rfl _ rfl _ rfl _ rfl (HO.out.at 1 rfl) ?_) | (go_at_call 85; refine (C1 _ HO.out.k).mono ?_; rintro e wz ⟨rfl, hk1⟩; have l2 := HO.out.call hk1; clear HO hk1; have HO := Lib.hid l2; clear l2) | (go_at_call 86; refine (K1 _).mono ?_; rintro e w' ⟨rfl, rfl⟩) | (go_at_call 87; (first | (with_reducible refine (W1 _).mono ?_) | (with_reducible refine (W2 _).mono ?_)); rintro e w' ⟨rfl, rfl⟩) | (go_at_call 88; refine (R1 _ HO.out.k).mono ?_; rintro e wz ⟨rfl, hk1⟩; have l2 := HO.out.call hk1; clear HO hk1; have HO := Lib.hid l2; clear l2) | ((with_reducible show wpList _ _ _ ({ dst := _, op := Op.store 51 _ _, type := _, pos := _, after := _, guard := _ } :: _) _ _); refine wpList_sto ty_color HO.out 0 [.int .i64 (F 0), .int .i64 (F 1), .int .i64 (F 2), .int .i64 (F 3)] rfl _ _ rfl _ rfl rfl _ rfl rfl rfl rfl ?_; intro w2 l2; clear HO; have HO := Lib.hid l2; clear l2))
    exact bodyPost_ret (results_c2 ty_color rfl rfl rfl rfl (HO.out.at 0 rfl)) rfl ⟨rfl, HO.out.k⟩
end Go.Proofs.YtankjlpanmmogaaGreat

/-
  Contracts of layer 6 (tint): Gray, Unpack, Pack.
-/
namespace Go.Proofs.YtankjlpanmmogaaGreat
set_option maxRecDepth 100000
open Go.RowKit

/-- the channels of a packed colour -/
theorem unpack1_any4 (n k : Int) (i : Nat) (hk : k = i) (hi : i < 4) (bx : Nat) (w : World) (hR : Rc w bx [.int .i64 n]) (hn : 0 ≤ n ∧ n ≤ 4294967295) :
    Calls Tryz.prog 139 #[.int .i64 k, .pointer (some ⟨bx, 0, none⟩)] w fun e w' => e = .returned (.int .i64 (Tn.part n i)) ∧ w = w' := by
  have c0 := hR.cell 0 rfl
  have hb := bits_255
  obtain ⟨h1, h2⟩ := hn
  clear hR
  obtain ⟨rfl, rfl⟩ | ⟨rfl, rfl⟩ | ⟨rfl, rfl⟩ | ⟨rfl, rfl⟩ : i = 0 ∧ k = 0 ∨ i = 1 ∧ k = 1 ∨ i = 2 ∧ k = 2 ∨ i = 3 ∧ k = 3 := by omega
  all_goals
    clear hk hi
    go_enter Tryz.func139, Tryz.ntmps139
    go_wp2
    go_ret
    exact ⟨ret_int (by first | rw [Tn.part0] | rw [Tn.part1] | rw [Tn.part2] | rw [Tn.part3]), rfl⟩
set_option maxHeartbeats 1000000 in
theorem made_unpack4 (n : Int) (bx : Nat) (w : World) (hR : Rc w bx [.int .i64 n]) (hn : 0 ≤ n ∧ n ≤ 4294967295) :
    Calls Tryz.prog 47 #[.func (Fn.func 139) #[] #[.pointer (some ⟨bx, 0, none⟩)]] w fun e w' => e = .returned (.agg #[.int .i64 (Tn.part n 0), .int .i64 (Tn.part n 1), .int .i64 (Tn.part n 2), .int .i64 (Tn.part n 3)]) ∧ Kp w.heap.size w w' := by
  have HR := Lib.hid (hR.kp (Kp.new w #[.int .i64 0, .int .i64 0, .int .i64 0, .int .i64 0] 51) (hR.lt (by simp)))
  clear hR
  go_enter Tryz.func47, Tryz.ntmps47
  go_wp2_with (go_at_call 139; (first | with_reducible refine (unpack1_any4 n 0 0 rfl (by omega) bx _ HR.out hn).mono ?_ | with_reducible refine (unpack1_any4 n 1 1 rfl (by omega) bx _ HR.out hn).mono ?_ | with_reducible refine (unpack1_any4 n 2 2 rfl (by omega) bx _ HR.out hn).mono ?_ | with_reducible refine (unpack1_any4 n 3 3 rfl (by omega) bx _ HR.out hn).mono ?_); rintro e w' ⟨rfl, rfl⟩)
  exact bodyPost_ret (results_c ty_color rfl rfl rfl (Rc.new w [.int .i64 _, .int .i64 _, .int .i64 _, .int .i64 _] _ rfl)) rfl ⟨rfl, Kp.new _ _ _⟩

set_option maxHeartbeats 1000000 in
theorem unpack_no4 (n : Int) (w : World) (h : n < 0 ∨ 4294967295 < n) :
    Calls Tryz.prog 118 #[.int .i64 n] w fun e w' => e = .returned (.tuple #[.agg #[.int .i64 0, .int .i64 0, .int .i64 0, .int .i64 0], .int .i64 3]) ∧ Kp w.heap.size w w' := by
  have HO := Lib.hid (((Ow.refl w).newAt w.heap.size rfl (.int .i64 n) [] 3).newAt (w.heap.size + 1) (by simp) (.int .i64 0) [.int .i64 0, .int .i64 0, .int .i64 0] 51)
  by_cases h1 : n < 0
  · go_enter Tryz.func118, Tryz.ntmps118
    go_wp2_with (first | go_skip | ((with_reducible show wpList _ _ _ ({ dst := _, op := Op.store 51 _ _, type := _, pos := _, after := _, guard := _ } :: _) _ _); refine wpList_sto ty_color HO.out 0 [.int .i64 0, .int .i64 0, .int .i64 0, .int .i64 0] rfl _ _ rfl _ rfl rfl _ rfl rfl rfl rfl ?_; intro w2 l2; clear HO; have HO := Lib.hid l2; clear l2))
    exact bodyPost_ret (results_c2 ty_color rfl rfl rfl rfl (HO.out.at 0 rfl)) rfl ⟨rfl, HO.out.k⟩
  · have hd : decide (n < 0) = false := decide_eq_false h1
    have h2 : 4294967295 < n := by omega
    go_enter Tryz.func118, Tryz.ntmps118
    go_wp2_with (first | go_skip | ((with_reducible show wpList _ _ _ ({ dst := _, op := Op.store 51 _ _, type := _, pos := _, after := _, guard := _ } :: _) _ _); refine wpList_sto ty_color HO.out 0 [.int .i64 0, .int .i64 0, .int .i64 0, .int .i64 0] rfl _ _ rfl _ rfl rfl _ rfl rfl rfl rfl ?_; intro w2 l2; clear HO; have HO := Lib.hid l2; clear l2))
    exact bodyPost_ret (results_c2 ty_color rfl rfl rfl rfl (HO.out.at 0 rfl)) rfl ⟨rfl, HO.out.k⟩
set_option maxHeartbeats 1000000 in
theorem unpack_yes4 (n : Int) (w : World) (h : 0 ≤ n ∧ n ≤ 4294967295) :
    Calls Tryz.prog 118 #[.int .i64 n] w fun e w' => e = .returned (.tuple #[.agg #[.int .i64 (Tn.part n 0), .int .i64 (Tn.part n 1), .int .i64 (Tn.part n 2), .int .i64 (Tn.part n 3)], .int .i64 0]) ∧ Kp w.heap.size w w' := by
  have HO := Lib.hid (((Ow.refl w).newAt w.heap.size rfl (.int .i64 n) [] 3).newAt (w.heap.size + 1) (by simp) (.int .i64 0) [.int .i64 0, .int .i64 0, .int .i64 0] 51)
  obtain ⟨h1, h2⟩ := h
  have hd : decide (n < 0) = false := decide_eq_false (by omega)
  have hd2 : decide (4294967295 < n) = false := decide_eq_false (by omega)
  go_enter Tryz.func118, Tryz.ntmps118
  go_wp2_with (first | go_skip | (go_at_call 47; refine (made_unpack4 n w.heap.size _ (HO.out.at 1 rfl) ⟨h1, h2⟩).mono ?_; rintro e w1 ⟨rfl, hk⟩; have l2 := HO.out.call hk; clear HO hk; have HO := Lib.hid l2; clear l2) | ((with_reducible show wpList _ _ _ ({ dst := _, op := Op.store 51 _ _, type := _, pos := _, after := _, guard := _ } :: _) _ _); refine wpList_sto ty_color HO.out 0 [.int .i64 (Tn.part n 0), .int .i64 (Tn.part n 1), .int .i64 (Tn.part n 2), .int .i64 (Tn.part n 3)] rfl _ _ rfl _ rfl rfl _ rfl rfl rfl rfl ?_; intro w2 l2; clear HO; have HO := Lib.hid l2; clear l2))
  exact bodyPost_ret (results_c2 ty_color rfl rfl rfl rfl (HO.out.at 0 rfl)) rfl ⟨rfl, HO.out.k⟩

set_option maxHeartbeats 1000000 in
theorem channels_any (r g b a : Int) (w : World) :
    Calls Tryz.prog 91 #[.agg #[.int .i64 r, .int .i64 g, .int .i64 b, .int .i64 a]] w fun e w' => e = .returned (.agg #[.int .i64 r, .int .i64 g, .int .i64 b, .int .i64 a]) ∧ Kp w.heap.size w w' := by
  go_enter Tryz.func91, Tryz.ntmps91
  go_wp2
  exact bodyPost_ret (results_c ty_four rfl rfl rfl (Rc.new _ [.int .i64 r, .int .i64 g, .int .i64 b, .int .i64 a] _ (by simp))) rfl ⟨rfl, (Kp.new _ _ _).next (Kp.new _ _ _)⟩

end Go.Proofs.YtankjlpanmmogaaGreat

/-
  Contracts of layer 6 (tint): Times.
-/
namespace Go.Proofs.YtankjlpanmmogaaGreat
set_option maxRecDepth 100000
open Go.RowKit

theorem product_here (x y : Int) (w : World) (hx : 0 ≤ x ∧ x ≤ 255) (hy : 0 ≤ y ∧ y ≤ 255) :
    Calls Tryz.prog 93 #[.int .i64 x, .int .i64 y] w fun e w' => e = .returned (.int .i64 (Tn.tm x y)) ∧ w' = w :=
  (product_any x y w hx hy).mono fun _ _ h => ⟨h.1, h.2.symm⟩

set_option maxHeartbeats 1000000 in
theorem times1_any (r g b a r' g' b' a' k x y : Int) (i : Nat) (hk : k = i) (hi : i < 4) (p q : Nat) (w : World) (hp : Rc w p [.int .i64 r, .int .i64 g, .int .i64 b, .int .i64 a]) (hq : Rc w q [.int .i64 r', .int .i64 g', .int .i64 b', .int .i64 a'])
    (hx : [r, g, b, a][i]? = some x) (hy : [r', g', b', a'][i]? = some y) (h1 : 0 ≤ x ∧ x ≤ 255) (h2 : 0 ≤ y ∧ y ≤ 255) :
    Calls Tryz.prog 92 #[.int .i64 k, .pointer (some ⟨p, 0, none⟩), .pointer (some ⟨q, 0, none⟩)] w fun e w' => e = .returned (.int .i64 (Tn.tm x y)) ∧ Kp w.heap.size w w' := by
  have c0 := hp.cell 0 rfl; have c1 := hp.cell 1 rfl; have c2 := hp.cell 2 rfl; have c3 := hp.cell 3 rfl
  have d0 := hq.cell 0 rfl; have d1 := hq.cell 1 rfl; have d2 := hq.cell 2 rfl; have d3 := hq.cell 3 rfl
  clear hp hq
  obtain ⟨rfl, rfl⟩ | ⟨rfl, rfl⟩ | ⟨rfl, rfl⟩ | ⟨rfl, rfl⟩ : i = 0 ∧ k = 0 ∨ i = 1 ∧ k = 1 ∨ i = 2 ∧ k = 2 ∨ i = 3 ∧ k = 3 := by omega
  all_goals
    clear hk hi
    simp at hx hy
    subst hx hy
    go_enter Tryz.func92, Tryz.ntmps92
    go_upto_region 1 with fail
    go_quiet (first | (go_at_call 93; exact Calls.quiet_of_same (product_here _ _ _ h1 h2)))
    go_wp2_with fail
    go_ret
    exact ⟨rfl, (Kp.refl _ _).drewN _⟩

/-- the channels of one colour times those of another one -/
theorem Tn.chs {r g b a r' g' b' a' : Int} (h : Tn.right r g b a = true) (h' : Tn.right r' g' b' a' = true) :
    ((0 ≤ r ∧ r ≤ 255) ∧ (0 ≤ r' ∧ r' ≤ 255)) ∧ ((0 ≤ g ∧ g ≤ 255) ∧ (0 ≤ g' ∧ g' ≤ 255)) ∧ ((0 ≤ b ∧ b ≤ 255) ∧ (0 ≤ b' ∧ b' ≤ 255)) ∧ ((0 ≤ a ∧ a ≤ 255) ∧ (0 ≤ a' ∧ a' ≤ 255)) := by
  have h1 := Tn.right_iff.1 h; have h2 := Tn.right_iff.1 h'
  exact ⟨⟨h1.1, h2.1⟩, ⟨h1.2.1, h2.2.1⟩, ⟨h1.2.2.1, h2.2.2.1⟩, h1.2.2.2, h2.2.2.2⟩

set_option maxHeartbeats 1000000 in
theorem made_times (r g b a r' g' b' a' : Int) (p q : Nat) (w : World) (hp : Rc w p [.int .i64 r, .int .i64 g, .int .i64 b, .int .i64 a]) (hq : Rc w q [.int .i64 r', .int .i64 g', .int .i64 b', .int .i64 a'])
    (h : Tn.right r g b a = true) (h' : Tn.right r' g' b' a' = true) :
    Calls Tryz.prog 47 #[.func (Fn.func 92) #[] #[.pointer (some ⟨p, 0, none⟩), .pointer (some ⟨q, 0, none⟩)]] w fun e w' => e = .returned (.agg #[.int .i64 (Tn.tm r r'), .int .i64 (Tn.tm g g'), .int .i64 (Tn.tm b b'), .int .i64 (Tn.tm a a')]) ∧ Kp w.heap.size w w' := by
  have HH := Lib.hid (Tn.chs h h')
  have HP := Lib.hid (hp.kp (Kp.new w #[.int .i64 0, .int .i64 0, .int .i64 0, .int .i64 0] 51) (hp.lt (by simp)))
  have HQ := Lib.hid (hq.kp (Kp.new w #[.int .i64 0, .int .i64 0, .int .i64 0, .int .i64 0] 51) (hq.lt (by simp)))
  have HO := Lib.hid ((Ow.refl w).newAt w.heap.size rfl (.int .i64 0) [.int .i64 0, .int .i64 0, .int .i64 0] 51)
  clear hp hq h h'
  go_enter Tryz.func47, Tryz.ntmps47
  go_wp2_with (first
    | (go_at_call 92; (first | with_reducible refine (times1_any r g b a r' g' b' a' 0 r r' 0 rfl (by omega) p q _ HP.out HQ.out rfl rfl HH.out.1.1 HH.out.1.2).mono ?_ | with_reducible refine (times1_any r g b a r' g' b' a' 1 g g' 1 rfl (by omega) p q _ HP.out HQ.out rfl rfl HH.out.2.1.1 HH.out.2.1.2).mono ?_ | with_reducible refine (times1_any r g b a r' g' b' a' 2 b b' 2 rfl (by omega) p q _ HP.out HQ.out rfl rfl HH.out.2.2.1.1 HH.out.2.2.1.2).mono ?_ | with_reducible refine (times1_any r g b a r' g' b' a' 3 a a' 3 rfl (by omega) p q _ HP.out HQ.out rfl rfl HH.out.2.2.2.1 HH.out.2.2.2.2).mono ?_); rintro e w1 ⟨rfl, hk⟩; have l2 := HO.out.call hk; have lp := HP.out.kp hk (HP.out.lt (by simp)); have lq := HQ.out.kp hk (HQ.out.lt (by simp)); clear HO HP HQ hk; have HO := Lib.hid l2; have HP := Lib.hid lp; have HQ := Lib.hid lq; clear l2 lp lq)
    | ((with_reducible show wpList _ _ _ ({ dst := _, op := Op.store 51 _ _, type := _, pos := _, after := _, guard := _ } :: _) _ _); refine wpList_sto ty_color HO.out 0 [.int .i64 (Tn.tm r r'), .int .i64 (Tn.tm g g'), .int .i64 (Tn.tm b b'), .int .i64 (Tn.tm a a')] rfl _ _ rfl _ rfl rfl _ rfl rfl rfl rfl ?_; intro w2 l2; clear HO; have HO := Lib.hid l2; clear l2))
  exact bodyPost_ret (results_c ty_color rfl rfl rfl (HO.out.at 0 rfl)) rfl ⟨rfl, HO.out.k⟩

set_option maxHeartbeats 1000000 in
theorem times_no1 (r g b a r' g' b' a' : Int) (w : World) (h : Tn.right r g b a = false) :
    Calls Tryz.prog 52 #[.agg #[.int .i64 r, .int .i64 g, .int .i64 b, .int .i64 a], .agg #[.int .i64 (r'), .int .i64 (g'), .int .i64 (b'), .int .i64 (a')]] w fun e w' => e = .returned (.tuple #[.agg #[.int .i64 0, .int .i64 0, .int .i64 0, .int .i64 0], .int .i64 3]) ∧ Kp w.heap.size w w' := by
  have HO := Lib.hid ((((Ow.refl w).newAt w.heap.size rfl (.int .i64 r) [.int .i64 g, .int .i64 b, .int .i64 a] 51).newAt (w.heap.size + 1) (by simp) (.int .i64 r') [.int .i64 g', .int .i64 b', .int .i64 a'] 51).newAt (w.heap.size + 2) (by simp) (.int .i64 0) [.int .i64 0, .int .i64 0, .int .i64 0] 51)
  go_enter Tryz.func52, Tryz.ntmps52
  go_wp2_with (first | go_skip | ((with_reducible show wpList _ _ _ ({ dst := _, op := Op.load 51 _, type := _, pos := _, after := _, guard := _ } :: _) _ _); refine wpList_ldr ty_color rfl _ rfl _ rfl _ rfl (HO.out.at 2 rfl) ?_) | (go_at_call 73; refine (right_any r g b a _).mono ?_; rintro e w1 ⟨rfl, hk⟩; have l2 := HO.out.call hk; clear HO hk; have HO := Lib.hid l2; clear l2) | ((with_reducible show wpList _ _ _ ({ dst := _, op := Op.store 51 _ _, type := _, pos := _, after := _, guard := _ } :: _) _ _); refine wpList_sto ty_color HO.out 0 [.int .i64 0, .int .i64 0, .int .i64 0, .int .i64 0] rfl _ _ rfl _ rfl rfl _ rfl rfl rfl rfl ?_; intro w2 l2; clear HO; have HO := Lib.hid l2; clear l2))
  exact bodyPost_ret (results_c2 ty_color rfl rfl rfl rfl (HO.out.at 0 rfl)) rfl ⟨rfl, HO.out.k⟩
set_option maxHeartbeats 1000000 in
theorem times_no2 (r g b a r' g' b' a' : Int) (w : World) (h : Tn.right r g b a = true) (h' : Tn.right r' g' b' a' = false) :
    Calls Tryz.prog 52 #[.agg #[.int .i64 r, .int .i64 g, .int .i64 b, .int .i64 a], .agg #[.int .i64 (r'), .int .i64 (g'), .int .i64 (b'), .int .i64 (a')]] w fun e w' => e = .returned (.tuple #[.agg #[.int .i64 0, .int .i64 0, .int .i64 0, .int .i64 0], .int .i64 3]) ∧ Kp w.heap.size w w' := by
  have HO := Lib.hid ((((Ow.refl w).newAt w.heap.size rfl (.int .i64 r) [.int .i64 g, .int .i64 b, .int .i64 a] 51).newAt (w.heap.size + 1) (by simp) (.int .i64 r') [.int .i64 g', .int .i64 b', .int .i64 a'] 51).newAt (w.heap.size + 2) (by simp) (.int .i64 0) [.int .i64 0, .int .i64 0, .int .i64 0] 51)
  go_enter Tryz.func52, Tryz.ntmps52
  go_wp2_with (first | go_skip | ((with_reducible show wpList _ _ _ ({ dst := _, op := Op.load 51 _, type := _, pos := _, after := _, guard := _ } :: _) _ _); refine wpList_ldr ty_color rfl _ rfl _ rfl _ rfl (HO.out.at 2 rfl) ?_) | ((with_reducible show wpList _ _ _ ({ dst := _, op := Op.load 51 _, type := _, pos := _, after := _, guard := _ } :: _) _ _); refine wpList_ldr ty_color rfl _ rfl _ rfl _ rfl (HO.out.at 1 rfl) ?_) | (go_at_call 73; (first | with_reducible refine (right_any r g b a _).mono ?_ | with_reducible refine (right_any r' g' b' a' _).mono ?_); rintro e w1 ⟨rfl, hk⟩; have l2 := HO.out.call hk; clear HO hk; have HO := Lib.hid l2; clear l2) | ((with_reducible show wpList _ _ _ ({ dst := _, op := Op.store 51 _ _, type := _, pos := _, after := _, guard := _ } :: _) _ _); refine wpList_sto ty_color HO.out 0 [.int .i64 0, .int .i64 0, .int .i64 0, .int .i64 0] rfl _ _ rfl _ rfl rfl _ rfl rfl rfl rfl ?_; intro w2 l2; clear HO; have HO := Lib.hid l2; clear l2))
  exact bodyPost_ret (results_c2 ty_color rfl rfl rfl rfl (HO.out.at 0 rfl)) rfl ⟨rfl, HO.out.k⟩
end Go.Proofs.YtankjlpanmmogaaGreat

/-
  Contracts of layer 6 (tint): Times of right colours; the document's own.
-/
namespace Go.Proofs.YtankjlpanmmogaaGreat
set_option maxRecDepth 100000
open Go.RowKit

/-- the blocks of Times -/
def Tb (w : World) (r g b a r' g' b' a' : Int) : List (Nat × List Value) :=
  [(w.heap.size + 2, [.int .i64 0, .int .i64 0, .int .i64 0, .int .i64 0]), (w.heap.size + 1, [.int .i64 r', .int .i64 g', .int .i64 b', .int .i64 a']), (w.heap.size, [.int .i64 r, .int .i64 g, .int .i64 b, .int .i64 a])]
theorem makes_four {w : World} {ms : List (Nat × List Value)} (a : Act) (o : Oper) (ho : o.op = .alloc 110) (bs : List Nat) (W : World) (hI : Mk w [.int .i64 0, .int .i64 0, .int .i64 0, .int .i64 0] ms bs W) :
    ∃ w1, (execOp a.eval o).run Tryz.prog W = .ok (.value (.pointer (some ⟨W.heap.size, 0, none⟩))) w1 ∧ Mk w [.int .i64 0, .int .i64 0, .int .i64 0, .int .i64 0] ms (W.heap.size :: bs) w1 ∧ W.heap.size ∉ bs := by
  refine ⟨W.alloc (.cells #[.int .i64 0, .int .i64 0, .int .i64 0, .int .i64 0] 110), ?_, (hI.make 110).1, (hI.make 110).2⟩
  simp [execOp, ho, go_sem]
set_option linter.unusedSimpArgs false in
set_option maxHeartbeats 4000000 in
theorem times_yes (r g b a r' g' b' a' : Int) (w : World) (h : Tn.right r g b a = true) (h' : Tn.right r' g' b' a' = true) :
    Calls Tryz.prog 52 #[.agg #[.int .i64 r, .int .i64 g, .int .i64 b, .int .i64 a], .agg #[.int .i64 (r'), .int .i64 (g'), .int .i64 (b'), .int .i64 (a')]] w fun e w' => e = .returned (.tuple #[.agg #[.int .i64 (Tn.tm r r'), .int .i64 (Tn.tm g g'), .int .i64 (Tn.tm b b'), .int .i64 (Tn.tm a a')], .int .i64 0]) ∧ Kp w.heap.size w w' := by
  have HO := Lib.hid ((((Ow.refl w).newAt w.heap.size rfl (.int .i64 r) [.int .i64 g, .int .i64 b, .int .i64 a] 51).newAt (w.heap.size + 1) (by simp) (.int .i64 r') [.int .i64 g', .int .i64 b', .int .i64 a'] 51).newAt (w.heap.size + 2) (by simp) (.int .i64 0) [.int .i64 0, .int .i64 0, .int .i64 0] 51)
  go_enter Tryz.func52, Tryz.ntmps52
  go_upto_region 3 with (first | go_skip | ((with_reducible show wpList _ _ _ ({ dst := _, op := Op.load 51 _, type := _, pos := _, after := _, guard := _ } :: _) _ _); refine wpList_ldr ty_color rfl _ rfl _ rfl _ rfl (HO.out.at 2 rfl) ?_) | ((with_reducible show wpList _ _ _ ({ dst := _, op := Op.load 51 _, type := _, pos := _, after := _, guard := _ } :: _) _ _); refine wpList_ldr ty_color rfl _ rfl _ rfl _ rfl (HO.out.at 1 rfl) ?_) | (go_at_call 73; (first | with_reducible refine (right_any r g b a _).mono ?_ | with_reducible refine (right_any r' g' b' a' _).mono ?_); rintro e w1 ⟨rfl, hk⟩; have l2 := HO.out.call hk; clear HO hk; have HO := Lib.hid l2; clear l2))
  go_cut [6, 7] (fun s6 s7 wx => ∃ p q : Nat, s6 = .pointer (some ⟨p, 0, none⟩) ∧ s7 = .pointer (some ⟨q, 0, none⟩) ∧ Ow w wx ((p, [.int .i64 r, .int .i64 g, .int .i64 b, .int .i64 a]) :: (q, [.int .i64 r', .int .i64 g', .int .i64 b', .int .i64 a']) :: Tb w r g b a r' g' b' a'))
  case first =>
    refine Rg.region (I := Mk w [.int .i64 0, .int .i64 0, .int .i64 0, .int .i64 0] (Tb w r g b a r' g' b' a')) (dem := fun i => decide (4 ≤ i)) (m := 6) (g := 2) (T := fun listed bs st => ∀ W, Mk w [.int .i64 0, .int .i64 0, .int .i64 0, .int .i64 0] (Tb w r g b a r' g' b' a') bs W → wpAny Tryz.prog .any _ _ 2 listed st W) (by kernel_rfl) HO.out.drew rfl (fun _ _ _ _ h hI => h _ hI) ?_
    clear HO
    refine Rg.take 0 (v := .agg #[.int .i64 r, .int .i64 g, .int .i64 b, .int .i64 a]) rfl rfl (by kernel_rfl) (by kernel_rfl) (by kernel_rfl) (by kernel_rfl) (by kernel_rfl) (.inl ⟨rfl, fun bs wq hI => ?_⟩) ?_
    · exact quiet_ldr ty_color (.tmp 2) rfl rfl rfl (Ow.mem hI (List.mem_append_right _ (by simp [Tb])))
    simp only [Act.put, List.getElem_toArray, List.getElem_cons_zero, List.getElem_cons_succ, List.setIfInBounds_toArray, List.set_cons_zero, List.set_cons_succ]
    refine Rg.take 1 (v := .agg #[.int .i64 r, .int .i64 g, .int .i64 b, .int .i64 a]) rfl rfl (by kernel_rfl) (by kernel_rfl) (by kernel_rfl) (by kernel_rfl) (by kernel_rfl) (.inl ⟨rfl, fun bs wq hI => ?_⟩) ?_
    · (go_simp; exact (channels_any r g b a _).mono fun e w2 h => ⟨h.1, hI.call h.2⟩)
    simp only [Act.put, List.getElem_toArray, List.getElem_cons_zero, List.getElem_cons_succ, List.setIfInBounds_toArray, List.set_cons_zero, List.set_cons_succ]
    refine Rg.take 2 (v := .agg #[.int .i64 (r'), .int .i64 (g'), .int .i64 (b'), .int .i64 (a')]) rfl rfl (by kernel_rfl) (by kernel_rfl) (by kernel_rfl) (by kernel_rfl) (by kernel_rfl) (.inl ⟨rfl, fun bs wq hI => ?_⟩) ?_
    · exact quiet_ldr ty_color (.tmp 3) rfl rfl rfl (Ow.mem hI (List.mem_append_right _ (by simp [Tb])))
    simp only [Act.put, List.getElem_toArray, List.getElem_cons_zero, List.getElem_cons_succ, List.setIfInBounds_toArray, List.set_cons_zero, List.set_cons_succ]
    refine Rg.take 3 (v := .agg #[.int .i64 (r'), .int .i64 (g'), .int .i64 (b'), .int .i64 (a')]) rfl rfl (by kernel_rfl) (by kernel_rfl) (by kernel_rfl) (by kernel_rfl) (by kernel_rfl) (.inl ⟨rfl, fun bs wq hI => ?_⟩) ?_
    · (go_simp; exact (channels_any r' g' b' a' _).mono fun e w2 h => ⟨h.1, hI.call h.2⟩)
    simp only [Act.put, List.getElem_toArray, List.getElem_cons_zero, List.getElem_cons_succ, List.setIfInBounds_toArray, List.set_cons_zero, List.set_cons_succ]
    refine Rg.made (rs := [4, 5]) (by kernel_rfl) (by simp) (fun i hi => ?_)
    simp only [List.mem_cons, List.not_mem_nil, or_false] at hi
    rcases hi with rfl | rfl
    · refine Rg.up_made rfl rfl (fun a => ⟨rfl, makes_four a _ rfl⟩) (fun b1 _ => ?_)
      simp only [Act.put, List.getElem_toArray, List.getElem_cons_zero, List.getElem_cons_succ, List.setIfInBounds_toArray, List.set_cons_zero, List.set_cons_succ]
      refine Rg.made (rs := [5]) (by kernel_rfl) (by simp) (fun i hi => ?_)
      simp only [List.mem_cons, List.not_mem_nil, or_false] at hi
      subst hi
      refine Rg.up_made rfl rfl (fun a => ⟨rfl, makes_four a _ rfl⟩) (fun b2 _ => ?_)
      simp only [Act.put, List.getElem_toArray, List.getElem_cons_zero, List.getElem_cons_succ, List.setIfInBounds_toArray, List.set_cons_zero, List.set_cons_succ]
      refine Rg.done (rs := [6]) (by kernel_rfl) (by decide) (fun W hI => ?_)
      refine wpAny_sto ty_four 6 (by kernel_rfl) rfl hI 1 [.int .i64 r, .int .i64 g, .int .i64 b, .int .i64 a] rfl _ _ rfl _ rfl rfl _ rfl rfl rfl rfl ?_
      intro W1 hI1
      simp only [Act.put, List.getElem_toArray, List.getElem_cons_zero, List.getElem_cons_succ, List.setIfInBounds_toArray, List.set_cons_zero, List.set_cons_succ]
      refine wpAny_sto ty_four 7 (by kernel_rfl) rfl hI1 0 [.int .i64 r', .int .i64 g', .int .i64 b', .int .i64 a'] rfl _ _ rfl _ rfl rfl _ rfl rfl rfl rfl ?_
      intro W2 hI2
      simp only [Act.put, List.getElem_toArray, List.getElem_cons_zero, List.getElem_cons_succ, List.setIfInBounds_toArray, List.set_cons_zero, List.set_cons_succ]
      have HI2 := Lib.hid hI2
      clear hI hI1 hI2
      refine wpAny_done (by kernel_rfl) ?_ _
      go_wp2_with fail
      go_meet
      exact ⟨_, _, rfl, rfl, Ow.swap HI2.out⟩
    · refine Rg.up_made rfl rfl (fun a => ⟨rfl, makes_four a _ rfl⟩) (fun b1 _ => ?_)
      simp only [Act.put, List.getElem_toArray, List.getElem_cons_zero, List.getElem_cons_succ, List.setIfInBounds_toArray, List.set_cons_zero, List.set_cons_succ]
      refine Rg.made (rs := [4]) (by kernel_rfl) (by simp) (fun i hi => ?_)
      simp only [List.mem_cons, List.not_mem_nil, or_false] at hi
      subst hi
      refine Rg.up_made rfl rfl (fun a => ⟨rfl, makes_four a _ rfl⟩) (fun b2 _ => ?_)
      simp only [Act.put, List.getElem_toArray, List.getElem_cons_zero, List.getElem_cons_succ, List.setIfInBounds_toArray, List.set_cons_zero, List.set_cons_succ]
      refine Rg.done (rs := [6]) (by kernel_rfl) (by decide) (fun W hI => ?_)
      refine wpAny_sto ty_four 6 (by kernel_rfl) rfl hI 0 [.int .i64 r, .int .i64 g, .int .i64 b, .int .i64 a] rfl _ _ rfl _ rfl rfl _ rfl rfl rfl rfl ?_
      intro W1 hI1
      simp only [Act.put, List.getElem_toArray, List.getElem_cons_zero, List.getElem_cons_succ, List.setIfInBounds_toArray, List.set_cons_zero, List.set_cons_succ]
      refine wpAny_sto ty_four 7 (by kernel_rfl) rfl hI1 1 [.int .i64 r', .int .i64 g', .int .i64 b', .int .i64 a'] rfl _ _ rfl _ rfl rfl _ rfl rfl rfl rfl ?_
      intro W2 hI2
      simp only [Act.put, List.getElem_toArray, List.getElem_cons_zero, List.getElem_cons_succ, List.setIfInBounds_toArray, List.set_cons_zero, List.set_cons_succ]
      have HI2 := Lib.hid hI2
      clear hI hI1 hI2
      refine wpAny_done (by kernel_rfl) ?_ _
      go_wp2_with fail
      go_meet
      exact ⟨_, _, rfl, rfl, HI2.out⟩
  case rest =>
    obtain ⟨p, q, rfl, rfl, ho⟩ := hcut
    clear HO
    have HO := Lib.hid ho
    clear ho
    go_wp2_with (first | go_skip | (go_at_call 47; refine (made_times r g b a r' g' b' a' p q _ (HO.out.at 0 rfl) (HO.out.at 1 rfl) h h').mono ?_; rintro e w1 ⟨rfl, hk⟩; have l2 := HO.out.call hk; clear HO hk; have HO := Lib.hid l2; clear l2) | ((with_reducible show wpList _ _ _ ({ dst := _, op := Op.store 51 _ _, type := _, pos := _, after := _, guard := _ } :: _) _ _); refine wpList_sto ty_color HO.out 2 [.int .i64 (Tn.tm r r'), .int .i64 (Tn.tm g g'), .int .i64 (Tn.tm b b'), .int .i64 (Tn.tm a a')] rfl _ _ rfl _ rfl rfl _ rfl rfl rfl rfl ?_; intro w2 l2; clear HO; have HO := Lib.hid l2; clear l2))
    exact bodyPost_ret (results_c2 ty_color rfl rfl rfl rfl (HO.out.at 2 rfl)) rfl ⟨rfl, HO.out.k⟩
end Go.Proofs.YtankjlpanmmogaaGreat
