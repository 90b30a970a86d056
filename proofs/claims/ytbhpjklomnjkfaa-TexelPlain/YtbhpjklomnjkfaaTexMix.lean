/-
  Contracts of layer 14 (texel): the functions that add four texels and cut the sums.
-/
import Derived.Test.YtbhpjklomnjkfaaTexRead
import Derived.Test.YtbhpjklomnjkfaaMem2
import Derived.Test.YtbhpjklomnjkfaaMem3
import Derived.BigGuard
namespace Go.Proofs.Ytbhpjklomnjkfaa
open Go.RowKit

theorem ty_corner : Ty 59 3 := ⟨by kernel_rfl, _, Try.underlying59, rfl⟩
/-- where the sums lie -/
theorem summed_any (w : World) :
    Calls Try.prog 31 #[] w fun e w' => ∃ b, e = .returned (.tuple #[.func (Fn.func 35) #[] #[.pointer (some ⟨b, 0, none⟩)], .func (Fn.func 36) #[] #[.pointer (some ⟨b, 0, none⟩)]]) ∧ Ow w w' [(b, [.int .i64 0, .int .i64 0, .int .i64 0, .int .i64 0])] := by
  have HO := Lib.hid ((Ow.refl w).newAt w.heap.size rfl (.int .i64 0) [.int .i64 0, .int .i64 0, .int .i64 0] 29)
  go_enter Try.func31, Try.ntmps31
  go_wp2
  go_ret2
  exact ⟨_, rfl, HO.out⟩
set_option linter.unusedSimpArgs false in
set_option maxRecDepth 100000 in
set_option maxHeartbeats 8000000 in
theorem add_any (bs : Nat) (r g b a p s0 s1 s2 s3 : Int) (w0 w : World) (ms : List (Nat × List Value)) (ho : Ow w0 w ((bs, [.int .i64 s0, .int .i64 s1, .int .i64 s2, .int .i64 s3]) :: ms)) (hr : 0 ≤ r ∧ r ≤ 255) (hg : 0 ≤ g ∧ g ≤ 255) (hb : 0 ≤ b ∧ b ≤ 255) (ha : 0 ≤ a ∧ a ≤ 255)
    (hp : 0 ≤ p ∧ p ≤ 65536) (h0 : 0 ≤ s0 ∧ s0 ≤ 67108864) (h1 : 0 ≤ s1 ∧ s1 ≤ 67108864) (h2 : 0 ≤ s2 ∧ s2 ≤ 67108864) (h3 : 0 ≤ s3 ∧ s3 ≤ 67108864) :
    Calls Try.prog 35 #[.agg #[.int .i64 r, .int .i64 g, .int .i64 b, .int .i64 a], .int .i64 p, .pointer (some ⟨bs, 0, none⟩)] w fun e w' => e = .returned (.tuple #[]) ∧ Ow w0 w' ((bs, [.int .i64 (s0 + r * p), .int .i64 (s1 + g * p), .int .i64 (s2 + b * p), .int .i64 (s3 + a * p)]) :: ms) := by
  obtain ⟨r1, -, r2⟩ := Tx.part_mul hr hp
  obtain ⟨g1, -, g2⟩ := Tx.part_mul hg hp
  obtain ⟨b1, -, b2⟩ := Tx.part_mul hb hp
  obtain ⟨a1, -, a2⟩ := Tx.part_mul ha hp
  obtain ⟨h01, h02⟩ := h0
  obtain ⟨h11, h12⟩ := h1
  obtain ⟨h21, h22⟩ := h2
  obtain ⟨h31, h32⟩ := h3
  have HO := Lib.hid (ho.newAt w.heap.size rfl (.int .i64 r) [.int .i64 g, .int .i64 b, .int .i64 a] 29)
  clear ho hr hg hb ha hp
  go_enter Try.func35, Try.ntmps35
  go_upto_region 1 with fail
  have c0 := (HO.out.at 0 rfl).cell 0 rfl
  have d0 := (HO.out.at 1 rfl).cell 0 rfl
  have f0 := (HO.out.at 1 rfl).froz 0 (by simp)
  go_upto_region 2 with fail
  have l2 := HO.out.put1 1 rfl 0 (by simp) (.int .i64 (s0 + r * p))
  clear HO c0 d0 f0
  have HO := Lib.hid l2
  clear l2
  generalize hW : World.setCell _ _ _ = V0 at *
  clear hW
  have c1 := (HO.out.at 0 rfl).cell 1 rfl
  have d1 := (HO.out.at 1 rfl).cell 1 rfl
  have f1 := (HO.out.at 1 rfl).froz 1 (by simp)
  go_upto_region 3 with fail
  have l2 := HO.out.put1 1 rfl 1 (by simp) (.int .i64 (s1 + g * p))
  clear HO c1 d1 f1
  have HO := Lib.hid l2
  clear l2
  generalize hW : World.setCell _ _ _ = V1 at *
  clear hW
  have c2 := (HO.out.at 0 rfl).cell 2 rfl
  have d2 := (HO.out.at 1 rfl).cell 2 rfl
  have f2 := (HO.out.at 1 rfl).froz 2 (by simp)
  go_upto_region 4 with fail
  have l2 := HO.out.put1 1 rfl 2 (by simp) (.int .i64 (s2 + b * p))
  clear HO c2 d2 f2
  have HO := Lib.hid l2
  clear l2
  generalize hW : World.setCell _ _ _ = V2 at *
  clear hW
  have c3 := (HO.out.at 0 rfl).cell 3 rfl
  have d3 := (HO.out.at 1 rfl).cell 3 rfl
  have f3 := (HO.out.at 1 rfl).froz 3 (by simp)
  go_wp2_with fail
  have l2 := HO.out.put1 1 rfl 3 (by simp) (.int .i64 (s3 + a * p))
  clear HO c3 d3 f3
  have HO := Lib.hid l2
  clear l2
  first | refine bodyPost_ret (results_none rfl _ _ _) rfl ?_ | refine bodyPost_end (results_none rfl _ _ _) rfl ?_
  exact ⟨rfl, HO.out.drop1⟩
set_option linter.unusedSimpArgs false in
set_option maxRecDepth 100000 in
set_option maxHeartbeats 8000000 in
theorem cut_any (bs : Nat) (s0 s1 s2 s3 : Int) (w : World) (hR : Rc w bs [.int .i64 s0, .int .i64 s1, .int .i64 s2, .int .i64 s3]) (h0 : 0 ≤ s0 ∧ s0 ≤ 67108864) (h1 : 0 ≤ s1 ∧ s1 ≤ 67108864) (h2 : 0 ≤ s2 ∧ s2 ≤ 67108864) (h3 : 0 ≤ s3 ∧ s3 ≤ 67108864) :
    Calls Try.prog 36 #[.pointer (some ⟨bs, 0, none⟩)] w fun e w' => e = .returned (.agg #[.int .i64 ((s0 + 32768) / 65536), .int .i64 ((s1 + 32768) / 65536), .int .i64 ((s2 + 32768) / 65536), .int .i64 ((s3 + 32768) / 65536)]) ∧ Kp w.heap.size w w' := by
  have N0 := fun W => nearest_any s0 W h0.1 h0.2
  have N1 := fun W => nearest_any s1 W h1.1 h1.2
  have N2 := fun W => nearest_any s2 W h2.1 h2.2
  have N3 := fun W => nearest_any s3 W h3.1 h3.2
  have HL := Lib.hid (hR.lt (by simp))
  have HR := Lib.hid hR
  have HO := Lib.hid ((Ow.refl w).newAt w.heap.size rfl (.int .i64 0) [.int .i64 0, .int .i64 0, .int .i64 0] 29)
  clear hR h0 h1 h2 h3
  go_enter Try.func36, Try.ntmps36
  go_upto_region 1 with fail
  refine Rg.region (I := fun _ W => Ow w W [(w.heap.size, [.int .i64 0, .int .i64 0, .int .i64 0, .int .i64 0])]) (dem := fun _ => false) (m := 13) (g := 1) (T := fun listed bs st => ∀ W, Ow w W [(w.heap.size, [.int .i64 0, .int .i64 0, .int .i64 0, .int .i64 0])] → wpAny Try.prog .any _ _ 1 listed st W) (by kernel_rfl) HO.out.drew rfl (fun _ _ _ _ h hI => h _ hI) ?_
  clear HO
  refine Rg.take 0 (v := .pointer (some ⟨bs, 0, none⟩)) rfl rfl (by kernel_rfl) (by kernel_rfl) (by kernel_rfl) (by kernel_rfl) (by kernel_rfl) (.inl ⟨rfl, fun bs wq hI => ?_⟩) ?_
  · go_simp
  simp only [Act.put, List.getElem_toArray, List.getElem_cons_zero, List.getElem_cons_succ, List.setIfInBounds_toArray, List.set_cons_zero, List.set_cons_succ]
  refine Rg.take 1 (v := .int .i64 s0) rfl rfl (by kernel_rfl) (by kernel_rfl) (by kernel_rfl) (by kernel_rfl) (by kernel_rfl) (.inl ⟨rfl, fun bs wq hI => ?_⟩) ?_
  · (have hc := (HR.out.kp hI.k HL.out).cell 0 rfl; go_simp)
  simp only [Act.put, List.getElem_toArray, List.getElem_cons_zero, List.getElem_cons_succ, List.setIfInBounds_toArray, List.set_cons_zero, List.set_cons_succ]
  refine Rg.take 2 (v := .int .i64 ((s0 + 32768) / 65536)) rfl rfl (by kernel_rfl) (by kernel_rfl) (by kernel_rfl) (by kernel_rfl) (by kernel_rfl) (.inl ⟨rfl, fun bs wq hI => ?_⟩) ?_
  · (go_simp; exact (N0 _).mono fun e w2 h => ⟨h.1, h.2 ▸ hI⟩)
  simp only [Act.put, List.getElem_toArray, List.getElem_cons_zero, List.getElem_cons_succ, List.setIfInBounds_toArray, List.set_cons_zero, List.set_cons_succ]
  refine Rg.take 3 (v := .pointer (some ⟨bs, 1, none⟩)) rfl rfl (by kernel_rfl) (by kernel_rfl) (by kernel_rfl) (by kernel_rfl) (by kernel_rfl) (.inl ⟨rfl, fun bs wq hI => ?_⟩) ?_
  · go_simp
  simp only [Act.put, List.getElem_toArray, List.getElem_cons_zero, List.getElem_cons_succ, List.setIfInBounds_toArray, List.set_cons_zero, List.set_cons_succ]
  refine Rg.take 4 (v := .int .i64 s1) rfl rfl (by kernel_rfl) (by kernel_rfl) (by kernel_rfl) (by kernel_rfl) (by kernel_rfl) (.inl ⟨rfl, fun bs wq hI => ?_⟩) ?_
  · (have hc := (HR.out.kp hI.k HL.out).cell 1 rfl; go_simp)
  simp only [Act.put, List.getElem_toArray, List.getElem_cons_zero, List.getElem_cons_succ, List.setIfInBounds_toArray, List.set_cons_zero, List.set_cons_succ]
  refine Rg.take 5 (v := .int .i64 ((s1 + 32768) / 65536)) rfl rfl (by kernel_rfl) (by kernel_rfl) (by kernel_rfl) (by kernel_rfl) (by kernel_rfl) (.inl ⟨rfl, fun bs wq hI => ?_⟩) ?_
  · (go_simp; exact (N1 _).mono fun e w2 h => ⟨h.1, h.2 ▸ hI⟩)
  simp only [Act.put, List.getElem_toArray, List.getElem_cons_zero, List.getElem_cons_succ, List.setIfInBounds_toArray, List.set_cons_zero, List.set_cons_succ]
  refine Rg.take 6 (v := .pointer (some ⟨bs, 2, none⟩)) rfl rfl (by kernel_rfl) (by kernel_rfl) (by kernel_rfl) (by kernel_rfl) (by kernel_rfl) (.inl ⟨rfl, fun bs wq hI => ?_⟩) ?_
  · go_simp
  simp only [Act.put, List.getElem_toArray, List.getElem_cons_zero, List.getElem_cons_succ, List.setIfInBounds_toArray, List.set_cons_zero, List.set_cons_succ]
  refine Rg.take 7 (v := .int .i64 s2) rfl rfl (by kernel_rfl) (by kernel_rfl) (by kernel_rfl) (by kernel_rfl) (by kernel_rfl) (.inl ⟨rfl, fun bs wq hI => ?_⟩) ?_
  · (have hc := (HR.out.kp hI.k HL.out).cell 2 rfl; go_simp)
  simp only [Act.put, List.getElem_toArray, List.getElem_cons_zero, List.getElem_cons_succ, List.setIfInBounds_toArray, List.set_cons_zero, List.set_cons_succ]
  refine Rg.take 8 (v := .int .i64 ((s2 + 32768) / 65536)) rfl rfl (by kernel_rfl) (by kernel_rfl) (by kernel_rfl) (by kernel_rfl) (by kernel_rfl) (.inl ⟨rfl, fun bs wq hI => ?_⟩) ?_
  · (go_simp; exact (N2 _).mono fun e w2 h => ⟨h.1, h.2 ▸ hI⟩)
  simp only [Act.put, List.getElem_toArray, List.getElem_cons_zero, List.getElem_cons_succ, List.setIfInBounds_toArray, List.set_cons_zero, List.set_cons_succ]
  refine Rg.take 9 (v := .pointer (some ⟨bs, 3, none⟩)) rfl rfl (by kernel_rfl) (by kernel_rfl) (by kernel_rfl) (by kernel_rfl) (by kernel_rfl) (.inl ⟨rfl, fun bs wq hI => ?_⟩) ?_
  · go_simp
  simp only [Act.put, List.getElem_toArray, List.getElem_cons_zero, List.getElem_cons_succ, List.setIfInBounds_toArray, List.set_cons_zero, List.set_cons_succ]
  refine Rg.take 10 (v := .int .i64 s3) rfl rfl (by kernel_rfl) (by kernel_rfl) (by kernel_rfl) (by kernel_rfl) (by kernel_rfl) (.inl ⟨rfl, fun bs wq hI => ?_⟩) ?_
  · (have hc := (HR.out.kp hI.k HL.out).cell 3 rfl; go_simp)
  simp only [Act.put, List.getElem_toArray, List.getElem_cons_zero, List.getElem_cons_succ, List.setIfInBounds_toArray, List.set_cons_zero, List.set_cons_succ]
  refine Rg.take 11 (v := .int .i64 ((s3 + 32768) / 65536)) rfl rfl (by kernel_rfl) (by kernel_rfl) (by kernel_rfl) (by kernel_rfl) (by kernel_rfl) (.inl ⟨rfl, fun bs wq hI => ?_⟩) ?_
  · (go_simp; exact (N3 _).mono fun e w2 h => ⟨h.1, h.2 ▸ hI⟩)
  simp only [Act.put, List.getElem_toArray, List.getElem_cons_zero, List.getElem_cons_succ, List.setIfInBounds_toArray, List.set_cons_zero, List.set_cons_succ]
  refine Rg.take 12 (v := .agg #[.int .i64 ((s0 + 32768) / 65536), .int .i64 ((s1 + 32768) / 65536), .int .i64 ((s2 + 32768) / 65536), .int .i64 ((s3 + 32768) / 65536)]) rfl rfl (by kernel_rfl) (by kernel_rfl) (by kernel_rfl) (by kernel_rfl) (by kernel_rfl) (.inl ⟨rfl, fun bs wq hI => ?_⟩) ?_
  · go_simp
  simp only [Act.put, List.getElem_toArray, List.getElem_cons_zero, List.getElem_cons_succ, List.setIfInBounds_toArray, List.set_cons_zero, List.set_cons_succ]
  refine Rg.done (rs := [13]) (by kernel_rfl) (by decide) (fun W hI => ?_)
  refine wpAny_sto ty_color 13 (by kernel_rfl) rfl hI 0 [.int .i64 ((s0 + 32768) / 65536), .int .i64 ((s1 + 32768) / 65536), .int .i64 ((s2 + 32768) / 65536), .int .i64 ((s3 + 32768) / 65536)] rfl _ _ rfl _ rfl rfl _ rfl rfl rfl rfl ?_
  intro W1 hI1
  simp only [Act.put, List.getElem_toArray, List.getElem_cons_zero, List.getElem_cons_succ, List.setIfInBounds_toArray, List.set_cons_zero, List.set_cons_succ]
  have HO := Lib.hid hI1
  clear hI hI1
  refine wpAny_done (by kernel_rfl) ?_ _
  go_wp2_with fail
  exact bodyPost_ret (results_c ty_color rfl rfl rfl (HO.out.at 0 rfl)) rfl ⟨rfl, HO.out.k⟩
/-- sums, round by round -/
def Tx.acc (f p : Nat → Int) : Nat → Int
  | 0 => 0
  | k + 1 => Tx.acc f p k + f k * p k
theorem Tx.acc_bd {f p : Nat → Int} (hf : ∀ k, 0 ≤ f k ∧ f k ≤ 255) (hp : ∀ k, 0 ≤ p k ∧ p k ≤ 65536) (k : Nat) (hk : k ≤ 4) : 0 ≤ Tx.acc f p k ∧ Tx.acc f p k ≤ 67108864 := by
  suffices h : ∀ k : Nat, 0 ≤ Tx.acc f p k ∧ Tx.acc f p k ≤ 16711680 * (k : Int) by have := h k; omega
  intro k
  induction k with
  | zero => simp [Tx.acc]
  | succ k ih =>
    have := Tx.part_mul (hf k) (hp k)
    show 0 ≤ Tx.acc f p k + f k * p k ∧ Tx.acc f p k + f k * p k ≤ _
    omega
/-- the four corners: places, weights -/
def Tx.cx (x : Int) : Nat → Int | 0 => x | 1 => x + 1 | 2 => x | _ => x + 1
def Tx.cy (y : Int) : Nat → Int | 0 => y | 1 => y | 2 => y + 1 | _ => y + 1
def Tx.cw (p0 p1 p2 p3 : Int) : Nat → Int | 0 => p0 | 1 => p1 | 2 => p2 | _ => p3
theorem Tx.cw_bd {p0 p1 p2 p3 : Int} (h0 : 0 ≤ p0 ∧ p0 ≤ 65536) (h1 : 0 ≤ p1 ∧ p1 ≤ 65536) (h2 : 0 ≤ p2 ∧ p2 ≤ 65536) (h3 : 0 ≤ p3 ∧ p3 ≤ 65536) (k : Nat) : 0 ≤ Tx.cw p0 p1 p2 p3 k ∧ Tx.cw p0 p1 p2 p3 k ≤ 65536 := by
  rcases k with _ | _ | _ | k
  · exact h0
  · exact h1
  · exact h2
  · exact h3
theorem Tx.cx_bd (x : Int) (k : Nat) : x ≤ Tx.cx x k ∧ Tx.cx x k ≤ x + 1 := by
  rcases k with _ | _ | _ | k <;> simp only [Tx.cx] <;> omega
theorem Tx.cy_bd (x : Int) (k : Nat) : x ≤ Tx.cy x k ∧ Tx.cy x k ≤ x + 1 := by
  rcases k with _ | _ | _ | k <;> simp only [Tx.cy] <;> omega
theorem ix4 (x y p0 p1 p2 p3 : Int) (k : Nat) (hk : k < 4) (w : World) :
    (Instr.index 60 (.agg #[.int .i64 x, .int .i64 y, .int .i64 p0, .int .i64 (x + 1), .int .i64 y, .int .i64 p1, .int .i64 x, .int .i64 (y + 1), .int .i64 p2, .int .i64 (x + 1), .int .i64 (y + 1), .int .i64 p3]) (.int .i64 k)).run Try.prog w = .ok (.agg #[.int .i64 (Tx.cx x k), .int .i64 (Tx.cy y k), .int .i64 (Tx.cw p0 p1 p2 p3 k)]) w := by
  rcases k with _ | _ | _ | _ | k
  · kernel_rfl
  · kernel_rfl
  · kernel_rfl
  · kernel_rfl
  · omega
/-- the texels' channels -/
def Tx.ch (W H : Int) (l : List Int) (x y kd : Int) (i k : Nat) : Int := Tn.part (Tx.px W H l (Tx.cx x k) (Tx.cy y k) kd) i
theorem Tx.acc_lin (W H : Int) (l : List Int) (x y kd fx fy : Int) (i : Nat) :
    (Tx.acc (Tx.ch W H l x y kd i) (Tx.cw ((256 - fx) * (256 - fy)) (fx * (256 - fy)) ((256 - fx) * fy) (fx * fy)) 4 + 32768) / 65536 =
    Tx.lin (Tn.part (Tx.px W H l x y kd) i) (Tn.part (Tx.px W H l (x + 1) y kd) i) (Tn.part (Tx.px W H l x (y + 1) kd) i) (Tn.part (Tx.px W H l (x + 1) (y + 1) kd) i) fx fy := by
  simp only [Tx.acc, Tx.ch, Tx.cx, Tx.cy, Tx.cw, Tx.lin, Int.zero_add]
def msr4 (i : Value) : Nat := 4 - (intOf i).toNat
end Go.Proofs.Ytbhpjklomnjkfaa
