/-
  Contracts of the document's own answers for layer 5: the matrix that moves nothing, products.
-/
import Derived.Test.YtbhdmfoigilibaaVecRefApp
import Derived.Test.YtbhdmfoigilibaaVecMul
namespace Go.Proofs.Ytbhdmfoigilibaa
open Go.RowKit

theorem ar_one : (#[.int .i64 65536, .int .i64 0, .int .i64 0, .int .i64 0, .int .i64 0, .int .i64 65536, .int .i64 0, .int .i64 0, .int .i64 0, .int .i64 0, .int .i64 65536, .int .i64 0, .int .i64 0, .int .i64 0, .int .i64 0, .int .i64 65536] : Array Value) = Vc.ar Vc.one := rfl
set_option maxHeartbeats 1000000 in
theorem ridentity_any (w : World) :
    Calls Try.prog 13 #[] w fun e w' => e = .returned (.agg (Vc.ar (Vc.one))) ∧ Kp w.heap.size w w' := by
  have HZ := Lib.hid (Rw.zero16 w 23 rfl)
  have HK := Lib.hid ((Kp.refl w.heap.size w).alloc (Nat.le_refl _) #[.int .i64 0, .int .i64 0, .int .i64 0, .int .i64 0, .int .i64 0, .int .i64 0, .int .i64 0, .int .i64 0, .int .i64 0, .int .i64 0, .int .i64 0, .int .i64 0, .int .i64 0, .int .i64 0, .int .i64 0, .int .i64 0] 23)
  go_enter Try.func13, Try.ntmps13
  go_wp2_with (first | ((with_reducible show wpList _ _ _ ({ dst := _, op := Op.store 23 _ _, type := _, pos := _, after := _, guard := _ } :: _) _ _); refine wpList_st rfl _ _ rfl _ rfl Vc.one (congrArg Value.agg ar_one) (f := fun _ => 0) ?_ ?_; (exact HZ.out); intro w2 hr2 hs2; have HR := Lib.hid hr2; have KK := Lib.hid (hs2.kp HK.out (by omega)); clear hr2 hs2))
  exact bodyPost_ret (results_m rfl rfl HR.out) rfl ⟨rfl, KK.out⟩

theorem ite_of {c : Bool} {A B : Prop} (h : c = true) (k : A) : if c = true then A else B := by rw [if_pos h]; exact k
theorem wp_stM {op : Oper} {a : Act} {w : World} {K : Act → World → Prop} {Q : Exit → Act → World → Prop} (x y : Operand) (ho : op.op = .store 23 x y)
    (b : Nat) (hx : a.eval x = .pointer (some ⟨b, 0, none⟩)) (m : Nat → Int) (hy : a.eval y = .agg (Vc.ar m)) {f : Nat → Int} (hR : Rw 16 w b f)
    (h : ∀ w', Rw 16 w' b m → St b w w' → K (a.put op.dst undef) w') : op.wp Try.prog a w K Q :=
  wp_store_mid 23 x y ho b 0 (Vc.ar m) hx hy (hR.there m) (by rw [Vc.ar_size]; exact sz16) (by simp [Vc.ar, Vc.ls, Value.oneCell']) (h _ (hR.store m) (St.setCells _))

/-- both matrices, the result, the product as far as it is laid: columns -/
structure Mc (w W : World) (a b : Nat → Int) (B : Nat) (f : Nat → Int) : Prop where
  u : Mu w W a b
  p : Rw 16 W B f
theorem Mc.call {w W W' : World} {a b f : Nat → Int} {B : Nat} (h : Mc w W a b B f) (k : Kp W.heap.size W W') : Mc w W' a b B f := ⟨h.u.call k, h.p.call (by omega) k⟩
theorem Mc.put {w W : World} {a b f : Nat → Int} {B : Nat} (h : Mc w W a b B f) {q : Nat} (hq : q < 16) (hB : w.heap.size + 2 < B) (v : Int) : Mc w (W.setCell ⟨B, q, none⟩ (.int .i64 v)) a b B (fun j => if j = q then v else f j) :=
  ⟨h.u.set hB _, h.p.set hq v⟩
/-- .. and new vectors of zeros -/
structure Iw (w W : World) (a b : Nat → Int) (B : Nat) (f : Nat → Int) (bs : List Nat) : Prop where
  u : Mc w W a b B f
  z : ∀ c, c ∈ bs → Rw 4 W c (fun _ => 0)
  n : ∀ c, c ∈ bs → c ≠ B ∧ w.heap.size + 2 < c
theorem Iw.call {w W W' : World} {a b f : Nat → Int} {B : Nat} {bs : List Nat} (h : Iw w W a b B f bs) (k : Kp W.heap.size W W') : Iw w W' a b B f bs := ⟨h.u.call k, fun c hc => (h.z c hc).call (by omega) k, h.n⟩
theorem Iw.make {w W : World} {a b f : Nat → Int} {B : Nat} {bs : List Nat} (h : Iw w W a b B f bs) (a' : Act) (o : Oper) (ho : o.op = .alloc 25) :
    ∃ w1, (execOp a'.eval o).run Try.prog W = .ok (.value (.pointer (some ⟨W.heap.size, 0, none⟩))) w1 ∧ Iw w w1 a b B f (W.heap.size :: bs) ∧ W.heap.size ∉ bs := by
  have h2 := h.call ((Kp.refl _ _).alloc (Nat.le_refl _) #[.int .i64 0, .int .i64 0, .int .i64 0, .int .i64 0] 25)
  refine ⟨W.alloc (.cells #[.int .i64 0, .int .i64 0, .int .i64 0, .int .i64 0] 25), by simp [execOp, ho, go_sem], ⟨h2.u, fun c hc => ?_, fun c hc => ?_⟩, fun hm => Nat.lt_irrefl _ ((h.z _ hm).lt (by omega))⟩
  · rcases List.mem_cons.1 hc with rfl | hc
    · exact Rw.zero4 _ _ rfl
    · exact h2.z c hc
  · rcases List.mem_cons.1 hc with rfl | hc
    · exact ⟨Nat.ne_of_gt (h.u.p.lt (by omega)), h.u.u.size⟩
    · exact h.n c hc
/-- .. one of them written -/
structure Iv (w W : World) (a b : Nat → Int) (B : Nat) (f : Nat → Int) (c : Nat) (g : Nat → Int) : Prop where
  u : Mc w W a b B f
  z : Rw 4 W c g
  n : c ≠ B ∧ w.heap.size + 2 < c
theorem Iw.store {w W : World} {a b f : Nat → Int} {B : Nat} {bs : List Nat} (h : Iw w W a b B f bs) (c : Nat) (hc : c ∈ bs) (g : Nat → Int) :
    Iv w ((((W.setCell ⟨c, 0, none⟩ (.int .i64 (g 0))).setCell ⟨c, 1, none⟩ (.int .i64 (g 1))).setCell ⟨c, 2, none⟩ (.int .i64 (g 2))).setCell ⟨c, 3, none⟩ (.int .i64 (g 3))) a b B f c g := by
  obtain ⟨h1, h2⟩ := h.n c hc
  refine ⟨⟨(((h.u.u.set h2 _).set h2 _).set h2 _).set h2 _, (((h.u.p.other h1 _).other h1 _).other h1 _).other h1 _⟩, ?_, h1, h2⟩
  refine (((((h.z c hc).set (k := 0) (by omega) _).set (k := 1) (by omega) _).set (k := 2) (by omega) _).set (k := 3) (by omega) _).congr fun j hj => ?_
  rcases j with _ | _ | _ | _ | j
  all_goals first | omega | rfl | simp
theorem Iv.put {w W : World} {a b f g : Nat → Int} {B c : Nat} (h : Iv w W a b B f c g) {q : Nat} (hq : q < 16) (hB : w.heap.size + 2 < B) (v : Int) : Iv w (W.setCell ⟨B, q, none⟩ (.int .i64 v)) a b B (fun j => if j = q then v else f j) c g :=
  ⟨h.u.put hq hB v, h.z.other (Ne.symm h.n.1) _, h.n⟩
/-- the product, laid up to column k -/
def Vc.mc (a b : Nat → Int) (k j : Nat) : Int := if j % 4 < k then Vc.mul a b j else 0
theorem Vc.mc_succ (a b : Nat → Int) {k : Nat} (hk : k < 4) {j : Nat} (hj : j < 16) :
    (if j = 12 + k then Vc.app a (Vc.col b k) 3 else if j = 8 + k then Vc.app a (Vc.col b k) 2 else if j = 4 + k then Vc.app a (Vc.col b k) 1 else if j = k then Vc.app a (Vc.col b k) 0 else Vc.mc a b k j) = Vc.mc a b (k + 1) j := by
  have key : ∀ i, j = 4 * i + k → Vc.app a (Vc.col b k) i = Vc.mul a b j := by
    intro i hi
    unfold Vc.mul Vc.app
    rw [show j / 4 = i by omega, show j % 4 = k by omega]
  unfold Vc.mc
  split
  · rw [if_pos (by omega)]; exact key 3 (by omega)
  · split
    · rw [if_pos (by omega)]; exact key 2 (by omega)
    · split
      · rw [if_pos (by omega)]; exact key 1 (by omega)
      · split
        · rw [if_pos (by omega)]; exact key 0 (by omega)
        · by_cases c : j % 4 < k
          · rw [if_pos c, if_pos (by omega)]
          · rw [if_neg c, if_neg (by omega)]

set_option linter.unusedSimpArgs false in
set_option maxRecDepth 100000 in
set_option maxHeartbeats 8000000 in
theorem rmul_any (a b : Nat → Int) (w : World) (ha : ∀ j, j < 16 → -16777216 ≤ a j ∧ a j ≤ 16777216) (hb : ∀ j, j < 16 → -16777216 ≤ b j ∧ b j ≤ 16777216) :
    Calls Try.prog 14 #[.agg (Vc.ar (a)), .agg (Vc.ar (b))] w fun e w' => e = .returned (.tuple #[.agg (Vc.ar (Vc.mul a b)), .bool (Vc.wi 16777216 (Vc.mul a b) 16)]) ∧ Kp w.heap.size w w' := by
  have HL := Lib.hid (Mu.new w a b 23)
  have HA := Lib.hid ha
  have HC : Hid (∀ k, k < 4 → ∀ j, j < 4 → -1073741824 ≤ Vc.col b k j ∧ Vc.col b k j ≤ 1073741824) := Lib.hid fun k hk j hj => by have := hb (4 * j + k) (by omega); unfold Vc.col; omega
  clear ha hb
  go_enter Try.func14, Try.ntmps14
  go_wp2
  go_loopw [7] (fun i wr => ∃ k : Nat, k ≤ 4 ∧ i = .int .i64 k ∧ Mc w wr a b (w.heap.size + 3) (Vc.mc a b k)) (fun i _ => 4 - (intOf i).toNat)
  case atStart => exact ⟨0, by omega, rfl, HL.out.call ((Kp.refl _ _).alloc (Nat.le_refl _) _ _), (Rw.zero16 _ _ (by simp)).congr fun j _ => by unfold Vc.mc; rw [if_neg (by omega)]⟩
  case round =>
    obtain ⟨k, hk, rfl, hP⟩ := hrel
    have HP := Lib.hid hP
    clear hP
    by_cases hlt : k < 4
    · go_upto_region 5 with fail
      go_cut [8] (fun s8 wx => ∃ c, s8 = .pointer (some ⟨c, 0, none⟩) ∧ Iv w wx a b (w.heap.size + 3) (Vc.mc a b k) c (Vc.app a (Vc.col b k)))
      case first =>
        refine Rg.region (I := fun bs W => Iw w W a b (w.heap.size + 3) (Vc.mc a b k) bs) (dem := fun i => decide (i = 18)) (m := 19) (g := 1) (T := fun listed bs a' => ∀ W, Iw w W a b (w.heap.size + 3) (Vc.mc a b k) bs → wpAny Try.prog .any _ _ 1 listed a' W) (by kernel_rfl) (Iw.call ⟨HP.out, fun c hc => by simp at hc, fun c hc => by simp at hc⟩ (Kp.refl _ _).drew) rfl (fun _ _ _ _ h hI => h _ hI) ?_
        have l4 : IntKind.i64.wrap 4 = 4 := by decide
        have l5 : IntKind.i64.wrap 5 = 5 := by decide
        have l6 : IntKind.i64.wrap 6 = 6 := by decide
        have l7 : IntKind.i64.wrap 7 = 7 := by decide
        have l8 : IntKind.i64.wrap 8 = 8 := by decide
        have l9 : IntKind.i64.wrap 9 = 9 := by decide
        have l10 : IntKind.i64.wrap 10 = 10 := by decide
        have l11 : IntKind.i64.wrap 11 = 11 := by decide
        have l12 : IntKind.i64.wrap 12 = 12 := by decide
        have l13 : IntKind.i64.wrap 13 = 13 := by decide
        have l14 : IntKind.i64.wrap 14 = 14 := by decide
        have l15 : IntKind.i64.wrap 15 = 15 := by decide
        obtain rfl | rfl | rfl | rfl : k = 0 ∨ k = 1 ∨ k = 2 ∨ k = 3 := by omega
        · skip
          refine Rg.take 0 (v := .agg (Vc.ar a)) rfl rfl (by kernel_rfl) (by kernel_rfl) (by kernel_rfl) (by kernel_rfl) (by kernel_rfl) (.inl ⟨rfl, fun bs wq hI => ?_⟩) ?_
          · exact quiet_ldM (b := w.heap.size) (.tmp 2) rfl rfl hI.u.u.m1
          simp only [Act.put, List.getElem_toArray, List.getElem_cons_zero, List.getElem_cons_succ, List.setIfInBounds_toArray, List.set_cons_zero, List.set_cons_succ]
          refine Rg.take 1 (v := .int .i64 0) rfl rfl (by kernel_rfl) (by kernel_rfl) (by kernel_rfl) (by kernel_rfl) (by kernel_rfl) (.inl ⟨rfl, fun bs wq hI => ?_⟩) ?_
          · go_simp
          simp only [Act.put, List.getElem_toArray, List.getElem_cons_zero, List.getElem_cons_succ, List.setIfInBounds_toArray, List.set_cons_zero, List.set_cons_succ]
          refine Rg.take 2 (v := .pointer (some ⟨w.heap.size + 1, 0, none⟩)) rfl rfl (by kernel_rfl) (by kernel_rfl) (by kernel_rfl) (by kernel_rfl) (by kernel_rfl) (.inl ⟨rfl, fun bs wq hI => ?_⟩) ?_
          · go_simp
          simp only [Act.put, List.getElem_toArray, List.getElem_cons_zero, List.getElem_cons_succ, List.setIfInBounds_toArray, List.set_cons_zero, List.set_cons_succ]
          refine Rg.take 3 (v := .int .i64 (b 0)) rfl rfl (by kernel_rfl) (by kernel_rfl) (by kernel_rfl) (by kernel_rfl) (by kernel_rfl) (.inl ⟨rfl, fun bs wq hI => ?_⟩) ?_
          · (have c9 := hI.u.u.m2.cell 0 (by omega); go_simp)
          simp only [Act.put, List.getElem_toArray, List.getElem_cons_zero, List.getElem_cons_succ, List.setIfInBounds_toArray, List.set_cons_zero, List.set_cons_succ]
          refine Rg.take 4 (v := .int .i64 0) rfl rfl (by kernel_rfl) (by kernel_rfl) (by kernel_rfl) (by kernel_rfl) (by kernel_rfl) (.inl ⟨rfl, fun bs wq hI => ?_⟩) ?_
          · go_simp
          simp only [Act.put, List.getElem_toArray, List.getElem_cons_zero, List.getElem_cons_succ, List.setIfInBounds_toArray, List.set_cons_zero, List.set_cons_succ]
          refine Rg.take 5 (v := .int .i64 4) rfl rfl (by kernel_rfl) (by kernel_rfl) (by kernel_rfl) (by kernel_rfl) (by kernel_rfl) (.inl ⟨rfl, fun bs wq hI => ?_⟩) ?_
          · go_simp
          simp only [Act.put, List.getElem_toArray, List.getElem_cons_zero, List.getElem_cons_succ, List.setIfInBounds_toArray, List.set_cons_zero, List.set_cons_succ]
          refine Rg.take 6 (v := .pointer (some ⟨w.heap.size + 1, 4, none⟩)) rfl rfl (by kernel_rfl) (by kernel_rfl) (by kernel_rfl) (by kernel_rfl) (by kernel_rfl) (.inl ⟨rfl, fun bs wq hI => ?_⟩) ?_
          · go_simp
          simp only [Act.put, List.getElem_toArray, List.getElem_cons_zero, List.getElem_cons_succ, List.setIfInBounds_toArray, List.set_cons_zero, List.set_cons_succ]
          refine Rg.take 7 (v := .int .i64 (b 4)) rfl rfl (by kernel_rfl) (by kernel_rfl) (by kernel_rfl) (by kernel_rfl) (by kernel_rfl) (.inl ⟨rfl, fun bs wq hI => ?_⟩) ?_
          · (have c9 := hI.u.u.m2.cell 4 (by omega); go_simp)
          simp only [Act.put, List.getElem_toArray, List.getElem_cons_zero, List.getElem_cons_succ, List.setIfInBounds_toArray, List.set_cons_zero, List.set_cons_succ]
          refine Rg.take 8 (v := .int .i64 0) rfl rfl (by kernel_rfl) (by kernel_rfl) (by kernel_rfl) (by kernel_rfl) (by kernel_rfl) (.inl ⟨rfl, fun bs wq hI => ?_⟩) ?_
          · go_simp
          simp only [Act.put, List.getElem_toArray, List.getElem_cons_zero, List.getElem_cons_succ, List.setIfInBounds_toArray, List.set_cons_zero, List.set_cons_succ]
          refine Rg.take 9 (v := .int .i64 8) rfl rfl (by kernel_rfl) (by kernel_rfl) (by kernel_rfl) (by kernel_rfl) (by kernel_rfl) (.inl ⟨rfl, fun bs wq hI => ?_⟩) ?_
          · go_simp
          simp only [Act.put, List.getElem_toArray, List.getElem_cons_zero, List.getElem_cons_succ, List.setIfInBounds_toArray, List.set_cons_zero, List.set_cons_succ]
          refine Rg.take 10 (v := .pointer (some ⟨w.heap.size + 1, 8, none⟩)) rfl rfl (by kernel_rfl) (by kernel_rfl) (by kernel_rfl) (by kernel_rfl) (by kernel_rfl) (.inl ⟨rfl, fun bs wq hI => ?_⟩) ?_
          · go_simp
          simp only [Act.put, List.getElem_toArray, List.getElem_cons_zero, List.getElem_cons_succ, List.setIfInBounds_toArray, List.set_cons_zero, List.set_cons_succ]
          refine Rg.take 11 (v := .int .i64 (b 8)) rfl rfl (by kernel_rfl) (by kernel_rfl) (by kernel_rfl) (by kernel_rfl) (by kernel_rfl) (.inl ⟨rfl, fun bs wq hI => ?_⟩) ?_
          · (have c9 := hI.u.u.m2.cell 8 (by omega); go_simp)
          simp only [Act.put, List.getElem_toArray, List.getElem_cons_zero, List.getElem_cons_succ, List.setIfInBounds_toArray, List.set_cons_zero, List.set_cons_succ]
          refine Rg.take 12 (v := .int .i64 0) rfl rfl (by kernel_rfl) (by kernel_rfl) (by kernel_rfl) (by kernel_rfl) (by kernel_rfl) (.inl ⟨rfl, fun bs wq hI => ?_⟩) ?_
          · go_simp
          simp only [Act.put, List.getElem_toArray, List.getElem_cons_zero, List.getElem_cons_succ, List.setIfInBounds_toArray, List.set_cons_zero, List.set_cons_succ]
          refine Rg.take 13 (v := .int .i64 12) rfl rfl (by kernel_rfl) (by kernel_rfl) (by kernel_rfl) (by kernel_rfl) (by kernel_rfl) (.inl ⟨rfl, fun bs wq hI => ?_⟩) ?_
          · go_simp
          simp only [Act.put, List.getElem_toArray, List.getElem_cons_zero, List.getElem_cons_succ, List.setIfInBounds_toArray, List.set_cons_zero, List.set_cons_succ]
          refine Rg.take 14 (v := .pointer (some ⟨w.heap.size + 1, 12, none⟩)) rfl rfl (by kernel_rfl) (by kernel_rfl) (by kernel_rfl) (by kernel_rfl) (by kernel_rfl) (.inl ⟨rfl, fun bs wq hI => ?_⟩) ?_
          · go_simp
          simp only [Act.put, List.getElem_toArray, List.getElem_cons_zero, List.getElem_cons_succ, List.setIfInBounds_toArray, List.set_cons_zero, List.set_cons_succ]
          refine Rg.take 15 (v := .int .i64 (b 12)) rfl rfl (by kernel_rfl) (by kernel_rfl) (by kernel_rfl) (by kernel_rfl) (by kernel_rfl) (.inl ⟨rfl, fun bs wq hI => ?_⟩) ?_
          · (have c9 := hI.u.u.m2.cell 12 (by omega); go_simp)
          simp only [Act.put, List.getElem_toArray, List.getElem_cons_zero, List.getElem_cons_succ, List.setIfInBounds_toArray, List.set_cons_zero, List.set_cons_succ]
          refine Rg.take 16 (v := .agg #[.int .i64 (b 0), .int .i64 (b 4), .int .i64 (b 8), .int .i64 (b 12)]) rfl rfl (by kernel_rfl) (by kernel_rfl) (by kernel_rfl) (by kernel_rfl) (by kernel_rfl) (.inl ⟨rfl, fun bs wq hI => ?_⟩) ?_
          · go_simp
          simp only [Act.put, List.getElem_toArray, List.getElem_cons_zero, List.getElem_cons_succ, List.setIfInBounds_toArray, List.set_cons_zero, List.set_cons_succ]
          refine Rg.take 17 (v := .agg #[.int .i64 (Vc.app a (Vc.col b 0) 0), .int .i64 (Vc.app a (Vc.col b 0) 1), .int .i64 (Vc.app a (Vc.col b 0) 2), .int .i64 (Vc.app a (Vc.col b 0) 3)]) rfl rfl (by kernel_rfl) (by kernel_rfl) (by kernel_rfl) (by kernel_rfl) (by kernel_rfl) (.inl ⟨rfl, fun bs wq hI => ?_⟩) ?_
          · (go_simp; exact (rapply_any a (Vc.col b 0) _ HA.out (fun j hj => HC.out 0 (by omega) j hj)).mono fun e w2 h => ⟨h.1, hI.call h.2⟩)
          simp only [Act.put, List.getElem_toArray, List.getElem_cons_zero, List.getElem_cons_succ, List.setIfInBounds_toArray, List.set_cons_zero, List.set_cons_succ]
          refine Rg.made (rs := [18]) (by kernel_rfl) (by simp) (fun i hi => ?_)
          obtain rfl : i = 18 := by simpa using hi
          refine Rg.up_made rfl rfl (fun a' => ⟨rfl, fun bs W hI => hI.make a' _ rfl⟩) (fun b1 _ => ?_)
          simp only [Act.put, List.getElem_toArray, List.getElem_cons_zero, List.getElem_cons_succ, List.setIfInBounds_toArray, List.set_cons_zero, List.set_cons_succ]
          refine Rg.done (rs := [19]) (by kernel_rfl) (by decide) (fun W hI => ?_)
          have hB := hI.z b1 (by simp)
          have d0 := hB.cell 0 (by omega); have d1 := hB.cell 1 (by omega); have d2 := hB.cell 2 (by omega); have d3 := hB.cell 3 (by omega)
          have f0 := hB.froz 0 (by omega); have f1 := hB.froz 1 (by omega); have f2 := hB.froz 2 (by omega); have f3 := hB.froz 3 (by omega)
          have hI5 := hI.store b1 (by simp) (Vc.app a (Vc.col b 0))
          have H5 := Lib.hid hI5
          clear hI hB hI5
          refine wpAny_ready (rs := [19]) (by kernel_rfl) (by simp) (AllReady.cons (o := _) rfl (fun K hK => ?_) AllReady.nil)
          go_simp
          refine hK _ _ ?_
          clear hK K
          refine wpAny_done (by kernel_rfl) ?_ _
          go_wp2_with fail
          go_meet
          exact ⟨b1, rfl, H5.out⟩
        · skip
          refine Rg.take 0 (v := .agg (Vc.ar a)) rfl rfl (by kernel_rfl) (by kernel_rfl) (by kernel_rfl) (by kernel_rfl) (by kernel_rfl) (.inl ⟨rfl, fun bs wq hI => ?_⟩) ?_
          · exact quiet_ldM (b := w.heap.size) (.tmp 2) rfl rfl hI.u.u.m1
          simp only [Act.put, List.getElem_toArray, List.getElem_cons_zero, List.getElem_cons_succ, List.setIfInBounds_toArray, List.set_cons_zero, List.set_cons_succ]
          refine Rg.take 1 (v := .int .i64 1) rfl rfl (by kernel_rfl) (by kernel_rfl) (by kernel_rfl) (by kernel_rfl) (by kernel_rfl) (.inl ⟨rfl, fun bs wq hI => ?_⟩) ?_
          · go_simp
          simp only [Act.put, List.getElem_toArray, List.getElem_cons_zero, List.getElem_cons_succ, List.setIfInBounds_toArray, List.set_cons_zero, List.set_cons_succ]
          refine Rg.take 2 (v := .pointer (some ⟨w.heap.size + 1, 1, none⟩)) rfl rfl (by kernel_rfl) (by kernel_rfl) (by kernel_rfl) (by kernel_rfl) (by kernel_rfl) (.inl ⟨rfl, fun bs wq hI => ?_⟩) ?_
          · go_simp
          simp only [Act.put, List.getElem_toArray, List.getElem_cons_zero, List.getElem_cons_succ, List.setIfInBounds_toArray, List.set_cons_zero, List.set_cons_succ]
          refine Rg.take 3 (v := .int .i64 (b 1)) rfl rfl (by kernel_rfl) (by kernel_rfl) (by kernel_rfl) (by kernel_rfl) (by kernel_rfl) (.inl ⟨rfl, fun bs wq hI => ?_⟩) ?_
          · (have c9 := hI.u.u.m2.cell 1 (by omega); go_simp)
          simp only [Act.put, List.getElem_toArray, List.getElem_cons_zero, List.getElem_cons_succ, List.setIfInBounds_toArray, List.set_cons_zero, List.set_cons_succ]
          refine Rg.take 4 (v := .int .i64 1) rfl rfl (by kernel_rfl) (by kernel_rfl) (by kernel_rfl) (by kernel_rfl) (by kernel_rfl) (.inl ⟨rfl, fun bs wq hI => ?_⟩) ?_
          · go_simp
          simp only [Act.put, List.getElem_toArray, List.getElem_cons_zero, List.getElem_cons_succ, List.setIfInBounds_toArray, List.set_cons_zero, List.set_cons_succ]
          refine Rg.take 5 (v := .int .i64 5) rfl rfl (by kernel_rfl) (by kernel_rfl) (by kernel_rfl) (by kernel_rfl) (by kernel_rfl) (.inl ⟨rfl, fun bs wq hI => ?_⟩) ?_
          · go_simp
          simp only [Act.put, List.getElem_toArray, List.getElem_cons_zero, List.getElem_cons_succ, List.setIfInBounds_toArray, List.set_cons_zero, List.set_cons_succ]
          refine Rg.take 6 (v := .pointer (some ⟨w.heap.size + 1, 5, none⟩)) rfl rfl (by kernel_rfl) (by kernel_rfl) (by kernel_rfl) (by kernel_rfl) (by kernel_rfl) (.inl ⟨rfl, fun bs wq hI => ?_⟩) ?_
          · go_simp
          simp only [Act.put, List.getElem_toArray, List.getElem_cons_zero, List.getElem_cons_succ, List.setIfInBounds_toArray, List.set_cons_zero, List.set_cons_succ]
          refine Rg.take 7 (v := .int .i64 (b 5)) rfl rfl (by kernel_rfl) (by kernel_rfl) (by kernel_rfl) (by kernel_rfl) (by kernel_rfl) (.inl ⟨rfl, fun bs wq hI => ?_⟩) ?_
          · (have c9 := hI.u.u.m2.cell 5 (by omega); go_simp)
          simp only [Act.put, List.getElem_toArray, List.getElem_cons_zero, List.getElem_cons_succ, List.setIfInBounds_toArray, List.set_cons_zero, List.set_cons_succ]
          refine Rg.take 8 (v := .int .i64 1) rfl rfl (by kernel_rfl) (by kernel_rfl) (by kernel_rfl) (by kernel_rfl) (by kernel_rfl) (.inl ⟨rfl, fun bs wq hI => ?_⟩) ?_
          · go_simp
          simp only [Act.put, List.getElem_toArray, List.getElem_cons_zero, List.getElem_cons_succ, List.setIfInBounds_toArray, List.set_cons_zero, List.set_cons_succ]
          refine Rg.take 9 (v := .int .i64 9) rfl rfl (by kernel_rfl) (by kernel_rfl) (by kernel_rfl) (by kernel_rfl) (by kernel_rfl) (.inl ⟨rfl, fun bs wq hI => ?_⟩) ?_
          · go_simp
          simp only [Act.put, List.getElem_toArray, List.getElem_cons_zero, List.getElem_cons_succ, List.setIfInBounds_toArray, List.set_cons_zero, List.set_cons_succ]
          refine Rg.take 10 (v := .pointer (some ⟨w.heap.size + 1, 9, none⟩)) rfl rfl (by kernel_rfl) (by kernel_rfl) (by kernel_rfl) (by kernel_rfl) (by kernel_rfl) (.inl ⟨rfl, fun bs wq hI => ?_⟩) ?_
          · go_simp
          simp only [Act.put, List.getElem_toArray, List.getElem_cons_zero, List.getElem_cons_succ, List.setIfInBounds_toArray, List.set_cons_zero, List.set_cons_succ]
          refine Rg.take 11 (v := .int .i64 (b 9)) rfl rfl (by kernel_rfl) (by kernel_rfl) (by kernel_rfl) (by kernel_rfl) (by kernel_rfl) (.inl ⟨rfl, fun bs wq hI => ?_⟩) ?_
          · (have c9 := hI.u.u.m2.cell 9 (by omega); go_simp)
          simp only [Act.put, List.getElem_toArray, List.getElem_cons_zero, List.getElem_cons_succ, List.setIfInBounds_toArray, List.set_cons_zero, List.set_cons_succ]
          refine Rg.take 12 (v := .int .i64 1) rfl rfl (by kernel_rfl) (by kernel_rfl) (by kernel_rfl) (by kernel_rfl) (by kernel_rfl) (.inl ⟨rfl, fun bs wq hI => ?_⟩) ?_
          · go_simp
          simp only [Act.put, List.getElem_toArray, List.getElem_cons_zero, List.getElem_cons_succ, List.setIfInBounds_toArray, List.set_cons_zero, List.set_cons_succ]
          refine Rg.take 13 (v := .int .i64 13) rfl rfl (by kernel_rfl) (by kernel_rfl) (by kernel_rfl) (by kernel_rfl) (by kernel_rfl) (.inl ⟨rfl, fun bs wq hI => ?_⟩) ?_
          · go_simp
          simp only [Act.put, List.getElem_toArray, List.getElem_cons_zero, List.getElem_cons_succ, List.setIfInBounds_toArray, List.set_cons_zero, List.set_cons_succ]
          refine Rg.take 14 (v := .pointer (some ⟨w.heap.size + 1, 13, none⟩)) rfl rfl (by kernel_rfl) (by kernel_rfl) (by kernel_rfl) (by kernel_rfl) (by kernel_rfl) (.inl ⟨rfl, fun bs wq hI => ?_⟩) ?_
          · go_simp
          simp only [Act.put, List.getElem_toArray, List.getElem_cons_zero, List.getElem_cons_succ, List.setIfInBounds_toArray, List.set_cons_zero, List.set_cons_succ]
          refine Rg.take 15 (v := .int .i64 (b 13)) rfl rfl (by kernel_rfl) (by kernel_rfl) (by kernel_rfl) (by kernel_rfl) (by kernel_rfl) (.inl ⟨rfl, fun bs wq hI => ?_⟩) ?_
          · (have c9 := hI.u.u.m2.cell 13 (by omega); go_simp)
          simp only [Act.put, List.getElem_toArray, List.getElem_cons_zero, List.getElem_cons_succ, List.setIfInBounds_toArray, List.set_cons_zero, List.set_cons_succ]
          refine Rg.take 16 (v := .agg #[.int .i64 (b 1), .int .i64 (b 5), .int .i64 (b 9), .int .i64 (b 13)]) rfl rfl (by kernel_rfl) (by kernel_rfl) (by kernel_rfl) (by kernel_rfl) (by kernel_rfl) (.inl ⟨rfl, fun bs wq hI => ?_⟩) ?_
          · go_simp
          simp only [Act.put, List.getElem_toArray, List.getElem_cons_zero, List.getElem_cons_succ, List.setIfInBounds_toArray, List.set_cons_zero, List.set_cons_succ]
          refine Rg.take 17 (v := .agg #[.int .i64 (Vc.app a (Vc.col b 1) 0), .int .i64 (Vc.app a (Vc.col b 1) 1), .int .i64 (Vc.app a (Vc.col b 1) 2), .int .i64 (Vc.app a (Vc.col b 1) 3)]) rfl rfl (by kernel_rfl) (by kernel_rfl) (by kernel_rfl) (by kernel_rfl) (by kernel_rfl) (.inl ⟨rfl, fun bs wq hI => ?_⟩) ?_
          · (go_simp; exact (rapply_any a (Vc.col b 1) _ HA.out (fun j hj => HC.out 1 (by omega) j hj)).mono fun e w2 h => ⟨h.1, hI.call h.2⟩)
          simp only [Act.put, List.getElem_toArray, List.getElem_cons_zero, List.getElem_cons_succ, List.setIfInBounds_toArray, List.set_cons_zero, List.set_cons_succ]
          refine Rg.made (rs := [18]) (by kernel_rfl) (by simp) (fun i hi => ?_)
          obtain rfl : i = 18 := by simpa using hi
          refine Rg.up_made rfl rfl (fun a' => ⟨rfl, fun bs W hI => hI.make a' _ rfl⟩) (fun b1 _ => ?_)
          simp only [Act.put, List.getElem_toArray, List.getElem_cons_zero, List.getElem_cons_succ, List.setIfInBounds_toArray, List.set_cons_zero, List.set_cons_succ]
          refine Rg.done (rs := [19]) (by kernel_rfl) (by decide) (fun W hI => ?_)
          have hB := hI.z b1 (by simp)
          have d0 := hB.cell 0 (by omega); have d1 := hB.cell 1 (by omega); have d2 := hB.cell 2 (by omega); have d3 := hB.cell 3 (by omega)
          have f0 := hB.froz 0 (by omega); have f1 := hB.froz 1 (by omega); have f2 := hB.froz 2 (by omega); have f3 := hB.froz 3 (by omega)
          have hI5 := hI.store b1 (by simp) (Vc.app a (Vc.col b 1))
          have H5 := Lib.hid hI5
          clear hI hB hI5
          refine wpAny_ready (rs := [19]) (by kernel_rfl) (by simp) (AllReady.cons (o := _) rfl (fun K hK => ?_) AllReady.nil)
          go_simp
          refine hK _ _ ?_
          clear hK K
          refine wpAny_done (by kernel_rfl) ?_ _
          go_wp2_with fail
          go_meet
          exact ⟨b1, rfl, H5.out⟩
        · skip
          refine Rg.take 0 (v := .agg (Vc.ar a)) rfl rfl (by kernel_rfl) (by kernel_rfl) (by kernel_rfl) (by kernel_rfl) (by kernel_rfl) (.inl ⟨rfl, fun bs wq hI => ?_⟩) ?_
          · exact quiet_ldM (b := w.heap.size) (.tmp 2) rfl rfl hI.u.u.m1
          simp only [Act.put, List.getElem_toArray, List.getElem_cons_zero, List.getElem_cons_succ, List.setIfInBounds_toArray, List.set_cons_zero, List.set_cons_succ]
          refine Rg.take 1 (v := .int .i64 2) rfl rfl (by kernel_rfl) (by kernel_rfl) (by kernel_rfl) (by kernel_rfl) (by kernel_rfl) (.inl ⟨rfl, fun bs wq hI => ?_⟩) ?_
          · go_simp
          simp only [Act.put, List.getElem_toArray, List.getElem_cons_zero, List.getElem_cons_succ, List.setIfInBounds_toArray, List.set_cons_zero, List.set_cons_succ]
          refine Rg.take 2 (v := .pointer (some ⟨w.heap.size + 1, 2, none⟩)) rfl rfl (by kernel_rfl) (by kernel_rfl) (by kernel_rfl) (by kernel_rfl) (by kernel_rfl) (.inl ⟨rfl, fun bs wq hI => ?_⟩) ?_
          · go_simp
          simp only [Act.put, List.getElem_toArray, List.getElem_cons_zero, List.getElem_cons_succ, List.setIfInBounds_toArray, List.set_cons_zero, List.set_cons_succ]
          refine Rg.take 3 (v := .int .i64 (b 2)) rfl rfl (by kernel_rfl) (by kernel_rfl) (by kernel_rfl) (by kernel_rfl) (by kernel_rfl) (.inl ⟨rfl, fun bs wq hI => ?_⟩) ?_
          · (have c9 := hI.u.u.m2.cell 2 (by omega); go_simp)
          simp only [Act.put, List.getElem_toArray, List.getElem_cons_zero, List.getElem_cons_succ, List.setIfInBounds_toArray, List.set_cons_zero, List.set_cons_succ]
          refine Rg.take 4 (v := .int .i64 2) rfl rfl (by kernel_rfl) (by kernel_rfl) (by kernel_rfl) (by kernel_rfl) (by kernel_rfl) (.inl ⟨rfl, fun bs wq hI => ?_⟩) ?_
          · go_simp
          simp only [Act.put, List.getElem_toArray, List.getElem_cons_zero, List.getElem_cons_succ, List.setIfInBounds_toArray, List.set_cons_zero, List.set_cons_succ]
          refine Rg.take 5 (v := .int .i64 6) rfl rfl (by kernel_rfl) (by kernel_rfl) (by kernel_rfl) (by kernel_rfl) (by kernel_rfl) (.inl ⟨rfl, fun bs wq hI => ?_⟩) ?_
          · go_simp
          simp only [Act.put, List.getElem_toArray, List.getElem_cons_zero, List.getElem_cons_succ, List.setIfInBounds_toArray, List.set_cons_zero, List.set_cons_succ]
          refine Rg.take 6 (v := .pointer (some ⟨w.heap.size + 1, 6, none⟩)) rfl rfl (by kernel_rfl) (by kernel_rfl) (by kernel_rfl) (by kernel_rfl) (by kernel_rfl) (.inl ⟨rfl, fun bs wq hI => ?_⟩) ?_
          · go_simp
          simp only [Act.put, List.getElem_toArray, List.getElem_cons_zero, List.getElem_cons_succ, List.setIfInBounds_toArray, List.set_cons_zero, List.set_cons_succ]
          refine Rg.take 7 (v := .int .i64 (b 6)) rfl rfl (by kernel_rfl) (by kernel_rfl) (by kernel_rfl) (by kernel_rfl) (by kernel_rfl) (.inl ⟨rfl, fun bs wq hI => ?_⟩) ?_
          · (have c9 := hI.u.u.m2.cell 6 (by omega); go_simp)
          simp only [Act.put, List.getElem_toArray, List.getElem_cons_zero, List.getElem_cons_succ, List.setIfInBounds_toArray, List.set_cons_zero, List.set_cons_succ]
          refine Rg.take 8 (v := .int .i64 2) rfl rfl (by kernel_rfl) (by kernel_rfl) (by kernel_rfl) (by kernel_rfl) (by kernel_rfl) (.inl ⟨rfl, fun bs wq hI => ?_⟩) ?_
          · go_simp
          simp only [Act.put, List.getElem_toArray, List.getElem_cons_zero, List.getElem_cons_succ, List.setIfInBounds_toArray, List.set_cons_zero, List.set_cons_succ]
          refine Rg.take 9 (v := .int .i64 10) rfl rfl (by kernel_rfl) (by kernel_rfl) (by kernel_rfl) (by kernel_rfl) (by kernel_rfl) (.inl ⟨rfl, fun bs wq hI => ?_⟩) ?_
          · go_simp
          simp only [Act.put, List.getElem_toArray, List.getElem_cons_zero, List.getElem_cons_succ, List.setIfInBounds_toArray, List.set_cons_zero, List.set_cons_succ]
          refine Rg.take 10 (v := .pointer (some ⟨w.heap.size + 1, 10, none⟩)) rfl rfl (by kernel_rfl) (by kernel_rfl) (by kernel_rfl) (by kernel_rfl) (by kernel_rfl) (.inl ⟨rfl, fun bs wq hI => ?_⟩) ?_
          · go_simp
          simp only [Act.put, List.getElem_toArray, List.getElem_cons_zero, List.getElem_cons_succ, List.setIfInBounds_toArray, List.set_cons_zero, List.set_cons_succ]
          refine Rg.take 11 (v := .int .i64 (b 10)) rfl rfl (by kernel_rfl) (by kernel_rfl) (by kernel_rfl) (by kernel_rfl) (by kernel_rfl) (.inl ⟨rfl, fun bs wq hI => ?_⟩) ?_
          · (have c9 := hI.u.u.m2.cell 10 (by omega); go_simp)
          simp only [Act.put, List.getElem_toArray, List.getElem_cons_zero, List.getElem_cons_succ, List.setIfInBounds_toArray, List.set_cons_zero, List.set_cons_succ]
          refine Rg.take 12 (v := .int .i64 2) rfl rfl (by kernel_rfl) (by kernel_rfl) (by kernel_rfl) (by kernel_rfl) (by kernel_rfl) (.inl ⟨rfl, fun bs wq hI => ?_⟩) ?_
          · go_simp
          simp only [Act.put, List.getElem_toArray, List.getElem_cons_zero, List.getElem_cons_succ, List.setIfInBounds_toArray, List.set_cons_zero, List.set_cons_succ]
          refine Rg.take 13 (v := .int .i64 14) rfl rfl (by kernel_rfl) (by kernel_rfl) (by kernel_rfl) (by kernel_rfl) (by kernel_rfl) (.inl ⟨rfl, fun bs wq hI => ?_⟩) ?_
          · go_simp
          simp only [Act.put, List.getElem_toArray, List.getElem_cons_zero, List.getElem_cons_succ, List.setIfInBounds_toArray, List.set_cons_zero, List.set_cons_succ]
          refine Rg.take 14 (v := .pointer (some ⟨w.heap.size + 1, 14, none⟩)) rfl rfl (by kernel_rfl) (by kernel_rfl) (by kernel_rfl) (by kernel_rfl) (by kernel_rfl) (.inl ⟨rfl, fun bs wq hI => ?_⟩) ?_
          · go_simp
          simp only [Act.put, List.getElem_toArray, List.getElem_cons_zero, List.getElem_cons_succ, List.setIfInBounds_toArray, List.set_cons_zero, List.set_cons_succ]
          refine Rg.take 15 (v := .int .i64 (b 14)) rfl rfl (by kernel_rfl) (by kernel_rfl) (by kernel_rfl) (by kernel_rfl) (by kernel_rfl) (.inl ⟨rfl, fun bs wq hI => ?_⟩) ?_
          · (have c9 := hI.u.u.m2.cell 14 (by omega); go_simp)
          simp only [Act.put, List.getElem_toArray, List.getElem_cons_zero, List.getElem_cons_succ, List.setIfInBounds_toArray, List.set_cons_zero, List.set_cons_succ]
          refine Rg.take 16 (v := .agg #[.int .i64 (b 2), .int .i64 (b 6), .int .i64 (b 10), .int .i64 (b 14)]) rfl rfl (by kernel_rfl) (by kernel_rfl) (by kernel_rfl) (by kernel_rfl) (by kernel_rfl) (.inl ⟨rfl, fun bs wq hI => ?_⟩) ?_
          · go_simp
          simp only [Act.put, List.getElem_toArray, List.getElem_cons_zero, List.getElem_cons_succ, List.setIfInBounds_toArray, List.set_cons_zero, List.set_cons_succ]
          refine Rg.take 17 (v := .agg #[.int .i64 (Vc.app a (Vc.col b 2) 0), .int .i64 (Vc.app a (Vc.col b 2) 1), .int .i64 (Vc.app a (Vc.col b 2) 2), .int .i64 (Vc.app a (Vc.col b 2) 3)]) rfl rfl (by kernel_rfl) (by kernel_rfl) (by kernel_rfl) (by kernel_rfl) (by kernel_rfl) (.inl ⟨rfl, fun bs wq hI => ?_⟩) ?_
          · (go_simp; exact (rapply_any a (Vc.col b 2) _ HA.out (fun j hj => HC.out 2 (by omega) j hj)).mono fun e w2 h => ⟨h.1, hI.call h.2⟩)
          simp only [Act.put, List.getElem_toArray, List.getElem_cons_zero, List.getElem_cons_succ, List.setIfInBounds_toArray, List.set_cons_zero, List.set_cons_succ]
          refine Rg.made (rs := [18]) (by kernel_rfl) (by simp) (fun i hi => ?_)
          obtain rfl : i = 18 := by simpa using hi
          refine Rg.up_made rfl rfl (fun a' => ⟨rfl, fun bs W hI => hI.make a' _ rfl⟩) (fun b1 _ => ?_)
          simp only [Act.put, List.getElem_toArray, List.getElem_cons_zero, List.getElem_cons_succ, List.setIfInBounds_toArray, List.set_cons_zero, List.set_cons_succ]
          refine Rg.done (rs := [19]) (by kernel_rfl) (by decide) (fun W hI => ?_)
          have hB := hI.z b1 (by simp)
          have d0 := hB.cell 0 (by omega); have d1 := hB.cell 1 (by omega); have d2 := hB.cell 2 (by omega); have d3 := hB.cell 3 (by omega)
          have f0 := hB.froz 0 (by omega); have f1 := hB.froz 1 (by omega); have f2 := hB.froz 2 (by omega); have f3 := hB.froz 3 (by omega)
          have hI5 := hI.store b1 (by simp) (Vc.app a (Vc.col b 2))
          have H5 := Lib.hid hI5
          clear hI hB hI5
          refine wpAny_ready (rs := [19]) (by kernel_rfl) (by simp) (AllReady.cons (o := _) rfl (fun K hK => ?_) AllReady.nil)
          go_simp
          refine hK _ _ ?_
          clear hK K
          refine wpAny_done (by kernel_rfl) ?_ _
          go_wp2_with fail
          go_meet
          exact ⟨b1, rfl, H5.out⟩
        · skip
          refine Rg.take 0 (v := .agg (Vc.ar a)) rfl rfl (by kernel_rfl) (by kernel_rfl) (by kernel_rfl) (by kernel_rfl) (by kernel_rfl) (.inl ⟨rfl, fun bs wq hI => ?_⟩) ?_
          · exact quiet_ldM (b := w.heap.size) (.tmp 2) rfl rfl hI.u.u.m1
          simp only [Act.put, List.getElem_toArray, List.getElem_cons_zero, List.getElem_cons_succ, List.setIfInBounds_toArray, List.set_cons_zero, List.set_cons_succ]
          refine Rg.take 1 (v := .int .i64 3) rfl rfl (by kernel_rfl) (by kernel_rfl) (by kernel_rfl) (by kernel_rfl) (by kernel_rfl) (.inl ⟨rfl, fun bs wq hI => ?_⟩) ?_
          · go_simp
          simp only [Act.put, List.getElem_toArray, List.getElem_cons_zero, List.getElem_cons_succ, List.setIfInBounds_toArray, List.set_cons_zero, List.set_cons_succ]
          refine Rg.take 2 (v := .pointer (some ⟨w.heap.size + 1, 3, none⟩)) rfl rfl (by kernel_rfl) (by kernel_rfl) (by kernel_rfl) (by kernel_rfl) (by kernel_rfl) (.inl ⟨rfl, fun bs wq hI => ?_⟩) ?_
          · go_simp
          simp only [Act.put, List.getElem_toArray, List.getElem_cons_zero, List.getElem_cons_succ, List.setIfInBounds_toArray, List.set_cons_zero, List.set_cons_succ]
          refine Rg.take 3 (v := .int .i64 (b 3)) rfl rfl (by kernel_rfl) (by kernel_rfl) (by kernel_rfl) (by kernel_rfl) (by kernel_rfl) (.inl ⟨rfl, fun bs wq hI => ?_⟩) ?_
          · (have c9 := hI.u.u.m2.cell 3 (by omega); go_simp)
          simp only [Act.put, List.getElem_toArray, List.getElem_cons_zero, List.getElem_cons_succ, List.setIfInBounds_toArray, List.set_cons_zero, List.set_cons_succ]
          refine Rg.take 4 (v := .int .i64 3) rfl rfl (by kernel_rfl) (by kernel_rfl) (by kernel_rfl) (by kernel_rfl) (by kernel_rfl) (.inl ⟨rfl, fun bs wq hI => ?_⟩) ?_
          · go_simp
          simp only [Act.put, List.getElem_toArray, List.getElem_cons_zero, List.getElem_cons_succ, List.setIfInBounds_toArray, List.set_cons_zero, List.set_cons_succ]
          refine Rg.take 5 (v := .int .i64 7) rfl rfl (by kernel_rfl) (by kernel_rfl) (by kernel_rfl) (by kernel_rfl) (by kernel_rfl) (.inl ⟨rfl, fun bs wq hI => ?_⟩) ?_
          · go_simp
          simp only [Act.put, List.getElem_toArray, List.getElem_cons_zero, List.getElem_cons_succ, List.setIfInBounds_toArray, List.set_cons_zero, List.set_cons_succ]
          refine Rg.take 6 (v := .pointer (some ⟨w.heap.size + 1, 7, none⟩)) rfl rfl (by kernel_rfl) (by kernel_rfl) (by kernel_rfl) (by kernel_rfl) (by kernel_rfl) (.inl ⟨rfl, fun bs wq hI => ?_⟩) ?_
          · go_simp
          simp only [Act.put, List.getElem_toArray, List.getElem_cons_zero, List.getElem_cons_succ, List.setIfInBounds_toArray, List.set_cons_zero, List.set_cons_succ]
          refine Rg.take 7 (v := .int .i64 (b 7)) rfl rfl (by kernel_rfl) (by kernel_rfl) (by kernel_rfl) (by kernel_rfl) (by kernel_rfl) (.inl ⟨rfl, fun bs wq hI => ?_⟩) ?_
          · (have c9 := hI.u.u.m2.cell 7 (by omega); go_simp)
          simp only [Act.put, List.getElem_toArray, List.getElem_cons_zero, List.getElem_cons_succ, List.setIfInBounds_toArray, List.set_cons_zero, List.set_cons_succ]
          refine Rg.take 8 (v := .int .i64 3) rfl rfl (by kernel_rfl) (by kernel_rfl) (by kernel_rfl) (by kernel_rfl) (by kernel_rfl) (.inl ⟨rfl, fun bs wq hI => ?_⟩) ?_
          · go_simp
          simp only [Act.put, List.getElem_toArray, List.getElem_cons_zero, List.getElem_cons_succ, List.setIfInBounds_toArray, List.set_cons_zero, List.set_cons_succ]
          refine Rg.take 9 (v := .int .i64 11) rfl rfl (by kernel_rfl) (by kernel_rfl) (by kernel_rfl) (by kernel_rfl) (by kernel_rfl) (.inl ⟨rfl, fun bs wq hI => ?_⟩) ?_
          · go_simp
          simp only [Act.put, List.getElem_toArray, List.getElem_cons_zero, List.getElem_cons_succ, List.setIfInBounds_toArray, List.set_cons_zero, List.set_cons_succ]
          refine Rg.take 10 (v := .pointer (some ⟨w.heap.size + 1, 11, none⟩)) rfl rfl (by kernel_rfl) (by kernel_rfl) (by kernel_rfl) (by kernel_rfl) (by kernel_rfl) (.inl ⟨rfl, fun bs wq hI => ?_⟩) ?_
          · go_simp
          simp only [Act.put, List.getElem_toArray, List.getElem_cons_zero, List.getElem_cons_succ, List.setIfInBounds_toArray, List.set_cons_zero, List.set_cons_succ]
          refine Rg.take 11 (v := .int .i64 (b 11)) rfl rfl (by kernel_rfl) (by kernel_rfl) (by kernel_rfl) (by kernel_rfl) (by kernel_rfl) (.inl ⟨rfl, fun bs wq hI => ?_⟩) ?_
          · (have c9 := hI.u.u.m2.cell 11 (by omega); go_simp)
          simp only [Act.put, List.getElem_toArray, List.getElem_cons_zero, List.getElem_cons_succ, List.setIfInBounds_toArray, List.set_cons_zero, List.set_cons_succ]
          refine Rg.take 12 (v := .int .i64 3) rfl rfl (by kernel_rfl) (by kernel_rfl) (by kernel_rfl) (by kernel_rfl) (by kernel_rfl) (.inl ⟨rfl, fun bs wq hI => ?_⟩) ?_
          · go_simp
          simp only [Act.put, List.getElem_toArray, List.getElem_cons_zero, List.getElem_cons_succ, List.setIfInBounds_toArray, List.set_cons_zero, List.set_cons_succ]
          refine Rg.take 13 (v := .int .i64 15) rfl rfl (by kernel_rfl) (by kernel_rfl) (by kernel_rfl) (by kernel_rfl) (by kernel_rfl) (.inl ⟨rfl, fun bs wq hI => ?_⟩) ?_
          · go_simp
          simp only [Act.put, List.getElem_toArray, List.getElem_cons_zero, List.getElem_cons_succ, List.setIfInBounds_toArray, List.set_cons_zero, List.set_cons_succ]
          refine Rg.take 14 (v := .pointer (some ⟨w.heap.size + 1, 15, none⟩)) rfl rfl (by kernel_rfl) (by kernel_rfl) (by kernel_rfl) (by kernel_rfl) (by kernel_rfl) (.inl ⟨rfl, fun bs wq hI => ?_⟩) ?_
          · go_simp
          simp only [Act.put, List.getElem_toArray, List.getElem_cons_zero, List.getElem_cons_succ, List.setIfInBounds_toArray, List.set_cons_zero, List.set_cons_succ]
          refine Rg.take 15 (v := .int .i64 (b 15)) rfl rfl (by kernel_rfl) (by kernel_rfl) (by kernel_rfl) (by kernel_rfl) (by kernel_rfl) (.inl ⟨rfl, fun bs wq hI => ?_⟩) ?_
          · (have c9 := hI.u.u.m2.cell 15 (by omega); go_simp)
          simp only [Act.put, List.getElem_toArray, List.getElem_cons_zero, List.getElem_cons_succ, List.setIfInBounds_toArray, List.set_cons_zero, List.set_cons_succ]
          refine Rg.take 16 (v := .agg #[.int .i64 (b 3), .int .i64 (b 7), .int .i64 (b 11), .int .i64 (b 15)]) rfl rfl (by kernel_rfl) (by kernel_rfl) (by kernel_rfl) (by kernel_rfl) (by kernel_rfl) (.inl ⟨rfl, fun bs wq hI => ?_⟩) ?_
          · go_simp
          simp only [Act.put, List.getElem_toArray, List.getElem_cons_zero, List.getElem_cons_succ, List.setIfInBounds_toArray, List.set_cons_zero, List.set_cons_succ]
          refine Rg.take 17 (v := .agg #[.int .i64 (Vc.app a (Vc.col b 3) 0), .int .i64 (Vc.app a (Vc.col b 3) 1), .int .i64 (Vc.app a (Vc.col b 3) 2), .int .i64 (Vc.app a (Vc.col b 3) 3)]) rfl rfl (by kernel_rfl) (by kernel_rfl) (by kernel_rfl) (by kernel_rfl) (by kernel_rfl) (.inl ⟨rfl, fun bs wq hI => ?_⟩) ?_
          · (go_simp; exact (rapply_any a (Vc.col b 3) _ HA.out (fun j hj => HC.out 3 (by omega) j hj)).mono fun e w2 h => ⟨h.1, hI.call h.2⟩)
          simp only [Act.put, List.getElem_toArray, List.getElem_cons_zero, List.getElem_cons_succ, List.setIfInBounds_toArray, List.set_cons_zero, List.set_cons_succ]
          refine Rg.made (rs := [18]) (by kernel_rfl) (by simp) (fun i hi => ?_)
          obtain rfl : i = 18 := by simpa using hi
          refine Rg.up_made rfl rfl (fun a' => ⟨rfl, fun bs W hI => hI.make a' _ rfl⟩) (fun b1 _ => ?_)
          simp only [Act.put, List.getElem_toArray, List.getElem_cons_zero, List.getElem_cons_succ, List.setIfInBounds_toArray, List.set_cons_zero, List.set_cons_succ]
          refine Rg.done (rs := [19]) (by kernel_rfl) (by decide) (fun W hI => ?_)
          have hB := hI.z b1 (by simp)
          have d0 := hB.cell 0 (by omega); have d1 := hB.cell 1 (by omega); have d2 := hB.cell 2 (by omega); have d3 := hB.cell 3 (by omega)
          have f0 := hB.froz 0 (by omega); have f1 := hB.froz 1 (by omega); have f2 := hB.froz 2 (by omega); have f3 := hB.froz 3 (by omega)
          have hI5 := hI.store b1 (by simp) (Vc.app a (Vc.col b 3))
          have H5 := Lib.hid hI5
          clear hI hB hI5
          refine wpAny_ready (rs := [19]) (by kernel_rfl) (by simp) (AllReady.cons (o := _) rfl (fun K hK => ?_) AllReady.nil)
          go_simp
          refine hK _ _ ?_
          clear hK K
          refine wpAny_done (by kernel_rfl) ?_ _
          go_wp2_with fail
          go_meet
          exact ⟨b1, rfl, H5.out⟩
      case rest =>
        obtain ⟨c, rfl, hI⟩ := hcut
        obtain rfl | rfl | rfl | rfl : k = 0 ∨ k = 1 ∨ k = 2 ∨ k = 3 := by omega
        · skip
          have H1 := hI.put (q := 0) (by omega) (by omega) (Vc.app a (Vc.col b 0) 0)
          have H2 := H1.put (q := 4) (by omega) (by omega) (Vc.app a (Vc.col b 0) 1)
          have H3 := H2.put (q := 8) (by omega) (by omega) (Vc.app a (Vc.col b 0) 2)
          have H4 := H3.put (q := 12) (by omega) (by omega) (Vc.app a (Vc.col b 0) 3)
          have z0 := hI.z.cell 0 (by omega); have z1 := H1.z.cell 1 (by omega); have z2 := H2.z.cell 2 (by omega); have z3 := H3.z.cell 3 (by omega)
          have p0 := hI.u.p.cell 0 (by omega); have p1 := H1.u.p.cell 4 (by omega); have p2 := H2.u.p.cell 8 (by omega); have p3 := H3.u.p.cell 12 (by omega)
          have f0 := hI.u.p.froz 0 (by omega); have f1 := hI.u.p.froz 4 (by omega); have f2 := hI.u.p.froz 8 (by omega); have f3 := hI.u.p.froz 12 (by omega)
          have HF := Lib.hid H4.u
          clear H1 H2 H3 H4 hI
          go_wp2_with fail
          go_roundw
          case rel => exact ⟨0 + 1, by omega, by go_num, HF.out.u, HF.out.p.congr fun j hj => Vc.mc_succ a b (k := 0) (by omega) hj⟩
          case measure => simp [intOf]
        · skip
          have H1 := hI.put (q := 1) (by omega) (by omega) (Vc.app a (Vc.col b 1) 0)
          have H2 := H1.put (q := 5) (by omega) (by omega) (Vc.app a (Vc.col b 1) 1)
          have H3 := H2.put (q := 9) (by omega) (by omega) (Vc.app a (Vc.col b 1) 2)
          have H4 := H3.put (q := 13) (by omega) (by omega) (Vc.app a (Vc.col b 1) 3)
          have z0 := hI.z.cell 0 (by omega); have z1 := H1.z.cell 1 (by omega); have z2 := H2.z.cell 2 (by omega); have z3 := H3.z.cell 3 (by omega)
          have p0 := hI.u.p.cell 1 (by omega); have p1 := H1.u.p.cell 5 (by omega); have p2 := H2.u.p.cell 9 (by omega); have p3 := H3.u.p.cell 13 (by omega)
          have f0 := hI.u.p.froz 1 (by omega); have f1 := hI.u.p.froz 5 (by omega); have f2 := hI.u.p.froz 9 (by omega); have f3 := hI.u.p.froz 13 (by omega)
          have HF := Lib.hid H4.u
          clear H1 H2 H3 H4 hI
          go_wp2_with fail
          go_roundw
          case rel => exact ⟨1 + 1, by omega, by go_num, HF.out.u, HF.out.p.congr fun j hj => Vc.mc_succ a b (k := 1) (by omega) hj⟩
          case measure => simp [intOf]
        · skip
          have H1 := hI.put (q := 2) (by omega) (by omega) (Vc.app a (Vc.col b 2) 0)
          have H2 := H1.put (q := 6) (by omega) (by omega) (Vc.app a (Vc.col b 2) 1)
          have H3 := H2.put (q := 10) (by omega) (by omega) (Vc.app a (Vc.col b 2) 2)
          have H4 := H3.put (q := 14) (by omega) (by omega) (Vc.app a (Vc.col b 2) 3)
          have z0 := hI.z.cell 0 (by omega); have z1 := H1.z.cell 1 (by omega); have z2 := H2.z.cell 2 (by omega); have z3 := H3.z.cell 3 (by omega)
          have p0 := hI.u.p.cell 2 (by omega); have p1 := H1.u.p.cell 6 (by omega); have p2 := H2.u.p.cell 10 (by omega); have p3 := H3.u.p.cell 14 (by omega)
          have f0 := hI.u.p.froz 2 (by omega); have f1 := hI.u.p.froz 6 (by omega); have f2 := hI.u.p.froz 10 (by omega); have f3 := hI.u.p.froz 14 (by omega)
          have HF := Lib.hid H4.u
          clear H1 H2 H3 H4 hI
          go_wp2_with fail
          go_roundw
          case rel => exact ⟨2 + 1, by omega, by go_num, HF.out.u, HF.out.p.congr fun j hj => Vc.mc_succ a b (k := 2) (by omega) hj⟩
          case measure => simp [intOf]
        · skip
          have H1 := hI.put (q := 3) (by omega) (by omega) (Vc.app a (Vc.col b 3) 0)
          have H2 := H1.put (q := 7) (by omega) (by omega) (Vc.app a (Vc.col b 3) 1)
          have H3 := H2.put (q := 11) (by omega) (by omega) (Vc.app a (Vc.col b 3) 2)
          have H4 := H3.put (q := 15) (by omega) (by omega) (Vc.app a (Vc.col b 3) 3)
          have z0 := hI.z.cell 0 (by omega); have z1 := H1.z.cell 1 (by omega); have z2 := H2.z.cell 2 (by omega); have z3 := H3.z.cell 3 (by omega)
          have p0 := hI.u.p.cell 3 (by omega); have p1 := H1.u.p.cell 7 (by omega); have p2 := H2.u.p.cell 11 (by omega); have p3 := H3.u.p.cell 15 (by omega)
          have f0 := hI.u.p.froz 3 (by omega); have f1 := hI.u.p.froz 7 (by omega); have f2 := hI.u.p.froz 11 (by omega); have f3 := hI.u.p.froz 15 (by omega)
          have HF := Lib.hid H4.u
          clear H1 H2 H3 H4 hI
          go_wp2_with fail
          go_roundw
          case rel => exact ⟨3 + 1, by omega, by go_num, HF.out.u, HF.out.p.congr fun j hj => Vc.mc_succ a b (k := 3) (by omega) hj⟩
          case measure => simp [intOf]
    · obtain rfl : k = 4 := by omega
      have HM := Lib.hid (Mc.mk HP.out.u (HP.out.p.congr (g := Vc.mul a b) fun j hj => by unfold Vc.mc; rw [if_pos (by omega)]))
      go_upto_region 10 with fail
      refine Rg.region (I := fun _ W => Mc w W a b (w.heap.size + 3) (Vc.mul a b)) (dem := fun _ => false) (m := 3) (g := 2) (T := fun listed bs a' => ∀ W, Mc w W a b (w.heap.size + 3) (Vc.mul a b) → wpAny Try.prog .any _ _ 2 listed a' W) (by kernel_rfl) (HM.out.call (Kp.refl _ _).drew) rfl (fun _ _ _ _ h hI => h _ hI) ?_
      refine Rg.take 0 (v := .agg (Vc.ar (Vc.mul a b))) rfl rfl (by kernel_rfl) (by kernel_rfl) (by kernel_rfl) (by kernel_rfl) (by kernel_rfl) (.inl ⟨rfl, fun bs wq hI => ?_⟩) ?_
      · exact quiet_ldM (b := w.heap.size + 3) (.tmp 6) rfl rfl hI.p
      simp only [Act.put, List.getElem_toArray, List.getElem_cons_zero, List.getElem_cons_succ, List.setIfInBounds_toArray, List.set_cons_zero, List.set_cons_succ]
      refine Rg.take 1 (v := .agg (Vc.ar (Vc.mul a b))) rfl rfl (by kernel_rfl) (by kernel_rfl) (by kernel_rfl) (by kernel_rfl) (by kernel_rfl) (.inl ⟨rfl, fun bs wq hI => ?_⟩) ?_
      · exact quiet_ldM (b := w.heap.size + 3) (.tmp 6) rfl rfl hI.p
      simp only [Act.put, List.getElem_toArray, List.getElem_cons_zero, List.getElem_cons_succ, List.setIfInBounds_toArray, List.set_cons_zero, List.set_cons_succ]
      refine Rg.take 2 (v := .bool (Vc.wi 16777216 (Vc.mul a b) 16)) rfl rfl (by kernel_rfl) (by kernel_rfl) (by kernel_rfl) (by kernel_rfl) (by kernel_rfl) (.inl ⟨rfl, fun bs wq hI => ?_⟩) ?_
      · (go_simp; exact (rmay_any (Vc.mul a b) _).mono fun e w2 h => ⟨h.1, hI.call h.2⟩)
      simp only [Act.put, List.getElem_toArray, List.getElem_cons_zero, List.getElem_cons_succ, List.setIfInBounds_toArray, List.set_cons_zero, List.set_cons_succ]
      refine Rg.done (rs := [3]) (by kernel_rfl) (by decide) (fun W hI => ?_)
      have HI := Lib.hid hI
      clear hI
      refine wpAny_ready (rs := [3]) (by kernel_rfl) (by simp) (AllReady.cons (o := _) rfl (fun K hK => ?_) AllReady.nil)
      refine ite_of rfl (wp_stM (.tmp 4) (.tmp 50) rfl (w.heap.size + 2) rfl (Vc.mul a b) rfl HI.out.u.r (fun w5 hr5 hs5 => hK _ _ ?_))
      clear hK K
      have HR := Lib.hid hr5
      have KK := Lib.hid (hs5.kp HI.out.u.k (by omega))
      clear hr5 hs5
      refine wpAny_ready (rs := [4]) (by kernel_rfl) (by simp) (AllReady.cons (o := _) rfl (fun K hK => ?_) AllReady.nil)
      go_simp
      refine hK _ _ ?_
      clear hK K
      refine wpAny_done (by kernel_rfl) ?_ _
      go_wp2_with fail
      exact bodyPost_ret (results_m2 rfl rfl rfl HR.out) rfl ⟨rfl, KK.out⟩
end Go.Proofs.Ytbhdmfoigilibaa
