/-
  WideSums: its Go text returns true.
-/
import Derived.Test.YtcaoikplnoipdaaWideWalks6
import Derived.Deep.DeepCutAuto
import Derived.Test.YtcaoikplnoipdaaRegionMk
namespace Go.Proofs.Ytcaoikplnoipdaa
open Go.RowKit

set_option maxHeartbeats 400000 in
theorem two_exact (h l : Int) (w : World) :
    Calls Try.prog 13 #[.int .i64 h, .int .u64 l] w fun e w' => e = .returned (.agg #[.int .i64 h, .int .u64 l]) ∧ w' = w.alloc (.cells #[.int .i64 h, .int .u64 l] 27) := by
  go_enter Try.func13, Try.ntmps13
  go_wp2
  exact bodyPost_ret (v := .agg #[.int .i64 h, .int .u64 l]) (by simp [results, Try.results13, go_sem]) rfl ⟨rfl, rfl⟩

theorem Wd.cmp_bd (x y : Int) : -1 ≤ Wd.cmp x y ∧ Wd.cmp x y ≤ 1 := by rw [Wd.cmp_eq]; (repeat' split) <;> omega
theorem Wd.cmp_refl (x : Int) : Wd.cmp x x = 0 := by rw [Wd.cmp_eq, if_pos ⟨rfl, rfl⟩]
theorem Wd.cmp_turn (x y : Int) : (Wd.cmp x y == -Wd.cmp y x) = true := by rw [beq_iff_eq, Wd.cmp_eq, Wd.cmp_eq]; (repeat' split) <;> omega

/-- what stood stands; each new block is a wide number's, of 0, and its own -/
structure Iv (W0 : World) (bs : List Nat) (W : World) : Prop where
  kp : Kp W0.heap.size W0 W
  nodup : bs.Nodup
  zero : ∀ b, b ∈ bs → Two W b 0 0
  new : ∀ b, b ∈ bs → W0.heap.size ≤ b
theorem Iv.call {W0 W W' : World} {bs : List Nat} (h : Iv W0 bs W) (k : Kp W.heap.size W W') : Iv W0 bs W' := ⟨h.kp.next k, h.nodup, fun b hb => (h.zero b hb).call k, h.new⟩
theorem Iv.make {W0 W : World} {bs : List Nat} (h : Iv W0 bs W) (t : TypeId) : Iv W0 (W.heap.size :: bs) (W.alloc (.cells #[.int .i64 0, .int .u64 0] t)) ∧ W.heap.size ∉ bs := by
  have hn : W.heap.size ∉ bs := fun hm => Nat.lt_irrefl _ (h.zero _ hm).lt
  refine ⟨⟨h.kp.next ((Kp.refl _ _).alloc (Nat.le_refl _) _ _), List.nodup_cons.2 ⟨hn, h.nodup⟩, fun b hb => ?_, fun b hb => ?_⟩, hn⟩
  · rcases List.mem_cons.1 hb with rfl | hb
    · exact Two.zero _ _ rfl
    · exact (h.zero b hb).alloc _ _
  · rcases List.mem_cons.1 hb with rfl | hb
    · exact h.kp.size
    · exact h.new b hb
/-- three of them written -/
theorem three_set {w W : World} {p q r : Nat} {X Y Z : Int} (tp : Two W p 0 0) (tq : Two W q 0 0) (tr : Two W r 0 0) (hpq : p ≠ q) (hpr : p ≠ r) (hqr : q ≠ r) (hk : Kp w.heap.size w W) (hp : w.heap.size ≤ p) (hq : w.heap.size ≤ q) (hr : w.heap.size ≤ r) :
    Two ((((((W.setCell ⟨p, 0, none⟩ (.int .i64 (Wd.hi X))).setCell ⟨p, 1, none⟩ (.int .u64 (Wd.lo X))).setCell ⟨q, 0, none⟩ (.int .i64 (Wd.hi Y))).setCell ⟨q, 1, none⟩ (.int .u64 (Wd.lo Y))).setCell ⟨r, 0, none⟩ (.int .i64 (Wd.hi Z))).setCell ⟨r, 1, none⟩ (.int .u64 (Wd.lo Z))) p 0 X ∧
    Two ((((((W.setCell ⟨p, 0, none⟩ (.int .i64 (Wd.hi X))).setCell ⟨p, 1, none⟩ (.int .u64 (Wd.lo X))).setCell ⟨q, 0, none⟩ (.int .i64 (Wd.hi Y))).setCell ⟨q, 1, none⟩ (.int .u64 (Wd.lo Y))).setCell ⟨r, 0, none⟩ (.int .i64 (Wd.hi Z))).setCell ⟨r, 1, none⟩ (.int .u64 (Wd.lo Z))) q 0 Y ∧
    Two ((((((W.setCell ⟨p, 0, none⟩ (.int .i64 (Wd.hi X))).setCell ⟨p, 1, none⟩ (.int .u64 (Wd.lo X))).setCell ⟨q, 0, none⟩ (.int .i64 (Wd.hi Y))).setCell ⟨q, 1, none⟩ (.int .u64 (Wd.lo Y))).setCell ⟨r, 0, none⟩ (.int .i64 (Wd.hi Z))).setCell ⟨r, 1, none⟩ (.int .u64 (Wd.lo Z))) r 0 Z ∧
    Kp w.heap.size w ((((((W.setCell ⟨p, 0, none⟩ (.int .i64 (Wd.hi X))).setCell ⟨p, 1, none⟩ (.int .u64 (Wd.lo X))).setCell ⟨q, 0, none⟩ (.int .i64 (Wd.hi Y))).setCell ⟨q, 1, none⟩ (.int .u64 (Wd.lo Y))).setCell ⟨r, 0, none⟩ (.int .i64 (Wd.hi Z))).setCell ⟨r, 1, none⟩ (.int .u64 (Wd.lo Z))) := by
  refine ⟨((((tp.set X).other (Ne.symm hpq) _).other (Ne.symm hpq) _).other (Ne.symm hpr) _).other (Ne.symm hpr) _, ((Two.set ((tq.other hpq _).other hpq _) Y).other (Ne.symm hqr) _).other (Ne.symm hqr) _,
    Two.set ((((tr.other hpr _).other hpr _).other hqr _).other hqr _) Z, ?_⟩
  exact (((((hk.setCell (p := ⟨p, 0, none⟩) hp _).setCell (p := ⟨p, 1, none⟩) hp _).setCell (p := ⟨q, 0, none⟩) hq _).setCell (p := ⟨q, 1, none⟩) hq _).setCell (p := ⟨r, 0, none⟩) hr _).setCell (p := ⟨r, 1, none⟩) hr _

set_option linter.unusedSimpArgs false in
set_option maxHeartbeats 40000000 in
set_option maxRecDepth 100000 in
theorem sums_walk (X Y Z : Int) (w : World) :
    Calls Try.prog 4 #[.agg #[.int .i64 (Wd.hi X), .int .i64 (Wd.hi Y), .int .i64 (Wd.hi Z)], .agg #[.int .u64 (Wd.lo X), .int .u64 (Wd.lo Y), .int .u64 (Wd.lo Z)]] w fun e w' => e = .returned (.bool true) ∧ Kp w.heap.size w w' := by
  go_enter Try.func4, Try.ntmps4
  go_upto_region 1 with fail
  go_cut [5, 6, 7] (fun s5 s6 s7 wx => ∃ p q r : Nat, s5 = .pointer (some ⟨p, 0, none⟩) ∧ s6 = .pointer (some ⟨q, 0, none⟩) ∧ s7 = .pointer (some ⟨r, 0, none⟩) ∧ Two wx p 0 X ∧ Two wx q 0 Y ∧ Two wx r 0 Z ∧ Kp w.heap.size w wx)
  case first =>
    refine Rg.region (I := Iv ((w.alloc (.cells #[.int .i64 (Wd.hi X), .int .i64 (Wd.hi Y), .int .i64 (Wd.hi Z)] 34)).alloc (.cells #[.int .u64 (Wd.lo X), .int .u64 (Wd.lo Y), .int .u64 (Wd.lo Z)] 35))) (dem := fun i => decide (15 ≤ i)) (m := 18) (g := 3) (T := fun listed bs a => ∀ w', Iv ((w.alloc (.cells #[.int .i64 (Wd.hi X), .int .i64 (Wd.hi Y), .int .i64 (Wd.hi Z)] 34)).alloc (.cells #[.int .u64 (Wd.lo X), .int .u64 (Wd.lo Y), .int .u64 (Wd.lo Z)] 35)) bs w' → wpAny Try.prog .any _ _ 3 listed a w') (by kernel_rfl) ⟨(Kp.refl _ _).drew, List.nodup_nil, (fun b hb => by cases hb), fun b hb => by cases hb⟩ rfl (fun _ _ _ _ h hI => h _ hI) ?_
    refine Rg.take 0 (v := .pointer (some ⟨w.heap.size, 0, none⟩)) rfl rfl (by kernel_rfl) (by kernel_rfl) (by kernel_rfl) (by kernel_rfl) (by kernel_rfl) (.inl ⟨rfl, fun bs w1 hI => ?_⟩) ?_
    · go_simp
    simp only [Act.put, List.setIfInBounds_toArray, List.set_cons_zero, List.set_cons_succ]
    refine Rg.take 1 (v := .int .i64 (Wd.hi X)) rfl rfl (by kernel_rfl) (by kernel_rfl) (by kernel_rfl) (by kernel_rfl) (by kernel_rfl) (.inl ⟨rfl, fun bs w1 hI => ?_⟩) ?_
    · have c := hI.kp.cells w.heap.size 0 (by simp; omega); simp at c; go_simp
    simp only [Act.put, List.setIfInBounds_toArray, List.set_cons_zero, List.set_cons_succ]
    refine Rg.take 2 (v := .pointer (some ⟨w.heap.size + 1, 0, none⟩)) rfl rfl (by kernel_rfl) (by kernel_rfl) (by kernel_rfl) (by kernel_rfl) (by kernel_rfl) (.inl ⟨rfl, fun bs w1 hI => ?_⟩) ?_
    · go_simp
    simp only [Act.put, List.setIfInBounds_toArray, List.set_cons_zero, List.set_cons_succ]
    refine Rg.take 3 (v := .int .u64 (Wd.lo X)) rfl rfl (by kernel_rfl) (by kernel_rfl) (by kernel_rfl) (by kernel_rfl) (by kernel_rfl) (.inl ⟨rfl, fun bs w1 hI => ?_⟩) ?_
    · have c := hI.kp.cells (w.heap.size + 1) 0 (by simp); simp at c; go_simp
    simp only [Act.put, List.setIfInBounds_toArray, List.set_cons_zero, List.set_cons_succ]
    refine Rg.take 4 (v := .agg #[.int .i64 (Wd.hi X), .int .u64 (Wd.lo X)]) rfl rfl (by kernel_rfl) (by kernel_rfl) (by kernel_rfl) (by kernel_rfl) (by kernel_rfl) (.inl ⟨rfl, fun bs w1 hI => ?_⟩) ?_
    · go_simp; exact (two_any _ _ _).mono fun e w2 ⟨he, hk⟩ => ⟨he, hI.call hk⟩
    simp only [Act.put, List.setIfInBounds_toArray, List.set_cons_zero, List.set_cons_succ]
    refine Rg.take 5 (v := .pointer (some ⟨w.heap.size, 1, none⟩)) rfl rfl (by kernel_rfl) (by kernel_rfl) (by kernel_rfl) (by kernel_rfl) (by kernel_rfl) (.inl ⟨rfl, fun bs w1 hI => ?_⟩) ?_
    · go_simp
    simp only [Act.put, List.setIfInBounds_toArray, List.set_cons_zero, List.set_cons_succ]
    refine Rg.take 6 (v := .int .i64 (Wd.hi Y)) rfl rfl (by kernel_rfl) (by kernel_rfl) (by kernel_rfl) (by kernel_rfl) (by kernel_rfl) (.inl ⟨rfl, fun bs w1 hI => ?_⟩) ?_
    · have c := hI.kp.cells w.heap.size 1 (by simp; omega); simp at c; go_simp
    simp only [Act.put, List.setIfInBounds_toArray, List.set_cons_zero, List.set_cons_succ]
    refine Rg.take 7 (v := .pointer (some ⟨w.heap.size + 1, 1, none⟩)) rfl rfl (by kernel_rfl) (by kernel_rfl) (by kernel_rfl) (by kernel_rfl) (by kernel_rfl) (.inl ⟨rfl, fun bs w1 hI => ?_⟩) ?_
    · go_simp
    simp only [Act.put, List.setIfInBounds_toArray, List.set_cons_zero, List.set_cons_succ]
    refine Rg.take 8 (v := .int .u64 (Wd.lo Y)) rfl rfl (by kernel_rfl) (by kernel_rfl) (by kernel_rfl) (by kernel_rfl) (by kernel_rfl) (.inl ⟨rfl, fun bs w1 hI => ?_⟩) ?_
    · have c := hI.kp.cells (w.heap.size + 1) 1 (by simp); simp at c; go_simp
    simp only [Act.put, List.setIfInBounds_toArray, List.set_cons_zero, List.set_cons_succ]
    refine Rg.take 9 (v := .agg #[.int .i64 (Wd.hi Y), .int .u64 (Wd.lo Y)]) rfl rfl (by kernel_rfl) (by kernel_rfl) (by kernel_rfl) (by kernel_rfl) (by kernel_rfl) (.inl ⟨rfl, fun bs w1 hI => ?_⟩) ?_
    · go_simp; exact (two_any _ _ _).mono fun e w2 ⟨he, hk⟩ => ⟨he, hI.call hk⟩
    simp only [Act.put, List.setIfInBounds_toArray, List.set_cons_zero, List.set_cons_succ]
    refine Rg.take 10 (v := .pointer (some ⟨w.heap.size, 2, none⟩)) rfl rfl (by kernel_rfl) (by kernel_rfl) (by kernel_rfl) (by kernel_rfl) (by kernel_rfl) (.inl ⟨rfl, fun bs w1 hI => ?_⟩) ?_
    · go_simp
    simp only [Act.put, List.setIfInBounds_toArray, List.set_cons_zero, List.set_cons_succ]
    refine Rg.take 11 (v := .int .i64 (Wd.hi Z)) rfl rfl (by kernel_rfl) (by kernel_rfl) (by kernel_rfl) (by kernel_rfl) (by kernel_rfl) (.inl ⟨rfl, fun bs w1 hI => ?_⟩) ?_
    · have c := hI.kp.cells w.heap.size 2 (by simp; omega); simp at c; go_simp
    simp only [Act.put, List.setIfInBounds_toArray, List.set_cons_zero, List.set_cons_succ]
    refine Rg.take 12 (v := .pointer (some ⟨w.heap.size + 1, 2, none⟩)) rfl rfl (by kernel_rfl) (by kernel_rfl) (by kernel_rfl) (by kernel_rfl) (by kernel_rfl) (.inl ⟨rfl, fun bs w1 hI => ?_⟩) ?_
    · go_simp
    simp only [Act.put, List.setIfInBounds_toArray, List.set_cons_zero, List.set_cons_succ]
    refine Rg.take 13 (v := .int .u64 (Wd.lo Z)) rfl rfl (by kernel_rfl) (by kernel_rfl) (by kernel_rfl) (by kernel_rfl) (by kernel_rfl) (.inl ⟨rfl, fun bs w1 hI => ?_⟩) ?_
    · have c := hI.kp.cells (w.heap.size + 1) 2 (by simp); simp at c; go_simp
    simp only [Act.put, List.setIfInBounds_toArray, List.set_cons_zero, List.set_cons_succ]
    refine Rg.take 14 (v := .agg #[.int .i64 (Wd.hi Z), .int .u64 (Wd.lo Z)]) rfl rfl (by kernel_rfl) (by kernel_rfl) (by kernel_rfl) (by kernel_rfl) (by kernel_rfl) (.inl ⟨rfl, fun bs w1 hI => ?_⟩) ?_
    · go_simp; exact (two_any _ _ _).mono fun e w2 ⟨he, hk⟩ => ⟨he, hI.call hk⟩
    simp only [Act.put, List.setIfInBounds_toArray, List.set_cons_zero, List.set_cons_succ]
    have hmk : ∀ (a : Act) (o : Oper), o.op = .alloc 27 → ∀ bs W, Iv ((w.alloc (.cells #[.int .i64 (Wd.hi X), .int .i64 (Wd.hi Y), .int .i64 (Wd.hi Z)] 34)).alloc (.cells #[.int .u64 (Wd.lo X), .int .u64 (Wd.lo Y), .int .u64 (Wd.lo Z)] 35)) bs W → ∃ w1, (execOp a.eval o).run Try.prog W = .ok (.value (.pointer (some ⟨W.heap.size, 0, none⟩))) w1 ∧ Iv ((w.alloc (.cells #[.int .i64 (Wd.hi X), .int .i64 (Wd.hi Y), .int .i64 (Wd.hi Z)] 34)).alloc (.cells #[.int .u64 (Wd.lo X), .int .u64 (Wd.lo Y), .int .u64 (Wd.lo Z)] 35)) (W.heap.size :: bs) w1 ∧ W.heap.size ∉ bs := by
      intro a o ho bs W hI
      refine ⟨W.alloc (.cells #[.int .i64 0, .int .u64 0] 27), ?_, (hI.make 27).1, (hI.make 27).2⟩
      simp [execOp, ho, go_sem]
    have hk0 : Kp w.heap.size w ((w.alloc (.cells #[.int .i64 (Wd.hi X), .int .i64 (Wd.hi Y), .int .i64 (Wd.hi Z)] 34)).alloc (.cells #[.int .u64 (Wd.lo X), .int .u64 (Wd.lo Y), .int .u64 (Wd.lo Z)] 35)) := ((Kp.refl _ _).alloc (Nat.le_refl _) _ _).alloc (by simp) _ _
    have HK0 := Lib.hid hk0
    clear hk0
    refine Rg.made (rs := [15, 16, 17]) (by kernel_rfl) (by simp) (fun i hi => ?_)
    simp only [List.mem_cons, List.not_mem_nil, or_false] at hi
    rcases hi with rfl | rfl | rfl
    · refine Rg.up_made rfl rfl (fun a => ⟨rfl, hmk a _ rfl⟩) (fun b1 _ => ?_)
      simp only [Act.put, List.setIfInBounds_toArray, List.set_cons_zero, List.set_cons_succ]
      refine Rg.made (rs := [16, 17]) (by kernel_rfl) (by simp) (fun i hi => ?_)
      simp only [List.mem_cons, List.not_mem_nil, or_false] at hi
      rcases hi with rfl | rfl
      · refine Rg.up_made rfl rfl (fun a => ⟨rfl, hmk a _ rfl⟩) (fun b2 _ => ?_)
        simp only [Act.put, List.setIfInBounds_toArray, List.set_cons_zero, List.set_cons_succ]
        refine Rg.made (rs := [17]) (by kernel_rfl) (by simp) (fun i hi => ?_)
        simp only [List.mem_cons, List.not_mem_nil, or_false] at hi
        subst hi
        · refine Rg.up_made rfl rfl (fun a => ⟨rfl, hmk a _ rfl⟩) (fun b3 _ => ?_)
          simp only [Act.put, List.setIfInBounds_toArray, List.set_cons_zero, List.set_cons_succ]
          refine Rg.done (rs := [18]) (by kernel_rfl) (by decide) (fun w' hI => ?_)
          have z1 := hI.zero b1 (by simp); have z2 := hI.zero b2 (by simp); have z3 := hI.zero b3 (by simp)
          have y1 := hI.new b1 (by simp); have y2 := hI.new b2 (by simp); have y3 := hI.new b3 (by simp)
          have nd := hI.nodup
          simp at nd y1 y2 y3
          have n12 : ¬ b1 = b2 := by omega
          have n13 : ¬ b1 = b3 := by omega
          have n23 : ¬ b2 = b3 := by omega
          have n21 : ¬ b2 = b1 := by omega
          have n31 : ¬ b3 = b1 := by omega
          have n32 : ¬ b3 = b2 := by omega
          have e1 := z1.h; have e2 := z1.l; have e3 := z1.fh; have e4 := z1.fl
          have f1 := z2.h; have f2 := z2.l; have f3 := z2.fh; have f4 := z2.fl
          have g1 := z3.h; have g2 := z3.l; have g3 := z3.fh; have g4 := z3.fl
          have Z1 := Lib.hid z1; have Z2 := Lib.hid z2; have Z3 := Lib.hid z3; have KK := Lib.hid (HK0.out.trans (hI.kp.mono (by simp; omega)))
          clear z1 z2 z3 hI nd
          refine wpAny_ready (rs := [18]) (by kernel_rfl) (by simp) (AllReady.cons (o := _) rfl (fun K hK => ?_) AllReady.nil)
          go_simp
          refine hK _ _ ?_
          clear hK K
          refine wpAny_ready (rs := [19]) (by kernel_rfl) (by simp) (AllReady.cons (o := _) rfl (fun K hK => ?_) AllReady.nil)
          go_simp
          refine hK _ _ ?_
          clear hK K
          refine wpAny_ready (rs := [20]) (by kernel_rfl) (by simp) (AllReady.cons (o := _) rfl (fun K hK => ?_) AllReady.nil)
          go_simp
          refine hK _ _ ?_
          clear hK K
          refine wpAny_done (by kernel_rfl) ?_ _
          go_wp2_with fail
          go_meet
          refine ⟨_, _, _, rfl, rfl, rfl, ?_⟩
          first
            | exact three_set Z1.out Z2.out Z3.out n12 n13 n23 KK.out (by omega) (by omega) (by omega)
            | exact three_set Z1.out Z3.out Z2.out n13 n12 n32 KK.out (by omega) (by omega) (by omega)
            | exact three_set Z2.out Z1.out Z3.out n21 n23 n13 KK.out (by omega) (by omega) (by omega)
            | exact three_set Z2.out Z3.out Z1.out n23 n21 n31 KK.out (by omega) (by omega) (by omega)
            | exact three_set Z3.out Z1.out Z2.out n31 n32 n12 KK.out (by omega) (by omega) (by omega)
            | exact three_set Z3.out Z2.out Z1.out n32 n31 n21 KK.out (by omega) (by omega) (by omega)
      · refine Rg.up_made rfl rfl (fun a => ⟨rfl, hmk a _ rfl⟩) (fun b2 _ => ?_)
        simp only [Act.put, List.setIfInBounds_toArray, List.set_cons_zero, List.set_cons_succ]
        refine Rg.made (rs := [16]) (by kernel_rfl) (by simp) (fun i hi => ?_)
        simp only [List.mem_cons, List.not_mem_nil, or_false] at hi
        subst hi
        · refine Rg.up_made rfl rfl (fun a => ⟨rfl, hmk a _ rfl⟩) (fun b3 _ => ?_)
          simp only [Act.put, List.setIfInBounds_toArray, List.set_cons_zero, List.set_cons_succ]
          refine Rg.done (rs := [18]) (by kernel_rfl) (by decide) (fun w' hI => ?_)
          have z1 := hI.zero b1 (by simp); have z2 := hI.zero b2 (by simp); have z3 := hI.zero b3 (by simp)
          have y1 := hI.new b1 (by simp); have y2 := hI.new b2 (by simp); have y3 := hI.new b3 (by simp)
          have nd := hI.nodup
          simp at nd y1 y2 y3
          have n12 : ¬ b1 = b2 := by omega
          have n13 : ¬ b1 = b3 := by omega
          have n23 : ¬ b2 = b3 := by omega
          have n21 : ¬ b2 = b1 := by omega
          have n31 : ¬ b3 = b1 := by omega
          have n32 : ¬ b3 = b2 := by omega
          have e1 := z1.h; have e2 := z1.l; have e3 := z1.fh; have e4 := z1.fl
          have f1 := z2.h; have f2 := z2.l; have f3 := z2.fh; have f4 := z2.fl
          have g1 := z3.h; have g2 := z3.l; have g3 := z3.fh; have g4 := z3.fl
          have Z1 := Lib.hid z1; have Z2 := Lib.hid z2; have Z3 := Lib.hid z3; have KK := Lib.hid (HK0.out.trans (hI.kp.mono (by simp; omega)))
          clear z1 z2 z3 hI nd
          refine wpAny_ready (rs := [18]) (by kernel_rfl) (by simp) (AllReady.cons (o := _) rfl (fun K hK => ?_) AllReady.nil)
          go_simp
          refine hK _ _ ?_
          clear hK K
          refine wpAny_ready (rs := [19]) (by kernel_rfl) (by simp) (AllReady.cons (o := _) rfl (fun K hK => ?_) AllReady.nil)
          go_simp
          refine hK _ _ ?_
          clear hK K
          refine wpAny_ready (rs := [20]) (by kernel_rfl) (by simp) (AllReady.cons (o := _) rfl (fun K hK => ?_) AllReady.nil)
          go_simp
          refine hK _ _ ?_
          clear hK K
          refine wpAny_done (by kernel_rfl) ?_ _
          go_wp2_with fail
          go_meet
          refine ⟨_, _, _, rfl, rfl, rfl, ?_⟩
          first
            | exact three_set Z1.out Z2.out Z3.out n12 n13 n23 KK.out (by omega) (by omega) (by omega)
            | exact three_set Z1.out Z3.out Z2.out n13 n12 n32 KK.out (by omega) (by omega) (by omega)
            | exact three_set Z2.out Z1.out Z3.out n21 n23 n13 KK.out (by omega) (by omega) (by omega)
            | exact three_set Z2.out Z3.out Z1.out n23 n21 n31 KK.out (by omega) (by omega) (by omega)
            | exact three_set Z3.out Z1.out Z2.out n31 n32 n12 KK.out (by omega) (by omega) (by omega)
            | exact three_set Z3.out Z2.out Z1.out n32 n31 n21 KK.out (by omega) (by omega) (by omega)
    · refine Rg.up_made rfl rfl (fun a => ⟨rfl, hmk a _ rfl⟩) (fun b1 _ => ?_)
      simp only [Act.put, List.setIfInBounds_toArray, List.set_cons_zero, List.set_cons_succ]
      refine Rg.made (rs := [15, 17]) (by kernel_rfl) (by simp) (fun i hi => ?_)
      simp only [List.mem_cons, List.not_mem_nil, or_false] at hi
      rcases hi with rfl | rfl
      · refine Rg.up_made rfl rfl (fun a => ⟨rfl, hmk a _ rfl⟩) (fun b2 _ => ?_)
        simp only [Act.put, List.setIfInBounds_toArray, List.set_cons_zero, List.set_cons_succ]
        refine Rg.made (rs := [17]) (by kernel_rfl) (by simp) (fun i hi => ?_)
        simp only [List.mem_cons, List.not_mem_nil, or_false] at hi
        subst hi
        · refine Rg.up_made rfl rfl (fun a => ⟨rfl, hmk a _ rfl⟩) (fun b3 _ => ?_)
          simp only [Act.put, List.setIfInBounds_toArray, List.set_cons_zero, List.set_cons_succ]
          refine Rg.done (rs := [18]) (by kernel_rfl) (by decide) (fun w' hI => ?_)
          have z1 := hI.zero b1 (by simp); have z2 := hI.zero b2 (by simp); have z3 := hI.zero b3 (by simp)
          have y1 := hI.new b1 (by simp); have y2 := hI.new b2 (by simp); have y3 := hI.new b3 (by simp)
          have nd := hI.nodup
          simp at nd y1 y2 y3
          have n12 : ¬ b1 = b2 := by omega
          have n13 : ¬ b1 = b3 := by omega
          have n23 : ¬ b2 = b3 := by omega
          have n21 : ¬ b2 = b1 := by omega
          have n31 : ¬ b3 = b1 := by omega
          have n32 : ¬ b3 = b2 := by omega
          have e1 := z1.h; have e2 := z1.l; have e3 := z1.fh; have e4 := z1.fl
          have f1 := z2.h; have f2 := z2.l; have f3 := z2.fh; have f4 := z2.fl
          have g1 := z3.h; have g2 := z3.l; have g3 := z3.fh; have g4 := z3.fl
          have Z1 := Lib.hid z1; have Z2 := Lib.hid z2; have Z3 := Lib.hid z3; have KK := Lib.hid (HK0.out.trans (hI.kp.mono (by simp; omega)))
          clear z1 z2 z3 hI nd
          refine wpAny_ready (rs := [18]) (by kernel_rfl) (by simp) (AllReady.cons (o := _) rfl (fun K hK => ?_) AllReady.nil)
          go_simp
          refine hK _ _ ?_
          clear hK K
          refine wpAny_ready (rs := [19]) (by kernel_rfl) (by simp) (AllReady.cons (o := _) rfl (fun K hK => ?_) AllReady.nil)
          go_simp
          refine hK _ _ ?_
          clear hK K
          refine wpAny_ready (rs := [20]) (by kernel_rfl) (by simp) (AllReady.cons (o := _) rfl (fun K hK => ?_) AllReady.nil)
          go_simp
          refine hK _ _ ?_
          clear hK K
          refine wpAny_done (by kernel_rfl) ?_ _
          go_wp2_with fail
          go_meet
          refine ⟨_, _, _, rfl, rfl, rfl, ?_⟩
          first
            | exact three_set Z1.out Z2.out Z3.out n12 n13 n23 KK.out (by omega) (by omega) (by omega)
            | exact three_set Z1.out Z3.out Z2.out n13 n12 n32 KK.out (by omega) (by omega) (by omega)
            | exact three_set Z2.out Z1.out Z3.out n21 n23 n13 KK.out (by omega) (by omega) (by omega)
            | exact three_set Z2.out Z3.out Z1.out n23 n21 n31 KK.out (by omega) (by omega) (by omega)
            | exact three_set Z3.out Z1.out Z2.out n31 n32 n12 KK.out (by omega) (by omega) (by omega)
            | exact three_set Z3.out Z2.out Z1.out n32 n31 n21 KK.out (by omega) (by omega) (by omega)
      · refine Rg.up_made rfl rfl (fun a => ⟨rfl, hmk a _ rfl⟩) (fun b2 _ => ?_)
        simp only [Act.put, List.setIfInBounds_toArray, List.set_cons_zero, List.set_cons_succ]
        refine Rg.made (rs := [15]) (by kernel_rfl) (by simp) (fun i hi => ?_)
        simp only [List.mem_cons, List.not_mem_nil, or_false] at hi
        subst hi
        · refine Rg.up_made rfl rfl (fun a => ⟨rfl, hmk a _ rfl⟩) (fun b3 _ => ?_)
          simp only [Act.put, List.setIfInBounds_toArray, List.set_cons_zero, List.set_cons_succ]
          refine Rg.done (rs := [18]) (by kernel_rfl) (by decide) (fun w' hI => ?_)
          have z1 := hI.zero b1 (by simp); have z2 := hI.zero b2 (by simp); have z3 := hI.zero b3 (by simp)
          have y1 := hI.new b1 (by simp); have y2 := hI.new b2 (by simp); have y3 := hI.new b3 (by simp)
          have nd := hI.nodup
          simp at nd y1 y2 y3
          have n12 : ¬ b1 = b2 := by omega
          have n13 : ¬ b1 = b3 := by omega
          have n23 : ¬ b2 = b3 := by omega
          have n21 : ¬ b2 = b1 := by omega
          have n31 : ¬ b3 = b1 := by omega
          have n32 : ¬ b3 = b2 := by omega
          have e1 := z1.h; have e2 := z1.l; have e3 := z1.fh; have e4 := z1.fl
          have f1 := z2.h; have f2 := z2.l; have f3 := z2.fh; have f4 := z2.fl
          have g1 := z3.h; have g2 := z3.l; have g3 := z3.fh; have g4 := z3.fl
          have Z1 := Lib.hid z1; have Z2 := Lib.hid z2; have Z3 := Lib.hid z3; have KK := Lib.hid (HK0.out.trans (hI.kp.mono (by simp; omega)))
          clear z1 z2 z3 hI nd
          refine wpAny_ready (rs := [18]) (by kernel_rfl) (by simp) (AllReady.cons (o := _) rfl (fun K hK => ?_) AllReady.nil)
          go_simp
          refine hK _ _ ?_
          clear hK K
          refine wpAny_ready (rs := [19]) (by kernel_rfl) (by simp) (AllReady.cons (o := _) rfl (fun K hK => ?_) AllReady.nil)
          go_simp
          refine hK _ _ ?_
          clear hK K
          refine wpAny_ready (rs := [20]) (by kernel_rfl) (by simp) (AllReady.cons (o := _) rfl (fun K hK => ?_) AllReady.nil)
          go_simp
          refine hK _ _ ?_
          clear hK K
          refine wpAny_done (by kernel_rfl) ?_ _
          go_wp2_with fail
          go_meet
          refine ⟨_, _, _, rfl, rfl, rfl, ?_⟩
          first
            | exact three_set Z1.out Z2.out Z3.out n12 n13 n23 KK.out (by omega) (by omega) (by omega)
            | exact three_set Z1.out Z3.out Z2.out n13 n12 n32 KK.out (by omega) (by omega) (by omega)
            | exact three_set Z2.out Z1.out Z3.out n21 n23 n13 KK.out (by omega) (by omega) (by omega)
            | exact three_set Z2.out Z3.out Z1.out n23 n21 n31 KK.out (by omega) (by omega) (by omega)
            | exact three_set Z3.out Z1.out Z2.out n31 n32 n12 KK.out (by omega) (by omega) (by omega)
            | exact three_set Z3.out Z2.out Z1.out n32 n31 n21 KK.out (by omega) (by omega) (by omega)
    · refine Rg.up_made rfl rfl (fun a => ⟨rfl, hmk a _ rfl⟩) (fun b1 _ => ?_)
      simp only [Act.put, List.setIfInBounds_toArray, List.set_cons_zero, List.set_cons_succ]
      refine Rg.made (rs := [15, 16]) (by kernel_rfl) (by simp) (fun i hi => ?_)
      simp only [List.mem_cons, List.not_mem_nil, or_false] at hi
      rcases hi with rfl | rfl
      · refine Rg.up_made rfl rfl (fun a => ⟨rfl, hmk a _ rfl⟩) (fun b2 _ => ?_)
        simp only [Act.put, List.setIfInBounds_toArray, List.set_cons_zero, List.set_cons_succ]
        refine Rg.made (rs := [16]) (by kernel_rfl) (by simp) (fun i hi => ?_)
        simp only [List.mem_cons, List.not_mem_nil, or_false] at hi
        subst hi
        · refine Rg.up_made rfl rfl (fun a => ⟨rfl, hmk a _ rfl⟩) (fun b3 _ => ?_)
          simp only [Act.put, List.setIfInBounds_toArray, List.set_cons_zero, List.set_cons_succ]
          refine Rg.done (rs := [18]) (by kernel_rfl) (by decide) (fun w' hI => ?_)
          have z1 := hI.zero b1 (by simp); have z2 := hI.zero b2 (by simp); have z3 := hI.zero b3 (by simp)
          have y1 := hI.new b1 (by simp); have y2 := hI.new b2 (by simp); have y3 := hI.new b3 (by simp)
          have nd := hI.nodup
          simp at nd y1 y2 y3
          have n12 : ¬ b1 = b2 := by omega
          have n13 : ¬ b1 = b3 := by omega
          have n23 : ¬ b2 = b3 := by omega
          have n21 : ¬ b2 = b1 := by omega
          have n31 : ¬ b3 = b1 := by omega
          have n32 : ¬ b3 = b2 := by omega
          have e1 := z1.h; have e2 := z1.l; have e3 := z1.fh; have e4 := z1.fl
          have f1 := z2.h; have f2 := z2.l; have f3 := z2.fh; have f4 := z2.fl
          have g1 := z3.h; have g2 := z3.l; have g3 := z3.fh; have g4 := z3.fl
          have Z1 := Lib.hid z1; have Z2 := Lib.hid z2; have Z3 := Lib.hid z3; have KK := Lib.hid (HK0.out.trans (hI.kp.mono (by simp; omega)))
          clear z1 z2 z3 hI nd
          refine wpAny_ready (rs := [18]) (by kernel_rfl) (by simp) (AllReady.cons (o := _) rfl (fun K hK => ?_) AllReady.nil)
          go_simp
          refine hK _ _ ?_
          clear hK K
          refine wpAny_ready (rs := [19]) (by kernel_rfl) (by simp) (AllReady.cons (o := _) rfl (fun K hK => ?_) AllReady.nil)
          go_simp
          refine hK _ _ ?_
          clear hK K
          refine wpAny_ready (rs := [20]) (by kernel_rfl) (by simp) (AllReady.cons (o := _) rfl (fun K hK => ?_) AllReady.nil)
          go_simp
          refine hK _ _ ?_
          clear hK K
          refine wpAny_done (by kernel_rfl) ?_ _
          go_wp2_with fail
          go_meet
          refine ⟨_, _, _, rfl, rfl, rfl, ?_⟩
          first
            | exact three_set Z1.out Z2.out Z3.out n12 n13 n23 KK.out (by omega) (by omega) (by omega)
            | exact three_set Z1.out Z3.out Z2.out n13 n12 n32 KK.out (by omega) (by omega) (by omega)
            | exact three_set Z2.out Z1.out Z3.out n21 n23 n13 KK.out (by omega) (by omega) (by omega)
            | exact three_set Z2.out Z3.out Z1.out n23 n21 n31 KK.out (by omega) (by omega) (by omega)
            | exact three_set Z3.out Z1.out Z2.out n31 n32 n12 KK.out (by omega) (by omega) (by omega)
            | exact three_set Z3.out Z2.out Z1.out n32 n31 n21 KK.out (by omega) (by omega) (by omega)
      · refine Rg.up_made rfl rfl (fun a => ⟨rfl, hmk a _ rfl⟩) (fun b2 _ => ?_)
        simp only [Act.put, List.setIfInBounds_toArray, List.set_cons_zero, List.set_cons_succ]
        refine Rg.made (rs := [15]) (by kernel_rfl) (by simp) (fun i hi => ?_)
        simp only [List.mem_cons, List.not_mem_nil, or_false] at hi
        subst hi
        · refine Rg.up_made rfl rfl (fun a => ⟨rfl, hmk a _ rfl⟩) (fun b3 _ => ?_)
          simp only [Act.put, List.setIfInBounds_toArray, List.set_cons_zero, List.set_cons_succ]
          refine Rg.done (rs := [18]) (by kernel_rfl) (by decide) (fun w' hI => ?_)
          have z1 := hI.zero b1 (by simp); have z2 := hI.zero b2 (by simp); have z3 := hI.zero b3 (by simp)
          have y1 := hI.new b1 (by simp); have y2 := hI.new b2 (by simp); have y3 := hI.new b3 (by simp)
          have nd := hI.nodup
          simp at nd y1 y2 y3
          have n12 : ¬ b1 = b2 := by omega
          have n13 : ¬ b1 = b3 := by omega
          have n23 : ¬ b2 = b3 := by omega
          have n21 : ¬ b2 = b1 := by omega
          have n31 : ¬ b3 = b1 := by omega
          have n32 : ¬ b3 = b2 := by omega
          have e1 := z1.h; have e2 := z1.l; have e3 := z1.fh; have e4 := z1.fl
          have f1 := z2.h; have f2 := z2.l; have f3 := z2.fh; have f4 := z2.fl
          have g1 := z3.h; have g2 := z3.l; have g3 := z3.fh; have g4 := z3.fl
          have Z1 := Lib.hid z1; have Z2 := Lib.hid z2; have Z3 := Lib.hid z3; have KK := Lib.hid (HK0.out.trans (hI.kp.mono (by simp; omega)))
          clear z1 z2 z3 hI nd
          refine wpAny_ready (rs := [18]) (by kernel_rfl) (by simp) (AllReady.cons (o := _) rfl (fun K hK => ?_) AllReady.nil)
          go_simp
          refine hK _ _ ?_
          clear hK K
          refine wpAny_ready (rs := [19]) (by kernel_rfl) (by simp) (AllReady.cons (o := _) rfl (fun K hK => ?_) AllReady.nil)
          go_simp
          refine hK _ _ ?_
          clear hK K
          refine wpAny_ready (rs := [20]) (by kernel_rfl) (by simp) (AllReady.cons (o := _) rfl (fun K hK => ?_) AllReady.nil)
          go_simp
          refine hK _ _ ?_
          clear hK K
          refine wpAny_done (by kernel_rfl) ?_ _
          go_wp2_with fail
          go_meet
          refine ⟨_, _, _, rfl, rfl, rfl, ?_⟩
          first
            | exact three_set Z1.out Z2.out Z3.out n12 n13 n23 KK.out (by omega) (by omega) (by omega)
            | exact three_set Z1.out Z3.out Z2.out n13 n12 n32 KK.out (by omega) (by omega) (by omega)
            | exact three_set Z2.out Z1.out Z3.out n21 n23 n13 KK.out (by omega) (by omega) (by omega)
            | exact three_set Z2.out Z3.out Z1.out n23 n21 n31 KK.out (by omega) (by omega) (by omega)
            | exact three_set Z3.out Z1.out Z2.out n31 n32 n12 KK.out (by omega) (by omega) (by omega)
            | exact three_set Z3.out Z2.out Z1.out n32 n31 n21 KK.out (by omega) (by omega) (by omega)
  case rest =>
    obtain ⟨p, q, r, rfl, rfl, rfl, tp, tq, tr, kc⟩ := hcut
    have hE := run_eqD_same
    have cp1 := tp.h; have cp2 := tp.l; have cq1 := tq.h; have cq2 := tq.l; have cr1 := tr.h; have cr2 := tr.l
    have TP := Lib.hid tp.drew; have TQ := Lib.hid tq.drew; have TR := Lib.hid tr.drew; have KC := Lib.hid kc.drew
    clear tp tq tr kc
    go_wp2_with fail
    go_region_held3 (fun w' => w'.cell? ⟨p, 0, none⟩ = some (.int .i64 (Wd.hi X)) ∧ w'.cell? ⟨p, 1, none⟩ = some (.int .u64 (Wd.lo X)) ∧ w'.cell? ⟨q, 0, none⟩ = some (.int .i64 (Wd.hi Y)) ∧ w'.cell? ⟨q, 1, none⟩ = some (.int .u64 (Wd.lo Y))) (exact ⟨cp1, cp2, cq1, cq2⟩)
      (first
        | (go_at_call 14; (with_reducible refine (add_any _ _ _).mono ?_); rintro e w' ⟨rfl, hk⟩; have tp := TP.out.call hk; have tq := TQ.out.call hk; have tr := TR.out.call hk; have kn := KC.out.next hk; clear TP TQ TR KC cp1 cp2 cq1 cq2 cr1 cr2 hk; have cp1 := tp.h; have cp2 := tp.l; have cq1 := tq.h; have cq2 := tq.l; have cr1 := tr.h; have cr2 := tr.l; have TP := Lib.hid tp; have TQ := Lib.hid tq; have TR := Lib.hid tr; have KC := Lib.hid kn; clear tp tq tr kn)
        | (go_at_call 7; (with_reducible refine (d_any _ _).mono ?_); rintro e w' ⟨rfl, hk⟩; have tp := TP.out.call hk; have tq := TQ.out.call hk; have tr := TR.out.call hk; have kn := KC.out.next hk; clear TP TQ TR KC cp1 cp2 cq1 cq2 cr1 cr2 hk; have cp1 := tp.h; have cp2 := tp.l; have cq1 := tq.h; have cq2 := tq.l; have cr1 := tr.h; have cr2 := tr.l; have TP := Lib.hid tp; have TQ := Lib.hid tq; have TR := Lib.hid tr; have KC := Lib.hid kn; clear tp tq tr kn)
        | (go_at_call 15; (with_reducible refine (radd_any _ _ _).mono ?_); rintro e w' ⟨rfl, hk⟩; have tp := TP.out.call hk; have tq := TQ.out.call hk; have tr := TR.out.call hk; have kn := KC.out.next hk; clear TP TQ TR KC cp1 cp2 cq1 cq2 cr1 cr2 hk; have cp1 := tp.h; have cp2 := tp.l; have cq1 := tq.h; have cq2 := tq.l; have cr1 := tr.h; have cr2 := tr.l; have TP := Lib.hid tp; have TQ := Lib.hid tq; have TR := Lib.hid tr; have KC := Lib.hid kn; clear tp tq tr kn)
        | (go_at_call 16; (with_reducible refine (neg_any _ _).mono ?_); rintro e w' ⟨rfl, hk⟩; have tp := TP.out.call hk; have tq := TQ.out.call hk; have tr := TR.out.call hk; have kn := KC.out.next hk; clear TP TQ TR KC cp1 cp2 cq1 cq2 cr1 cr2 hk; have cp1 := tp.h; have cp2 := tp.l; have cq1 := tq.h; have cq2 := tq.l; have cr1 := tr.h; have cr2 := tr.l; have TP := Lib.hid tp; have TQ := Lib.hid tq; have TR := Lib.hid tr; have KC := Lib.hid kn; clear tp tq tr kn)
        | (go_at_call 17; (with_reducible refine (rneg_any _ _).mono ?_); rintro e w' ⟨rfl, hk⟩; have tp := TP.out.call hk; have tq := TQ.out.call hk; have tr := TR.out.call hk; have kn := KC.out.next hk; clear TP TQ TR KC cp1 cp2 cq1 cq2 cr1 cr2 hk; have cp1 := tp.h; have cp2 := tp.l; have cq1 := tq.h; have cq2 := tq.l; have cr1 := tr.h; have cr2 := tr.l; have TP := Lib.hid tp; have TQ := Lib.hid tq; have TR := Lib.hid tr; have KC := Lib.hid kn; clear tp tq tr kn)
        | (go_at_call 18; (with_reducible refine (cmp_any _ _ _).mono ?_); rintro e w' ⟨rfl, hk⟩; have tp := TP.out.call hk; have tq := TQ.out.call hk; have tr := TR.out.call hk; have kn := KC.out.next hk; clear TP TQ TR KC cp1 cp2 cq1 cq2 cr1 cr2 hk; have cp1 := tp.h; have cp2 := tp.l; have cq1 := tq.h; have cq2 := tq.l; have cr1 := tr.h; have cr2 := tr.l; have TP := Lib.hid tp; have TQ := Lib.hid tq; have TR := Lib.hid tr; have KC := Lib.hid kn; clear tp tq tr kn)
        | (go_at_call 19; (with_reducible refine (rcmp_any _ _ _).mono ?_); rintro e w' ⟨rfl, hk⟩; have tp := TP.out.call hk; have tq := TQ.out.call hk; have tr := TR.out.call hk; have kn := KC.out.next hk; clear TP TQ TR KC cp1 cp2 cq1 cq2 cr1 cr2 hk; have cp1 := tp.h; have cp2 := tp.l; have cq1 := tq.h; have cq2 := tq.l; have cr1 := tr.h; have cr2 := tr.l; have TP := Lib.hid tp; have TQ := Lib.hid tq; have TR := Lib.hid tr; have KC := Lib.hid kn; clear tp tq tr kn))
    go_wp2_with fail
    have lp := TP.out.lt; have lq := TQ.out.lt; have lr := TR.out.lt
    have bx := Wd.cmp_bd Y X
    have hcc := Wd.cmp_refl X
    have hcs := Wd.cmp_turn X Y
    have hcw : IntKind.i64.wrap (-Wd.cmp Y X) = -Wd.cmp Y X := by rw [IntKind.wrap_i64]; omega
    have t0p := TP.out.drew; have t0q := TQ.out.drew; have t0r := TR.out.drew; have k0 := KC.out.drew
    clear TP TQ TR KC
    have TP := Lib.hid t0p; have TQ := Lib.hid t0q; have TR := Lib.hid t0r; have KC := Lib.hid k0
    clear t0p t0q t0r k0
    obtain ⟨s2, h2⟩ : ∃ s2, s2 = X + Y := ⟨_, rfl⟩
    obtain ⟨s3, h3⟩ : ∃ s3, s3 = s2 + Z := ⟨_, rfl⟩
    have H2 := Lib.hid h2; have H3 := Lib.hid h3
    have H0 : Hid ((0 : Int) = X + -X) := by show (0 : Int) = X + -X; omega
    clear h2 h3
    go_region_held3 (fun w' => w'.cell? ⟨p, 0, none⟩ = some (.int .i64 (Wd.hi X)) ∧ w'.cell? ⟨p, 1, none⟩ = some (.int .u64 (Wd.lo X)) ∧ w'.cell? ⟨q, 0, none⟩ = some (.int .i64 (Wd.hi Y)) ∧ w'.cell? ⟨q, 1, none⟩ = some (.int .u64 (Wd.lo Y)) ∧ w'.cell? ⟨r, 0, none⟩ = some (.int .i64 (Wd.hi Z)) ∧ w'.cell? ⟨r, 1, none⟩ = some (.int .u64 (Wd.lo Z))) (first | exact ⟨cp1, cp2, cq1, cq2, cr1, cr2⟩ | simp [go_sem, World.cell?_alloc_past, *])
      (first
        | (go_at_call_of 20 (Value.slice none 0 0); (with_reducible refine (sum_none _).mono ?_); rintro e w' ⟨rfl, hk⟩; have tp := TP.out.call hk; have tq := TQ.out.call hk; have tr := TR.out.call hk; have kn := KC.out.next hk; clear TP TQ TR KC cp1 cp2 cq1 cq2 cr1 cr2 hk; have cp1 := tp.h; have cp2 := tp.l; have cq1 := tq.h; have cq2 := tq.l; have cr1 := tr.h; have cr2 := tr.l; have TP := Lib.hid tp; have TQ := Lib.hid tq; have TR := Lib.hid tr; have KC := Lib.hid kn; clear tp tq tr kn)
        | (go_at_call 20; refine (sum_three X Y Z s2 s3 _ _ H2.out H3.out ?_ ?_ ?_).mono ?_; exact ⟨by simp [go_sem], by simp [go_sem], by simp [go_sem], by simp [go_sem]⟩; exact ⟨by simp [go_sem], by simp [go_sem], by simp [go_sem], by simp [go_sem]⟩; exact ⟨by simp [go_sem], by simp [go_sem], by simp [go_sem], by simp [go_sem]⟩; rintro e w' ⟨rfl, hk⟩; have tp := (TP.out.alloc _ _).call hk; have tq := (TQ.out.alloc _ _).call hk; have tr := (TR.out.alloc _ _).call hk; have kn := (KC.out.alloc KC.out.size _ _).next hk; clear TP TQ TR KC cp1 cp2 cq1 cq2 cr1 cr2 hk; have cp1 := tp.h; have cp2 := tp.l; have cq1 := tq.h; have cq2 := tq.l; have cr1 := tr.h; have cr2 := tr.l; have TP := Lib.hid tp; have TQ := Lib.hid tq; have TR := Lib.hid tr; have KC := Lib.hid kn; clear tp tq tr kn)
        | (go_at_call_of 14 (Wd.hi (-X)); (with_reducible refine (add_to _ _ 0 _ H0.out).mono ?_); rintro e w' ⟨rfl, hk⟩; have tp := TP.out.call hk; have tq := TQ.out.call hk; have tr := TR.out.call hk; have kn := KC.out.next hk; clear TP TQ TR KC cp1 cp2 cq1 cq2 cr1 cr2 hk; have cp1 := tp.h; have cp2 := tp.l; have cq1 := tq.h; have cq2 := tq.l; have cr1 := tr.h; have cr2 := tr.l; have TP := Lib.hid tp; have TQ := Lib.hid tq; have TR := Lib.hid tr; have KC := Lib.hid kn; clear tp tq tr kn; rw [Wd.hl_zero.1, Wd.hl_zero.2])
        | (go_at_call_of 14 (Wd.hi Z); (with_reducible refine (add_to _ _ s3 _ H3.out).mono ?_); rintro e w' ⟨rfl, hk⟩; have tp := TP.out.call hk; have tq := TQ.out.call hk; have tr := TR.out.call hk; have kn := KC.out.next hk; clear TP TQ TR KC cp1 cp2 cq1 cq2 cr1 cr2 hk; have cp1 := tp.h; have cp2 := tp.l; have cq1 := tq.h; have cq2 := tq.l; have cr1 := tr.h; have cr2 := tr.l; have TP := Lib.hid tp; have TQ := Lib.hid tq; have TR := Lib.hid tr; have KC := Lib.hid kn; clear tp tq tr kn)
        | (go_at_call_of 14 (Wd.hi Y); (with_reducible refine (add_to _ _ s2 _ H2.out).mono ?_); rintro e w' ⟨rfl, hk⟩; have tp := TP.out.call hk; have tq := TQ.out.call hk; have tr := TR.out.call hk; have kn := KC.out.next hk; clear TP TQ TR KC cp1 cp2 cq1 cq2 cr1 cr2 hk; have cp1 := tp.h; have cp2 := tp.l; have cq1 := tq.h; have cq2 := tq.l; have cr1 := tr.h; have cr2 := tr.l; have TP := Lib.hid tp; have TQ := Lib.hid tq; have TR := Lib.hid tr; have KC := Lib.hid kn; clear tp tq tr kn)
        | (go_at_call 16; (with_reducible refine (neg_any _ _).mono ?_); rintro e w' ⟨rfl, hk⟩; have tp := TP.out.call hk; have tq := TQ.out.call hk; have tr := TR.out.call hk; have kn := KC.out.next hk; clear TP TQ TR KC cp1 cp2 cq1 cq2 cr1 cr2 hk; have cp1 := tp.h; have cp2 := tp.l; have cq1 := tq.h; have cq2 := tq.l; have cr1 := tr.h; have cr2 := tr.l; have TP := Lib.hid tp; have TQ := Lib.hid tq; have TR := Lib.hid tr; have KC := Lib.hid kn; clear tp tq tr kn)
        | (go_at_call 18; (with_reducible refine (cmp_any _ _ _).mono ?_); rintro e w' ⟨rfl, hk⟩; have tp := TP.out.call hk; have tq := TQ.out.call hk; have tr := TR.out.call hk; have kn := KC.out.next hk; clear TP TQ TR KC cp1 cp2 cq1 cq2 cr1 cr2 hk; have cp1 := tp.h; have cp2 := tp.l; have cq1 := tq.h; have cq2 := tq.l; have cr1 := tr.h; have cr2 := tr.l; have TP := Lib.hid tp; have TQ := Lib.hid tq; have TR := Lib.hid tr; have KC := Lib.hid kn; clear tp tq tr kn)
        | (go_at_call 12; (with_reducible refine (awake_any _).mono ?_); rintro e w' ⟨rfl, hk⟩; have tp := TP.out.call hk; have tq := TQ.out.call hk; have tr := TR.out.call hk; have kn := KC.out.next hk; clear TP TQ TR KC cp1 cp2 cq1 cq2 cr1 cr2 hk; have cp1 := tp.h; have cp2 := tp.l; have cq1 := tq.h; have cq2 := tq.l; have cr1 := tr.h; have cr2 := tr.l; have TP := Lib.hid tp; have TQ := Lib.hid tq; have TR := Lib.hid tr; have KC := Lib.hid kn; clear tp tq tr kn))
    go_wp2
    go_ret
    exact ⟨rfl, KC.out⟩
end Go.Proofs.Ytcaoikplnoipdaa
