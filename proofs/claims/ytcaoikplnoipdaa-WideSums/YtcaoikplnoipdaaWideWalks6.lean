/-
  Contracts of layer 2 (wide), sixth part: sums of several; and the document's own answer to which is greater.
-/
import Derived.Test.YtcaoikplnoipdaaWideWalks5
import Derived.Test.YtcaoikplnoipdaaRefWalks4
namespace Go.Proofs.Ytcaoikplnoipdaa
open Go.RowKit

theorem add_to (x y z : Int) (w : World) (h : z = x + y) :
    Calls Try.prog 14 #[.agg #[.int .i64 (Wd.hi (x)), .int .u64 (Wd.lo (x))], .agg #[.int .i64 (Wd.hi (y)), .int .u64 (Wd.lo (y))]] w fun e w' => e = .returned (.agg #[.int .i64 (Wd.hi (z)), .int .u64 (Wd.lo (z))]) ∧ Kp w.heap.size w w' := by
  subst h; exact add_any x y w

/-- a block holds a wide number from cell o on, and may be written -/
structure Two (W : World) (b o : Nat) (x : Int) : Prop where
  h : W.cell? ⟨b, o, none⟩ = some (.int .i64 (Wd.hi x))
  l : W.cell? ⟨b, o + 1, none⟩ = some (.int .u64 (Wd.lo x))
  fh : W.frozen? ⟨b, o, none⟩ = false
  fl : W.frozen? ⟨b, o + 1, none⟩ = false
theorem Two.lt {W : World} {b o : Nat} {x : Int} (h : Two W b o x) : b < W.heap.size := World.block_lt_of_cell? W ⟨b, o, none⟩ h.h
theorem Two.kp {W W' : World} {b o B : Nat} {x : Int} (h : Two W b o x) (k : Kp B W W') (hb : b < B) : Two W' b o x :=
  ⟨(k.cells b o hb).trans h.h, (k.cells b (o + 1) hb).trans h.l, (k.frozen _).trans h.fh, (k.frozen _).trans h.fl⟩
theorem Two.call {W W' : World} {b o : Nat} {x : Int} (h : Two W b o x) (k : Kp W.heap.size W W') : Two W' b o x := h.kp k h.lt
theorem Two.other {W : World} {b o : Nat} {x : Int} (h : Two W b o x) {p : Addr} (hp : p.block ≠ b) (u : Value) : Two (W.setCell p u) b o x :=
  ⟨by rw [World.cell?_setCell_far _ _ _ _ hp]; exact h.h, by rw [World.cell?_setCell_far _ _ _ _ hp]; exact h.l, by rw [World.frozen?_setCell]; exact h.fh, by rw [World.frozen?_setCell]; exact h.fl⟩
theorem Two.set {W : World} {b : Nat} {x : Int} (h : Two W b 0 x) (z : Int) : Two ((W.setCell ⟨b, 0, none⟩ (.int .i64 (Wd.hi z))).setCell ⟨b, 1, none⟩ (.int .u64 (Wd.lo z))) b 0 z := by
  have e1 : (W.setCell ⟨b, 0, none⟩ (.int .i64 (Wd.hi z))).cell? ⟨b, 1, none⟩ = some (.int .u64 (Wd.lo x)) := by
    rw [World.cell?_setCell_other _ _ _ _ (by simp)]; exact h.l
  refine ⟨?_, World.cell?_setCell_same _ _ _ e1, by rw [World.frozen?_setCell, World.frozen?_setCell]; exact h.fh, by rw [World.frozen?_setCell, World.frozen?_setCell]; exact h.fl⟩
  rw [World.cell?_setCell_other _ _ _ _ (by simp)]
  exact World.cell?_setCell_same _ _ _ h.h
theorem Two.alloc {W : World} {b o : Nat} {x : Int} (h : Two W b o x) (c : Array Value) (t : TypeId) : Two (W.alloc (.cells c t)) b o x :=
  h.kp (B := W.heap.size) ((Kp.refl _ _).alloc (Nat.le_refl _) c t) h.lt
theorem Two.new (W : World) (x : Int) (t : TypeId) {b : Nat} (hb : b = W.heap.size) : Two (W.alloc (.cells #[.int .i64 (Wd.hi x), .int .u64 (Wd.lo x)] t)) b 0 x := by
  subst hb
  exact ⟨by simp [go_sem], by simp [go_sem], by simp [go_sem], by simp [go_sem]⟩
theorem Wd.hl_zero : Wd.hi 0 = 0 ∧ Wd.lo 0 = 0 := by unfold Wd.hi Wd.lo wrap64; omega
theorem Two.zero (W : World) (t : TypeId) {b : Nat} (hb : b = W.heap.size) : Two (W.alloc (.cells #[.int .i64 0, .int .u64 0] t)) b 0 0 := by
  have := Two.new W 0 t hb
  rwa [Wd.hl_zero.1, Wd.hl_zero.2] at this
theorem Two.drew {W : World} {b o : Nat} {x : Int} (h : Two W b o x) : Two W.drew b o x := ⟨h.h, h.l, h.fh, h.fl⟩

set_option maxHeartbeats 400000 in
theorem sum_none (w : World) :
    Calls Try.prog 20 #[.slice none 0 0] w fun e w' => e = .returned (.agg #[.int .i64 0, .int .u64 0]) ∧ Kp w.heap.size w w' := by
  have HZ := Lib.hid Wd.hl_zero
  go_enter Try.func20, Try.ntmps20
  go_wp2
  go_loopw [8] (fun i wr => i = .int .i64 0 ∧ Two wr (w.heap.size + 1) 0 0 ∧ Two wr w.heap.size 0 0 ∧ Kp w.heap.size w wr) (fun _ _ => 0)
  case atStart => exact ⟨rfl, Two.zero _ _ (by simp), (Two.zero _ _ rfl).alloc _ _, ((Kp.refl _ _).alloc (Nat.le_refl _) _ _).alloc (by simp) _ _⟩
  case round =>
    obtain ⟨rfl, T, U, K⟩ := hrel
    have c1 := T.h; have c2 := T.l; have d1 := U.h; have d2 := U.l; have d3 := U.fh; have d4 := U.fl
    have HK := Lib.hid K
    clear T U K
    go_wp2
    exact bodyPost_ret (v := .agg #[.int .i64 (Wd.hi (0)), .int .u64 (Wd.lo (0))]) (by simp [results, Try.results20, go_sem, *]) rfl ⟨ret_w HZ.out.1 HZ.out.2, (HK.out.setCell (Nat.le_refl _) _).setCell (Nat.le_refl _) _⟩

def Wd.part (x s2 s3 : Int) : Nat → Int
  | 0 => 0
  | 1 => x
  | 2 => s2
  | _ => s3

set_option maxHeartbeats 1000000 in
theorem sum_three (x y z s2 s3 : Int) (g : Nat) (w : World) (hs2 : s2 = x + y) (hs3 : s3 = s2 + z) (hx : Two w g 0 x) (hy : Two w g 2 y) (hz : Two w g 4 z) :
    Calls Try.prog 20 #[.slice (some ⟨g, 0, none⟩) 3 3] w fun e w' => e = .returned (.agg #[.int .i64 (Wd.hi (s3)), .int .u64 (Wd.lo (s3))]) ∧ Kp w.heap.size w w' := by
  have H1 : Hid (x = 0 + x) := by show x = 0 + x; omega
  have H2 := Lib.hid hs2
  have H3 := Lib.hid hs3
  have hgl := hx.lt
  clear hs2 hs3
  go_enter Try.func20, Try.ntmps20
  go_wp2
  go_loopw [8] (fun i wr => ∃ k : Nat, k ≤ 3 ∧ i = .int .i64 k ∧ Two wr (w.heap.size + 1) 0 (Wd.part x s2 s3 k) ∧ Two wr w.heap.size 0 0 ∧ Kp w.heap.size w wr) (fun i _ => 3 - (intOf i).toNat)
  case atStart => exact ⟨0, by omega, rfl, Two.zero _ _ (by simp), (Two.zero _ _ rfl).alloc _ _, ((Kp.refl _ _).alloc (Nat.le_refl _) _ _).alloc (by simp) _ _⟩
  case round =>
    obtain ⟨k, hk, rfl, T, U, K⟩ := hrel
    have hs := T.lt
    have HU := Lib.hid U; have HK := Lib.hid K
    clear U K
    rcases k with _ | _ | _ | _ | k
    · have T' : Two wr (w.heap.size + 1) 0 (0) := T
      have c1 := T'.h; have c2 := T'.l
      have HT := Lib.hid T'
      clear T T'
      have hg := hx.kp HK.out hgl
      have gh := hg.h; have gl := hg.l
      clear hg
      go_wp2_with fail
      (with_reducible refine (add_to _ _ x _ H1.out).mono ?_)
      rintro e w1 ⟨rfl, hk1⟩
      have T1 := (HT.out.alloc _ _).call hk1
      have U1 := (HU.out.alloc _ _).call hk1
      have K1 := (HK.out.alloc HK.out.size _ _).trans (hk1.mono (by have := HK.out.size; simp; omega))
      have c1 := T1.h; have c2 := T1.l; have c3 := T1.fh; have c4 := T1.fl
      have HT1 := Lib.hid T1; have HU1 := Lib.hid U1; have HK1 := Lib.hid K1
      clear T1 U1 K1 hk1
      go_wp2
      exact ⟨⟨0+1, by omega, rfl, HT1.out.set _, (HU1.out.other (by simp) _).other (by simp) _, (HK1.out.setCell (by simp) _).setCell (by simp) _⟩, by simp [intOf]⟩
    · have T' : Two wr (w.heap.size + 1) 0 (x) := T
      have c1 := T'.h; have c2 := T'.l
      have HT := Lib.hid T'
      clear T T'
      have hg := hy.kp HK.out hgl
      have gh := hg.h; have gl := hg.l
      clear hg
      go_wp2_with fail
      (with_reducible refine (add_to _ _ s2 _ H2.out).mono ?_)
      rintro e w1 ⟨rfl, hk1⟩
      have T1 := (HT.out.alloc _ _).call hk1
      have U1 := (HU.out.alloc _ _).call hk1
      have K1 := (HK.out.alloc HK.out.size _ _).trans (hk1.mono (by have := HK.out.size; simp; omega))
      have c1 := T1.h; have c2 := T1.l; have c3 := T1.fh; have c4 := T1.fl
      have HT1 := Lib.hid T1; have HU1 := Lib.hid U1; have HK1 := Lib.hid K1
      clear T1 U1 K1 hk1
      go_wp2
      exact ⟨⟨1+1, by omega, rfl, HT1.out.set _, (HU1.out.other (by simp) _).other (by simp) _, (HK1.out.setCell (by simp) _).setCell (by simp) _⟩, by simp [intOf]⟩
    · have T' : Two wr (w.heap.size + 1) 0 (s2) := T
      have c1 := T'.h; have c2 := T'.l
      have HT := Lib.hid T'
      clear T T'
      have hg := hz.kp HK.out hgl
      have gh := hg.h; have gl := hg.l
      clear hg
      go_wp2_with fail
      (with_reducible refine (add_to _ _ s3 _ H3.out).mono ?_)
      rintro e w1 ⟨rfl, hk1⟩
      have T1 := (HT.out.alloc _ _).call hk1
      have U1 := (HU.out.alloc _ _).call hk1
      have K1 := (HK.out.alloc HK.out.size _ _).trans (hk1.mono (by have := HK.out.size; simp; omega))
      have c1 := T1.h; have c2 := T1.l; have c3 := T1.fh; have c4 := T1.fl
      have HT1 := Lib.hid T1; have HU1 := Lib.hid U1; have HK1 := Lib.hid K1
      clear T1 U1 K1 hk1
      go_wp2
      exact ⟨⟨2+1, by omega, rfl, HT1.out.set _, (HU1.out.other (by simp) _).other (by simp) _, (HK1.out.setCell (by simp) _).setCell (by simp) _⟩, by simp [intOf]⟩
    · have T' : Two wr (w.heap.size + 1) 0 s3 := T
      have c1 := T'.h; have c2 := T'.l
      clear T T'
      have d1 := HU.out.h; have d2 := HU.out.l; have d3 := HU.out.fh; have d4 := HU.out.fl
      go_wp2
      exact bodyPost_ret (v := .agg #[.int .i64 (Wd.hi (s3)), .int .u64 (Wd.lo (s3))]) (by simp [results, Try.results20, go_sem, *]) rfl ⟨rfl, (HK.out.setCell (Nat.le_refl _) _).setCell (Nat.le_refl _) _⟩
    · omega

theorem Wd.cmp_same {x y : Int} (h : Wd.eqD x y = true) : Wd.cmp x y = 0 := by
  have := (Wd.same_iff x y).2 (by simpa [Wd.eqD] using h)
  rw [Wd.cmp_eq, if_pos this]
theorem Wd.cmp_less {x y : Int} (h : Wd.eqD x y = false) (hl : Wd.hi x < 0 ∧ ¬ Wd.hi y < 0 ∨ (Wd.hi x < 0 ↔ Wd.hi y < 0) ∧ Wd.ltD x y = true) : Wd.cmp x y = -1 := by
  have hn : ¬ (Wd.hi x = Wd.hi y ∧ Wd.lo x = Wd.lo y) := by rw [Wd.same_iff]; simpa [Wd.eqD] using h
  rw [Wd.cmp_eq, if_neg hn, if_pos]
  rcases hl with hl | ⟨hs, hl⟩
  · omega
  · have : x % 340282366920938463463374607431768211456 < y % 340282366920938463463374607431768211456 := by simpa [Wd.ltD] using hl
    unfold Wd.hi Wd.lo wrap64 at *; omega
theorem Wd.cmp_more {x y : Int} (h : Wd.eqD x y = false) (hl : ¬ Wd.hi x < 0 ∧ Wd.hi y < 0 ∨ (Wd.hi x < 0 ↔ Wd.hi y < 0) ∧ Wd.ltD x y = false) : Wd.cmp x y = 1 := by
  have hn : ¬ (Wd.hi x = Wd.hi y ∧ Wd.lo x = Wd.lo y) := by rw [Wd.same_iff]; simpa [Wd.eqD] using h
  rw [Wd.cmp_eq, if_neg hn, if_neg]
  rcases hl with hl | ⟨hs, hl⟩
  · omega
  · have : ¬ x % 340282366920938463463374607431768211456 < y % 340282366920938463463374607431768211456 := by simpa [Wd.ltD] using hl
    unfold Wd.hi Wd.lo wrap64 at *; omega

set_option maxHeartbeats 1000000 in
theorem rcmp_any (x y : Int) (w : World) :
    Calls Try.prog 19 #[.agg #[.int .i64 (Wd.dg (x) 0), .int .i64 (Wd.dg (x) 1), .int .i64 (Wd.dg (x) 2), .int .i64 (Wd.dg (x) 3), .int .i64 (Wd.dg (x) 4), .int .i64 (Wd.dg (x) 5), .int .i64 (Wd.dg (x) 6), .int .i64 (Wd.dg (x) 7)], .agg #[.int .i64 (Wd.dg (y) 0), .int .i64 (Wd.dg (y) 1), .int .i64 (Wd.dg (y) 2), .int .i64 (Wd.dg (y) 3), .int .i64 (Wd.dg (y) 4), .int .i64 (Wd.dg (y) 5), .int .i64 (Wd.dg (y) 6), .int .i64 (Wd.dg (y) 7)]] w fun e w' => e = .returned (.int .i64 (Wd.cmp x y)) ∧ Kp w.heap.size w w' := by
  have hE := run_eqD
  have k0 : Kp w.heap.size w ((w.alloc (.cells #[.int .i64 (Wd.dg x 0), .int .i64 (Wd.dg x 1), .int .i64 (Wd.dg x 2), .int .i64 (Wd.dg x 3), .int .i64 (Wd.dg x 4), .int .i64 (Wd.dg x 5), .int .i64 (Wd.dg x 6), .int .i64 (Wd.dg x 7)] 23)).alloc (.cells #[.int .i64 (Wd.dg y 0), .int .i64 (Wd.dg y 1), .int .i64 (Wd.dg y 2), .int .i64 (Wd.dg y 3), .int .i64 (Wd.dg y 4), .int .i64 (Wd.dg y 5), .int .i64 (Wd.dg y 6), .int .i64 (Wd.dg y 7)] 23)) :=
    ((Kp.refl _ _).alloc (Nat.le_refl _) _ _).alloc (by simp) _ _
  have HK0 := Lib.hid k0
  clear k0
  rcases he : Wd.eqD x y with _ | _
  · rcases hx : Wd.neg x with _ | _ <;> rcases hy : Wd.neg y with _ | _
    · have nx : ¬ Wd.hi x < 0 := by simpa [Wd.neg] using hx
      have ny : ¬ Wd.hi y < 0 := by simpa [Wd.neg] using hy
      rcases hl : Wd.ltD x y with _ | _
      · have HC := Lib.hid (Wd.cmp_more he (.inr ⟨by omega, hl⟩))
        go_enter Try.func19, Try.ntmps19
        go_wp2
        go_region_held3 (fun w' => (w'.cell? ⟨w.heap.size, 0, none⟩ = some (.int .i64 (Wd.dg (x) 0)) ∧ w'.cell? ⟨w.heap.size, 1, none⟩ = some (.int .i64 (Wd.dg (x) 1)) ∧ w'.cell? ⟨w.heap.size, 2, none⟩ = some (.int .i64 (Wd.dg (x) 2)) ∧ w'.cell? ⟨w.heap.size, 3, none⟩ = some (.int .i64 (Wd.dg (x) 3)) ∧ w'.cell? ⟨w.heap.size, 4, none⟩ = some (.int .i64 (Wd.dg (x) 4)) ∧ w'.cell? ⟨w.heap.size, 5, none⟩ = some (.int .i64 (Wd.dg (x) 5)) ∧ w'.cell? ⟨w.heap.size, 6, none⟩ = some (.int .i64 (Wd.dg (x) 6)) ∧ w'.cell? ⟨w.heap.size, 7, none⟩ = some (.int .i64 (Wd.dg (x) 7))) ∧ w'.cell? ⟨w.heap.size + 1, 0, none⟩ = some (.int .i64 (Wd.dg (y) 0)) ∧ w'.cell? ⟨w.heap.size + 1, 1, none⟩ = some (.int .i64 (Wd.dg (y) 1)) ∧ w'.cell? ⟨w.heap.size + 1, 2, none⟩ = some (.int .i64 (Wd.dg (y) 2)) ∧ w'.cell? ⟨w.heap.size + 1, 3, none⟩ = some (.int .i64 (Wd.dg (y) 3)) ∧ w'.cell? ⟨w.heap.size + 1, 4, none⟩ = some (.int .i64 (Wd.dg (y) 4)) ∧ w'.cell? ⟨w.heap.size + 1, 5, none⟩ = some (.int .i64 (Wd.dg (y) 5)) ∧ w'.cell? ⟨w.heap.size + 1, 6, none⟩ = some (.int .i64 (Wd.dg (y) 6)) ∧ w'.cell? ⟨w.heap.size + 1, 7, none⟩ = some (.int .i64 (Wd.dg (y) 7))) (simp [go_sem, World.cell?_alloc_past, *])
          (first
            | (go_at_call_of 28 (Wd.dg x 0); (with_reducible refine (rbelow_any _ _).mono ?_); rintro e w1 ⟨rfl, hk⟩; have h1 := hk.cells; have z1 := hk.size; have HK1 := Lib.hid hk; clear hk; simp at h1 z1; have l1 : w.heap.size < w1.heap.size := (by omega); have l2 : w.heap.size + 1 < w1.heap.size := (by omega))
            | (go_at_call_of 28 (Wd.dg y 0); (with_reducible refine (rbelow_any _ _).mono ?_); rintro e w2 ⟨rfl, hk⟩; have h2 := hk.cells; have z2 := hk.size; have HK2 := Lib.hid hk; clear hk; have m1 : w.heap.size < w2.heap.size := (by omega); have m2 : w.heap.size + 1 < w2.heap.size := (by omega)))
        go_wp2_with fail
        (with_reducible refine (rless_any _ _ _).mono ?_)
        rintro e w3 ⟨rfl, hk⟩
        have HK3 := Lib.hid hk
        clear hk
        go_wp2
        go_ret
        exact ⟨ret_int HC.out.symm, ((HK0.out.drew.next HK1.out).next HK2.out).next HK3.out⟩
      · have HC := Lib.hid (Wd.cmp_less he (.inr ⟨by omega, hl⟩))
        go_enter Try.func19, Try.ntmps19
        go_wp2
        go_region_held3 (fun w' => (w'.cell? ⟨w.heap.size, 0, none⟩ = some (.int .i64 (Wd.dg (x) 0)) ∧ w'.cell? ⟨w.heap.size, 1, none⟩ = some (.int .i64 (Wd.dg (x) 1)) ∧ w'.cell? ⟨w.heap.size, 2, none⟩ = some (.int .i64 (Wd.dg (x) 2)) ∧ w'.cell? ⟨w.heap.size, 3, none⟩ = some (.int .i64 (Wd.dg (x) 3)) ∧ w'.cell? ⟨w.heap.size, 4, none⟩ = some (.int .i64 (Wd.dg (x) 4)) ∧ w'.cell? ⟨w.heap.size, 5, none⟩ = some (.int .i64 (Wd.dg (x) 5)) ∧ w'.cell? ⟨w.heap.size, 6, none⟩ = some (.int .i64 (Wd.dg (x) 6)) ∧ w'.cell? ⟨w.heap.size, 7, none⟩ = some (.int .i64 (Wd.dg (x) 7))) ∧ w'.cell? ⟨w.heap.size + 1, 0, none⟩ = some (.int .i64 (Wd.dg (y) 0)) ∧ w'.cell? ⟨w.heap.size + 1, 1, none⟩ = some (.int .i64 (Wd.dg (y) 1)) ∧ w'.cell? ⟨w.heap.size + 1, 2, none⟩ = some (.int .i64 (Wd.dg (y) 2)) ∧ w'.cell? ⟨w.heap.size + 1, 3, none⟩ = some (.int .i64 (Wd.dg (y) 3)) ∧ w'.cell? ⟨w.heap.size + 1, 4, none⟩ = some (.int .i64 (Wd.dg (y) 4)) ∧ w'.cell? ⟨w.heap.size + 1, 5, none⟩ = some (.int .i64 (Wd.dg (y) 5)) ∧ w'.cell? ⟨w.heap.size + 1, 6, none⟩ = some (.int .i64 (Wd.dg (y) 6)) ∧ w'.cell? ⟨w.heap.size + 1, 7, none⟩ = some (.int .i64 (Wd.dg (y) 7))) (simp [go_sem, World.cell?_alloc_past, *])
          (first
            | (go_at_call_of 28 (Wd.dg x 0); (with_reducible refine (rbelow_any _ _).mono ?_); rintro e w1 ⟨rfl, hk⟩; have h1 := hk.cells; have z1 := hk.size; have HK1 := Lib.hid hk; clear hk; simp at h1 z1; have l1 : w.heap.size < w1.heap.size := (by omega); have l2 : w.heap.size + 1 < w1.heap.size := (by omega))
            | (go_at_call_of 28 (Wd.dg y 0); (with_reducible refine (rbelow_any _ _).mono ?_); rintro e w2 ⟨rfl, hk⟩; have h2 := hk.cells; have z2 := hk.size; have HK2 := Lib.hid hk; clear hk; have m1 : w.heap.size < w2.heap.size := (by omega); have m2 : w.heap.size + 1 < w2.heap.size := (by omega)))
        go_wp2_with fail
        (with_reducible refine (rless_any _ _ _).mono ?_)
        rintro e w3 ⟨rfl, hk⟩
        have HK3 := Lib.hid hk
        clear hk
        go_wp2
        go_ret
        exact ⟨ret_int HC.out.symm, ((HK0.out.drew.next HK1.out).next HK2.out).next HK3.out⟩
    · have nx : ¬ Wd.hi x < 0 := by simpa [Wd.neg] using hx
      have ny : Wd.hi y < 0 := by simpa [Wd.neg] using hy
      have HC := Lib.hid (Wd.cmp_more he (.inl ⟨nx, ny⟩))
      go_enter Try.func19, Try.ntmps19
      go_wp2
      go_region_held3 (fun w' => (w'.cell? ⟨w.heap.size, 0, none⟩ = some (.int .i64 (Wd.dg (x) 0)) ∧ w'.cell? ⟨w.heap.size, 1, none⟩ = some (.int .i64 (Wd.dg (x) 1)) ∧ w'.cell? ⟨w.heap.size, 2, none⟩ = some (.int .i64 (Wd.dg (x) 2)) ∧ w'.cell? ⟨w.heap.size, 3, none⟩ = some (.int .i64 (Wd.dg (x) 3)) ∧ w'.cell? ⟨w.heap.size, 4, none⟩ = some (.int .i64 (Wd.dg (x) 4)) ∧ w'.cell? ⟨w.heap.size, 5, none⟩ = some (.int .i64 (Wd.dg (x) 5)) ∧ w'.cell? ⟨w.heap.size, 6, none⟩ = some (.int .i64 (Wd.dg (x) 6)) ∧ w'.cell? ⟨w.heap.size, 7, none⟩ = some (.int .i64 (Wd.dg (x) 7))) ∧ w'.cell? ⟨w.heap.size + 1, 0, none⟩ = some (.int .i64 (Wd.dg (y) 0)) ∧ w'.cell? ⟨w.heap.size + 1, 1, none⟩ = some (.int .i64 (Wd.dg (y) 1)) ∧ w'.cell? ⟨w.heap.size + 1, 2, none⟩ = some (.int .i64 (Wd.dg (y) 2)) ∧ w'.cell? ⟨w.heap.size + 1, 3, none⟩ = some (.int .i64 (Wd.dg (y) 3)) ∧ w'.cell? ⟨w.heap.size + 1, 4, none⟩ = some (.int .i64 (Wd.dg (y) 4)) ∧ w'.cell? ⟨w.heap.size + 1, 5, none⟩ = some (.int .i64 (Wd.dg (y) 5)) ∧ w'.cell? ⟨w.heap.size + 1, 6, none⟩ = some (.int .i64 (Wd.dg (y) 6)) ∧ w'.cell? ⟨w.heap.size + 1, 7, none⟩ = some (.int .i64 (Wd.dg (y) 7))) (simp [go_sem, World.cell?_alloc_past, *])
        (first
          | (go_at_call_of 28 (Wd.dg x 0); (with_reducible refine (rbelow_any _ _).mono ?_); rintro e w1 ⟨rfl, hk⟩; have h1 := hk.cells; have z1 := hk.size; have HK1 := Lib.hid hk; clear hk; simp at h1 z1; have l1 : w.heap.size < w1.heap.size := (by omega); have l2 : w.heap.size + 1 < w1.heap.size := (by omega))
          | (go_at_call_of 28 (Wd.dg y 0); (with_reducible refine (rbelow_any _ _).mono ?_); rintro e w2 ⟨rfl, hk⟩; have h2 := hk.cells; have z2 := hk.size; have HK2 := Lib.hid hk; clear hk; have m1 : w.heap.size < w2.heap.size := (by omega); have m2 : w.heap.size + 1 < w2.heap.size := (by omega)))
      go_wp2_with fail
      (with_reducible refine (rbelow_any _ _).mono ?_)
      rintro e w3 ⟨rfl, hk⟩
      have HK3 := Lib.hid hk
      clear hk
      go_wp2
      go_ret
      exact ⟨ret_int HC.out.symm, ((HK0.out.drew.next HK1.out).next HK2.out).next HK3.out⟩
    · have nx : Wd.hi x < 0 := by simpa [Wd.neg] using hx
      have ny : ¬ Wd.hi y < 0 := by simpa [Wd.neg] using hy
      have HC := Lib.hid (Wd.cmp_less he (.inl ⟨nx, ny⟩))
      go_enter Try.func19, Try.ntmps19
      go_wp2
      go_region_held3 (fun w' => (w'.cell? ⟨w.heap.size, 0, none⟩ = some (.int .i64 (Wd.dg (x) 0)) ∧ w'.cell? ⟨w.heap.size, 1, none⟩ = some (.int .i64 (Wd.dg (x) 1)) ∧ w'.cell? ⟨w.heap.size, 2, none⟩ = some (.int .i64 (Wd.dg (x) 2)) ∧ w'.cell? ⟨w.heap.size, 3, none⟩ = some (.int .i64 (Wd.dg (x) 3)) ∧ w'.cell? ⟨w.heap.size, 4, none⟩ = some (.int .i64 (Wd.dg (x) 4)) ∧ w'.cell? ⟨w.heap.size, 5, none⟩ = some (.int .i64 (Wd.dg (x) 5)) ∧ w'.cell? ⟨w.heap.size, 6, none⟩ = some (.int .i64 (Wd.dg (x) 6)) ∧ w'.cell? ⟨w.heap.size, 7, none⟩ = some (.int .i64 (Wd.dg (x) 7))) ∧ w'.cell? ⟨w.heap.size + 1, 0, none⟩ = some (.int .i64 (Wd.dg (y) 0)) ∧ w'.cell? ⟨w.heap.size + 1, 1, none⟩ = some (.int .i64 (Wd.dg (y) 1)) ∧ w'.cell? ⟨w.heap.size + 1, 2, none⟩ = some (.int .i64 (Wd.dg (y) 2)) ∧ w'.cell? ⟨w.heap.size + 1, 3, none⟩ = some (.int .i64 (Wd.dg (y) 3)) ∧ w'.cell? ⟨w.heap.size + 1, 4, none⟩ = some (.int .i64 (Wd.dg (y) 4)) ∧ w'.cell? ⟨w.heap.size + 1, 5, none⟩ = some (.int .i64 (Wd.dg (y) 5)) ∧ w'.cell? ⟨w.heap.size + 1, 6, none⟩ = some (.int .i64 (Wd.dg (y) 6)) ∧ w'.cell? ⟨w.heap.size + 1, 7, none⟩ = some (.int .i64 (Wd.dg (y) 7))) (simp [go_sem, World.cell?_alloc_past, *])
        (first
          | (go_at_call_of 28 (Wd.dg x 0); (with_reducible refine (rbelow_any _ _).mono ?_); rintro e w1 ⟨rfl, hk⟩; have h1 := hk.cells; have z1 := hk.size; have HK1 := Lib.hid hk; clear hk; simp at h1 z1; have l1 : w.heap.size < w1.heap.size := (by omega); have l2 : w.heap.size + 1 < w1.heap.size := (by omega))
          | (go_at_call_of 28 (Wd.dg y 0); (with_reducible refine (rbelow_any _ _).mono ?_); rintro e w2 ⟨rfl, hk⟩; have h2 := hk.cells; have z2 := hk.size; have HK2 := Lib.hid hk; clear hk; have m1 : w.heap.size < w2.heap.size := (by omega); have m2 : w.heap.size + 1 < w2.heap.size := (by omega)))
      go_wp2_with fail
      (with_reducible refine (rbelow_any _ _).mono ?_)
      rintro e w3 ⟨rfl, hk⟩
      have HK3 := Lib.hid hk
      clear hk
      go_wp2
      go_ret
      exact ⟨ret_int HC.out.symm, ((HK0.out.drew.next HK1.out).next HK2.out).next HK3.out⟩
    · have nx : Wd.hi x < 0 := by simpa [Wd.neg] using hx
      have ny : Wd.hi y < 0 := by simpa [Wd.neg] using hy
      rcases hl : Wd.ltD x y with _ | _
      · have HC := Lib.hid (Wd.cmp_more he (.inr ⟨by omega, hl⟩))
        go_enter Try.func19, Try.ntmps19
        go_wp2
        go_region_held3 (fun w' => (w'.cell? ⟨w.heap.size, 0, none⟩ = some (.int .i64 (Wd.dg (x) 0)) ∧ w'.cell? ⟨w.heap.size, 1, none⟩ = some (.int .i64 (Wd.dg (x) 1)) ∧ w'.cell? ⟨w.heap.size, 2, none⟩ = some (.int .i64 (Wd.dg (x) 2)) ∧ w'.cell? ⟨w.heap.size, 3, none⟩ = some (.int .i64 (Wd.dg (x) 3)) ∧ w'.cell? ⟨w.heap.size, 4, none⟩ = some (.int .i64 (Wd.dg (x) 4)) ∧ w'.cell? ⟨w.heap.size, 5, none⟩ = some (.int .i64 (Wd.dg (x) 5)) ∧ w'.cell? ⟨w.heap.size, 6, none⟩ = some (.int .i64 (Wd.dg (x) 6)) ∧ w'.cell? ⟨w.heap.size, 7, none⟩ = some (.int .i64 (Wd.dg (x) 7))) ∧ w'.cell? ⟨w.heap.size + 1, 0, none⟩ = some (.int .i64 (Wd.dg (y) 0)) ∧ w'.cell? ⟨w.heap.size + 1, 1, none⟩ = some (.int .i64 (Wd.dg (y) 1)) ∧ w'.cell? ⟨w.heap.size + 1, 2, none⟩ = some (.int .i64 (Wd.dg (y) 2)) ∧ w'.cell? ⟨w.heap.size + 1, 3, none⟩ = some (.int .i64 (Wd.dg (y) 3)) ∧ w'.cell? ⟨w.heap.size + 1, 4, none⟩ = some (.int .i64 (Wd.dg (y) 4)) ∧ w'.cell? ⟨w.heap.size + 1, 5, none⟩ = some (.int .i64 (Wd.dg (y) 5)) ∧ w'.cell? ⟨w.heap.size + 1, 6, none⟩ = some (.int .i64 (Wd.dg (y) 6)) ∧ w'.cell? ⟨w.heap.size + 1, 7, none⟩ = some (.int .i64 (Wd.dg (y) 7))) (simp [go_sem, World.cell?_alloc_past, *])
          (first
            | (go_at_call_of 28 (Wd.dg x 0); (with_reducible refine (rbelow_any _ _).mono ?_); rintro e w1 ⟨rfl, hk⟩; have h1 := hk.cells; have z1 := hk.size; have HK1 := Lib.hid hk; clear hk; simp at h1 z1; have l1 : w.heap.size < w1.heap.size := (by omega); have l2 : w.heap.size + 1 < w1.heap.size := (by omega))
            | (go_at_call_of 28 (Wd.dg y 0); (with_reducible refine (rbelow_any _ _).mono ?_); rintro e w2 ⟨rfl, hk⟩; have h2 := hk.cells; have z2 := hk.size; have HK2 := Lib.hid hk; clear hk; have m1 : w.heap.size < w2.heap.size := (by omega); have m2 : w.heap.size + 1 < w2.heap.size := (by omega)))
        go_wp2_with fail
        (with_reducible refine (rless_any _ _ _).mono ?_)
        rintro e w3 ⟨rfl, hk⟩
        have HK3 := Lib.hid hk
        clear hk
        go_wp2
        go_ret
        exact ⟨ret_int HC.out.symm, ((HK0.out.drew.next HK1.out).next HK2.out).next HK3.out⟩
      · have HC := Lib.hid (Wd.cmp_less he (.inr ⟨by omega, hl⟩))
        go_enter Try.func19, Try.ntmps19
        go_wp2
        go_region_held3 (fun w' => (w'.cell? ⟨w.heap.size, 0, none⟩ = some (.int .i64 (Wd.dg (x) 0)) ∧ w'.cell? ⟨w.heap.size, 1, none⟩ = some (.int .i64 (Wd.dg (x) 1)) ∧ w'.cell? ⟨w.heap.size, 2, none⟩ = some (.int .i64 (Wd.dg (x) 2)) ∧ w'.cell? ⟨w.heap.size, 3, none⟩ = some (.int .i64 (Wd.dg (x) 3)) ∧ w'.cell? ⟨w.heap.size, 4, none⟩ = some (.int .i64 (Wd.dg (x) 4)) ∧ w'.cell? ⟨w.heap.size, 5, none⟩ = some (.int .i64 (Wd.dg (x) 5)) ∧ w'.cell? ⟨w.heap.size, 6, none⟩ = some (.int .i64 (Wd.dg (x) 6)) ∧ w'.cell? ⟨w.heap.size, 7, none⟩ = some (.int .i64 (Wd.dg (x) 7))) ∧ w'.cell? ⟨w.heap.size + 1, 0, none⟩ = some (.int .i64 (Wd.dg (y) 0)) ∧ w'.cell? ⟨w.heap.size + 1, 1, none⟩ = some (.int .i64 (Wd.dg (y) 1)) ∧ w'.cell? ⟨w.heap.size + 1, 2, none⟩ = some (.int .i64 (Wd.dg (y) 2)) ∧ w'.cell? ⟨w.heap.size + 1, 3, none⟩ = some (.int .i64 (Wd.dg (y) 3)) ∧ w'.cell? ⟨w.heap.size + 1, 4, none⟩ = some (.int .i64 (Wd.dg (y) 4)) ∧ w'.cell? ⟨w.heap.size + 1, 5, none⟩ = some (.int .i64 (Wd.dg (y) 5)) ∧ w'.cell? ⟨w.heap.size + 1, 6, none⟩ = some (.int .i64 (Wd.dg (y) 6)) ∧ w'.cell? ⟨w.heap.size + 1, 7, none⟩ = some (.int .i64 (Wd.dg (y) 7))) (simp [go_sem, World.cell?_alloc_past, *])
          (first
            | (go_at_call_of 28 (Wd.dg x 0); (with_reducible refine (rbelow_any _ _).mono ?_); rintro e w1 ⟨rfl, hk⟩; have h1 := hk.cells; have z1 := hk.size; have HK1 := Lib.hid hk; clear hk; simp at h1 z1; have l1 : w.heap.size < w1.heap.size := (by omega); have l2 : w.heap.size + 1 < w1.heap.size := (by omega))
            | (go_at_call_of 28 (Wd.dg y 0); (with_reducible refine (rbelow_any _ _).mono ?_); rintro e w2 ⟨rfl, hk⟩; have h2 := hk.cells; have z2 := hk.size; have HK2 := Lib.hid hk; clear hk; have m1 : w.heap.size < w2.heap.size := (by omega); have m2 : w.heap.size + 1 < w2.heap.size := (by omega)))
        go_wp2_with fail
        (with_reducible refine (rless_any _ _ _).mono ?_)
        rintro e w3 ⟨rfl, hk⟩
        have HK3 := Lib.hid hk
        clear hk
        go_wp2
        go_ret
        exact ⟨ret_int HC.out.symm, ((HK0.out.drew.next HK1.out).next HK2.out).next HK3.out⟩
  · have HC := Lib.hid (Wd.cmp_same he)
    go_enter Try.func19, Try.ntmps19
    go_wp2
    go_ret
    exact ⟨ret_int HC.out.symm, HK0.out⟩
end Go.Proofs.Ytcaoikplnoipdaa
