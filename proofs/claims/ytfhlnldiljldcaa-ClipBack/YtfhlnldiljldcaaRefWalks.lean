/-
  Contracts of the document's own answers for layer 2 (digits to the base 2^16).
-/
import Derived.Test.YtfhlnldiljldcaaWideWalks
import Derived.Deep.LoopGhost
namespace Go.Proofs.Ytfhlnldiljldcaa
open Go.RowKit

/-- a block holds eight ints, and may be written -/
def Row (W : World) (b : Nat) (f : Nat → Int) : Prop := ∀ j, j < 8 → W.cell? ⟨b, j, none⟩ = some (.int .i64 (f j)) ∧ W.frozen? ⟨b, j, none⟩ = false
theorem Row.cell {W : World} {b : Nat} {f : Nat → Int} (h : Row W b f) : ∀ j, j < 8 → W.cell? ⟨b, j, none⟩ = some (.int .i64 (f j)) := fun j hj => (h j hj).1
theorem Row.froz {W : World} {b : Nat} {f : Nat → Int} (h : Row W b f) : ∀ j, j < 8 → W.frozen? ⟨b, j, none⟩ = false := fun j hj => (h j hj).2

theorem Row.set {W : World} {b : Nat} {f : Nat → Int} (h : Row W b f) {k : Nat} (hk : k < 8) (v : Int) : Row (W.setCell ⟨b, k, none⟩ (.int .i64 v)) b (fun j => if j = k then v else f j) := by
  intro j hj
  refine ⟨?_, by rw [World.frozen?_setCell]; exact (h j hj).2⟩
  by_cases e : j = k
  · subst e
    show _ = some (Value.int .i64 (if j = j then v else f j))
    rw [if_pos rfl]
    exact World.cell?_setCell_same _ _ _ (h j hj).1
  · show _ = some (Value.int .i64 (if j = k then v else f j))
    rw [if_neg e, World.cell?_setCell_other]
    · exact (h j hj).1
    · simp only [ne_eq, Addr.mk.injEq, true_and, and_true]; omega
theorem Row.other {W : World} {b : Nat} {f : Nat → Int} (h : Row W b f) {p : Addr} (hp : p.block ≠ b) (u : Value) : Row (W.setCell p u) b f := fun j hj =>
  ⟨by rw [World.cell?_setCell_far _ _ _ _ hp]; exact (h j hj).1, by rw [World.frozen?_setCell]; exact (h j hj).2⟩
theorem Row.kp {W W' : World} {b B : Nat} {f : Nat → Int} (h : Row W b f) (hk : Kp B W W') (hb : b < B) : Row W' b f := fun j hj =>
  ⟨by rw [hk.cells b j hb]; exact (h j hj).1, by rw [hk.frozen]; exact (h j hj).2⟩
theorem Row.congr {W : World} {b : Nat} {f g : Nat → Int} (h : Row W b f) (e : ∀ j, j < 8 → f j = g j) : Row W b g := fun j hj => by rw [← e j hj]; exact h j hj
theorem Row.lt {W : World} {b : Nat} {f : Nat → Int} (h : Row W b f) : b < W.heap.size := World.block_lt_of_cell? W ⟨b, 0, none⟩ (h 0 (by omega)).1
theorem Row.alloc {W : World} {b : Nat} {f : Nat → Int} (h : Row W b f) (c : Array Value) (t : TypeId) : Row (W.alloc (.cells c t)) b f :=
  h.kp (B := W.heap.size) ((Kp.refl _ _).alloc (Nat.le_refl _) c t) h.lt
theorem Row.new (W : World) (f : Nat → Int) (t : TypeId) {b : Nat} (hb : b = W.heap.size) : Row (W.alloc (.cells #[.int .i64 (f 0), .int .i64 (f 1), .int .i64 (f 2), .int .i64 (f 3), .int .i64 (f 4), .int .i64 (f 5), .int .i64 (f 6), .int .i64 (f 7)] t)) b f := by
  subst hb
  intro j hj
  rcases j with _ | _ | _ | _ | _ | _ | _ | _ | j
  all_goals first | omega | (simp [go_sem])
theorem Row.zero (W : World) (t : TypeId) {b : Nat} (hb : b = W.heap.size) : Row (W.alloc (.cells #[.int .i64 0, .int .i64 0, .int .i64 0, .int .i64 0, .int .i64 0, .int .i64 0, .int .i64 0, .int .i64 0] t)) b (fun _ => 0) := Row.new W (fun _ => 0) t hb
theorem Row.drew {W : World} {b : Nat} {f : Nat → Int} (h : Row W b f) : Row W.drew b f := h
theorem Row.drewN {W : World} {b : Nat} {f : Nat → Int} (h : Row W b f) (n : Nat) : Row (W.drewN n) b f := h
/-- all eight are written -/
theorem Row.all {W : World} {b : Nat} {f : Nat → Int} (h : Row W b f) (g : Nat → Int) :
    Row ((((((((W.setCell ⟨b, 0, none⟩ (.int .i64 (g 0))).setCell ⟨b, 1, none⟩ (.int .i64 (g 1))).setCell ⟨b, 2, none⟩ (.int .i64 (g 2))).setCell ⟨b, 3, none⟩ (.int .i64 (g 3))).setCell ⟨b, 4, none⟩ (.int .i64 (g 4))).setCell ⟨b, 5, none⟩ (.int .i64 (g 5))).setCell ⟨b, 6, none⟩ (.int .i64 (g 6))).setCell ⟨b, 7, none⟩ (.int .i64 (g 7))) b g := by
  refine ((((((((h.set (k := 0) (by omega) _).set (k := 1) (by omega) _).set (k := 2) (by omega) _).set (k := 3) (by omega) _).set (k := 4) (by omega) _).set (k := 5) (by omega) _).set (k := 6) (by omega) _).set (k := 7) (by omega) _).congr ?_
  intro j hj
  rcases j with _ | _ | _ | _ | _ | _ | _ | _ | j
  all_goals first | omega | rfl | simp
/-- .. of another block -/
theorem Row.past {W : World} {b c : Nat} {f : Nat → Int} (h : Row W b f) (hc : c ≠ b) (v0 v1 v2 v3 v4 v5 v6 v7 : Value) :
    Row ((((((((W.setCell ⟨c, 0, none⟩ v0).setCell ⟨c, 1, none⟩ v1).setCell ⟨c, 2, none⟩ v2).setCell ⟨c, 3, none⟩ v3).setCell ⟨c, 4, none⟩ v4).setCell ⟨c, 5, none⟩ v5).setCell ⟨c, 6, none⟩ v6).setCell ⟨c, 7, none⟩ v7) b f :=
  (((((((h.other hc _).other hc _).other hc _).other hc _).other hc _).other hc _).other hc _).other hc _
theorem Kp.all {B : Nat} {a w : World} (h : Kp B a w) {c : Nat} (hc : B ≤ c) (v0 v1 v2 v3 v4 v5 v6 v7 : Value) :
    Kp B a ((((((((w.setCell ⟨c, 0, none⟩ v0).setCell ⟨c, 1, none⟩ v1).setCell ⟨c, 2, none⟩ v2).setCell ⟨c, 3, none⟩ v3).setCell ⟨c, 4, none⟩ v4).setCell ⟨c, 5, none⟩ v5).setCell ⟨c, 6, none⟩ v6).setCell ⟨c, 7, none⟩ v7) :=
  (((((((h.setCell (p := ⟨c, 0, none⟩) hc _).setCell (p := ⟨c, 1, none⟩) hc _).setCell (p := ⟨c, 2, none⟩) hc _).setCell (p := ⟨c, 3, none⟩) hc _).setCell (p := ⟨c, 4, none⟩) hc _).setCell (p := ⟨c, 5, none⟩) hc _).setCell (p := ⟨c, 6, none⟩) hc _).setCell (p := ⟨c, 7, none⟩) hc _
theorem ret_d {f g : Nat → Int} (h : ∀ j, j < 8 → f j = g j) : Ending.returned (.agg #[.int .i64 (f 0), .int .i64 (f 1), .int .i64 (f 2), .int .i64 (f 3), .int .i64 (f 4), .int .i64 (f 5), .int .i64 (f 6), .int .i64 (f 7)]) =
    .returned (.agg #[.int .i64 (g 0), .int .i64 (g 1), .int .i64 (g 2), .int .i64 (g 3), .int .i64 (g 4), .int .i64 (g 5), .int .i64 (g 6), .int .i64 (g 7)]) := by
  rw [h 0 (by omega), h 1 (by omega), h 2 (by omega), h 3 (by omega), h 4 (by omega), h 5 (by omega), h 6 (by omega), h 7 (by omega)]

set_option maxHeartbeats 400000 in
theorem rof_any (n : Int) (w : World) (h : -9223372036854775808 ≤ n ∧ n ≤ 9223372036854775807) :
    Calls Try.prog 37 #[.int .i64 n] w fun e w' => e = .returned (.agg #[.int .i64 (Wd.dg (n) 0), .int .i64 (Wd.dg (n) 1), .int .i64 (Wd.dg (n) 2), .int .i64 (Wd.dg (n) 3), .int .i64 (Wd.dg (n) 4), .int .i64 (Wd.dg (n) 5), .int .i64 (Wd.dg (n) 6), .int .i64 (Wd.dg (n) 7)]) ∧ Kp w.heap.size w w' := by
  go_enter Try.func37, Try.ntmps37
  go_wp2
  go_loopw [4, 5] (fun u i wr => ∃ k : Nat, k ≤ 8 ∧ i = .int .i64 k ∧ u = .int .u64 (Wd.ofU n k) ∧ Row wr w.heap.size (fun _ => 0) ∧ Row wr (w.heap.size + 1) (Wd.ofD n k) ∧ Kp w.heap.size w wr) (fun _ i _ => 8 - (intOf i).toNat)
  case atStart =>
    refine ⟨0, by omega, rfl, by rw [IntKind.wrap_u64, Wd.ofU_zero], (Row.zero w _ rfl).alloc _ _, (Row.zero _ _ (by simp)).congr (fun _ _ => rfl), ((Kp.refl _ _).alloc (Nat.le_refl _) _ _).alloc (by simp) _ _⟩
  case round =>
    obtain ⟨k, hk, rfl, rfl, hQ, hR, hK⟩ := hrel
    have hc := hR.cell
    have hf := hR.froz
    have hd := hQ.cell
    have hg := hQ.froz
    have HQ := Lib.hid hQ
    have HR := Lib.hid hR
    have HK := Lib.hid hK
    clear hQ hR hK
    obtain ⟨hu1, hu2⟩ := Wd.ofU_bd n k
    by_cases hlt : k < 8
    · by_cases h4 : k < 4
      · go_wp2
        refine ⟨⟨k + 1, by omega, by go_num, by rw [Wd.ofU_succ], HQ.out.other (by simp) _, ((HR.out.set hlt _).congr fun j _ => ?_), HK.out.setCell (by simp) _⟩, by simp [intOf]; omega⟩
        show (if j = k then _ else _) = _
        rw [Wd.ofU_dg n h4, Wd.ofD_succ]
      · by_cases h0 : n < 0
        · go_wp2
          refine ⟨⟨k + 1, by omega, by go_num, by rw [Wd.ofU_late n (by omega)], HQ.out.other (by simp) _, ((HR.out.set hlt _).congr fun j _ => ?_), HK.out.setCell (by simp) _⟩, by simp [intOf]; omega⟩
          show (if j = k then _ else _) = _
          rw [← Wd.dg_neg h0 h.1 (k := k) (by omega) hlt, Wd.ofD_succ]
        · go_wp2
          refine ⟨⟨k + 1, by omega, by go_num, by rw [Wd.ofU_late n (by omega)], HQ.out, (HR.out.congr fun j _ => ?_), HK.out⟩, by simp [intOf]; omega⟩
          rw [← Wd.ofD_succ]
          by_cases e : j = k
          · subst e; rw [if_pos rfl, Wd.dg_pos (by omega) h.2 (by omega) hlt]; unfold Wd.ofD; rw [if_neg (by omega)]
          · rw [if_neg e]
    · obtain rfl : k = 8 := by omega
      go_wp2
      refine bodyPost_ret (v := .agg #[.int .i64 (Wd.ofD n 8 0), .int .i64 (Wd.ofD n 8 1), .int .i64 (Wd.ofD n 8 2), .int .i64 (Wd.ofD n 8 3), .int .i64 (Wd.ofD n 8 4), .int .i64 (Wd.ofD n 8 5), .int .i64 (Wd.ofD n 8 6), .int .i64 (Wd.ofD n 8 7)])
        (by simp [results, Try.results37, go_sem, *]) rfl ⟨ret_d fun j hj => Wd.ofD_all n hj, HK.out.all (Nat.le_refl _) _ _ _ _ _ _ _ _⟩
end Go.Proofs.Ytfhlnldiljldcaa
