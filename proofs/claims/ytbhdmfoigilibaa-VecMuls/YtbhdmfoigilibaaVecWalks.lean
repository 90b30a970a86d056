/-
  Contracts of layer 5 (vec), the small functions: what they return, for every input; what stood in memory stands.
-/
import Derived.Test.YtbhdmfoigilibaaRows
import Derived.WalkKit
import Derived.WalkSpells
import Derived.WalkLawsBesides
import Derived.ProofKit
import Derived.OpenShut
import Derived.Below
import Derived.Lib.Hide
import Derived.Handy
import Derived.Deep.QuietTactic
import Derived.BigQuiet
import Derived.Deep.RegionHeld3
import Derived.Deep.LoopGhost
import Derived.Deep.MidRow
import Derived.Test.YtbhdmfoigilibaaVecPlain
namespace Go.Proofs.Ytbhdmfoigilibaa
open Go.RowKit

theorem ret_int {k : IntKind} {a b : Int} (h : a = b) : Ending.returned (.int k a) = .returned (.int k b) := by rw [h]
theorem ret_bool {a b : Bool} (h : a = b) : Ending.returned (.bool a) = .returned (.bool b) := by rw [h]

/-- of what was there nothing has turned below block number B, and no mark of what may be written -/
structure Kp (B : Nat) (w w' : World) : Prop where
  below : Below B w w'
  frozen : ∀ a, w'.frozen? a = w.frozen? a
theorem Kp.refl (B : Nat) (w : World) : Kp B w w := ⟨Below.refl _ _, fun _ => rfl⟩
theorem Kp.trans {B : Nat} {a b c : World} (h : Kp B a b) (k : Kp B b c) : Kp B a c := ⟨h.below.trans k.below, fun x => (k.frozen x).trans (h.frozen x)⟩
theorem Kp.mono {B B' : Nat} {a b : World} (h : Kp B a b) (hB : B' ≤ B) : Kp B' a b := ⟨h.below.mono hB, h.frozen⟩
theorem Kp.alloc {B : Nat} {a w : World} (h : Kp B a w) (hB : B ≤ w.heap.size) (c : Array Value) (t : TypeId) : Kp B a (w.alloc (.cells c t)) :=
  ⟨h.below.alloc hB _, fun x => (frozen?_alloc_cells w c t x).trans (h.frozen x)⟩
theorem Kp.setCell {B : Nat} {a w : World} (h : Kp B a w) {p : Addr} (hp : B ≤ p.block) (u : Value) : Kp B a (w.setCell p u) :=
  ⟨h.below.setCell hp u, fun x => (by rw [World.frozen?_setCell]; exact h.frozen x)⟩
theorem Kp.drew {B : Nat} {a w : World} (h : Kp B a w) : Kp B a w.drew := ⟨h.below.drew, h.frozen⟩
theorem Kp.drewN {B : Nat} {a w : World} (h : Kp B a w) (n : Nat) : Kp B a (w.drewN n) := ⟨⟨h.below.os, h.below.tape, h.below.output, h.below.size, h.below.block⟩, h.frozen⟩
theorem Kp.next {a b c : World} (h : Kp a.heap.size a b) (k : Kp b.heap.size b c) : Kp a.heap.size a c := h.trans (k.mono h.below.size)
theorem Kp.grown {a b : World} (h : Kp a.heap.size a b) : Grown a b := ⟨h.below.frame _, h.frozen, h.below.size⟩
theorem Kp.cells {B : Nat} {w w' : World} (h : Kp B w w') : ∀ b o, b < B → w'.cell? ⟨b, o, none⟩ = w.cell? ⟨b, o, none⟩ := fun b o hb => h.below.cell (p := ⟨b, o, none⟩) hb
theorem Kp.size {B : Nat} {w w' : World} (h : Kp B w w') : w.heap.size ≤ w'.heap.size := h.below.size

/-- a block holds n ints, and may be written -/
def Rw (n : Nat) (W : World) (b : Nat) (f : Nat → Int) : Prop := ∀ j, j < n → W.cell? ⟨b, j, none⟩ = some (.int .i64 (f j)) ∧ W.frozen? ⟨b, j, none⟩ = false
section
variable {n : Nat} {W W' : World} {b : Nat} {f g : Nat → Int}
theorem Rw.cell (h : Rw n W b f) : ∀ j, j < n → W.cell? ⟨b, j, none⟩ = some (.int .i64 (f j)) := fun j hj => (h j hj).1
theorem Rw.froz (h : Rw n W b f) : ∀ j, j < n → W.frozen? ⟨b, j, none⟩ = false := fun j hj => (h j hj).2
theorem Rw.set (h : Rw n W b f) {k : Nat} (hk : k < n) (v : Int) : Rw n (W.setCell ⟨b, k, none⟩ (.int .i64 v)) b (fun j => if j = k then v else f j) := by
  intro j hj
  refine ⟨?_, by rw [World.frozen?_setCell]; exact (h j hj).2⟩
  by_cases e : j = k
  · subst e
    show _ = some (Value.int .i64 (if j = j then v else f j))
    rw [if_pos rfl]
    exact World.cell?_setCell_same _ _ _ (h j hj).1
  · show _ = some (Value.int .i64 (if j = k then v else f j))
    rw [if_neg e, World.cell?_setCell_other]
    · exact (h j hj).1
    · simp only [ne_eq, Addr.mk.injEq, true_and, and_true]; omega
theorem Rw.other (h : Rw n W b f) {p : Addr} (hp : p.block ≠ b) (u : Value) : Rw n (W.setCell p u) b f := fun j hj =>
  ⟨by rw [World.cell?_setCell_far _ _ _ _ hp]; exact (h j hj).1, by rw [World.frozen?_setCell]; exact (h j hj).2⟩
theorem Rw.kp {B : Nat} (h : Rw n W b f) (hk : Kp B W W') (hb : b < B) : Rw n W' b f := fun j hj =>
  ⟨by rw [hk.cells b j hb]; exact (h j hj).1, by rw [hk.frozen]; exact (h j hj).2⟩
theorem Rw.congr (h : Rw n W b f) (e : ∀ j, j < n → f j = g j) : Rw n W b g := fun j hj => by rw [← e j hj]; exact h j hj
theorem Rw.lt (h : Rw n W b f) (hn : 0 < n) : b < W.heap.size := World.block_lt_of_cell? W ⟨b, 0, none⟩ (h 0 hn).1
theorem Rw.drew (h : Rw n W b f) : Rw n W.drew b f := h
theorem Rw.drewN (h : Rw n W b f) (k : Nat) : Rw n (W.drewN k) b f := h
theorem Rw.call (h : Rw n W b f) (hn : 0 < n) (hk : Kp W.heap.size W W') : Rw n W' b f := h.kp hk (h.lt hn)
theorem Rw.alloc (h : Rw n W b f) (hn : 0 < n) (c : Array Value) (t : TypeId) : Rw n (W.alloc (.cells c t)) b f := h.call hn ((Kp.refl _ _).alloc (Nat.le_refl _) c t)
end
theorem Rw.new4 (W : World) (f : Nat → Int) (t : TypeId) {b : Nat} (hb : b = W.heap.size) : Rw 4 (W.alloc (.cells #[.int .i64 (f 0), .int .i64 (f 1), .int .i64 (f 2), .int .i64 (f 3)] t)) b f := by
  subst hb
  intro j hj
  rcases j with _ | _ | _ | _ | j
  all_goals first | omega | (simp [go_sem])
/-- the sixteen cells of a matrix -/
def Vc.ls (m : Nat → Int) : List Value := (List.range 16).map fun j => .int .i64 (m j)
def Vc.ar (m : Nat → Int) : Array Value := (Vc.ls m).toArray
theorem Vc.ls_len (m : Nat → Int) : (Vc.ls m).length = 16 := by simp [Vc.ls]
theorem Vc.ar_size (m : Nat → Int) : (Vc.ar m).size = 16 := by simp [Vc.ar, Vc.ls_len]
theorem Vc.ls_get (m : Nat → Int) {j : Nat} (hj : j < 16) : (Vc.ls m)[j]? = some (.int .i64 (m j)) := by simp [Vc.ls, hj]
theorem Vc.ar_get (m : Nat → Int) {j : Nat} (hj : j < 16) : (Vc.ar m)[j]? = some (.int .i64 (m j)) := by simp [Vc.ar, Vc.ls_get m hj]
theorem Vc.ls_some {m : Nat → Int} {j : Nat} {v : Value} (h : (Vc.ls m)[j]? = some v) : j < 16 ∧ v = .int .i64 (m j) := by
  have hj : j < 16 := by
    have := (List.getElem?_eq_some_iff.1 h).1
    rwa [Vc.ls_len] at this
  rw [Vc.ls_get m hj] at h
  exact ⟨hj, (Option.some.inj h).symm⟩
theorem Vc.ar_congr {f g : Nat → Int} (h : ∀ j, j < 16 → f j = g j) : Vc.ar f = Vc.ar g := by
  unfold Vc.ar Vc.ls
  congr 1
  apply List.map_congr_left
  intro j hj
  rw [h j (List.mem_range.1 hj)]
theorem Rw.new16 (W : World) (f : Nat → Int) (t : TypeId) {b : Nat} (hb : b = W.heap.size) : Rw 16 (W.alloc (.cells (Vc.ar f) t)) b f := by
  subst hb
  intro j hj
  have h := heap_alloc_new W (.cells (Vc.ar f) t)
  exact ⟨by rw [cell_of_row _ _ j _ _ _ h, Vc.ar_get f hj], frozen_of_row _ _ j _ _ h⟩
theorem Vc.ar_zero : (#[.int .i64 0, .int .i64 0, .int .i64 0, .int .i64 0, .int .i64 0, .int .i64 0, .int .i64 0, .int .i64 0, .int .i64 0, .int .i64 0, .int .i64 0, .int .i64 0, .int .i64 0, .int .i64 0, .int .i64 0, .int .i64 0] : Array Value) = Vc.ar fun _ => 0 := rfl
theorem Rw.zero16 (W : World) (t : TypeId) {b : Nat} (hb : b = W.heap.size) : Rw 16 (W.alloc (.cells #[.int .i64 0, .int .i64 0, .int .i64 0, .int .i64 0, .int .i64 0, .int .i64 0, .int .i64 0, .int .i64 0, .int .i64 0, .int .i64 0, .int .i64 0, .int .i64 0, .int .i64 0, .int .i64 0, .int .i64 0, .int .i64 0] t)) b (fun _ => 0) := by
  rw [Vc.ar_zero]; exact Rw.new16 W _ t hb
theorem Rw.range {W : World} {b : Nat} {f : Nat → Int} (h : Rw 16 W b f) : W.rangeAt b 0 (Vc.ls f) := fun j v hv => by
  obtain ⟨hj, rfl⟩ := Vc.ls_some hv
  rw [Nat.zero_add]; exact (h j hj).1
theorem Rw.there {W : World} {b : Nat} {f : Nat → Int} (h : Rw 16 W b f) (g : Nat → Int) : W.there b 0 (Vc.ar g).size := fun j hj => by
  rw [Vc.ar_size] at hj
  rw [Nat.zero_add]; exact ⟨by rw [(h j hj).1]; rfl, (h j hj).2⟩
/-- only block b was written -/
structure St (b : Nat) (w w' : World) : Prop where
  cells : ∀ c o, c ≠ b → w'.cell? ⟨c, o, none⟩ = w.cell? ⟨c, o, none⟩
  frozen : ∀ a, w'.frozen? a = w.frozen? a
  size : w'.heap.size = w.heap.size
  below : ∀ B, B ≤ b → Below B w w'
theorem St.kp {b B : Nat} {a w w' : World} (h : St b w w') (hk : Kp B a w) (hb : B ≤ b) : Kp B a w' := ⟨hk.below.trans (h.below B hb), fun x => (h.frozen x).trans (hk.frozen x)⟩
theorem St.rw {n b c : Nat} {w w' : World} {f : Nat → Int} (h : St b w w') (hr : Rw n w c f) (hc : c ≠ b) : Rw n w' c f := fun j hj => ⟨by rw [h.cells c j hc]; exact (hr j hj).1, by rw [h.frozen]; exact (hr j hj).2⟩
theorem St.setCells {w : World} {b : Nat} (vs : List Value) : St b w (w.setCells b 0 vs) := by
  suffices h : ∀ (vs : List Value) (o : Nat) (w : World), St b w (w.setCells b o vs) from h vs 0 w
  intro vs
  induction vs with
  | nil => intro o w; exact ⟨fun _ _ _ => rfl, fun _ => rfl, rfl, fun B _ => Below.refl _ _⟩
  | cons v vs ih =>
    intro o w
    have h := ih (o + 1) (w.setCell ⟨b, o, none⟩ v)
    refine ⟨fun c k hc => ?_, fun a => ?_, ?_, fun B hB => ?_⟩
    · exact (h.cells c k hc).trans (World.cell?_setCell_far _ _ _ _ (Ne.symm hc))
    · exact (h.frozen a).trans (World.frozen?_setCell _ _ _ _)
    · exact h.size.trans (World.size_setCell _ _ _)
    · exact ((Below.refl B w).setCell (p := ⟨b, o, none⟩) hB v).trans (h.below B hB)
theorem Rw.store {w : World} {b : Nat} {f : Nat → Int} (h : Rw 16 w b f) (g : Nat → Int) : Rw 16 (w.setCells b 0 (Vc.ar g).toList) b g := by
  intro j hj
  have ht := h.there g
  have hr := World.rangeAt_setCells_same w b 0 (Vc.ar g).toList (by simpa using ht)
  refine ⟨?_, ((St.setCells _).frozen _).trans (h j hj).2⟩
  have := hr j (.int .i64 (g j)) (by rw [Array.getElem?_toList]; exact Vc.ar_get g hj)
  rwa [Nat.zero_add] at this
theorem sz16 : (Try.prog.info? 23).map (·.size) = some 16 := by kernel_rfl

/-- a matrix is read -/
theorem wpList_ld {ops : Array Oper} {rest : List Oper} {op : Oper} {a : Act} {w : World} {Q : Exit → Act → World → Prop} (hgd : op.guard = none) (x : Operand) (ho : op.op = .load 23 x)
    (b : Nat) (hx : a.eval x = .pointer (some ⟨b, 0, none⟩)) (m : Nat → Int) (hR : Rw 16 w b m)
    (h : wpList Try.prog ops Q rest (a.put op.dst (.agg (Vc.ar m))) w) : wpList Try.prog ops Q (op :: rest) a w :=
  wpList_load_mid hgd 23 x ho b 0 hx (Vc.ls m) _ hR.range Try.underlying23 rfl (by rw [Vc.ls_len]; exact sz16) h
/-- a matrix is written -/
theorem wpList_st {ops : Array Oper} {rest : List Oper} {op : Oper} {a : Act} {w : World} {Q : Exit → Act → World → Prop} (hgd : op.guard = none) (x y : Operand) (ho : op.op = .store 23 x y)
    (b : Nat) (hx : a.eval x = .pointer (some ⟨b, 0, none⟩)) (m : Nat → Int) (hy : a.eval y = .agg (Vc.ar m)) {f : Nat → Int} (hR : Rw 16 w b f)
    (h : ∀ w', Rw 16 w' b m → St b w w' → wpList Try.prog ops Q rest (a.put op.dst undef) w') : wpList Try.prog ops Q (op :: rest) a w :=
  wpList_store_mid hgd 23 x y ho b 0 (Vc.ar m) hx hy (hR.there m) (by rw [Vc.ar_size]; exact sz16) (by simp [Vc.ar, Vc.ls, Value.oneCell']) (h _ (hR.store m) (St.setCells _))

theorem run_ldM {w : World} {b : Nat} {m : Nat → Int} (hR : Rw 16 w b m) : (loadVar 23 ⟨b, 0, none⟩).run Try.prog w = .ok (.agg (Vc.ar m)) w :=
  run_loadVar_mid w b 0 23 (Vc.ls m) _ hR.range Try.underlying23 rfl (by rw [Vc.ls_len]; exact sz16)
theorem results_m {fn : Func} {p : Tmp} (h : fn.results = #[.cell p 23]) {tmps : Array Value} {w : World} {b : Nat} {m : Nat → Int}
    (hp : tmps.getD p undef = .pointer (some ⟨b, 0, none⟩)) (hR : Rw 16 w b m) : (results fn tmps).run Try.prog w = .ok (.agg (Vc.ar m)) w := by
  have hp' : tmps[p]?.getD undef = .pointer (some ⟨b, 0, none⟩) := by simpa using hp
  simp [results, h, hp', asAddr, run_ldM hR]
theorem results_m2 {fn : Func} {p q : Tmp} (h : fn.results = #[.cell p 23, .tmp q]) {tmps : Array Value} {w : World} {b : Nat} {m : Nat → Int} {v : Value}
    (hp : tmps.getD p undef = .pointer (some ⟨b, 0, none⟩)) (hq : tmps.getD q undef = v) (hR : Rw 16 w b m) : (results fn tmps).run Try.prog w = .ok (.tuple #[.agg (Vc.ar m), v]) w := by
  have hp' : tmps[p]?.getD undef = .pointer (some ⟨b, 0, none⟩) := by simpa using hp
  have hq' : tmps[q]?.getD undef = v := by simpa using hq
  simp [results, h, hp', hq', asAddr, run_ldM hR]

set_option maxHeartbeats 400000 in
theorem at_any (i j : Int) (w : World) (hi : 0 ≤ i ∧ i ≤ 3) (hj : 0 ≤ j ∧ j ≤ 3) :
    Calls Try.prog 25 #[.int .i64 i, .int .i64 j] w fun e w' => e = .returned (.int .i64 (i * 4 + j)) ∧ w = w' := by
  obtain ⟨hi1, hi2⟩ := hi
  obtain ⟨hj1, hj2⟩ := hj
  go_enter Try.func25, Try.ntmps25
  go_wp2
  go_ret
  exact ⟨rfl, rfl⟩

set_option maxHeartbeats 1000000 in
theorem within_any (most : Int) (f : Nat → Int) (n c b : Nat) (w : World) (hm : 0 ≤ most ∧ most ≤ 1073741824) (hn : n ≤ 16) (hc : ∀ j, j < n → w.cell? ⟨b, j, none⟩ = some (.int .i64 (f j))) :
    Calls Try.prog 20 #[.int .i64 most, .slice (some ⟨b, 0, none⟩) n c] w fun e w' => e = .returned (.bool (Vc.wi most f n)) ∧ w = w' := by
  obtain ⟨hm1, hm2⟩ := hm
  go_enter Try.func20, Try.ntmps20
  go_wp2
  go_loop [9] (fun i => ∃ k : Nat, k ≤ n ∧ i = .int .i64 k ∧ ∀ j, j < k → -most ≤ f j ∧ f j ≤ most) (fun i => n - (intOf i).toNat)
  case atStart => exact ⟨0, Nat.zero_le _, rfl, fun j hj => by omega⟩
  case round =>
    obtain ⟨k, hk, rfl, hall⟩ := hrel
    have HA := Lib.hid hall
    clear hall
    by_cases hlt : k < n
    · have hcell := hc k hlt
      by_cases h1 : f k < -most
      · go_wp2
        go_ret
        exact ⟨ret_bool (Vc.wi_false hlt (by omega)).symm, rfl⟩
      · by_cases h2 : f k > most
        · have hd1 : decide (f k < -most) = false := by simpa using h1
          go_wp2
          go_ret
          exact ⟨ret_bool (Vc.wi_false hlt (by omega)).symm, rfl⟩
        · have hd1 : decide (f k < -most) = false := by simpa using h1
          have hd2 : decide (most < f k) = false := by simpa using h2
          go_wp2
          go_round
          case rel =>
            refine ⟨k + 1, by omega, by go_num, fun j hj => ?_⟩
            by_cases e : j = k
            · subst e; omega
            · exact HA.out j (by omega)
          case measure => simp [intOf]; omega
    · obtain rfl : k = n := by omega
      go_wp2
      go_ret
      exact ⟨ret_bool (Vc.wi_true HA.out).symm, rfl⟩
end Go.Proofs.Ytbhdmfoigilibaa
