/-
  VecTurns: its Go text returns true.
-/
import Derived.Test.YtbhdmfoigilibaaDoorVecTurnPlain
import Derived.Deep.DeepCutAuto
namespace Go.Proofs.YtbhdmfoigilibaaDoor
open Go.RowKit

/-- the law's own blocks: the vector, matrices, vectors; the table of sines -/
structure Tn (w W : World) (v : Nat → Int) (ms vs : List (Nat × (Nat → Int))) : Prop where
  v : Rw 4 W w.heap.size v
  k : Kp w.heap.size w W
  s : Sn W
  ms : ∀ q, q ∈ ms → Rw 16 W q.1 q.2
  vs : ∀ q, q ∈ vs → Rw 4 W q.1 q.2
section
variable {w W W' : World} {v : Nat → Int} {ms vs : List (Nat × (Nat → Int))}
theorem Tn.call (h : Tn w W v ms vs) (k : Kp W.heap.size W W') : Tn w W' v ms vs :=
  ⟨h.v.call (by omega) k, h.k.trans (k.mono h.k.size), h.s.call k, fun q hq => (h.ms q hq).call (by omega) k, fun q hq => (h.vs q hq).call (by omega) k⟩
theorem Tn.putM (h : Tn w W v ms vs) {cc : Array Value} {t : TypeId} {m : Nat → Int} (s : St W.heap.size (W.alloc (.cells cc t)) W') (r : Rw 16 W' W.heap.size m) : Tn w W' v ((W.heap.size, m) :: ms) vs := by
  have h2 := h.call ((Kp.refl _ _).alloc (Nat.le_refl _) cc t)
  refine ⟨s.rw h2.v (Nat.ne_of_lt (h.v.lt (by omega))), s.kp h2.k h.k.size, fun j hj => by rw [s.cells _ _ (Nat.ne_of_lt h.s.lt)]; exact h2.s j hj, fun q hq => ?_, fun q hq => s.rw (h2.vs q hq) (Nat.ne_of_lt ((h.vs q hq).lt (by omega)))⟩
  rcases List.mem_cons.1 hq with rfl | hq
  · exact r
  · exact s.rw (h2.ms q hq) (Nat.ne_of_lt ((h.ms q hq).lt (by omega)))
theorem Tn.putV (h : Tn w W v ms vs) (g : Nat → Int) (t : TypeId) : Tn w (W.alloc (.cells #[.int .i64 (g 0), .int .i64 (g 1), .int .i64 (g 2), .int .i64 (g 3)] t)) v ms ((W.heap.size, g) :: vs) := by
  have h2 := h.call ((Kp.refl _ _).alloc (Nat.le_refl _) #[.int .i64 (g 0), .int .i64 (g 1), .int .i64 (g 2), .int .i64 (g 3)] t)
  refine ⟨h2.v, h2.k, h2.s, h2.ms, fun q hq => ?_⟩
  rcases List.mem_cons.1 hq with rfl | hq
  · exact Rw.new4 _ g t rfl
  · exact h2.vs q hq
theorem Tn.stV {b b7 b9 : Nat} {f g m f9 : Nat → Int} (h : Tn w W v [(b7, m)] [(b, f), (b9, f9)]) (s : St b W W') (r : Rw 4 W' b g) (h7 : b7 < b) (h9 : b9 < b) (hw : w.heap.size < b) (h0 : 0 < b) : Tn w W' v [(b7, m)] [(b, g), (b9, f9)] := by
  refine ⟨s.rw h.v (Nat.ne_of_lt hw), s.kp h.k (Nat.le_of_lt hw), fun j hj => by rw [s.cells _ _ (Nat.ne_of_lt h0)]; exact h.s j hj, fun q hq => ?_, fun q hq => ?_⟩
  · obtain rfl : q = (b7, m) := by simpa using hq
    exact s.rw (h.ms _ (by simp)) (Nat.ne_of_lt h7)
  · obtain rfl | rfl : q = (b, g) ∨ q = (b9, f9) := by simpa using hq
    · exact r
    · exact s.rw (h.vs _ (by simp)) (Nat.ne_of_lt h9)
theorem Tn.m1 {q : Nat × (Nat → Int)} (h : Tn w W v (q :: ms) vs) : Rw 16 W q.1 q.2 := h.ms q (by simp)
theorem Tn.v1 {q : Nat × (Nat → Int)} (h : Tn w W v ms (q :: vs)) : Rw 4 W q.1 q.2 := h.vs q (by simp)
theorem Tn.v2 {q q' : Nat × (Nat → Int)} (h : Tn w W v ms (q' :: q :: vs)) : Rw 4 W q.1 q.2 := h.vs q (by simp)
end
theorem Tn.new (w : World) (v : Nat → Int) (t : TypeId) (hs : Sn w) : Tn w (w.alloc (.cells #[.int .i64 (v 0), .int .i64 (v 1), .int .i64 (v 2), .int .i64 (v 3)] t)) v [] [] :=
  ⟨Rw.new4 w v t rfl, (Kp.refl _ _).alloc (Nat.le_refl _) _ _, hs.call ((Kp.refl _ _).alloc (Nat.le_refl _) _ _), fun q hq => by simp at hq, fun q hq => by simp at hq⟩

set_option maxRecDepth 100000 in
set_option maxHeartbeats 4000000 in
theorem turns_no (ax q : Int) (v : Nat → Int) (w : World) (h : ax < 0 ∨ 2 < ax) (hs : Sn w) :
    Calls Tryd.prog 3 #[.int .i64 ax, .int .i64 q, .agg #[.int .i64 (v 0), .int .i64 (v 1), .int .i64 (v 2), .int .i64 (v 3)]] w fun e w' => e = .returned (.bool true) ∧ Kp w.heap.size w w' := by
  have HL := Lib.hid (Tn.new w v 23 hs)
  have hEM := run_eqM_zero
  have HN := Lib.hid h
  clear hs
  rcases h with h | h
  · go_enter Tryd.func3, Tryd.ntmps3
    go_wp2_with (first | go_skip | (go_at_call 4; refine (turn_no ax q _ HN.out).mono ?_; rintro e w1 ⟨rfl, hk⟩; have l2 := HL.out.call hk; clear hk; clear HL; have HL := Lib.hid l2; clear l2) | ((with_reducible show wpList _ _ _ ({ dst := _, op := Op.store 25 _ _, type := _, pos := _, after := _, guard := _ } :: _) _ _); refine wpList_st rfl _ _ rfl _ rfl _ rfl (f := fun _ => 0) ?_ ?_; (exact Rw.zero16 w1 _ rfl); intro w2 hr hs; have l2 := HL.out.putM hs hr; clear hr hs; clear HL; have HL := Lib.hid l2; clear l2) | ((with_reducible show wpList _ _ _ ({ dst := _, op := Op.load 25 _, type := _, pos := _, after := _, guard := _ } :: _) _ _); refine wpList_ldg rfl _ rfl _ rfl (fun _ => 0) ?_ ?_; (exact HL.out.m1)) | (go_at_call 5; refine (awake_any _).mono ?_; rintro e w' ⟨rfl, hk⟩; have l2 := HL.out.call hk; clear hk; clear HL; have HL := Lib.hid l2; clear l2) | (go_at_call 7; refine (rfits_any v _).mono ?_; rintro e w6 ⟨rfl, hk⟩; have l2 := HL.out.call hk; clear hk; clear HL; have HL := Lib.hid l2; clear l2))
    go_ret
    exact ⟨rfl, HL.out.k⟩
  · have hd : decide (ax < 0) = false := decide_eq_false (by omega)
    go_enter Tryd.func3, Tryd.ntmps3
    go_wp2_with (first | go_skip | (go_at_call 4; refine (turn_no ax q _ HN.out).mono ?_; rintro e w1 ⟨rfl, hk⟩; have l2 := HL.out.call hk; clear hk; clear HL; have HL := Lib.hid l2; clear l2) | ((with_reducible show wpList _ _ _ ({ dst := _, op := Op.store 25 _ _, type := _, pos := _, after := _, guard := _ } :: _) _ _); refine wpList_st rfl _ _ rfl _ rfl _ rfl (f := fun _ => 0) ?_ ?_; (exact Rw.zero16 w1 _ rfl); intro w2 hr hs; have l2 := HL.out.putM hs hr; clear hr hs; clear HL; have HL := Lib.hid l2; clear l2) | ((with_reducible show wpList _ _ _ ({ dst := _, op := Op.load 25 _, type := _, pos := _, after := _, guard := _ } :: _) _ _); refine wpList_ldg rfl _ rfl _ rfl (fun _ => 0) ?_ ?_; (exact HL.out.m1)) | (go_at_call 5; refine (awake_any _).mono ?_; rintro e w' ⟨rfl, hk⟩; have l2 := HL.out.call hk; clear hk; clear HL; have HL := Lib.hid l2; clear l2) | (go_at_call 7; refine (rfits_any v _).mono ?_; rintro e w6 ⟨rfl, hk⟩; have l2 := HL.out.call hk; clear hk; clear HL; have HL := Lib.hid l2; clear l2))
    go_ret
    exact ⟨rfl, HL.out.k⟩

set_option maxRecDepth 100000 in
set_option maxHeartbeats 4000000 in
theorem turns_no2 (ax r : Nat) (q : Int) (v : Nat → Int) (w : World) (ha : ax < 3) (hr : r < 4) (hq : q % 4 = r) (hs : Sn w) (hv : Vc.wi 1073741824 v 4 = false) :
    Calls Tryd.prog 3 #[.int .i64 ax, .int .i64 q, .agg #[.int .i64 (v 0), .int .i64 (v 1), .int .i64 (v 2), .int .i64 (v 3)]] w fun e w' => e = .returned (.bool true) ∧ Kp w.heap.size w w' := by
  have HL := Lib.hid (Tn.new w v 23 hs)
  have HQ := Lib.hid hq
  have hd1 : decide ((ax : Int) < 0) = false := decide_eq_false (by omega)
  have hd2 : decide ((2 : Int) < ax) = false := decide_eq_false (by omega)
  clear hs hq
  go_enter Tryd.func3, Tryd.ntmps3
  go_upto_region 5 with (first | go_skip | (go_at_call 4; refine (turn_yes ax r q _ ha hr HQ.out HL.out.s).mono ?_; rintro e w1 ⟨rfl, hk⟩; have l2 := HL.out.call hk; clear hk; clear HL; have HL := Lib.hid l2; clear l2) | ((with_reducible show wpList _ _ _ ({ dst := _, op := Op.store 25 _ _, type := _, pos := _, after := _, guard := _ } :: _) _ _); refine wpList_st rfl _ _ rfl _ rfl _ rfl (f := fun _ => 0) ?_ ?_; (exact Rw.zero16 w1 _ rfl); intro w2 hr hs; have l2 := HL.out.putM hs hr; clear hr hs; clear HL; have HL := Lib.hid l2; clear l2) | ((with_reducible show wpList _ _ _ ({ dst := _, op := Op.load 25 _, type := _, pos := _, after := _, guard := _ } :: _) _ _); refine wpList_ldg rfl _ rfl _ rfl (Vc.turn ax r) ?_ ?_; (exact HL.out.m1)) | ((with_reducible show wpList _ _ _ ({ dst := _, op := Op.load 23 _, type := _, pos := _, after := _, guard := _ } :: _) _ _); refine wpList_ld4g four_vec rfl _ rfl _ rfl v ?_ ?_; (exact HL.out.v)) | (go_at_call 6; refine (apply_no2 (Vc.turn ax r) v _ (Vc.turn_may ha hr) hv).mono ?_; rintro e w4 ⟨rfl, hk⟩; have l2 := HL.out.call hk; clear hk; clear HL; have HL := Lib.hid l2; clear l2))
  have l2 : Tn w (w4.alloc (.cells #[.int .i64 0, .int .i64 0, .int .i64 0, .int .i64 0] 23)) v _ _ := HL.out.call ((Kp.refl _ _).alloc (Nat.le_refl _) _ _)
  clear HL; have HL := Lib.hid l2; clear l2
  generalize hW : w4.alloc _ = W4 at *
  clear hW
  go_wp2_with (first | go_skip | ((with_reducible show wpList _ _ _ ({ dst := _, op := Op.load 23 _, type := _, pos := _, after := _, guard := _ } :: _) _ _); refine wpList_ld4g four_vec rfl _ rfl _ rfl v ?_ ?_; (exact HL.out.v)) | (go_at_call 5; refine (awake_any _).mono ?_; rintro e w' ⟨rfl, hk⟩; have l2 := HL.out.call hk; clear hk; clear HL; have HL := Lib.hid l2; clear l2) | (go_at_call 7; refine (rfits_any v _).mono ?_; rintro e w6 ⟨rfl, hk⟩; have l2 := HL.out.call hk; clear hk; clear HL; have HL := Lib.hid l2; clear l2))
  go_ret
  exact ⟨rfl, HL.out.k⟩
end Go.Proofs.YtbhdmfoigilibaaDoor
