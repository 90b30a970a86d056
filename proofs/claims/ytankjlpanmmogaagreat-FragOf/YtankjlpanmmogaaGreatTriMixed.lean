/-
  Contracts of layer 17 (tri): what is mixed, of what spots have.
-/
import Derived.Test.YtankjlpanmmogaaGreatTriBox
import Derived.Test.YtankjlpanmmogaaGreatJRegionOw
import Derived.BigGuard
namespace Go.Proofs.YtankjlpanmmogaaGreat
set_option maxRecDepth 100000
open Go.RowKit

section
variable {ty : TypeId} {n : Nat}
/-- what a call answers: a struct and two plain ones; a plain one, a struct (and a plain one) -/
theorem results_c3 (ht : Ty ty n) {fn : Func} {p q r : Tmp} (h : fn.results = #[.cell p ty, .tmp q, .tmp r]) {tmps : Array Value} {w : World} {b : Nat} {vs : List Value} {v u : Value}
    (hp : tmps.getD p undef = .pointer (some ⟨b, 0, none⟩)) (hq : tmps.getD q undef = v) (hr : tmps.getD r undef = u) (hl : vs.length = n) (hR : Rc w b vs) : (results fn tmps).run Tryz.prog w = .ok (.tuple #[.agg vs.toArray, v, u]) w := by
  have hp' : tmps[p]?.getD undef = .pointer (some ⟨b, 0, none⟩) := by simpa using hp
  have hq' : tmps[q]?.getD undef = v := by simpa using hq
  have hr' : tmps[r]?.getD undef = u := by simpa using hr
  simp [results, h, hp', hq', hr', asAddr, run_ldr ht hR hl]
theorem results_tc (ht : Ty ty n) {fn : Func} {p q : Tmp} (h : fn.results = #[.tmp q, .cell p ty]) {tmps : Array Value} {w : World} {b : Nat} {vs : List Value} {v : Value}
    (hp : tmps.getD p undef = .pointer (some ⟨b, 0, none⟩)) (hq : tmps.getD q undef = v) (hl : vs.length = n) (hR : Rc w b vs) : (results fn tmps).run Tryz.prog w = .ok (.tuple #[v, .agg vs.toArray]) w := by
  have hp' : tmps[p]?.getD undef = .pointer (some ⟨b, 0, none⟩) := by simpa using hp
  have hq' : tmps[q]?.getD undef = v := by simpa using hq
  simp [results, h, hp', hq', asAddr, run_ldr ht hR hl]
theorem results_tct (ht : Ty ty n) {fn : Func} {p q r : Tmp} (h : fn.results = #[.tmp q, .cell p ty, .tmp r]) {tmps : Array Value} {w : World} {b : Nat} {vs : List Value} {v u : Value}
    (hp : tmps.getD p undef = .pointer (some ⟨b, 0, none⟩)) (hq : tmps.getD q undef = v) (hr : tmps.getD r undef = u) (hl : vs.length = n) (hR : Rc w b vs) : (results fn tmps).run Tryz.prog w = .ok (.tuple #[v, .agg vs.toArray, u]) w := by
  have hp' : tmps[p]?.getD undef = .pointer (some ⟨b, 0, none⟩) := by simpa using hp
  have hq' : tmps[q]?.getD undef = v := by simpa using hq
  have hr' : tmps[r]?.getD undef = u := by simpa using hr
  simp [results, h, hp', hq', hr', asAddr, run_ldr ht hR hl]
end
theorem depth_any (s : Sn) (w : World) :
    Calls Tryz.prog 45 #[.agg #[.int .i64 (s 0), .int .i64 (s 1), .int .i64 (s 2), .int .i64 (s 3), .int .i64 (s 4), .int .i64 (s 5), .int .i64 (s 6), .int .i64 (s 7), .int .i64 (s 8)]] w fun e w' => e = .returned (.int .i64 (s 2)) ∧ Kp w.heap.size w w' := by
  have HO := Lib.hid ((Ow.refl w).newAt (w.heap.size) rfl (.int .i64 (s 0)) [.int .i64 (s 1), .int .i64 (s 2), .int .i64 (s 3), .int .i64 (s 4), .int .i64 (s 5), .int .i64 (s 6), .int .i64 (s 7), .int .i64 (s 8)] 26)
  have cc := (HO.out.at 0 rfl).cell 2 rfl
  go_enter Tryz.func45, Tryz.ntmps45
  go_upto_region 1 with fail
  generalize World.alloc _ _ = W at *
  go_wp2_with fail
  go_ret
  exact ⟨rfl, HO.out.k⟩
theorem over_of_any (s : Sn) (k p : Nat) (w : World) (hk : k < 6) (hP : Rc w p [.int .i64 k]) :
    Calls Tryz.prog 46 #[.agg #[.int .i64 (s 0), .int .i64 (s 1), .int .i64 (s 2), .int .i64 (s 3), .int .i64 (s 4), .int .i64 (s 5), .int .i64 (s 6), .int .i64 (s 7), .int .i64 (s 8)], .pointer (some ⟨p, 0, none⟩)] w fun e w' => e = .returned (.int .i64 (s (3 + k))) ∧ Kp w.heap.size w w' := by
  have HO := Lib.hid ((Ow.refl w).newAt (w.heap.size) rfl (.int .i64 (s 0)) [.int .i64 (s 1), .int .i64 (s 2), .int .i64 (s 3), .int .i64 (s 4), .int .i64 (s 5), .int .i64 (s 6), .int .i64 (s 7), .int .i64 (s 8)] 26)
  have cp := (hP.kp HO.out.k (hP.lt (by simp))).cell 0 rfl
  have cc := arr9_of (HO.out.at 0 rfl) k hk
  have z2 : (k : Int) < 6 := by omega
  generalize s (3 + k) = y at *
  clear hP
  go_enter Tryz.func46, Tryz.ntmps46
  go_upto_region 1 with fail
  generalize World.alloc _ _ = W at *
  go_wp2_with fail
  go_ret
  exact ⟨rfl, HO.out.k⟩
set_option linter.unusedSimpArgs false in
set_option maxRecDepth 100000 in
set_option maxHeartbeats 8000000 in
theorem mixed_z (a b c : Sn) (w0 w1 w2 : Int) (w : World) (hw : By.in3 0 4398046511104 w0 w1 w2 = true) (hv : By.in3 (-1073741824) 1073741824 (a 2) (b 2) (c 2) = true) (h0 : 0 < w0 + w1 + w2) :
    Calls Tryz.prog 44 #[.agg #[.int .i64 (a 0), .int .i64 (a 1), .int .i64 (a 2), .int .i64 (a 3), .int .i64 (a 4), .int .i64 (a 5), .int .i64 (a 6), .int .i64 (a 7), .int .i64 (a 8), .int .i64 (b 0), .int .i64 (b 1), .int .i64 (b 2), .int .i64 (b 3), .int .i64 (b 4), .int .i64 (b 5), .int .i64 (b 6), .int .i64 (b 7), .int .i64 (b 8), .int .i64 (c 0), .int .i64 (c 1), .int .i64 (c 2), .int .i64 (c 3), .int .i64 (c 4), .int .i64 (c 5), .int .i64 (c 6), .int .i64 (c 7), .int .i64 (c 8)], .agg #[.int .i64 w0, .int .i64 w1, .int .i64 w2], .func (Fn.func 45) #[] #[]] w fun e w' => e = .returned (.int .i64 (By.mix w0 w1 w2 (a 2) (b 2) (c 2))) ∧ Kp w.heap.size w w' := by
  have M1 := fun W => bymix_yes w0 w1 w2 (a 2) (b 2) (c 2) W hw hv h0
  have HX := Lib.hid (show w.heap.size < w.heap.size + 1 from Nat.lt_succ_self _)
  clear hw hv h0
  generalize By.mix w0 w1 w2 (a 2) (b 2) (c 2) = r at *
  have HO := Lib.hid ((((Ow.refl w).newAt (w.heap.size) rfl (.int .i64 (a 0)) [.int .i64 (a 1), .int .i64 (a 2), .int .i64 (a 3), .int .i64 (a 4), .int .i64 (a 5), .int .i64 (a 6), .int .i64 (a 7), .int .i64 (a 8), .int .i64 (b 0), .int .i64 (b 1), .int .i64 (b 2), .int .i64 (b 3), .int .i64 (b 4), .int .i64 (b 5), .int .i64 (b 6), .int .i64 (b 7), .int .i64 (b 8), .int .i64 (c 0), .int .i64 (c 1), .int .i64 (c 2), .int .i64 (c 3), .int .i64 (c 4), .int .i64 (c 5), .int .i64 (c 6), .int .i64 (c 7), .int .i64 (c 8)] 27).newAt (w.heap.size + 1) (by simp) (.int .i64 w0) [.int .i64 w1, .int .i64 w2] 94).newAt (w.heap.size + 2) (by simp) (.int .i64 0) [.int .i64 0, .int .i64 0] 94)
  go_enter Tryz.func44, Tryz.ntmps44
  go_wp2_with ((with_reducible show wpList _ _ _ ({ dst := _, op := Op.load 27 (Operand.tmp 3), type := _, pos := _, after := _, guard := _ } :: _) _ _); refine wpList_ldr ty_spots rfl _ rfl _ rfl _ rfl (HO.out.at 2 rfl) ?_)
  go_loopw [13] (fun i wr => (i = .int .i64 0 ∧ Ow w wr [(w.heap.size + 2, [.int .i64 0, .int .i64 0, .int .i64 0]), (w.heap.size + 1, [.int .i64 w0, .int .i64 w1, .int .i64 w2]), (w.heap.size, [.int .i64 (a 0), .int .i64 (a 1), .int .i64 (a 2), .int .i64 (a 3), .int .i64 (a 4), .int .i64 (a 5), .int .i64 (a 6), .int .i64 (a 7), .int .i64 (a 8), .int .i64 (b 0), .int .i64 (b 1), .int .i64 (b 2), .int .i64 (b 3), .int .i64 (b 4), .int .i64 (b 5), .int .i64 (b 6), .int .i64 (b 7), .int .i64 (b 8), .int .i64 (c 0), .int .i64 (c 1), .int .i64 (c 2), .int .i64 (c 3), .int .i64 (c 4), .int .i64 (c 5), .int .i64 (c 6), .int .i64 (c 7), .int .i64 (c 8)])]) ∨ (i = .int .i64 1 ∧ Ow w wr [(w.heap.size + 2, [.int .i64 (a 2), .int .i64 0, .int .i64 0]), (w.heap.size + 1, [.int .i64 w0, .int .i64 w1, .int .i64 w2]), (w.heap.size, [.int .i64 (a 0), .int .i64 (a 1), .int .i64 (a 2), .int .i64 (a 3), .int .i64 (a 4), .int .i64 (a 5), .int .i64 (a 6), .int .i64 (a 7), .int .i64 (a 8), .int .i64 (b 0), .int .i64 (b 1), .int .i64 (b 2), .int .i64 (b 3), .int .i64 (b 4), .int .i64 (b 5), .int .i64 (b 6), .int .i64 (b 7), .int .i64 (b 8), .int .i64 (c 0), .int .i64 (c 1), .int .i64 (c 2), .int .i64 (c 3), .int .i64 (c 4), .int .i64 (c 5), .int .i64 (c 6), .int .i64 (c 7), .int .i64 (c 8)])]) ∨ (i = .int .i64 2 ∧ Ow w wr [(w.heap.size + 2, [.int .i64 (a 2), .int .i64 (b 2), .int .i64 0]), (w.heap.size + 1, [.int .i64 w0, .int .i64 w1, .int .i64 w2]), (w.heap.size, [.int .i64 (a 0), .int .i64 (a 1), .int .i64 (a 2), .int .i64 (a 3), .int .i64 (a 4), .int .i64 (a 5), .int .i64 (a 6), .int .i64 (a 7), .int .i64 (a 8), .int .i64 (b 0), .int .i64 (b 1), .int .i64 (b 2), .int .i64 (b 3), .int .i64 (b 4), .int .i64 (b 5), .int .i64 (b 6), .int .i64 (b 7), .int .i64 (b 8), .int .i64 (c 0), .int .i64 (c 1), .int .i64 (c 2), .int .i64 (c 3), .int .i64 (c 4), .int .i64 (c 5), .int .i64 (c 6), .int .i64 (c 7), .int .i64 (c 8)])]) ∨ (i = .int .i64 3 ∧ Ow w wr [(w.heap.size + 2, [.int .i64 (a 2), .int .i64 (b 2), .int .i64 (c 2)]), (w.heap.size + 1, [.int .i64 w0, .int .i64 w1, .int .i64 w2]), (w.heap.size, [.int .i64 (a 0), .int .i64 (a 1), .int .i64 (a 2), .int .i64 (a 3), .int .i64 (a 4), .int .i64 (a 5), .int .i64 (a 6), .int .i64 (a 7), .int .i64 (a 8), .int .i64 (b 0), .int .i64 (b 1), .int .i64 (b 2), .int .i64 (b 3), .int .i64 (b 4), .int .i64 (b 5), .int .i64 (b 6), .int .i64 (b 7), .int .i64 (b 8), .int .i64 (c 0), .int .i64 (c 1), .int .i64 (c 2), .int .i64 (c 3), .int .i64 (c 4), .int .i64 (c 5), .int .i64 (c 6), .int .i64 (c 7), .int .i64 (c 8)])])) (fun i _ => emsr3 i)
  case atStart => exact .inl ⟨rfl, HO.out⟩
  case round =>
    clear HO
    rcases hrel with ⟨rfl, ho⟩ | ⟨rfl, ho⟩ | ⟨rfl, ho⟩ | ⟨rfl, ho⟩
    · skip
      have HO := Lib.hid (ho.newAt wr.heap.size rfl (.int .i64 (a 0)) [.int .i64 (a 1), .int .i64 (a 2), .int .i64 (a 3), .int .i64 (a 4), .int .i64 (a 5), .int .i64 (a 6), .int .i64 (a 7), .int .i64 (a 8)] 26)
      clear ho M1
      have IX := fun W => ix27_0 a b c W
      go_wp2_with (first
        | go_big_skip
        | ((with_reducible show wpList _ _ _ ({ dst := _, op := Op.load 26 (Operand.tmp 9), type := _, pos := _, after := _, guard := _ } :: _) _ _); refine wpList_ldr ty_spot rfl _ rfl _ rfl _ rfl (HO.out.at 0 rfl) ?_)
        | (go_at_call 45; (with_reducible refine (depth_any _ _).mono ?_); rintro e wz ⟨rfl, hk1⟩; have l2 := (HO.out.call hk1).drop1; clear HO hk1; have l3 := l2.put1 0 rfl 0 (by simp) (.int .i64 (a 2)); simp only [List.set_cons_zero, List.set_cons_succ] at l3; have HQ := Lib.hid l3; have kc := (l2.at 0 rfl).cell 0 rfl; have kf := (l2.at 0 rfl).froz 0 (by simp); clear l2 l3))
      go_roundw
      case rel => exact .inr (.inl ⟨by go_num, HQ.out⟩)
      case measure => simp [emsr3, intOf]
    · skip
      have HO := Lib.hid (ho.newAt wr.heap.size rfl (.int .i64 (b 0)) [.int .i64 (b 1), .int .i64 (b 2), .int .i64 (b 3), .int .i64 (b 4), .int .i64 (b 5), .int .i64 (b 6), .int .i64 (b 7), .int .i64 (b 8)] 26)
      clear ho M1
      have IX := fun W => ix27_1 a b c W
      go_wp2_with (first
        | go_big_skip
        | ((with_reducible show wpList _ _ _ ({ dst := _, op := Op.load 26 (Operand.tmp 9), type := _, pos := _, after := _, guard := _ } :: _) _ _); refine wpList_ldr ty_spot rfl _ rfl _ rfl _ rfl (HO.out.at 0 rfl) ?_)
        | (go_at_call 45; (with_reducible refine (depth_any _ _).mono ?_); rintro e wz ⟨rfl, hk1⟩; have l2 := (HO.out.call hk1).drop1; clear HO hk1; have l3 := l2.put1 0 rfl 1 (by simp) (.int .i64 (b 2)); simp only [List.set_cons_zero, List.set_cons_succ] at l3; have HQ := Lib.hid l3; have kc := (l2.at 0 rfl).cell 1 rfl; have kf := (l2.at 0 rfl).froz 1 (by simp); clear l2 l3))
      go_roundw
      case rel => exact .inr (.inr (.inl ⟨by go_num, HQ.out⟩))
      case measure => simp [emsr3, intOf]
    · skip
      have HO := Lib.hid (ho.newAt wr.heap.size rfl (.int .i64 (c 0)) [.int .i64 (c 1), .int .i64 (c 2), .int .i64 (c 3), .int .i64 (c 4), .int .i64 (c 5), .int .i64 (c 6), .int .i64 (c 7), .int .i64 (c 8)] 26)
      clear ho M1
      have IX := fun W => ix27_2 a b c W
      go_wp2_with (first
        | go_big_skip
        | ((with_reducible show wpList _ _ _ ({ dst := _, op := Op.load 26 (Operand.tmp 9), type := _, pos := _, after := _, guard := _ } :: _) _ _); refine wpList_ldr ty_spot rfl _ rfl _ rfl _ rfl (HO.out.at 0 rfl) ?_)
        | (go_at_call 45; (with_reducible refine (depth_any _ _).mono ?_); rintro e wz ⟨rfl, hk1⟩; have l2 := (HO.out.call hk1).drop1; clear HO hk1; have l3 := l2.put1 0 rfl 2 (by simp) (.int .i64 (c 2)); simp only [List.set_cons_zero, List.set_cons_succ] at l3; have HQ := Lib.hid l3; have kc := (l2.at 0 rfl).cell 2 rfl; have kf := (l2.at 0 rfl).froz 2 (by simp); clear l2 l3))
      go_roundw
      case rel => exact .inr (.inr (.inr (⟨by go_num, HQ.out⟩)))
      case measure => simp [emsr3, intOf]
    · have HO := Lib.hid ho
      clear ho
      go_wp2_with (first
        | ((with_reducible show wpList _ _ _ ({ dst := _, op := Op.load 94 (Operand.tmp 4), type := _, pos := _, after := _, guard := _ } :: _) _ _); refine wpList_ldr ty_i3 rfl _ rfl _ rfl _ rfl (HO.out.at 1 rfl) ?_)
        | ((with_reducible show wpList _ _ _ ({ dst := _, op := Op.load 94 (Operand.tmp 7), type := _, pos := _, after := _, guard := _ } :: _) _ _); refine wpList_ldr ty_i3 rfl _ rfl _ rfl _ rfl (HO.out.at 0 rfl) ?_)
        | (go_at_call 84; (with_reducible refine (M1 _).mono ?_); rintro e wz ⟨rfl, hk1⟩; have l2 := HO.out.call hk1; clear HO hk1; have HO := Lib.hid l2; clear l2))
      go_ret
      exact ⟨rfl, HO.out.k⟩
set_option linter.unusedSimpArgs false in
set_option maxRecDepth 100000 in
set_option maxHeartbeats 8000000 in
theorem mixed_a (a b c : Sn) (w0 w1 w2 : Int) (k p : Nat) (w : World) (hk : k < 6) (hP : Rc w p [.int .i64 k]) (hw : By.in3 0 4398046511104 w0 w1 w2 = true) (hv : By.in3 (-1073741824) 1073741824 (a (3 + k)) (b (3 + k)) (c (3 + k)) = true) (h0 : 0 < w0 + w1 + w2) :
    Calls Tryz.prog 44 #[.agg #[.int .i64 (a 0), .int .i64 (a 1), .int .i64 (a 2), .int .i64 (a 3), .int .i64 (a 4), .int .i64 (a 5), .int .i64 (a 6), .int .i64 (a 7), .int .i64 (a 8), .int .i64 (b 0), .int .i64 (b 1), .int .i64 (b 2), .int .i64 (b 3), .int .i64 (b 4), .int .i64 (b 5), .int .i64 (b 6), .int .i64 (b 7), .int .i64 (b 8), .int .i64 (c 0), .int .i64 (c 1), .int .i64 (c 2), .int .i64 (c 3), .int .i64 (c 4), .int .i64 (c 5), .int .i64 (c 6), .int .i64 (c 7), .int .i64 (c 8)], .agg #[.int .i64 w0, .int .i64 w1, .int .i64 w2], .func (Fn.func 46) #[] #[.pointer (some ⟨p, 0, none⟩)]] w fun e w' => e = .returned (.int .i64 (By.mix w0 w1 w2 (a (3 + k)) (b (3 + k)) (c (3 + k)))) ∧ Kp w.heap.size w w' := by
  have M1 := fun W => bymix_yes w0 w1 w2 (a (3 + k)) (b (3 + k)) (c (3 + k)) W hw hv h0
  have HX := Lib.hid (show w.heap.size < w.heap.size + 1 from Nat.lt_succ_self _)
  clear hw hv h0
  generalize By.mix w0 w1 w2 (a (3 + k)) (b (3 + k)) (c (3 + k)) = r at *
  have HO := Lib.hid ((((Ow.refl w).newAt (w.heap.size) rfl (.int .i64 (a 0)) [.int .i64 (a 1), .int .i64 (a 2), .int .i64 (a 3), .int .i64 (a 4), .int .i64 (a 5), .int .i64 (a 6), .int .i64 (a 7), .int .i64 (a 8), .int .i64 (b 0), .int .i64 (b 1), .int .i64 (b 2), .int .i64 (b 3), .int .i64 (b 4), .int .i64 (b 5), .int .i64 (b 6), .int .i64 (b 7), .int .i64 (b 8), .int .i64 (c 0), .int .i64 (c 1), .int .i64 (c 2), .int .i64 (c 3), .int .i64 (c 4), .int .i64 (c 5), .int .i64 (c 6), .int .i64 (c 7), .int .i64 (c 8)] 27).newAt (w.heap.size + 1) (by simp) (.int .i64 w0) [.int .i64 w1, .int .i64 w2] 94).newAt (w.heap.size + 2) (by simp) (.int .i64 0) [.int .i64 0, .int .i64 0] 94)
  go_enter Tryz.func44, Tryz.ntmps44
  go_wp2_with ((with_reducible show wpList _ _ _ ({ dst := _, op := Op.load 27 (Operand.tmp 3), type := _, pos := _, after := _, guard := _ } :: _) _ _); refine wpList_ldr ty_spots rfl _ rfl _ rfl _ rfl (HO.out.at 2 rfl) ?_)
  go_loopw [13] (fun i wr => (i = .int .i64 0 ∧ Ow w wr [(w.heap.size + 2, [.int .i64 0, .int .i64 0, .int .i64 0]), (w.heap.size + 1, [.int .i64 w0, .int .i64 w1, .int .i64 w2]), (w.heap.size, [.int .i64 (a 0), .int .i64 (a 1), .int .i64 (a 2), .int .i64 (a 3), .int .i64 (a 4), .int .i64 (a 5), .int .i64 (a 6), .int .i64 (a 7), .int .i64 (a 8), .int .i64 (b 0), .int .i64 (b 1), .int .i64 (b 2), .int .i64 (b 3), .int .i64 (b 4), .int .i64 (b 5), .int .i64 (b 6), .int .i64 (b 7), .int .i64 (b 8), .int .i64 (c 0), .int .i64 (c 1), .int .i64 (c 2), .int .i64 (c 3), .int .i64 (c 4), .int .i64 (c 5), .int .i64 (c 6), .int .i64 (c 7), .int .i64 (c 8)])]) ∨ (i = .int .i64 1 ∧ Ow w wr [(w.heap.size + 2, [.int .i64 (a (3 + k)), .int .i64 0, .int .i64 0]), (w.heap.size + 1, [.int .i64 w0, .int .i64 w1, .int .i64 w2]), (w.heap.size, [.int .i64 (a 0), .int .i64 (a 1), .int .i64 (a 2), .int .i64 (a 3), .int .i64 (a 4), .int .i64 (a 5), .int .i64 (a 6), .int .i64 (a 7), .int .i64 (a 8), .int .i64 (b 0), .int .i64 (b 1), .int .i64 (b 2), .int .i64 (b 3), .int .i64 (b 4), .int .i64 (b 5), .int .i64 (b 6), .int .i64 (b 7), .int .i64 (b 8), .int .i64 (c 0), .int .i64 (c 1), .int .i64 (c 2), .int .i64 (c 3), .int .i64 (c 4), .int .i64 (c 5), .int .i64 (c 6), .int .i64 (c 7), .int .i64 (c 8)])]) ∨ (i = .int .i64 2 ∧ Ow w wr [(w.heap.size + 2, [.int .i64 (a (3 + k)), .int .i64 (b (3 + k)), .int .i64 0]), (w.heap.size + 1, [.int .i64 w0, .int .i64 w1, .int .i64 w2]), (w.heap.size, [.int .i64 (a 0), .int .i64 (a 1), .int .i64 (a 2), .int .i64 (a 3), .int .i64 (a 4), .int .i64 (a 5), .int .i64 (a 6), .int .i64 (a 7), .int .i64 (a 8), .int .i64 (b 0), .int .i64 (b 1), .int .i64 (b 2), .int .i64 (b 3), .int .i64 (b 4), .int .i64 (b 5), .int .i64 (b 6), .int .i64 (b 7), .int .i64 (b 8), .int .i64 (c 0), .int .i64 (c 1), .int .i64 (c 2), .int .i64 (c 3), .int .i64 (c 4), .int .i64 (c 5), .int .i64 (c 6), .int .i64 (c 7), .int .i64 (c 8)])]) ∨ (i = .int .i64 3 ∧ Ow w wr [(w.heap.size + 2, [.int .i64 (a (3 + k)), .int .i64 (b (3 + k)), .int .i64 (c (3 + k))]), (w.heap.size + 1, [.int .i64 w0, .int .i64 w1, .int .i64 w2]), (w.heap.size, [.int .i64 (a 0), .int .i64 (a 1), .int .i64 (a 2), .int .i64 (a 3), .int .i64 (a 4), .int .i64 (a 5), .int .i64 (a 6), .int .i64 (a 7), .int .i64 (a 8), .int .i64 (b 0), .int .i64 (b 1), .int .i64 (b 2), .int .i64 (b 3), .int .i64 (b 4), .int .i64 (b 5), .int .i64 (b 6), .int .i64 (b 7), .int .i64 (b 8), .int .i64 (c 0), .int .i64 (c 1), .int .i64 (c 2), .int .i64 (c 3), .int .i64 (c 4), .int .i64 (c 5), .int .i64 (c 6), .int .i64 (c 7), .int .i64 (c 8)])])) (fun i _ => emsr3 i)
  case atStart => exact .inl ⟨rfl, HO.out⟩
  case round =>
    clear HO
    rcases hrel with ⟨rfl, ho⟩ | ⟨rfl, ho⟩ | ⟨rfl, ho⟩ | ⟨rfl, ho⟩
    · skip
      have HO := Lib.hid (ho.newAt wr.heap.size rfl (.int .i64 (a 0)) [.int .i64 (a 1), .int .i64 (a 2), .int .i64 (a 3), .int .i64 (a 4), .int .i64 (a 5), .int .i64 (a 6), .int .i64 (a 7), .int .i64 (a 8)] 26)
      clear ho M1
      have IX := fun W => ix27_0 a b c W
      go_wp2_with (first
        | go_big_skip
        | ((with_reducible show wpList _ _ _ ({ dst := _, op := Op.load 26 (Operand.tmp 9), type := _, pos := _, after := _, guard := _ } :: _) _ _); refine wpList_ldr ty_spot rfl _ rfl _ rfl _ rfl (HO.out.at 0 rfl) ?_)
        | (go_at_call 46; (with_reducible refine (over_of_any _ k p _ hk (hP.kp HO.out.k (hP.lt (by simp)))).mono ?_); rintro e wz ⟨rfl, hk1⟩; have l2 := (HO.out.call hk1).drop1; clear HO hk1; have l3 := l2.put1 0 rfl 0 (by simp) (.int .i64 (a (3 + k))); simp only [List.set_cons_zero, List.set_cons_succ] at l3; have HQ := Lib.hid l3; have kc := (l2.at 0 rfl).cell 0 rfl; have kf := (l2.at 0 rfl).froz 0 (by simp); clear l2 l3))
      go_roundw
      case rel => exact .inr (.inl ⟨by go_num, HQ.out⟩)
      case measure => simp [emsr3, intOf]
    · skip
      have HO := Lib.hid (ho.newAt wr.heap.size rfl (.int .i64 (b 0)) [.int .i64 (b 1), .int .i64 (b 2), .int .i64 (b 3), .int .i64 (b 4), .int .i64 (b 5), .int .i64 (b 6), .int .i64 (b 7), .int .i64 (b 8)] 26)
      clear ho M1
      have IX := fun W => ix27_1 a b c W
      go_wp2_with (first
        | go_big_skip
        | ((with_reducible show wpList _ _ _ ({ dst := _, op := Op.load 26 (Operand.tmp 9), type := _, pos := _, after := _, guard := _ } :: _) _ _); refine wpList_ldr ty_spot rfl _ rfl _ rfl _ rfl (HO.out.at 0 rfl) ?_)
        | (go_at_call 46; (with_reducible refine (over_of_any _ k p _ hk (hP.kp HO.out.k (hP.lt (by simp)))).mono ?_); rintro e wz ⟨rfl, hk1⟩; have l2 := (HO.out.call hk1).drop1; clear HO hk1; have l3 := l2.put1 0 rfl 1 (by simp) (.int .i64 (b (3 + k))); simp only [List.set_cons_zero, List.set_cons_succ] at l3; have HQ := Lib.hid l3; have kc := (l2.at 0 rfl).cell 1 rfl; have kf := (l2.at 0 rfl).froz 1 (by simp); clear l2 l3))
      go_roundw
      case rel => exact .inr (.inr (.inl ⟨by go_num, HQ.out⟩))
      case measure => simp [emsr3, intOf]
    · skip
      have HO := Lib.hid (ho.newAt wr.heap.size rfl (.int .i64 (c 0)) [.int .i64 (c 1), .int .i64 (c 2), .int .i64 (c 3), .int .i64 (c 4), .int .i64 (c 5), .int .i64 (c 6), .int .i64 (c 7), .int .i64 (c 8)] 26)
      clear ho M1
      have IX := fun W => ix27_2 a b c W
      go_wp2_with (first
        | go_big_skip
        | ((with_reducible show wpList _ _ _ ({ dst := _, op := Op.load 26 (Operand.tmp 9), type := _, pos := _, after := _, guard := _ } :: _) _ _); refine wpList_ldr ty_spot rfl _ rfl _ rfl _ rfl (HO.out.at 0 rfl) ?_)
        | (go_at_call 46; (with_reducible refine (over_of_any _ k p _ hk (hP.kp HO.out.k (hP.lt (by simp)))).mono ?_); rintro e wz ⟨rfl, hk1⟩; have l2 := (HO.out.call hk1).drop1; clear HO hk1; have l3 := l2.put1 0 rfl 2 (by simp) (.int .i64 (c (3 + k))); simp only [List.set_cons_zero, List.set_cons_succ] at l3; have HQ := Lib.hid l3; have kc := (l2.at 0 rfl).cell 2 rfl; have kf := (l2.at 0 rfl).froz 2 (by simp); clear l2 l3))
      go_roundw
      case rel => exact .inr (.inr (.inr (⟨by go_num, HQ.out⟩)))
      case measure => simp [emsr3, intOf]
    · have HO := Lib.hid ho
      clear ho
      go_wp2_with (first
        | ((with_reducible show wpList _ _ _ ({ dst := _, op := Op.load 94 (Operand.tmp 4), type := _, pos := _, after := _, guard := _ } :: _) _ _); refine wpList_ldr ty_i3 rfl _ rfl _ rfl _ rfl (HO.out.at 1 rfl) ?_)
        | ((with_reducible show wpList _ _ _ ({ dst := _, op := Op.load 94 (Operand.tmp 7), type := _, pos := _, after := _, guard := _ } :: _) _ _); refine wpList_ldr ty_i3 rfl _ rfl _ rfl _ rfl (HO.out.at 0 rfl) ?_)
        | (go_at_call 84; (with_reducible refine (M1 _).mono ?_); rintro e wz ⟨rfl, hk1⟩; have l2 := HO.out.call hk1; clear HO hk1; have HO := Lib.hid l2; clear l2))
      go_ret
      exact ⟨rfl, HO.out.k⟩
end Go.Proofs.YtankjlpanmmogaaGreat
