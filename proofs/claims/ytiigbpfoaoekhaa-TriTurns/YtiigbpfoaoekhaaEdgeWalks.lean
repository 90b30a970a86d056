/-
  Contracts of layer 12 (edge), the small functions; the document's own.
-/
import Derived.Test.YtiigbpfoaoekhaaEdgePlain
import Derived.BigGuard
namespace Go.Proofs.Ytiigbpfoaoekhaa
open Go.RowKit

theorem ty_point : Ty 23 2 := ⟨by kernel_rfl, _, Try.underlying23, rfl⟩
theorem ty_three : Ty 61 6 := ⟨by kernel_rfl, _, Try.underlying61, rfl⟩
theorem run_eqP (x y x' y' : Int) (w : World) : (Op.equalIn 10000 23 (.agg #[.int .i64 x, .int .i64 y]) (.agg #[.int .i64 (x'), .int .i64 (y')])).run Try.prog w = .ok (x == x' && y == y') w := by
  rw [run_equalIn_struct w 9999 23 _ _ (by kernel_rfl) (by kernel_rfl)]
  simp only [Program.fieldsOf, Try.underlying23]
  rw [show (x == x' && y == y') = (x == x' && (y == y' && true)) by simp]
  refine eqStep (by decide) (eqInt x x' rfl rfl) (eqStep (by decide) (eqInt y y' rfl rfl) (by simp [Op.eqFields]))
theorem run_eqP_same (x y : Int) (w : World) : (Op.equalIn 10000 23 (.agg #[.int .i64 x, .int .i64 y]) (.agg #[.int .i64 x, .int .i64 y])).run Try.prog w = .ok true w := by
  rw [run_eqP]; simp

/-- a point is read out of a row of points -/
theorem Rc.some {W : World} {b : Nat} {vs : List Value} (h : Rc W b vs) : ∀ j v, vs[j]? = Option.some v → W.cell? ⟨b, j, none⟩ = Option.some v := fun j v hv => (h j v hv).1
theorem range_of {w : World} {b o n : Nat} {vs us : List Value} (hs : (vs.drop o).take n = us) (hR : ∀ j v, vs[j]? = some v → w.cell? ⟨b, j, none⟩ = some v) : w.rangeAt b o us := fun j v hv => by
  subst hs
  rw [List.getElem?_take] at hv
  split at hv
  · rw [List.getElem?_drop] at hv; exact hR _ _ hv
  · cases hv
theorem wpList_ldo {ty : TypeId} {n : Nat} (ht : Ty ty n) {ops : Array Oper} {rest : List Oper} {op : Oper} {a : Act} {w : World} {Q : Exit → Act → World → Prop} (hgd : Region.wanted op (yielded ops a.tmps) = true) (x : Operand) (ho : op.op = .load ty x)
    (b o : Nat) (hx : a.eval x = .pointer (some ⟨b, o, none⟩)) (vs : List Value) (hl : Nat.ble (o + n) vs.length = true) (hR : ∀ j v, vs[j]? = some v → w.cell? ⟨b, j, none⟩ = some v)
    (h : ∀ us, (vs.drop o).take n = us → wpList Try.prog ops Q rest (a.put op.dst (.agg us.toArray)) w) : wpList Try.prog ops Q (op :: rest) a w := by
  obtain ⟨d, hu, hd⟩ := ht.row
  exact wpList_of_wp hgd fun K hK => wp_load_mid ty x ho b o hx ((vs.drop o).take n) d (range_of rfl hR) hu hd (by have := Nat.le_of_ble_eq_true hl; rw [ht.size]; simp; omega) (hK _ _ (h _ rfl))
theorem quiet_ldo {ty : TypeId} {n : Nat} (ht : Ty ty n) {op : Oper} {a : Act} {C : World → Prop} {w : World} {b o : Nat} {vs us : List Value} (x : Operand) (ho : op.op = .load ty x) (hx : a.eval x = .pointer (some ⟨b, o, none⟩)) (hs : (vs.drop o).take n = us) (hl : us.length = n) (hR : Rc w b vs) :
    op.quietAt Try.prog a C w (.agg us.toArray) := by
  obtain ⟨d, hu, hd⟩ := ht.row
  unfold Oper.quietAt execOp
  simp only [ho, hx, Instr.loadAt, Instr.sureAddr, Sem.run_bind, Sem.run_pure, Result.andThen_ok, run_loadVar_mid w b o ty us d (range_of hs hR.some) hu hd (hl ▸ ht.size)]
  exact ⟨rfl, rfl⟩

/-- may a number be a point's? a pixel's? -/
def Eg.scr (n : Int) : Bool := decide (-524288 ≤ n) && decide (n ≤ 524288)
def Eg.plc (n : Int) : Bool := decide (-32768 ≤ n) && decide (n < 32768)
theorem Eg.may_scr (a b : Int) : Eg.may a b = (Eg.scr a && Eg.scr b) := by simp [Eg.may, Eg.scr, Bool.and_assoc]
theorem Eg.fits_plc (x y : Int) : Eg.fits x y = (Eg.plc x && Eg.plc y) := by
  rw [Bool.eq_iff_iff, Eg.fits_iff, Bool.and_eq_true]; simp [Eg.plc]; omega
theorem Eg.plc_iff {n : Int} : Eg.plc n = true ↔ -32768 ≤ n ∧ n < 32768 := by simp [Eg.plc]

theorem onScreen_any (n : Int) (w : World) :
    Calls Try.prog 47 #[.int .i64 n] w fun e w' => e = .returned (.bool (Eg.scr n)) ∧ w = w' := by
  cases h1 : decide (-524288 ≤ n)
  all_goals
    go_enter Try.func47, Try.ntmps47
    go_wp2_with go_big_skip
    go_ret
    exact ⟨ret_bool (by simp [Eg.scr, h1]), rfl⟩
theorem isPlace_any (n : Int) (w : World) :
    Calls Try.prog 49 #[.int .i64 n] w fun e w' => e = .returned (.bool (Eg.plc n)) ∧ w = w' := by
  cases h1 : decide (-32768 ≤ n)
  all_goals
    go_enter Try.func49, Try.ntmps49
    go_wp2_with go_big_skip
    go_ret
    exact ⟨ret_bool (by simp [Eg.plc, h1]), rfl⟩
theorem middle_any (n : Int) (w : World) (h : Eg.plc n = true) :
    Calls Try.prog 50 #[.int .i64 n] w fun e w' => e = .returned (.int .i64 (16 * n + 8)) ∧ w = w' := by
  obtain ⟨h1, h2⟩ := Eg.plc_iff.1 h
  clear h
  go_enter Try.func50, Try.ntmps50
  go_wp2
  go_ret
  exact ⟨rfl, rfl⟩
theorem rfits_any (x y : Int) (w : World) :
    Calls Try.prog 24 #[.int .i64 x, .int .i64 y] w fun e w' => e = .returned (.bool (Eg.fits x y)) ∧ w = w' := by
  cases h1 : decide (-32768 ≤ x) <;> cases h2 : decide (x ≤ 32767) <;> cases h3 : decide (-32768 ≤ y)
  all_goals
    go_enter Try.func24, Try.ntmps24
    go_wp2_with go_big_skip
    go_ret
    exact ⟨ret_bool (by simp [Eg.fits, h1, h2, h3]), rfl⟩
theorem rmay_any (a1 a2 : Int) (w : World) :
    Calls Try.prog 39 #[.agg #[.int .i64 a1, .int .i64 a2]] w fun e w' => e = .returned (.bool (Eg.may a1 a2)) ∧ Kp w.heap.size w w' := by
  cases h1 : decide (-524288 ≤ a1) <;> cases h2 : decide (a1 ≤ 524288) <;> cases h3 : decide (-524288 ≤ a2)
  all_goals
    go_enter Try.func39, Try.ntmps39
    go_wp2_with go_big_skip
    go_ret
    exact ⟨ret_bool (by simp [Eg.may, h1, h2, h3]), Kp.new _ _ _⟩

set_option maxHeartbeats 1000000 in
theorem side_any (a1 a2 b1 b2 p1 p2 : Int) (w : World) (ha : Eg.may a1 a2 = true) (hb : Eg.may b1 b2 = true) (hp : Eg.may p1 p2 = true) :
    Calls Try.prog 36 #[.agg #[.int .i64 a1, .int .i64 a2], .agg #[.int .i64 b1, .int .i64 b2], .agg #[.int .i64 p1, .int .i64 p2]] w fun e w' => e = .returned (.int .i64 (Eg.side a1 a2 b1 b2 p1 p2)) ∧ Kp w.heap.size w w' := by
  obtain ⟨⟨s1, s2⟩, s3, s4⟩ := Eg.side_le ha hb hp
  obtain ⟨⟨x1, x2⟩, x3, x4⟩ := Eg.may_iff.1 ha
  obtain ⟨⟨y1, y2⟩, y3, y4⟩ := Eg.may_iff.1 hb
  obtain ⟨⟨z1, z2⟩, z3, z4⟩ := Eg.may_iff.1 hp
  clear ha hb hp
  go_enter Try.func36, Try.ntmps36
  go_wp2
  go_ret
  exact ⟨rfl, ((Kp.new _ _ _).next (Kp.new _ _ _)).next (Kp.new _ _ _)⟩
set_option maxHeartbeats 1000000 in
theorem rside_any (a1 a2 b1 b2 p1 p2 : Int) (w : World) (ha : Eg.may a1 a2 = true) (hb : Eg.may b1 b2 = true) (hp : Eg.may p1 p2 = true) :
    Calls Try.prog 10 #[.agg #[.int .i64 a1, .int .i64 a2], .agg #[.int .i64 b1, .int .i64 b2], .agg #[.int .i64 p1, .int .i64 p2]] w fun e w' => e = .returned (.int .i64 (Eg.side a1 a2 b1 b2 p1 p2)) ∧ Kp w.heap.size w w' := by
  obtain ⟨⟨s1, s2⟩, s3, s4⟩ := Eg.side_le ha hb hp
  obtain ⟨⟨x1, x2⟩, x3, x4⟩ := Eg.may_iff.1 ha
  obtain ⟨⟨y1, y2⟩, y3, y4⟩ := Eg.may_iff.1 hb
  obtain ⟨⟨z1, z2⟩, z3, z4⟩ := Eg.may_iff.1 hp
  clear ha hb hp
  go_enter Try.func10, Try.ntmps10
  go_wp2
  go_ret
  exact ⟨rfl, ((Kp.new _ _ _).next (Kp.new _ _ _)).next (Kp.new _ _ _)⟩

theorem owns_any (a1 a2 b1 b2 : Int) (w : World) :
    Calls Try.prog 54 #[.agg #[.int .i64 a1, .int .i64 a2], .agg #[.int .i64 b1, .int .i64 b2]] w fun e w' => e = .returned (.bool (Eg.owns a1 a2 b1 b2)) ∧ Kp w.heap.size w w' := by
  cases h1 : decide (b2 < a2) <;> cases h2 : (b2 == a2)
  all_goals
    go_enter Try.func54, Try.ntmps54
    go_wp2_with go_big_skip
    go_ret
    exact ⟨ret_bool (by simp at h1 h2; unfold Eg.owns; split <;> first | rfl | (exfalso; omega) | (simp; omega)), (Kp.new _ _ _).next (Kp.new _ _ _)⟩
theorem rowns_any (a1 a2 b1 b2 : Int) (w : World) :
    Calls Try.prog 48 #[.agg #[.int .i64 a1, .int .i64 a2], .agg #[.int .i64 b1, .int .i64 b2]] w fun e w' => e = .returned (.bool (Eg.owns a1 a2 b1 b2)) ∧ Kp w.heap.size w w' := by
  cases h1 : (a2 == b2)
  all_goals
    go_enter Try.func48, Try.ntmps48
    go_wp2_with go_big_skip
    go_ret
    exact ⟨ret_bool (by simp at h1; unfold Eg.owns; split <;> first | rfl | (exfalso; omega)), (Kp.new _ _ _).next (Kp.new _ _ _)⟩

set_option linter.unusedSimpArgs false in
set_option maxHeartbeats 1000000 in
theorem lets_any (a1 a2 b1 b2 p1 p2 : Int) (w : World) (ha : Eg.may a1 a2 = true) (hb : Eg.may b1 b2 = true) (hp : Eg.may p1 p2 = true) :
    Calls Try.prog 46 #[.agg #[.int .i64 a1, .int .i64 a2], .agg #[.int .i64 b1, .int .i64 b2], .agg #[.int .i64 p1, .int .i64 p2]] w fun e w' => e = .returned (.bool (Eg.on a1 a2 b1 b2 p1 p2)) ∧ Kp w.heap.size w w' := by
  have S1 := fun W => side_any a1 a2 b1 b2 p1 p2 W ha hb hp
  have O1 := fun W => owns_any a1 a2 b1 b2 W
  have HO := Lib.hid ((((Ow.refl w).newAt w.heap.size rfl (.int .i64 a1) [.int .i64 a2] 23).newAt (w.heap.size + 1) (by simp) (.int .i64 b1) [.int .i64 b2] 23).newAt (w.heap.size + 2) (by simp) (.int .i64 p1) [.int .i64 p2] 23)
  clear ha hb hp
  cases h1 : decide (0 < Eg.side a1 a2 b1 b2 p1 p2) <;> cases h2 : (Eg.side a1 a2 b1 b2 p1 p2 == 0)
  all_goals
    go_enter Try.func46, Try.ntmps46
    go_wp2_with (first
      | go_big_skip
      | ((with_reducible show wpList _ _ _ ({ dst := _, op := Op.load 23 (Operand.tmp 3), type := _, pos := _, after := _, guard := _ } :: _) _ _); refine wpList_ldr ty_point rfl _ rfl _ rfl _ rfl (HO.out.at 2 rfl) ?_)
      | ((with_reducible show wpList _ _ _ ({ dst := _, op := Op.load 23 (Operand.tmp 4), type := _, pos := _, after := _, guard := _ } :: _) _ _); refine wpList_ldr ty_point rfl _ rfl _ rfl _ rfl (HO.out.at 1 rfl) ?_)
      | ((with_reducible show wpList _ _ _ ({ dst := _, op := Op.load 23 (Operand.tmp 5), type := _, pos := _, after := _, guard := _ } :: _) _ _); refine wpList_ldr ty_point rfl _ rfl _ rfl _ rfl (HO.out.at 0 rfl) ?_)
      | (go_at_call 36; refine (S1 _).mono ?_; rintro e w1 ⟨rfl, hk1⟩; have l2 := HO.out.call hk1; clear HO hk1; have HO := Lib.hid l2; clear l2)
      | (go_at_call 54; refine (O1 _).mono ?_; rintro e w1 ⟨rfl, hk1⟩; have l2 := HO.out.call hk1; clear HO hk1; have HO := Lib.hid l2; clear l2))
    go_ret
    exact ⟨ret_bool (by simp at h1 h2; first | (exfalso; omega) | simp [Eg.on, h1, h2]), HO.out.k⟩
set_option linter.unusedSimpArgs false in
set_option maxHeartbeats 1000000 in
theorem ron_any (a1 a2 b1 b2 p1 p2 : Int) (w : World) (ha : Eg.may a1 a2 = true) (hb : Eg.may b1 b2 = true) (hp : Eg.may p1 p2 = true) :
    Calls Try.prog 42 #[.agg #[.int .i64 a1, .int .i64 a2], .agg #[.int .i64 b1, .int .i64 b2], .agg #[.int .i64 p1, .int .i64 p2]] w fun e w' => e = .returned (.bool (Eg.on a1 a2 b1 b2 p1 p2)) ∧ Kp w.heap.size w w' := by
  have S1 := fun W => rside_any a1 a2 b1 b2 p1 p2 W ha hb hp
  have O1 := fun W => rowns_any a1 a2 b1 b2 W
  have HO := Lib.hid ((((Ow.refl w).newAt w.heap.size rfl (.int .i64 a1) [.int .i64 a2] 23).newAt (w.heap.size + 1) (by simp) (.int .i64 b1) [.int .i64 b2] 23).newAt (w.heap.size + 2) (by simp) (.int .i64 p1) [.int .i64 p2] 23)
  clear ha hb hp
  cases h1 : decide (0 < Eg.side a1 a2 b1 b2 p1 p2) <;> cases h2 : (Eg.side a1 a2 b1 b2 p1 p2 == 0)
  all_goals
    go_enter Try.func42, Try.ntmps42
    go_wp2_with (first
      | go_big_skip
      | ((with_reducible show wpList _ _ _ ({ dst := _, op := Op.load 23 (Operand.tmp 3), type := _, pos := _, after := _, guard := _ } :: _) _ _); refine wpList_ldr ty_point rfl _ rfl _ rfl _ rfl (HO.out.at 2 rfl) ?_)
      | ((with_reducible show wpList _ _ _ ({ dst := _, op := Op.load 23 (Operand.tmp 4), type := _, pos := _, after := _, guard := _ } :: _) _ _); refine wpList_ldr ty_point rfl _ rfl _ rfl _ rfl (HO.out.at 1 rfl) ?_)
      | ((with_reducible show wpList _ _ _ ({ dst := _, op := Op.load 23 (Operand.tmp 5), type := _, pos := _, after := _, guard := _ } :: _) _ _); refine wpList_ldr ty_point rfl _ rfl _ rfl _ rfl (HO.out.at 0 rfl) ?_)
      | (go_at_call 10; refine (S1 _).mono ?_; rintro e w1 ⟨rfl, hk1⟩; have l2 := HO.out.call hk1; clear HO hk1; have HO := Lib.hid l2; clear l2)
      | (go_at_call 48; refine (O1 _).mono ?_; rintro e w1 ⟨rfl, hk1⟩; have l2 := HO.out.call hk1; clear HO hk1; have HO := Lib.hid l2; clear l2))
    go_ret
    exact ⟨ret_bool (by simp at h1 h2; first | (exfalso; omega) | simp [Eg.on, h1, h2]), HO.out.k⟩

theorem mid_no (x y : Int) (w : World) (h : Eg.fits x y = false) :
    Calls Try.prog 43 #[.int .i64 x, .int .i64 y] w fun e w' => e = .returned (.tuple #[.agg #[.int .i64 0, .int .i64 0], .int .i64 3]) ∧ Kp w.heap.size w w' := by
  have HO := Lib.hid ((Ow.refl w).newAt w.heap.size rfl (.int .i64 0) [.int .i64 0] 23)
  rw [Eg.fits_plc] at h
  cases h1 : Eg.plc x
  · clear h
    go_enter Try.func43, Try.ntmps43
    go_wp2_with (first
      | go_big_skip
      | (go_at_call 49; (with_reducible refine (isPlace_any x _).mono ?_); rintro e w' ⟨rfl, rfl⟩)
      | ((with_reducible show wpList _ _ _ ({ dst := _, op := Op.store 23 _ _, type := _, pos := _, after := _, guard := _ } :: _) _ _); refine wpList_sto ty_point HO.out 0 [.int .i64 0, .int .i64 0] rfl _ _ rfl _ rfl rfl _ rfl rfl rfl rfl ?_; intro w2 l2; clear HO; have HO := Lib.hid l2; clear l2))
    exact bodyPost_ret (results_c2 ty_point rfl rfl rfl rfl (HO.out.at 0 rfl)) rfl ⟨rfl, HO.out.k⟩
  · have h2 : Eg.plc y = false := by rw [h1] at h; exact h
    clear h
    go_enter Try.func43, Try.ntmps43
    go_wp2_with (first
      | go_big_skip
      | (go_at_call 49; (with_reducible refine (isPlace_any x _).mono ?_); rintro e w' ⟨rfl, rfl⟩)
      | (go_at_call 49; (with_reducible refine (isPlace_any y _).mono ?_); rintro e w' ⟨rfl, rfl⟩)
      | ((with_reducible show wpList _ _ _ ({ dst := _, op := Op.store 23 _ _, type := _, pos := _, after := _, guard := _ } :: _) _ _); refine wpList_sto ty_point HO.out 0 [.int .i64 0, .int .i64 0] rfl _ _ rfl _ rfl rfl _ rfl rfl rfl rfl ?_; intro w2 l2; clear HO; have HO := Lib.hid l2; clear l2))
    exact bodyPost_ret (results_c2 ty_point rfl rfl rfl rfl (HO.out.at 0 rfl)) rfl ⟨rfl, HO.out.k⟩
theorem mid_yes (x y : Int) (w : World) (h : Eg.fits x y = true) :
    Calls Try.prog 43 #[.int .i64 x, .int .i64 y] w fun e w' => e = .returned (.tuple #[.agg #[.int .i64 (16 * x + 8), .int .i64 (16 * y + 8)], .int .i64 0]) ∧ Kp w.heap.size w w' := by
  have HO := Lib.hid ((Ow.refl w).newAt w.heap.size rfl (.int .i64 0) [.int .i64 0] 23)
  obtain ⟨h1, h2⟩ : Eg.plc x = true ∧ Eg.plc y = true := by rw [Eg.fits_plc] at h; simpa using h
  have M1 := fun W => middle_any x W h1
  have M2 := fun W => middle_any y W h2
  clear h
  go_enter Try.func43, Try.ntmps43
  go_wp2_with (first
    | go_big_skip
    | (go_at_call 49; (with_reducible refine (isPlace_any x _).mono ?_); rintro e w' ⟨rfl, rfl⟩)
    | (go_at_call 49; (with_reducible refine (isPlace_any y _).mono ?_); rintro e w' ⟨rfl, rfl⟩)
    | (go_at_call 50; (with_reducible refine (M1 _).mono ?_); rintro e w' ⟨rfl, rfl⟩)
    | (go_at_call 50; (with_reducible refine (M2 _).mono ?_); rintro e w' ⟨rfl, rfl⟩)
    | ((with_reducible show wpList _ _ _ ({ dst := _, op := Op.store 23 _ _, type := _, pos := _, after := _, guard := _ } :: _) _ _); refine wpList_sto ty_point HO.out 0 [.int .i64 (16 * x + 8), .int .i64 (16 * y + 8)] rfl _ _ rfl _ rfl rfl _ rfl rfl rfl rfl ?_; intro w2 l2; clear HO; have HO := Lib.hid l2; clear l2))
  exact bodyPost_ret (results_c2 ty_point rfl rfl rfl rfl (HO.out.at 0 rfl)) rfl ⟨rfl, HO.out.k⟩
theorem rmiddle_any (x y : Int) (w : World) (h : Eg.fits x y = true) :
    Calls Try.prog 33 #[.int .i64 x, .int .i64 y] w fun e w' => e = .returned (.agg #[.int .i64 (16 * x + 8), .int .i64 (16 * y + 8)]) ∧ Kp w.heap.size w w' := by
  have HO := Lib.hid ((Ow.refl w).newAt w.heap.size rfl (.int .i64 0) [.int .i64 0] 23)
  obtain ⟨⟨h1, h2⟩, h3, h4⟩ := Eg.fits_iff.1 h
  clear h
  go_enter Try.func33, Try.ntmps33
  go_wp2_with ((with_reducible show wpList _ _ _ ({ dst := _, op := Op.store 23 _ _, type := _, pos := _, after := _, guard := _ } :: _) _ _); refine wpList_sto ty_point HO.out 0 [.int .i64 (16 * x + 8), .int .i64 (16 * y + 8)] rfl _ _ rfl _ rfl rfl _ rfl rfl rfl rfl ?_; intro w2 l2; clear HO; have HO := Lib.hid l2; clear l2)
  exact bodyPost_ret (results_c ty_point rfl rfl rfl (HO.out.at 0 rfl)) rfl ⟨rfl, HO.out.k⟩
end Go.Proofs.Ytiigbpfoaoekhaa
