/-
  Contracts of layer 12 (edge), the small functions; the document's own.
-/
import Derived.Test.YtankjlpanmmogaaGreatJRegionOw
import Derived.BigGuard
import Derived.Laws.CopyOwn
import Derived.Test.YtankjlpanmmogaaGreatJVecPlain
import Derived.Test.YtankjlpanmmogaaGreatJViewIs
namespace Go.Proofs.YtankjlpanmmogaaGreat
set_option maxRecDepth 100000
open Go.RowKit

theorem ty_point : Ty 23 2 := ⟨by kernel_rfl, _, Tryz.underlying23, rfl⟩
theorem ety_three : Ty 126 6 := ⟨by kernel_rfl, _, Tryz.underlying126, rfl⟩
theorem run_eqP (x y x' y' : Int) (w : World) : (Op.equalIn 10000 23 (.agg #[.int .i64 x, .int .i64 y]) (.agg #[.int .i64 (x'), .int .i64 (y')])).run Tryz.prog w = .ok (x == x' && y == y') w := by
  rw [run_equalIn_struct w 9999 23 _ _ (by kernel_rfl) (by kernel_rfl)]
  simp only [Program.fieldsOf, Tryz.underlying23]
  rw [show (x == x' && y == y') = (x == x' && (y == y' && true)) by simp]
  refine eqStep (by decide) (eqInt x x' rfl rfl) (eqStep (by decide) (eqInt y y' rfl rfl) (by simp [Op.eqFields]))
theorem run_eqP_same (x y : Int) (w : World) : (Op.equalIn 10000 23 (.agg #[.int .i64 x, .int .i64 y]) (.agg #[.int .i64 x, .int .i64 y])).run Tryz.prog w = .ok true w := by
  rw [run_eqP]; simp

/-- a point is read out of a row of points -/
theorem Rc.some {W : World} {b : Nat} {vs : List Value} (h : Rc W b vs) : ∀ j v, vs[j]? = Option.some v → W.cell? ⟨b, j, none⟩ = Option.some v := fun j v hv => (h j v hv).1
theorem range_of {w : World} {b o n : Nat} {vs us : List Value} (hs : (vs.drop o).take n = us) (hR : ∀ j v, vs[j]? = some v → w.cell? ⟨b, j, none⟩ = some v) : w.rangeAt b o us := fun j v hv => by
  subst hs
  rw [List.getElem?_take] at hv
  split at hv
  · rw [List.getElem?_drop] at hv; exact hR _ _ hv
  · cases hv
theorem wpList_ldo {ty : TypeId} {n : Nat} (ht : Ty ty n) {ops : Array Oper} {rest : List Oper} {op : Oper} {a : Act} {w : World} {Q : Exit → Act → World → Prop} (hgd : Region.wanted op (yielded ops a.tmps) = true) (x : Operand) (ho : op.op = .load ty x)
    (b o : Nat) (hx : a.eval x = .pointer (some ⟨b, o, none⟩)) (vs : List Value) (hl : Nat.ble (o + n) vs.length = true) (hR : ∀ j v, vs[j]? = some v → w.cell? ⟨b, j, none⟩ = some v)
    (h : ∀ us, (vs.drop o).take n = us → wpList Tryz.prog ops Q rest (a.put op.dst (.agg us.toArray)) w) : wpList Tryz.prog ops Q (op :: rest) a w := by
  obtain ⟨d, hu, hd⟩ := ht.row
  exact wpList_of_wp hgd fun K hK => wp_load_mid ty x ho b o hx ((vs.drop o).take n) d (range_of rfl hR) hu hd (by have := Nat.le_of_ble_eq_true hl; rw [ht.size]; simp; omega) (hK _ _ (h _ rfl))
theorem quiet_ldo {ty : TypeId} {n : Nat} (ht : Ty ty n) {op : Oper} {a : Act} {C : World → Prop} {w : World} {b o : Nat} {vs us : List Value} (x : Operand) (ho : op.op = .load ty x) (hx : a.eval x = .pointer (some ⟨b, o, none⟩)) (hs : (vs.drop o).take n = us) (hl : us.length = n) (hR : Rc w b vs) :
    op.quietAt Tryz.prog a C w (.agg us.toArray) := by
  obtain ⟨d, hu, hd⟩ := ht.row
  unfold Oper.quietAt execOp
  simp only [ho, hx, Instr.loadAt, Instr.sureAddr, Sem.run_bind, Sem.run_pure, Result.andThen_ok, run_loadVar_mid w b o ty us d (range_of hs hR.some) hu hd (hl ▸ ht.size)]
  exact ⟨rfl, rfl⟩

/-- may a number be a point's? a pixel's? -/
def Eg.scr (n : Int) : Bool := decide (-524288 ≤ n) && decide (n ≤ 524288)
def Eg.plc (n : Int) : Bool := decide (-32768 ≤ n) && decide (n < 32768)
theorem Eg.may_scr (a b : Int) : Eg.may a b = (Eg.scr a && Eg.scr b) := by simp [Eg.may, Eg.scr, Bool.and_assoc]
theorem Eg.fits_plc (x y : Int) : Eg.fits x y = (Eg.plc x && Eg.plc y) := by
  rw [Bool.eq_iff_iff, Eg.fits_iff, Bool.and_eq_true]; simp [Eg.plc]; omega
theorem Eg.plc_iff {n : Int} : Eg.plc n = true ↔ -32768 ≤ n ∧ n < 32768 := by simp [Eg.plc]

theorem onScreen_any (n : Int) (w : World) :
    Calls Tryz.prog 79 #[.int .i64 n] w fun e w' => e = .returned (.bool (Eg.scr n)) ∧ w = w' := by
  cases h1 : decide (-524288 ≤ n)
  all_goals
    go_enter Tryz.func79, Tryz.ntmps79
    go_wp2_with go_big_skip
    go_ret
    exact ⟨ret_bool (by simp [Eg.scr, h1]), rfl⟩
theorem isPlace_any (n : Int) (w : World) :
    Calls Tryz.prog 112 #[.int .i64 n] w fun e w' => e = .returned (.bool (Eg.plc n)) ∧ w = w' := by
  cases h1 : decide (-32768 ≤ n)
  all_goals
    go_enter Tryz.func112, Tryz.ntmps112
    go_wp2_with go_big_skip
    go_ret
    exact ⟨ret_bool (by simp [Eg.plc, h1]), rfl⟩
theorem middle_any (n : Int) (w : World) (h : Eg.plc n = true) :
    Calls Tryz.prog 113 #[.int .i64 n] w fun e w' => e = .returned (.int .i64 (16 * n + 8)) ∧ w = w' := by
  obtain ⟨h1, h2⟩ := Eg.plc_iff.1 h
  clear h
  go_enter Tryz.func113, Tryz.ntmps113
  go_wp2
  go_ret
  exact ⟨rfl, rfl⟩
theorem rfits_any (x y : Int) (w : World) :
    Calls Tryz.prog 53 #[.int .i64 x, .int .i64 y] w fun e w' => e = .returned (.bool (Eg.fits x y)) ∧ w = w' := by
  cases h1 : decide (-32768 ≤ x) <;> cases h2 : decide (x ≤ 32767) <;> cases h3 : decide (-32768 ≤ y)
  all_goals
    go_enter Tryz.func53, Tryz.ntmps53
    go_wp2_with go_big_skip
    go_ret
    exact ⟨ret_bool (by simp [Eg.fits, h1, h2, h3]), rfl⟩
theorem rmay_any (a1 a2 : Int) (w : World) :
    Calls Tryz.prog 10 #[.agg #[.int .i64 a1, .int .i64 a2]] w fun e w' => e = .returned (.bool (Eg.may a1 a2)) ∧ Kp w.heap.size w w' := by
  cases h1 : decide (-524288 ≤ a1) <;> cases h2 : decide (a1 ≤ 524288) <;> cases h3 : decide (-524288 ≤ a2)
  all_goals
    go_enter Tryz.func10, Tryz.ntmps10
    go_wp2_with go_big_skip
    go_ret
    exact ⟨ret_bool (by simp [Eg.may, h1, h2, h3]), Kp.new _ _ _⟩

set_option maxHeartbeats 1000000 in
theorem side_any (a1 a2 b1 b2 p1 p2 : Int) (w : World) (ha : Eg.may a1 a2 = true) (hb : Eg.may b1 b2 = true) (hp : Eg.may p1 p2 = true) :
    Calls Tryz.prog 39 #[.agg #[.int .i64 a1, .int .i64 a2], .agg #[.int .i64 b1, .int .i64 b2], .agg #[.int .i64 p1, .int .i64 p2]] w fun e w' => e = .returned (.int .i64 (Eg.side a1 a2 b1 b2 p1 p2)) ∧ Kp w.heap.size w w' := by
  obtain ⟨⟨s1, s2⟩, s3, s4⟩ := Eg.side_le ha hb hp
  obtain ⟨⟨x1, x2⟩, x3, x4⟩ := Eg.may_iff.1 ha
  obtain ⟨⟨y1, y2⟩, y3, y4⟩ := Eg.may_iff.1 hb
  obtain ⟨⟨z1, z2⟩, z3, z4⟩ := Eg.may_iff.1 hp
  clear ha hb hp
  go_enter Tryz.func39, Tryz.ntmps39
  go_wp2
  go_ret
  exact ⟨rfl, ((Kp.new _ _ _).next (Kp.new _ _ _)).next (Kp.new _ _ _)⟩
set_option maxHeartbeats 1000000 in
theorem rside_any (a1 a2 b1 b2 p1 p2 : Int) (w : World) (ha : Eg.may a1 a2 = true) (hb : Eg.may b1 b2 = true) (hp : Eg.may p1 p2 = true) :
    Calls Tryz.prog 94 #[.agg #[.int .i64 a1, .int .i64 a2], .agg #[.int .i64 b1, .int .i64 b2], .agg #[.int .i64 p1, .int .i64 p2]] w fun e w' => e = .returned (.int .i64 (Eg.side a1 a2 b1 b2 p1 p2)) ∧ Kp w.heap.size w w' := by
  obtain ⟨⟨s1, s2⟩, s3, s4⟩ := Eg.side_le ha hb hp
  obtain ⟨⟨x1, x2⟩, x3, x4⟩ := Eg.may_iff.1 ha
  obtain ⟨⟨y1, y2⟩, y3, y4⟩ := Eg.may_iff.1 hb
  obtain ⟨⟨z1, z2⟩, z3, z4⟩ := Eg.may_iff.1 hp
  clear ha hb hp
  go_enter Tryz.func94, Tryz.ntmps94
  go_wp2
  go_ret
  exact ⟨rfl, ((Kp.new _ _ _).next (Kp.new _ _ _)).next (Kp.new _ _ _)⟩

theorem owns_any (a1 a2 b1 b2 : Int) (w : World) :
    Calls Tryz.prog 132 #[.agg #[.int .i64 a1, .int .i64 a2], .agg #[.int .i64 b1, .int .i64 b2]] w fun e w' => e = .returned (.bool (Eg.owns a1 a2 b1 b2)) ∧ Kp w.heap.size w w' := by
  cases h1 : decide (b2 < a2) <;> cases h2 : (b2 == a2)
  all_goals
    go_enter Tryz.func132, Tryz.ntmps132
    go_wp2_with go_big_skip
    go_ret
    exact ⟨ret_bool (by simp at h1 h2; unfold Eg.owns; split <;> first | rfl | (exfalso; omega) | (simp; omega)), (Kp.new _ _ _).next (Kp.new _ _ _)⟩
theorem rowns_any (a1 a2 b1 b2 : Int) (w : World) :
    Calls Tryz.prog 123 #[.agg #[.int .i64 a1, .int .i64 a2], .agg #[.int .i64 b1, .int .i64 b2]] w fun e w' => e = .returned (.bool (Eg.owns a1 a2 b1 b2)) ∧ Kp w.heap.size w w' := by
  cases h1 : (a2 == b2)
  all_goals
    go_enter Tryz.func123, Tryz.ntmps123
    go_wp2_with go_big_skip
    go_ret
    exact ⟨ret_bool (by simp at h1; unfold Eg.owns; split <;> first | rfl | (exfalso; omega)), (Kp.new _ _ _).next (Kp.new _ _ _)⟩

set_option linter.unusedSimpArgs false in
set_option maxHeartbeats 1000000 in
theorem lets_any (a1 a2 b1 b2 p1 p2 : Int) (w : World) (ha : Eg.may a1 a2 = true) (hb : Eg.may b1 b2 = true) (hp : Eg.may p1 p2 = true) :
    Calls Tryz.prog 111 #[.agg #[.int .i64 a1, .int .i64 a2], .agg #[.int .i64 b1, .int .i64 b2], .agg #[.int .i64 p1, .int .i64 p2]] w fun e w' => e = .returned (.bool (Eg.on a1 a2 b1 b2 p1 p2)) ∧ Kp w.heap.size w w' := by
  have S1 := fun W => side_any a1 a2 b1 b2 p1 p2 W ha hb hp
  have O1 := fun W => owns_any a1 a2 b1 b2 W
  have HO := Lib.hid ((((Ow.refl w).newAt w.heap.size rfl (.int .i64 a1) [.int .i64 a2] 23).newAt (w.heap.size + 1) (by simp) (.int .i64 b1) [.int .i64 b2] 23).newAt (w.heap.size + 2) (by simp) (.int .i64 p1) [.int .i64 p2] 23)
  clear ha hb hp
  cases h1 : decide (0 < Eg.side a1 a2 b1 b2 p1 p2) <;> cases h2 : (Eg.side a1 a2 b1 b2 p1 p2 == 0)
  all_goals
    go_enter Tryz.func111, Tryz.ntmps111
    go_wp2_with (first
      | go_big_skip
      | ((with_reducible show wpList _ _ _ ({ dst := _, op := Op.load 23 (Operand.tmp 3), type := _, pos := _, after := _, guard := _ } :: _) _ _); refine wpList_ldr ty_point rfl _ rfl _ rfl _ rfl (HO.out.at 2 rfl) ?_)
      | ((with_reducible show wpList _ _ _ ({ dst := _, op := Op.load 23 (Operand.tmp 4), type := _, pos := _, after := _, guard := _ } :: _) _ _); refine wpList_ldr ty_point rfl _ rfl _ rfl _ rfl (HO.out.at 1 rfl) ?_)
      | ((with_reducible show wpList _ _ _ ({ dst := _, op := Op.load 23 (Operand.tmp 5), type := _, pos := _, after := _, guard := _ } :: _) _ _); refine wpList_ldr ty_point rfl _ rfl _ rfl _ rfl (HO.out.at 0 rfl) ?_)
      | (go_at_call 39; refine (S1 _).mono ?_; rintro e w1 ⟨rfl, hk1⟩; have l2 := HO.out.call hk1; clear HO hk1; have HO := Lib.hid l2; clear l2)
      | (go_at_call 132; refine (O1 _).mono ?_; rintro e w1 ⟨rfl, hk1⟩; have l2 := HO.out.call hk1; clear HO hk1; have HO := Lib.hid l2; clear l2))
    go_ret
    exact ⟨ret_bool (by simp at h1 h2; first | (exfalso; omega) | simp [Eg.on, h1, h2]), HO.out.k⟩
set_option linter.unusedSimpArgs false in
set_option maxHeartbeats 1000000 in
theorem ron_any (a1 a2 b1 b2 p1 p2 : Int) (w : World) (ha : Eg.may a1 a2 = true) (hb : Eg.may b1 b2 = true) (hp : Eg.may p1 p2 = true) :
    Calls Tryz.prog 95 #[.agg #[.int .i64 a1, .int .i64 a2], .agg #[.int .i64 b1, .int .i64 b2], .agg #[.int .i64 p1, .int .i64 p2]] w fun e w' => e = .returned (.bool (Eg.on a1 a2 b1 b2 p1 p2)) ∧ Kp w.heap.size w w' := by
  have S1 := fun W => rside_any a1 a2 b1 b2 p1 p2 W ha hb hp
  have O1 := fun W => rowns_any a1 a2 b1 b2 W
  have HO := Lib.hid ((((Ow.refl w).newAt w.heap.size rfl (.int .i64 a1) [.int .i64 a2] 23).newAt (w.heap.size + 1) (by simp) (.int .i64 b1) [.int .i64 b2] 23).newAt (w.heap.size + 2) (by simp) (.int .i64 p1) [.int .i64 p2] 23)
  clear ha hb hp
  cases h1 : decide (0 < Eg.side a1 a2 b1 b2 p1 p2) <;> cases h2 : (Eg.side a1 a2 b1 b2 p1 p2 == 0)
  all_goals
    go_enter Tryz.func95, Tryz.ntmps95
    go_wp2_with (first
      | go_big_skip
      | ((with_reducible show wpList _ _ _ ({ dst := _, op := Op.load 23 (Operand.tmp 3), type := _, pos := _, after := _, guard := _ } :: _) _ _); refine wpList_ldr ty_point rfl _ rfl _ rfl _ rfl (HO.out.at 2 rfl) ?_)
      | ((with_reducible show wpList _ _ _ ({ dst := _, op := Op.load 23 (Operand.tmp 4), type := _, pos := _, after := _, guard := _ } :: _) _ _); refine wpList_ldr ty_point rfl _ rfl _ rfl _ rfl (HO.out.at 1 rfl) ?_)
      | ((with_reducible show wpList _ _ _ ({ dst := _, op := Op.load 23 (Operand.tmp 5), type := _, pos := _, after := _, guard := _ } :: _) _ _); refine wpList_ldr ty_point rfl _ rfl _ rfl _ rfl (HO.out.at 0 rfl) ?_)
      | (go_at_call 94; refine (S1 _).mono ?_; rintro e w1 ⟨rfl, hk1⟩; have l2 := HO.out.call hk1; clear HO hk1; have HO := Lib.hid l2; clear l2)
      | (go_at_call 123; refine (O1 _).mono ?_; rintro e w1 ⟨rfl, hk1⟩; have l2 := HO.out.call hk1; clear HO hk1; have HO := Lib.hid l2; clear l2))
    go_ret
    exact ⟨ret_bool (by simp at h1 h2; first | (exfalso; omega) | simp [Eg.on, h1, h2]), HO.out.k⟩

theorem mid_no (x y : Int) (w : World) (h : Eg.fits x y = false) :
    Calls Tryz.prog 82 #[.int .i64 x, .int .i64 y] w fun e w' => e = .returned (.tuple #[.agg #[.int .i64 0, .int .i64 0], .int .i64 3]) ∧ Kp w.heap.size w w' := by
  have HO := Lib.hid ((Ow.refl w).newAt w.heap.size rfl (.int .i64 0) [.int .i64 0] 23)
  rw [Eg.fits_plc] at h
  cases h1 : Eg.plc x
  · clear h
    go_enter Tryz.func82, Tryz.ntmps82
    go_wp2_with (first
      | go_big_skip
      | (go_at_call 112; (with_reducible refine (isPlace_any x _).mono ?_); rintro e w' ⟨rfl, rfl⟩)
      | ((with_reducible show wpList _ _ _ ({ dst := _, op := Op.store 23 _ _, type := _, pos := _, after := _, guard := _ } :: _) _ _); refine wpList_sto ty_point HO.out 0 [.int .i64 0, .int .i64 0] rfl _ _ rfl _ rfl rfl _ rfl rfl rfl rfl ?_; intro w2 l2; clear HO; have HO := Lib.hid l2; clear l2))
    exact bodyPost_ret (results_c2 ty_point rfl rfl rfl rfl (HO.out.at 0 rfl)) rfl ⟨rfl, HO.out.k⟩
  · have h2 : Eg.plc y = false := by rw [h1] at h; exact h
    clear h
    go_enter Tryz.func82, Tryz.ntmps82
    go_wp2_with (first
      | go_big_skip
      | (go_at_call 112; (with_reducible refine (isPlace_any x _).mono ?_); rintro e w' ⟨rfl, rfl⟩)
      | (go_at_call 112; (with_reducible refine (isPlace_any y _).mono ?_); rintro e w' ⟨rfl, rfl⟩)
      | ((with_reducible show wpList _ _ _ ({ dst := _, op := Op.store 23 _ _, type := _, pos := _, after := _, guard := _ } :: _) _ _); refine wpList_sto ty_point HO.out 0 [.int .i64 0, .int .i64 0] rfl _ _ rfl _ rfl rfl _ rfl rfl rfl rfl ?_; intro w2 l2; clear HO; have HO := Lib.hid l2; clear l2))
    exact bodyPost_ret (results_c2 ty_point rfl rfl rfl rfl (HO.out.at 0 rfl)) rfl ⟨rfl, HO.out.k⟩
theorem mid_yes (x y : Int) (w : World) (h : Eg.fits x y = true) :
    Calls Tryz.prog 82 #[.int .i64 x, .int .i64 y] w fun e w' => e = .returned (.tuple #[.agg #[.int .i64 (16 * x + 8), .int .i64 (16 * y + 8)], .int .i64 0]) ∧ Kp w.heap.size w w' := by
  have HO := Lib.hid ((Ow.refl w).newAt w.heap.size rfl (.int .i64 0) [.int .i64 0] 23)
  obtain ⟨h1, h2⟩ : Eg.plc x = true ∧ Eg.plc y = true := by rw [Eg.fits_plc] at h; simpa using h
  have M1 := fun W => middle_any x W h1
  have M2 := fun W => middle_any y W h2
  clear h
  go_enter Tryz.func82, Tryz.ntmps82
  go_wp2_with (first
    | go_big_skip
    | (go_at_call 112; (with_reducible refine (isPlace_any x _).mono ?_); rintro e w' ⟨rfl, rfl⟩)
    | (go_at_call 112; (with_reducible refine (isPlace_any y _).mono ?_); rintro e w' ⟨rfl, rfl⟩)
    | (go_at_call 113; (with_reducible refine (M1 _).mono ?_); rintro e w' ⟨rfl, rfl⟩)
    | (go_at_call 113; (with_reducible refine (M2 _).mono ?_); rintro e w' ⟨rfl, rfl⟩)
    | ((with_reducible show wpList _ _ _ ({ dst := _, op := Op.store 23 _ _, type := _, pos := _, after := _, guard := _ } :: _) _ _); refine wpList_sto ty_point HO.out 0 [.int .i64 (16 * x + 8), .int .i64 (16 * y + 8)] rfl _ _ rfl _ rfl rfl _ rfl rfl rfl rfl ?_; intro w2 l2; clear HO; have HO := Lib.hid l2; clear l2))
  exact bodyPost_ret (results_c2 ty_point rfl rfl rfl rfl (HO.out.at 0 rfl)) rfl ⟨rfl, HO.out.k⟩
theorem rmiddle_any (x y : Int) (w : World) (h : Eg.fits x y = true) :
    Calls Tryz.prog 56 #[.int .i64 x, .int .i64 y] w fun e w' => e = .returned (.agg #[.int .i64 (16 * x + 8), .int .i64 (16 * y + 8)]) ∧ Kp w.heap.size w w' := by
  have HO := Lib.hid ((Ow.refl w).newAt w.heap.size rfl (.int .i64 0) [.int .i64 0] 23)
  obtain ⟨⟨h1, h2⟩, h3, h4⟩ := Eg.fits_iff.1 h
  clear h
  go_enter Tryz.func56, Tryz.ntmps56
  go_wp2_with ((with_reducible show wpList _ _ _ ({ dst := _, op := Op.store 23 _ _, type := _, pos := _, after := _, guard := _ } :: _) _ _); refine wpList_sto ty_point HO.out 0 [.int .i64 (16 * x + 8), .int .i64 (16 * y + 8)] rfl _ _ rfl _ rfl rfl _ rfl rfl rfl rfl ?_; intro w2 l2; clear HO; have HO := Lib.hid l2; clear l2)
  exact bodyPost_ret (results_c ty_point rfl rfl rfl (HO.out.at 0 rfl)) rfl ⟨rfl, HO.out.k⟩
end Go.Proofs.YtankjlpanmmogaaGreat

/-
  What stands in memory, further, of no layer: 'copy' into a block; one cell of a block in a region that draws its order; slices in later worlds.
-/
namespace Go.Proofs.YtankjlpanmmogaaGreat
set_option maxRecDepth 100000
open Go.RowKit

/-- one operation, alone, in a region that draws its order -/
theorem wpAny_alone {ops : Array Oper} {listed : Array Bool} {fuel : Nat} {op : Oper} {a : Act} {w : World} {Q : Exit → Act → World → Prop} (z : Nat) (hr : Region.ready .any ops listed = [z]) (hz : ops[z]? = some op)
    (hgd : Region.wanted op (yielded ops a.tmps) = true) (h : ∀ K : Act → World → Prop, (∀ a' w', wpAny Tryz.prog .any ops Q fuel (listed.setIfInBounds z true) a' w' → K a' w') → op.wp Tryz.prog a w K Q) : wpAny Tryz.prog .any ops Q (fuel + 1) listed a w := by
  refine wpAny_ready hr (by simp) (AllReady.cons hz (fun K hK => ?_) AllReady.nil)
  rw [if_pos hgd]
  exact h K hK
/-- a slice, and its cells in every world in which what stood stands -/
theorem Sl.kept {w : World} {v : Value} {xs : List Value} (h : Sl w v xs) : ∃ a c, v = .slice a xs.length c ∧ xs.length ≤ c ∧
    ∀ wr, Kp w.heap.size w wr → ∀ j x, xs[j]? = some x → ∃ b o, a = some ⟨b, o, none⟩ ∧ wr.cell? ⟨b, o + j, none⟩ = some x := by
  obtain ⟨a, c, h1, h2, h3⟩ := h
  refine ⟨a, c, h1, h2, fun wr hk j x hj => ?_⟩
  obtain ⟨b, o, e1, e2, e3⟩ := h3 j x hj
  exact ⟨b, o, e1, (hk.below.cell (p := ⟨b, o + j, none⟩) e2).trans e3⟩
/-- the third block comes first -/
theorem Ow.third {w W : World} {x y z : Nat × List Value} {ms : List (Nat × List Value)} (h : Ow w W (x :: y :: z :: ms)) : Ow w W (z :: x :: y :: ms) :=
  h.perm ((List.Perm.cons x (List.Perm.swap z y ms)).trans (List.Perm.swap z x (y :: ms)))
theorem Ow.back {w W : World} {x y z : Nat × List Value} {ms : List (Nat × List Value)} (h : Ow w W (z :: x :: y :: ms)) : Ow w W (x :: y :: z :: ms) :=
  h.perm ((List.Perm.swap x z (y :: ms)).trans (List.Perm.cons x (List.Perm.swap y z ms)))
/-- 'copy' into a part of one of the call's own blocks: as many cells as there is room for -/
theorem wp_copy {o : Oper} {a : Act} {w0 w : World} {K : Act → World → Prop} {Q : Exit → Act → World → Prop} {ms : List (Nat × List Value)} (HO : Ow w0 w ms) (i : Nat) (d s : Operand) (dT sT : TypeId)
    (ho : o.op = .call { callee := .builtin .copy, args := #[d, s], argTypes := #[dT, sT] }) (elem : TypeId) (hu : Tryz.prog.underlying dT = some (.slice elem)) (hsz : (Tryz.prog.info? elem).map (·.size) = some 1)
    (b off n dCap : Nat) (hd : a.eval d = .slice (some ⟨b, off, none⟩) n dCap) (v : Value) (xs : List Value) (hs : a.eval s = v) (hS : Sl w v xs) (vs : List Value) (hi : ms[i]? = some (b, vs)) (hfit : off + n ≤ vs.length)
    (h1 : ∀ x ∈ xs, x.oneCell' = true) (h : ∀ (W : World) (k : Nat), Ow w0 W (ms.set i (b, setsAt vs off (xs.take n))) → K (a.put o.dst (goInt k)) W) : o.wp Tryz.prog a w K Q := by
  obtain ⟨ad, c, rfl, hle, hx⟩ := hS
  have hmin : (xs.take n).length = Nat.min xs.length n := by rw [List.length_take]; exact Nat.min_comm _ _
  have hlen : (xs.take n).length ≤ n := by rw [List.length_take]; exact Nat.min_le_left _ _
  rcases Nat.eq_zero_or_pos (xs.take n).length with h0 | h0
  · have hrun := run_copy_none (P := Tryz.prog) w dT sT o.type elem (some ⟨b, off, none⟩) ad n dCap xs.length c hu hsz (by omega)
    unfold Oper.wp
    simp [execOp, ho, resolve, invoke, builtin, hd, hs, hrun, Result.andThen]
    refine h w 0 ?_
    rw [List.length_eq_zero_iff.1 h0]
    have hn : i < ms.length := (List.getElem?_eq_some_iff.1 hi).1
    have he : ms[i] = (b, vs) := (List.getElem?_eq_some_iff.1 hi).2
    show Ow w0 w (ms.set i (b, vs))
    rw [← he, List.set_getElem_self]; exact HO
  · have hpos : 0 < xs.length := by rw [List.length_take] at h0; omega
    obtain ⟨b2, o2, rfl, _, _⟩ := hx 0 _ (List.getElem?_eq_getElem hpos)
    have hsrc : ∀ j x, (xs.take n)[j]? = some x → w.cell? ((⟨b2, o2, none⟩ : Addr).add j) = some x := fun j x hj => by
      obtain ⟨b3, o3, e1, _, e3⟩ := hx j x (by
        rw [List.getElem?_take] at hj
        split at hj
        · exact hj
        · cases hj)
      cases e1
      rw [show (⟨b2, o2, none⟩ : Addr).add j = ⟨b2, o2 + j, none⟩ by simp [Addr.add]]
      exact e3
    have hth := (HO.at i hi).thereM (o := off) (n := (xs.take n).length) (by omega)
    have hrun := run_copy_cells (P := Tryz.prog) w dT sT o.type elem b off n dCap ⟨b2, o2, none⟩ xs.length c (xs.take n) hu hsz hmin hsrc (fun j hj => (hth j hj).1) (fun j hj => (hth j hj).2) (fun x hx => h1 x (List.mem_of_mem_take hx))
    unfold Oper.wp
    simp [execOp, ho, resolve, invoke, builtin, hd, hs, hrun, Result.andThen]
    exact h _ _ (HO.putM i hi off (xs.take n) (by omega))
/-- one cell of a block of the region's own is written -/
theorem Rg2.puts_cell {ops : Array Oper} {w : World} {ms s : List (Nat × List Value)} {o : Oper} {a : Act} (i : Nat) (hgd : Region.wanted o (yielded ops a.tmps) = true) {b : Nat} {vs : List Value} (j : Nat) (hj : j < vs.length) (v : Value)
    (hi : s[i]? = some (b, vs)) (hrun : ∀ W : World, W.cell? ⟨b, j, none⟩ = vs[j]? → W.frozen? ⟨b, j, none⟩ = false → (execOp a.eval o).run Tryz.prog W = .ok .skip (W.setCell ⟨b, j, none⟩ v)) :
    Rg2.Puts Tryz.prog ops (Rg2.Io w ms) o a s (s.set i (b, vs.set j v)) := by
  refine ⟨hgd, fun W hI => ⟨W.setCell ⟨b, j, none⟩ v, ?_, ?_⟩⟩
  · have hlt : i < s.length := (List.getElem?_eq_some_iff.1 hi).1
    have hR : Rc W b vs := Ow.at hI i (by rw [List.getElem?_append_left hlt]; exact hi)
    exact hrun W (by rw [List.getElem?_eq_getElem hj]; exact hR.cell j (List.getElem?_eq_getElem hj)) (hR.froz j hj)
  · have hlt : i < s.length := (List.getElem?_eq_some_iff.1 hi).1
    have h2 := Ow.put1 hI i (by rw [List.getElem?_append_left hlt]; exact hi) j hj v
    rw [List.set_append_left _ _ hlt] at h2
    exact h2
/-- nothing of one's own yet -/
theorem Ow.kp0 {w W : World} (h : Kp w.heap.size w W) : Ow w W [] := ⟨h, fun _ h => (by cases h), .nil⟩
end Go.Proofs.YtankjlpanmmogaaGreat

/-
  Contracts of layer 8 (depth): what its functions return, for every input; the world stays as it was.
-/
namespace Go.Proofs.YtankjlpanmmogaaGreat
set_option maxRecDepth 100000
open Go.RowKit

theorem may_any (k : Int) (w : World) :
    Calls Tryz.prog 124 #[.int .i64 k] w fun e w' => e = .returned (.bool (Dp.is k)) ∧ w = w' := by
  by_cases h : 0 ≤ k
  · go_enter Tryz.func124, Tryz.ntmps124
    go_wp2
    go_ret
    exact ⟨ret_bool (by simp [Dp.is, h]), rfl⟩
  · have hd : decide (0 ≤ k) = false := decide_eq_false h
    go_enter Tryz.func124, Tryz.ntmps124
    go_wp2
    go_ret
    exact ⟨ret_bool (by simp [Dp.is]; omega), rfl⟩
theorem rel_any (a b : Int) (w : World) :
    Calls Tryz.prog 125 #[.int .i64 a, .int .i64 b] w fun e w' => e = .returned (.int .i64 (Dp.rel a b)) ∧ w = w' := by
  go_enter Tryz.func125, Tryz.ntmps125
  go_wp2
  all_goals
    go_ret
    exact ⟨ret_int (by unfold Dp.rel; (repeat' split) <;> omega), rfl⟩

theorem passes_no (k a b : Int) (w : World) (h : Dp.is k = false) :
    Calls Tryz.prog 101 #[.int .i64 k, .int .i64 a, .int .i64 b] w fun e w' => e = .returned (.tuple #[.bool false, .int .i64 9]) ∧ w = w' := by
  have M1 : ∀ W, Calls Tryz.prog 124 #[.int .i64 k] W fun e w' => e = .returned (.bool false) ∧ W = w' := fun W => by have := may_any k W; rwa [h] at this
  clear h
  go_enter Tryz.func101, Tryz.ntmps101
  go_wp2_with (go_at_call 124; refine (M1 _).mono ?_; rintro e w' ⟨rfl, rfl⟩)
  go_ret2
  exact ⟨rfl, rfl⟩
theorem passes_yes (k a b : Int) (w : World) (h : Dp.is k = true) :
    Calls Tryz.prog 101 #[.int .i64 k, .int .i64 a, .int .i64 b] w fun e w' => e = .returned (.tuple #[.bool (Dp.pass k a b), .int .i64 0]) ∧ w = w' := by
  have M1 : ∀ W, Calls Tryz.prog 124 #[.int .i64 k] W fun e w' => e = .returned (.bool true) ∧ W = w' := fun W => by have := may_any k W; rwa [h] at this
  have HB := Lib.hid (Dp.bits a b h)
  clear h
  go_enter Tryz.func101, Tryz.ntmps101
  go_wp2_with (first | (go_at_call 124; refine (M1 _).mono ?_; rintro e w' ⟨rfl, rfl⟩) | (go_at_call 125; refine (rel_any a b _).mono ?_; rintro e w' ⟨rfl, rfl⟩))
  go_ret2
  exact ⟨by rw [← HB.out]; rfl, rfl⟩
theorem test_no (k : Int) (p : Bool) (z old : Int) (w : World) (h : Dp.is k = false) :
    Calls Tryz.prog 77 #[.int .i64 k, .bool p, .int .i64 z, .int .i64 old] w fun e w' => e = .returned (.tuple #[.bool false, .int .i64 0, .int .i64 9]) ∧ w = w' := by
  go_enter Tryz.func77, Tryz.ntmps77
  go_wp2_with (go_at_call 101; refine (passes_no k z old _ h).mono ?_; rintro e w' ⟨rfl, rfl⟩)
  go_ret3
  exact ⟨rfl, rfl⟩
theorem test_yes (k : Int) (p : Bool) (z old : Int) (w : World) (h : Dp.is k = true) :
    Calls Tryz.prog 77 #[.int .i64 k, .bool p, .int .i64 z, .int .i64 old] w fun e w' => e = .returned (.tuple #[.bool (Dp.pass k z old), .int .i64 (Dp.put k p z old), .int .i64 0]) ∧ w = w' := by
  have M1 := fun W => passes_yes k z old W h
  have HP : Hid (Dp.put k p z old = if Dp.pass k z old && p then z else old) := Lib.hid rfl
  clear h
  generalize Dp.put k p z old = P at *
  cases hp : Dp.pass k z old <;> rw [hp] at HP <;> simp only [hp] at M1 <;> clear hp <;> cases p
  all_goals
    go_enter Tryz.func77, Tryz.ntmps77
    go_wp2_with (go_at_call 101; refine (M1 _).mono ?_; rintro e w' ⟨rfl, rfl⟩)
    go_ret3
    exact ⟨by rw [HP.out]; rfl, rfl⟩

end Go.Proofs.YtankjlpanmmogaaGreat

/-
  Contracts of layer 9 (sten): stencils, deeds; the document's own, and the bits that two numbers have.
-/
namespace Go.Proofs.YtankjlpanmmogaaGreat
set_option maxRecDepth 100000
open Go.RowKit

theorem isDeed_any (k : Int) (w : World) :
    Calls Tryz.prog 103 #[.int .i64 k] w fun e w' => e = .returned (.bool (Dp.is k)) ∧ w = w' := by
  by_cases h : 0 ≤ k
  · go_enter Tryz.func103, Tryz.ntmps103
    go_wp2
    go_ret
    exact ⟨ret_bool (by rw [Bool.eq_iff_iff]; simp [Dp.is, h]), rfl⟩
  · have hd : decide (0 ≤ k) = false := decide_eq_false h
    go_enter Tryz.func103, Tryz.ntmps103
    go_wp2
    go_ret
    exact ⟨ret_bool (by simp [Dp.is]; omega), rfl⟩
theorem isSten_any (k : Int) (w : World) :
    Calls Tryz.prog 104 #[.int .i64 k] w fun e w' => e = .returned (.bool (Sn.is k)) ∧ w = w' := by
  by_cases h : 0 ≤ k
  · go_enter Tryz.func104, Tryz.ntmps104
    go_wp2
    go_ret
    exact ⟨ret_bool (by rw [Bool.eq_iff_iff]; simp [Sn.is, h]), rfl⟩
  · have hd : decide (0 ≤ k) = false := decide_eq_false h
    go_enter Tryz.func104, Tryz.ntmps104
    go_wp2
    go_ret
    exact ⟨ret_bool (by simp [Sn.is]; omega), rfl⟩
set_option maxHeartbeats 1000000 in
theorem made_any (k old ref : Int) (w : World) (hk : Dp.is k = true) (ho : Sn.is old = true) (hr : Sn.is ref = true) :
    Calls Tryz.prog 126 #[.int .i64 k, .int .i64 old, .int .i64 ref] w fun e w' => e = .returned (.int .i64 (Sn.made k old ref)) ∧ w = w' := by
  obtain ⟨o1, o2⟩ := Sn.is_iff.1 ho
  obtain ⟨r1, r2⟩ := Sn.is_iff.1 hr
  rcases Dp.all hk with rfl | rfl | rfl | rfl | rfl | rfl | rfl | rfl
  all_goals
    clear hk ho hr
    go_enter Tryz.func126, Tryz.ntmps126
    go_wp2
    all_goals
      go_ret
      exact ⟨ret_int (by simp only [Sn.made, Sn.bits_255, Int.reduceEq, if_true, if_false]; first | done | omega | ((repeat' split) <;> omega)), rfl⟩
def msr8 (i : Value) : Nat := 8 - (intOf i).toNat
/-- so much has been added up -/
def AI (a b : Int) (n p i : Value) : Prop := ∃ k : Nat, k ≤ 8 ∧ i = .int .i64 k ∧ p = .int .i64 (2 ^ k) ∧ n = .int .i64 (Sn.low a b k)
end Go.Proofs.YtankjlpanmmogaaGreat

/-
  Contracts of layer 9 (sten): Plain, the deeds of a stencil test, Deed, Check; the document's Check.
-/
namespace Go.Proofs.YtankjlpanmmogaaGreat
set_option maxRecDepth 100000
open Go.RowKit

theorem ty_sten : Ty 45 7 := ⟨by kernel_rfl, _, Tryz.underlying45, rfl⟩
theorem ty_three : Ty 94 3 := ⟨by kernel_rfl, _, Tryz.underlying94, rfl⟩
/-- a stencil test by its cells -/
def Sn.row (fn ref rd wr f z p : Int) : List Value := [.int .i64 fn, .int .i64 ref, .int .i64 rd, .int .i64 wr, .int .i64 f, .int .i64 z, .int .i64 p]

theorem splain_any (w : World) :
    Calls Tryz.prog 31 #[] w fun o w' => o = .returned (.agg #[.int .i64 7, .int .i64 0, .int .i64 255, .int .i64 255, .int .i64 0, .int .i64 0, .int .i64 0]) ∧ Kp w.heap.size w w' := by
  go_enter Tryz.func31, Tryz.ntmps31
  go_wp2
  exact bodyPost_ret (results_c ty_sten rfl rfl rfl (Rc.new w [.int .i64 _, .int .i64 _, .int .i64 _, .int .i64 _, .int .i64 _, .int .i64 _, .int .i64 _] _ rfl)) rfl ⟨rfl, Kp.new _ _ _⟩
theorem deedsOf_any (fn ref rd wr f z p : Int) (w : World) :
    Calls Tryz.prog 102 #[.agg #[.int .i64 fn, .int .i64 ref, .int .i64 rd, .int .i64 wr, .int .i64 f, .int .i64 z, .int .i64 p]] w fun e w' => e = .returned (.agg #[.int .i64 f, .int .i64 z, .int .i64 p]) ∧ Kp w.heap.size w w' := by
  go_enter Tryz.func102, Tryz.ntmps102
  go_wp2
  exact bodyPost_ret (results_c ty_three rfl rfl rfl (Rc.new _ [.int .i64 f, .int .i64 z, .int .i64 p] _ (by simp))) rfl ⟨rfl, (Kp.new _ _ _).next (Kp.new _ _ _)⟩

theorem index_three (f z p : Int) (k : Nat) (hk : k < 3) (w : World) : (Instr.index 94 (.agg #[.int .i64 f, .int .i64 z, .int .i64 p]) (.int .i64 k)).run Tryz.prog w = .ok (.int .i64 (Sn.deed f z p k)) w := by
  rcases k with _ | _ | _ | k
  all_goals first | omega | kernel_rfl
theorem Sn.chk_deed {fn ref rd wr f z p : Int} {k : Nat} (hk : k < 3) (h : Dp.is (Sn.deed f z p k) = false) : Sn.chk fn ref rd wr f z p = 9 := by
  rcases k with _ | _ | _ | k
  · simp only [Sn.deed] at h; simp [Sn.chk, h]
  · simp only [Sn.deed] at h; simp [Sn.chk, h]
  · simp only [Sn.deed] at h; simp [Sn.chk, h]
  · omega
def msr3 (i : Value) : Nat := 3 - (intOf i).toNat
/-- the deeds so far are some -/
def CI (f z p : Int) (i : Value) : Prop := ∃ k : Nat, k ≤ 3 ∧ i = .int .i64 k ∧ Hid (∀ j, j < k → Dp.is (Sn.deed f z p j) = true)
set_option maxHeartbeats 1000000 in
theorem scheck_any (fn ref rd wr f z p : Int) (w : World) :
    Calls Tryz.prog 68 #[.agg #[.int .i64 fn, .int .i64 ref, .int .i64 rd, .int .i64 wr, .int .i64 f, .int .i64 z, .int .i64 p]] w fun e w' => e = .returned (.int .i64 (Sn.chk fn ref rd wr f z p)) ∧ Kp w.heap.size w w' := by
  have HO := Lib.hid ((Ow.refl w).newAt w.heap.size rfl (.int .i64 fn) [.int .i64 ref, .int .i64 rd, .int .i64 wr, .int .i64 f, .int .i64 z, .int .i64 p] 45)
  cases h0 : Dp.is fn
  · have HC := Lib.hid (show Sn.chk fn ref rd wr f z p = 9 by simp [Sn.chk, h0])
    go_enter Tryz.func68, Tryz.ntmps68
    go_wp2_with (go_at_call 101; refine (passes_no fn 0 0 _ h0).mono ?_; rintro e w' ⟨rfl, rfl⟩)
    go_ret
    exact ⟨ret_int HC.out.symm, HO.out.k⟩
  · go_enter Tryz.func68, Tryz.ntmps68
    go_wp2_with (first
      | ((with_reducible show wpList _ _ _ ({ dst := _, op := Op.load 45 _, type := _, pos := _, after := _, guard := _ } :: _) _ _); refine wpList_ldr ty_sten rfl _ rfl _ rfl _ rfl (HO.out.at 0 rfl) ?_)
      | (go_at_call 101; refine (passes_yes fn 0 0 _ h0).mono ?_; rintro e w' ⟨rfl, rfl⟩)
      | (go_at_call 102; refine (deedsOf_any fn ref rd wr f z p _).mono ?_; rintro e w1 ⟨rfl, hk1⟩; have l2 := HO.out.call hk1; clear HO hk1; have HO := Lib.hid l2; clear l2))
    go_loop [18] (fun i => CI f z p i) (fun i => msr3 i)
    case atStart => exact ⟨0, by omega, rfl, Lib.hid fun j hj => by omega⟩
    case round =>
      obtain ⟨k, hk, rfl, HA⟩ := hrel
      by_cases hlt : k < 3
      · have hi := index_three f z p k hlt
        cases h1 : Dp.is (Sn.deed f z p k)
        · have HC := Lib.hid (Sn.chk_deed (fn := fn) (ref := ref) (rd := rd) (wr := wr) hlt h1)
          go_wp2_with (go_at_call 103; refine (isDeed_any _ _).mono ?_; rintro e w' ⟨rfl, rfl⟩)
          go_ret
          exact ⟨ret_int HC.out.symm, HO.out.k⟩
        · go_wp2_with (go_at_call 103; refine (isDeed_any _ _).mono ?_; rintro e w' ⟨rfl, rfl⟩)
          go_round
          case rel =>
            refine ⟨k + 1, by omega, by go_num, Lib.hid fun j hj => ?_⟩
            by_cases e : j = k
            · subst e; exact h1
            · exact HA.out j (by omega)
          case measure => simp [msr3, intOf]; omega
      · obtain rfl : k = 3 := by omega
        have d0 : Dp.is f = true := HA.out 0 (by omega)
        have d1 : Dp.is z = true := HA.out 1 (by omega)
        have d2 : Dp.is p = true := HA.out 2 (by omega)
        have c1 := (HO.out.at 0 rfl).cell 1 rfl
        have c2 := (HO.out.at 0 rfl).cell 2 rfl
        have c3 := (HO.out.at 0 rfl).cell 3 rfl
        cases s1 : Sn.is ref
        · have HC := Lib.hid (show Sn.chk fn ref rd wr f z p = 3 by simp [Sn.chk, h0, d0, d1, d2, s1])
          go_wp2_with (first | go_skip | (go_at_call 104; refine (isSten_any _ _).mono ?_; rintro e w' ⟨rfl, rfl⟩))
          go_ret
          exact ⟨ret_int HC.out.symm, HO.out.k⟩
        cases s2 : Sn.is rd
        · have HC := Lib.hid (show Sn.chk fn ref rd wr f z p = 3 by simp [Sn.chk, h0, d0, d1, d2, s1, s2])
          go_wp2_with (first | go_skip | (go_at_call 104; refine (isSten_any _ _).mono ?_; rintro e w' ⟨rfl, rfl⟩))
          go_ret
          exact ⟨ret_int HC.out.symm, HO.out.k⟩
        cases s3 : Sn.is wr
        · have HC := Lib.hid (show Sn.chk fn ref rd wr f z p = 3 by simp [Sn.chk, h0, d0, d1, d2, s1, s2, s3])
          go_wp2_with (first | go_skip | (go_at_call 104; refine (isSten_any _ _).mono ?_; rintro e w' ⟨rfl, rfl⟩))
          go_ret
          exact ⟨ret_int HC.out.symm, HO.out.k⟩
        · have HC := Lib.hid (show Sn.chk fn ref rd wr f z p = 0 by simp [Sn.chk, h0, d0, d1, d2, s1, s2, s3])
          go_wp2_with (first | go_skip | (go_at_call 104; refine (isSten_any _ _).mono ?_; rintro e w' ⟨rfl, rfl⟩))
          go_ret
          exact ⟨ret_int HC.out.symm, HO.out.k⟩

end Go.Proofs.YtankjlpanmmogaaGreat

/-
  Contracts of layer 7 (blend), the small functions: what they return, for every input; what stood in memory stands.
-/
namespace Go.Proofs.YtankjlpanmmogaaGreat
set_option maxRecDepth 100000
open Go.RowKit

theorem ty_blend : Ty 47 4 := ⟨by kernel_rfl, _, Tryz.underlying47, rfl⟩

theorem among_any (c n : Int) (w : World) :
    Calls Tryz.prog 105 #[.int .i64 c, .int .i64 n] w fun e w' => e = .returned (.bool (Bn.am c n)) ∧ w = w' := by
  by_cases h : 0 ≤ n
  · go_enter Tryz.func105, Tryz.ntmps105
    go_wp2
    go_ret
    exact ⟨ret_bool (by simp [Bn.am, h]), rfl⟩
  · have hd : decide (0 ≤ n) = false := decide_eq_false h
    go_enter Tryz.func105, Tryz.ntmps105
    go_wp2
    go_ret
    exact ⟨ret_bool (by simp [Bn.am]; omega), rfl⟩
set_option maxHeartbeats 1000000 in
theorem bcheck_any (s d e m : Int) (w : World) :
    Calls Tryz.prog 69 #[.agg #[.int .i64 s, .int .i64 d, .int .i64 e, .int .i64 m]] w fun o w' => o = .returned (.int .i64 (Bn.chk s d e m)) ∧ Kp w.heap.size w w' := by
  cases h0 : Bn.am 10 s
  · go_enter Tryz.func69, Tryz.ntmps69
    go_wp2_with (first | go_skip | (go_at_call 105; refine (among_any _ _ _).mono ?_; rintro e w' ⟨rfl, rfl⟩))
    go_ret
    exact ⟨ret_int (by simp [Bn.chk, h0]), Kp.new _ _ _⟩
  cases h1 : Bn.am 10 d
  · go_enter Tryz.func69, Tryz.ntmps69
    go_wp2_with (first | go_skip | (go_at_call 105; refine (among_any _ _ _).mono ?_; rintro e w' ⟨rfl, rfl⟩))
    go_ret
    exact ⟨ret_int (by simp [Bn.chk, h1]), Kp.new _ _ _⟩
  cases h2 : Bn.am 5 e
  · go_enter Tryz.func69, Tryz.ntmps69
    go_wp2_with (first | go_skip | (go_at_call 105; refine (among_any _ _ _).mono ?_; rintro e w' ⟨rfl, rfl⟩))
    go_ret
    exact ⟨ret_int (by simp [Bn.chk, h2]), Kp.new _ _ _⟩
  cases h3 : Bn.am 16 m
  · go_enter Tryz.func69, Tryz.ntmps69
    go_wp2_with (first | go_skip | (go_at_call 105; refine (among_any _ _ _).mono ?_; rintro e w' ⟨rfl, rfl⟩))
    go_ret
    exact ⟨ret_int (by simp [Bn.chk, h0, h1, h2, h3]), Kp.new _ _ _⟩
  · go_enter Tryz.func69, Tryz.ntmps69
    go_wp2_with (first | go_skip | (go_at_call 105; refine (among_any _ _ _).mono ?_; rintro e w' ⟨rfl, rfl⟩))
    go_ret
    exact ⟨ret_int (by simp [Bn.chk, h0, h1, h2, h3]), Kp.new _ _ _⟩

/-- a number that is not among so many is below 0, or beyond -/
theorem am_out {c n : Int} (h : Bn.am c n = false) : decide (n < 0) = true ∨ decide (n < 0) = false ∧ decide (c - 1 < n) = true := by
  have := Bn.am_no.1 h
  by_cases h1 : n < 0
  · exact .inl (decide_eq_true h1)
  · exact .inr ⟨decide_eq_false h1, decide_eq_true (by omega)⟩
theorem am_in {c n : Int} (h : Bn.am c n = true) : decide (n < 0) = false ∧ decide (c - 1 < n) = false := by
  have := Bn.am_iff.1 h
  exact ⟨decide_eq_false (by omega), decide_eq_false (by omega)⟩
theorem even_any (n : Int) (w : World) :
    Calls Tryz.prog 127 #[.int .i64 n] w fun o w' => o = .returned (.agg #[.int .i64 n, .int .i64 n, .int .i64 n, .int .i64 n]) ∧ Kp w.heap.size w w' := by
  go_enter Tryz.func127, Tryz.ntmps127
  go_wp2
  exact bodyPost_ret (results_c ty_color rfl rfl rfl (Rc.new w [.int .i64 _, .int .i64 _, .int .i64 _, .int .i64 _] _ rfl)) rfl ⟨rfl, Kp.new _ _ _⟩
theorem rest_any (r g b a : Int) (w : World) (h : Tn.right r g b a = true) :
    Calls Tryz.prog 128 #[.agg #[.int .i64 r, .int .i64 g, .int .i64 b, .int .i64 a]] w fun o w' => o = .returned (.agg #[.int .i64 (255 - r), .int .i64 (255 - g), .int .i64 (255 - b), .int .i64 (255 - a)]) ∧ Kp w.heap.size w w' := by
  obtain ⟨⟨h1, h2⟩, ⟨h3, h4⟩, ⟨h5, h6⟩, ⟨h7, h8⟩⟩ := Tn.right_iff.1 h
  clear h
  go_enter Tryz.func128, Tryz.ntmps128
  go_wp2
  exact bodyPost_ret (results_c ty_color rfl rfl rfl (Rc.new _ [.int .i64 _, .int .i64 _, .int .i64 _, .int .i64 _] _ (by simp))) rfl ⟨rfl, (Kp.new _ _ _).next (Kp.new _ _ _)⟩
theorem bplain_any (w : World) :
    Calls Tryz.prog 32 #[] w fun o w' => o = .returned (.agg #[.int .i64 1, .int .i64 0, .int .i64 0, .int .i64 15]) ∧ Kp w.heap.size w w' := by
  go_enter Tryz.func32, Tryz.ntmps32
  go_wp2
  exact bodyPost_ret (results_c ty_blend rfl rfl rfl (Rc.new w [.int .i64 _, .int .i64 _, .int .i64 _, .int .i64 _] _ rfl)) rfl ⟨rfl, Kp.new _ _ _⟩

theorem least_any (x y f g : Int) (w : World) :
    Calls Tryz.prog 130 #[.agg #[.int .i64 x, .int .i64 y], .agg #[.int .i64 f, .int .i64 g]] w fun e w' => e = .returned (.int .i64 (Tn.low x y)) ∧ Kp w.heap.size w w' := by
  go_enter Tryz.func130, Tryz.ntmps130
  go_wp2
  all_goals
    go_ret
    exact ⟨ret_int (by unfold Tn.low; (repeat' split) <;> omega), (Kp.new _ _ _).next (Kp.new _ _ _)⟩
theorem most_any (x y f g : Int) (w : World) :
    Calls Tryz.prog 131 #[.agg #[.int .i64 x, .int .i64 y], .agg #[.int .i64 f, .int .i64 g]] w fun e w' => e = .returned (.int .i64 (Bn.high x y)) ∧ Kp w.heap.size w w' := by
  go_enter Tryz.func131, Tryz.ntmps131
  go_wp2
  all_goals
    go_ret
    exact ⟨ret_int (by unfold Bn.high; (repeat' split) <;> omega), (Kp.new _ _ _).next (Kp.new _ _ _)⟩
end Go.Proofs.YtankjlpanmmogaaGreat

/-
  Contracts of layer 11 (tile): the small functions, Count, At; the document's own.
-/
namespace Go.Proofs.YtankjlpanmmogaaGreat
set_option maxRecDepth 100000
open Go.RowKit

end Go.Proofs.YtankjlpanmmogaaGreat

/-
  Contracts of layer 18 (state): the errors of single parts; the first error of several.
-/
namespace Go.Proofs.YtankjlpanmmogaaGreat
set_option maxRecDepth 100000
open Go.RowKit

theorem ty_state : Ty 49 41 := ⟨by kernel_rfl, _, Tryz.underlying49, rfl⟩
theorem ty_mat : Ty 43 16 := ⟨by kernel_rfl, _, Tryz.underlying43, rfl⟩
theorem swithin_any (lo hi n : Int) (w : World) :
    Calls Tryz.prog 29 #[.int .i64 lo, .int .i64 hi, .int .i64 n] w fun e w' => e = .returned (.bool (Sx.wi lo hi n)) ∧ w = w' := by
  cases h1 : decide (lo ≤ n)
  all_goals
    go_enter Tryz.func29, Tryz.ntmps29
    go_wp2_with go_big_skip
    go_ret
    exact ⟨ret_bool (by simp [Sx.wi, h1]), rfl⟩
def Sx.un (b : Bool) (n : Int) : Int := if b then 0 else n
theorem unless_any (b : Bool) (n : Int) (w : World) :
    Calls Tryz.prog 106 #[.bool b, .int .i64 n] w fun e w' => e = .returned (.int .i64 (Sx.un b n)) ∧ w = w' := by
  cases b
  all_goals
    go_enter Tryz.func106, Tryz.ntmps106
    go_wp2
    go_ret
    exact ⟨rfl, rfl⟩
theorem cullOf_any (n : Int) (w : World) :
    Calls Tryz.prog 70 #[.int .i64 n] w fun e w' => e = .returned (.int .i64 (Sx.kind n)) ∧ w = w' := by
  have W1 := fun W => swithin_any 0 2 n W
  have U1 := fun W => unless_any (Sx.wi 0 2 n) 9 W
  have HR : Hid (Sx.kind n = Sx.un (Sx.wi 0 2 n) 9) := Lib.hid rfl
  generalize Sx.kind n = r at *
  generalize Sx.wi 0 2 n = b at *
  go_enter Tryz.func70, Tryz.ntmps70
  go_wp2_with (first | (go_at_call 29; (with_reducible refine (W1 _).mono ?_); rintro e w' ⟨rfl, rfl⟩) | (go_at_call 106; (with_reducible refine (U1 _).mono ?_); rintro e w' ⟨rfl, rfl⟩))
  go_ret
  exact ⟨ret_int HR.out.symm, rfl⟩
theorem wrapOf_any (n : Int) (w : World) :
    Calls Tryz.prog 72 #[.int .i64 n] w fun e w' => e = .returned (.int .i64 (Sx.kind n)) ∧ w = w' := by
  have W1 := fun W => swithin_any 0 2 n W
  have U1 := fun W => unless_any (Sx.wi 0 2 n) 9 W
  have HR : Hid (Sx.kind n = Sx.un (Sx.wi 0 2 n) 9) := Lib.hid rfl
  generalize Sx.kind n = r at *
  generalize Sx.wi 0 2 n = b at *
  go_enter Tryz.func72, Tryz.ntmps72
  go_wp2_with (first | (go_at_call 29; (with_reducible refine (W1 _).mono ?_); rintro e w' ⟨rfl, rfl⟩) | (go_at_call 106; (with_reducible refine (U1 _).mono ?_); rintro e w' ⟨rfl, rfl⟩))
  go_ret
  exact ⟨ret_int HR.out.symm, rfl⟩
theorem handleOf_any (n : Int) (w : World) :
    Calls Tryz.prog 71 #[.int .i64 n] w fun e w' => e = .returned (.int .i64 (Sx.hand n)) ∧ w = w' := by
  have W1 := fun W => swithin_any 0 64 n W
  have U1 := fun W => unless_any (Sx.wi 0 64 n) 7 W
  have HR : Hid (Sx.hand n = Sx.un (Sx.wi 0 64 n) 7) := Lib.hid rfl
  generalize Sx.hand n = r at *
  generalize Sx.wi 0 64 n = b at *
  go_enter Tryz.func71, Tryz.ntmps71
  go_wp2_with (first | (go_at_call 29; (with_reducible refine (W1 _).mono ?_); rintro e w' ⟨rfl, rfl⟩) | (go_at_call 106; (with_reducible refine (U1 _).mono ?_); rintro e w' ⟨rfl, rfl⟩))
  go_ret
  exact ⟨ret_int HR.out.symm, rfl⟩
theorem testOf_any (k : Int) (w : World) :
    Calls Tryz.prog 67 #[.int .i64 k] w fun e w' => e = .returned (.int .i64 (Sx.test k)) ∧ w = w' := by
  unfold Sx.test
  cases h : Dp.is k
  · have P1 := fun W => passes_no k 0 0 W h
    go_enter Tryz.func67, Tryz.ntmps67
    go_wp2_with (go_at_call 101; (with_reducible refine (P1 _).mono ?_); rintro e w' ⟨rfl, rfl⟩)
    go_ret
    exact ⟨rfl, rfl⟩
  · have P1 := fun W => passes_yes k 0 0 W h
    generalize Dp.pass k 0 0 = b at *
    go_enter Tryz.func67, Tryz.ntmps67
    go_wp2_with (go_at_call 101; (with_reducible refine (P1 _).mono ?_); rintro e w' ⟨rfl, rfl⟩)
    go_ret
    exact ⟨rfl, rfl⟩
def msrS (n : Nat) (i : Value) : Nat := n - (intOf i).toNat
theorem Sx.fst_at {l : List Int} {k : Nat} (h : k < l.length) : Sx.fst (l.drop k) = if l[k] = 0 then Sx.fst (l.drop (k + 1)) else l[k] := by
  rw [List.drop_eq_getElem_cons h]; rfl
set_option maxHeartbeats 1000000 in
/-- the first error of a row of them -/
theorem first_any (l : List Int) (n c b : Nat) (w : World) (hn : n = l.length) (hm : n ≤ 100) (hR : ∀ j v, (iv l)[j]? = some v → w.cell? ⟨b, j, none⟩ = some v) :
    Calls Tryz.prog 64 #[.slice (some ⟨b, 0, none⟩) n c] w fun e w' => e = .returned (.int .i64 (Sx.fst l)) ∧ w = w' := by
  have HR := Lib.hid hR
  have HN := Lib.hid hn
  clear hR hn
  go_enter Tryz.func64, Tryz.ntmps64
  go_wp2
  go_loop [7] (fun i => ∃ k : Nat, k ≤ n ∧ i = .int .i64 k ∧ Hid (Sx.fst l = Sx.fst (l.drop k))) (fun i => msrS n i)
  case atStart => exact ⟨0, Nat.zero_le _, rfl, Lib.hid rfl⟩
  case round =>
    obtain ⟨k, hk, rfl, HA⟩ := hrel
    by_cases hlt : k < n
    · have hl : k < l.length := by rw [← HN.out]; exact hlt
      obtain ⟨x, hx⟩ : ∃ x, x = l[k] := ⟨_, rfl⟩
      have hcell : w.cell? ⟨b, k, none⟩ = some (.int .i64 x) := by rw [hx]; exact HR.out k _ (iv_get hl)
      have HX : Hid (Sx.fst l = if x = 0 then Sx.fst (l.drop (k + 1)) else x) := Lib.hid (by rw [HA.out, Sx.fst_at hl, hx])
      clear hx hl HA
      by_cases h0 : x = 0
      · subst h0
        have HZ : Hid (Sx.fst l = Sx.fst (l.drop (k + 1))) := Lib.hid (by rw [HX.out, if_pos rfl])
        clear HX
        go_wp2
        go_round
        case rel => exact ⟨k + 1, by omega, by go_num, HZ⟩
        case measure => simp [msrS, intOf]; omega
      · have HZ : Hid (Sx.fst l = x) := Lib.hid (by rw [HX.out, if_neg h0])
        have hx0 : (x == 0) = false := by simpa using h0
        clear HX
        go_wp2
        go_ret
        exact ⟨ret_int HZ.out.symm, rfl⟩
    · have HZ : Hid (Sx.fst l = 0) := Lib.hid (by rw [HA.out, List.drop_eq_nil_of_le (by rw [← HN.out]; omega)]; rfl)
      go_wp2
      go_ret
      exact ⟨ret_int HZ.out.symm, rfl⟩
theorem ix16 (m : Sf) (k : Nat) (hk : k < 16) (w : World) : (Instr.index 43 (.agg #[.int .i64 (m 0), .int .i64 (m 1), .int .i64 (m 2), .int .i64 (m 3), .int .i64 (m 4), .int .i64 (m 5), .int .i64 (m 6), .int .i64 (m 7), .int .i64 (m 8), .int .i64 (m 9), .int .i64 (m 10), .int .i64 (m 11), .int .i64 (m 12), .int .i64 (m 13), .int .i64 (m 14), .int .i64 (m 15)]) (.int .i64 k)).run Tryz.prog w = .ok (.int .i64 (m k)) w := by
  rcases k with _ | _ | _ | _ | _ | _ | _ | _ | _ | _ | _ | _ | _ | _ | _ | _ | k
  all_goals first | omega | kernel_rfl
theorem get16 (m : Sf) (k : Nat) (hk : k < 16) : ([.int .i64 (m 0), .int .i64 (m 1), .int .i64 (m 2), .int .i64 (m 3), .int .i64 (m 4), .int .i64 (m 5), .int .i64 (m 6), .int .i64 (m 7), .int .i64 (m 8), .int .i64 (m 9), .int .i64 (m 10), .int .i64 (m 11), .int .i64 (m 12), .int .i64 (m 13), .int .i64 (m 14), .int .i64 (m 15)] : List Value)[k]? = some (.int .i64 (m k)) := by
  rcases k with _ | _ | _ | _ | _ | _ | _ | _ | _ | _ | _ | _ | _ | _ | _ | _ | k
  all_goals first | omega | rfl
theorem set16 (m : Sf) (k : Nat) (z : Int) : ([.int .i64 (m 0), .int .i64 (m 1), .int .i64 (m 2), .int .i64 (m 3), .int .i64 (m 4), .int .i64 (m 5), .int .i64 (m 6), .int .i64 (m 7), .int .i64 (m 8), .int .i64 (m 9), .int .i64 (m 10), .int .i64 (m 11), .int .i64 (m 12), .int .i64 (m 13), .int .i64 (m 14), .int .i64 (m 15)] : List Value).set k (.int .i64 z) = [.int .i64 ((fun i => if i = k then z else m i) 0), .int .i64 ((fun i => if i = k then z else m i) 1), .int .i64 ((fun i => if i = k then z else m i) 2), .int .i64 ((fun i => if i = k then z else m i) 3), .int .i64 ((fun i => if i = k then z else m i) 4), .int .i64 ((fun i => if i = k then z else m i) 5), .int .i64 ((fun i => if i = k then z else m i) 6), .int .i64 ((fun i => if i = k then z else m i) 7), .int .i64 ((fun i => if i = k then z else m i) 8), .int .i64 ((fun i => if i = k then z else m i) 9), .int .i64 ((fun i => if i = k then z else m i) 10), .int .i64 ((fun i => if i = k then z else m i) 11), .int .i64 ((fun i => if i = k then z else m i) 12), .int .i64 ((fun i => if i = k then z else m i) 13), .int .i64 ((fun i => if i = k then z else m i) 14), .int .i64 ((fun i => if i = k then z else m i) 15)] := by
  rcases k with _ | _ | _ | _ | _ | _ | _ | _ | _ | _ | _ | _ | _ | _ | _ | _ | k
  all_goals first | rfl | (simp; omega)
theorem Sx.wi_no {m : Sf} {k : Nat} (hk : k < 16) (h : Sx.wi (-16777216) 16777216 (m k) = false) : Vc.wi 16777216 m 16 = false :=
  Vc.wi_false hk fun h2 => by rw [Sx.wi_iff.2 h2] at h; cases h
set_option maxHeartbeats 1000000 in
theorem cellsOf_any (m : Sf) (w : World) :
    Calls Tryz.prog 65 #[.agg #[.int .i64 (m 0), .int .i64 (m 1), .int .i64 (m 2), .int .i64 (m 3), .int .i64 (m 4), .int .i64 (m 5), .int .i64 (m 6), .int .i64 (m 7), .int .i64 (m 8), .int .i64 (m 9), .int .i64 (m 10), .int .i64 (m 11), .int .i64 (m 12), .int .i64 (m 13), .int .i64 (m 14), .int .i64 (m 15)]] w fun e w' => e = .returned (.int .i64 (Sx.cell m)) ∧ Kp w.heap.size w w' := by
  have HO := Lib.hid ((Ow.refl w).newAt (w.heap.size) rfl (.int .i64 (m 0)) [.int .i64 (m 1), .int .i64 (m 2), .int .i64 (m 3), .int .i64 (m 4), .int .i64 (m 5), .int .i64 (m 6), .int .i64 (m 7), .int .i64 (m 8), .int .i64 (m 9), .int .i64 (m 10), .int .i64 (m 11), .int .i64 (m 12), .int .i64 (m 13), .int .i64 (m 14), .int .i64 (m 15)] 43)
  go_enter Tryz.func65, Tryz.ntmps65
  go_wp2_with ((with_reducible show wpList _ _ _ ({ dst := _, op := Op.load 43 (Operand.tmp 1), type := _, pos := _, after := _, guard := _ } :: _) _ _); refine wpList_ldr ty_mat rfl _ rfl _ rfl _ rfl (HO.out.at 0 rfl) ?_)
  go_loop [6] (fun i => ∃ k : Nat, k ≤ 16 ∧ i = .int .i64 k ∧ Hid (∀ j, j < k → Sx.wi (-16777216) 16777216 (m j) = true)) (fun i => msrS 16 i)
  case atStart => exact ⟨0, by omega, rfl, Lib.hid fun j hj => by omega⟩
  case round =>
    obtain ⟨k, hk, rfl, HA⟩ := hrel
    by_cases hlt : k < 16
    · have hi := ix16 m k hlt
      have W1 := fun W => swithin_any (-16777216) 16777216 (m k) W
      cases h1 : Sx.wi (-16777216) 16777216 (m k)
      · have HC : Hid (Sx.cell m = 11) := Lib.hid (by unfold Sx.cell; rw [Sx.wi_no hlt h1]; rfl)
        rw [h1] at W1
        clear h1
        go_wp2_with (go_at_call 29; (with_reducible refine (W1 _).mono ?_); rintro e w' ⟨rfl, rfl⟩)
        go_ret
        exact ⟨ret_int HC.out.symm, HO.out.k⟩
      · rw [h1] at W1
        have HB : Hid (∀ j, j < k + 1 → Sx.wi (-16777216) 16777216 (m j) = true) := Lib.hid fun j hj => by
          by_cases e : j = k
          · subst e; exact h1
          · exact HA.out j (by omega)
        clear h1
        go_wp2_with (go_at_call 29; (with_reducible refine (W1 _).mono ?_); rintro e w' ⟨rfl, rfl⟩)
        go_round
        case rel => exact ⟨k + 1, by omega, by go_num, HB⟩
        case measure => simp [msrS, intOf]; omega
    · obtain rfl : k = 16 := by omega
      have HC : Hid (Sx.cell m = 0) := Lib.hid (by unfold Sx.cell; rw [Vc.wi_true fun j hj => Sx.wi_iff.1 (HA.out j hj)]; rfl)
      go_wp2
      go_ret
      exact ⟨ret_int HC.out.symm, HO.out.k⟩
end Go.Proofs.YtankjlpanmmogaaGreat

/-
  Contracts of layer 9 (sten): Test, Put; the document's own; what must come at any rate.
-/
namespace Go.Proofs.YtankjlpanmmogaaGreat
set_option maxRecDepth 100000
open Go.RowKit

/-- of a stencil test that may be: what each number is -/
theorem Sn.chk_ok {fn ref rd wr f z p : Int} (h : Sn.chk fn ref rd wr f z p = 0) : (Dp.is fn = true ∧ Dp.is f = true ∧ Dp.is z = true ∧ Dp.is p = true) ∧ Sn.is ref = true ∧ Sn.is rd = true ∧ Sn.is wr = true := by
  unfold Sn.chk at h
  split at h
  · rename_i h1
    split at h
    · rename_i h2
      simp only [Bool.and_eq_true] at h1 h2
      simp [h1, h2]
    · omega
  · omega
theorem Sn.deed_is {f z p : Int} (h1 : Dp.is f = true) (h2 : Dp.is z = true) (h3 : Dp.is p = true) (k : Nat) : Dp.is (Sn.deed f z p k) = true := by
  rcases k with _ | _ | k <;> assumption

set_option maxHeartbeats 1000000 in
theorem test_no1 (fn ref rd wr f z p old : Int) (w : World) (h : Sn.chk fn ref rd wr f z p ≠ 0) :
    Calls Tryz.prog 75 #[.agg #[.int .i64 fn, .int .i64 ref, .int .i64 rd, .int .i64 wr, .int .i64 f, .int .i64 z, .int .i64 p], .int .i64 old] w fun e w' => e = .returned (.tuple #[.bool false, .int .i64 (Sn.chk fn ref rd wr f z p)]) ∧ Kp w.heap.size w w' := by
  have HO := Lib.hid ((Ow.refl w).newAt w.heap.size rfl (.int .i64 fn) [.int .i64 ref, .int .i64 rd, .int .i64 wr, .int .i64 f, .int .i64 z, .int .i64 p] 45)
  have hd : (Sn.chk fn ref rd wr f z p != 0) = true := by simpa using h
  go_enter Tryz.func75, Tryz.ntmps75
  go_wp2_with (first | ((with_reducible show wpList _ _ _ ({ dst := _, op := Op.load 45 _, type := _, pos := _, after := _, guard := _ } :: _) _ _); refine wpList_ldr ty_sten rfl _ rfl _ rfl _ rfl (HO.out.at 0 rfl) ?_) | (go_at_call 68; refine (scheck_any fn ref rd wr f z p _).mono ?_; rintro e w1 ⟨rfl, hk1⟩; have l2 := HO.out.call hk1; clear HO hk1; have HO := Lib.hid l2; clear l2))
  go_ret2
  exact ⟨rfl, HO.out.k⟩
set_option maxHeartbeats 1000000 in
theorem test_no2 (fn ref rd wr f z p old : Int) (w : World) (h : Sn.chk fn ref rd wr f z p = 0) (ho : Sn.is old = false) :
    Calls Tryz.prog 75 #[.agg #[.int .i64 fn, .int .i64 ref, .int .i64 rd, .int .i64 wr, .int .i64 f, .int .i64 z, .int .i64 p], .int .i64 old] w fun e w' => e = .returned (.tuple #[.bool false, .int .i64 3]) ∧ Kp w.heap.size w w' := by
  have HO := Lib.hid ((Ow.refl w).newAt w.heap.size rfl (.int .i64 fn) [.int .i64 ref, .int .i64 rd, .int .i64 wr, .int .i64 f, .int .i64 z, .int .i64 p] 45)
  go_enter Tryz.func75, Tryz.ntmps75
  go_wp2_with (first | ((with_reducible show wpList _ _ _ ({ dst := _, op := Op.load 45 _, type := _, pos := _, after := _, guard := _ } :: _) _ _); refine wpList_ldr ty_sten rfl _ rfl _ rfl _ rfl (HO.out.at 0 rfl) ?_) | (go_at_call 68; refine (scheck_any fn ref rd wr f z p _).mono ?_; rintro e w1 ⟨rfl, hk1⟩; have l2 := HO.out.call hk1; clear HO hk1; have HO := Lib.hid l2; clear l2) | (go_at_call 104; refine (isSten_any _ _).mono ?_; rintro e w' ⟨rfl, rfl⟩))
  go_ret2
  exact ⟨rfl, HO.out.k⟩
set_option maxHeartbeats 1000000 in
theorem stest_yes (fn ref rd wr f z p old : Int) (w : World) (h : Sn.chk fn ref rd wr f z p = 0) (ho : Sn.is old = true) :
    Calls Tryz.prog 75 #[.agg #[.int .i64 fn, .int .i64 ref, .int .i64 rd, .int .i64 wr, .int .i64 f, .int .i64 z, .int .i64 p], .int .i64 old] w fun e w' => e = .returned (.tuple #[.bool (Dp.pass fn (Sn.and ref rd) (Sn.and old rd)), .int .i64 0]) ∧ Kp w.heap.size w w' := by
  have HO := Lib.hid ((Ow.refl w).newAt w.heap.size rfl (.int .i64 fn) [.int .i64 ref, .int .i64 rd, .int .i64 wr, .int .i64 f, .int .i64 z, .int .i64 p] 45)
  obtain ⟨⟨h0, -, -, -⟩, s1, s2, -⟩ := Sn.chk_ok h
  have B1 := Sn.bits_and s1 s2
  have B2 := Sn.bits_and ho s2
  go_enter Tryz.func75, Tryz.ntmps75
  go_upto_region 4 with (first | ((with_reducible show wpList _ _ _ ({ dst := _, op := Op.load 45 _, type := _, pos := _, after := _, guard := _ } :: _) _ _); refine wpList_ldr ty_sten rfl _ rfl _ rfl _ rfl (HO.out.at 0 rfl) ?_) | (go_at_call 68; refine (scheck_any fn ref rd wr f z p _).mono ?_; rintro e w1 ⟨rfl, hk1⟩; have l2 := HO.out.call hk1; clear HO hk1; have HO := Lib.hid l2; clear l2))
  have c0 := (HO.out.at 0 rfl).cell 0 rfl
  have c1 := (HO.out.at 0 rfl).cell 1 rfl
  have c2 := (HO.out.at 0 rfl).cell 2 rfl
  go_wp2_with (first | (go_at_call 104; refine (isSten_any _ _).mono ?_; rintro e w' ⟨rfl, rfl⟩) | (go_at_call 101; refine (passes_yes fn (Sn.and ref rd) (Sn.and old rd) _ h0).mono ?_; rintro e w' ⟨rfl, rfl⟩))
  go_ret2
  exact ⟨rfl, HO.out.k⟩

set_option maxHeartbeats 1000000 in
theorem put_no1 (fn ref rd wr f z p how old : Int) (w : World) (h : Sn.chk fn ref rd wr f z p ≠ 0) :
    Calls Tryz.prog 107 #[.agg #[.int .i64 fn, .int .i64 ref, .int .i64 rd, .int .i64 wr, .int .i64 f, .int .i64 z, .int .i64 p], .int .i64 how, .int .i64 old] w fun e w' => e = .returned (.tuple #[.int .i64 0, .int .i64 (Sn.chk fn ref rd wr f z p)]) ∧ Kp w.heap.size w w' := by
  have HO := Lib.hid ((Ow.refl w).newAt w.heap.size rfl (.int .i64 fn) [.int .i64 ref, .int .i64 rd, .int .i64 wr, .int .i64 f, .int .i64 z, .int .i64 p] 45)
  have hd : (Sn.chk fn ref rd wr f z p != 0) = true := by simpa using h
  go_enter Tryz.func107, Tryz.ntmps107
  go_wp2_with (first | ((with_reducible show wpList _ _ _ ({ dst := _, op := Op.load 45 _, type := _, pos := _, after := _, guard := _ } :: _) _ _); refine wpList_ldr ty_sten rfl _ rfl _ rfl _ rfl (HO.out.at 0 rfl) ?_) | (go_at_call 68; refine (scheck_any fn ref rd wr f z p _).mono ?_; rintro e w1 ⟨rfl, hk1⟩; have l2 := HO.out.call hk1; clear HO hk1; have HO := Lib.hid l2; clear l2))
  go_ret2
  exact ⟨rfl, HO.out.k⟩
set_option maxHeartbeats 1000000 in
theorem put_no2 (fn ref rd wr f z p how old : Int) (w : World) (h : Sn.chk fn ref rd wr f z p = 0) (hh : how < 0 ∨ 2 < how) :
    Calls Tryz.prog 107 #[.agg #[.int .i64 fn, .int .i64 ref, .int .i64 rd, .int .i64 wr, .int .i64 f, .int .i64 z, .int .i64 p], .int .i64 how, .int .i64 old] w fun e w' => e = .returned (.tuple #[.int .i64 0, .int .i64 2]) ∧ Kp w.heap.size w w' := by
  have HO := Lib.hid ((Ow.refl w).newAt w.heap.size rfl (.int .i64 fn) [.int .i64 ref, .int .i64 rd, .int .i64 wr, .int .i64 f, .int .i64 z, .int .i64 p] 45)
  by_cases h1 : how < 0
  · have hd : decide (how < 0) = true := decide_eq_true h1
    go_enter Tryz.func107, Tryz.ntmps107
    go_wp2_with (first | go_skip | ((with_reducible show wpList _ _ _ ({ dst := _, op := Op.load 45 _, type := _, pos := _, after := _, guard := _ } :: _) _ _); refine wpList_ldr ty_sten rfl _ rfl _ rfl _ rfl (HO.out.at 0 rfl) ?_) | (go_at_call 68; refine (scheck_any fn ref rd wr f z p _).mono ?_; rintro e w1 ⟨rfl, hk1⟩; have l2 := HO.out.call hk1; clear HO hk1; have HO := Lib.hid l2; clear l2))
    go_ret2
    exact ⟨rfl, HO.out.k⟩
  · have hd : decide (how < 0) = false := decide_eq_false h1
    have hd2 : decide (3 ≤ how) = true := decide_eq_true (by omega)
    go_enter Tryz.func107, Tryz.ntmps107
    go_wp2_with (first | go_skip | ((with_reducible show wpList _ _ _ ({ dst := _, op := Op.load 45 _, type := _, pos := _, after := _, guard := _ } :: _) _ _); refine wpList_ldr ty_sten rfl _ rfl _ rfl _ rfl (HO.out.at 0 rfl) ?_) | (go_at_call 68; refine (scheck_any fn ref rd wr f z p _).mono ?_; rintro e w1 ⟨rfl, hk1⟩; have l2 := HO.out.call hk1; clear HO hk1; have HO := Lib.hid l2; clear l2))
    go_ret2
    exact ⟨rfl, HO.out.k⟩
set_option maxHeartbeats 1000000 in
theorem put_no3 (fn ref rd wr f z p how old : Int) (w : World) (h : Sn.chk fn ref rd wr f z p = 0) (hh : 0 ≤ how ∧ how ≤ 2) (ho : Sn.is old = false) :
    Calls Tryz.prog 107 #[.agg #[.int .i64 fn, .int .i64 ref, .int .i64 rd, .int .i64 wr, .int .i64 f, .int .i64 z, .int .i64 p], .int .i64 how, .int .i64 old] w fun e w' => e = .returned (.tuple #[.int .i64 0, .int .i64 3]) ∧ Kp w.heap.size w w' := by
  have HO := Lib.hid ((Ow.refl w).newAt w.heap.size rfl (.int .i64 fn) [.int .i64 ref, .int .i64 rd, .int .i64 wr, .int .i64 f, .int .i64 z, .int .i64 p] 45)
  have hd : decide (how < 0) = false := decide_eq_false (by omega)
  have hd2 : decide (3 ≤ how) = false := decide_eq_false (by omega)
  go_enter Tryz.func107, Tryz.ntmps107
  go_wp2_with (first | go_skip | ((with_reducible show wpList _ _ _ ({ dst := _, op := Op.load 45 _, type := _, pos := _, after := _, guard := _ } :: _) _ _); refine wpList_ldr ty_sten rfl _ rfl _ rfl _ rfl (HO.out.at 0 rfl) ?_) | (go_at_call 68; refine (scheck_any fn ref rd wr f z p _).mono ?_; rintro e w1 ⟨rfl, hk1⟩; have l2 := HO.out.call hk1; clear HO hk1; have HO := Lib.hid l2; clear l2) | (go_at_call 104; refine (isSten_any _ _).mono ?_; rintro e w' ⟨rfl, rfl⟩))
  go_ret2
  exact ⟨rfl, HO.out.k⟩
set_option maxRecDepth 100000 in
set_option maxHeartbeats 1000000 in
theorem put_yes (fn ref rd wr f z p : Int) (k : Nat) (old : Int) (w : World) (h : Sn.chk fn ref rd wr f z p = 0) (hk : k < 3) (ho : Sn.is old = true) :
    Calls Tryz.prog 107 #[.agg #[.int .i64 fn, .int .i64 ref, .int .i64 rd, .int .i64 wr, .int .i64 f, .int .i64 z, .int .i64 p], .int .i64 k, .int .i64 old] w fun e w' => e = .returned (.tuple #[.int .i64 (Sn.put (Sn.deed f z p k) old ref wr), .int .i64 0]) ∧ Kp w.heap.size w w' := by
  have HO := Lib.hid ((Ow.refl w).newAt w.heap.size rfl (.int .i64 fn) [.int .i64 ref, .int .i64 rd, .int .i64 wr, .int .i64 f, .int .i64 z, .int .i64 p] 45)
  obtain ⟨⟨-, h1, h2, h3⟩, s1, -, s3⟩ := Sn.chk_ok h
  have hd := Sn.deed_is h1 h2 h3 k
  have HM := Lib.hid (show ∀ W, Calls Tryz.prog 126 #[.int .i64 (Sn.deed f z p k), .int .i64 old, .int .i64 ref] W fun e w' => e = .returned (.int .i64 (Sn.made (Sn.deed f z p k) old ref)) ∧ W = w' from fun W => made_any _ _ _ W hd ho s1)
  have HR := Lib.hid (show bits .or .i64 (bits .and .i64 (Sn.made (Sn.deed f z p k) old ref) wr) (bits .andNot .i64 old wr) = Sn.put (Sn.deed f z p k) old ref wr by
    rw [Sn.bits_and (Sn.made_is _ ho s1) s3, Sn.bits_andNot ho s3, Sn.bits_or _ _ s3]; rfl)
  have hx1 : decide ((k : Int) < 0) = false := decide_eq_false (by omega)
  have hx2 : decide (3 ≤ (k : Int)) = false := decide_eq_false (by omega)
  have HX := Lib.hid (index_three f z p k hk)
  clear h1 h2 h3 s1 s3 hd
  generalize Sn.put (Sn.deed f z p k) old ref wr = P at *
  generalize Sn.made (Sn.deed f z p k) old ref = M at *
  generalize Sn.deed f z p k = D at *
  go_enter Tryz.func107, Tryz.ntmps107
  go_upto_region 8 with (first | go_skip | ((with_reducible show wpList _ _ _ ({ dst := _, op := Op.load 45 _, type := _, pos := _, after := _, guard := _ } :: _) _ _); refine wpList_ldr ty_sten rfl _ rfl _ rfl _ rfl (HO.out.at 0 rfl) ?_) | (go_at_call 68; refine (scheck_any fn ref rd wr f z p _).mono ?_; rintro e w1 ⟨rfl, hk1⟩; have l2 := HO.out.call hk1; clear HO hk1; have HO := Lib.hid l2; clear l2) | (go_at_call 104; refine (isSten_any _ _).mono ?_; rintro e w' ⟨rfl, rfl⟩))
  refine Rg.region (I := fun _ W => Ow w W [(w.heap.size, Sn.row fn ref rd wr f z p)]) (dem := fun _ => false) (m := 9) (g := 0) (T := fun listed bs a' => ∀ W, Ow w W [(w.heap.size, Sn.row fn ref rd wr f z p)] → wpAny Tryz.prog .any _ _ 0 listed a' W) (by kernel_rfl) HO.out.drew rfl (fun _ _ _ _ h hI => h _ hI) ?_
  refine Rg.take 0 (v := .agg #[.int .i64 fn, .int .i64 ref, .int .i64 rd, .int .i64 wr, .int .i64 f, .int .i64 z, .int .i64 p]) rfl rfl (by kernel_rfl) (by kernel_rfl) (by kernel_rfl) (by kernel_rfl) (by kernel_rfl) (.inl ⟨rfl, fun bs wq hI => ?_⟩) ?_
  · exact quiet_ldr ty_sten (.tmp 3) rfl rfl rfl (hI.at 0 rfl)
  simp only [Act.put, List.getElem_toArray, List.getElem_cons_zero, List.getElem_cons_succ, List.setIfInBounds_toArray, List.set_cons_zero, List.set_cons_succ]
  refine Rg.take 1 (v := .agg #[.int .i64 f, .int .i64 z, .int .i64 p]) rfl rfl (by kernel_rfl) (by kernel_rfl) (by kernel_rfl) (by kernel_rfl) (by kernel_rfl) (.inl ⟨rfl, fun bs wq hI => ?_⟩) ?_
  · (go_simp; exact (deedsOf_any fn ref rd wr f z p _).mono fun e w2 h => ⟨h.1, hI.call h.2⟩)
  simp only [Act.put, List.getElem_toArray, List.getElem_cons_zero, List.getElem_cons_succ, List.setIfInBounds_toArray, List.set_cons_zero, List.set_cons_succ]
  refine Rg.take 2 (v := .int .i64 (k : Int)) rfl rfl (by kernel_rfl) (by kernel_rfl) (by kernel_rfl) (by kernel_rfl) (by kernel_rfl) (.inl ⟨rfl, fun bs wq hI => ?_⟩) ?_
  · go_simp
  simp only [Act.put, List.getElem_toArray, List.getElem_cons_zero, List.getElem_cons_succ, List.setIfInBounds_toArray, List.set_cons_zero, List.set_cons_succ]
  refine Rg.take 3 (v := .int .i64 D) rfl rfl (by kernel_rfl) (by kernel_rfl) (by kernel_rfl) (by kernel_rfl) (by kernel_rfl) (.inl ⟨rfl, fun bs wq hI => ?_⟩) ?_
  · (have hx := HX.out wq; go_simp)
  simp only [Act.put, List.getElem_toArray, List.getElem_cons_zero, List.getElem_cons_succ, List.setIfInBounds_toArray, List.set_cons_zero, List.set_cons_succ]
  refine Rg.take 4 (v := .int .i64 old) rfl rfl (by kernel_rfl) (by kernel_rfl) (by kernel_rfl) (by kernel_rfl) (by kernel_rfl) (.inl ⟨rfl, fun bs wq hI => ?_⟩) ?_
  · go_simp
  simp only [Act.put, List.getElem_toArray, List.getElem_cons_zero, List.getElem_cons_succ, List.setIfInBounds_toArray, List.set_cons_zero, List.set_cons_succ]
  refine Rg.take 5 (v := .pointer (some ⟨w.heap.size, 1, none⟩)) rfl rfl (by kernel_rfl) (by kernel_rfl) (by kernel_rfl) (by kernel_rfl) (by kernel_rfl) (.inl ⟨rfl, fun bs wq hI => ?_⟩) ?_
  · go_simp
  simp only [Act.put, List.getElem_toArray, List.getElem_cons_zero, List.getElem_cons_succ, List.setIfInBounds_toArray, List.set_cons_zero, List.set_cons_succ]
  refine Rg.take 6 (v := .int .i64 ref) rfl rfl (by kernel_rfl) (by kernel_rfl) (by kernel_rfl) (by kernel_rfl) (by kernel_rfl) (.inl ⟨rfl, fun bs wq hI => ?_⟩) ?_
  · (have c := (hI.at 0 rfl).cell 1 rfl; go_simp)
  simp only [Act.put, List.getElem_toArray, List.getElem_cons_zero, List.getElem_cons_succ, List.setIfInBounds_toArray, List.set_cons_zero, List.set_cons_succ]
  refine Rg.take 7 (v := .int .i64 M) rfl rfl (by kernel_rfl) (by kernel_rfl) (by kernel_rfl) (by kernel_rfl) (by kernel_rfl) (.inl ⟨rfl, fun bs wq hI => ?_⟩) ?_
  · (go_simp; exact (HM.out _).mono fun e w2 h => ⟨h.1, h.2 ▸ hI⟩)
  simp only [Act.put, List.getElem_toArray, List.getElem_cons_zero, List.getElem_cons_succ, List.setIfInBounds_toArray, List.set_cons_zero, List.set_cons_succ]
  refine Rg.take 8 (v := .int .i64 M) rfl rfl (by kernel_rfl) (by kernel_rfl) (by kernel_rfl) (by kernel_rfl) (by kernel_rfl) (.inl ⟨rfl, fun bs wq hI => ?_⟩) ?_
  · go_simp
  simp only [Act.put, List.getElem_toArray, List.getElem_cons_zero, List.getElem_cons_succ, List.setIfInBounds_toArray, List.set_cons_zero, List.set_cons_succ]
  refine Rg.done (rs := []) (by kernel_rfl) (by decide) (fun W hI => ?_)
  have KK := Lib.hid hI.k
  have c3 := (hI.at 0 rfl).cell 3 rfl
  clear hI HO
  refine wpAny_done (by kernel_rfl) ?_ _
  go_wp2_with fail
  go_ret2
  exact ⟨by rw [HR.out]; rfl, KK.out⟩

end Go.Proofs.YtankjlpanmmogaaGreat
