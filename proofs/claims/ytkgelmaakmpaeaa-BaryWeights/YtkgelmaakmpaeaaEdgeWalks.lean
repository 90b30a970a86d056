/-
  Contracts of layer 12 (edge), the small functions; the document's own.
-/
import Derived.Test.YtkgelmaakmpaeaaEdgePlain
import Derived.BigGuard
namespace Go.Proofs.Ytkgelmaakmpaeaa
open Go.RowKit

theorem ty_point : Ty 23 2 := ⟨by kernel_rfl, _, Try.underlying23, rfl⟩
theorem ty_three : Ty 24 6 := ⟨by kernel_rfl, _, Try.underlying24, rfl⟩
theorem run_eqP (x y x' y' : Int) (w : World) : (Op.equalIn 10000 23 (.agg #[.int .i64 x, .int .i64 y]) (.agg #[.int .i64 (x'), .int .i64 (y')])).run Try.prog w = .ok (x == x' && y == y') w := by
  rw [run_equalIn_struct w 9999 23 _ _ (by kernel_rfl) (by kernel_rfl)]
  simp only [Program.fieldsOf, Try.underlying23]
  rw [show (x == x' && y == y') = (x == x' && (y == y' && true)) by simp]
  refine eqStep (by decide) (eqInt x x' rfl rfl) (eqStep (by decide) (eqInt y y' rfl rfl) (by simp [Op.eqFields]))
theorem run_eqP_same (x y : Int) (w : World) : (Op.equalIn 10000 23 (.agg #[.int .i64 x, .int .i64 y]) (.agg #[.int .i64 x, .int .i64 y])).run Try.prog w = .ok true w := by
  rw [run_eqP]; simp

/-- a point is read out of a row of points -/
theorem Rc.some {W : World} {b : Nat} {vs : List Value} (h : Rc W b vs) : ∀ j v, vs[j]? = Option.some v → W.cell? ⟨b, j, none⟩ = Option.some v := fun j v hv => (h j v hv).1
theorem range_of {w : World} {b o n : Nat} {vs us : List Value} (hs : (vs.drop o).take n = us) (hR : ∀ j v, vs[j]? = some v → w.cell? ⟨b, j, none⟩ = some v) : w.rangeAt b o us := fun j v hv => by
  subst hs
  rw [List.getElem?_take] at hv
  split at hv
  · rw [List.getElem?_drop] at hv; exact hR _ _ hv
  · cases hv
theorem wpList_ldo {ty : TypeId} {n : Nat} (ht : Ty ty n) {ops : Array Oper} {rest : List Oper} {op : Oper} {a : Act} {w : World} {Q : Exit → Act → World → Prop} (hgd : Region.wanted op (yielded ops a.tmps) = true) (x : Operand) (ho : op.op = .load ty x)
    (b o : Nat) (hx : a.eval x = .pointer (some ⟨b, o, none⟩)) (vs : List Value) (hl : Nat.ble (o + n) vs.length = true) (hR : ∀ j v, vs[j]? = some v → w.cell? ⟨b, j, none⟩ = some v)
    (h : ∀ us, (vs.drop o).take n = us → wpList Try.prog ops Q rest (a.put op.dst (.agg us.toArray)) w) : wpList Try.prog ops Q (op :: rest) a w := by
  obtain ⟨d, hu, hd⟩ := ht.row
  exact wpList_of_wp hgd fun K hK => wp_load_mid ty x ho b o hx ((vs.drop o).take n) d (range_of rfl hR) hu hd (by have := Nat.le_of_ble_eq_true hl; rw [ht.size]; simp; omega) (hK _ _ (h _ rfl))
theorem quiet_ldo {ty : TypeId} {n : Nat} (ht : Ty ty n) {op : Oper} {a : Act} {C : World → Prop} {w : World} {b o : Nat} {vs us : List Value} (x : Operand) (ho : op.op = .load ty x) (hx : a.eval x = .pointer (some ⟨b, o, none⟩)) (hs : (vs.drop o).take n = us) (hl : us.length = n) (hR : Rc w b vs) :
    op.quietAt Try.prog a C w (.agg us.toArray) := by
  obtain ⟨d, hu, hd⟩ := ht.row
  unfold Oper.quietAt execOp
  simp only [ho, hx, Instr.loadAt, Instr.sureAddr, Sem.run_bind, Sem.run_pure, Result.andThen_ok, run_loadVar_mid w b o ty us d (range_of hs hR.some) hu hd (hl ▸ ht.size)]
  exact ⟨rfl, rfl⟩

/-- may a number be a point's? a pixel's? -/
def Eg.scr (n : Int) : Bool := decide (-524288 ≤ n) && decide (n ≤ 524288)
def Eg.plc (n : Int) : Bool := decide (-32768 ≤ n) && decide (n < 32768)
theorem Eg.may_scr (a b : Int) : Eg.may a b = (Eg.scr a && Eg.scr b) := by simp [Eg.may, Eg.scr, Bool.and_assoc]
theorem Eg.fits_plc (x y : Int) : Eg.fits x y = (Eg.plc x && Eg.plc y) := by
  rw [Bool.eq_iff_iff, Eg.fits_iff, Bool.and_eq_true]; simp [Eg.plc]; omega
theorem Eg.plc_iff {n : Int} : Eg.plc n = true ↔ -32768 ≤ n ∧ n < 32768 := by simp [Eg.plc]

theorem onScreen_any (n : Int) (w : World) :
    Calls Try.prog 29 #[.int .i64 n] w fun e w' => e = .returned (.bool (Eg.scr n)) ∧ w = w' := by
  cases h1 : decide (-524288 ≤ n)
  all_goals
    go_enter Try.func29, Try.ntmps29
    go_wp2_with go_big_skip
    go_ret
    exact ⟨ret_bool (by simp [Eg.scr, h1]), rfl⟩
theorem rmay_any (a1 a2 : Int) (w : World) :
    Calls Try.prog 7 #[.agg #[.int .i64 a1, .int .i64 a2]] w fun e w' => e = .returned (.bool (Eg.may a1 a2)) ∧ Kp w.heap.size w w' := by
  cases h1 : decide (-524288 ≤ a1) <;> cases h2 : decide (a1 ≤ 524288) <;> cases h3 : decide (-524288 ≤ a2)
  all_goals
    go_enter Try.func7, Try.ntmps7
    go_wp2_with go_big_skip
    go_ret
    exact ⟨ret_bool (by simp [Eg.may, h1, h2, h3]), Kp.new _ _ _⟩

set_option maxHeartbeats 1000000 in
theorem side_any (a1 a2 b1 b2 p1 p2 : Int) (w : World) (ha : Eg.may a1 a2 = true) (hb : Eg.may b1 b2 = true) (hp : Eg.may p1 p2 = true) :
    Calls Try.prog 22 #[.agg #[.int .i64 a1, .int .i64 a2], .agg #[.int .i64 b1, .int .i64 b2], .agg #[.int .i64 p1, .int .i64 p2]] w fun e w' => e = .returned (.int .i64 (Eg.side a1 a2 b1 b2 p1 p2)) ∧ Kp w.heap.size w w' := by
  obtain ⟨⟨s1, s2⟩, s3, s4⟩ := Eg.side_le ha hb hp
  obtain ⟨⟨x1, x2⟩, x3, x4⟩ := Eg.may_iff.1 ha
  obtain ⟨⟨y1, y2⟩, y3, y4⟩ := Eg.may_iff.1 hb
  obtain ⟨⟨z1, z2⟩, z3, z4⟩ := Eg.may_iff.1 hp
  clear ha hb hp
  go_enter Try.func22, Try.ntmps22
  go_wp2
  go_ret
  exact ⟨rfl, ((Kp.new _ _ _).next (Kp.new _ _ _)).next (Kp.new _ _ _)⟩
set_option maxHeartbeats 1000000 in
theorem rside_any (a1 a2 b1 b2 p1 p2 : Int) (w : World) (ha : Eg.may a1 a2 = true) (hb : Eg.may b1 b2 = true) (hp : Eg.may p1 p2 = true) :
    Calls Try.prog 10 #[.agg #[.int .i64 a1, .int .i64 a2], .agg #[.int .i64 b1, .int .i64 b2], .agg #[.int .i64 p1, .int .i64 p2]] w fun e w' => e = .returned (.int .i64 (Eg.side a1 a2 b1 b2 p1 p2)) ∧ Kp w.heap.size w w' := by
  obtain ⟨⟨s1, s2⟩, s3, s4⟩ := Eg.side_le ha hb hp
  obtain ⟨⟨x1, x2⟩, x3, x4⟩ := Eg.may_iff.1 ha
  obtain ⟨⟨y1, y2⟩, y3, y4⟩ := Eg.may_iff.1 hb
  obtain ⟨⟨z1, z2⟩, z3, z4⟩ := Eg.may_iff.1 hp
  clear ha hb hp
  go_enter Try.func10, Try.ntmps10
  go_wp2
  go_ret
  exact ⟨rfl, ((Kp.new _ _ _).next (Kp.new _ _ _)).next (Kp.new _ _ _)⟩



end Go.Proofs.Ytkgelmaakmpaeaa
