/-
  '==' of vertices and of draws, each with itself; rows of structs (layer 20).
-/
import Derived.Test.YtkmhnfbjapfbeaaCmdPlain
import Derived.Test.YtkmhnfbjapfbeaaTriEq
import Derived.BigGuard
namespace Go.Proofs.Ytkmhnfbjapfbeaa
open Go.RowKit

theorem wpList_ldm {ty : TypeId} {n : Nat} (ht : Ty ty n) {ops : Array Oper} {rest : List Oper} {op : Oper} {a : Act} {w : World} {Q : Exit → Act → World → Prop} (hgd : Region.wanted op (yielded ops a.tmps) = true) (x : Operand) (ho : op.op = .load ty x)
    (b o : Nat) (hx : a.eval x = .pointer (some ⟨b, o, none⟩)) (us : List Value) (hl : us.length = n) (hR : w.rangeAt b o us)
    (h : wpList Try.prog ops Q rest (a.put op.dst (.agg us.toArray)) w) : wpList Try.prog ops Q (op :: rest) a w := by
  obtain ⟨d, hu, hd⟩ := ht.row
  exact wpList_of_wp hgd fun K hK => wp_load_mid ty x ho b o hx us d hR hu hd (hl ▸ ht.size) (hK _ _ h)
theorem quiet_ldm {ty : TypeId} {n : Nat} (ht : Ty ty n) {op : Oper} {a : Act} {C : World → Prop} {w : World} {b o : Nat} {us : List Value} (x : Operand) (ho : op.op = .load ty x) (hx : a.eval x = .pointer (some ⟨b, o, none⟩)) (hl : us.length = n) (hR : w.rangeAt b o us) :
    op.quietAt Try.prog a C w (.agg us.toArray) := by
  obtain ⟨d, hu, hd⟩ := ht.row
  unfold Oper.quietAt execOp
  simp only [ho, hx, Instr.loadAt, Instr.sureAddr, Sem.run_bind, Sem.run_pure, Result.andThen_ok, run_loadVar_mid w b o ty us d hR hu hd (hl ▸ ht.size)]
  exact ⟨rfl, rfl⟩
theorem eqColor (d : Nat) (x y z u : Int) (w : World) : eqRun (d + 2) 57 (.agg #[.int .i64 x, .int .i64 y, .int .i64 z, .int .i64 u]) (.agg #[.int .i64 x, .int .i64 y, .int .i64 z, .int .i64 u]) w := by
  unfold eqRun
  rw [run_equalIn_struct w (d + 1) 57 _ _ (by kernel_rfl) (by kernel_rfl)]
  simp only [Program.fieldsOf, Try.underlying57]
  exact eqStep (r := true) (s := true) (by decide) (eqIs d x rfl) (eqStep (r := true) (s := true) (by decide) (eqIs d y rfl) (eqStep (r := true) (s := true) (by decide) (eqIs d z rfl) (eqStep (r := true) (s := true) (by decide) (eqIs d u rfl) (by simp [Op.eqFields]))))
theorem eqDraw (d : Nat) (x y z u : Int) (w : World) : eqRun (d + 2) 49 (.agg #[.int .i64 x, .int .i64 y, .int .i64 z, .int .i64 u]) (.agg #[.int .i64 x, .int .i64 y, .int .i64 z, .int .i64 u]) w := by
  unfold eqRun
  rw [run_equalIn_struct w (d + 1) 49 _ _ (by kernel_rfl) (by kernel_rfl)]
  simp only [Program.fieldsOf, Try.underlying49]
  exact eqStep (r := true) (s := true) (by decide) (eqIs d x rfl) (eqStep (r := true) (s := true) (by decide) (eqIs d y rfl) (eqStep (r := true) (s := true) (by decide) (eqIs d z rfl) (eqStep (r := true) (s := true) (by decide) (eqIs d u rfl) (by simp [Op.eqFields]))))
theorem eqVertex (d : Nat) (s : Nat → Int) (w : World) : eqRun (d + 3) 59 (.agg #[.int .i64 (s 0), .int .i64 (s 1), .int .i64 (s 2), .int .i64 (s 3), .int .i64 (s 4), .int .i64 (s 5), .int .i64 (s 6), .int .i64 (s 7), .int .i64 (s 8)]) (.agg #[.int .i64 (s 0), .int .i64 (s 1), .int .i64 (s 2), .int .i64 (s 3), .int .i64 (s 4), .int .i64 (s 5), .int .i64 (s 6), .int .i64 (s 7), .int .i64 (s 8)]) w := by
  unfold eqRun
  rw [run_equalIn_struct w (d + 2) 59 _ _ (by kernel_rfl) (by kernel_rfl)]
  simp only [Program.fieldsOf, Try.underlying59]
  exact eqStep (r := true) (s := true) (by decide) (eqIs (d + 1) (s 0) rfl) (eqStep (r := true) (s := true) (by decide) (eqIs (d + 1) (s 1) rfl) (eqStep (r := true) (s := true) (by decide) (eqIs (d + 1) (s 2) rfl) (eqStep (r := true) (s := true) (by decide) (eqSame _ _ (.agg #[.int .i64 (s 3), .int .i64 (s 4), .int .i64 (s 5), .int .i64 (s 6)]) (by kernel_rfl) (eqColor d _ _ _ _ w)) (eqStep (r := true) (s := true) (by decide) (eqIs (d + 1) (s 7) rfl) (eqStep (r := true) (s := true) (by decide) (eqIs (d + 1) (s 8) rfl) (by simp [Op.eqFields]))))))
theorem run_eqVertex (s : Nat → Int) (w : World) : (Op.equalIn 10000 59 (.agg #[.int .i64 (s 0), .int .i64 (s 1), .int .i64 (s 2), .int .i64 (s 3), .int .i64 (s 4), .int .i64 (s 5), .int .i64 (s 6), .int .i64 (s 7), .int .i64 (s 8)]) (.agg #[.int .i64 (s 0), .int .i64 (s 1), .int .i64 (s 2), .int .i64 (s 3), .int .i64 (s 4), .int .i64 (s 5), .int .i64 (s 6), .int .i64 (s 7), .int .i64 (s 8)])).run Try.prog w = .ok true w := eqVertex 9997 s w
theorem run_eqDraw (x y z u : Int) (w : World) : (Op.equalIn 10000 49 (.agg #[.int .i64 x, .int .i64 y, .int .i64 z, .int .i64 u]) (.agg #[.int .i64 x, .int .i64 y, .int .i64 z, .int .i64 u])).run Try.prog w = .ok true w := eqDraw 9998 x y z u w
/-- a slice, and its cells in every world in which what stood stands -/
theorem Sl.keptN {w : World} {v : Value} {l : List Int} (h : Sl w v (iv l)) : ∃ a c, v = .slice a l.length c ∧ l.length ≤ c ∧
    ∀ j (hj : j < l.length), ∃ b o, a = some ⟨b, o, none⟩ ∧ ∀ wr, Kp w.heap.size w wr → wr.cell? ⟨b, o + j, none⟩ = some (.int .i64 l[j]) := by
  obtain ⟨a, c, h1, h2, h3⟩ := h
  rw [iv_len] at h1 h2
  refine ⟨a, c, h1, h2, fun j hj => ?_⟩
  obtain ⟨b, o, e1, e2, e3⟩ := h3 j _ (iv_get hj)
  exact ⟨b, o, e1, fun wr hk => (hk.below.cell (p := ⟨b, o + j, none⟩) e2).trans e3⟩
end Go.Proofs.Ytkmhnfbjapfbeaa
