/-
  Four numbers by value, read and written; matrices read in a region that draws its order.
-/
import Derived.Test.YtbhdmfoigilibaaVecWalks
import Derived.Test.YtbhdmfoigilibaaRegionMk
namespace Go.Proofs.Ytbhdmfoigilibaa
open Go.RowKit

theorem quiet_ldM {o : Oper} {a : Act} {C : World → Prop} {w : World} {b : Nat} {m : Nat → Int} (x : Operand) (ho : o.op = .load 23 x) (hx : a.eval x = .pointer (some ⟨b, 0, none⟩)) (hR : Rw 16 w b m) :
    o.quietAt Try.prog a C w (.agg (Vc.ar m)) := by
  unfold Oper.quietAt execOp
  simp only [ho, hx, Instr.loadAt, Instr.sureAddr, Sem.run_bind, Sem.run_pure, Result.andThen_ok, run_ldM hR]
  exact ⟨rfl, rfl⟩

/-! ### Four numbers -/
theorem Rw.range4 {W : World} {b : Nat} {f : Nat → Int} (h : Rw 4 W b f) : W.rangeAt b 0 [.int .i64 (f 0), .int .i64 (f 1), .int .i64 (f 2), .int .i64 (f 3)] := fun j v hv => by
  rw [Nat.zero_add]
  rcases j with _ | _ | _ | _ | j
  · simp at hv; subst hv; exact (h 0 (by omega)).1
  · simp at hv; subst hv; exact (h 1 (by omega)).1
  · simp at hv; subst hv; exact (h 2 (by omega)).1
  · simp at hv; subst hv; exact (h 3 (by omega)).1
  · simp at hv
theorem Rw.store4 {w : World} {b : Nat} {f : Nat → Int} (h : Rw 4 w b f) (g : Nat → Int) : Rw 4 (w.setCells b 0 [.int .i64 (g 0), .int .i64 (g 1), .int .i64 (g 2), .int .i64 (g 3)]) b g := by
  intro j hj
  have hr := World.rangeAt_setCells_same w b 0 [.int .i64 (g 0), .int .i64 (g 1), .int .i64 (g 2), .int .i64 (g 3)] (fun i hi => by rw [Nat.zero_add]; exact ⟨by rw [(h i hi).1]; rfl, (h i hi).2⟩)
  refine ⟨?_, ((St.setCells _).frozen _).trans (h j hj).2⟩
  have := hr j (.int .i64 (g j)) (by rcases j with _ | _ | _ | _ | j; all_goals first | rfl | omega)
  rwa [Nat.zero_add] at this
/-- a type of four cells -/
structure Four (ty : TypeId) : Prop where
  size : (Try.prog.info? ty).map (·.size) = some 4
  row : ∃ d, Try.prog.underlying ty = some d ∧ d.isRow = true
theorem four_vec : Four 25 := ⟨by kernel_rfl, _, Try.underlying25, rfl⟩
theorem four_row : Four 51 := ⟨by kernel_rfl, _, Try.underlying51, rfl⟩
theorem run_ld4 {ty : TypeId} (h4 : Four ty) {w : World} {b : Nat} {f : Nat → Int} (hR : Rw 4 w b f) : (loadVar ty ⟨b, 0, none⟩).run Try.prog w = .ok (.agg #[.int .i64 (f 0), .int .i64 (f 1), .int .i64 (f 2), .int .i64 (f 3)]) w := by
  obtain ⟨d, hu, hd⟩ := h4.row
  exact run_loadVar_mid w b 0 ty [.int .i64 (f 0), .int .i64 (f 1), .int .i64 (f 2), .int .i64 (f 3)] d hR.range4 hu hd h4.size
theorem wpList_ld4 {ty : TypeId} (h4 : Four ty) {ops : Array Oper} {rest : List Oper} {op : Oper} {a : Act} {w : World} {Q : Exit → Act → World → Prop} (hgd : op.guard = none) (x : Operand) (ho : op.op = .load ty x)
    (b : Nat) (hx : a.eval x = .pointer (some ⟨b, 0, none⟩)) (f : Nat → Int) (hR : Rw 4 w b f)
    (h : wpList Try.prog ops Q rest (a.put op.dst (.agg #[.int .i64 (f 0), .int .i64 (f 1), .int .i64 (f 2), .int .i64 (f 3)])) w) : wpList Try.prog ops Q (op :: rest) a w := by
  obtain ⟨d, hu, hd⟩ := h4.row
  exact wpList_load_mid hgd ty x ho b 0 hx [.int .i64 (f 0), .int .i64 (f 1), .int .i64 (f 2), .int .i64 (f 3)] d hR.range4 hu hd h4.size h
theorem wpList_of_wp {P : Program} {ops : Array Oper} {rest : List Oper} {op : Oper} {a : Act} {w : World} {Q : Exit → Act → World → Prop} (hw : Region.wanted op (yielded ops a.tmps) = true)
    (h : ∀ K : Act → World → Prop, (∀ a w, wpList P ops Q rest a w → K a w) → op.wp P a w K Q) : wpList P ops Q (op :: rest) a w :=
  wpList_step fun K hK => by rw [if_pos hw]; exact h K hK
/-- .. behind a guard that lets by -/
theorem wpList_ld4g {ty : TypeId} (h4 : Four ty) {ops : Array Oper} {rest : List Oper} {op : Oper} {a : Act} {w : World} {Q : Exit → Act → World → Prop} (hgd : Region.wanted op (yielded ops a.tmps) = true) (x : Operand) (ho : op.op = .load ty x)
    (b : Nat) (hx : a.eval x = .pointer (some ⟨b, 0, none⟩)) (f : Nat → Int) (hR : Rw 4 w b f)
    (h : wpList Try.prog ops Q rest (a.put op.dst (.agg #[.int .i64 (f 0), .int .i64 (f 1), .int .i64 (f 2), .int .i64 (f 3)])) w) : wpList Try.prog ops Q (op :: rest) a w := by
  obtain ⟨d, hu, hd⟩ := h4.row
  exact wpList_of_wp hgd fun K hK => wp_load_mid ty x ho b 0 hx [.int .i64 (f 0), .int .i64 (f 1), .int .i64 (f 2), .int .i64 (f 3)] d hR.range4 hu hd h4.size (hK _ _ h)
theorem wpList_ldg {ops : Array Oper} {rest : List Oper} {op : Oper} {a : Act} {w : World} {Q : Exit → Act → World → Prop} (hgd : Region.wanted op (yielded ops a.tmps) = true) (x : Operand) (ho : op.op = .load 23 x)
    (b : Nat) (hx : a.eval x = .pointer (some ⟨b, 0, none⟩)) (m : Nat → Int) (hR : Rw 16 w b m)
    (h : wpList Try.prog ops Q rest (a.put op.dst (.agg (Vc.ar m))) w) : wpList Try.prog ops Q (op :: rest) a w :=
  wpList_of_wp hgd fun K hK => wp_load_mid 23 x ho b 0 hx (Vc.ls m) _ hR.range Try.underlying23 rfl (by rw [Vc.ls_len]; exact sz16) (hK _ _ h)
theorem wpList_st4 {ty : TypeId} (h4 : Four ty) {ops : Array Oper} {rest : List Oper} {op : Oper} {a : Act} {w : World} {Q : Exit → Act → World → Prop} (hgd : op.guard = none) (x y : Operand) (ho : op.op = .store ty x y)
    (b : Nat) (hx : a.eval x = .pointer (some ⟨b, 0, none⟩)) (g : Nat → Int) (hy : a.eval y = .agg #[.int .i64 (g 0), .int .i64 (g 1), .int .i64 (g 2), .int .i64 (g 3)]) {f : Nat → Int} (hR : Rw 4 w b f)
    (h : ∀ w', Rw 4 w' b g → St b w w' → wpList Try.prog ops Q rest (a.put op.dst undef) w') : wpList Try.prog ops Q (op :: rest) a w :=
  wpList_store_mid hgd ty x y ho b 0 #[.int .i64 (g 0), .int .i64 (g 1), .int .i64 (g 2), .int .i64 (g 3)] hx hy (fun i hi => by rw [Nat.zero_add]; exact ⟨by rw [(hR i hi).1]; rfl, (hR i hi).2⟩) h4.size (by simp [Value.oneCell']) (h _ (hR.store4 g) (St.setCells _))
theorem quiet_ld4 {ty : TypeId} (h4 : Four ty) {o : Oper} {a : Act} {C : World → Prop} {w : World} {b : Nat} {f : Nat → Int} (x : Operand) (ho : o.op = .load ty x) (hx : a.eval x = .pointer (some ⟨b, 0, none⟩)) (hR : Rw 4 w b f) :
    o.quietAt Try.prog a C w (.agg #[.int .i64 (f 0), .int .i64 (f 1), .int .i64 (f 2), .int .i64 (f 3)]) := by
  unfold Oper.quietAt execOp
  simp only [ho, hx, Instr.loadAt, Instr.sureAddr, Sem.run_bind, Sem.run_pure, Result.andThen_ok, run_ld4 h4 hR]
  exact ⟨rfl, rfl⟩
theorem results_v {fn : Func} {p : Tmp} {ty : TypeId} (h4 : Four ty) (h : fn.results = #[.cell p ty]) {tmps : Array Value} {w : World} {b : Nat} {f : Nat → Int}
    (hp : tmps.getD p undef = .pointer (some ⟨b, 0, none⟩)) (hR : Rw 4 w b f) : (results fn tmps).run Try.prog w = .ok (.agg #[.int .i64 (f 0), .int .i64 (f 1), .int .i64 (f 2), .int .i64 (f 3)]) w := by
  have hp' : tmps[p]?.getD undef = .pointer (some ⟨b, 0, none⟩) := by simpa using hp
  simp [results, h, hp', asAddr, run_ld4 h4 hR]
theorem results_v2 {fn : Func} {p q : Tmp} {ty : TypeId} (h4 : Four ty) (h : fn.results = #[.cell p ty, .tmp q]) {tmps : Array Value} {w : World} {b : Nat} {f : Nat → Int} {v : Value}
    (hp : tmps.getD p undef = .pointer (some ⟨b, 0, none⟩)) (hq : tmps.getD q undef = v) (hR : Rw 4 w b f) : (results fn tmps).run Try.prog w = .ok (.tuple #[.agg #[.int .i64 (f 0), .int .i64 (f 1), .int .i64 (f 2), .int .i64 (f 3)], v]) w := by
  have hp' : tmps[p]?.getD undef = .pointer (some ⟨b, 0, none⟩) := by simpa using hp
  have hq' : tmps[q]?.getD undef = v := by simpa using hq
  simp [results, h, hp', hq', asAddr, run_ld4 h4 hR]
theorem Rw.zero4 (W : World) (t : TypeId) {b : Nat} (hb : b = W.heap.size) : Rw 4 (W.alloc (.cells #[.int .i64 0, .int .i64 0, .int .i64 0, .int .i64 0] t)) b (fun _ => 0) := Rw.new4 W (fun _ => 0) t hb
end Go.Proofs.Ytbhdmfoigilibaa
