/-
  Contracts of layer 17 (tri), and of what it calls: what draws no order.
-/
import Derived.Test.YtankjlpanmmogaaGreatJEdgeHasC
import Derived.Test.YtankjlpanmmogaaGreatBaryRef
import Derived.Test.YtankjlpanmmogaaGreatJFragCode
import Derived.BigGuard
namespace Go.Proofs.YtankjlpanmmogaaGreat
set_option maxRecDepth 100000
open Go.RowKit

theorem ty_spot : Ty 26 9 := ⟨by kernel_rfl, _, Tryz.underlying26, rfl⟩
theorem ty_spots : Ty 27 27 := ⟨by kernel_rfl, _, Tryz.underlying27, rfl⟩
theorem ty_tri : Ty 38 32 := ⟨by kernel_rfl, _, Tryz.underlying38, rfl⟩
theorem tty_rect : Ty 36 4 := ⟨by kernel_rfl, _, Tryz.underlying36, rfl⟩
theorem ty_sixn : Ty 24 6 := ⟨by kernel_rfl, _, Tryz.underlying24, rfl⟩
theorem ix27_0 (a b c : Sn) (w : World) : (Instr.index 27 (.agg #[.int .i64 (a 0), .int .i64 (a 1), .int .i64 (a 2), .int .i64 (a 3), .int .i64 (a 4), .int .i64 (a 5), .int .i64 (a 6), .int .i64 (a 7), .int .i64 (a 8), .int .i64 (b 0), .int .i64 (b 1), .int .i64 (b 2), .int .i64 (b 3), .int .i64 (b 4), .int .i64 (b 5), .int .i64 (b 6), .int .i64 (b 7), .int .i64 (b 8), .int .i64 (c 0), .int .i64 (c 1), .int .i64 (c 2), .int .i64 (c 3), .int .i64 (c 4), .int .i64 (c 5), .int .i64 (c 6), .int .i64 (c 7), .int .i64 (c 8)]) (.int .i64 0)).run Tryz.prog w = .ok (.agg #[.int .i64 (a 0), .int .i64 (a 1), .int .i64 (a 2), .int .i64 (a 3), .int .i64 (a 4), .int .i64 (a 5), .int .i64 (a 6), .int .i64 (a 7), .int .i64 (a 8)]) w := by kernel_rfl
theorem ix27_1 (a b c : Sn) (w : World) : (Instr.index 27 (.agg #[.int .i64 (a 0), .int .i64 (a 1), .int .i64 (a 2), .int .i64 (a 3), .int .i64 (a 4), .int .i64 (a 5), .int .i64 (a 6), .int .i64 (a 7), .int .i64 (a 8), .int .i64 (b 0), .int .i64 (b 1), .int .i64 (b 2), .int .i64 (b 3), .int .i64 (b 4), .int .i64 (b 5), .int .i64 (b 6), .int .i64 (b 7), .int .i64 (b 8), .int .i64 (c 0), .int .i64 (c 1), .int .i64 (c 2), .int .i64 (c 3), .int .i64 (c 4), .int .i64 (c 5), .int .i64 (c 6), .int .i64 (c 7), .int .i64 (c 8)]) (.int .i64 1)).run Tryz.prog w = .ok (.agg #[.int .i64 (b 0), .int .i64 (b 1), .int .i64 (b 2), .int .i64 (b 3), .int .i64 (b 4), .int .i64 (b 5), .int .i64 (b 6), .int .i64 (b 7), .int .i64 (b 8)]) w := by kernel_rfl
theorem ix27_2 (a b c : Sn) (w : World) : (Instr.index 27 (.agg #[.int .i64 (a 0), .int .i64 (a 1), .int .i64 (a 2), .int .i64 (a 3), .int .i64 (a 4), .int .i64 (a 5), .int .i64 (a 6), .int .i64 (a 7), .int .i64 (a 8), .int .i64 (b 0), .int .i64 (b 1), .int .i64 (b 2), .int .i64 (b 3), .int .i64 (b 4), .int .i64 (b 5), .int .i64 (b 6), .int .i64 (b 7), .int .i64 (b 8), .int .i64 (c 0), .int .i64 (c 1), .int .i64 (c 2), .int .i64 (c 3), .int .i64 (c 4), .int .i64 (c 5), .int .i64 (c 6), .int .i64 (c 7), .int .i64 (c 8)]) (.int .i64 2)).run Tryz.prog w = .ok (.agg #[.int .i64 (c 0), .int .i64 (c 1), .int .i64 (c 2), .int .i64 (c 3), .int .i64 (c 4), .int .i64 (c 5), .int .i64 (c 6), .int .i64 (c 7), .int .i64 (c 8)]) w := by kernel_rfl
theorem ix6s (c : Sn) (k : Nat) (hk : k < 6) (w : World) : (Instr.index 24 (.agg #[.int .i64 (c 3), .int .i64 (c 4), .int .i64 (c 5), .int .i64 (c 6), .int .i64 (c 7), .int .i64 (c 8)]) (.int .i64 k)).run Tryz.prog w = .ok (.int .i64 (c (3 + k))) w := by
  rcases k with _ | _ | _ | _ | _ | _ | k
  all_goals first | omega | kernel_rfl
/-- the A of a spot, cell by cell; those of three spots in one block -/
theorem arr9_of {W : World} {p : Nat} {c : Sn} (h : Rc W p [.int .i64 (c 0), .int .i64 (c 1), .int .i64 (c 2), .int .i64 (c 3), .int .i64 (c 4), .int .i64 (c 5), .int .i64 (c 6), .int .i64 (c 7), .int .i64 (c 8)]) (k : Nat) (hk : k < 6) : W.cell? ⟨p, 3 + k, none⟩ = some (.int .i64 (c (3 + k))) := by
  rcases k with _ | _ | _ | _ | _ | _ | k
  · exact h.cell 3 rfl
  · exact h.cell 4 rfl
  · exact h.cell 5 rfl
  · exact h.cell 6 rfl
  · exact h.cell 7 rfl
  · exact h.cell 8 rfl
  · omega
theorem arr_in {W : World} {p : Nat} {vs : List Value} (h : Rc W p vs) (o : Nat) (c : Sn) (hv : ∀ k, k < 6 → vs[o + k]? = some (.int .i64 (c (3 + k)))) (k : Nat) (hk : k < 6) : W.cell? ⟨p, o + k, none⟩ = some (.int .i64 (c (3 + k))) := h.cell (o + k) (hv k hk)
theorem arr27_of {W : World} {p : Nat} {a b c : Sn} (h : Rc W p [.int .i64 (a 0), .int .i64 (a 1), .int .i64 (a 2), .int .i64 (a 3), .int .i64 (a 4), .int .i64 (a 5), .int .i64 (a 6), .int .i64 (a 7), .int .i64 (a 8), .int .i64 (b 0), .int .i64 (b 1), .int .i64 (b 2), .int .i64 (b 3), .int .i64 (b 4), .int .i64 (b 5), .int .i64 (b 6), .int .i64 (b 7), .int .i64 (b 8), .int .i64 (c 0), .int .i64 (c 1), .int .i64 (c 2), .int .i64 (c 3), .int .i64 (c 4), .int .i64 (c 5), .int .i64 (c 6), .int .i64 (c 7), .int .i64 (c 8)]) (k : Nat) (hk : k < 6) :
    W.cell? ⟨p, 3 + k, none⟩ = some (.int .i64 (a (3 + k))) ∧ W.cell? ⟨p, 12 + k, none⟩ = some (.int .i64 (b (3 + k))) ∧ W.cell? ⟨p, 21 + k, none⟩ = some (.int .i64 (c (3 + k))) := by
  refine ⟨arr_in h 3 a (fun k hk => ?_) k hk, arr_in h 12 b (fun k hk => ?_) k hk, arr_in h 21 c (fun k hk => ?_) k hk⟩
  all_goals
    rcases k with _ | _ | _ | _ | _ | _ | k
    all_goals first | omega | rfl
theorem arr32_of {W : World} {p : Nat} {a b c f : Sn} {n : Int} (h : Rc W p [.int .i64 (a 0), .int .i64 (a 1), .int .i64 (a 2), .int .i64 (a 3), .int .i64 (a 4), .int .i64 (a 5), .int .i64 (a 6), .int .i64 (a 7), .int .i64 (a 8), .int .i64 (b 0), .int .i64 (b 1), .int .i64 (b 2), .int .i64 (b 3), .int .i64 (b 4), .int .i64 (b 5), .int .i64 (b 6), .int .i64 (b 7), .int .i64 (b 8), .int .i64 (c 0), .int .i64 (c 1), .int .i64 (c 2), .int .i64 (c 3), .int .i64 (c 4), .int .i64 (c 5), .int .i64 (c 6), .int .i64 (c 7), .int .i64 (c 8), .int .i64 n, .int .i64 (f 0), .int .i64 (f 1), .int .i64 (f 2), .int .i64 (f 3)]) (k : Nat) (hk : k < 6) :
    W.cell? ⟨p, 3 + k, none⟩ = some (.int .i64 (a (3 + k))) ∧ W.cell? ⟨p, 12 + k, none⟩ = some (.int .i64 (b (3 + k))) ∧ W.cell? ⟨p, 21 + k, none⟩ = some (.int .i64 (c (3 + k))) := by
  refine ⟨arr_in h 3 a (fun k hk => ?_) k hk, arr_in h 12 b (fun k hk => ?_) k hk, arr_in h 21 c (fun k hk => ?_) k hk⟩
  all_goals
    rcases k with _ | _ | _ | _ | _ | _ | k
    all_goals first | omega | rfl
def msrT (m : Nat) (i : Value) : Nat := m - (intOf i).toNat
/-- nothing of one's own yet -/
theorem Ow.of_kp {w W : World} (h : Kp w.heap.size w W) : Ow w W [] := ⟨h, fun _ h => (by cases h), .nil⟩

/-- is a number from lo to hi? -/
def Tr.inB (lo hi n : Int) : Bool := decide (lo ≤ n) && decide (n ≤ hi)
theorem tin_any (lo hi n : Int) (w : World) :
    Calls Tryz.prog 40 #[.int .i64 lo, .int .i64 hi, .int .i64 n] w fun e w' => e = .returned (.bool (Tr.inB lo hi n)) ∧ w = w' := by
  cases h1 : decide (lo ≤ n)
  all_goals
    go_enter Tryz.func40, Tryz.ntmps40
    go_wp2_with go_big_skip
    go_ret
    exact ⟨ret_bool (by simp [Tr.inB, h1]), rfl⟩
theorem dropped_any (n cull : Int) (w : World) :
    Calls Tryz.prog 15 #[.int .i64 n, .int .i64 cull] w fun e w' => e = .returned (.bool (Tr.drop n cull)) ∧ w = w' := by
  have HR : Hid (Tr.drop n cull = true ↔ n = 0 ∨ (n < 0 ∧ cull = 1) ∨ (0 < n ∧ cull = 2)) := Lib.hid (by simp [Tr.drop, or_assoc])
  generalize Tr.drop n cull = r at *
  cases h0 : (n == 0) <;> cases h1 : decide (n < 0) <;> cases h2 : (cull == 1) <;> cases h3 : decide (0 < n)
  all_goals
    go_enter Tryz.func15, Tryz.ntmps15
    go_wp2_with go_big_skip
    go_ret
    exact ⟨ret_bool (by rw [Bool.eq_iff_iff, HR.out]; simp at h0 h1 h2 h3 ⊢; try omega), rfl⟩
theorem tfirst_any (n : Int) (w : World) (h : -524288 ≤ n ∧ n ≤ 524289) :
    Calls Tryz.prog 41 #[.int .i64 n] w fun e w' => e = .returned (.int .i64 (Tr.from n)) ∧ w = w' := by
  obtain ⟨h1, h2⟩ := h
  have HR : Hid (Tr.from n = (n + 524295).tdiv 16 - 32768) := Lib.hid (by rw [Int.tdiv_eq_ediv_of_nonneg (by omega)]; unfold Tr.from; omega)
  generalize Tr.from n = r at *
  have hq : 0 ≤ (n + 524295).tdiv 16 ∧ (n + 524295).tdiv 16 ≤ 70000 := by rw [Int.tdiv_eq_ediv_of_nonneg (by omega)]; omega
  have e : n + 524288 + 8 - 1 = n + 524295 := by omega
  obtain ⟨q1, q2⟩ := hq
  go_enter Tryz.func41, Tryz.ntmps41
  go_wp2
  all_goals go_ret
  all_goals exact ⟨ret_int (by rw [HR.out, ← e]), rfl⟩
set_option linter.unusedSimpArgs false in
set_option maxRecDepth 100000 in
set_option maxHeartbeats 8000000 in
theorem points_any (a b c : Sn) (w : World) :
    Calls Tryz.prog 81 #[.agg #[.int .i64 (a 0), .int .i64 (a 1), .int .i64 (a 2), .int .i64 (a 3), .int .i64 (a 4), .int .i64 (a 5), .int .i64 (a 6), .int .i64 (a 7), .int .i64 (a 8), .int .i64 (b 0), .int .i64 (b 1), .int .i64 (b 2), .int .i64 (b 3), .int .i64 (b 4), .int .i64 (b 5), .int .i64 (b 6), .int .i64 (b 7), .int .i64 (b 8), .int .i64 (c 0), .int .i64 (c 1), .int .i64 (c 2), .int .i64 (c 3), .int .i64 (c 4), .int .i64 (c 5), .int .i64 (c 6), .int .i64 (c 7), .int .i64 (c 8)]] w fun e w' => e = .returned (.agg #[.int .i64 (a 0), .int .i64 (a 1), .int .i64 (b 0), .int .i64 (b 1), .int .i64 (c 0), .int .i64 (c 1)]) ∧ Kp w.heap.size w w' := by
  have HO := Lib.hid (((Ow.refl w).newAt (w.heap.size) rfl (.int .i64 (a 0)) [.int .i64 (a 1), .int .i64 (a 2), .int .i64 (a 3), .int .i64 (a 4), .int .i64 (a 5), .int .i64 (a 6), .int .i64 (a 7), .int .i64 (a 8), .int .i64 (b 0), .int .i64 (b 1), .int .i64 (b 2), .int .i64 (b 3), .int .i64 (b 4), .int .i64 (b 5), .int .i64 (b 6), .int .i64 (b 7), .int .i64 (b 8), .int .i64 (c 0), .int .i64 (c 1), .int .i64 (c 2), .int .i64 (c 3), .int .i64 (c 4), .int .i64 (c 5), .int .i64 (c 6), .int .i64 (c 7), .int .i64 (c 8)] 27).newAt (w.heap.size + 1) (by simp) (.int .i64 0) [.int .i64 0, .int .i64 0, .int .i64 0, .int .i64 0, .int .i64 0] 126)
  go_enter Tryz.func81, Tryz.ntmps81
  go_wp2_with (first
    | ((with_reducible show wpList _ _ _ ({ dst := _, op := Op.load 23 (Operand.tmp 4), type := _, pos := _, after := _, guard := _ } :: _) _ _); refine wpList_ldo ty_point rfl _ rfl _ _ rfl [.int .i64 (a 0), .int .i64 (a 1), .int .i64 (a 2), .int .i64 (a 3), .int .i64 (a 4), .int .i64 (a 5), .int .i64 (a 6), .int .i64 (a 7), .int .i64 (a 8), .int .i64 (b 0), .int .i64 (b 1), .int .i64 (b 2), .int .i64 (b 3), .int .i64 (b 4), .int .i64 (b 5), .int .i64 (b 6), .int .i64 (b 7), .int .i64 (b 8), .int .i64 (c 0), .int .i64 (c 1), .int .i64 (c 2), .int .i64 (c 3), .int .i64 (c 4), .int .i64 (c 5), .int .i64 (c 6), .int .i64 (c 7), .int .i64 (c 8)] rfl (Rc.some (HO.out.at 1 rfl)) ?_; intro us hus; dsimp only [List.drop, List.take] at hus; subst hus)
    | ((with_reducible show wpList _ _ _ ({ dst := _, op := Op.load 23 (Operand.tmp 7), type := _, pos := _, after := _, guard := _ } :: _) _ _); refine wpList_ldo ty_point rfl _ rfl _ _ rfl [.int .i64 (a 0), .int .i64 (a 1), .int .i64 (a 2), .int .i64 (a 3), .int .i64 (a 4), .int .i64 (a 5), .int .i64 (a 6), .int .i64 (a 7), .int .i64 (a 8), .int .i64 (b 0), .int .i64 (b 1), .int .i64 (b 2), .int .i64 (b 3), .int .i64 (b 4), .int .i64 (b 5), .int .i64 (b 6), .int .i64 (b 7), .int .i64 (b 8), .int .i64 (c 0), .int .i64 (c 1), .int .i64 (c 2), .int .i64 (c 3), .int .i64 (c 4), .int .i64 (c 5), .int .i64 (c 6), .int .i64 (c 7), .int .i64 (c 8)] rfl (Rc.some (HO.out.at 1 rfl)) ?_; intro us hus; dsimp only [List.drop, List.take] at hus; subst hus)
    | ((with_reducible show wpList _ _ _ ({ dst := _, op := Op.load 23 (Operand.tmp 10), type := _, pos := _, after := _, guard := _ } :: _) _ _); refine wpList_ldo ty_point rfl _ rfl _ _ rfl [.int .i64 (a 0), .int .i64 (a 1), .int .i64 (a 2), .int .i64 (a 3), .int .i64 (a 4), .int .i64 (a 5), .int .i64 (a 6), .int .i64 (a 7), .int .i64 (a 8), .int .i64 (b 0), .int .i64 (b 1), .int .i64 (b 2), .int .i64 (b 3), .int .i64 (b 4), .int .i64 (b 5), .int .i64 (b 6), .int .i64 (b 7), .int .i64 (b 8), .int .i64 (c 0), .int .i64 (c 1), .int .i64 (c 2), .int .i64 (c 3), .int .i64 (c 4), .int .i64 (c 5), .int .i64 (c 6), .int .i64 (c 7), .int .i64 (c 8)] rfl (Rc.some (HO.out.at 1 rfl)) ?_; intro us hus; dsimp only [List.drop, List.take] at hus; subst hus)
    | ((with_reducible show wpList _ _ _ ({ dst := _, op := Op.store 126 (Operand.tmp 2) _, type := _, pos := _, after := _, guard := _ } :: _) _ _); refine wpList_sto ety_three HO.out 0 [.int .i64 (a 0), .int .i64 (a 1), .int .i64 (b 0), .int .i64 (b 1), .int .i64 (c 0), .int .i64 (c 1)] rfl _ _ rfl _ rfl rfl _ rfl rfl rfl rfl ?_; intro w2 l2; clear HO; have HO := Lib.hid l2; clear l2))
  refine bodyPost_ret (results_c ety_three rfl rfl rfl (HO.out.at 0 rfl)) rfl ⟨rfl, HO.out.k⟩
end Go.Proofs.YtankjlpanmmogaaGreat
