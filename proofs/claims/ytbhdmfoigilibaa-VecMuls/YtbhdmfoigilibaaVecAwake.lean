/-
  Layer 5: vectors and matrices held against each other; what must come at any rate.
-/
import Derived.Test.YtbhdmfoigilibaaVecApply
import Derived.Test.YtbhdmfoigilibaaVecDiag
import Derived.ChangeKeysEq
import Derived.Laws.StructEq
namespace Go.Proofs.Ytbhdmfoigilibaa
open Go.RowKit

theorem eqItems_run (xs ys : Array Value) (f g : Nat → Int) (w : World) : ∀ is : List Nat, (∀ i, i ∈ is → xs[i]? = some (.int .i64 (f i)) ∧ ys[i]? = some (.int .i64 (g i))) →
    (Op.eqItems 9999 3 1 xs ys is).run Try.prog w = .ok (is.all fun i => f i == g i) w
  | [], _ => by simp [Op.eqItems]
  | i :: is, h => by
    obtain ⟨h1, h2⟩ := h i (by simp)
    have ih := eqItems_run xs ys f g w is (fun k hk => h k (by simp [hk]))
    have p1 : (part 3 xs (i * 1)).run Try.prog w = .ok (.int .i64 (f i)) w := run_part_plain w (by kernel_rfl) (by rw [Nat.mul_one]; exact h1)
    have p2 : (part 3 ys (i * 1)).run Try.prog w = .ok (.int .i64 (g i)) w := run_part_plain w (by kernel_rfl) (by rw [Nat.mul_one]; exact h2)
    have p3 : (Op.equalIn 9999 3 (.int .i64 (f i)) (.int .i64 (g i))).run Try.prog w = .ok (f i == g i) w := run_equalIn_int w 9998 _ _ _ _ _ Try.underlying3
    simp only [Op.eqItems, Sem.run_bind, p1, p2, p3, Result.andThen_ok, List.all_cons]
    cases hb : (f i == g i)
    · simp
    · simpa using ih
/-- the same sixteen numbers -/
def Vc.eq16 (f g : Nat → Int) : Bool := (List.range 16).all fun i => f i == g i
theorem Vc.eq16_true {f g : Nat → Int} (h : ∀ j, j < 16 → f j = g j) : Vc.eq16 f g = true := by
  unfold Vc.eq16
  simp only [List.all_eq_true, List.mem_range, beq_iff_eq]
  exact h
theorem run_eqM (f g : Nat → Int) (w : World) : (Op.equalIn 10000 23 (.agg (Vc.ar f)) (.agg (Vc.ar g))).run Try.prog w = .ok (Vc.eq16 f g) w := by
  have hi : ∃ i, Try.prog.info? 3 = some i := Option.isSome_iff_exists.1 (by kernel_rfl)
  obtain ⟨i, hi⟩ := hi
  rw [run_equalIn_array w 9999 _ _ Try.underlying23 hi]
  have hc : Try.prog.cellsOf 3 = 1 := by kernel_rfl
  rw [hc]
  apply eqItems_run
  intro j hj
  have : j < 16 := List.mem_range.1 hj
  exact ⟨Vc.ar_get f this, Vc.ar_get g this⟩
theorem run_eqM_same (f : Nat → Int) (w : World) : (Op.equalIn 10000 23 (.agg (Vc.ar f)) (.agg (Vc.ar f))).run Try.prog w = .ok true w := by
  rw [run_eqM, Vc.eq16_true fun _ _ => rfl]
theorem run_eqM_zero (w : World) : (Op.equalIn 10000 23 (.agg (Vc.ar fun _ => 0)) (.agg #[.int .i64 0, .int .i64 0, .int .i64 0, .int .i64 0, .int .i64 0, .int .i64 0, .int .i64 0, .int .i64 0, .int .i64 0, .int .i64 0, .int .i64 0, .int .i64 0, .int .i64 0, .int .i64 0, .int .i64 0, .int .i64 0])).run Try.prog w = .ok true w := by
  rw [Vc.ar_zero]; exact run_eqM_same _ w
theorem run_eqV (a b c d : Int) (w : World) : (Op.equalIn 10000 25 (.agg #[.int .i64 a, .int .i64 b, .int .i64 c, .int .i64 d]) (.agg #[.int .i64 a, .int .i64 b, .int .i64 c, .int .i64 d])).run Try.prog w = .ok true w := by
  rw [run_equalIn_struct w 9999 25 _ _ (by kernel_rfl) (by kernel_rfl)]
  have hp : ∀ (x : Int) (cs : Array Value) (o : Nat), cs[o]? = some (.int .i64 x) → (part 3 cs o).run Try.prog w = .ok (.int .i64 x) w := fun x cs o h => run_part_plain w (by kernel_rfl) h
  have hq : ∀ x : Int, (Op.equalIn 9999 3 (.int .i64 x) (.int .i64 x)).run Try.prog w = .ok true w := fun x => by rw [run_equalIn_int w 9998 _ _ _ _ _ Try.underlying3]; simp
  simp (decide := true) only [Program.fieldsOf, Try.underlying25, Op.eqFields, ne_eq, not_false_eq_true, if_true, Sem.run_bind, hp a #[.int .i64 a, .int .i64 b, .int .i64 c, .int .i64 d] 0 rfl, hp b #[.int .i64 a, .int .i64 b, .int .i64 c, .int .i64 d] 1 rfl,
    hp c #[.int .i64 a, .int .i64 b, .int .i64 c, .int .i64 d] 2 rfl, hp d #[.int .i64 a, .int .i64 b, .int .i64 c, .int .i64 d] 3 rfl, Result.andThen_ok, hq, Bool.not_true, Bool.false_eq_true, if_false, Sem.run_pure]

theorem apply_awake (w : World) : Calls Try.prog 6 #[.agg (Vc.ar (Vc.mov 1 2 3)), .agg #[.int .i64 0, .int .i64 0, .int .i64 0, .int .i64 256]] w fun e w' => e = .returned (.tuple #[.agg #[.int .i64 1, .int .i64 2, .int .i64 3, .int .i64 256], .int .i64 0]) ∧ Kp w.heap.size w w' :=
  (apply_yes (Vc.mov 1 2 3) (Vc.v4 0 0 0 256) w (by decide) (by decide)).mono fun e w' h => ⟨by rw [h.1]; rfl, h.2⟩

set_option maxHeartbeats 1000000 in
theorem awake_any (w : World) :
    Calls Try.prog 9 #[] w fun e w' => e = .returned (.bool true) ∧ Kp w.heap.size w w' := by
  have hE := run_eqV
  go_enter Try.func9, Try.ntmps9
  go_wp2_with (first
    | (go_at_call 15; refine (move_yes 1 2 3 _ (by decide)).mono ?_; rintro e w1 ⟨rfl, hk1⟩; have HK1 := Lib.hid hk1; clear hk1)
    | (refine wpList_st rfl _ _ rfl _ rfl _ rfl (f := fun _ => 0) ?_ ?_; (exact Rw.zero16 w1 _ rfl); intro w2 hr2 hs2; have HR := Lib.hid hr2; have HK2 := Lib.hid (hs2.kp (HK1.out.next ((Kp.refl _ _).alloc (Nat.le_refl _) _ _)) HK1.out.size); clear hr2 hs2)
    | (refine wpList_ld rfl _ rfl _ rfl (Vc.mov 1 2 3) ?_ ?_; (with_reducible exact HR.out))
    | (go_at_call 6; refine (apply_awake _).mono ?_; rintro e w3 ⟨rfl, hk3⟩; have HK3 := Lib.hid (HK2.out.next hk3); clear hk3))
  go_ret
  exact ⟨rfl, HK3.out.next ((Kp.refl _ _).alloc (Nat.le_refl _) _ _)⟩
end Go.Proofs.Ytbhdmfoigilibaa
