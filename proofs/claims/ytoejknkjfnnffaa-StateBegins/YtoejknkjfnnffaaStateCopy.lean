/-
  'copy' into a matrix, into seven numbers (layer 18).
-/
import Derived.Test.YtoejknkjfnnffaaStateCode
import Derived.BigGuard
namespace Go.Proofs.Ytoejknkjfnnffaa
open Go.RowKit

theorem setsAt_get (us : List Value) : ∀ (vs : List Value) (o i : Nat), o + us.length ≤ vs.length → (setsAt vs o us)[i]? = if o ≤ i ∧ i < o + us.length then us[i - o]? else vs[i]? := by
  induction us with
  | nil => intro vs o i _; rw [if_neg (by simp only [List.length_nil]; omega)]; rfl
  | cons v us ih =>
    intro vs o i h
    simp only [List.length_cons] at h ⊢
    show (setsAt (vs.set o v) (o + 1) us)[i]? = _
    rw [ih _ _ _ (by rw [List.length_set]; omega)]
    by_cases e : i = o
    · subst e
      rw [if_neg (by omega), if_pos (by omega), List.getElem?_set_self (by omega), Nat.sub_self]; rfl
    · rw [List.getElem?_set_ne (Ne.symm e)]
      by_cases h2 : o + 1 ≤ i ∧ i < o + 1 + us.length
      · rw [if_pos h2, if_pos (by omega), show i - o = (i - (o + 1)) + 1 by omega]; rfl
      · rw [if_neg h2, if_neg (by omega)]
theorem setsAt_append (us : List Value) : ∀ (vs ts : List Value) (o : Nat), o + us.length ≤ vs.length → setsAt (vs ++ ts) o us = setsAt vs o us ++ ts := by
  induction us with
  | nil => intro vs ts o _; rfl
  | cons v us ih =>
    intro vs ts o h
    simp only [List.length_cons] at h
    show setsAt ((vs ++ ts).set o v) (o + 1) us = setsAt (vs.set o v) (o + 1) us ++ ts
    rw [List.set_append_left _ _ (by omega), ih _ _ _ (by rw [List.length_set]; omega)]
theorem iv_one (l : List Int) : ∀ x ∈ iv l, x.oneCell' = true := fun x hx => by
  obtain ⟨n, _, rfl⟩ := List.mem_map.1 hx
  rfl
/-- numbers laid over the first n of a row of ints -/
theorem setsAt_nums (n : Nat) (f : Sf) (l : List Int) (A B : List Value) (hA : A.length = n) (hB : B.length = n) (gA : ∀ i, i < n → A[i]? = some (.int .i64 (f i)))
    (gB : ∀ i, i < n → B[i]? = some (.int .i64 (if i < l.length then l.getD i 0 else f i))) : setsAt A 0 ((iv l).take n) = B := by
  have hl : ((iv l).take n).length = min n l.length := by rw [List.length_take, iv_len]
  apply List.ext_getElem?
  intro i
  rw [setsAt_get _ _ _ _ (by rw [hl, hA]; omega), hl]
  by_cases hi : i < n
  · rw [gB i hi]
    by_cases h : i < l.length
    · rw [if_pos (by omega), if_pos h, Nat.sub_zero, List.getElem?_take_of_lt hi, iv_get h, List.getD_eq_getElem?_getD, List.getElem?_eq_getElem h]; rfl
    · rw [if_neg (by omega), if_neg h, gA i hi]
  · rw [if_neg (by omega), List.getElem?_eq_none (by omega), List.getElem?_eq_none (by omega)]
theorem Sx.mat_lt (s : Sf) (l : List Int) {i : Nat} (h : i < 16) : Sx.mat s l i = if i < l.length then l.getD i 0 else s i := by
  unfold Sx.mat
  by_cases h2 : i < l.length
  · rw [if_pos ⟨h, h2⟩, if_pos h2]
  · rw [if_neg (by omega), if_neg h2]
theorem Sx.mat_cells (s : Sf) (p q : Bool) (l : List Int) : setsAt ([.int .i64 (s 0), .int .i64 (s 1), .int .i64 (s 2), .int .i64 (s 3), .int .i64 (s 4), .int .i64 (s 5), .int .i64 (s 6), .int .i64 (s 7), .int .i64 (s 8), .int .i64 (s 9), .int .i64 (s 10), .int .i64 (s 11), .int .i64 (s 12), .int .i64 (s 13), .int .i64 (s 14), .int .i64 (s 15), .int .i64 (s 16), .int .i64 (s 17), .int .i64 (s 18), .int .i64 (s 19), .int .i64 (s 20), .int .i64 (s 21), .int .i64 (s 22), .int .i64 (s 23), .int .i64 (s 24), .bool p, .int .i64 (s 26), .int .i64 (s 27), .int .i64 (s 28), .int .i64 (s 29), .int .i64 (s 30), .int .i64 (s 31), .int .i64 (s 32), .int .i64 (s 33), .int .i64 (s 34), .int .i64 (s 35), .int .i64 (s 36), .int .i64 (s 37), .int .i64 (s 38), .int .i64 (s 39), .bool q]) 0 ((iv l).take 16) = [.int .i64 ((Sx.mat s l) 0), .int .i64 ((Sx.mat s l) 1), .int .i64 ((Sx.mat s l) 2), .int .i64 ((Sx.mat s l) 3), .int .i64 ((Sx.mat s l) 4), .int .i64 ((Sx.mat s l) 5), .int .i64 ((Sx.mat s l) 6), .int .i64 ((Sx.mat s l) 7), .int .i64 ((Sx.mat s l) 8), .int .i64 ((Sx.mat s l) 9), .int .i64 ((Sx.mat s l) 10), .int .i64 ((Sx.mat s l) 11), .int .i64 ((Sx.mat s l) 12), .int .i64 ((Sx.mat s l) 13), .int .i64 ((Sx.mat s l) 14), .int .i64 ((Sx.mat s l) 15), .int .i64 ((Sx.mat s l) 16), .int .i64 ((Sx.mat s l) 17), .int .i64 ((Sx.mat s l) 18), .int .i64 ((Sx.mat s l) 19), .int .i64 ((Sx.mat s l) 20), .int .i64 ((Sx.mat s l) 21), .int .i64 ((Sx.mat s l) 22), .int .i64 ((Sx.mat s l) 23), .int .i64 ((Sx.mat s l) 24), .bool p, .int .i64 ((Sx.mat s l) 26), .int .i64 ((Sx.mat s l) 27), .int .i64 ((Sx.mat s l) 28), .int .i64 ((Sx.mat s l) 29), .int .i64 ((Sx.mat s l) 30), .int .i64 ((Sx.mat s l) 31), .int .i64 ((Sx.mat s l) 32), .int .i64 ((Sx.mat s l) 33), .int .i64 ((Sx.mat s l) 34), .int .i64 ((Sx.mat s l) 35), .int .i64 ((Sx.mat s l) 36), .int .i64 ((Sx.mat s l) 37), .int .i64 ((Sx.mat s l) 38), .int .i64 ((Sx.mat s l) 39), .bool q] := by
  have e : ([.int .i64 (s 0), .int .i64 (s 1), .int .i64 (s 2), .int .i64 (s 3), .int .i64 (s 4), .int .i64 (s 5), .int .i64 (s 6), .int .i64 (s 7), .int .i64 (s 8), .int .i64 (s 9), .int .i64 (s 10), .int .i64 (s 11), .int .i64 (s 12), .int .i64 (s 13), .int .i64 (s 14), .int .i64 (s 15), .int .i64 (s 16), .int .i64 (s 17), .int .i64 (s 18), .int .i64 (s 19), .int .i64 (s 20), .int .i64 (s 21), .int .i64 (s 22), .int .i64 (s 23), .int .i64 (s 24), .bool p, .int .i64 (s 26), .int .i64 (s 27), .int .i64 (s 28), .int .i64 (s 29), .int .i64 (s 30), .int .i64 (s 31), .int .i64 (s 32), .int .i64 (s 33), .int .i64 (s 34), .int .i64 (s 35), .int .i64 (s 36), .int .i64 (s 37), .int .i64 (s 38), .int .i64 (s 39), .bool q] : List Value) = [.int .i64 (s 0), .int .i64 (s 1), .int .i64 (s 2), .int .i64 (s 3), .int .i64 (s 4), .int .i64 (s 5), .int .i64 (s 6), .int .i64 (s 7), .int .i64 (s 8), .int .i64 (s 9), .int .i64 (s 10), .int .i64 (s 11), .int .i64 (s 12), .int .i64 (s 13), .int .i64 (s 14), .int .i64 (s 15)] ++ [.int .i64 (s 16), .int .i64 (s 17), .int .i64 (s 18), .int .i64 (s 19), .int .i64 (s 20), .int .i64 (s 21), .int .i64 (s 22), .int .i64 (s 23), .int .i64 (s 24), .bool p, .int .i64 (s 26), .int .i64 (s 27), .int .i64 (s 28), .int .i64 (s 29), .int .i64 (s 30), .int .i64 (s 31), .int .i64 (s 32), .int .i64 (s 33), .int .i64 (s 34), .int .i64 (s 35), .int .i64 (s 36), .int .i64 (s 37), .int .i64 (s 38), .int .i64 (s 39), .bool q] := rfl
  rw [e, setsAt_append _ _ _ _ (by rw [List.length_take, iv_len]; simp; omega), setsAt_nums 16 s l ([.int .i64 (s 0), .int .i64 (s 1), .int .i64 (s 2), .int .i64 (s 3), .int .i64 (s 4), .int .i64 (s 5), .int .i64 (s 6), .int .i64 (s 7), .int .i64 (s 8), .int .i64 (s 9), .int .i64 (s 10), .int .i64 (s 11), .int .i64 (s 12), .int .i64 (s 13), .int .i64 (s 14), .int .i64 (s 15)]) ([.int .i64 ((Sx.mat s l) 0), .int .i64 ((Sx.mat s l) 1), .int .i64 ((Sx.mat s l) 2), .int .i64 ((Sx.mat s l) 3), .int .i64 ((Sx.mat s l) 4), .int .i64 ((Sx.mat s l) 5), .int .i64 ((Sx.mat s l) 6), .int .i64 ((Sx.mat s l) 7), .int .i64 ((Sx.mat s l) 8), .int .i64 ((Sx.mat s l) 9), .int .i64 ((Sx.mat s l) 10), .int .i64 ((Sx.mat s l) 11), .int .i64 ((Sx.mat s l) 12), .int .i64 ((Sx.mat s l) 13), .int .i64 ((Sx.mat s l) 14), .int .i64 ((Sx.mat s l) 15)]) rfl rfl (fun i hi => get16 s i hi) (fun i hi => by rw [← Sx.mat_lt s l hi]; exact get16 _ i hi)]
  rfl
theorem get7 (m : Sf) (k : Nat) (hk : k < 7) : ([.int .i64 (m 0), .int .i64 (m 1), .int .i64 (m 2), .int .i64 (m 3), .int .i64 (m 4), .int .i64 (m 5), .int .i64 (m 6)] : List Value)[k]? = some (.int .i64 (m k)) := by
  rcases k with _ | _ | _ | _ | _ | _ | _ | k
  all_goals first | omega | rfl
theorem Sx.num_cells (l : List Int) : setsAt [.int .i64 0, .int .i64 0, .int .i64 0, .int .i64 0, .int .i64 0, .int .i64 0, .int .i64 0] 0 ((iv l).take 7) = [.int .i64 ((Sx.num l) 0), .int .i64 ((Sx.num l) 1), .int .i64 ((Sx.num l) 2), .int .i64 ((Sx.num l) 3), .int .i64 ((Sx.num l) 4), .int .i64 ((Sx.num l) 5), .int .i64 ((Sx.num l) 6)] := by
  refine setsAt_nums 7 (fun _ => 0) l _ _ rfl rfl (fun i hi => get7 (fun _ => 0) i hi) (fun i hi => ?_)
  rw [get7 _ i hi]
  unfold Sx.num
  by_cases h : i < l.length
  · rw [if_pos h]
  · rw [if_neg h, List.getD_eq_getElem?_getD, List.getElem?_eq_none (by omega)]; rfl
theorem Sx.eMat_fst (s : Sf) (l : List Int) : Sx.eMat l = Sx.fst [Sx.len l.length 16, Sx.cell (Sx.mat s l)] := by
  unfold Sx.eMat Sx.len
  by_cases h : l.length = 16
  · rw [if_pos h, if_pos (by omega), Sx.cell_congr (s := Sx.mat s l) (t := Sx.num l) (fun j hj => by rw [Sx.mat_lt s l hj, if_pos (by omega)]; rfl)]
    unfold Sx.fst
    simp only [if_true, Sx.fst]
    split <;> simp_all
  · rw [if_neg h, if_neg (by omega)]; rfl
theorem Sx.eSten_fst (l : List Int) : Sx.eSten l = Sx.fst [Sx.len l.length 7, Sn.chk (Sx.num l 0) (Sx.num l 1) (Sx.num l 2) (Sx.num l 3) (Sx.num l 4) (Sx.num l 5) (Sx.num l 6)] := by
  unfold Sx.eSten Sx.len
  by_cases h : l.length = 7
  · rw [if_pos h, if_pos (by omega)]
    simp only [Sx.fst, if_true]
    split <;> simp_all
  · rw [if_neg h, if_neg (by omega)]; rfl
/-- the code's lengthOf, of a slice by its numbers -/
theorem lengthOf_sl {w0 : World} {v : Value} {l : List Int} (m : Int) (hS : Sl w0 v (iv l)) (w : World) :
    Calls Try.prog 60 #[v, .int .i64 m] w fun e w' => e = .returned (.int .i64 (Sx.len l.length m)) ∧ w = w' := by
  obtain ⟨a, c, rfl, _, _⟩ := hS
  rw [iv_len]
  exact lengthOf_any a l.length c m w
end Go.Proofs.Ytoejknkjfnnffaa
