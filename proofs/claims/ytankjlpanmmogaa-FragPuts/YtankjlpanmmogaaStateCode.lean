/-
  Contracts of layer 18 (state): the errors of single parts; the first error of several.
-/
import Derived.Test.YtankjlpanmmogaaJViewIs
import Derived.Test.YtankjlpanmmogaaJMem5
import Derived.BigGuard
namespace Go.Proofs.Ytankjlpanmmogaa
set_option maxRecDepth 100000
open Go.RowKit

theorem ty_state : Ty 37 41 := ⟨by kernel_rfl, _, Try.underlying37, rfl⟩
theorem ty_mat : Ty 29 16 := ⟨by kernel_rfl, _, Try.underlying29, rfl⟩
theorem swithin_any (lo hi n : Int) (w : World) :
    Calls Try.prog 49 #[.int .i64 lo, .int .i64 hi, .int .i64 n] w fun e w' => e = .returned (.bool (Sx.wi lo hi n)) ∧ w = w' := by
  cases h1 : decide (lo ≤ n)
  all_goals
    go_enter Try.func49, Try.ntmps49
    go_wp2_with go_big_skip
    go_ret
    exact ⟨ret_bool (by simp [Sx.wi, h1]), rfl⟩
def Sx.un (b : Bool) (n : Int) : Int := if b then 0 else n
theorem unless_any (b : Bool) (n : Int) (w : World) :
    Calls Try.prog 65 #[.bool b, .int .i64 n] w fun e w' => e = .returned (.int .i64 (Sx.un b n)) ∧ w = w' := by
  cases b
  all_goals
    go_enter Try.func65, Try.ntmps65
    go_wp2
    go_ret
    exact ⟨rfl, rfl⟩
theorem cullOf_any (n : Int) (w : World) :
    Calls Try.prog 41 #[.int .i64 n] w fun e w' => e = .returned (.int .i64 (Sx.kind n)) ∧ w = w' := by
  have W1 := fun W => swithin_any 0 2 n W
  have U1 := fun W => unless_any (Sx.wi 0 2 n) 9 W
  have HR : Hid (Sx.kind n = Sx.un (Sx.wi 0 2 n) 9) := Lib.hid rfl
  generalize Sx.kind n = r at *
  generalize Sx.wi 0 2 n = b at *
  go_enter Try.func41, Try.ntmps41
  go_wp2_with (first | (go_at_call 49; (with_reducible refine (W1 _).mono ?_); rintro e w' ⟨rfl, rfl⟩) | (go_at_call 65; (with_reducible refine (U1 _).mono ?_); rintro e w' ⟨rfl, rfl⟩))
  go_ret
  exact ⟨ret_int HR.out.symm, rfl⟩
theorem wrapOf_any (n : Int) (w : World) :
    Calls Try.prog 43 #[.int .i64 n] w fun e w' => e = .returned (.int .i64 (Sx.kind n)) ∧ w = w' := by
  have W1 := fun W => swithin_any 0 2 n W
  have U1 := fun W => unless_any (Sx.wi 0 2 n) 9 W
  have HR : Hid (Sx.kind n = Sx.un (Sx.wi 0 2 n) 9) := Lib.hid rfl
  generalize Sx.kind n = r at *
  generalize Sx.wi 0 2 n = b at *
  go_enter Try.func43, Try.ntmps43
  go_wp2_with (first | (go_at_call 49; (with_reducible refine (W1 _).mono ?_); rintro e w' ⟨rfl, rfl⟩) | (go_at_call 65; (with_reducible refine (U1 _).mono ?_); rintro e w' ⟨rfl, rfl⟩))
  go_ret
  exact ⟨ret_int HR.out.symm, rfl⟩
theorem handleOf_any (n : Int) (w : World) :
    Calls Try.prog 42 #[.int .i64 n] w fun e w' => e = .returned (.int .i64 (Sx.hand n)) ∧ w = w' := by
  have W1 := fun W => swithin_any 0 64 n W
  have U1 := fun W => unless_any (Sx.wi 0 64 n) 7 W
  have HR : Hid (Sx.hand n = Sx.un (Sx.wi 0 64 n) 7) := Lib.hid rfl
  generalize Sx.hand n = r at *
  generalize Sx.wi 0 64 n = b at *
  go_enter Try.func42, Try.ntmps42
  go_wp2_with (first | (go_at_call 49; (with_reducible refine (W1 _).mono ?_); rintro e w' ⟨rfl, rfl⟩) | (go_at_call 65; (with_reducible refine (U1 _).mono ?_); rintro e w' ⟨rfl, rfl⟩))
  go_ret
  exact ⟨ret_int HR.out.symm, rfl⟩
theorem testOf_any (k : Int) (w : World) :
    Calls Try.prog 38 #[.int .i64 k] w fun e w' => e = .returned (.int .i64 (Sx.test k)) ∧ w = w' := by
  unfold Sx.test
  cases h : Dp.is k
  · have P1 := fun W => passes_no k 0 0 W h
    go_enter Try.func38, Try.ntmps38
    go_wp2_with (go_at_call 60; (with_reducible refine (P1 _).mono ?_); rintro e w' ⟨rfl, rfl⟩)
    go_ret
    exact ⟨rfl, rfl⟩
  · have P1 := fun W => passes_yes k 0 0 W h
    generalize Dp.pass k 0 0 = b at *
    go_enter Try.func38, Try.ntmps38
    go_wp2_with (go_at_call 60; (with_reducible refine (P1 _).mono ?_); rintro e w' ⟨rfl, rfl⟩)
    go_ret
    exact ⟨rfl, rfl⟩
def msrS (n : Nat) (i : Value) : Nat := n - (intOf i).toNat
theorem Sx.fst_at {l : List Int} {k : Nat} (h : k < l.length) : Sx.fst (l.drop k) = if l[k] = 0 then Sx.fst (l.drop (k + 1)) else l[k] := by
  rw [List.drop_eq_getElem_cons h]; rfl
set_option maxHeartbeats 1000000 in
/-- the first error of a row of them -/
theorem first_any (l : List Int) (n c b : Nat) (w : World) (hn : n = l.length) (hm : n ≤ 100) (hR : ∀ j v, (iv l)[j]? = some v → w.cell? ⟨b, j, none⟩ = some v) :
    Calls Try.prog 35 #[.slice (some ⟨b, 0, none⟩) n c] w fun e w' => e = .returned (.int .i64 (Sx.fst l)) ∧ w = w' := by
  have HR := Lib.hid hR
  have HN := Lib.hid hn
  clear hR hn
  go_enter Try.func35, Try.ntmps35
  go_wp2
  go_loop [7] (fun i => ∃ k : Nat, k ≤ n ∧ i = .int .i64 k ∧ Hid (Sx.fst l = Sx.fst (l.drop k))) (fun i => msrS n i)
  case atStart => exact ⟨0, Nat.zero_le _, rfl, Lib.hid rfl⟩
  case round =>
    obtain ⟨k, hk, rfl, HA⟩ := hrel
    by_cases hlt : k < n
    · have hl : k < l.length := by rw [← HN.out]; exact hlt
      obtain ⟨x, hx⟩ : ∃ x, x = l[k] := ⟨_, rfl⟩
      have hcell : w.cell? ⟨b, k, none⟩ = some (.int .i64 x) := by rw [hx]; exact HR.out k _ (iv_get hl)
      have HX : Hid (Sx.fst l = if x = 0 then Sx.fst (l.drop (k + 1)) else x) := Lib.hid (by rw [HA.out, Sx.fst_at hl, hx])
      clear hx hl HA
      by_cases h0 : x = 0
      · subst h0
        have HZ : Hid (Sx.fst l = Sx.fst (l.drop (k + 1))) := Lib.hid (by rw [HX.out, if_pos rfl])
        clear HX
        go_wp2
        go_round
        case rel => exact ⟨k + 1, by omega, by go_num, HZ⟩
        case measure => simp [msrS, intOf]; omega
      · have HZ : Hid (Sx.fst l = x) := Lib.hid (by rw [HX.out, if_neg h0])
        have hx0 : (x == 0) = false := by simpa using h0
        clear HX
        go_wp2
        go_ret
        exact ⟨ret_int HZ.out.symm, rfl⟩
    · have HZ : Hid (Sx.fst l = 0) := Lib.hid (by rw [HA.out, List.drop_eq_nil_of_le (by rw [← HN.out]; omega)]; rfl)
      go_wp2
      go_ret
      exact ⟨ret_int HZ.out.symm, rfl⟩
theorem ix16 (m : Sf) (k : Nat) (hk : k < 16) (w : World) : (Instr.index 29 (.agg #[.int .i64 (m 0), .int .i64 (m 1), .int .i64 (m 2), .int .i64 (m 3), .int .i64 (m 4), .int .i64 (m 5), .int .i64 (m 6), .int .i64 (m 7), .int .i64 (m 8), .int .i64 (m 9), .int .i64 (m 10), .int .i64 (m 11), .int .i64 (m 12), .int .i64 (m 13), .int .i64 (m 14), .int .i64 (m 15)]) (.int .i64 k)).run Try.prog w = .ok (.int .i64 (m k)) w := by
  rcases k with _ | _ | _ | _ | _ | _ | _ | _ | _ | _ | _ | _ | _ | _ | _ | _ | k
  all_goals first | omega | kernel_rfl
theorem get16 (m : Sf) (k : Nat) (hk : k < 16) : ([.int .i64 (m 0), .int .i64 (m 1), .int .i64 (m 2), .int .i64 (m 3), .int .i64 (m 4), .int .i64 (m 5), .int .i64 (m 6), .int .i64 (m 7), .int .i64 (m 8), .int .i64 (m 9), .int .i64 (m 10), .int .i64 (m 11), .int .i64 (m 12), .int .i64 (m 13), .int .i64 (m 14), .int .i64 (m 15)] : List Value)[k]? = some (.int .i64 (m k)) := by
  rcases k with _ | _ | _ | _ | _ | _ | _ | _ | _ | _ | _ | _ | _ | _ | _ | _ | k
  all_goals first | omega | rfl
theorem set16 (m : Sf) (k : Nat) (z : Int) : ([.int .i64 (m 0), .int .i64 (m 1), .int .i64 (m 2), .int .i64 (m 3), .int .i64 (m 4), .int .i64 (m 5), .int .i64 (m 6), .int .i64 (m 7), .int .i64 (m 8), .int .i64 (m 9), .int .i64 (m 10), .int .i64 (m 11), .int .i64 (m 12), .int .i64 (m 13), .int .i64 (m 14), .int .i64 (m 15)] : List Value).set k (.int .i64 z) = [.int .i64 ((fun i => if i = k then z else m i) 0), .int .i64 ((fun i => if i = k then z else m i) 1), .int .i64 ((fun i => if i = k then z else m i) 2), .int .i64 ((fun i => if i = k then z else m i) 3), .int .i64 ((fun i => if i = k then z else m i) 4), .int .i64 ((fun i => if i = k then z else m i) 5), .int .i64 ((fun i => if i = k then z else m i) 6), .int .i64 ((fun i => if i = k then z else m i) 7), .int .i64 ((fun i => if i = k then z else m i) 8), .int .i64 ((fun i => if i = k then z else m i) 9), .int .i64 ((fun i => if i = k then z else m i) 10), .int .i64 ((fun i => if i = k then z else m i) 11), .int .i64 ((fun i => if i = k then z else m i) 12), .int .i64 ((fun i => if i = k then z else m i) 13), .int .i64 ((fun i => if i = k then z else m i) 14), .int .i64 ((fun i => if i = k then z else m i) 15)] := by
  rcases k with _ | _ | _ | _ | _ | _ | _ | _ | _ | _ | _ | _ | _ | _ | _ | _ | k
  all_goals first | rfl | (simp; omega)
theorem Sx.wi_no {m : Sf} {k : Nat} (hk : k < 16) (h : Sx.wi (-16777216) 16777216 (m k) = false) : Vc.wi 16777216 m 16 = false :=
  Vc.wi_false hk fun h2 => by rw [Sx.wi_iff.2 h2] at h; cases h
set_option maxHeartbeats 1000000 in
theorem cellsOf_any (m : Sf) (w : World) :
    Calls Try.prog 36 #[.agg #[.int .i64 (m 0), .int .i64 (m 1), .int .i64 (m 2), .int .i64 (m 3), .int .i64 (m 4), .int .i64 (m 5), .int .i64 (m 6), .int .i64 (m 7), .int .i64 (m 8), .int .i64 (m 9), .int .i64 (m 10), .int .i64 (m 11), .int .i64 (m 12), .int .i64 (m 13), .int .i64 (m 14), .int .i64 (m 15)]] w fun e w' => e = .returned (.int .i64 (Sx.cell m)) ∧ Kp w.heap.size w w' := by
  have HO := Lib.hid ((Ow.refl w).newAt (w.heap.size) rfl (.int .i64 (m 0)) [.int .i64 (m 1), .int .i64 (m 2), .int .i64 (m 3), .int .i64 (m 4), .int .i64 (m 5), .int .i64 (m 6), .int .i64 (m 7), .int .i64 (m 8), .int .i64 (m 9), .int .i64 (m 10), .int .i64 (m 11), .int .i64 (m 12), .int .i64 (m 13), .int .i64 (m 14), .int .i64 (m 15)] 29)
  go_enter Try.func36, Try.ntmps36
  go_wp2_with ((with_reducible show wpList _ _ _ ({ dst := _, op := Op.load 29 (Operand.tmp 1), type := _, pos := _, after := _, guard := _ } :: _) _ _); refine wpList_ldr ty_mat rfl _ rfl _ rfl _ rfl (HO.out.at 0 rfl) ?_)
  go_loop [6] (fun i => ∃ k : Nat, k ≤ 16 ∧ i = .int .i64 k ∧ Hid (∀ j, j < k → Sx.wi (-16777216) 16777216 (m j) = true)) (fun i => msrS 16 i)
  case atStart => exact ⟨0, by omega, rfl, Lib.hid fun j hj => by omega⟩
  case round =>
    obtain ⟨k, hk, rfl, HA⟩ := hrel
    by_cases hlt : k < 16
    · have hi := ix16 m k hlt
      have W1 := fun W => swithin_any (-16777216) 16777216 (m k) W
      cases h1 : Sx.wi (-16777216) 16777216 (m k)
      · have HC : Hid (Sx.cell m = 11) := Lib.hid (by unfold Sx.cell; rw [Sx.wi_no hlt h1]; rfl)
        rw [h1] at W1
        clear h1
        go_wp2_with (go_at_call 49; (with_reducible refine (W1 _).mono ?_); rintro e w' ⟨rfl, rfl⟩)
        go_ret
        exact ⟨ret_int HC.out.symm, HO.out.k⟩
      · rw [h1] at W1
        have HB : Hid (∀ j, j < k + 1 → Sx.wi (-16777216) 16777216 (m j) = true) := Lib.hid fun j hj => by
          by_cases e : j = k
          · subst e; exact h1
          · exact HA.out j (by omega)
        clear h1
        go_wp2_with (go_at_call 49; (with_reducible refine (W1 _).mono ?_); rintro e w' ⟨rfl, rfl⟩)
        go_round
        case rel => exact ⟨k + 1, by omega, by go_num, HB⟩
        case measure => simp [msrS, intOf]; omega
    · obtain rfl : k = 16 := by omega
      have HC : Hid (Sx.cell m = 0) := Lib.hid (by unfold Sx.cell; rw [Vc.wi_true fun j hj => Sx.wi_iff.1 (HA.out j hj)]; rfl)
      go_wp2
      go_ret
      exact ⟨ret_int HC.out.symm, HO.out.k⟩
theorem rwithin_any (n : Int) (w : World) :
    Calls Try.prog 48 #[.int .i64 n, .int .i64 16777216] w fun e w' => e = .returned (.bool (Sx.wi (-16777216) 16777216 n)) ∧ w = w' := by
  cases h1 : decide (-16777216 ≤ n)
  all_goals
    go_enter Try.func48, Try.ntmps48
    go_wp2_with go_big_skip
    go_ret
    exact ⟨ret_bool (by simp [Sx.wi, h1]), rfl⟩
set_option maxHeartbeats 1000000 in
theorem rmay_any (m : Sf) (w : World) :
    Calls Try.prog 19 #[.agg #[.int .i64 (m 0), .int .i64 (m 1), .int .i64 (m 2), .int .i64 (m 3), .int .i64 (m 4), .int .i64 (m 5), .int .i64 (m 6), .int .i64 (m 7), .int .i64 (m 8), .int .i64 (m 9), .int .i64 (m 10), .int .i64 (m 11), .int .i64 (m 12), .int .i64 (m 13), .int .i64 (m 14), .int .i64 (m 15)]] w fun e w' => e = .returned (.bool (Vc.wi 16777216 m 16)) ∧ Kp w.heap.size w w' := by
  have HO := Lib.hid ((Ow.refl w).newAt (w.heap.size) rfl (.int .i64 (m 0)) [.int .i64 (m 1), .int .i64 (m 2), .int .i64 (m 3), .int .i64 (m 4), .int .i64 (m 5), .int .i64 (m 6), .int .i64 (m 7), .int .i64 (m 8), .int .i64 (m 9), .int .i64 (m 10), .int .i64 (m 11), .int .i64 (m 12), .int .i64 (m 13), .int .i64 (m 14), .int .i64 (m 15)] 29)
  go_enter Try.func19, Try.ntmps19
  go_wp2
  go_loop [3] (fun i => ∃ k : Nat, k ≤ 16 ∧ i = .int .i64 k ∧ Hid (∀ j, j < k → Sx.wi (-16777216) 16777216 (m j) = true)) (fun i => msrS 16 i)
  case atStart => exact ⟨0, by omega, rfl, Lib.hid fun j hj => by omega⟩
  case round =>
    obtain ⟨k, hk, rfl, HA⟩ := hrel
    by_cases hlt : k < 16
    · have ck := (HO.out.at 0 rfl).cell k (get16 m k hlt)
      have W1 := fun W => rwithin_any (m k) W
      cases h1 : Sx.wi (-16777216) 16777216 (m k)
      · have HC : Hid (Vc.wi 16777216 m 16 = false) := Lib.hid (Sx.wi_no hlt h1)
        rw [h1] at W1
        clear h1
        go_wp2_with (go_at_call 48; (with_reducible refine (W1 _).mono ?_); rintro e w' ⟨rfl, rfl⟩)
        go_ret
        exact ⟨ret_bool HC.out.symm, HO.out.k⟩
      · rw [h1] at W1
        have HB : Hid (∀ j, j < k + 1 → Sx.wi (-16777216) 16777216 (m j) = true) := Lib.hid fun j hj => by
          by_cases e : j = k
          · subst e; exact h1
          · exact HA.out j (by omega)
        clear h1
        go_wp2_with (go_at_call 48; (with_reducible refine (W1 _).mono ?_); rintro e w' ⟨rfl, rfl⟩)
        go_round
        case rel => exact ⟨k + 1, by omega, by go_num, HB⟩
        case measure => simp [msrS, intOf]; omega
    · obtain rfl : k = 16 := by omega
      have HC : Hid (Vc.wi 16777216 m 16 = true) := Lib.hid (Vc.wi_true fun j hj => Sx.wi_iff.1 (HA.out j hj))
      go_wp2
      go_ret
      exact ⟨ret_bool HC.out.symm, HO.out.k⟩
end Go.Proofs.Ytankjlpanmmogaa
