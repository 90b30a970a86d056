/-
  Plain facts on decimal digits: how a number's text grows by a digit, and that reading it gives the number back.
-/
import Derived.Lib.AtoiAll
import Derived.Lib.AtoiAllCases
import Derived.Lib.ItoaMem
import Derived.Lib.ItoaLen
namespace Go.Proofs.YthpejdbfececkaaDoor
namespace Nm
open Go.Lib

theorem dec_big {u : Nat} (h : ¬ u < 10) : decDigits u = decDigits (u / 10) ++ [UInt8.ofNat (48 + u % 10)] := by rw [decDigits, dif_neg h]
theorem dec_small {u : Nat} (h : u < 10) : decDigits u = [UInt8.ofNat (48 + u)] := by rw [decDigits, dif_pos h]

theorem itoa_neg_small (n : Int) (h0 : n < 0) (h1 : -10 < n) : itoa n = [45, UInt8.ofNat (48 - n).toNat] := by
  obtain ⟨u, rfl⟩ : ∃ u : Nat, n = -(u : Int) := ⟨n.natAbs, by omega⟩
  rw [itoa_neg u (by omega), dec_small (by omega)]
  have e : (48 - -(u : Int)).toNat = 48 + u := by omega
  rw [e]
theorem itoa_neg_big (n : Int) (h : n ≤ -10) : itoa n = itoa (n.tdiv 10) ++ [UInt8.ofNat (48 - n.tmod 10).toNat] := by
  obtain ⟨u, rfl⟩ : ∃ u : Nat, n = -(u : Int) := ⟨n.natAbs, by omega⟩
  have e1 : (-(u : Int)).tdiv 10 = -((u / 10 : Nat) : Int) := by rw [Int.neg_tdiv, Int.tdiv_eq_ediv_of_nonneg (by omega)]; omega
  have e2 : (-(u : Int)).tmod 10 = -((u % 10 : Nat) : Int) := by rw [Int.neg_tmod, Int.tmod_eq_emod_of_nonneg (by omega)]; omega
  have e : (48 - -((u % 10 : Nat) : Int)).toNat = 48 + u % 10 := by omega
  rw [e1, e2, itoa_neg u (by omega), itoa_neg (u / 10) (by omega), dec_big (by omega), e]
  rfl
theorem itoa_small (n : Int) (h0 : 0 ≤ n) (h1 : n < 10) : itoa n = [UInt8.ofNat (48 + n).toNat] := by
  obtain ⟨u, rfl⟩ : ∃ u : Nat, n = u := ⟨n.toNat, by omega⟩
  have e : (48 + (u : Int)).toNat = 48 + u := by omega
  rw [itoa_nonneg, dec_small (by omega), e]
theorem itoa_big (n : Int) (h : 10 ≤ n) : itoa n = itoa (n / 10) ++ [UInt8.ofNat (48 + n % 10).toNat] := by
  obtain ⟨u, rfl⟩ : ∃ u : Nat, n = u := ⟨n.toNat, by omega⟩
  have e1 : (u : Int) / 10 = ((u / 10 : Nat) : Int) := by omega
  have e2 : (u : Int) % 10 = ((u % 10 : Nat) : Int) := by omega
  have e : (48 + ((u % 10 : Nat) : Int)).toNat = 48 + u % 10 := by omega
  rw [e1, e2, itoa_nonneg, itoa_nonneg, dec_big (by omega), e]

theorem tdiv_bd (n : Int) (h : n ≤ -10) : n.tdiv 10 = -(-n / 10) ∧ n.tmod 10 = -(-n % 10) := by
  obtain ⟨u, rfl⟩ : ∃ u : Nat, n = -(u : Int) := ⟨n.natAbs, by omega⟩
  rw [Int.neg_tdiv, Int.neg_tmod, Int.tdiv_eq_ediv_of_nonneg (by omega), Int.tmod_eq_emod_of_nonneg (by omega), Int.neg_neg]
  exact ⟨rfl, rfl⟩

/-- a byte is a decimal digit -/
def isD (c : UInt8) : Bool := decide (48 ≤ c.toNat) && decide (c.toNat ≤ 57)
theorem isD_iff (c : UInt8) : isD c = true ↔ 48 ≤ c.toNat ∧ c.toNat ≤ 57 := by unfold isD; simp
/-- the digits' number, from a on -/
def valF (a : Nat) (l : List UInt8) : Nat := l.foldl (fun a c => a * 10 + (c.toNat - 48)) a
theorem valF_snoc (a : Nat) (l : List UInt8) (c : UInt8) : valF a (l ++ [c]) = valF a l * 10 + (c.toNat - 48) := by unfold valF; rw [List.foldl_append]; rfl
theorem valF_ge : ∀ (l : List UInt8) (a : Nat), a ≤ valF a l
  | [], a => Nat.le_refl _
  | c :: r, a => by
    have := valF_ge r (a * 10 + (c.toNat - 48))
    have e : valF a (c :: r) = valF (a * 10 + (c.toNat - 48)) r := rfl
    omega

theorem dig_toNat (d : Nat) (h : d < 10) : (UInt8.ofNat (48 + d)).toNat = 48 + d := by
  rw [UInt8.toNat_ofNat']; omega
theorem dec_all (u : Nat) : ∀ c ∈ decDigits u, isD c = true := by
  induction u using Nat.strongRecOn with
  | _ u ih =>
    by_cases h : u < 10
    · rw [dec_small h]
      intro c hc
      rw [List.mem_singleton] at hc
      subst hc
      rw [isD_iff, dig_toNat _ h]
      omega
    · rw [dec_big h]
      intro c hc
      rw [List.mem_append, List.mem_singleton] at hc
      rcases hc with hc | rfl
      · exact ih _ (by omega) c hc
      · rw [isD_iff, dig_toNat _ (by omega)]
        omega
theorem dec_val (u : Nat) : valF 0 (decDigits u) = u := by
  induction u using Nat.strongRecOn with
  | _ u ih =>
    by_cases h : u < 10
    · rw [dec_small h]
      have e : valF 0 [UInt8.ofNat (48 + u)] = 0 * 10 + ((UInt8.ofNat (48 + u)).toNat - 48) := rfl
      rw [e, dig_toNat _ h]
      omega
    · rw [dec_big h, valF_snoc, ih _ (by omega), dig_toNat _ (by omega)]
      omega
theorem dec_ne (u : Nat) : decDigits u ≠ [] := by
  intro h
  have := decDigits_length u
  have := nDigits_pos u
  rw [h] at *
  simp at *
  omega
theorem nDigits_le19 (u : Nat) (h : u ≤ 9223372036854775808) : nDigits u ≤ 19 := by
  by_cases h1 : u < 10
  · rw [nDigits_small h1]; omega
  · rcases Nat.lt_or_ge u (10 ^ 18) with h2 | h2
    · have hh := lt_pow_nDigits u
      apply Nat.le_of_not_lt
      intro h3
      have key : ∀ (k u : Nat), u < 10 ^ k → 1 ≤ k → nDigits u ≤ k := by
        intro k
        induction k with
        | zero => intro u _ h; omega
        | succ k ih =>
          intro u hu _
          by_cases h1 : u < 10
          · rw [nDigits_small h1]; omega
          · rw [nDigits_big h1]
            rcases Nat.eq_zero_or_pos k with rfl | hk
            · simp at hu; omega
            · have := ih (u / 10) (by rw [Nat.pow_succ] at hu; omega) hk
              omega
      have := key 18 u h2 (by omega)
      omega
    · rw [nDigits_unique 18 u h2 (by omega)]
      omega
theorem itoa_len (n : Int) (h0 : -9223372036854775808 ≤ n) (h1 : n ≤ 9223372036854775807) : 1 ≤ (itoa n).length ∧ (itoa n).length ≤ 20 := by
  by_cases hneg : n < 0
  · obtain ⟨u, rfl⟩ : ∃ u : Nat, n = -(u : Int) := ⟨n.natAbs, by omega⟩
    rw [itoa_neg u (by omega), List.length_cons, decDigits_length]
    have := nDigits_le19 u (by omega)
    omega
  · obtain ⟨u, rfl⟩ : ∃ u : Nat, n = u := ⟨n.toNat, by omega⟩
    rw [itoa_nonneg, decDigits_length]
    have := nDigits_le19 u (by omega)
    have := nDigits_pos u
    omega

theorem parse_digits : ∀ (l : List UInt8) (a : Nat), (∀ c ∈ l, isD c = true) → valF a l < 18446744073709551616 → parseUint10 a l = .ok (valF a l)
  | [], a, _, _ => rfl
  | c :: r, a, h, hv => by
    have hc := (isD_iff c).1 (h c (List.mem_cons_self ..))
    have e : valF a (c :: r) = valF (a * 10 + (c.toNat - 48)) r := rfl
    have hg := valF_ge r (a * 10 + (c.toNat - 48))
    rw [e] at hv ⊢
    rw [parseUint10, if_pos hc, if_neg (by omega), if_neg (by omega)]
    exact parse_digits r _ (fun x hx => h x (List.mem_cons_of_mem _ hx)) hv
theorem mag_dec (u : Nat) (h : u < 18446744073709551616) : parseMag (decDigits u) = .ok u := by
  unfold parseMag
  rw [if_neg (dec_ne u), parse_digits _ _ (dec_all u) (by rw [dec_val]; exact h), dec_val]

/-- what is told is read -/
theorem atoi_itoa (n : Int) (h0 : -9223372036854775808 ≤ n) (h1 : n ≤ 9223372036854775807) : atoiAll (itoa n) = .ok n := by
  by_cases hneg : n < 0
  · obtain ⟨u, rfl⟩ : ∃ u : Nat, n = -(u : Int) := ⟨n.natAbs, by omega⟩
    rw [itoa_neg u (by omega)]
    have e45 : (45 : UInt8).toNat = 45 := rfl
    simp only [atoiAll, e45, or_true, if_true, mag_dec u (by omega), not_true_eq_false, false_and, if_false, true_and]
    rw [if_neg (by omega)]
  · obtain ⟨u, rfl⟩ : ∃ u : Nat, n = u := ⟨n.toNat, by omega⟩
    rw [itoa_nonneg]
    have hm := mag_dec u (by omega)
    have ha := dec_all u
    have hn := dec_ne u
    cases hd : decDigits u with
    | nil => exact absurd hd hn
    | cons c r =>
      rw [hd] at hm ha
      have hc := (isD_iff c).1 (ha c (List.mem_cons_self ..))
      have e1 : ¬ c.toNat = 43 := by omega
      have e2 : ¬ c.toNat = 45 := by omega
      simp only [atoiAll, e1, e2, or_self, if_false, not_false_eq_true, true_and, false_and]
      rw [hm]
      simp only
      rw [if_neg (by omega)]

/-- the number whose text this is -/
def undec (l : List UInt8) : Option Int :=
  match atoiAll l with
  | .ok v => if itoa v = l then some v else none
  | _ => none
theorem undec_iff (l : List UInt8) (v : Int) : undec l = some v ↔ l = itoa v ∧ -9223372036854775808 ≤ v ∧ v ≤ 9223372036854775807 := by
  constructor
  · intro h
    unfold undec at h
    rcases ha : atoiAll l with x | _ | _
    · rw [ha] at h
      simp only at h
      split at h
      · rename_i hx
        injection h with h
        subst h
        have := atoiAll_bounds ha
        exact ⟨hx.symm, by omega, by omega⟩
      · cases h
    · rw [ha] at h; cases h
    · rw [ha] at h; cases h
  · rintro ⟨rfl, h0, h1⟩
    unfold undec
    rw [atoi_itoa v h0 h1]
    simp
theorem undec_none (l : List UInt8) (h : ∀ v, l = itoa v → -9223372036854775808 ≤ v → v ≤ 9223372036854775807 → False) : undec l = none := by
  cases hu : undec l with
  | none => rfl
  | some v => obtain ⟨a, b, c⟩ := (undec_iff l v).1 hu; exact (h v a b c).elim

/-- the sign's place -/
def sgn (l : List UInt8) : Bool := l.head? == some 45
theorem sgn_neg (v : Int) (h : v < 0) : sgn (itoa v) = true ∧ (itoa v).drop 1 = decDigits v.natAbs := by
  unfold itoa
  rw [if_pos h]
  exact ⟨rfl, rfl⟩
theorem sgn_pos (v : Int) (h : 0 ≤ v) : sgn (itoa v) = false := by
  unfold itoa
  rw [if_neg (by omega)]
  have ha := dec_all v.toNat
  have hn := dec_ne v.toNat
  cases hd : decDigits v.toNat with
  | nil => exact absurd hd hn
  | cons c r =>
    rw [hd] at ha
    have hc := (isD_iff c).1 (ha c (List.mem_cons_self ..))
    unfold sgn
    have : c ≠ 45 := by intro e; subst e; have e45 : (45 : UInt8).toNat = 45 := rfl; omega
    simp [this]
/-- what stands behind the sign -/
def mag (l : List UInt8) : List UInt8 := l.drop (if sgn l then 1 else 0)
theorem mag_itoa (v : Int) : mag (itoa v) = decDigits v.natAbs := by
  unfold mag
  by_cases h : v < 0
  · rw [(sgn_neg v h).1, if_pos rfl, (sgn_neg v h).2]
  · rw [sgn_pos v (by omega)]
    unfold itoa
    rw [if_neg h]
    have : v.toNat = v.natAbs := by omega
    rw [this]
    rfl
end Nm
end Go.Proofs.YthpejdbfececkaaDoor
