/-
  Plain facts on how the document's answer reads decimal digits, modulo 2^64.
-/
import Derived.Test.YthpejdbfececkaaDoorNumPlain
namespace Go.Proofs.YthpejdbfececkaaDoor
namespace Nm
open Go.Lib

/-- where the digits begin -/
def fst (l : List UInt8) : Nat := if sgn l then 1 else 0
/-- behind k bytes N is read -/
structure Rd (l : List UInt8) (k : Nat) (N : Int) : Prop where
  val : N = ((valF 0 ((l.take k).drop (fst l)) % 18446744073709551616 : Nat) : Int)
  dig : ∀ j, fst l ≤ j → j < k → (h : j < l.length) → isD l[j] = true
theorem Rd.start (l : List UInt8) : Rd l 0 0 := ⟨by simp [valF], fun j _ h => by omega⟩
theorem Rd.bd {l : List UInt8} {k : Nat} {N : Int} (h : Rd l k N) : 0 ≤ N ∧ N ≤ 18446744073709551615 := by have := h.val; omega
theorem Rd.skip (l : List UInt8) {N : Int} (hs : sgn l = true) (h : Rd l 0 N) : Rd l 1 N := by
  have e : fst l = 1 := by unfold fst; rw [hs]; rfl
  refine ⟨?_, fun j h1 h2 => by omega⟩
  rw [h.val, e]
  congr 2
  rw [List.drop_eq_nil_of_le (by rw [List.length_take]; omega), List.drop_eq_nil_of_le (by rw [List.length_take]; omega)]
theorem Rd.step {l : List UInt8} {k : Nat} {N M : Int} (h : Rd l k N) (hk : k < l.length) (hf : fst l ≤ k) (hd : isD l[k] = true) (hM : M = (N * 10 + (l[k].toNat : Int) - 48) % 18446744073709551616) : Rd l (k + 1) M := by
  have hc := (isD_iff _).1 hd
  refine ⟨?_, fun j h1 h2 h3 => ?_⟩
  · rw [List.take_succ_eq_append_getElem hk, List.drop_append_of_le_length (by rw [List.length_take]; omega), valF_snoc, hM, h.val]
    omega
  · rcases Nat.lt_or_ge j k with h4 | h4
    · exact h.dig j h1 h4 h3
    · have : j = k := by omega
      subst this
      exact hd
theorem fst_itoa_neg (v : Int) (h : v < 0) : fst (itoa v) = 1 := by unfold fst; rw [(sgn_neg v h).1]; rfl
theorem fst_itoa_pos (v : Int) (h : 0 ≤ v) : fst (itoa v) = 0 := by unfold fst; rw [sgn_pos v h]; rfl
theorem mag_fst (l : List UInt8) : mag l = l.drop (fst l) := rfl
theorem undec_bad (l : List UInt8) (k : Nat) (hk : k < l.length) (hf : fst l ≤ k) (hd : isD l[k] = false) : undec l = none := by
  refine undec_none l fun v hv h0 h1 => ?_
  have hm : l[k] ∈ mag l := by
    rw [mag_fst]
    exact List.mem_drop_iff_getElem.2 ⟨k - fst l, by omega, by congr 1; omega⟩
  have e : mag l = decDigits v.natAbs := by rw [hv]; exact mag_itoa v
  rw [e] at hm
  have := dec_all _ _ hm
  rw [this] at hd
  cases hd
theorem undec_long (l : List UInt8) (h : l.length = 0 ∨ 20 < l.length) : undec l = none := by
  refine undec_none l fun v hv h0 h1 => ?_
  have := itoa_len v h0 h1
  rw [← hv] at this
  omega
theorem Rd.fin {l : List UInt8} {N : Int} (h : Rd l l.length N) (X : Int) (hX0 : -9223372036854775808 ≤ X ∧ X ≤ 9223372036854775807)
    (hX : (sgn l = true ∧ (X = -N ∨ N = 9223372036854775808 ∧ X = -9223372036854775808 ∨ 9223372036854775809 ≤ N)) ∨ (sgn l = false ∧ (X = N ∨ 9223372036854775808 ≤ N))) :
    undec l = if (itoa X == l) then some X else none := by
  by_cases e : itoa X = l
  · have : (itoa X == l) = true := by simp [e]
    rw [this, if_pos rfl]
    exact (undec_iff l X).2 ⟨e.symm, hX0⟩
  · have : (itoa X == l) = false := by simp [e]
    rw [this, if_neg (by decide)]
    refine undec_none l fun v hv h0 h1 => e ?_
    have hN : N = (v.natAbs : Int) := by
      have h2 := h.val
      rw [List.take_length, ← mag_fst, hv, mag_itoa, dec_val] at h2
      omega
    by_cases hneg : v < 0
    · have hs : sgn l = true := by rw [hv]; exact (sgn_neg v hneg).1
      rw [hs] at hX
      simp at hX
      have : X = v := by omega
      rw [this, hv]
    · have hs : sgn l = false := by rw [hv]; exact sgn_pos v (by omega)
      rw [hs] at hX
      simp at hX
      have : X = v := by omega
      rw [this, hv]
end Nm
end Go.Proofs.YthpejdbfececkaaDoor
