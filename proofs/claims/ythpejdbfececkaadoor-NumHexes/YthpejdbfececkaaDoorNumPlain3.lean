/-
  Plain facts on digits of a base of 16.
-/
import Derived.Lib.Bytealg
import Derived.Laws.Entries
import Derived.Laws.BitsAllLaws
import Derived.Lib.QuoteBits
import Derived.Test.YthpejdbfececkaaDoorNumPlain
namespace Go.Proofs.YthpejdbfececkaaDoor
namespace Nm
open Go.Lib

/-- the sixteen digits -/
def hexL : List UInt8 := [48, 49, 50, 51, 52, 53, 54, 55, 56, 57, 97, 98, 99, 100, 101, 102]
/-- the digit d -/
def hd (d : Nat) : UInt8 := UInt8.ofNat (if d < 10 then 48 + d else 87 + d)
theorem hd_nat (d : Nat) (h : d < 16) : (hd d).toNat = if d < 10 then 48 + d else 87 + d := by
  unfold hd
  rw [UInt8.toNat_ofNat']
  split <;> omega
/-- the number of a digit; -1: none -/
def hv (c : UInt8) : Int := if 48 ≤ c.toNat ∧ c.toNat ≤ 57 then c.toNat - 48 else if 97 ≤ c.toNat ∧ c.toNat ≤ 102 then c.toNat - 87 else -1
theorem hv_fin : ∀ i : Fin 256, indexByte hexL (UInt8.ofNat i.val) = hv (UInt8.ofNat i.val) := by decide +kernel
theorem hv_index (c : UInt8) : indexByte hexL c = hv c := by
  have h := hv_fin ⟨c.toNat, c.toNat_lt⟩
  have e : UInt8.ofNat c.toNat = c := UInt8.ofNat_toNat
  simp only [e] at h
  exact h
theorem hv_bd (c : UInt8) : -1 ≤ hv c ∧ hv c ≤ 15 := by unfold hv; split <;> (try split) <;> omega
theorem hv_hd (d : Nat) (h : d < 16) : hv (hd d) = d := by
  unfold hv
  rw [hd_nat d h]
  by_cases h1 : d < 10
  · simp only [h1, if_true]; rw [if_pos (by omega)]; omega
  · simp only [h1, if_false]; rw [if_neg (by omega), if_pos (by omega)]; omega

/-- the k lowest digits of N -/
def hx (N : Nat) : Nat → List UInt8
  | 0 => []
  | k + 1 => hd (N / 16 ^ k % 16) :: hx N k
theorem hx_len (N : Nat) : ∀ k, (hx N k).length = k
  | 0 => rfl
  | k + 1 => by simp [hx, hx_len N k]
theorem hx_last (N : Nat) : ∀ k, hx N (k + 1) = hx (N / 16) k ++ [hd (N % 16)]
  | 0 => by simp [hx]
  | k + 1 => by
    have ih := hx_last N k
    rw [hx, ih, hx]
    have e : N / 16 ^ (k + 1) = N / 16 / 16 ^ k := by rw [Nat.pow_succ, Nat.mul_comm, Nat.div_div_eq_div_mul]
    rw [e]
    rfl

/-- the digits' number, from a on; none: one of them is no digit -/
def hvF (a : Int) : List UInt8 → Option Int
  | [] => some a
  | c :: r => if hv c < 0 then none else hvF (a * 16 + hv c) r
/-- the number of digits -/
def unhex (l : List UInt8) : Option Int := if l.length < 1 ∨ 15 < l.length then none else hvF 0 l

theorem hvF_hx (N : Nat) : ∀ (k : Nat) (a : Int), hvF a (hx N k) = some (a * 16 ^ k + ((N % 16 ^ k : Nat) : Int))
  | 0, a => by simp [hx, hvF, Nat.mod_one]
  | k + 1, a => by
    have hlt : N / 16 ^ k % 16 < 16 := Nat.mod_lt _ (by decide)
    have hb := hv_hd (N / 16 ^ k % 16) hlt
    rw [hx, hvF, hb, if_neg (by omega), hvF_hx N k]
    congr 1
    have e : N % 16 ^ (k + 1) = N % 16 ^ k + 16 ^ k * (N / 16 ^ k % 16) := by rw [Nat.pow_succ, Nat.mod_mul]
    rw [e]
    have e2 : (16 : Int) ^ (k + 1) = 16 ^ k * 16 := Int.pow_succ ..
    rw [e2]
    push_cast
    generalize (16 : Int) ^ k = p
    generalize ((N : Int) / p % 16) = d
    generalize ((N : Int) % p) = r
    have e3 : (a * 16 + d) * p = a * (p * 16) + p * d := by rw [Int.add_mul, Int.mul_assoc, Int.mul_comm 16 p, Int.mul_comm d p]
    rw [e3]
    omega
theorem unhex_hx (N k : Nat) (h1 : 1 ≤ k) (h2 : k ≤ 15) (h : N < 16 ^ k) : unhex (hx N k) = some (N : Int) := by
  unfold unhex
  rw [hx_len, if_neg (by omega), hvF_hx, Nat.mod_eq_of_lt h]
  simp

/-- behind k bytes N is read -/
structure Hr (l : List UInt8) (k : Nat) (N : Int) : Prop where
  rest : hvF 0 l = hvF N (l.drop k)
  bd0 : 0 ≤ N
  bd : N < 16 ^ k
theorem Hr.start (l : List UInt8) : Hr l 0 0 := ⟨by simp, by omega, by simp⟩
theorem Hr.step {l : List UInt8} {k : Nat} {N M : Int} (h : Hr l k N) (hk : k < l.length) (hc : 0 ≤ hv l[k]) (hM : M = N * 16 + hv l[k]) : Hr l (k + 1) M := by
  have hb := hv_bd l[k]
  refine ⟨?_, ?_, ?_⟩
  · rw [h.rest, List.drop_eq_getElem_cons hk, hvF, if_neg (by omega), hM]
  · have := h.bd0; omega
  · have h1 := h.bd
    have e2 : (16 : Int) ^ (k + 1) = 16 ^ k * 16 := Int.pow_succ ..
    rw [e2, hM]
    omega
theorem Hr.bad {l : List UInt8} {k : Nat} {N : Int} (h : Hr l k N) (hk : k < l.length) (hc : hv l[k] < 0) : unhex l = none := by
  unfold unhex
  split
  · rfl
  · rw [h.rest, List.drop_eq_getElem_cons hk, hvF, if_pos hc]
theorem Hr.fin {l : List UInt8} {N : Int} (h : Hr l l.length N) (h1 : 1 ≤ l.length) (h2 : l.length ≤ 15) : unhex l = some N := by
  unfold unhex
  rw [if_neg (by omega), h.rest, List.drop_length]
  rfl
theorem unhex_long (l : List UInt8) (h : l.length < 1 ∨ 15 < l.length) : unhex l = none := by unfold unhex; rw [if_pos h]
theorem Hr.small {l : List UInt8} {k : Nat} {N : Int} (h : Hr l k N) (hk : k ≤ 14) : N < 72057594037927936 := by
  have h1 := h.bd
  have h2 : (16 : Int) ^ k ≤ 16 ^ 14 := by
    have := Nat.pow_le_pow_right (n := 16) (by decide) hk
    exact_mod_cast this
  have h3 : (16 : Int) ^ 14 = 72057594037927936 := by decide
  omega
theorem pow_bd (k : Nat) (hk : k ≤ 15) : 1 ≤ (16 : Int) ^ k ∧ (16 : Int) ^ k ≤ 1152921504606846976 := by
  constructor
  · have := Nat.one_le_pow k 16 (by decide)
    exact_mod_cast this
  · have h := Nat.pow_le_pow_right (n := 16) (by decide) hk
    have h3 : (16 : Nat) ^ 15 = 1152921504606846976 := by decide
    rw [h3] at h
    have h4 : ((16 ^ k : Nat) : Int) ≤ ((1152921504606846976 : Nat) : Int) := Int.ofNat_le.2 h
    have h5 : ((16 ^ k : Nat) : Int) = (16 : Int) ^ k := Int.natCast_pow 16 k
    rw [← h5]
    omega
theorem or_dig (N d : Int) (h0 : 0 ≤ N) (h1 : N < 72057594037927936) (h2 : 0 ≤ d) (h3 : d < 16) : bits .or .i64 (N * 16) d = N * 16 + d := by
  obtain ⟨n, rfl⟩ : ∃ n : Nat, N = n := ⟨N.toNat, by omega⟩
  obtain ⟨m, rfl⟩ : ∃ m : Nat, d = m := ⟨d.toNat, by omega⟩
  have e : (n : Int) * 16 = ((n * 16 : Nat) : Int) := by omega
  rw [e]
  show IntKind.i64.wrap ((BitVec.ofInt 64 ((n * 16 : Nat) : Int) ||| BitVec.ofInt 64 (m : Int)).toNat : Int) = _
  rw [BitVec.toNat_or, ofInt_u64 (n * 16) (by omega), ofInt_u64 m (by omega), nat_join4 _ _ (by omega) (by omega)]
  rw [wrap_i64_small _ (by omega)]
  omega
theorem and_dig (N : Int) (h0 : 0 ≤ N) (h1 : N < 9223372036854775808) : bits .and .i64 N 15 = N % 16 := by
  obtain ⟨n, rfl⟩ : ∃ n : Nat, N = n := ⟨N.toNat, by omega⟩
  show IntKind.i64.wrap ((BitVec.ofInt 64 (n : Int) &&& BitVec.ofInt 64 ((15 : Nat) : Int)).toNat : Int) = _
  rw [BitVec.toNat_and, ofInt_u64 n (by omega), ofInt_u64 15 (by omega), nat_mask4]
  rw [wrap_i64_small _ (by omega)]
  omega
end Nm
end Go.Proofs.YthpejdbfececkaaDoor
