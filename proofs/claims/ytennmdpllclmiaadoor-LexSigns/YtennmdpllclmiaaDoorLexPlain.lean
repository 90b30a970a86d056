/-
  Plain facts on texts: their signs, where each begins, and when a text is right.
-/
import Derived.Lib.ValidLaws
import Derived.Lib.RuneBytes
import Derived.Lib.TrimUEq
namespace Go.Proofs.YtennmdpllclmiaaDoor
namespace Lx
open Go.Lib

/-! ### Signs, from a place on -/
/-- the signs and where each begins, from place p on -/
def dec : Nat → List UInt8 → Nat → List (Nat × Nat)
  | 0, _, _ => []
  | f + 1, l, p => if l = [] then [] else ((decodeL l).1, p) :: dec f (l.drop (decodeL l).2) (p + (decodeL l).2)
theorem dec_nil (f p : Nat) : dec f [] p = [] := by
  cases f with
  | zero => rfl
  | succ f => simp [dec]
theorem dec_fuel : ∀ (n m : Nat) (l : List UInt8) (p : Nat), l.length ≤ n → l.length ≤ m → dec n l p = dec m l p
  | 0, m, l, p, hn, _ => by
    have : l = [] := List.eq_nil_of_length_eq_zero (by omega)
    subst this
    rw [dec_nil, dec_nil]
  | n + 1, 0, l, p, _, hm => by
    have : l = [] := List.eq_nil_of_length_eq_zero (by omega)
    subst this
    rw [dec_nil, dec_nil]
  | n + 1, m + 1, l, p, hn, hm => by
    unfold dec
    by_cases hne : l = []
    · simp [hne]
    · have hw := decodeL_width l
      have hl : 0 < l.length := List.length_pos_iff.2 hne
      rw [if_neg hne, if_neg hne, dec_fuel n m (l.drop (decodeL l).2) _ (by rw [List.length_drop]; omega) (by rw [List.length_drop]; omega)]
/-- what is left from place p on -/
def rest (l : List UInt8) (p : Nat) : List (Nat × Nat) := dec (l.length - p) (l.drop p) p
/-- a text's signs and places -/
def sg (l : List UInt8) : List (Nat × Nat) := rest l 0
theorem rest_end (l : List UInt8) (p : Nat) (h : l.length ≤ p) : rest l p = [] := by
  unfold rest
  rw [List.drop_eq_nil_of_le h, dec_nil]
/-- the sign at place p, and its width -/
def cp (l : List UInt8) (p : Nat) : Nat := (decodeL (l.drop p)).1
def wp (l : List UInt8) (p : Nat) : Nat := (decodeL (l.drop p)).2
theorem wp_pos (l : List UInt8) (p : Nat) : 1 ≤ wp l p := decodeL_width _
theorem rest_step (l : List UInt8) (p : Nat) (h : p < l.length) : rest l p = (cp l p, p) :: rest l (p + wp l p) := by
  have hw := wp_pos l p
  unfold rest
  obtain ⟨k, hk⟩ : ∃ k, l.length - p = k + 1 := ⟨l.length - p - 1, by omega⟩
  rw [hk]
  have hne : l.drop p ≠ [] := by
    intro e
    have := congrArg List.length e
    rw [List.length_drop] at this
    simp at this
    omega
  show (if l.drop p = [] then [] else _) = _
  rw [if_neg hne, List.drop_drop]
  show (cp l p, p) :: dec k (l.drop (p + wp l p)) (p + wp l p) = _
  rw [dec_fuel k (l.length - (p + wp l p)) _ _ (by rw [List.length_drop]; omega) (by rw [List.length_drop]; omega)]
/-- no sign is at place p -/
def bad (l : List UInt8) (p : Nat) : Prop := cp l p = 65533 ∧ wp l p = 1
theorem valid_step (l : List UInt8) (p : Nat) (h : p < l.length) (hb : ¬ bad l p) : validD (l.drop p) = validD (l.drop (p + wp l p)) := by
  have hne : l.drop p ≠ [] := by
    intro e
    have := congrArg List.length e
    rw [List.length_drop] at this
    simp at this
    omega
  have hb' : ¬ ((decodeL (l.drop p)).1 = 65533 ∧ (decodeL (l.drop p)).2 = 1) := hb
  rw [validD_step _ hne, if_neg hb', List.drop_drop]
  rfl
theorem valid_bad (l : List UInt8) (p : Nat) (h : p < l.length) (hb : bad l p) : validD (l.drop p) = false := by
  have hne : l.drop p ≠ [] := by
    intro e
    have := congrArg List.length e
    rw [List.length_drop] at this
    simp at this
    omega
  have hb' : (decodeL (l.drop p)).1 = 65533 ∧ (decodeL (l.drop p)).2 = 1 := hb
  rw [validD_step _ hne, if_pos hb']
theorem valid_end (l : List UInt8) (p : Nat) (h : l.length ≤ p) : validD (l.drop p) = true := by
  rw [List.drop_eq_nil_of_le h]
  rfl
theorem decode_cp (s : ByteArray) (p : Nat) : Utf8.decode s p = (cp s.data.toList p, wp s.data.toList p) := by
  show _ = decodeL (s.data.toList.drop p)
  rw [decode_N, decodeL_N, List.length_drop]
  simp [List.getD_eq_getElem?_getD, List.getElem?_drop]

/-! ### A sign's bytes -/
/-- may a number be a sign? -/
def sgn (c : Int) : Bool := decide ((0 ≤ c ∧ c < 55296) ∨ (57343 < c ∧ c ≤ 1114111))
theorem sgn_iff (c : Int) : sgn c = true ↔ (0 ≤ c ∧ c < 55296) ∨ (57343 < c ∧ c ≤ 1114111) := by unfold sgn; simp
theorem enc_iff (c : Int) (m : List UInt8) : encodeRune c = m ↔ encodeRuneZ c = m.map fun b => (b.toNat : Int) := by
  unfold encodeRune
  constructor
  · rintro rfl
    rw [List.map_map]
    conv => lhs; rw [← List.map_id (encodeRuneZ c)]
    apply List.map_congr_left
    intro x hx
    have := encodeRuneZ_byte c x hx
    simp only [id, Function.comp, Nat.toUInt8, UInt8.toNat_ofNat']
    omega
  · intro h
    rw [h, List.map_map]
    conv => rhs; rw [← List.map_id m]
    apply List.map_congr_left
    intro x _
    simp [Function.comp]

theorem key1 (n b0 b1 b2 b3 : Nat) (h0 : b0 < 192) :
    (sgn b0 = true ∧ encodeRuneZ b0 = [(b0 : Int)] ∧ decodeN n b0 b1 b2 b3 = (b0, 1)) ∨ (¬ (sgn b0 = true ∧ encodeRuneZ b0 = [(b0 : Int)]) ∧ decodeN n b0 b1 b2 b3 = (65533, 1)) := by
  by_cases g : b0 < 128
  · left
    refine ⟨by rw [sgn_iff]; omega, encodeRuneZ_one (by omega) (by omega), ?_⟩
    unfold decodeN
    rw [if_pos g]
  · right
    refine ⟨?_, ?_⟩
    · rintro ⟨_, he⟩
      rw [encodeRuneZ_two (by omega) (by omega)] at he
      simp at he
    · unfold decodeN
      repeat' split
      all_goals first | rfl | (exfalso; omega)
set_option maxHeartbeats 1000000 in
theorem key2 (n b0 b1 b2 b3 : Nat) (C : Int) (hn : 2 ≤ n) (h0 : 192 ≤ b0) (h0' : b0 < 224) (h1 : b1 < 256) (hC : C = ((b0 : Int) - 192) * 64 + b1 - 128) :
    (sgn C = true ∧ encodeRuneZ C = [(b0 : Int), (b1 : Int)] ∧ decodeN n b0 b1 b2 b3 = (C.toNat, 2)) ∨ (¬ (sgn C = true ∧ encodeRuneZ C = [(b0 : Int), (b1 : Int)]) ∧ decodeN n b0 b1 b2 b3 = (65533, 1)) := by
  by_cases g : 128 ≤ b1 ∧ b1 < 192 ∧ 194 ≤ b0
  · left
    refine ⟨by rw [sgn_iff]; omega, ?_, ?_⟩
    · rw [encodeRuneZ_two (by omega) (by omega)]
      simp only [List.cons.injEq, and_true]
      omega
    · unfold decodeN
      repeat' split
      all_goals first | (exfalso; omega) | (apply Prod.ext <;> simp only <;> omega)
  · right
    refine ⟨?_, ?_⟩
    · rintro ⟨hs, he⟩
      rw [sgn_iff] at hs
      unfold encodeRuneZ at he
      repeat' split at he
      all_goals (simp only [List.cons.injEq, and_true, reduceCtorEq, and_false] at he)
      all_goals omega
    · unfold decodeN
      repeat' split
      all_goals first | rfl | (exfalso; omega)
set_option maxHeartbeats 1000000 in
theorem key3 (n b0 b1 b2 b3 : Nat) (C : Int) (hn : 3 ≤ n) (h0 : 224 ≤ b0) (h0' : b0 < 240) (h1 : b1 < 256) (h2 : b2 < 256) (hC : C = (((b0 : Int) - 224) * 64 + b1 - 128) * 64 + b2 - 128) :
    (sgn C = true ∧ encodeRuneZ C = [(b0 : Int), (b1 : Int), (b2 : Int)] ∧ decodeN n b0 b1 b2 b3 = (C.toNat, 3)) ∨ (¬ (sgn C = true ∧ encodeRuneZ C = [(b0 : Int), (b1 : Int), (b2 : Int)]) ∧ decodeN n b0 b1 b2 b3 = (65533, 1)) := by
  by_cases g : 128 ≤ b1 ∧ b1 < 192 ∧ 128 ≤ b2 ∧ b2 < 192 ∧ 2048 ≤ C ∧ (C < 55296 ∨ 57343 < C)
  · left
    refine ⟨by rw [sgn_iff]; omega, ?_, ?_⟩
    · rw [encodeRuneZ_three (by omega)]
      simp only [List.cons.injEq, and_true]
      omega
    · unfold decodeN
      repeat' split
      all_goals first | (exfalso; omega) | (apply Prod.ext <;> simp only <;> omega)
  · right
    refine ⟨?_, ?_⟩
    · rintro ⟨hs, he⟩
      rw [sgn_iff] at hs
      unfold encodeRuneZ at he
      repeat' split at he
      all_goals (simp only [List.cons.injEq, and_true, reduceCtorEq, and_false] at he)
      all_goals omega
    · unfold decodeN
      repeat' split
      all_goals first | rfl | (exfalso; omega)
set_option maxHeartbeats 2000000 in
theorem key4 (n b0 b1 b2 b3 : Nat) (C : Int) (hn : 4 ≤ n) (h0 : 240 ≤ b0) (h0' : b0 < 256) (h1 : b1 < 256) (h2 : b2 < 256) (h3 : b3 < 256) (hC : C = ((((b0 : Int) - 240) * 64 + b1 - 128) * 64 + b2 - 128) * 64 + b3 - 128) :
    (sgn C = true ∧ encodeRuneZ C = [(b0 : Int), (b1 : Int), (b2 : Int), (b3 : Int)] ∧ decodeN n b0 b1 b2 b3 = (C.toNat, 4)) ∨ (¬ (sgn C = true ∧ encodeRuneZ C = [(b0 : Int), (b1 : Int), (b2 : Int), (b3 : Int)]) ∧ decodeN n b0 b1 b2 b3 = (65533, 1)) := by
  by_cases g : 128 ≤ b1 ∧ b1 < 192 ∧ 128 ≤ b2 ∧ b2 < 192 ∧ 128 ≤ b3 ∧ b3 < 192 ∧ 65536 ≤ C ∧ C ≤ 1114111
  · left
    refine ⟨by rw [sgn_iff]; omega, ?_, ?_⟩
    · rw [encodeRuneZ_four (by omega) (by omega)]
      simp only [List.cons.injEq, and_true]
      omega
    · unfold decodeN
      repeat' split
      all_goals first | (exfalso; omega) | (apply Prod.ext <;> simp only <;> omega)
  · right
    refine ⟨?_, ?_⟩
    · rintro ⟨hs, he⟩
      rw [sgn_iff] at hs
      unfold encodeRuneZ at he
      repeat' split at he
      all_goals (simp only [List.cons.injEq, and_true, reduceCtorEq, and_false] at he)
      all_goals omega
    · unfold decodeN
      repeat' split
      all_goals first | rfl | (exfalso; omega)
theorem key_short (n b0 b1 b2 b3 : Nat) (h : (n < 2 ∧ 192 ≤ b0) ∨ (n < 3 ∧ 224 ≤ b0) ∨ (n < 4 ∧ 240 ≤ b0)) : decodeN n b0 b1 b2 b3 = (65533, 1) := by
  unfold decodeN
  repeat' split
  all_goals first | rfl | (exfalso; omega)
end Lx
end Go.Proofs.YtennmdpllclmiaaDoor
