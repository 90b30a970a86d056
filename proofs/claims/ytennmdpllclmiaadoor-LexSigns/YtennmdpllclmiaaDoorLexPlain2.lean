/-
  Plain facts on texts: what the document reads at a text's head, held against the decoder.
-/
import Derived.Test.YtennmdpllclmiaaDoorLexPlain
namespace Go.Proofs.YtennmdpllclmiaaDoor
namespace Lx
open Go.Lib

/-- how many bytes a sign has that begins so -/
def ln (b : Nat) : Nat := if 240 ≤ b then 4 else if 224 ≤ b then 3 else if 192 ≤ b then 2 else 1
/-- what the first byte brings -/
def c0 (b : Nat) : Int := if 240 ≤ b then (b : Int) - 240 else if 224 ≤ b then (b : Int) - 224 else if 192 ≤ b then (b : Int) - 192 else b
/-- the number behind k bytes more -/
def fc (l : List UInt8) : Nat → Int
  | 0 => c0 (l.getD 0 0).toNat
  | k + 1 => fc l k * 64 + ((l.getD (k + 1) 0).toNat : Int) - 128
/-- the head's sign, as the document reads it: 0 bytes: there is none -/
inductive Head (l : List UInt8) : Prop
  | short (h : l.length < ln (l.getD 0 0).toNat) (hd : decodeL l = (65533, 1))
  | good (h : ln (l.getD 0 0).toNat ≤ l.length) (hs : sgn (fc l (ln (l.getD 0 0).toNat - 1)) = true) (he : encodeRune (fc l (ln (l.getD 0 0).toNat - 1)) = l.take (ln (l.getD 0 0).toNat))
      (hd : decodeL l = ((fc l (ln (l.getD 0 0).toNat - 1)).toNat, ln (l.getD 0 0).toNat)) (hb : ¬ ((decodeL l).1 = 65533 ∧ (decodeL l).2 = 1))
  | none (h : ln (l.getD 0 0).toNat ≤ l.length) (hn : ¬ (sgn (fc l (ln (l.getD 0 0).toNat - 1)) = true ∧ encodeRune (fc l (ln (l.getD 0 0).toNat - 1)) = l.take (ln (l.getD 0 0).toNat))) (hd : decodeL l = (65533, 1))

theorem not_bad1 (b : Nat) (h : b < 256) : ¬ (((b, 1) : Nat × Nat).1 = 65533 ∧ ((b, 1) : Nat × Nat).2 = 1) := by rintro ⟨h, _⟩; simp only at h; omega
theorem not_badk (b k : Nat) (h : 2 ≤ k) : ¬ (((b, k) : Nat × Nat).1 = 65533 ∧ ((b, k) : Nat × Nat).2 = 1) := by rintro ⟨_, h⟩; simp only at h; omega

theorem head (l : List UInt8) (hne : l ≠ []) : Head l := by
  have hlen : 1 ≤ l.length := List.length_pos_iff.2 hne
  have hN := decodeL_N l
  have b0 := (l.getD 0 0).toNat_lt
  have b1 := (l.getD 1 0).toNat_lt
  have b2 := (l.getD 2 0).toNat_lt
  have b3 := (l.getD 3 0).toNat_lt
  rcases (show (l.getD 0 0).toNat < 192 ∨ (192 ≤ (l.getD 0 0).toNat ∧ (l.getD 0 0).toNat < 224) ∨ (224 ≤ (l.getD 0 0).toNat ∧ (l.getD 0 0).toNat < 240) ∨ 240 ≤ (l.getD 0 0).toNat by omega) with h | ⟨h, h'⟩ | ⟨h, h'⟩ | h
  · have e1 : ln (l.getD 0 0).toNat = 1 := by unfold ln; rw [if_neg (by omega), if_neg (by omega), if_neg (by omega)]
    have e2 : fc l 0 = ((l.getD 0 0).toNat : Int) := by show c0 _ = _; unfold c0; rw [if_neg (by omega), if_neg (by omega), if_neg (by omega)]
    obtain ⟨x, r, rfl⟩ : ∃ x r, l = x :: r := List.exists_cons_of_ne_nil hne
    have et : ((x :: r).take 1).map (fun b => (b.toNat : Int)) = [(((x :: r).getD 0 0).toNat : Int)] := by simp
    rcases key1 (x :: r).length ((x :: r).getD 0 0).toNat ((x :: r).getD 1 0).toNat ((x :: r).getD 2 0).toNat ((x :: r).getD 3 0).toNat h with ⟨a, b, c⟩ | ⟨a, c⟩
    · refine .good (by rw [e1]; exact hlen) (by rw [e1, e2]; exact a) (by rw [e1, e2, enc_iff, et]; exact b) (by rw [e1, e2, hN, c]; simp) ?_
      rw [hN, c]
      exact not_bad1 _ b0
    · refine .none (by rw [e1]; exact hlen) ?_ (by rw [hN, c])
      rw [e1, e2, enc_iff, et]
      exact a
  · have e1 : ln (l.getD 0 0).toNat = 2 := by unfold ln; rw [if_neg (by omega), if_neg (by omega), if_pos (by omega)]
    by_cases hs : l.length < 2
    · exact .short (by rw [e1]; exact hs) (by rw [hN]; exact key_short _ _ _ _ _ (.inl ⟨hs, h⟩))
    · have e2 : fc l 1 = (((l.getD 0 0).toNat : Int) - 192) * 64 + (l.getD 1 0).toNat - 128 := by
        show c0 _ * 64 + _ - 128 = _; unfold c0; rw [if_neg (by omega), if_neg (by omega), if_pos (by omega)]
      have et : (l.take 2).map (fun b => (b.toNat : Int)) = [((l.getD 0 0).toNat : Int), ((l.getD 1 0).toNat : Int)] := by
        match l, hs with
        | x :: y :: r, _ => simp
        | [x], hs => simp at hs
        | [], hs => simp at hs
      rcases key2 l.length (l.getD 0 0).toNat (l.getD 1 0).toNat (l.getD 2 0).toNat (l.getD 3 0).toNat (fc l 1) (by omega) h h' b1 e2 with ⟨a, b, c⟩ | ⟨a, c⟩
      · refine .good (by rw [e1]; omega) (by rw [e1]; exact a) (by rw [e1, enc_iff, et]; exact b) (by rw [e1, hN, c]) ?_
        rw [hN, c]
        exact not_badk _ _ (by omega)
      · refine .none (by rw [e1]; omega) ?_ (by rw [hN, c])
        rw [e1, enc_iff, et]
        exact a
  · have e1 : ln (l.getD 0 0).toNat = 3 := by unfold ln; rw [if_neg (by omega), if_pos (by omega)]
    by_cases hs : l.length < 3
    · exact .short (by rw [e1]; exact hs) (by rw [hN]; exact key_short _ _ _ _ _ (.inr (.inl ⟨hs, h⟩)))
    · have e2 : fc l 2 = ((((l.getD 0 0).toNat : Int) - 224) * 64 + (l.getD 1 0).toNat - 128) * 64 + (l.getD 2 0).toNat - 128 := by
        show (c0 _ * 64 + _ - 128) * 64 + _ - 128 = _; unfold c0; rw [if_neg (by omega), if_pos (by omega)]
      have et : (l.take 3).map (fun b => (b.toNat : Int)) = [((l.getD 0 0).toNat : Int), ((l.getD 1 0).toNat : Int), ((l.getD 2 0).toNat : Int)] := by
        match l, hs with
        | x :: y :: z :: r, _ => simp
        | [x, y], hs => simp at hs
        | [x], hs => simp at hs
        | [], hs => simp at hs
      rcases key3 l.length (l.getD 0 0).toNat (l.getD 1 0).toNat (l.getD 2 0).toNat (l.getD 3 0).toNat (fc l 2) (by omega) h h' b1 b2 e2 with ⟨a, b, c⟩ | ⟨a, c⟩
      · refine .good (by rw [e1]; omega) (by rw [e1]; exact a) (by rw [e1, enc_iff, et]; exact b) (by rw [e1, hN, c]) ?_
        rw [hN, c]
        exact not_badk _ _ (by omega)
      · refine .none (by rw [e1]; omega) ?_ (by rw [hN, c])
        rw [e1, enc_iff, et]
        exact a
  · have e1 : ln (l.getD 0 0).toNat = 4 := by unfold ln; rw [if_pos (by omega)]
    by_cases hs : l.length < 4
    · exact .short (by rw [e1]; exact hs) (by rw [hN]; exact key_short _ _ _ _ _ (.inr (.inr ⟨hs, h⟩)))
    · have e2 : fc l 3 = (((((l.getD 0 0).toNat : Int) - 240) * 64 + (l.getD 1 0).toNat - 128) * 64 + (l.getD 2 0).toNat - 128) * 64 + (l.getD 3 0).toNat - 128 := by
        show ((c0 _ * 64 + _ - 128) * 64 + _ - 128) * 64 + _ - 128 = _; unfold c0; rw [if_pos (by omega)]
      have et : (l.take 4).map (fun b => (b.toNat : Int)) = [((l.getD 0 0).toNat : Int), ((l.getD 1 0).toNat : Int), ((l.getD 2 0).toNat : Int), ((l.getD 3 0).toNat : Int)] := by
        match l, hs with
        | x :: y :: z :: u :: r, _ => simp
        | [x, y, z], hs => simp at hs
        | [x, y], hs => simp at hs
        | [x], hs => simp at hs
        | [], hs => simp at hs
      rcases key4 l.length (l.getD 0 0).toNat (l.getD 1 0).toNat (l.getD 2 0).toNat (l.getD 3 0).toNat (fc l 3) (by omega) h b0 b1 b2 b3 e2 with ⟨a, b, c⟩ | ⟨a, c⟩
      · refine .good (by rw [e1]; omega) (by rw [e1]; exact a) (by rw [e1, enc_iff, et]; exact b) (by rw [e1, hN, c]) ?_
        rw [hN, c]
        exact not_badk _ _ (by omega)
      · refine .none (by rw [e1]; omega) ?_ (by rw [hN, c])
        rw [e1, enc_iff, et]
        exact a

/-- a sign that is there: its bytes are the head -/
theorem good_enc (l : List UInt8) (hne : l ≠ []) (hb : ¬ ((decodeL l).1 = 65533 ∧ (decodeL l).2 = 1)) :
    sgn (decodeL l).1 = true ∧ encodeRune (decodeL l).1 = l.take (decodeL l).2 ∧ (decodeL l).2 ≤ l.length := by
  rcases head l hne with ⟨h, hd⟩ | ⟨h, hs, he, hd, _⟩ | ⟨h, hn, hd⟩
  · rw [hd] at hb; exact absurd ⟨rfl, rfl⟩ hb
  · rw [hd]
    have h0 : 0 ≤ fc l (ln (l.getD 0 0).toNat - 1) := by rw [sgn_iff] at hs; omega
    have e : (((fc l (ln (l.getD 0 0).toNat - 1)).toNat : Nat) : Int) = fc l (ln (l.getD 0 0).toNat - 1) := by omega
    exact ⟨by rw [e]; exact hs, by rw [e]; exact he, h⟩
  · rw [hd] at hb; exact absurd ⟨rfl, rfl⟩ hb

/-- signs below 128 are bytes; the others' bytes are from 128 on -/
theorem decodeN_small (n b0 b1 b2 b3 : Nat) (h0 : b0 < 256) : ((decodeN n b0 b1 b2 b3).1 < 128 → (decodeN n b0 b1 b2 b3).2 = 1 ∧ b0 = (decodeN n b0 b1 b2 b3).1) ∧
    (128 ≤ (decodeN n b0 b1 b2 b3).1 → 128 ≤ b0 ∧ (2 ≤ (decodeN n b0 b1 b2 b3).2 → 128 ≤ b1) ∧ (3 ≤ (decodeN n b0 b1 b2 b3).2 → 128 ≤ b2) ∧ (4 ≤ (decodeN n b0 b1 b2 b3).2 → 128 ≤ b3) ∧ (decodeN n b0 b1 b2 b3).2 ≤ 4) := by
  unfold decodeN
  repeat' split
  all_goals (refine ⟨fun hh => ?_, fun hh => ?_⟩ <;> simp only at hh <;> first | exact ⟨rfl, rfl⟩ | (exfalso; omega) | (refine ⟨by omega, fun h => ?_, fun h => ?_, fun h => ?_, ?_⟩ <;> simp only at * <;> omega))
theorem glue1 (m b0 x y b1 b2 b3 : Nat) : decodeN m b0 32 x y = decodeN 1 b0 b1 b2 b3 := by
  unfold decodeN
  repeat' split
  all_goals first | (exfalso; omega) | rfl
theorem glue2 (m b0 b1 y b2 b3 : Nat) (hm : 2 ≤ m) : decodeN m b0 b1 32 y = decodeN 2 b0 b1 b2 b3 := by
  unfold decodeN
  repeat' split
  all_goals first | (exfalso; omega) | rfl
set_option maxHeartbeats 1000000 in
theorem glue3 (m b0 b1 b2 b3 : Nat) (hm : 3 ≤ m) : decodeN m b0 b1 b2 32 = decodeN 3 b0 b1 b2 b3 := by
  unfold decodeN
  repeat' split
  all_goals first | (exfalso; omega) | rfl
theorem glue4 (m n b0 b1 b2 b3 : Nat) (hm : 4 ≤ m) (hn : 4 ≤ n) : decodeN m b0 b1 b2 b3 = decodeN n b0 b1 b2 b3 := by
  have e1 : (1 < m) = (1 < n) := propext ⟨fun _ => by omega, fun _ => by omega⟩
  have e2 : (2 < m) = (2 < n) := propext ⟨fun _ => by omega, fun _ => by omega⟩
  have e3 : (3 < m) = (3 < n) := propext ⟨fun _ => by omega, fun _ => by omega⟩
  unfold decodeN
  simp only [e1, e2, e3]
/-- a blank behind a text turns no sign of it -/
theorem glue (l r : List UInt8) (hne : l ≠ []) : decodeL (l ++ 32 :: r) = decodeL l := by
  rw [decodeL_N, decodeL_N]
  match l, hne with
  | [a], _ => exact glue1 _ _ _ _ _ _ _
  | [a, b], _ => exact glue2 _ _ _ _ _ _ (by simp)
  | [a, b, c], _ => exact glue3 _ _ _ _ _ (by simp)
  | a :: b :: c :: d :: t, _ => exact glue4 _ _ _ _ _ _ (by simp) (by simp)
/-- a text with a blank in it is right just if both its parts are -/
theorem valid_glue (r : List UInt8) : ∀ (k : Nat) (l : List UInt8), l.length ≤ k → validD (l ++ 32 :: r) = (validD l && validD r)
  | 0, l, h => by
    have : l = [] := List.eq_nil_of_length_eq_zero (by omega)
    subst this
    rw [List.nil_append, validD_cons _ _ (by decide)]
    rfl
  | k + 1, l, h => by
    by_cases hne : l = []
    · subst hne
      rw [List.nil_append, validD_cons _ _ (by decide)]
      rfl
    · rw [validD_step l hne, validD_step _ (by simp), glue l r hne]
      by_cases hb : (decodeL l).1 = 65533 ∧ (decodeL l).2 = 1
      · rw [if_pos hb, if_pos hb, Bool.false_and]
      · obtain ⟨_, _, hw⟩ := good_enc l hne hb
        have hp := decodeL_width l
        rw [if_neg hb, if_neg hb, List.drop_append_of_le_length hw, valid_glue r k (l.drop (decodeL l).2) (by rw [List.length_drop]; omega)]
/-- the bytes of a sign that is there -/
theorem take_all (f : Nat → Bool) (hf : ∀ x, 128 ≤ x → f x = true) (l : List UInt8) (hne : l ≠ []) (hb : ¬ ((decodeL l).1 = 65533 ∧ (decodeL l).2 = 1)) :
    (l.take (decodeL l).2).all (fun b => f b.toNat) = f (decodeL l).1 := by
  obtain ⟨_, _, hw⟩ := good_enc l hne hb
  have hs := decodeN_small l.length (l.getD 0 0).toNat (l.getD 1 0).toNat (l.getD 2 0).toNat (l.getD 3 0).toNat (l.getD 0 0).toNat_lt
  rw [← decodeL_N] at hs
  by_cases h : (decodeL l).1 < 128
  · obtain ⟨e1, e2⟩ := hs.1 h
    obtain ⟨x, r, rfl⟩ : ∃ x r, l = x :: r := List.exists_cons_of_ne_nil hne
    rw [e1, ← e2]
    simp
  · obtain ⟨a0, a1, a2, a3, a4⟩ := hs.2 (by omega)
    rw [hf _ (by omega), List.all_eq_true]
    intro b hbm
    apply hf
    obtain ⟨j, hj, rfl⟩ := List.mem_iff_getElem.1 hbm
    have hj2 : j < (decodeL l).2 := by rw [List.length_take] at hj; omega
    rw [List.getElem_take]
    have e : ∀ i (hi : i < l.length), l.getD i 0 = l[i] := fun i hi => by rw [List.getD_eq_getElem?_getD, List.getElem?_eq_getElem hi]; rfl
    rw [← e j (by omega)]
    match j, hj2 with
    | 0, _ => exact a0
    | 1, h => exact a1 (by omega)
    | 2, h => exact a2 (by omega)
    | 3, h => exact a3 (by omega)
    | k + 4, h => omega
/-- what is asked of each sign, where all signs from 128 on are let, is asked of each byte -/
theorem all_bytes (f : Nat → Bool) (hf : ∀ x, 128 ≤ x → f x = true) (l : List UInt8) : ∀ (k p : Nat), l.length ≤ p + k → validD (l.drop p) = true →
    (rest l p).all (fun x => f x.1) = (l.drop p).all (fun b => f b.toNat)
  | 0, p, h, _ => by rw [rest_end l p (by omega), List.drop_eq_nil_of_le (by omega)]; rfl
  | k + 1, p, h, hv => by
    by_cases hp : p < l.length
    · have hne : l.drop p ≠ [] := by
        intro e
        have := congrArg List.length e
        rw [List.length_drop] at this
        simp at this
        omega
      have hb : ¬ bad l p := fun hb => by rw [valid_bad l p hp hb] at hv; cases hv
      rw [valid_step l p hp hb] at hv
      have hw := wp_pos l p
      rw [rest_step l p hp, List.all_cons, all_bytes f hf l k (p + wp l p) (by omega) hv]
      have ht := take_all f hf (l.drop p) hne hb
      have hd : l.drop p = (l.drop p).take (wp l p) ++ l.drop (p + wp l p) := by rw [← List.drop_drop, List.take_append_drop]
      conv => rhs; rw [hd, List.all_append]
      rw [show (l.drop p).take (wp l p) = (l.drop p).take (decodeL (l.drop p)).2 from rfl, ht]
      rfl
    · rw [rest_end l p (by omega), List.drop_eq_nil_of_le (by omega)]; rfl
/-- the text of signs -/
def txt (cs : List Int) : List UInt8 := (cs.map encodeRune).flatten
/-- the signs of a right text lay it -/
theorem txt_rest (l : List UInt8) : ∀ (k p : Nat), l.length ≤ p + k → validD (l.drop p) = true → txt ((rest l p).map fun x => (x.1 : Int)) = l.drop p ∧ ∀ x ∈ rest l p, sgn x.1 = true
  | 0, p, h, _ => by rw [rest_end l p (by omega), List.drop_eq_nil_of_le (by omega)]; exact ⟨rfl, fun x hx => by cases hx⟩
  | k + 1, p, h, hv => by
    by_cases hp : p < l.length
    · have hne : l.drop p ≠ [] := by
        intro e
        have := congrArg List.length e
        rw [List.length_drop] at this
        simp at this
        omega
      have hb : ¬ bad l p := fun hb => by rw [valid_bad l p hp hb] at hv; cases hv
      rw [valid_step l p hp hb] at hv
      have hw := wp_pos l p
      obtain ⟨g1, g2, g3⟩ := good_enc (l.drop p) hne hb
      obtain ⟨i1, i2⟩ := txt_rest l k (p + wp l p) (by omega) hv
      rw [rest_step l p hp]
      refine ⟨?_, ?_⟩
      · show encodeRune (cp l p) ++ txt ((rest l (p + wp l p)).map fun x => (x.1 : Int)) = _
        rw [i1, ← List.drop_drop]
        show encodeRune (decodeL (l.drop p)).1 ++ _ = _
        rw [g2]
        exact List.take_append_drop _ _
      · intro x hx
        rcases List.mem_cons.1 hx with rfl | hx
        · exact g1
        · exact i2 x hx
    · rw [rest_end l p (by omega), List.drop_eq_nil_of_le (by omega)]; exact ⟨rfl, fun x hx => by cases hx⟩
theorem rest_len (l : List UInt8) : ∀ (k p : Nat), l.length ≤ p + k → (rest l p).length ≤ k
  | 0, p, h => by rw [rest_end l p (by omega)]; exact Nat.le_refl _
  | k + 1, p, h => by
    by_cases hp : p < l.length
    · have hw := wp_pos l p
      rw [rest_step l p hp, List.length_cons]
      have := rest_len l k (p + wp l p) (by omega)
      omega
    · rw [rest_end l p (by omega)]; exact Nat.zero_le _
theorem sg_len (l : List UInt8) : (sg l).length ≤ l.length := rest_len l l.length 0 (by omega)
end Lx
end Go.Proofs.YtennmdpllclmiaaDoor
