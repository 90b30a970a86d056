/-
  Plain facts on lines, words and names.
-/
import Derived.Test.YtennmdpllclmiaaDoorLexPlain2
import Derived.Lib.SplitLaws
import Derived.Lib.Join
namespace Go.Proofs.YtennmdpllclmiaaDoor
namespace Lx
open Go.Lib

/-- may a sign stand in a line? in a word? -/
def inL (x : Nat) : Bool := decide (32 ≤ x) && decide (x ≠ 127)
def inW (x : Nat) : Bool := decide (32 < x) && decide (x ≠ 127)
theorem inL_big (x : Nat) (h : 128 ≤ x) : inL x = true := by unfold inL; rw [decide_eq_true (by omega : 32 ≤ x), decide_eq_true (by omega : x ≠ 127)]; rfl
theorem inW_big (x : Nat) (h : 128 ≤ x) : inW x = true := by unfold inW; rw [decide_eq_true (by omega : 32 < x), decide_eq_true (by omega : x ≠ 127)]; rfl
/-- a right line -/
def isL (l : List UInt8) : Bool := validD l && (sg l).all fun x => inL x.1
/-- a word -/
def isW (l : List UInt8) : Bool := decide (l ≠ []) && (validD l && (sg l).all fun x => inW x.1)
theorem isL_bytes (l : List UInt8) : isL l = (validD l && l.all fun b => inL b.toNat) := by
  unfold isL
  cases hv : validD l with
  | false => rfl
  | true =>
    have := all_bytes inL inL_big l l.length 0 (by omega) hv
    rw [List.drop_zero] at this
    show (true && (rest l 0).all _) = _
    rw [this]
theorem isW_bytes (l : List UInt8) : isW l = (decide (l ≠ []) && (validD l && l.all fun b => inW b.toNat)) := by
  unfold isW
  cases hv : validD l with
  | false => rfl
  | true =>
    have := all_bytes inW inW_big l l.length 0 (by omega) hv
    rw [List.drop_zero] at this
    show (_ && (true && (rest l 0).all _)) = _
    rw [this]

/-- parts between blanks -/
def spl : List UInt8 → List UInt8 → List (List UInt8)
  | acc, [] => [acc]
  | acc, b :: r => if b = 32 then acc :: spl [] r else spl (acc ++ [b]) r
theorem all_in (acc : List UInt8) (h : ∀ b ∈ acc, b ≠ 32) : (acc.all fun b => inW b.toNat) = acc.all fun b => inL b.toNat := by
  induction acc with
  | nil => rfl
  | cons b r ih =>
    rw [List.all_cons, List.all_cons, ih (fun x hx => h x (List.mem_cons_of_mem _ hx))]
    congr 1
    have hb := h b (List.mem_cons_self ..)
    have : b.toNat ≠ 32 := fun e => hb (UInt8.toNat_inj.1 e)
    unfold inW inL
    congr 1
    rw [decide_eq_decide]
    omega
theorem spl_all : ∀ (l acc : List UInt8), (∀ b ∈ acc, b ≠ 32) → (spl acc l).all isW = ((spl acc l).all (fun p => decide (p ≠ [])) && (validD (acc ++ l) && (acc ++ l).all fun b => inL b.toNat))
  | [], acc, h => by
    show (isW acc && true) = ((decide (acc ≠ []) && true) && _)
    rw [isW_bytes, all_in acc h, List.append_nil, Bool.and_true, Bool.and_true]
  | b :: r, acc, h => by
    by_cases hb : b = 32
    · subst hb
      have e : spl acc (32 :: r) = acc :: spl [] r := by rw [spl, if_pos rfl]
      have e32 : inL (32 : UInt8).toNat = true := by decide
      rw [e, List.all_cons, List.all_cons, spl_all r [] (fun b hb => by cases hb), List.nil_append, isW_bytes, all_in acc h, valid_glue r acc.length acc (Nat.le_refl _), List.all_append, List.all_cons, e32, Bool.true_and]
      generalize decide (acc ≠ []) = x1
      generalize validD acc = x2
      generalize (acc.all fun b => inL b.toNat) = x3
      generalize (spl [] r).all (fun p => decide (p ≠ [])) = x4
      generalize validD r = x5
      generalize (r.all fun b => inL b.toNat) = x6
      cases x1 <;> cases x2 <;> cases x3 <;> cases x4 <;> cases x5 <;> cases x6 <;> rfl
    · have e : spl acc (b :: r) = spl (acc ++ [b]) r := by rw [spl, if_neg hb]
      rw [e, spl_all r (acc ++ [b]) (fun x hx => by
        rcases List.mem_append.1 hx with hx | hx
        · exact h x hx
        · rw [List.mem_singleton] at hx; subst hx; exact hb)]
      rw [List.append_assoc]
      rfl

/-- a line's words, as the document tells them -/
def rwords (l : List UInt8) : Option (List (List UInt8)) := if isL l then (if l = [] then some [] else if (spl [] l).all (fun p => decide (p ≠ [])) then some (spl [] l) else none) else none
/-- a line's words, part by part -/
def lwords (l : List UInt8) : Option (List (List UInt8)) := if l = [] then some [] else if (spl [] l).all isW then some (spl [] l) else none
theorem words_eq (l : List UInt8) : rwords l = lwords l := by
  unfold rwords lwords
  by_cases hne : l = []
  · subst hne
    rw [if_pos (by decide), if_pos rfl, if_pos rfl]
  · rw [if_neg hne, if_neg hne, spl_all l [] (fun b hb => by cases hb), List.nil_append, ← isL_bytes]
    cases isL l <;> cases (spl [] l).all (fun p => decide (p ≠ [])) <;> rfl

/-! ### Split, Join -/
theorem split_nil : split [] [32] = [[]] := by decide
theorem split_eq (l : List UInt8) : split (32 :: l) [32] = [] :: split l [32] := by
  have hix : index (32 :: l) [32] = ((0 : Nat) : Int) := by rw [index]; simp [List.isPrefixOf]
  unfold split
  rw [count_cons_eq, Nat.add_comm, splitK, hix]
  simp
theorem split_ne (b : UInt8) (l : List UInt8) (h : b ≠ 32) : ∃ x t, split l [32] = x :: t ∧ split (b :: l) [32] = (b :: x) :: t := by
  have hp : ([32] : List UInt8).isPrefixOf (b :: l) = false := by simp [List.isPrefixOf, Ne.symm h]
  have hix : index (b :: l) [32] = if index l [32] == -1 then -1 else index l [32] + 1 := by rw [index, hp]; simp
  unfold split
  rw [count_cons_ne b 32 l h]
  by_cases hm : index l [32] = -1
  · rw [count_miss hm]
    exact ⟨l, [], rfl, rfl⟩
  · have hge := index_ge l [32]
    obtain ⟨j, hj⟩ : ∃ j : Nat, index l [32] = j := ⟨(index l [32]).toNat, by omega⟩
    have hix' : index (b :: l) [32] = ((j + 1 : Nat) : Int) := by rw [hix, if_neg (fun e => hm (beq_iff_eq.1 e)), hj]; omega
    have n1 : ¬ ((j : Int) == -1) = true := fun e => by have := beq_iff_eq.1 e; omega
    have n2 : ¬ (((j + 1 : Nat) : Int) == -1) = true := fun e => by have := beq_iff_eq.1 e; omega
    rw [count_hit (by simp) hj, Nat.add_comm, splitK, splitK, hj, hix', if_neg n1, if_neg n2]
    refine ⟨_, _, rfl, ?_⟩
    have e1 : ((j : Nat) : Int).toNat = j := by omega
    have e2 : ((j + 1 : Nat) : Int).toNat = j + 1 := by omega
    rw [e1, e2]
    simp
theorem spl_split : ∀ (l acc : List UInt8), ∃ x t, split l [32] = x :: t ∧ spl acc l = (acc ++ x) :: t
  | [], acc => ⟨[], [], split_nil, by simp [spl]⟩
  | b :: r, acc => by
    by_cases hb : b = 32
    · subst hb
      obtain ⟨x, t, h1, h2⟩ := spl_split r []
      refine ⟨[], split r [32], split_eq r, ?_⟩
      rw [spl, if_pos rfl, h2, h1]
      simp
    · obtain ⟨x, t, h1, h2⟩ := spl_split r (acc ++ [b])
      obtain ⟨x', t', h3, h4⟩ := split_ne b r hb
      rw [h1] at h3
      obtain ⟨rfl, rfl⟩ := List.cons.inj h3
      exact ⟨_, _, h4, by rw [spl, if_neg hb, h2]; simp⟩
theorem split_spl (l : List UInt8) : split l [32] = spl [] l := by
  obtain ⟨x, t, h1, h2⟩ := spl_split l []
  rw [h1, h2]
  rfl
theorem spl_word : ∀ (w acc r : List UInt8), (∀ b ∈ w, b ≠ 32) → spl acc (w ++ r) = spl (acc ++ w) r
  | [], acc, r, _ => by simp
  | b :: w, acc, r, h => by
    rw [List.cons_append, spl, if_neg (h b (List.mem_cons_self ..)), spl_word w _ r (fun x hx => h x (List.mem_cons_of_mem _ hx))]
    simp
theorem spl_join : ∀ (ws : List (List UInt8)) (w : List UInt8), (∀ p ∈ w :: ws, ∀ b ∈ p, b ≠ 32) → spl [] (join (w :: ws) [32]) = w :: ws
  | [], w, h => by
    rw [join_one]
    have := spl_word w [] [] (h w (List.mem_cons_self ..))
    rw [List.append_nil, List.nil_append] at this
    rw [this]
    rfl
  | v :: ws, w, h => by
    have e : join (w :: v :: ws) [32] = w ++ 32 :: join (v :: ws) [32] := by
      rw [join_cons, join_cons]
      simp [joinTail]
    rw [e, spl_word w [] _ (h w (List.mem_cons_self ..)), List.nil_append, spl, if_pos rfl, spl_join ws v (fun p hp => h p (List.mem_cons_of_mem _ hp))]
theorem isW_no (p : List UInt8) (h : isW p = true) : (∀ b ∈ p, b ≠ 32) ∧ p ≠ [] := by
  rw [isW_bytes, Bool.and_eq_true, Bool.and_eq_true, decide_eq_true_eq, List.all_eq_true] at h
  refine ⟨?_, h.1⟩
  rintro b hb rfl
  have := h.2.2 _ hb
  exact absurd this (by decide)
theorem join_ne (w : List UInt8) (ws : List (List UInt8)) (h : w ≠ []) : join (w :: ws) [32] ≠ [] := by
  rw [join_cons]
  intro e
  exact h (List.append_eq_nil_iff.1 e).1
/-- words make a line whose words they are -/
theorem join_words (ws : List (List UInt8)) : rwords (join ws [32]) = some ws ↔ ws.all isW = true := by
  rw [words_eq]
  constructor
  · intro h
    unfold lwords at h
    split at h
    · obtain rfl := Option.some.inj h
      rfl
    · split at h
      · rename_i ha
        rw [Option.some.inj h] at ha
        exact ha
      · cases h
  · intro h
    match ws, h with
    | [], _ => rfl
    | w :: ws, h =>
      have ha := List.all_eq_true.1 h
      have hn := isW_no w (ha w (List.mem_cons_self ..))
      unfold lwords
      rw [if_neg (join_ne w ws hn.2), spl_join ws w (fun p hp => (isW_no p (ha p hp)).1), if_pos h]
theorem join_len (ws : List (List UInt8)) (n k : Nat) (hn : ws.length ≤ n) (hk : ∀ p ∈ ws, p.length ≤ k) : (join ws [32]).length ≤ n * (k + 1) := by
  have ht : ∀ (r : List (List UInt8)), (∀ p ∈ r, p.length ≤ k) → (joinTail [32] r).length ≤ r.length * (k + 1) := by
    intro r
    induction r with
    | nil => intro _; simp [joinTail]
    | cons x r ih =>
      intro h
      have := ih (fun p hp => h p (List.mem_cons_of_mem _ hp))
      have hx := h x (List.mem_cons_self ..)
      have e : joinTail [32] (x :: r) = 32 :: (x ++ joinTail [32] r) := rfl
      rw [e, List.length_cons, List.length_append, List.length_cons, Nat.succ_mul]
      omega
  match ws, hn, hk with
  | [], _, _ => simp [join_nil]
  | x :: r, hn, hk =>
    rw [join_cons, List.length_append]
    have h1 := ht r (fun p hp => hk p (List.mem_cons_of_mem _ hp))
    have hx := hk x (List.mem_cons_self ..)
    rw [List.length_cons] at hn
    have h2 : (r.length + 1) * (k + 1) ≤ n * (k + 1) := Nat.mul_le_mul_right _ hn
    rw [Nat.succ_mul] at h2
    omega

/-! ### Names -/
def let' (x : Nat) : Bool := (decide (97 ≤ x) && decide (x ≤ 122)) || (decide (65 ≤ x) && decide (x ≤ 90)) || decide (192 ≤ x)
def mark (x : Nat) : Bool := (decide (48 ≤ x) && decide (x ≤ 57)) || decide (x = 45) || decide (x = 95)
def okAt (k x : Nat) : Bool := let' x || (decide (k ≠ 0) && mark x)
def allFrom : Nat → List (Nat × Nat) → Bool
  | _, [] => true
  | k, x :: r => okAt k x.1 && allFrom (k + 1) r
/-- a name -/
def name (l : List UInt8) : Bool := validD l && (allFrom 0 (sg l) && (decide (1 ≤ (sg l).length) && decide ((sg l).length ≤ 32)))
end Lx
end Go.Proofs.YtennmdpllclmiaaDoor
