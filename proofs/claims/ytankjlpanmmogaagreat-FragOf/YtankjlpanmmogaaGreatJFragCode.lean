/-
  Contracts of layer 19 (frag): which pixels and fragments are right; a stencil is written.
-/
import Derived.Test.YtankjlpanmmogaaGreatJViewIs
import Derived.Test.YtankjlpanmmogaaGreatJRegionOw
import Derived.Test.YtankjlpanmmogaaGreatJEdgeWalks
import Derived.BigGuard
import Derived.RowKit
import Derived.Laws.BitsLemmas
import Derived.Laws.Bits64
import Derived.Lib.Mul64
namespace Go.Proofs.YtankjlpanmmogaaGreat
set_option maxRecDepth 100000
open Go.RowKit

theorem ty_px : Ty 62 6 := ⟨by kernel_rfl, _, Tryz.underlying62, rfl⟩
theorem ty_frag : Ty 53 5 := ⟨by kernel_rfl, _, Tryz.underlying53, rfl⟩
theorem fgwithin_any (lo hi n : Int) (w : World) :
    Calls Tryz.prog 74 #[.int .i64 lo, .int .i64 hi, .int .i64 n] w fun e w' => e = .returned (.bool (Sx.wi lo hi n)) ∧ w = w' := by
  cases h1 : decide (lo ≤ n)
  all_goals
    go_enter Tryz.func74, Tryz.ntmps74
    go_wp2_with go_big_skip
    go_ret
    exact ⟨ret_bool (by simp [Sx.wi, h1]), rfl⟩
theorem Fr.sten_wi (n : Int) : Sx.wi 0 255 n = Sn.is n := by
  rw [Bool.eq_iff_iff, Sx.wi_iff, Sn.is_iff]
set_option linter.unusedSimpArgs false in
set_option maxRecDepth 100000 in
set_option maxHeartbeats 8000000 in
theorem fright_any (p : Sf) (w : World) :
    Calls Tryz.prog 34 #[.agg #[.int .i64 (p 0), .int .i64 (p 1), .int .i64 (p 2), .int .i64 (p 3), .int .i64 (p 4), .int .i64 (p 5)]] w fun e w' => e = .returned (.bool (Fr.right p)) ∧ Kp w.heap.size w w' := by
  have T1 := fun W => right_any (p 0) (p 1) (p 2) (p 3) W
  have W1 := fun W => fgwithin_any 0 65535 (p 4) W
  have W2 := fun W => fgwithin_any 0 255 (p 5) W
  have HR : Hid (Fr.right p = (Tn.right (p 0) (p 1) (p 2) (p 3) && Sx.wi 0 65535 (p 4) && Sx.wi 0 255 (p 5))) := Lib.hid (by unfold Fr.right Fr.deep; rw [Fr.sten_wi]; rfl)
  generalize Tn.right (p 0) (p 1) (p 2) (p 3) = c1 at *
  generalize Sx.wi 0 65535 (p 4) = c2 at *
  generalize Sx.wi 0 255 (p 5) = c3 at *
  generalize Fr.right p = r at *
  have HO := Lib.hid ((Ow.refl w).newAt (w.heap.size) rfl (.int .i64 (p 0)) [.int .i64 (p 1), .int .i64 (p 2), .int .i64 (p 3), .int .i64 (p 4), .int .i64 (p 5)] 62)
  cases c1 <;> cases c2
  all_goals
    go_enter Tryz.func34, Tryz.ntmps34
    go_wp2_with (first
      | go_big_skip
      | ((with_reducible show wpList _ _ _ ({ dst := _, op := Op.load 51 (Operand.tmp 3), type := _, pos := _, after := _, guard := _ } :: _) _ _); refine wpList_ldo ty_color rfl _ rfl _ _ rfl [.int .i64 (p 0), .int .i64 (p 1), .int .i64 (p 2), .int .i64 (p 3), .int .i64 (p 4), .int .i64 (p 5)] rfl (Rc.some (HO.out.at 0 rfl)) ?_; intro us hus; dsimp only [List.drop, List.take] at hus; subst hus)
      | ((with_reducible show wpList _ _ _ ({ dst := _, op := Op.load 3 (Operand.tmp 7), type := _, pos := _, after := _, guard := _ } :: _) _ _); refine wpList_ld1 rfl 4 (.int .i64 (p 4)) (HO.out.at 0 rfl) rfl (fun cc K hK => by go_simp; exact hK) ?_)
      | ((with_reducible show wpList _ _ _ ({ dst := _, op := Op.load 3 (Operand.tmp 12), type := _, pos := _, after := _, guard := _ } :: _) _ _); refine wpList_ld1 rfl 5 (.int .i64 (p 5)) (HO.out.at 0 rfl) rfl (fun cc K hK => by go_simp; exact hK) ?_)
      | (go_at_call 73; (with_reducible refine (T1 _).mono ?_); rintro e wz ⟨rfl, hk1⟩; have l2 := HO.out.call hk1; clear HO hk1; have HO := Lib.hid l2; clear l2)
      | (go_at_call 74; (with_reducible refine (W1 _).mono ?_); rintro e w' ⟨rfl, rfl⟩)
      | (go_at_call 74; (with_reducible refine (W2 _).mono ?_); rintro e w' ⟨rfl, rfl⟩))
    go_ret
    exact ⟨ret_bool (HR.out.trans (by simp)).symm, HO.out.k⟩
set_option linter.unusedSimpArgs false in
set_option maxRecDepth 100000 in
set_option maxHeartbeats 8000000 in
theorem fmay_any (f : Sf) (w : World) :
    Calls Tryz.prog 35 #[.agg #[.int .i64 (f 0), .int .i64 (f 1), .int .i64 (f 2), .int .i64 (f 3), .int .i64 (f 4)]] w fun e w' => e = .returned (.bool (Fr.may f)) ∧ Kp w.heap.size w w' := by
  have T1 := fun W => right_any (f 0) (f 1) (f 2) (f 3) W
  have W1 := fun W => fgwithin_any 0 65535 (f 4) W
  have HR : Hid (Fr.may f = (Tn.right (f 0) (f 1) (f 2) (f 3) && Sx.wi 0 65535 (f 4))) := Lib.hid rfl
  generalize Tn.right (f 0) (f 1) (f 2) (f 3) = c1 at *
  generalize Sx.wi 0 65535 (f 4) = c2 at *
  generalize Fr.may f = r at *
  have HO := Lib.hid ((Ow.refl w).newAt (w.heap.size) rfl (.int .i64 (f 0)) [.int .i64 (f 1), .int .i64 (f 2), .int .i64 (f 3), .int .i64 (f 4)] 53)
  cases c1
  all_goals
    go_enter Tryz.func35, Tryz.ntmps35
    go_wp2_with (first
      | go_big_skip
      | ((with_reducible show wpList _ _ _ ({ dst := _, op := Op.load 51 (Operand.tmp 3), type := _, pos := _, after := _, guard := _ } :: _) _ _); refine wpList_ldo ty_color rfl _ rfl _ _ rfl [.int .i64 (f 0), .int .i64 (f 1), .int .i64 (f 2), .int .i64 (f 3), .int .i64 (f 4)] rfl (Rc.some (HO.out.at 0 rfl)) ?_; intro us hus; dsimp only [List.drop, List.take] at hus; subst hus)
      | ((with_reducible show wpList _ _ _ ({ dst := _, op := Op.load 3 (Operand.tmp 7), type := _, pos := _, after := _, guard := _ } :: _) _ _); refine wpList_ld1 rfl 4 (.int .i64 (f 4)) (HO.out.at 0 rfl) rfl (fun cc K hK => by go_simp; exact hK) ?_)
      | (go_at_call 73; (with_reducible refine (T1 _).mono ?_); rintro e wz ⟨rfl, hk1⟩; have l2 := HO.out.call hk1; clear HO hk1; have HO := Lib.hid l2; clear l2)
      | (go_at_call 74; (with_reducible refine (W1 _).mono ?_); rintro e w' ⟨rfl, rfl⟩))
    go_ret
    exact ⟨ret_bool (HR.out.trans (by simp)).symm, HO.out.k⟩
set_option linter.unusedSimpArgs false in
set_option maxRecDepth 100000 in
set_option maxHeartbeats 8000000 in
theorem fwritten_any (r g b a z o fn rf rd wr fl zf ps : Int) (k : Nat) (w : World) (hn : Sn.chk fn rf rd wr fl zf ps = 0) (hk : k < 3) (ho : Sn.is o = true) :
    Calls Tryz.prog 76 #[.agg #[.int .i64 r, .int .i64 g, .int .i64 b, .int .i64 a, .int .i64 z, .int .i64 o], .agg #[.int .i64 fn, .int .i64 rf, .int .i64 rd, .int .i64 wr, .int .i64 fl, .int .i64 zf, .int .i64 ps], .int .i64 k] w fun e w' => e = .returned (.agg #[.int .i64 r, .int .i64 g, .int .i64 b, .int .i64 a, .int .i64 z, .int .i64 (Sn.put (Sn.deed fl zf ps k) o rf wr)]) ∧ Kp w.heap.size w w' := by
  have P1 := fun W => put_yes fn rf rd wr fl zf ps k o W hn hk ho
  generalize Sn.put (Sn.deed fl zf ps k) o rf wr = X at *
  clear hn hk ho
  have HO := Lib.hid ((((Ow.refl w).newAt (w.heap.size) rfl (.int .i64 r) [.int .i64 g, .int .i64 b, .int .i64 a, .int .i64 z, .int .i64 o] 62).newAt (w.heap.size + 1) (by simp) (.int .i64 fn) [.int .i64 rf, .int .i64 rd, .int .i64 wr, .int .i64 fl, .int .i64 zf, .int .i64 ps] 45).newAt (w.heap.size + 2) (by simp) (.int .i64 0) [.int .i64 0, .int .i64 0, .int .i64 0, .int .i64 0, .int .i64 0] 62)
  go_enter Tryz.func76, Tryz.ntmps76
  go_wp2_with (first
    | ((with_reducible show wpList _ _ _ ({ dst := _, op := Op.load 45 (Operand.tmp 4), type := _, pos := _, after := _, guard := _ } :: _) _ _); refine wpList_ldr ty_sten rfl _ rfl _ rfl _ rfl (HO.out.at 1 rfl) ?_)
    | ((with_reducible show wpList _ _ _ ({ dst := _, op := Op.load 3 (Operand.tmp 10), type := _, pos := _, after := _, guard := _ } :: _) _ _); refine wpList_ld1 rfl 5 (.int .i64 o) (HO.out.at 2 rfl) rfl (fun cc K hK => by go_simp; exact hK) ?_)
    | (go_at_call 107; (with_reducible refine (P1 _).mono ?_); rintro e wz ⟨rfl, hk1⟩; have l2 := HO.out.call hk1; clear HO hk1; have HO := Lib.hid l2; clear l2)
    | ((with_reducible show wpList _ _ _ ({ dst := _, op := Op.store 3 (Operand.tmp 15) _, type := _, pos := _, after := _, guard := _ } :: _) _ _); refine wpList_put1 HO.out 2 rfl 5 (by simp) (.int .i64 X) rfl (fun cc ff K hK => by simp only [List.getElem?_cons_zero, List.getElem?_cons_succ] at cc; go_simp; exact hK) ?_; intro w2 l2; simp only [List.set_cons_zero, List.set_cons_succ] at l2; clear HO; have HO := Lib.hid l2; clear l2)
    | ((with_reducible show wpList _ _ _ ({ dst := _, op := Op.load 62 (Operand.tmp 3), type := _, pos := _, after := _, guard := _ } :: _) _ _); refine wpList_ldr ty_px rfl _ rfl _ rfl _ rfl (HO.out.at 2 rfl) ?_)
    | ((with_reducible show wpList _ _ _ ({ dst := _, op := Op.store 62 (Operand.tmp 6) _, type := _, pos := _, after := _, guard := _ } :: _) _ _); refine wpList_sto ty_px HO.out 0 [.int .i64 r, .int .i64 g, .int .i64 b, .int .i64 a, .int .i64 z, .int .i64 X] rfl _ _ rfl _ rfl rfl _ rfl rfl rfl rfl ?_; intro w2 l2; clear HO; have HO := Lib.hid l2; clear l2))
  refine bodyPost_ret (results_c ty_px rfl rfl rfl (HO.out.at 0 rfl)) rfl ⟨rfl, HO.out.k⟩
end Go.Proofs.YtankjlpanmmogaaGreat

/-
  Plain facts on whole numbers for layer 2 (wide): halves of 64 bits, digits of 16 bits; no program in sight.
-/
namespace Go.Proofs.YtankjlpanmmogaaGreat.Wd
set_option maxRecDepth 100000
open Go.RowKit

/-- the upper half, with its sign, of a number modulo 2^128 -/
def hi (x : Int) : Int := wrap64 (x / 18446744073709551616)
/-- the lower half -/
def lo (x : Int) : Int := x % 18446744073709551616
/-- a digit to the base 2^16 -/
def dg (x : Int) (i : Nat) : Int := x / 65536 ^ i % 65536

theorem hi_bd (x : Int) : -9223372036854775808 ≤ hi x ∧ hi x ≤ 9223372036854775807 := by unfold hi wrap64; omega
theorem lo_bd (x : Int) : 0 ≤ lo x ∧ lo x ≤ 18446744073709551615 := by unfold lo; omega
theorem dg_bd (x : Int) (i : Nat) : 0 ≤ dg x i ∧ dg x i ≤ 65535 := by unfold dg; omega
/-- any two halves are those of a number -/
theorem halves {h l : Int} (hh : -9223372036854775808 ≤ h ∧ h ≤ 9223372036854775807) (hl : 0 ≤ l ∧ l ≤ 18446744073709551615) :
    hi (h * 18446744073709551616 + l) = h ∧ lo (h * 18446744073709551616 + l) = l := by unfold hi lo wrap64; omega
theorem hi_lo (x : Int) : ∃ k : Int, x = hi x * 18446744073709551616 + lo x + k * 340282366920938463463374607431768211456 := by
  refine ⟨(x / 18446744073709551616 + 9223372036854775808) / 18446744073709551616, ?_⟩
  unfold hi lo wrap64; omega

theorem of_neg {n : Int} (h0 : n < 0) (h1 : -9223372036854775808 ≤ n) : hi n = -1 ∧ lo n = n % 18446744073709551616 := by unfold hi lo wrap64; omega
theorem of_pos {n : Int} (h0 : ¬ n < 0) (h1 : n ≤ 9223372036854775807) : hi n = 0 ∧ lo n = n := by unfold hi lo wrap64; omega
theorem add_lo (x y : Int) : lo (x + y) = (lo x + lo y) % 18446744073709551616 := by unfold lo; omega
theorem add_hi (x y : Int) : hi (x + y) = wrap64 (wrap64 (hi x + hi y) + (lo x + lo y) / 18446744073709551616) := by unfold hi lo wrap64; omega
theorem not_neg (x : Int) : hi (-x - 1) = -1 - hi x ∧ lo (-x - 1) = 18446744073709551615 - lo x := by unfold hi lo wrap64; omega
theorem same_iff (x y : Int) : (hi x = hi y ∧ lo x = lo y) ↔ x % 340282366920938463463374607431768211456 = y % 340282366920938463463374607431768211456 := by unfold hi lo wrap64; omega
theorem not_hi (x : Int) : bits .xor .i64 (-1) (hi x) = hi (-x - 1) := by
  have hb := hi_bd x
  have e : bits .xor .i64 (-1) (hi x) = IntKind.i64.wrap (((BitVec.ofInt 64 (-1) ^^^ BitVec.ofInt 64 (hi x)).toNat : Nat) : Int) := rfl
  rw [e, show BitVec.ofInt 64 (-1) = BitVec.allOnes 64 by decide, BitVec.allOnes_xor, BitVec.toNat_not, BitVec.toNat_ofInt, IntKind.wrap_i64, (not_neg x).1]
  generalize hi x = h at *
  omega
theorem not_lo (x : Int) : bits .xor .u64 IntKind.u64.max (lo x) = lo (-x - 1) := by
  have hb := lo_bd x
  have e : bits .xor .u64 IntKind.u64.max (lo x) = IntKind.u64.wrap (((BitVec.ofInt 64 IntKind.u64.max ^^^ BitVec.ofInt 64 (lo x)).toNat : Nat) : Int) := rfl
  rw [e, show BitVec.ofInt 64 IntKind.u64.max = BitVec.allOnes 64 by decide, BitVec.allOnes_xor, BitVec.toNat_not, BitVec.toNat_ofInt, IntKind.wrap_u64, (not_neg x).2]
  generalize lo x = h at *
  omega
/-- the number that two halves stand for, and its amount -/
def sx (x : Int) : Int := hi x * 18446744073709551616 + lo x
def am (x : Int) : Int := if hi x < 0 then -(sx x) else sx x
def ahi (x : Int) : Int := am x / 18446744073709551616
def alo (x : Int) : Int := am x % 18446744073709551616
theorem am_neg {x : Int} (h : hi x < 0) : ahi x = (hi (-x)) % 18446744073709551616 ∧ alo x = lo (-x) := by
  unfold ahi alo am; rw [if_pos h]; unfold sx hi lo wrap64 at *; omega
theorem am_pos {x : Int} (h : ¬ hi x < 0) : ahi x = hi x ∧ alo x = lo x := by
  unfold ahi alo am; rw [if_neg h]; unfold sx hi lo wrap64 at *; omega
/-- a product of two words, its halves -/
def ph (p q : Int) : Int := p * q / 18446744073709551616
def pl (p q : Int) : Int := p * q % 18446744073709551616
theorem u_bd (a : Int) : 0 ≤ IntKind.u64.wrap a ∧ IntKind.u64.wrap a < 18446744073709551616 := by rw [IntKind.wrap_u64]; omega
theorem u_pos {a : Int} (h : 0 ≤ a) (h' : a ≤ 9223372036854775807) : IntKind.u64.wrap a = a := by rw [IntKind.wrap_u64]; omega
theorem mul_halves (a b : Int) (ha : -9223372036854775808 ≤ a ∧ a ≤ 9223372036854775807) (hb : -9223372036854775808 ≤ b ∧ b ≤ 9223372036854775807) :
    lo (a * b) = pl (IntKind.u64.wrap a) (IntKind.u64.wrap b) ∧
    hi (a * b) = wrap64 (ph (IntKind.u64.wrap a) (IntKind.u64.wrap b) - (if a < 0 then b else 0) - (if b < 0 then a else 0)) := by
  rw [IntKind.wrap_u64, IntKind.wrap_u64]
  have e : (a % 18446744073709551616) * (b % 18446744073709551616) = a * b + 18446744073709551616 * ((if a < 0 then b else 0) + (if b < 0 then a else 0)) + (if a < 0 ∧ b < 0 then 340282366920938463463374607431768211456 else 0) := by
    by_cases h0 : a < 0 <;> by_cases h1 : b < 0
    · rw [show a % 18446744073709551616 = a + 18446744073709551616 by omega, show b % 18446744073709551616 = b + 18446744073709551616 by omega, Int.add_mul, Int.mul_add, Int.mul_add, if_pos h0, if_pos h1, if_pos ⟨h0, h1⟩]; omega
    · rw [show a % 18446744073709551616 = a + 18446744073709551616 by omega, show b % 18446744073709551616 = b by omega, Int.add_mul, if_pos h0, if_neg h1, if_neg (fun h => h1 h.2)]; omega
    · rw [show a % 18446744073709551616 = a by omega, show b % 18446744073709551616 = b + 18446744073709551616 by omega, Int.mul_add, if_neg h0, if_pos h1, if_neg (fun h => h0 h.1)]; omega
    · rw [show a % 18446744073709551616 = a by omega, show b % 18446744073709551616 = b by omega, if_neg h0, if_neg h1, if_neg (fun h => h0 h.1)]; omega
  unfold lo hi pl ph wrap64
  rw [e]
  generalize a * b = z
  constructor
  · split <;> omega
  · split <;> split <;> split <;> omega
/-- digits behind k rounds, and what is left -/
def ofD (n : Int) (k j : Nat) : Int := if j < k then dg n j else 0
def ofU (n : Int) (k : Nat) : Int := (n % 18446744073709551616) / 65536 ^ k
theorem ofU_zero (n : Int) : ofU n 0 = n % 18446744073709551616 := by simp [ofU]
theorem ofU_bd (n : Int) (k : Nat) : 0 ≤ ofU n k ∧ ofU n k ≤ 18446744073709551615 := by
  have hp : (0 : Int) < 65536 ^ k := Int.pow_pos (by omega)
  have h0 : 0 ≤ n % 18446744073709551616 := by omega
  refine ⟨Int.ediv_nonneg h0 (by omega), ?_⟩
  have := Int.ediv_le_self (65536 ^ k) h0
  unfold ofU; omega
theorem ofU_succ (n : Int) (k : Nat) : ofU n (k + 1) = ofU n k / 65536 := by
  unfold ofU; rw [Int.pow_succ, Int.ediv_ediv_of_nonneg (Int.le_of_lt (Int.pow_pos (by omega)))]
theorem ofU_dg (n : Int) {k : Nat} (hk : k < 4) : ofU n k % 65536 = dg n k := by
  unfold ofU dg
  rcases k with _ | _ | _ | _ | k
  all_goals (simp only [Int.pow_succ, Int.pow_zero, Nat.reduceAdd]; omega)
theorem ofU_late (n : Int) {k : Nat} (hk : 4 ≤ k) : ofU n (k + 1) = ofU n k := by
  have h : ∀ m : Nat, ofU n (m + 4) = 0 := by
    intro m
    induction m with
    | zero => unfold ofU; simp; omega
    | succ m ih => rw [show m + 1 + 4 = (m + 4) + 1 by omega, ofU_succ, ih]; rfl
  have h1 := h (k - 4)
  have h2 := h (k + 1 - 4)
  rw [show k - 4 + 4 = k by omega] at h1
  rw [show k + 1 - 4 + 4 = k + 1 by omega] at h2
  rw [h1, h2]
theorem dg_neg {n : Int} (h0 : n < 0) (h1 : -9223372036854775808 ≤ n) {k : Nat} (hk : 4 ≤ k) (h8 : k < 8) : dg n k = 65535 := by
  unfold dg
  rcases k with _ | _ | _ | _ | _ | _ | _ | _ | k
  all_goals first | omega | (simp only [Int.pow_succ, Int.pow_zero, Nat.reduceAdd]; omega)
theorem dg_pos {n : Int} (h0 : 0 ≤ n) (h1 : n ≤ 9223372036854775807) {k : Nat} (hk : 4 ≤ k) (h8 : k < 8) : dg n k = 0 := by
  unfold dg
  rcases k with _ | _ | _ | _ | _ | _ | _ | _ | k
  all_goals first | omega | (simp only [Int.pow_succ, Int.pow_zero, Nat.reduceAdd]; omega)
theorem ofD_succ (n : Int) (k j : Nat) : (if j = k then dg n k else ofD n k j) = ofD n (k + 1) j := by
  unfold ofD
  by_cases e : j = k
  · subst e; simp
  · by_cases h : j < k
    · rw [if_neg e, if_pos h, if_pos (by omega)]
    · rw [if_neg e, if_neg h, if_neg (by omega)]
theorem ofD_all (n : Int) {j : Nat} (hj : j < 8) : ofD n 8 j = dg n j := by unfold ofD; rw [if_pos hj]
/-- -1, 0, 1: below, the same, above -/
def cmp (x y : Int) : Int := if hi x = hi y ∧ lo x = lo y then 0 else if hi x < hi y ∨ hi x = hi y ∧ lo x < lo y then -1 else 1
theorem cmp_eq (x y : Int) : cmp x y = if hi x = hi y ∧ lo x = lo y then 0 else if hi x < hi y ∨ hi x = hi y ∧ lo x < lo y then -1 else 1 := rfl

end Go.Proofs.YtankjlpanmmogaaGreat.Wd

/-
  Plain facts on whole numbers for layer 2 (wide), second part: sums and products digit by digit.
-/
namespace Go.Proofs.YtankjlpanmmogaaGreat.Wd
set_option maxRecDepth 100000
open Go.RowKit

theorem dg_def (x : Int) (i : Nat) : dg x i = x / 65536 ^ i % 65536 := rfl
theorem pw (k : Nat) : (0 : Int) < 65536 ^ k := Int.pow_pos (by omega)
/-- the next digit -/
theorem mod_next (x M : Int) (hM : 0 < M) : x % (M * 65536) = x % M + M * (x / M % 65536) := by
  have e1 := Int.mul_ediv_add_emod x M
  have e2 := Int.mul_ediv_add_emod (x / M) 65536
  have b1 := Int.emod_nonneg x (Int.ne_of_gt hM)
  have b2 := Int.emod_lt_of_pos x hM
  have b3 : 0 ≤ x / M % 65536 := by omega
  have b4 : x / M % 65536 ≤ 65535 := by omega
  have b5 := Int.mul_le_mul_of_nonneg_left b4 (Int.le_of_lt hM)
  have b6 := Int.mul_nonneg (Int.le_of_lt hM) b3
  have e3 : x = (x % M + M * (x / M % 65536)) + (M * 65536) * (x / M / 65536) := by grind
  rw [show x % (M * 65536) = ((x % M + M * (x / M % 65536)) + (M * 65536) * (x / M / 65536)) % (M * 65536) by rw [← e3], Int.add_mul_emod_self_left, Int.emod_eq_of_lt] <;> omega

/-- what a sum carries into its digit k -/
def car (x y : Int) (k : Nat) : Int := (x % 65536 ^ k + y % 65536 ^ k) / 65536 ^ k
theorem car_zero (x y : Int) : car x y 0 = 0 := by simp [car]
theorem car_bd (x y : Int) (k : Nat) : 0 ≤ car x y k ∧ car x y k ≤ 1 := by
  have hp := pw k
  unfold car
  generalize (65536 : Int) ^ k = M at *
  have b1 := Int.emod_nonneg x (Int.ne_of_gt hp)
  have b2 := Int.emod_lt_of_pos x hp
  have b3 := Int.emod_nonneg y (Int.ne_of_gt hp)
  have b4 := Int.emod_lt_of_pos y hp
  refine ⟨Int.ediv_nonneg (by omega) (by omega), ?_⟩
  have : (x % M + y % M) / M < 2 := Int.ediv_lt_of_lt_mul hp (by omega)
  omega
theorem add_digit (x y : Int) (k : Nat) : (dg x k + dg y k + car x y k) % 65536 = dg (x + y) k ∧ (dg x k + dg y k + car x y k) / 65536 = car x y (k + 1) := by
  have hp := pw k
  unfold car dg
  rw [Int.pow_succ]
  generalize (65536 : Int) ^ k = M at *
  have e1 := Int.mul_ediv_add_emod x M
  have e2 := Int.mul_ediv_add_emod y M
  have hne := Int.ne_of_gt hp
  have e3 : (x + y) / M = x / M + y / M + (x % M + y % M) / M := by
    have : x + y = (x % M + y % M) + M * (x / M + y / M) := by grind
    rw [this, Int.add_mul_ediv_left _ _ hne]; omega
  constructor
  · rw [e3]; omega
  · rw [mod_next x M hp, mod_next y M hp, ← Int.ediv_ediv_of_nonneg (Int.le_of_lt hp)]
    have : x % M + M * (x / M % 65536) + (y % M + M * (y / M % 65536)) = (x % M + y % M) + M * (x / M % 65536 + y / M % 65536) := by grind
    rw [this, Int.add_mul_ediv_left _ _ hne]
    congr 1; omega

/-- all digits turned -/
theorem dg_not (x : Int) {k : Nat} (hk : k < 8) : 65535 - dg x k = dg (-x - 1) k := by
  unfold dg
  rcases k with _ | _ | _ | _ | _ | _ | _ | _ | k
  all_goals first | omega | (simp only [Int.pow_succ, Int.pow_zero, Nat.reduceAdd]; omega)

/-! ### two halves -/
def twoD (x : Int) (k j : Nat) : Int := if j < k ∨ (4 ≤ j ∧ j < 4 + k) then dg x j else 0
theorem lo_dg (x : Int) {k : Nat} (hk : k < 4) : ofU (lo x) k % 65536 = dg x k := by
  unfold ofU dg lo
  rcases k with _ | _ | _ | _ | k
  all_goals first | omega | (simp only [Int.pow_succ, Int.pow_zero, Nat.reduceAdd]; omega)
theorem hi_dg (x : Int) {k : Nat} (hk : k < 4) : ofU (hi x) k % 65536 = dg x (4 + k) := by
  unfold ofU dg hi wrap64
  rcases k with _ | _ | _ | _ | k
  all_goals first | omega | (simp only [Int.pow_succ, Int.pow_zero, Nat.reduceAdd]; omega)
theorem lo_start (x : Int) : lo x = ofU (lo x) 0 := by rw [ofU_zero]; unfold lo; omega
theorem twoD_set (x : Int) {k : Nat} (j : Nat) (hk : k < 4) : (if j = 4 + k then dg x (4 + k) else if j = k then dg x k else twoD x k j) = twoD x (k + 1) j := by
  unfold twoD
  by_cases e : j = 4 + k
  · subst e; rw [if_pos rfl, if_pos (by omega)]
  · by_cases e1 : j = k
    · subst e1; rw [if_neg e, if_pos rfl, if_pos (by omega)]
    · rw [if_neg e, if_neg e1]
      by_cases h : j < k ∨ (4 ≤ j ∧ j < 4 + k)
      · rw [if_pos h, if_pos (by omega)]
      · rw [if_neg h, if_neg (by omega)]
theorem twoD_all (x : Int) {j : Nat} (hj : j < 8) : twoD x 4 j = dg x j := by unfold twoD; rw [if_pos (by omega)]

/-! ### products -/
/-- what a product carries, behind i digits of x, into digit i + k -/
def mcar (x y : Int) (i k : Nat) : Int := ((x % 65536 ^ i * y) % 65536 ^ (i + k) + dg x i * (y % 65536 ^ k) * 65536 ^ i) / 65536 ^ (i + k)
/-- the digits behind i digits of x, and of the next one k more -/
def mulD (x y : Int) (i k j : Nat) : Int := if j < i + k then dg (x % 65536 ^ (i + 1) * y) j else dg (x % 65536 ^ i * y) j
theorem mcar_zero (x y : Int) (i : Nat) : mcar x y i 0 = 0 := by
  unfold mcar
  simp
  exact Int.ediv_eq_zero_of_lt (Int.emod_nonneg _ (Int.ne_of_gt (pw i))) (Int.emod_lt_of_pos _ (pw i))
theorem mcar_bd (x y : Int) (i k : Nat) : 0 ≤ mcar x y i k ∧ mcar x y i k ≤ 65535 := by
  have hi := pw i
  have hk := pw k
  have hd := dg_bd x i
  unfold mcar
  rw [Int.pow_add]
  generalize x % 65536 ^ i * y = p
  generalize dg x i = a at *
  generalize (65536 : Int) ^ i = I at *
  generalize (65536 : Int) ^ k = K at *
  have hp : 0 < I * K := Int.mul_pos hi hk
  have b1 := Int.emod_nonneg p (Int.ne_of_gt hp)
  have b2 := Int.emod_lt_of_pos p hp
  have b3 := Int.emod_nonneg y (Int.ne_of_gt hk)
  have b4 := Int.emod_lt_of_pos y hk
  have b5 : 0 ≤ a * (y % K) * I := Int.mul_nonneg (Int.mul_nonneg hd.1 b3) (Int.le_of_lt hi)
  have b6 : a * (y % K) * I ≤ 65535 * (I * K) := by
    have h1 : a * (y % K) ≤ 65535 * K := Int.mul_le_mul hd.2 (Int.le_of_lt b4) b3 (by omega)
    have h2 := Int.mul_le_mul_of_nonneg_right h1 (Int.le_of_lt hi)
    grind
  refine ⟨Int.ediv_nonneg (by omega) (Int.le_of_lt hp), ?_⟩
  have : (p % (I * K) + a * (y % K) * I) / (I * K) < 65536 := Int.ediv_lt_of_lt_mul hp (by omega)
  omega
theorem mul_digit (x y : Int) (i k : Nat) :
    (dg (x % 65536 ^ i * y) (i + k) + dg x i * dg y k + mcar x y i k) % 65536 = dg (x % 65536 ^ (i + 1) * y) (i + k) ∧
    (dg (x % 65536 ^ i * y) (i + k) + dg x i * dg y k + mcar x y i k) / 65536 = mcar x y i (k + 1) := by
  have hi := pw i
  have hk := pw k
  have ex : x % 65536 ^ (i + 1) * y = x % 65536 ^ i * y + 65536 ^ i * (dg x i * y) := by
    rw [Int.pow_succ, mod_next x _ hi]; unfold dg; grind
  unfold mcar
  rw [ex, show i + (k + 1) = (i + k) + 1 by omega, Int.pow_succ 65536 (i + k), Int.pow_succ 65536 k]
  rw [dg_def y k, dg_def (x % 65536 ^ i * y) (i + k), dg_def (x % 65536 ^ i * y + 65536 ^ i * (dg x i * y)) (i + k), Int.pow_add]
  generalize x % 65536 ^ i * y = p
  generalize dg x i = a
  generalize (65536 : Int) ^ i = I at *
  generalize (65536 : Int) ^ k = K at *
  have hp : 0 < I * K := Int.mul_pos hi hk
  have hne := Int.ne_of_gt hp
  have e1 := Int.mul_ediv_add_emod p (I * K)
  have e2 := Int.mul_ediv_add_emod y K
  have e3 := Int.mul_ediv_add_emod (y / K) 65536
  have key : p % (I * K * 65536) + a * (y % (K * 65536)) * I = (p % (I * K) + a * (y % K) * I) + (I * K) * (p / (I * K) % 65536 + a * (y / K % 65536)) := by
    rw [mod_next p _ hp, mod_next y _ hk]; grind
  constructor
  · have e4 : p + I * (a * y) = (p % (I * K) + a * (y % K) * I) + (I * K) * (p / (I * K) + a * (y / K)) := by grind
    rw [e4, Int.add_mul_ediv_left _ _ hne]
    have e5 : a * (y / K) = a * (y / K % 65536) + 65536 * (a * (y / K / 65536)) := by grind
    rw [e5]
    generalize (p % (I * K) + a * (y % K) * I) / (I * K) = c
    generalize a * (y / K % 65536) = d
    generalize a * (y / K / 65536) = e
    omega
  · rw [key, ← Int.ediv_ediv_of_nonneg (Int.le_of_lt hp), Int.add_mul_ediv_left _ _ hne]
    congr 1; omega
theorem mulD_start (x y : Int) (j : Nat) : mulD x y 0 0 j = 0 := by unfold mulD dg; simp
/-- one digit of x is done -/
theorem mulD_next (x y : Int) {i k j : Nat} (hik : 8 ≤ i + k) (hj : j < 8) : mulD x y i k j = mulD x y (i + 1) 0 j := by
  unfold mulD
  rw [if_pos (by omega)]
  by_cases h : j < i + 1 + 0
  · rw [if_pos h]
    -- of digits below those that the next one reaches
    have hi := pw (i + 1)
    have ex : x % 65536 ^ (i + 1 + 1) * y = x % 65536 ^ (i + 1) * y + 65536 ^ (i + 1) * (dg x (i + 1) * y) := by
      rw [Int.pow_succ 65536 (i + 1), mod_next x _ hi]; unfold dg; grind
    rw [ex]
    obtain ⟨d, hd⟩ : ∃ d : Nat, i + 1 = j + 1 + d := ⟨i - j, by omega⟩
    unfold dg
    rw [hd, Int.pow_add, Int.pow_succ]
    have hj0 := pw j
    generalize x % (65536 ^ j * 65536 * 65536 ^ d) * y = p
    generalize x / (65536 ^ j * 65536 * 65536 ^ d) % 65536 * y = q
    generalize (65536 : Int) ^ j = J at *
    generalize (65536 : Int) ^ d = E
    have : p + J * 65536 * E * q = p + J * (65536 * (E * q)) := by grind
    rw [this, Int.add_mul_ediv_left _ _ (Int.ne_of_gt hj0)]
    generalize E * q = z
    omega
  · rw [if_neg h]
theorem mulD_set (x y : Int) (i k j : Nat) : (if j = i + k then dg (x % 65536 ^ (i + 1) * y) (i + k) else mulD x y i k j) = mulD x y i (k + 1) j := by
  unfold mulD
  by_cases e : j = i + k
  · subst e; rw [if_pos rfl, if_pos (by omega)]
  · by_cases h : j < i + k
    · rw [if_neg e, if_pos h, if_pos (by omega)]
    · rw [if_neg e, if_neg h, if_neg (by omega)]
theorem mulD_at (x y : Int) (i k : Nat) : mulD x y i k (i + k) = dg (x % 65536 ^ i * y) (i + k) := by unfold mulD; rw [if_neg (by omega)]
theorem mulD_bd (x y : Int) (i k j : Nat) : 0 ≤ mulD x y i k j ∧ mulD x y i k j ≤ 65535 := by unfold mulD; split <;> exact dg_bd _ _
/-- digits are those of the number modulo 2^128 -/
theorem dg_mod (x y : Int) {j : Nat} (hj : j < 8) : mulD x y 8 0 j = dg (x * y) j := by
  unfold mulD
  rw [if_pos (by omega)]
  obtain ⟨d, hd⟩ : ∃ d : Nat, 8 + 1 = j + 1 + d := ⟨8 - j, by omega⟩
  unfold dg
  rw [hd, Int.pow_add, Int.pow_succ]
  have hj0 := pw j
  generalize (65536 : Int) ^ j = J at *
  generalize (65536 : Int) ^ d = E at *
  have e := Int.mul_ediv_add_emod x (J * 65536 * E)
  clear hd
  have : x * y = x % (J * 65536 * E) * y + J * (65536 * (E * (x / (J * 65536 * E) * y))) := by grind
  rw [this, Int.add_mul_ediv_left _ _ (Int.ne_of_gt hj0)]
  generalize E * (x / (J * 65536 * E) * y) = z
  omega
end Go.Proofs.YtankjlpanmmogaaGreat.Wd

/-
  Plain facts on whole numbers for layer 2 (wide), third part: a quotient of two words by one, half a word at a time.
-/
namespace Go.Proofs.YtankjlpanmmogaaGreat.Wd
set_option maxRecDepth 100000
open Go.RowKit
set_option linter.unusedVariables false

section
variable {U Y y1 y0 u q r : Int}
/-- the next half of the quotient -/
def nq (U u Y : Int) : Int := (U * 4294967296 + u) / Y
def nr (U u Y : Int) : Int := (U * 4294967296 + u) % Y
theorem nq_bd (hU : 0 ≤ U) (hUY : U < Y) (hu : 0 ≤ u) (hu1 : u < 4294967296) : 0 ≤ nq U u Y ∧ nq U u Y < 4294967296 := by
  unfold nq
  refine ⟨Int.ediv_nonneg (by omega) (by omega), Int.ediv_lt_of_lt_mul (by omega) ?_⟩
  omega
theorem nr_bd (hU : 0 ≤ U) (hUY : U < Y) : 0 ≤ nr U u Y ∧ nr U u Y < Y :=
  ⟨Int.emod_nonneg _ (by omega), Int.emod_lt_of_pos _ (by omega)⟩
theorem nq_nr (U u Y : Int) : U * 4294967296 + u = nq U u Y * Y + nr U u Y := by
  unfold nq nr; have := Int.mul_ediv_add_emod (U * 4294967296 + u) Y; rw [Int.mul_comm] at this; omega
/-- the first guess -/
theorem guess (hY : Y = y1 * 4294967296 + y0) (h1 : 2147483648 ≤ y1) (h0 : 0 ≤ y0) (h0' : y0 < 4294967296) (hU : 0 ≤ U) (hUY : U < Y) (hu1 : u < 4294967296) :
    0 ≤ U / y1 ∧ U / y1 ≤ 4294967297 ∧ 0 ≤ U - U / y1 * y1 ∧ U - U / y1 * y1 < y1 ∧ nq U u Y ≤ U / y1 := by
  have e := Int.mul_ediv_add_emod U y1
  have b1 := Int.emod_nonneg U (b := y1) (by omega)
  have b2 := Int.emod_lt_of_pos U (b := y1) (by omega)
  rw [Int.mul_comm] at e
  refine ⟨Int.ediv_nonneg hU (by omega), ?_, by omega, by omega, ?_⟩
  · have : U / y1 < 4294967298 := Int.ediv_lt_of_lt_mul (by omega) (by omega)
    omega
  · apply Int.le_ediv_of_mul_le (by omega)
    have k := Int.ediv_mul_le (U * 4294967296 + u) (b := Y) (by omega)
    have hq : 0 ≤ nq U u Y ∨ nq U u Y < 0 := by omega
    change nq U u Y * Y ≤ _ at k
    rcases hq with hq | hq
    · have k2 : nq U u Y * y1 * 4294967296 ≤ U * 4294967296 + u := by
        have : nq U u Y * Y = nq U u Y * y1 * 4294967296 + nq U u Y * y0 := by rw [hY]; grind
        have := Int.mul_nonneg hq h0
        omega
      generalize nq U u Y * y1 = t at *
      omega
    · have : nq U u Y * y1 ≤ 0 := Int.mul_nonpos_of_nonpos_of_nonneg (by omega) (by omega)
      omega
/-- where the test holds the guess is too great -/
theorem too_great (hY : Y = y1 * 4294967296 + y0) (hYp : 0 < Y) (hUq : U = q * y1 + r) (h : 4294967296 * r + u < q * y0) : nq U u Y ≤ q - 1 := by
  have : nq U u Y < q := by
    unfold nq
    apply Int.ediv_lt_of_lt_mul hYp
    rw [hUq, hY]; grind
  omega
theorem too_great' (hU : 0 ≤ U) (hUY : U < Y) (hu : 0 ≤ u) (hu1 : u < 4294967296) (h : 4294967296 ≤ q) : nq U u Y ≤ q - 1 := by
  have := nq_bd hU hUY hu hu1; omega
/-- where it does not, it is the quotient -/
theorem found (hY : Y = y1 * 4294967296 + y0) (hYp : 0 < Y) (hUq : U = q * y1 + r) (hq : nq U u Y ≤ q) (h : q * y0 ≤ 4294967296 * r + u) : q = nq U u Y := by
  have : q ≤ nq U u Y := by
    unfold nq
    apply Int.le_ediv_of_mul_le hYp
    rw [hUq, hY]; grind
  omega
theorem found' (hY : Y = y1 * 4294967296 + y0) (hYp : 0 < Y) (hUq : U = q * y1 + r) (hq : nq U u Y ≤ q) (hu : 0 ≤ u) (h0 : 0 ≤ y0) (h0' : y0 < 4294967296) (hq0 : 0 ≤ q) (hqb : q ≤ 4294967296) (hr : 4294967296 ≤ r) : q = nq U u Y := by
  apply found hY hYp hUq hq
  have : q * y0 ≤ 4294967296 * 4294967296 := Int.mul_le_mul hqb (by omega) h0 (by omega)
  omega
/-- what is left, as words -/
theorem left_word (hU : 0 ≤ U) (hUY : U < Y) (hYw : Y ≤ 18446744073709551615) :
    IntKind.u64.wrap (IntKind.u64.wrap (IntKind.u64.wrap (U * 4294967296) + u) - IntKind.u64.wrap (nq U u Y * Y)) = nr U u Y := by
  have e := nq_nr U u Y
  have b := nr_bd (u := u) hU hUY
  rw [IntKind.wrap_u64, IntKind.wrap_u64, IntKind.wrap_u64, IntKind.wrap_u64]
  generalize nq U u Y * Y = t at *
  generalize nr U u Y = n at *
  omega
end

/-- two halves make the quotient, and what is left -/
theorem two_steps (U V Y : Int) (hU : 0 ≤ U) (hUY : U < Y) (hV : 0 ≤ V) (hV1 : V ≤ 18446744073709551615) :
    (U * 18446744073709551616 + V) / Y = nq U (V / 4294967296) Y * 4294967296 + nq (nr U (V / 4294967296) Y) (V % 4294967296) Y ∧
    (U * 18446744073709551616 + V) % Y = nr (nr U (V / 4294967296) Y) (V % 4294967296) Y := by
  have e1 := nq_nr U (V / 4294967296) Y
  have e2 := nq_nr (nr U (V / 4294967296) Y) (V % 4294967296) Y
  have b1 := nr_bd (u := V / 4294967296) hU hUY
  have b2 := nr_bd (u := V % 4294967296) b1.1 b1.2
  generalize nq U (V / 4294967296) Y = q1 at *
  generalize nr U (V / 4294967296) Y = r1 at *
  generalize nq r1 (V % 4294967296) Y = q0 at *
  generalize nr r1 (V % 4294967296) Y = r0 at *
  have e : U * 18446744073709551616 + V = r0 + Y * (q1 * 4294967296 + q0) := by
    have h1 : q1 * Y * 4294967296 + q0 * Y = Y * (q1 * 4294967296 + q0) := by grind
    rw [← h1]
    generalize q1 * Y = s at *
    generalize q0 * Y = t at *
    omega
  rw [e, Int.add_mul_ediv_left _ _ (by omega), Int.add_mul_emod_self_left, Int.ediv_eq_zero_of_lt b2.1 b2.2, Int.emod_eq_of_lt b2.1 b2.2]
  omega
theorem pow2 (s : Nat) : (0 : Int) < 2 ^ s := Int.pow_pos (by omega)
/-- shifted up -/
theorem scaled (h l y : Int) (s : Nat) (hs : s ≤ 63) (h0 : 0 ≤ h) (hl : 0 ≤ l) (hl1 : l ≤ 18446744073709551615) (hy : y * 2 ^ s ≤ 18446744073709551615) (hhy : h < y) :
    bits .or .u64 (IntKind.u64.wrap (h * 2 ^ s)) (l / 2 ^ (64 - s)) = h * 2 ^ s + l / 2 ^ (64 - s) ∧
    0 ≤ h * 2 ^ s + l / 2 ^ (64 - s) ∧ h * 2 ^ s + l / 2 ^ (64 - s) < y * 2 ^ s ∧
    (h * 2 ^ s + l / 2 ^ (64 - s)) * 18446744073709551616 + IntKind.u64.wrap (l * 2 ^ s) = (h * 18446744073709551616 + l) * 2 ^ s := by
  have e64 : (2 : Int) ^ (64 - s) * 2 ^ s = 18446744073709551616 := by rw [← Int.pow_add, show 64 - s + s = 64 by omega]; decide
  have hS := pow2 s
  have hT := pow2 (64 - s)
  have b0 : 0 ≤ h * 2 ^ s := Int.mul_nonneg h0 (Int.le_of_lt hS)
  have b1 : h * 2 ^ s + 2 ^ s ≤ y * 2 ^ s := by
    have : (h + 1) * 2 ^ s ≤ y * 2 ^ s := Int.mul_le_mul_of_nonneg_right (by omega) (Int.le_of_lt hS)
    grind
  have b2 : 0 ≤ l / 2 ^ (64 - s) := Int.ediv_nonneg hl (Int.le_of_lt hT)
  have b3 : l / 2 ^ (64 - s) < 2 ^ s := by
    apply Int.ediv_lt_of_lt_mul hT
    rw [Int.mul_comm, e64]; omega
  have hw : IntKind.u64.wrap (h * 2 ^ s) = h * 2 ^ s := by rw [IntKind.wrap_u64]; omega
  refine ⟨?_, by omega, by omega, ?_⟩
  · rw [hw]
    refine bits_join .u64 64 (by decide) (fun n p p' => by rw [IntKind.wrap_u64]; omega) s _ _ b0 (Int.mul_emod_left _ _) (by omega) b2 b3 (by omega)
  · have e := Int.mul_ediv_add_emod l (2 ^ (64 - s))
    have m1 := Int.emod_nonneg l (Int.ne_of_gt hT)
    have m2 := Int.emod_lt_of_pos l hT
    have key : l * 2 ^ s = l / 2 ^ (64 - s) * 18446744073709551616 + (l % 2 ^ (64 - s)) * 2 ^ s := by
      rw [← e64]; grind
    have m3 : 0 ≤ (l % 2 ^ (64 - s)) * 2 ^ s := Int.mul_nonneg m1 (Int.le_of_lt hS)
    have m4 : (l % 2 ^ (64 - s)) * 2 ^ s < 18446744073709551616 := by rw [← e64]; exact Int.mul_lt_mul_of_pos_right m2 hS
    rw [show (h * 18446744073709551616 + l) * 2 ^ s = (h * 2 ^ s) * 18446744073709551616 + l * 2 ^ s by grind, IntKind.wrap_u64, key]
    generalize (l % 2 ^ (64 - s)) * 2 ^ s = t at *
    generalize h * 2 ^ s = p at *
    omega
theorem unscaled (N y : Int) (s : Nat) : (N * 2 ^ s) / (y * 2 ^ s) = N / y ∧ (N * 2 ^ s) % (y * 2 ^ s) / 2 ^ s = N % y := by
  have hS := pow2 s
  rw [Int.mul_comm N, Int.mul_comm y, Int.mul_ediv_mul_of_pos _ _ hS, Int.mul_emod_mul_of_pos _ _ hS, Int.mul_ediv_cancel_left _ (Int.ne_of_gt hS)]
  exact ⟨rfl, rfl⟩
end Go.Proofs.YtankjlpanmmogaaGreat.Wd

/-
  Plain facts on whole numbers for layer 2 (wide), fourth part: quotients cut downwards, out of amounts.
-/
namespace Go.Proofs.YtankjlpanmmogaaGreat.Wd
set_option maxRecDepth 100000
open Go.RowKit
set_option linter.unusedVariables false

/-- a quotient of two words by one, as words -/
def dq (h l y : Int) : Int := (h * 18446744073709551616 + l) / y
def dr (h l y : Int) : Int := (h * 18446744073709551616 + l) % y
/-- the quotient cut downwards; whether it is an int; what is answered -/
def fl (x b : Int) : Int := (sx x).fdiv b
def isInt (n : Int) : Prop := -9223372036854775808 ≤ n ∧ n ≤ 9223372036854775807
instance (n : Int) : Decidable (isInt n) := by unfold isInt; infer_instance
def fq (x b : Int) : Int := if isInt (fl x b) then fl x b else 0
def fe (x b : Int) : Int := if isInt (fl x b) then 0 else 3
theorem fq_in {x b : Int} (h : isInt (fl x b)) : fq x b = fl x b ∧ fe x b = 0 := by unfold fq fe; rw [if_pos h, if_pos h]; exact ⟨rfl, rfl⟩
theorem fq_out {x b : Int} (h : ¬ isInt (fl x b)) : fq x b = 0 ∧ fe x b = 3 := by unfold fq fe; rw [if_neg h, if_neg h]; exact ⟨rfl, rfl⟩

theorem am_bd (x : Int) : 0 ≤ am x ∧ am x ≤ 170141183460469231731687303715884105728 := by
  have := hi_bd x; have := lo_bd x
  unfold am sx; split <;> omega
theorem a_bd (x : Int) : 0 ≤ ahi x ∧ ahi x ≤ 18446744073709551615 ∧ 0 ≤ alo x ∧ alo x ≤ 18446744073709551615 ∧ am x = ahi x * 18446744073709551616 + alo x := by
  have := am_bd x
  unfold ahi alo; omega
theorem sx_int {b : Int} (hb : isInt b) : sx b = b := by unfold isInt at hb; unfold sx hi lo wrap64; omega
theorem alo_int {b : Int} (hb : isInt b) : alo b = if b < 0 then -b else b := by
  have e := sx_int hb
  unfold isInt at hb
  unfold alo am
  rw [e]
  have : hi b < 0 ↔ b < 0 := by unfold hi wrap64; omega
  by_cases h : b < 0
  · rw [if_pos h, if_pos (this.2 h)]; omega
  · rw [if_neg h, if_neg (fun k => h (this.1 k))]; omega
theorem fl_same {x b : Int} (hb : isInt b) (hb0 : b ≠ 0) (hs : hi x < 0 ↔ b < 0) : fl x b = dq (ahi x) (alo x) (alo b) := by
  have e := (a_bd x).2.2.2.2
  unfold fl dq
  rw [← e, alo_int hb]
  unfold am
  by_cases h : b < 0
  · rw [if_pos h, if_pos (hs.2 h), ← Int.fdiv_eq_ediv_of_nonneg _ (by omega), Int.neg_fdiv_neg]
  · rw [if_neg h, if_neg (fun k => h (hs.1 k)), ← Int.fdiv_eq_ediv_of_nonneg _ (by omega)]
theorem neg_down (A B : Int) (hB : 0 < B) : (-A).fdiv B = -(A / B) - (if A % B = 0 then 0 else 1) := by
  rw [Int.fdiv_eq_ediv_of_nonneg _ (by omega)]
  have e := Int.mul_ediv_add_emod A B
  have b1 := Int.emod_nonneg A (b := B) (by omega)
  have b2 := Int.emod_lt_of_pos A hB
  by_cases h : A % B = 0
  · rw [if_pos h]
    rw [h] at e
    rw [show -A = 0 + B * (-(A / B)) by grind, Int.add_mul_ediv_left _ _ (by omega), Int.zero_ediv]; omega
  · rw [if_neg h]
    rw [show -A = (B - A % B) + B * (-(A / B) - 1) by grind, Int.add_mul_ediv_left _ _ (by omega), Int.ediv_eq_zero_of_lt (by omega) (by omega)]; omega
theorem fl_other {x b : Int} (hb : isInt b) (hb0 : b ≠ 0) (hs : ¬ (hi x < 0 ↔ b < 0)) :
    fl x b = -(dq (ahi x) (alo x) (alo b)) - (if dr (ahi x) (alo x) (alo b) = 0 then 0 else 1) := by
  have e := (a_bd x).2.2.2.2
  unfold fl dq dr
  rw [← e, alo_int hb]
  unfold am
  by_cases h : b < 0
  · have hx : ¬ hi x < 0 := fun k => hs ⟨fun _ => h, fun _ => k⟩
    rw [if_pos h, if_neg hx, ← neg_down _ _ (by omega), Int.neg_fdiv_neg]
  · have hx : hi x < 0 := Classical.not_not.1 fun k => hs ⟨fun k' => absurd k' k, fun k' => absurd k' h⟩
    rw [if_neg h, if_pos hx, ← neg_down _ _ (by omega), Int.neg_neg]
/-- where the upper word is no less than the divisor the quotient is no int -/
theorem fl_far {x b : Int} (hb : isInt b) (hb0 : b ≠ 0) (h : alo b ≤ ahi x) : ¬ isInt (fl x b) := by
  have hA := a_bd x
  have hB : 0 < alo b := by rw [alo_int hb]; split <;> omega
  have hq : 18446744073709551616 ≤ dq (ahi x) (alo x) (alo b) := by
    unfold dq
    apply Int.le_ediv_of_mul_le hB
    have : 18446744073709551616 * alo b ≤ ahi x * 18446744073709551616 := by omega
    omega
  by_cases hs : hi x < 0 ↔ b < 0
  · rw [fl_same hb hb0 hs]; unfold isInt; omega
  · rw [fl_other hb hb0 hs]; unfold isInt; split <;> omega
theorem dq_bd {h l y : Int} (h0 : 0 ≤ h) (h1 : h < y) (l0 : 0 ≤ l) (l1 : l ≤ 18446744073709551615) : 0 ≤ dq h l y ∧ dq h l y ≤ 18446744073709551615 ∧ 0 ≤ dr h l y ∧ dr h l y < y := by
  unfold dq dr
  have : (h * 18446744073709551616 + l) / y < 18446744073709551616 := Int.ediv_lt_of_lt_mul (by omega) (by omega)
  exact ⟨Int.ediv_nonneg (by omega) (by omega), by omega, Int.emod_nonneg _ (by omega), Int.emod_lt_of_pos _ (by omega)⟩
theorem mul_bd {a b : Int} (ha : isInt a) (hb : isInt b) : -85070591730234615865843651857942052864 ≤ a * b ∧ a * b ≤ 85070591730234615865843651857942052864 := by
  have h1 : (a * b).natAbs ≤ 9223372036854775808 * 9223372036854775808 := by
    rw [Int.natAbs_mul]; unfold isInt at ha hb; exact Nat.mul_le_mul (by omega) (by omega)
  omega
theorem sx_mul {a b : Int} (ha : isInt a) (hb : isInt b) : sx (a * b) = a * b := by
  have := mul_bd ha hb
  generalize a * b = z at *
  unfold sx hi lo wrap64; omega
/-- what must come at any rate -/
theorem wake1 : hi (1099511627776 * 1099511627776) = 65536 ∧ lo (1099511627776 * 1099511627776) = 0 := by unfold hi lo wrap64; omega
theorem wake2 : fq (4611686018427387904 * 6) 8 = 3458764513820540928 ∧ fe (4611686018427387904 * 6) 8 = 0 := by
  have e : fl (4611686018427387904 * 6) 8 = 3458764513820540928 := by
    unfold fl; rw [sx_mul (by unfold isInt; omega) (by unfold isInt; omega)]; decide
  have := fq_in (x := 4611686018427387904 * 6) (b := 8) (by rw [e]; unfold isInt; omega)
  rwa [e] at this
theorem wake3 : fq (-1 * 1) 2 = -1 ∧ fe (-1 * 1) 2 = 0 := by
  have e : fl (-1 * 1) 2 = -1 := by
    unfold fl; rw [sx_mul (by unfold isInt; omega) (by unfold isInt; omega)]; decide
  have := fq_in (x := -1 * 1) (b := 2) (by rw [e]; unfold isInt; omega)
  rwa [e] at this
end Go.Proofs.YtankjlpanmmogaaGreat.Wd

/-
  Plain facts of layer 13 (bary): what is mixed, and between what it lies; no program in sight.
-/
namespace Go.Proofs.YtankjlpanmmogaaGreat
set_option maxRecDepth 100000
open Go.RowKit

/-- from lo to hi? all three? -/
def By.in1 (lo hi a : Int) : Bool := decide (lo ≤ a) && decide (a ≤ hi)
def By.in3 (lo hi a b c : Int) : Bool := By.in1 lo hi a && By.in1 lo hi b && By.in1 lo hi c
theorem By.in1_iff {lo hi a : Int} : By.in1 lo hi a = true ↔ lo ≤ a ∧ a ≤ hi := by simp [By.in1]
theorem By.in1_no {lo hi a : Int} : By.in1 lo hi a = false ↔ a < lo ∨ hi < a := by
  rw [← Bool.not_eq_true, By.in1_iff]; omega
theorem By.in3_iff {lo hi a b c : Int} : By.in3 lo hi a b c = true ↔ (lo ≤ a ∧ a ≤ hi) ∧ (lo ≤ b ∧ b ≤ hi) ∧ (lo ≤ c ∧ c ≤ hi) := by
  simp [By.in3, By.in1, and_assoc]
/-- the sum of weights times numbers, as it grows -/
def By.s1 (a x : Int) : Int := 0 + a * x
def By.s2 (a b x y : Int) : Int := By.s1 a x + b * y
def By.s3 (a b c x y z : Int) : Int := By.s2 a b x y + c * z
def By.mix (a b c x y z : Int) : Int := By.s3 a b c x y z / (a + b + c)
/-- may these be mixed? -/
def By.ok (a b c x y z : Int) : Bool := By.in3 0 4398046511104 a b c && By.in3 (-1073741824) 1073741824 x y z && decide (0 < a + b + c)

section
variable {a b c x y z lo hi : Int}
/-- a product, of a weight and of a number between two -/
theorem By.one (ha : 0 ≤ a) (h : 0 < a → lo ≤ x ∧ x ≤ hi) : a * lo ≤ a * x ∧ a * x ≤ a * hi := by
  by_cases h0 : 0 < a
  · exact ⟨Int.mul_le_mul_of_nonneg_left (h h0).1 ha, Int.mul_le_mul_of_nonneg_left (h h0).2 ha⟩
  · obtain rfl : a = 0 := by omega
    simp
/-- what is mixed lies between the least and the greatest one that has a weight -/
theorem By.between (ha : 0 ≤ a) (hb : 0 ≤ b) (hc : 0 ≤ c) (h0 : 0 < a + b + c) (h1 : 0 < a → lo ≤ x ∧ x ≤ hi) (h2 : 0 < b → lo ≤ y ∧ y ≤ hi) (h3 : 0 < c → lo ≤ z ∧ z ≤ hi) :
    lo ≤ By.mix a b c x y z ∧ By.mix a b c x y z ≤ hi := by
  have k1 := By.one ha h1
  have k2 := By.one hb h2
  have k3 := By.one hc h3
  unfold By.mix By.s3 By.s2 By.s1
  constructor
  · apply Int.le_ediv_of_mul_le h0
    have : lo * (a + b + c) = a * lo + b * lo + c * lo := by grind
    omega
  · have h4 : 0 + a * x + b * y + c * z < (hi + 1) * (a + b + c) := by
      have : (hi + 1) * (a + b + c) = a * hi + b * hi + c * hi + (a + b + c) := by grind
      omega
    have := Int.ediv_lt_of_lt_mul h0 h4
    omega
theorem By.same (h0 : 0 < a + b + c) : By.mix a b c x x x = x := by
  unfold By.mix By.s3 By.s2 By.s1
  rw [show 0 + a * x + b * x + c * x = x * (a + b + c) by grind]
  exact Int.mul_ediv_cancel _ (by omega)
theorem By.alone1 (h : 0 < a) : By.mix a 0 0 x y z = x := by
  unfold By.mix By.s3 By.s2 By.s1
  rw [show 0 + a * x + 0 * y + 0 * z = x * (a + 0 + 0) by grind]
  exact Int.mul_ediv_cancel _ (by omega)
theorem By.alone2 (h : 0 < a) : By.mix 0 a 0 x y z = y := by
  unfold By.mix By.s3 By.s2 By.s1
  rw [show 0 + 0 * x + a * y + 0 * z = y * (0 + a + 0) by grind]
  exact Int.mul_ediv_cancel _ (by omega)
theorem By.alone3 (h : 0 < a) : By.mix 0 0 a x y z = z := by
  unfold By.mix By.s3 By.s2 By.s1
  rw [show 0 + 0 * x + 0 * y + a * z = z * (0 + 0 + a) by grind]
  exact Int.mul_ediv_cancel _ (by omega)
theorem By.mul_le {n m : Int} (h1 : 0 ≤ n) (h2 : n ≤ 4398046511104) (h3 : -1073741824 ≤ m) (h4 : m ≤ 1073741824) : -4722366482869645213696 ≤ n * m ∧ n * m ≤ 4722366482869645213696 := by
  have k : (n * m).natAbs ≤ 4398046511104 * 1073741824 := by rw [Int.natAbs_mul]; exact Nat.mul_le_mul (by omega) (by omega)
  omega
/-- the quotient is an int -/
theorem By.floor (hw : By.in3 0 4398046511104 a b c = true) (hv : By.in3 (-1073741824) 1073741824 x y z = true) (h0 : 0 < a + b + c) :
    Wd.fq (By.s3 a b c x y z) (a + b + c) = By.mix a b c x y z ∧ Wd.fe (By.s3 a b c x y z) (a + b + c) = 0 := by
  obtain ⟨w1, w2, w3⟩ := By.in3_iff.1 hw
  obtain ⟨v1, v2, v3⟩ := By.in3_iff.1 hv
  have hs : Wd.sx (By.s3 a b c x y z) = By.s3 a b c x y z := by
    have k1 := By.mul_le w1.1 w1.2 v1.1 v1.2
    have k2 := By.mul_le w2.1 w2.2 v2.1 v2.2
    have k3 := By.mul_le w3.1 w3.2 v3.1 v3.2
    unfold By.s3 By.s2 By.s1
    generalize a * x = p at *
    generalize b * y = q at *
    generalize c * z = r at *
    unfold Wd.sx Wd.hi Wd.lo wrap64; omega
  have hf : Wd.fl (By.s3 a b c x y z) (a + b + c) = By.mix a b c x y z := by
    unfold Wd.fl By.mix; rw [hs, Int.fdiv_eq_ediv_of_nonneg _ (by omega)]
  have hb := By.between (lo := -1073741824) (hi := 1073741824) w1.1 w2.1 w3.1 h0 (fun _ => v1) (fun _ => v2) (fun _ => v3)
  have hi : Wd.isInt (Wd.fl (By.s3 a b c x y z) (a + b + c)) := by rw [hf]; unfold Wd.isInt; omega
  have := Wd.fq_in hi
  rwa [hf] at this
/-- two digits, the upper one first -/
theorem By.digits (h0 : 0 < a + b + c) :
    (a * (x / 32768) + b * (y / 32768) + c * (z / 32768)) / (a + b + c) * 32768 + (((a * (x / 32768) + b * (y / 32768) + c * (z / 32768)) - (a * (x / 32768) + b * (y / 32768) + c * (z / 32768)) / (a + b + c) * (a + b + c)) * 32768 + (a * (x - 32768 * (x / 32768)) + b * (y - 32768 * (y / 32768)) + c * (z - 32768 * (z / 32768)))) / (a + b + c) = By.mix a b c x y z := by
  unfold By.mix By.s3 By.s2 By.s1
  have e1 : 0 + a * x + b * y + c * z = (a * (x / 32768) + b * (y / 32768) + c * (z / 32768)) * 32768 + (a * (x - 32768 * (x / 32768)) + b * (y - 32768 * (y / 32768)) + c * (z - 32768 * (z / 32768))) := by grind
  rw [e1]
  generalize a * (x / 32768) + b * (y / 32768) + c * (z / 32768) = H
  generalize a * (x - 32768 * (x / 32768)) + b * (y - 32768 * (y / 32768)) + c * (z - 32768 * (z / 32768)) = L
  generalize a + b + c = n at *
  rw [show H * 32768 + L = ((H - H / n * n) * 32768 + L) + n * (H / n * 32768) by grind, Int.add_mul_ediv_left _ _ (by omega)]
  omega
/-- weights of a corner -/
theorem By.corners (a1 a2 b1 b2 c1 c2 : Int) :
    (Eg.side b1 b2 c1 c2 a1 a2 = Eg.side a1 a2 b1 b2 c1 c2 ∧ Eg.side c1 c2 a1 a2 a1 a2 = 0 ∧ Eg.side a1 a2 b1 b2 a1 a2 = 0) ∧
    (Eg.side b1 b2 c1 c2 b1 b2 = 0 ∧ Eg.side c1 c2 a1 a2 b1 b2 = Eg.side a1 a2 b1 b2 c1 c2 ∧ Eg.side a1 a2 b1 b2 b1 b2 = 0) ∧
    (Eg.side b1 b2 c1 c2 c1 c2 = 0 ∧ Eg.side c1 c2 a1 a2 c1 c2 = 0) := by
  unfold Eg.side
  refine ⟨⟨?_, ?_, ?_⟩, ⟨?_, ?_, ?_⟩, ?_, ?_⟩ <;> grind
theorem By.side_bd {a1 a2 b1 b2 p1 p2 : Int} (ha : Eg.may a1 a2 = true) (hb : Eg.may b1 b2 = true) (hp : Eg.may p1 p2 = true) : -2199023255552 ≤ Eg.side a1 a2 b1 b2 p1 p2 ∧ Eg.side a1 a2 b1 b2 p1 p2 ≤ 2199023255552 := by
  have := Eg.side_le ha hb hp
  unfold Eg.side; omega
end
end Go.Proofs.YtankjlpanmmogaaGreat

/-
  Plain facts of layer 17 (tri): triangles that are set up, their boxes, what they have at a pixel; no program in sight. A spot is a function of the place: 0, 1 its point, 2 its depth, 3 to 8 its A.
-/
namespace Go.Proofs.YtankjlpanmmogaaGreat
set_option maxRecDepth 100000
open Go.RowKit

/-! ### the least and the greatest one of three -/
def Tr.lo (a b : Int) : Int := if a < b then a else b
def Tr.hi (a b : Int) : Int := if b < a then a else b
def Tr.lo3 (a b c : Int) : Int := Tr.lo (Tr.lo a b) c
def Tr.hi3 (a b c : Int) : Int := Tr.hi (Tr.hi a b) c
theorem Tr.lo3_spec (a b c : Int) : (Tr.lo3 a b c ≤ a ∧ Tr.lo3 a b c ≤ b ∧ Tr.lo3 a b c ≤ c) ∧ (Tr.lo3 a b c = a ∨ Tr.lo3 a b c = b ∨ Tr.lo3 a b c = c) := by
  unfold Tr.lo3 Tr.lo; (repeat' split) <;> omega
theorem Tr.hi3_spec (a b c : Int) : (a ≤ Tr.hi3 a b c ∧ b ≤ Tr.hi3 a b c ∧ c ≤ Tr.hi3 a b c) ∧ (Tr.hi3 a b c = a ∨ Tr.hi3 a b c = b ∨ Tr.hi3 a b c = c) := by
  unfold Tr.hi3 Tr.hi; (repeat' split) <;> omega
theorem Tr.lo3_turn (a b c : Int) : Tr.lo3 b c a = Tr.lo3 a b c := by
  have := Tr.lo3_spec a b c; have := Tr.lo3_spec b c a; omega
theorem Tr.hi3_turn (a b c : Int) : Tr.hi3 b c a = Tr.hi3 a b c := by
  have := Tr.hi3_spec a b c; have := Tr.hi3_spec b c a; omega
theorem Tr.lo3_swap (a b c : Int) : Tr.lo3 a c b = Tr.lo3 a b c := by
  have := Tr.lo3_spec a b c; have := Tr.lo3_spec a c b; omega
theorem Tr.hi3_swap (a b c : Int) : Tr.hi3 a c b = Tr.hi3 a b c := by
  have := Tr.hi3_spec a b c; have := Tr.hi3_spec a c b; omega

/-! ### spots, and triangles that are set up -/
abbrev Sn := Nat → Int
/-- may a spot be? -/
def Tr.small (s : Sn) (j : Nat) : Bool := (List.range j).all fun i => decide (-1048576 ≤ s (3 + i) ∧ s (3 + i) ≤ 1048576)
def Tr.mayB (s : Sn) : Bool := Eg.may (s 0) (s 1) && decide (0 ≤ s 2 ∧ s 2 ≤ 65535) && Tr.small s 6
def Tr.May (s : Sn) : Prop := Eg.may (s 0) (s 1) = true ∧ (0 ≤ s 2 ∧ s 2 ≤ 65535) ∧ ∀ i, i < 6 → -1048576 ≤ s (3 + i) ∧ s (3 + i) ≤ 1048576
theorem Tr.may_iff {s : Sn} : Tr.mayB s = true ↔ Tr.May s := by
  unfold Tr.mayB Tr.May Tr.small
  simp only [Bool.and_eq_true, decide_eq_true_eq, List.all_eq_true, List.mem_range, and_assoc]
theorem Tr.small_next (s : Sn) (j : Nat) : Tr.small s (j + 1) = (Tr.small s j && decide (-1048576 ≤ s (3 + j) ∧ s (3 + j) ≤ 1048576)) := by unfold Tr.small; rw [List.range_succ, List.all_append]; simp
theorem Tr.small_no {s : Sn} {j : Nat} (hj : j < 6) (h : decide (-1048576 ≤ s (3 + j) ∧ s (3 + j) ≤ 1048576) = false) : Tr.small s 6 = false := by
  rw [← Bool.not_eq_true, Tr.small, List.all_eq_true]
  intro h2
  have := h2 j (List.mem_range.2 hj)
  rw [h] at this; cases this
/-- the side of the third one of the first to the second -/
def Tr.area (a b c : Sn) : Int := Eg.side (a 0) (a 1) (b 0) (b 1) (c 0) (c 1)
/-- is it dropped? -/
def Tr.drop (n cull : Int) : Bool := decide (n = 0) || (decide (n < 0) && decide (cull = 1)) || (decide (0 < n) && decide (cull = 2))
theorem Tr.area_turn (a b c : Sn) : Tr.area b c a = Tr.area a b c := Eg.side_turn _ _ _ _ _ _
theorem Tr.area_swap (a b c : Sn) : Tr.area a c b = -Tr.area a b c := by unfold Tr.area Eg.side; grind
theorem Tr.area_first (a b c : Sn) : Tr.area b a c = -Tr.area a b c := Eg.side_back _ _ _ _ _ _
theorem Tr.area_bd {a b c : Sn} (ha : Tr.May a) (hb : Tr.May b) (hc : Tr.May c) : -2199023255552 ≤ Tr.area a b c ∧ Tr.area a b c ≤ 2199023255552 := By.side_bd ha.1 hb.1 hc.1
/-- the first number of a box, from the least one of its spots; its last one, from the greatest one -/
def Tr.from (m : Int) : Int := -(-(m - 8) / 16)
def Tr.to (m : Int) : Int := (m - 8) / 16 + 1
/-- a box's four numbers -/
def Tr.box (a b c : Sn) : Nat → Int
  | 0 => Tr.from (Tr.lo3 (a 0) (b 0) (c 0))
  | 1 => Tr.from (Tr.lo3 (a 1) (b 1) (c 1))
  | 2 => Tr.to (Tr.hi3 (a 0) (b 0) (c 0))
  | _ => Tr.to (Tr.hi3 (a 1) (b 1) (c 1))
theorem Tr.box_turn (a b c : Sn) : Tr.box b c a = Tr.box a b c := by
  funext i
  unfold Tr.box
  split <;> simp only [Tr.lo3_turn, Tr.hi3_turn]
theorem Tr.box_swap (a b c : Sn) : Tr.box a c b = Tr.box a b c := by
  funext i
  unfold Tr.box
  split <;> first | rw [Tr.lo3_swap] | rw [Tr.hi3_swap]

/-! ### pixels -/
/-- does the triangle have the pixel? -/
def Tr.has (a b c : Sn) (x y : Int) : Bool := Eg.fits x y && Eg.has (a 0) (a 1) (b 0) (b 1) (c 0) (c 1) (16 * x + 8) (16 * y + 8)
/-- what it has there, of the number i of its spots -/
def Tr.at (a b c : Sn) (x y : Int) (i : Nat) : Int :=
  By.mix (Eg.side (b 0) (b 1) (c 0) (c 1) (16 * x + 8) (16 * y + 8)) (Eg.side (c 0) (c 1) (a 0) (a 1) (16 * x + 8) (16 * y + 8)) (Eg.side (a 0) (a 1) (b 0) (b 1) (16 * x + 8) (16 * y + 8)) (a i) (b i) (c i)
theorem Tr.on_le {a1 a2 b1 b2 p1 p2 : Int} (h : Eg.on a1 a2 b1 b2 p1 p2 = true) : 0 ≤ Eg.side a1 a2 b1 b2 p1 p2 := by
  unfold Eg.on at h
  simp only [Bool.or_eq_true, Bool.and_eq_true, decide_eq_true_eq] at h
  omega
/-- the weights of a pixel that it has -/
theorem Tr.weights {a b c : Sn} {x y : Int} (h : Tr.has a b c x y = true) : 0 < Tr.area a b c ∧
    0 ≤ Eg.side (b 0) (b 1) (c 0) (c 1) (16 * x + 8) (16 * y + 8) ∧ 0 ≤ Eg.side (c 0) (c 1) (a 0) (a 1) (16 * x + 8) (16 * y + 8) ∧ 0 ≤ Eg.side (a 0) (a 1) (b 0) (b 1) (16 * x + 8) (16 * y + 8) ∧
    Eg.side (b 0) (b 1) (c 0) (c 1) (16 * x + 8) (16 * y + 8) + Eg.side (c 0) (c 1) (a 0) (a 1) (16 * x + 8) (16 * y + 8) + Eg.side (a 0) (a 1) (b 0) (b 1) (16 * x + 8) (16 * y + 8) = Tr.area a b c := by
  unfold Tr.has Eg.has at h
  simp only [Bool.and_eq_true, decide_eq_true_eq] at h
  obtain ⟨-, ⟨⟨h0, h1⟩, h2⟩, h3⟩ := h
  have := Eg.side_sum (a 0) (a 1) (b 0) (b 1) (c 0) (c 1) (16 * x + 8) (16 * y + 8)
  exact ⟨h0, Tr.on_le h2, Tr.on_le h3, Tr.on_le h1, by unfold Tr.area; omega⟩
theorem Tr.has_turn (a b c : Sn) (x y : Int) : Tr.has b c a x y = Tr.has a b c x y := by
  unfold Tr.has Eg.has
  rw [Eg.side_turn (a 0) (a 1) (b 0) (b 1) (c 0) (c 1)]
  generalize Eg.on (a 0) (a 1) (b 0) (b 1) (16 * x + 8) (16 * y + 8) = p
  generalize Eg.on (b 0) (b 1) (c 0) (c 1) (16 * x + 8) (16 * y + 8) = q
  generalize Eg.on (c 0) (c 1) (a 0) (a 1) (16 * x + 8) (16 * y + 8) = r
  cases p <;> cases q <;> cases r <;> simp
theorem Tr.mix_turn (u v w x y z : Int) : By.mix v w u y z x = By.mix u v w x y z := by
  unfold By.mix By.s3 By.s2 By.s1
  rw [show v + w + u = u + v + w by omega, show 0 + v * y + w * z + u * x = 0 + u * x + v * y + w * z by omega]
theorem Tr.at_turn (a b c : Sn) (x y : Int) (i : Nat) : Tr.at b c a x y i = Tr.at a b c x y i := by
  unfold Tr.at
  exact Tr.mix_turn _ _ _ _ _ _
/-- between what its spots have -/
theorem Tr.at_between {a b c : Sn} {x y : Int} (h : Tr.has a b c x y = true) (i : Nat) : Tr.lo3 (a i) (b i) (c i) ≤ Tr.at a b c x y i ∧ Tr.at a b c x y i ≤ Tr.hi3 (a i) (b i) (c i) := by
  obtain ⟨h0, h1, h2, h3, hs⟩ := Tr.weights h
  have l := (Tr.lo3_spec (a i) (b i) (c i)).1
  have u := (Tr.hi3_spec (a i) (b i) (c i)).1
  exact By.between h1 h2 h3 (by omega) (fun _ => ⟨l.1, u.1⟩) (fun _ => ⟨l.2.1, u.2.1⟩) (fun _ => ⟨l.2.2, u.2.2⟩)
theorem Tr.at_depth {a b c : Sn} {x y : Int} (ha : Tr.May a) (hb : Tr.May b) (hc : Tr.May c) (h : Tr.has a b c x y = true) : 0 ≤ Tr.at a b c x y 2 ∧ Tr.at a b c x y 2 ≤ 65535 := by
  have k := Tr.at_between h 2
  have l := (Tr.lo3_spec (a 2) (b 2) (c 2)).2
  have u := (Tr.hi3_spec (a 2) (b 2) (c 2)).2
  have := ha.2.1; have := hb.2.1; have := hc.2.1
  omega
/-- a point that is weighed lies between: one of its two numbers -/
theorem Tr.lies {A p u v w x y z lo hi : Int} (hA : 0 < A) (hu : 0 ≤ u) (hv : 0 ≤ v) (hw : 0 ≤ w) (hs : u + v + w = A) (he : A * p = u * x + v * y + w * z)
    (hx : lo ≤ x ∧ x ≤ hi) (hy : lo ≤ y ∧ y ≤ hi) (hz : lo ≤ z ∧ z ≤ hi) : lo ≤ p ∧ p ≤ hi := by
  have k1 := By.one hu (fun _ => hx)
  have k2 := By.one hv (fun _ => hy)
  have k3 := By.one hw (fun _ => hz)
  have e1 : A * lo = u * lo + v * lo + w * lo := by rw [← hs]; grind
  have e2 : A * hi = u * hi + v * hi + w * hi := by rw [← hs]; grind
  exact ⟨Int.le_of_mul_le_mul_left (by omega) hA, Int.le_of_mul_le_mul_left (by omega) hA⟩
theorem Tr.bary (a1 a2 b1 b2 c1 c2 p1 p2 : Int) :
    Eg.side a1 a2 b1 b2 c1 c2 * p1 = Eg.side b1 b2 c1 c2 p1 p2 * a1 + Eg.side c1 c2 a1 a2 p1 p2 * b1 + Eg.side a1 a2 b1 b2 p1 p2 * c1 ∧
    Eg.side a1 a2 b1 b2 c1 c2 * p2 = Eg.side b1 b2 c1 c2 p1 p2 * a2 + Eg.side c1 c2 a1 a2 p1 p2 * b2 + Eg.side a1 a2 b1 b2 p1 p2 * c2 := by
  unfold Eg.side; constructor <;> grind
/-- a pixel that it has lies in its box -/
theorem Tr.in_box {a b c : Sn} {x y : Int} (h : Tr.has a b c x y = true) : Tr.box a b c 0 ≤ x ∧ x < Tr.box a b c 2 ∧ Tr.box a b c 1 ≤ y ∧ y < Tr.box a b c 3 := by
  obtain ⟨h0, h1, h2, h3, hs⟩ := Tr.weights h
  obtain ⟨e1, e2⟩ := Tr.bary (a 0) (a 1) (b 0) (b 1) (c 0) (c 1) (16 * x + 8) (16 * y + 8)
  have l0 := (Tr.lo3_spec (a 0) (b 0) (c 0)).1
  have u0 := (Tr.hi3_spec (a 0) (b 0) (c 0)).1
  have l1 := (Tr.lo3_spec (a 1) (b 1) (c 1)).1
  have u1 := (Tr.hi3_spec (a 1) (b 1) (c 1)).1
  have k0 := Tr.lies h0 h1 h2 h3 hs e1 ⟨l0.1, u0.1⟩ ⟨l0.2.1, u0.2.1⟩ ⟨l0.2.2, u0.2.2⟩
  have k1 := Tr.lies h0 h1 h2 h3 hs e2 ⟨l1.1, u1.1⟩ ⟨l1.2.1, u1.2.1⟩ ⟨l1.2.2, u1.2.2⟩
  show Tr.from (Tr.lo3 (a 0) (b 0) (c 0)) ≤ x ∧ x < Tr.to (Tr.hi3 (a 0) (b 0) (c 0)) ∧ Tr.from (Tr.lo3 (a 1) (b 1) (c 1)) ≤ y ∧ y < Tr.to (Tr.hi3 (a 1) (b 1) (c 1))
  unfold Tr.from Tr.to
  omega
/-- its weights and numbers may be mixed -/
theorem Tr.ok {a b c : Sn} {x y : Int} (ha : Tr.May a) (hb : Tr.May b) (hc : Tr.May c) (h : Tr.has a b c x y = true) (i : Nat) (hi : 2 ≤ i) (hi8 : i ≤ 8) :
    By.ok (Eg.side (b 0) (b 1) (c 0) (c 1) (16 * x + 8) (16 * y + 8)) (Eg.side (c 0) (c 1) (a 0) (a 1) (16 * x + 8) (16 * y + 8)) (Eg.side (a 0) (a 1) (b 0) (b 1) (16 * x + 8) (16 * y + 8)) (a i) (b i) (c i) = true := by
  obtain ⟨h0, h1, h2, h3, hs⟩ := Tr.weights h
  have hf : Eg.fits x y = true := by unfold Tr.has at h; exact (Bool.and_eq_true_iff.1 h).1
  have hp : Eg.may (16 * x + 8) (16 * y + 8) = true := by rw [Eg.middle_may]; exact hf
  have s1 := By.side_bd hb.1 hc.1 hp
  have s2 := By.side_bd hc.1 ha.1 hp
  have s3 := By.side_bd ha.1 hb.1 hp
  have num : ∀ s : Sn, Tr.May s → -1073741824 ≤ s i ∧ s i ≤ 1073741824 := fun s hm => by
    rcases Nat.lt_or_ge i 3 with h9 | h9
    · obtain rfl : i = 2 := by omega
      have := hm.2.1; omega
    · have := hm.2.2 (i - 3) (by omega)
      rw [show 3 + (i - 3) = i by omega] at this
      omega
  unfold By.ok
  rw [Bool.and_eq_true, Bool.and_eq_true, By.in3_iff, By.in3_iff, decide_eq_true_iff]
  exact ⟨⟨⟨⟨h1, by omega⟩, ⟨h2, by omega⟩, ⟨h3, by omega⟩⟩, num a ha, num b hb, num c hc⟩, by omega⟩
end Go.Proofs.YtankjlpanmmogaaGreat
