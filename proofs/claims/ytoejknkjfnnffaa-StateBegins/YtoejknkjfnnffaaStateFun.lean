/-
  Contracts of layer 18 (state): which function sets what commands of a kind set; Sets.
-/
import Derived.Test.YtoejknkjfnnffaaStateCode
import Derived.BigGuard
namespace Go.Proofs.Ytoejknkjfnnffaa
open Go.RowKit

def Sx.fun (op : Int) : Value :=
  if op = 5 then .func (Fn.func 40) #[] #[] else if op = 6 then .func (Fn.func 41) #[] #[] else if op = 7 then .func (Fn.func 42) #[] #[] else if op = 8 then .func (Fn.func 43) #[] #[] else if op = 9 then .func (Fn.func 44) #[] #[] else if op = 10 then .func (Fn.func 45) #[] #[] else if op = 11 then .func (Fn.func 46) #[] #[] else if op = 12 then .func (Fn.func 47) #[] #[] else Value.nilFunc
/-- a function value held against nil -/
theorem eq_func (w : World) (d : Nat) (t : TypeId) (ps rs : Array TypeId) (vd : Bool) (f : Fn) (a c : Array Value) (h : Try.prog.underlying t = some (.func ps rs vd)) : (Op.equalIn (d + 1) t (.func f a c) .nilFunc).run Try.prog w = .ok false w := by
  simp [Op.equalIn, run_underlying h]
theorem eq_nil (w : World) (d : Nat) (t : TypeId) (ps rs : Array TypeId) (vd : Bool) (h : Try.prog.underlying t = some (.func ps rs vd)) : (Op.equalIn (d + 1) t .nilFunc .nilFunc).run Try.prog w = .ok true w := by
  simp [Op.equalIn, run_underlying h]
theorem fn_neq (f : Fn) (a c : Array Value) (w : World) : (Go.binOp .neq 49 (.func f a c) .nilFunc).run Try.prog w = .ok (.bool true) w := by
  simp only [Go.binOp]
  simp [Op.equal, Op.maxDepth, eq_func w 9999 49 _ _ _ f a c Try.underlying49]
theorem fn_eql (f : Fn) (a c : Array Value) (w : World) : (Go.binOp .eql 49 (.func f a c) .nilFunc).run Try.prog w = .ok (.bool false) w := by
  simp only [Go.binOp]
  simp [Op.equal, Op.maxDepth, eq_func w 9999 49 _ _ _ f a c Try.underlying49]
theorem nil_neq (w : World) : (Go.binOp .neq 49 .nilFunc .nilFunc).run Try.prog w = .ok (.bool false) w := by
  simp only [Go.binOp]
  simp [Op.equal, Op.maxDepth, eq_nil w 9999 49 _ _ _ Try.underlying49]
theorem nil_eql (w : World) : (Go.binOp .eql 49 .nilFunc .nilFunc).run Try.prog w = .ok (.bool true) w := by
  simp only [Go.binOp]
  simp [Op.equal, Op.maxDepth, eq_nil w 9999 49 _ _ _ Try.underlying49]
theorem setting_any (op : Int) (w : World) :
    Calls Try.prog 15 #[.int .i64 op] w fun e w' => e = .returned (Sx.fun op) ∧ w = w' := by
  by_cases h5 : op = 5
  · subst h5
    go_enter Try.func15, Try.ntmps15
    go_wp2
    go_ret
    exact ⟨rfl, rfl⟩
  have b5 : (op == 5) = false := by simpa using h5
  by_cases h6 : op = 6
  · subst h6
    go_enter Try.func15, Try.ntmps15
    go_wp2
    go_ret
    exact ⟨rfl, rfl⟩
  have b6 : (op == 6) = false := by simpa using h6
  by_cases h7 : op = 7
  · subst h7
    go_enter Try.func15, Try.ntmps15
    go_wp2
    go_ret
    exact ⟨rfl, rfl⟩
  have b7 : (op == 7) = false := by simpa using h7
  by_cases h8 : op = 8
  · subst h8
    go_enter Try.func15, Try.ntmps15
    go_wp2
    go_ret
    exact ⟨rfl, rfl⟩
  have b8 : (op == 8) = false := by simpa using h8
  by_cases h9 : op = 9
  · subst h9
    go_enter Try.func15, Try.ntmps15
    go_wp2
    go_ret
    exact ⟨rfl, rfl⟩
  have b9 : (op == 9) = false := by simpa using h9
  by_cases h10 : op = 10
  · subst h10
    go_enter Try.func15, Try.ntmps15
    go_wp2
    go_ret
    exact ⟨rfl, rfl⟩
  have b10 : (op == 10) = false := by simpa using h10
  by_cases h11 : op = 11
  · subst h11
    go_enter Try.func15, Try.ntmps15
    go_wp2
    go_ret
    exact ⟨rfl, rfl⟩
  have b11 : (op == 11) = false := by simpa using h11
  by_cases h12 : op = 12
  · subst h12
    go_enter Try.func15, Try.ntmps15
    go_wp2
    go_ret
    exact ⟨rfl, rfl⟩
  have b12 : (op == 12) = false := by simpa using h12
  have HR : Hid (Sx.fun op = Value.nilFunc) := Lib.hid (by unfold Sx.fun; rw [if_neg h5, if_neg h6, if_neg h7, if_neg h8, if_neg h9, if_neg h10, if_neg h11, if_neg h12])
  clear h5 h6 h7 h8 h9 h10 h11 h12
  go_enter Try.func15, Try.ntmps15
  go_wp2
  go_ret
  exact ⟨by rw [HR.out]; rfl, rfl⟩
def Sx.sets (op : Int) : Bool := decide (5 ≤ op) && decide (op ≤ 12)
theorem sets_any (op : Int) (w : World) :
    Calls Try.prog 9 #[.int .i64 op] w fun e w' => e = .returned (.bool (Sx.sets op)) ∧ w = w' := by
  have S1 := fun W => setting_any op W
  have Q1 := fn_neq
  have Q2 := nil_neq
  by_cases h5 : op = 5
  · subst h5
    have S1 : ∀ W, Calls Try.prog 15 #[.int .i64 5] W fun e w' => e = .returned (.func (Fn.func 40) #[] #[]) ∧ W = w' := S1
    go_enter Try.func9, Try.ntmps9
    go_wp2_with (go_at_call 15; (with_reducible refine (S1 _).mono ?_); rintro e w' ⟨rfl, rfl⟩)
    go_ret
    exact ⟨rfl, rfl⟩
  by_cases h6 : op = 6
  · subst h6
    have S1 : ∀ W, Calls Try.prog 15 #[.int .i64 6] W fun e w' => e = .returned (.func (Fn.func 41) #[] #[]) ∧ W = w' := S1
    go_enter Try.func9, Try.ntmps9
    go_wp2_with (go_at_call 15; (with_reducible refine (S1 _).mono ?_); rintro e w' ⟨rfl, rfl⟩)
    go_ret
    exact ⟨rfl, rfl⟩
  by_cases h7 : op = 7
  · subst h7
    have S1 : ∀ W, Calls Try.prog 15 #[.int .i64 7] W fun e w' => e = .returned (.func (Fn.func 42) #[] #[]) ∧ W = w' := S1
    go_enter Try.func9, Try.ntmps9
    go_wp2_with (go_at_call 15; (with_reducible refine (S1 _).mono ?_); rintro e w' ⟨rfl, rfl⟩)
    go_ret
    exact ⟨rfl, rfl⟩
  by_cases h8 : op = 8
  · subst h8
    have S1 : ∀ W, Calls Try.prog 15 #[.int .i64 8] W fun e w' => e = .returned (.func (Fn.func 43) #[] #[]) ∧ W = w' := S1
    go_enter Try.func9, Try.ntmps9
    go_wp2_with (go_at_call 15; (with_reducible refine (S1 _).mono ?_); rintro e w' ⟨rfl, rfl⟩)
    go_ret
    exact ⟨rfl, rfl⟩
  by_cases h9 : op = 9
  · subst h9
    have S1 : ∀ W, Calls Try.prog 15 #[.int .i64 9] W fun e w' => e = .returned (.func (Fn.func 44) #[] #[]) ∧ W = w' := S1
    go_enter Try.func9, Try.ntmps9
    go_wp2_with (go_at_call 15; (with_reducible refine (S1 _).mono ?_); rintro e w' ⟨rfl, rfl⟩)
    go_ret
    exact ⟨rfl, rfl⟩
  by_cases h10 : op = 10
  · subst h10
    have S1 : ∀ W, Calls Try.prog 15 #[.int .i64 10] W fun e w' => e = .returned (.func (Fn.func 45) #[] #[]) ∧ W = w' := S1
    go_enter Try.func9, Try.ntmps9
    go_wp2_with (go_at_call 15; (with_reducible refine (S1 _).mono ?_); rintro e w' ⟨rfl, rfl⟩)
    go_ret
    exact ⟨rfl, rfl⟩
  by_cases h11 : op = 11
  · subst h11
    have S1 : ∀ W, Calls Try.prog 15 #[.int .i64 11] W fun e w' => e = .returned (.func (Fn.func 46) #[] #[]) ∧ W = w' := S1
    go_enter Try.func9, Try.ntmps9
    go_wp2_with (go_at_call 15; (with_reducible refine (S1 _).mono ?_); rintro e w' ⟨rfl, rfl⟩)
    go_ret
    exact ⟨rfl, rfl⟩
  by_cases h12 : op = 12
  · subst h12
    have S1 : ∀ W, Calls Try.prog 15 #[.int .i64 12] W fun e w' => e = .returned (.func (Fn.func 47) #[] #[]) ∧ W = w' := S1
    go_enter Try.func9, Try.ntmps9
    go_wp2_with (go_at_call 15; (with_reducible refine (S1 _).mono ?_); rintro e w' ⟨rfl, rfl⟩)
    go_ret
    exact ⟨rfl, rfl⟩
  have HR : Hid (Sx.sets op = false) := Lib.hid (by rw [← Bool.not_eq_true]; simp [Sx.sets]; omega)
  have e : Sx.fun op = Value.nilFunc := by unfold Sx.fun; rw [if_neg h5, if_neg h6, if_neg h7, if_neg h8, if_neg h9, if_neg h10, if_neg h11, if_neg h12]
  rw [e] at S1
  clear e h5 h6 h7 h8 h9 h10 h11 h12
  go_enter Try.func9, Try.ntmps9
  go_wp2_with (go_at_call 15; (with_reducible refine (S1 _).mono ?_); rintro e w' ⟨rfl, rfl⟩)
  go_ret
  exact ⟨ret_bool HR.out.symm, rfl⟩
end Go.Proofs.Ytoejknkjfnnffaa
