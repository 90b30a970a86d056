/-
  Contracts of layer 4 (lex): what the document reads at a text's head.
-/
import Derived.Test.YtennmdpllclmiaaDoorLexWalks
set_option linter.unusedVariables false
namespace Go.Proofs.YtennmdpllclmiaaDoor
open Go.RowKit
/-- no sign is at the head -/
abbrev hb (l : List UInt8) : Prop := (Lib.decodeL l).1 = 65533 ∧ (Lib.decodeL l).2 = 1
/-- the document's reading of a head ends so -/
def FP (l : List UInt8) (w : World) (e : Ending) (w' : World) : Prop :=
  (¬ hb l ∧ e = .returned (.tuple #[.int .i64 (Lib.decodeL l).1, .int .i64 (Lib.decodeL l).2]) ∧ Bl w w') ∨ (hb l ∧ e = .returned (.tuple #[.int .i64 0, .int .i64 0]) ∧ Bl w w')
theorem FP.none {l : List UInt8} {w w' : World} {e : Ending} (hd : Lib.decodeL l = (65533, 1)) (he : e = .returned (.tuple #[.int .i64 0, .int .i64 0])) (h : Bl w w') : FP l w e w' := by
  refine .inr ⟨?_, he, h⟩
  unfold hb
  rw [hd]
  exact ⟨rfl, rfl⟩
theorem FP.some {l : List UInt8} {w w' : World} {e : Ending} {C : Int} {n : Nat} (hd : Lib.decodeL l = (C.toNat, n)) (h0 : 0 ≤ C) (hb : ¬ hb l) (he : e = .returned (.tuple #[.int .i64 C, .int .i64 n])) (h : Bl w w') : FP l w e w' := by
  refine .inl ⟨hb, ?_, h⟩
  rw [hd, he, show ((C.toNat : Nat) : Int) = C by omega]
theorem fc_bd (l : List UInt8) : ∀ k, k ≤ 3 → -100000000 ≤ Lx.fc l k ∧ Lx.fc l k ≤ 100000000 := by
  have b0 := (l.getD 0 0).toNat_lt
  have b1 := (l.getD 1 0).toNat_lt
  have b2 := (l.getD 2 0).toNat_lt
  have b3 := (l.getD 3 0).toNat_lt
  have c : 0 ≤ Lx.c0 (l.getD 0 0).toNat ∧ Lx.c0 (l.getD 0 0).toNat ≤ 255 := by unfold Lx.c0; split <;> (try split) <;> (try split) <;> omega
  intro k hk
  match k, hk with
  | 0, _ =>
    have e : Lx.fc l 0 = Lx.c0 (l.getD 0 0).toNat := rfl
    rw [e]; omega
  | 1, _ =>
    have e : Lx.fc l 1 = Lx.c0 (l.getD 0 0).toNat * 64 + (l.getD 1 0).toNat - 128 := rfl
    rw [e]; omega
  | 2, _ =>
    have e : Lx.fc l 2 = (Lx.c0 (l.getD 0 0).toNat * 64 + (l.getD 1 0).toNat - 128) * 64 + (l.getD 2 0).toNat - 128 := rfl
    rw [e]; omega
  | 3, _ =>
    have e : Lx.fc l 3 = ((Lx.c0 (l.getD 0 0).toNat * 64 + (l.getD 1 0).toNat - 128) * 64 + (l.getD 2 0).toNat - 128) * 64 + (l.getD 3 0).toNat - 128 := rfl
    rw [e]; omega

/-- the loop over a sign's bytes: behind k of them -/
def FL (l : List UInt8) (N : Nat) (c i : Value) : Prop := ∃ k : Nat, k < N ∧ i = .int .i64 ((k : Int) + 1) ∧ ∃ C : Int, c = .int .i64 C ∧ Hid (C = Lx.fc l k) ∧ -100000000 ≤ C ∧ C ≤ 100000000
theorem FL.mk {l : List UInt8} {N : Nat} {c i : Value} (k : Nat) (C : Int) (h1 : k < N) (h2 : i = .int .i64 ((k : Int) + 1)) (h3 : c = .int .i64 C) (h4 : Hid (C = Lx.fc l k)) (h5 : -100000000 ≤ C ∧ C ≤ 100000000) : FL l N c i := ⟨k, h1, h2, C, h3, h4, h5⟩
theorem ext_list (s : ByteArray) (k : Nat) : (s.extract 0 k).toList = s.data.toList.take k := by
  obtain ⟨⟨l⟩⟩ := s
  rw [ByteArray.toList_eq]
  simp
def msr (N : Nat) (i : Value) : Nat := N - (intOf i).toNat
theorem Bl.drewN {a b : World} (h : Bl a b) (n : Nat) : Bl a (b.drewN n) := ⟨h.os, h.tape, h.output, h.size, h.block⟩
end Go.Proofs.YtennmdpllclmiaaDoor
