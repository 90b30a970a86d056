/-
  Contracts of layer 4 (lex): signs, and what the document reads at a text's head.
-/
import Derived.Test.YtennmdpllclmiaaDoorRows
import Derived.Test.YtennmdpllclmiaaDoorLexPlain3
import Derived.WalkKit
import Derived.WalkSpells
import Derived.WalkLawsBesides
import Derived.ProofKit
import Derived.OpenShut
import Derived.Below
import Derived.BigCall
import Derived.Lib.Hide
import Derived.Lib.ConvBytes
import Derived.Lib.OthersKept
import Derived.Deep.RegionHeld3
import Derived.BigQuiet
import Derived.IntWalk
namespace Go.Proofs.YtennmdpllclmiaaDoor
open Go.RowKit

/-- all that stood stands; there may be more -/
abbrev Bl (w w' : World) : Prop := Below w.heap.size w w'
theorem Bl.refl (w : World) : Bl w w := Below.refl _ _
theorem Bl.next {a b c : World} (h : Bl a b) (k : Bl b c) : Bl a c := Below.trans h (Below.mono k (Below.size h))
theorem Bl.alloc (w : World) (o : Obj) : Bl w (w.alloc o) := Below.alloc (Below.refl _ _) (Nat.le_refl _) o
theorem Bl.drew {a b : World} (h : Bl a b) : Bl a b.drew := Below.drew h
theorem len_list (s : ByteArray) : s.data.toList.length = s.size := by simp
theorem get_list (s : ByteArray) (k : Nat) (h : k < s.size) : s.data.toList.getD k 0 = s[k] := by
  rw [List.getD_eq_getElem?_getD, Lib.data_getElem? s k h]
  rfl
theorem ba_list (s : ByteArray) : (⟨s.data.toList.toArray⟩ : ByteArray) = s := by cases s; simp

theorem ret_bool {a b : Bool} (h : a = b) : Ending.returned (.bool a) = .returned (.bool b) := by rw [h]
set_option maxHeartbeats 400000 in
theorem sign_any (c : Int) (w : World) : Calls Tryd.prog 13 #[.int .i64 c] w fun e w' => e = .returned (.bool (Lx.sgn c)) ∧ w' = w := by
  rcases (show c < 0 ∨ (0 ≤ c ∧ c < 55296) ∨ (55296 ≤ c ∧ c ≤ 57343) ∨ (57343 < c ∧ c ≤ 1114111) ∨ 1114111 < c by omega) with h | ⟨h, h'⟩ | ⟨h, h'⟩ | ⟨h, h'⟩ | h
  · have e : Lx.sgn c = false := by unfold Lx.sgn; rw [decide_eq_false (by omega)]
    have n1 : ¬ 0 ≤ c := by omega
    have n2 : ¬ 57343 < c := by omega
    rw [e]
    clear e
    go_enter Tryd.func13, Tryd.ntmps13
    go_wp2
    go_ret
    first | exact ⟨rfl, rfl⟩ | exact ⟨ret_bool (by simp; omega), rfl⟩
  · have e : Lx.sgn c = true := by unfold Lx.sgn; rw [decide_eq_true (by omega)]
    rw [e]
    clear e
    go_enter Tryd.func13, Tryd.ntmps13
    go_wp2
    go_ret
    first | exact ⟨rfl, rfl⟩ | exact ⟨ret_bool (by simp; omega), rfl⟩
  · have e : Lx.sgn c = false := by unfold Lx.sgn; rw [decide_eq_false (by omega)]
    have n1 : 0 ≤ c := by omega
    rw [e]
    clear e
    go_enter Tryd.func13, Tryd.ntmps13
    go_wp2
    go_ret
    first | exact ⟨rfl, rfl⟩ | exact ⟨ret_bool (by simp; omega), rfl⟩
  · have e : Lx.sgn c = true := by unfold Lx.sgn; rw [decide_eq_true (by omega)]
    have n1 : 0 ≤ c := by omega
    have n2 : 55296 ≤ c := by omega
    rw [e]
    clear e
    go_enter Tryd.func13, Tryd.ntmps13
    go_wp2
    go_ret
    first | exact ⟨rfl, rfl⟩ | exact ⟨ret_bool (by simp; omega), rfl⟩
  · have e : Lx.sgn c = false := by unfold Lx.sgn; rw [decide_eq_false (by omega)]
    have n1 : 0 ≤ c := by omega
    have n2 : 55296 ≤ c := by omega
    have n3 : 57343 < c := by omega
    rw [e]
    clear e
    go_enter Tryd.func13, Tryd.ntmps13
    go_wp2
    go_ret
    first | exact ⟨rfl, rfl⟩ | exact ⟨ret_bool (by simp; omega), rfl⟩

/-- v's bytes are l, as long as nothing that stood is turned -/
def Bytes (w : World) (v : Value) (l : List UInt8) : Prop := ∃ b, b < w.heap.size ∧ v = .slice (some ⟨b, 0, none⟩) l.length l.length ∧ ∀ j (h : j < l.length), w.cell? ⟨b, j, none⟩ = some (.int .u8 (l[j].toNat : Nat))
theorem Bytes.next {w w' : World} {v : Value} {l : List UInt8} (h : Bytes w v l) (hb : Bl w w') : Bytes w' v l := by
  obtain ⟨b, h1, h2, h3⟩ := h
  exact ⟨b, Nat.lt_of_lt_of_le h1 hb.size, h2, fun j hj => (hb.cell (p := ⟨b, j, none⟩) h1).trans (h3 j hj)⟩
theorem Bytes.conv {w : World} {v : Value} {l : List UInt8} (h : Bytes w v l) : (convert 33 9 v).run Tryd.prog w = .ok (.string ⟨l.toArray⟩) w := by
  obtain ⟨b, _, rfl, h3⟩ := h
  exact run_convert_bytes_back w 33 9 5 ⟨b, 0, none⟩ l.length l Tryd.underlying33 Tryd.underlying5 Tryd.underlying9 (fun j hj => by
    have e : (⟨b, 0, none⟩ : Addr).add j = ⟨b, j, none⟩ := by simp [Addr.add]; omega
    rw [e, h3 j hj])
theorem bytes_new (w : World) (c : Int) (cs : List Int) (n : Nat) (h : Lib.encodeRuneZ c = cs) (hn : cs.length = n) : Bytes (w.alloc (.cells (cs.map (Value.int .u8)).toArray 5)) (.slice (some ⟨w.heap.size, 0, none⟩) n n) (Lib.encodeRune c) := by
  subst h
  have hl : (Lib.encodeRune c).length = (Lib.encodeRuneZ c).length := by simp [Lib.encodeRune]
  refine ⟨w.heap.size, by simp, by rw [hl, hn], fun j hj => ?_⟩
  have hj' : j < (Lib.encodeRuneZ c).length := by rw [← hl]; exact hj
  have hb := Lib.encodeRuneZ_byte c _ (List.getElem_mem hj')
  have e : (Lib.encodeRune c)[j].toNat = (Lib.encodeRuneZ c)[j].toNat := by
    simp only [Lib.encodeRune, List.getElem_map, Nat.toUInt8, UInt8.toNat_ofNat']
    omega
  rw [e]
  have hh : (w.alloc (.cells ((Lib.encodeRuneZ c).map (Value.int .u8)).toArray 5)).heap[w.heap.size]? = some (.cells ((Lib.encodeRuneZ c).map (Value.int .u8)).toArray 5) := heap_alloc_new _ _
  have e2 : ((Lib.encodeRuneZ c).map (Value.int .u8)).toArray[j]? = some (.int .u8 ((Lib.encodeRuneZ c)[j].toNat : Nat)) := by
    rw [List.getElem?_toArray, List.getElem?_map, List.getElem?_eq_getElem hj', Int.toNat_of_nonneg hb.1]
    rfl
  simp only [World.cell?, hh]
  exact e2

set_option maxHeartbeats 400000 in
theorem lay_any (c : Int) (w : World) (hc : Lx.sgn c = true) :
    Calls Tryd.prog 14 #[.int .i64 c] w fun e w' => ∃ v, e = .returned v ∧ Bytes w' v (Lib.encodeRune c) ∧ Bl w w' := by
  have hr := (Lx.sgn_iff c).1 hc
  have h0 : 0 ≤ c := by omega
  have h1 : c ≤ 1114111 := by omega
  have H3 : Hid (2048 ≤ c → c < 65536 → (2048 ≤ c ∧ c < 55296) ∨ (57343 < c ∧ c ≤ 65535)) := Lib.hid (fun a b => by omega)
  clear hr hc
  rcases (show c < 128 ∨ (128 ≤ c ∧ c < 2048) ∨ (2048 ≤ c ∧ c < 65536) ∨ 65536 ≤ c by omega) with h | ⟨h, h'⟩ | ⟨h, h'⟩ | h
  · go_enter Tryd.func14, Tryd.ntmps14
    go_wp2
    go_ret
    exact ⟨_, rfl, bytes_new w c _ 1 (Lib.encodeRuneZ_one h0 (by omega)) rfl, Bl.alloc _ _⟩
  · go_enter Tryd.func14, Tryd.ntmps14
    go_wp2
    go_ret
    exact ⟨_, rfl, bytes_new w c _ 2 (Lib.encodeRuneZ_two h (by omega)) rfl, Bl.alloc _ _⟩
  · have n1 : 128 ≤ c := by omega
    go_enter Tryd.func14, Tryd.ntmps14
    go_wp2
    go_ret
    exact ⟨_, rfl, bytes_new w c _ 3 (Lib.encodeRuneZ_three (H3.out h h')) rfl, Bl.alloc _ _⟩
  · have n1 : 128 ≤ c := by omega
    have n2 : 2048 ≤ c := by omega
    go_enter Tryd.func14, Tryd.ntmps14
    go_wp2
    go_ret
    exact ⟨_, rfl, bytes_new w c _ 4 (Lib.encodeRuneZ_four h h1) rfl, Bl.alloc _ _⟩

end Go.Proofs.YtennmdpllclmiaaDoor
