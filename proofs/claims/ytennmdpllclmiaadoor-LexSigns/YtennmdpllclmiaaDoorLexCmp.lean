/-
  Contracts of the document's answers of layer 4: are two rows the same?
-/
import Derived.Test.YtennmdpllclmiaaDoorLexRows
import Derived.Test.YtennmdpllclmiaaDoorLexFirst
import Derived.Deep.QuietTactic
import Derived.Deep.Draws
namespace Go.Proofs.YtennmdpllclmiaaDoor
open Go.RowKit

theorem take_next {α : Type} {xs ys : List α} {k : Nat} {x : α} (h : xs.take k = ys.take k) (h1 : xs[k]? = some x) (h2 : ys[k]? = some x) : xs.take (k + 1) = ys.take (k + 1) := by
  rw [List.take_add_one, List.take_add_one, h, h1, h2]

set_option maxHeartbeats 1000000 in
theorem alike_any (xs ys : List Int) (u v : Value) (w : World) (hu : Sl w u (xs.map (Value.int .i64))) (hv : Sl w v (ys.map (Value.int .i64))) (hx : xs.length ≤ 1000000) (hy : ys.length ≤ 1000000) :
    Calls Tryd.prog 9 #[u, v] w fun e w' => e = .returned (.bool (decide (xs = ys))) ∧ Bl w w' := by
  obtain ⟨a, c, rfl, hac, hu⟩ := hu
  obtain ⟨b, d, rfl, hbd, hv⟩ := hv
  rw [List.length_map] at hac hbd ⊢
  rw [List.length_map]
  by_cases hl : xs.length = ys.length
  · have hn : ((xs.length : Int) == (ys.length : Int)) = true := by rw [beq_iff_eq]; omega
    have HU := Lib.hid hu
    have HV := Lib.hid hv
    have HL := Lib.hid hl
    have hle : (xs.length : Int) ≤ (ys.length : Int) := by omega
    have hge : (ys.length : Int) ≤ (xs.length : Int) := by omega
    clear hu hv hl
    go_enter Tryd.func9, Tryd.ntmps9
    go_wp2
    go_loopw [5] (fun i wr => ∃ k : Nat, k ≤ xs.length ∧ i = .int .i64 k ∧ (∃ m, wr = w.drewN m) ∧ Hid (xs.take k = ys.take k)) (fun i _ => xs.length - (intOf i).toNat)
    case atStart => exact ⟨0, Nat.zero_le _, rfl, ⟨0, rfl⟩, Lib.hid rfl⟩
    case round =>
      obtain ⟨k, hk, rfl, ⟨m, rfl⟩, hT⟩ := hrel
      by_cases hlt : k < xs.length
      · have hlt2 : k < ys.length := by have := HL.out; omega
        have z1 : (k : Int) < (xs.length : Int) := by omega
        have z2 : (k : Int) < (ys.length : Int) := by omega
        obtain ⟨b1, o1, e1, -, c1⟩ := HU.out k (.int .i64 xs[k]) (by rw [List.getElem?_map, List.getElem?_eq_getElem hlt]; rfl)
        obtain ⟨b2, o2, e2, -, c2⟩ := HV.out k (.int .i64 ys[k]) (by rw [List.getElem?_map, List.getElem?_eq_getElem hlt2]; rfl)
        subst e1
        subst e2
        by_cases he : xs[k] = ys[k]
        · have hq : (xs[k] == ys[k]) = true := by rw [beq_iff_eq]; exact he
          have HN := Lib.hid (take_next hT.out (List.getElem?_eq_getElem hlt) (by rw [he]; exact List.getElem?_eq_getElem hlt2))
          clear he
          go_wp2
          go_quiet (fail)
          go_wp2
          go_roundw
          case rel => exact ⟨k + 1, by omega, by go_num, ⟨_, rfl⟩, HN⟩
          case measure => simp [intOf]; omega
        · have hq : (xs[k] == ys[k]) = false := by rw [beq_eq_false_iff_ne]; exact he
          have HF : Hid (decide (xs = ys) = false) := Lib.hid (decide_eq_false (fun e => he (by subst e; rfl)))
          clear he
          go_wp2
          go_quiet (fail)
          go_wp2
          go_ret
          exact ⟨ret_bool HF.out.symm, by first | exact Bl.drewN (Bl.refl _) _ | exact Bl.drewN (Bl.drewN (Bl.refl _) _) _⟩
      · have HF : Hid (decide (xs = ys) = true) := Lib.hid (decide_eq_true (by
          have h1 := hT.out
          have h2 := HL.out
          rw [List.take_of_length_le (by omega), List.take_of_length_le (by omega)] at h1
          exact h1))
        go_wp2
        go_ret
        exact ⟨ret_bool HF.out.symm, by first | exact Bl.drewN (Bl.refl _) _ | exact Bl.drewN (Bl.drewN (Bl.refl _) _) _⟩
  · have hn : ((xs.length : Int) == (ys.length : Int)) = false := by rw [beq_eq_false_iff_ne]; omega
    have HF : Hid (decide (xs = ys) = false) := Lib.hid (decide_eq_false (fun e => hl (by rw [e])))
    clear hu hv hl
    go_enter Tryd.func9, Tryd.ntmps9
    go_wp2
    go_ret
    exact ⟨ret_bool HF.out.symm, Bl.refl _⟩
theorem list_ext {a b : ByteArray} (h : a.toList = b.toList) : a = b := by
  rw [ByteArray.toList_eq, ByteArray.toList_eq] at h
  exact ByteArray.ext (Array.toList_inj.1 h)

set_option maxHeartbeats 1000000 in
theorem same_any (xs ys : List ByteArray) (u v : Value) (w : World) (hu : Sl w u (xs.map (Value.string))) (hv : Sl w v (ys.map (Value.string))) (hx : xs.length ≤ 1000000) (hy : ys.length ≤ 1000000) :
    Calls Tryd.prog 17 #[u, v] w fun e w' => e = .returned (.bool (decide (xs = ys))) ∧ Bl w w' := by
  obtain ⟨a, c, rfl, hac, hu⟩ := hu
  obtain ⟨b, d, rfl, hbd, hv⟩ := hv
  rw [List.length_map] at hac hbd ⊢
  rw [List.length_map]
  by_cases hl : xs.length = ys.length
  · have hn : ((xs.length : Int) == (ys.length : Int)) = true := by rw [beq_iff_eq]; omega
    have HU := Lib.hid hu
    have HV := Lib.hid hv
    have HL := Lib.hid hl
    have hle : (xs.length : Int) ≤ (ys.length : Int) := by omega
    have hge : (ys.length : Int) ≤ (xs.length : Int) := by omega
    clear hu hv hl
    go_enter Tryd.func17, Tryd.ntmps17
    go_wp2
    go_loopw [5] (fun i wr => ∃ k : Nat, k ≤ xs.length ∧ i = .int .i64 k ∧ (∃ m, wr = w.drewN m) ∧ Hid (xs.take k = ys.take k)) (fun i _ => xs.length - (intOf i).toNat)
    case atStart => exact ⟨0, Nat.zero_le _, rfl, ⟨0, rfl⟩, Lib.hid rfl⟩
    case round =>
      obtain ⟨k, hk, rfl, ⟨m, rfl⟩, hT⟩ := hrel
      by_cases hlt : k < xs.length
      · have hlt2 : k < ys.length := by have := HL.out; omega
        have z1 : (k : Int) < (xs.length : Int) := by omega
        have z2 : (k : Int) < (ys.length : Int) := by omega
        obtain ⟨b1, o1, e1, -, c1⟩ := HU.out k (.string xs[k]) (by rw [List.getElem?_map, List.getElem?_eq_getElem hlt]; rfl)
        obtain ⟨b2, o2, e2, -, c2⟩ := HV.out k (.string ys[k]) (by rw [List.getElem?_map, List.getElem?_eq_getElem hlt2]; rfl)
        subst e1
        subst e2
        by_cases he : xs[k] = ys[k]
        · have hq : (xs[k].toList == ys[k].toList) = true := by rw [beq_iff_eq, he]
          have HN := Lib.hid (take_next hT.out (List.getElem?_eq_getElem hlt) (by rw [he]; exact List.getElem?_eq_getElem hlt2))
          clear he
          go_wp2
          go_quiet (fail)
          go_wp2
          go_roundw
          case rel => exact ⟨k + 1, by omega, by go_num, ⟨_, rfl⟩, HN⟩
          case measure => simp [intOf]; omega
        · have hq : (xs[k].toList == ys[k].toList) = false := by rw [beq_eq_false_iff_ne]; exact fun e => he (list_ext e)
          have HF : Hid (decide (xs = ys) = false) := Lib.hid (decide_eq_false (fun e => he (by subst e; rfl)))
          clear he
          go_wp2
          go_quiet (fail)
          go_wp2
          go_ret
          exact ⟨ret_bool HF.out.symm, by first | exact Bl.drewN (Bl.refl _) _ | exact Bl.drewN (Bl.drewN (Bl.refl _) _) _⟩
      · have HF : Hid (decide (xs = ys) = true) := Lib.hid (decide_eq_true (by
          have h1 := hT.out
          have h2 := HL.out
          rw [List.take_of_length_le (by omega), List.take_of_length_le (by omega)] at h1
          exact h1))
        go_wp2
        go_ret
        exact ⟨ret_bool HF.out.symm, by first | exact Bl.drewN (Bl.refl _) _ | exact Bl.drewN (Bl.drewN (Bl.refl _) _) _⟩
  · have hn : ((xs.length : Int) == (ys.length : Int)) = false := by rw [beq_eq_false_iff_ne]; omega
    have HF : Hid (decide (xs = ys) = false) := Lib.hid (decide_eq_false (fun e => hl (by rw [e])))
    clear hu hv hl
    go_enter Tryd.func17, Tryd.ntmps17
    go_wp2
    go_ret
    exact ⟨ret_bool HF.out.symm, Bl.refl _⟩
end Go.Proofs.YtennmdpllclmiaaDoor
