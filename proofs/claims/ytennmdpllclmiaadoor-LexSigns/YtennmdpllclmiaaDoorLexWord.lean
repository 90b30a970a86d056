/-
  Contracts of layer 4 (lex): words and lines.
-/
import Derived.Test.YtennmdpllclmiaaDoorLexIter
namespace Go.Proofs.YtennmdpllclmiaaDoor
open Go.RowKit

/-- a word gone through up to place p -/
def WI (w1 : World) (s : ByteArray) (wr : World) : Prop :=
  ∃ p : Nat, p ≤ s.size ∧ It w1 wr s p 3 (.slice none 0 0) [] ∧ Hid ((Lx.rest s.data.toList p).all (fun x => Lx.inW x.1) = (Lx.sg s.data.toList).all fun x => Lx.inW x.1) ∧ Hid (Lib.validD (s.data.toList.drop p) = true)
theorem WI.start (w1 : World) (s : ByteArray) (hv : Lib.validD s.data.toList = true) : WI w1 s (w1.iter s 0) := ⟨0, Nat.zero_le _, It.start w1 s 3, Lib.hid rfl, Lib.hid hv⟩
theorem WI.step {w1 wr : World} {s : ByteArray} {p : Nat} (hp : p < s.size) (hI : It w1 wr s p 3 (.slice none 0 0) []) (hA : (Lx.rest s.data.toList p).all (fun x => Lx.inW x.1) = (Lx.sg s.data.toList).all fun x => Lx.inW x.1)
    (hw : p + Lx.wp s.data.toList p ≤ s.size) (hv : Lib.validD (s.data.toList.drop (p + Lx.wp s.data.toList p)) = true) (ho : Lx.inW (Lx.cp s.data.toList p) = true) : WI w1 s (wr.iterAt w1.heap.size s (p + Lx.wp s.data.toList p)) := by
  rw [Lx.rest_step s.data.toList p (by rw [len_list]; exact hp), List.all_cons, ho, Bool.true_and] at hA
  exact ⟨_, hw, hI.move _, Lib.hid hA, Lib.hid hv⟩
theorem isW_no {s : ByteArray} {p : Nat} (hp : p < s.size) (hA : (Lx.rest s.data.toList p).all (fun x => Lx.inW x.1) = (Lx.sg s.data.toList).all fun x => Lx.inW x.1) (ho : Lx.inW (Lx.cp s.data.toList p) = false) : Lx.isW s.data.toList = false := by
  rw [Lx.rest_step s.data.toList p (by rw [len_list]; exact hp), List.all_cons, ho, Bool.false_and] at hA
  unfold Lx.isW
  rw [← hA]
  simp
theorem isW_yes {s : ByteArray} {p : Nat} (hp : ¬ p < s.size) (h0 : s.size ≠ 0) (hv : Lib.validD s.data.toList = true) (hA : (Lx.rest s.data.toList p).all (fun x => Lx.inW x.1) = (Lx.sg s.data.toList).all fun x => Lx.inW x.1) : Lx.isW s.data.toList = true := by
  rw [Lx.rest_end _ _ (by rw [len_list]; omega)] at hA
  have hne : s.data.toList ≠ [] := fun e => h0 (by rw [← len_list, e]; rfl)
  unfold Lx.isW
  rw [← hA, hv, decide_eq_true hne]
  rfl
theorem empty_list {s : ByteArray} (h : s.size = 0) : s.data.toList = [] := List.eq_nil_of_length_eq_zero (by rw [len_list]; exact h)

set_option maxHeartbeats 1000000 in
theorem isWord_any (s : ByteArray) (w : World) (hs : s.size ≤ 1000000) (hV : Vs w) :
    Calls Tryd.prog 34 #[.string s] w fun e w' => e = .returned (.bool (Lx.isW s.data.toList)) ∧ Bl w w' := by
  have R1 := fun W h => right_any s W (by omega) h
  by_cases h0 : s.size = 0
  · have e0 : s.toList.isEmpty = true := by rw [ByteArray.toList_eq, empty_list h0]; rfl
    have e1 : (s.toList == []) = true := by rw [ByteArray.toList_eq, empty_list h0]; rfl
    have HF : Hid (Lx.isW s.data.toList = false) := Lib.hid (by rw [empty_list h0]; rfl)
    clear h0 hV R1
    go_enter Tryd.func34, Tryd.ntmps34
    go_wp2
    go_ret
    exact ⟨ret_bool HF.out.symm, Bl.refl _⟩
  · have hne : s.data.toList ≠ [] := fun e => h0 (by rw [← len_list, e]; rfl)
    have e0 : s.toList.isEmpty = false := by rw [ByteArray.toList_eq, List.isEmpty_eq_false_iff]; exact hne
    have e1 : (s.toList == []) = false := by rw [ByteArray.toList_eq, beq_eq_false_iff_ne]; exact hne
    have H0 := Lib.hid h0
    clear hne h0
    cases hv : Lib.validD s.data.toList with
    | false =>
      rw [hv] at R1
      have HF : Hid (Lx.isW s.data.toList = false) := Lib.hid (by unfold Lx.isW; rw [hv]; simp)
      clear hv
      go_enter Tryd.func34, Tryd.ntmps34
      go_wp2_with fail
      refine (R1 _ hV).mono ?_
      rintro e w1 ⟨rfl, hk⟩
      have HK := Lib.hid hk
      clear hk R1 hV
      go_wp2
      go_ret
      exact ⟨ret_bool HF.out.symm, HK.out⟩
    | true =>
      rw [hv] at R1
      have HV := Lib.hid hv
      clear hv
      go_enter Tryd.func34, Tryd.ntmps34
      go_wp2_with fail
      refine (R1 _ hV).mono ?_
      rintro e w1 ⟨rfl, hk⟩
      have HK := Lib.hid hk
      clear hk R1 hV
      go_wp2
      go_loopw [] (fun wr => WI w1 s wr) (fun wr => s.size - wr.iterPos w1.heap.size)
      case atStart => exact WI.start w1 s HV.out
      case round =>
        obtain ⟨p, hps, hI, hA, hVp⟩ := hrel
        by_cases hp : p < s.size
        · obtain ⟨hw1, hw2⟩ := good_at hp hVp.out
          have HW := Lib.hid hw2
          have hnx := fun ty => hI.next hp ty
          have hcl := cp_le s.data.toList p
          have hwp := Lx.wp_pos s.data.toList p
          have HI := Lib.hid hI
          clear hw2 hI
          by_cases hq : (Lx.cp s.data.toList p : Int) ≤ 32
          · have HF := Lib.hid (isW_no hp hA.out (by unfold Lx.inW; rw [decide_eq_false (by omega : ¬ 32 < Lx.cp s.data.toList p)]; rfl))
            have HB := Lib.hid ((HI.out.move (p + Lx.wp s.data.toList p)).bl)
            go_wp2
            go_ret
            exact ⟨ret_bool HF.out.symm, HK.out.next HB.out⟩
          · have hq1 : (32 : Int) < (Lx.cp s.data.toList p : Int) := by omega
            have hd : decide ((Lx.cp s.data.toList p : Int) ≤ 32) = false := decide_eq_false hq
            by_cases hr : Lx.cp s.data.toList p = 127
            · have HF := Lib.hid (isW_no hp hA.out (by rw [hr]; rfl))
              have HB := Lib.hid ((HI.out.move (p + Lx.wp s.data.toList p)).bl)
              have y : ((Lx.cp s.data.toList p : Int) == 127) = true := by rw [beq_iff_eq]; omega
              clear hr
              go_wp2
              go_ret
              exact ⟨ret_bool HF.out.symm, HK.out.next HB.out⟩
            · have y : ((Lx.cp s.data.toList p : Int) == 127) = false := by rw [beq_eq_false_iff_ne]; omega
              have HN := Lib.hid (WI.step hp HI.out hA.out hw1 HW.out (by unfold Lx.inW; rw [decide_eq_true (by omega : 32 < Lx.cp s.data.toList p), decide_eq_true hr]; rfl))
              have HP := Lib.hid HI.out.pos
              have HP2 := Lib.hid (HI.out.move (p + Lx.wp s.data.toList p)).pos
              clear hr
              go_wp2
              go_roundw
              case rel => exact HN.out
              case measure => rw [HP2.out, HP.out]; omega
        · have hnx := fun ty => hI.done hp ty
          have HI := Lib.hid hI
          have HF := Lib.hid (isW_yes hp H0.out HV.out hA.out)
          clear hI
          go_wp2
          go_ret
          exact ⟨ret_bool HF.out.symm, HK.out.next HI.out.bl⟩

/-- a row of strings -/
def sv (l : List ByteArray) : List Value := l.map Value.string
/-- their bytes -/
def bs (l : List ByteArray) : List (List UInt8) := l.map (·.data.toList)
theorem sv_len (l : List ByteArray) : (sv l).length = l.length := by simp [sv]
theorem bs_len (l : List ByteArray) : (bs l).length = l.length := by simp [bs]
theorem sv_get {l : List ByteArray} {k : Nat} (h : k < l.length) : (sv l)[k]? = some (.string l[k]) := by unfold sv; rw [List.getElem?_map, List.getElem?_eq_getElem h]; rfl
theorem all_take {α : Type} {f : α → Bool} {l : List α} {k : Nat} (hk : k < l.length) (h : (l.take k).all f = true) (h2 : f l[k] = true) : (l.take (k + 1)).all f = true := by
  rw [List.take_add_one, List.getElem?_eq_getElem hk, List.all_append, h]
  simp [h2]

set_option maxHeartbeats 1000000 in
theorem allWords_any (xs : List ByteArray) (u : Value) (w : World) (hu : Sl w u (sv xs)) (hx : xs.length ≤ 1000000) (hs : ∀ x ∈ xs, x.size ≤ 1000000) (hV : Vs w) :
    Calls Tryd.prog 27 #[u] w fun e w' => e = .returned (.bool ((bs xs).all Lx.isW)) ∧ Bl w w' := by
  have HU := Lib.hid hu
  obtain ⟨a, c, rfl, hac, -⟩ := hu
  rw [sv_len] at hac HU ⊢
  have HS := Lib.hid hs
  have HV := Lib.hid hV
  clear hs hV
  go_enter Tryd.func27, Tryd.ntmps27
  go_wp2
  go_loopw [7] (fun i wr => ∃ k : Nat, k ≤ xs.length ∧ i = .int .i64 k ∧ Bl w wr ∧ Hid ((xs.take k).all (fun x => Lx.isW x.data.toList) = true)) (fun i _ => msr xs.length i)
  case atStart => exact ⟨0, Nat.zero_le _, rfl, Bl.refl _, Lib.hid rfl⟩
  case round =>
    obtain ⟨k, hk, rfl, hb, hA⟩ := hrel
    have HB := Lib.hid hb
    clear hb
    by_cases hlt : k < xs.length
    · have z1 : (k : Int) < (xs.length : Int) := by omega
      obtain ⟨a', c', e1, -, hcell⟩ := HU.out.next HB.out
      obtain ⟨b1, o1, e2, -, c1⟩ := hcell k _ (sv_get hlt)
      injection e1 with e1 e3 e4
      clear e3 e4
      subst e1
      subst e2
      have W1 := isWord_any xs[k] wr (HS.out _ (List.getElem_mem hlt)) (HV.out.next HB.out)
      clear hcell
      cases hw : Lx.isW xs[k].data.toList with
      | true =>
        rw [hw] at W1
        have HN := Lib.hid (all_take hlt hA.out hw)
        clear hw
        go_wp2_with fail
        refine W1.mono ?_
        rintro e w1 ⟨rfl, hk1⟩
        have HB1 := Lib.hid (HB.out.next hk1)
        clear hk1 W1
        go_wp2
        go_roundw
        case rel => exact ⟨k + 1, by omega, by go_num, HB1.out, HN⟩
        case measure => simp [msr, intOf]; omega
      | false =>
        rw [hw] at W1
        have HF : Hid ((bs xs).all Lx.isW = false) := Lib.hid (by
          rw [List.all_eq_false]
          exact ⟨xs[k].data.toList, List.mem_map.2 ⟨xs[k], List.getElem_mem hlt, rfl⟩, by rw [hw]; simp⟩)
        clear hw
        go_wp2_with fail
        refine W1.mono ?_
        rintro e w1 ⟨rfl, hk1⟩
        have HB1 := Lib.hid (HB.out.next hk1)
        clear hk1 W1
        go_wp2
        go_ret
        exact ⟨ret_bool HF.out.symm, HB1.out⟩
    · have HF : Hid ((bs xs).all Lx.isW = true) := Lib.hid (by
        have h1 := hA.out
        rw [List.take_of_length_le (by omega)] at h1
        unfold bs
        rw [List.all_map]
        exact h1)
      go_wp2
      go_ret
      exact ⟨ret_bool HF.out.symm, HB.out⟩
end Go.Proofs.YtennmdpllclmiaaDoor
