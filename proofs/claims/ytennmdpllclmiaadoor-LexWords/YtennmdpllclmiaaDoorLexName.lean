/-
  Contracts of layer 4 (lex): names.
-/
import Derived.Test.YtennmdpllclmiaaDoorLexIter
namespace Go.Proofs.YtennmdpllclmiaaDoor
open Go.RowKit

set_option maxHeartbeats 400000 in
theorem letter_any (c : Nat) (w : World) : Calls Tryd.prog 29 #[.int .i32 c] w fun e w' => e = .returned (.bool (Lx.let' c)) ∧ w' = w := by
  rcases (show (c : Int) < 65 ∨ ((65 : Int) ≤ c ∧ (c : Int) ≤ 90 ∧ (c : Int) < 97) ∨ ((90 : Int) < c ∧ (65 : Int) ≤ c ∧ (c : Int) < 97) ∨ ((97 : Int) ≤ c ∧ (c : Int) ≤ 122) ∨ ((122 : Int) < c ∧ (97 : Int) ≤ c ∧ (90 : Int) < c ∧ (65 : Int) ≤ c ∧ (c : Int) < 192) ∨ ((192 : Int) ≤ c ∧ (97 : Int) ≤ c ∧ (122 : Int) < c ∧ (90 : Int) < c ∧ (65 : Int) ≤ c) by omega) with h | ⟨h, h1, h2⟩ | ⟨h, h1, h2⟩ | ⟨h, h1⟩ | ⟨h, h1, h2, h3, h4⟩ | ⟨h, h1, h2, h3, h4⟩
  · have e : Lx.let' c = false := by unfold Lx.let'; simp; omega
    rw [e]
    clear e
    go_enter Tryd.func29, Tryd.ntmps29
    go_wp2
    go_ret
    first | exact ⟨rfl, rfl⟩ | exact ⟨ret_bool (by simp; omega), rfl⟩
  · have e : Lx.let' c = true := by unfold Lx.let'; simp; omega
    rw [e]
    clear e
    go_enter Tryd.func29, Tryd.ntmps29
    go_wp2
    go_ret
    first | exact ⟨rfl, rfl⟩ | exact ⟨ret_bool (by simp; omega), rfl⟩
  · have e : Lx.let' c = false := by unfold Lx.let'; simp; omega
    rw [e]
    clear e
    go_enter Tryd.func29, Tryd.ntmps29
    go_wp2
    go_ret
    first | exact ⟨rfl, rfl⟩ | exact ⟨ret_bool (by simp; omega), rfl⟩
  · have e : Lx.let' c = true := by unfold Lx.let'; simp; omega
    rw [e]
    clear e
    go_enter Tryd.func29, Tryd.ntmps29
    go_wp2
    go_ret
    first | exact ⟨rfl, rfl⟩ | exact ⟨ret_bool (by simp; omega), rfl⟩
  · have e : Lx.let' c = false := by unfold Lx.let'; simp; omega
    rw [e]
    clear e
    go_enter Tryd.func29, Tryd.ntmps29
    go_wp2
    go_ret
    first | exact ⟨rfl, rfl⟩ | exact ⟨ret_bool (by simp; omega), rfl⟩
  · have e : Lx.let' c = true := by unfold Lx.let'; simp; omega
    rw [e]
    clear e
    go_enter Tryd.func29, Tryd.ntmps29
    go_wp2
    go_ret
    first | exact ⟨rfl, rfl⟩ | exact ⟨ret_bool (by simp; omega), rfl⟩

set_option maxHeartbeats 400000 in
theorem mark_any (c : Nat) (w : World) : Calls Tryd.prog 30 #[.int .i32 c] w fun e w' => e = .returned (.bool (Lx.mark c)) ∧ w' = w := by
  by_cases h : 48 ≤ c
  · by_cases h' : c ≤ 57
    · have z1 : (48 : Int) ≤ c := by omega
      have z2 : (c : Int) ≤ 57 := by omega
      have e : Lx.mark c = true := by unfold Lx.mark; simp; omega
      rw [e]
      clear e
      go_enter Tryd.func30, Tryd.ntmps30
      go_wp2
      go_ret
      first | exact ⟨rfl, rfl⟩ | exact ⟨ret_bool (by simp; omega), rfl⟩
    · have z1 : (48 : Int) ≤ c := by omega
      have z2 : (57 : Int) < c := by omega
      have n1 : ((c : Int) == 45) = false := by rw [beq_eq_false_iff_ne]; omega
      by_cases h2 : c = 95
      · subst h2
        have e : Lx.mark 95 = true := by decide
        rw [e]
        clear e n1
        go_enter Tryd.func30, Tryd.ntmps30
        go_wp2
        go_ret
        exact ⟨rfl, rfl⟩
      · have n2 : ((c : Int) == 95) = false := by rw [beq_eq_false_iff_ne]; omega
        have e : Lx.mark c = false := by unfold Lx.mark; simp; omega
        rw [e]
        clear e h2
        go_enter Tryd.func30, Tryd.ntmps30
        go_wp2
        go_ret
        first | exact ⟨rfl, rfl⟩ | exact ⟨ret_bool (by simp; omega), rfl⟩
  · have z1 : (c : Int) < 48 := by omega
    have n2 : ((c : Int) == 95) = false := by rw [beq_eq_false_iff_ne]; omega
    by_cases h2 : c = 45
    · subst h2
      have e : Lx.mark 45 = true := by decide
      rw [e]
      clear e n2
      go_enter Tryd.func30, Tryd.ntmps30
      go_wp2
      go_ret
      exact ⟨rfl, rfl⟩
    · have n1 : ((c : Int) == 45) = false := by rw [beq_eq_false_iff_ne]; omega
      have e : Lx.mark c = false := by unfold Lx.mark; simp; omega
      rw [e]
      clear e h2
      go_enter Tryd.func30, Tryd.ntmps30
      go_wp2
      go_ret
      first | exact ⟨rfl, rfl⟩ | exact ⟨ret_bool (by simp; omega), rfl⟩

/-- a name gone through up to place p -/
def NI (w1 : World) (s : ByteArray) (c : Value) (wr : World) : Prop :=
  ∃ (p k : Nat), c = .int .i64 k ∧ k ≤ p ∧ p ≤ s.size ∧ It w1 wr s p 3 (.slice none 0 0) [] ∧ Hid (Lx.allFrom k (Lx.rest s.data.toList p) = Lx.allFrom 0 (Lx.sg s.data.toList)) ∧ Hid (k + (Lx.rest s.data.toList p).length = (Lx.sg s.data.toList).length) ∧ Hid (Lib.validD (s.data.toList.drop p) = true)
theorem NI.start (w1 : World) (s : ByteArray) (hv : Lib.validD s.data.toList = true) : NI w1 s (.int .i64 0) (w1.iter s 0) := ⟨0, 0, rfl, Nat.le_refl _, Nat.zero_le _, It.start w1 s 3, Lib.hid rfl, Lib.hid (by unfold Lx.sg; omega), Lib.hid hv⟩
theorem NI.step {w1 wr : World} {s : ByteArray} {p k : Nat} {c : Value} (hp : p < s.size) (hk : k ≤ p) (hI : It w1 wr s p 3 (.slice none 0 0) []) (hA : Lx.allFrom k (Lx.rest s.data.toList p) = Lx.allFrom 0 (Lx.sg s.data.toList)) (hL : k + (Lx.rest s.data.toList p).length = (Lx.sg s.data.toList).length)
    (hw : p + Lx.wp s.data.toList p ≤ s.size) (hv : Lib.validD (s.data.toList.drop (p + Lx.wp s.data.toList p)) = true) (ho : Lx.okAt k (Lx.cp s.data.toList p) = true) (hc : c = .int .i64 ((k + 1 : Nat) : Int)) : NI w1 s c (wr.iterAt w1.heap.size s (p + Lx.wp s.data.toList p)) := by
  have hq := Lx.wp_pos s.data.toList p
  have hr := Lx.rest_step s.data.toList p (by rw [len_list]; exact hp)
  rw [hr] at hA hL
  rw [List.length_cons] at hL
  rw [Lx.allFrom, ho, Bool.true_and] at hA
  exact ⟨_, k + 1, hc, by omega, hw, hI.move _, Lib.hid hA, Lib.hid (by omega), Lib.hid hv⟩
theorem NI.no {s : ByteArray} {p k : Nat} (hp : p < s.size) (hA : Lx.allFrom k (Lx.rest s.data.toList p) = Lx.allFrom 0 (Lx.sg s.data.toList)) (ho : Lx.okAt k (Lx.cp s.data.toList p) = false) : Lx.name s.data.toList = false := by
  rw [Lx.rest_step s.data.toList p (by rw [len_list]; exact hp), Lx.allFrom, ho, Bool.false_and] at hA
  unfold Lx.name
  rw [← hA]
  simp
theorem NI.fin {s : ByteArray} {p k : Nat} (hp : ¬ p < s.size) (hv : Lib.validD s.data.toList = true) (hA : Lx.allFrom k (Lx.rest s.data.toList p) = Lx.allFrom 0 (Lx.sg s.data.toList)) (hL : k + (Lx.rest s.data.toList p).length = (Lx.sg s.data.toList).length) : Lx.name s.data.toList = (decide (1 ≤ k) && decide (k ≤ 32)) := by
  rw [Lx.rest_end _ _ (by rw [len_list]; omega)] at hA hL
  unfold Lx.name
  rw [← hA, ← hL, hv]
  rfl
theorem okAt_let {k c : Nat} (h : Lx.let' c = true) : Lx.okAt k c = true := by unfold Lx.okAt; rw [h]; rfl
theorem okAt_mark {k c : Nat} (h : Lx.let' c = false) (hk : k ≠ 0) : Lx.okAt k c = Lx.mark c := by unfold Lx.okAt; rw [h, decide_eq_true hk]; rfl
theorem okAt_none {c : Nat} (h : Lx.let' c = false) : Lx.okAt 0 c = false := by unfold Lx.okAt; rw [h]; rfl

set_option maxHeartbeats 1000000 in
theorem name_any (s : ByteArray) (w : World) (hs : s.size ≤ 1000000) (hV : Vs w) :
    Calls Tryd.prog 20 #[.string s] w fun e w' => e = .returned (.bool (Lx.name s.data.toList)) ∧ Bl w w' := by
  have R1 := right_any s w (by omega) hV
  clear hV
  cases hv : Lib.validD s.data.toList with
  | false =>
    rw [hv] at R1
    have HF : Hid (Lx.name s.data.toList = false) := Lib.hid (by unfold Lx.name; rw [hv]; rfl)
    clear hv
    go_enter Tryd.func20, Tryd.ntmps20
    go_wp2_with fail
    refine R1.mono ?_
    rintro e w1 ⟨rfl, hk⟩
    have HK := Lib.hid hk
    clear hk R1
    go_wp2
    go_ret
    exact ⟨ret_bool HF.out.symm, HK.out⟩
  | true =>
    rw [hv] at R1
    have HV := Lib.hid hv
    clear hv
    go_enter Tryd.func20, Tryd.ntmps20
    go_wp2_with fail
    refine R1.mono ?_
    rintro e w1 ⟨rfl, hk⟩
    have HK := Lib.hid hk
    clear hk R1
    go_wp2
    go_loopw [3] (fun c wr => NI w1 s c wr) (fun _ wr => s.size - wr.iterPos w1.heap.size)
    case atStart => exact NI.start w1 s HV.out
    case round =>
      obtain ⟨p, k, rfl, hkp, hps, hI, hA, hL, hVp⟩ := hrel
      by_cases hp : p < s.size
      · obtain ⟨hw1, hw2⟩ := good_at hp hVp.out
        have HW := Lib.hid hw2
        have hnx := fun ty => hI.next hp ty
        have hcl := cp_le s.data.toList p
        have hwp := Lx.wp_pos s.data.toList p
        have HI := Lib.hid hI
        have L1 := fun W => letter_any (Lx.cp s.data.toList p) W
        have M1 := fun W => mark_any (Lx.cp s.data.toList p) W
        clear hw2 hI
        cases hl : Lx.let' (Lx.cp s.data.toList p) with
        | true =>
          rw [hl] at L1
          have HO := Lib.hid (okAt_let (k := k) hl)
          clear hl M1
          have HN := Lib.hid (NI.step (c := .int .i64 ((k : Int) + 1)) hp hkp HI.out hA.out hL.out hw1 HW.out HO.out (by go_num))
          have HP := Lib.hid HI.out.pos
          have HP2 := Lib.hid (HI.out.move (p + Lx.wp s.data.toList p)).pos
          go_wp2_with (go_at_call 29; (with_reducible refine (L1 _).mono ?_); rintro e w2 ⟨rfl, rfl⟩)
          go_roundw
          case rel => exact HN.out
          case measure => rw [HP2.out, HP.out]; omega
        | false =>
          rw [hl] at L1
          by_cases hk0 : k = 0
          · have HF := Lib.hid (NI.no (k := 0) hp (by have := hA.out; rw [hk0] at this; exact this) (okAt_none hl))
            have HB := Lib.hid ((HI.out.move (p + Lx.wp s.data.toList p)).bl)
            have hz : ((k : Int) == 0) = true := by rw [beq_iff_eq]; omega
            clear hl M1 hk0
            go_wp2_with (go_at_call 29; (with_reducible refine (L1 _).mono ?_); rintro e w2 ⟨rfl, rfl⟩)
            go_ret
            exact ⟨ret_bool HF.out.symm, HK.out.next HB.out⟩
          · have hz : ((k : Int) == 0) = false := by rw [beq_eq_false_iff_ne]; omega
            have ho := okAt_mark hl hk0
            cases hm : Lx.mark (Lx.cp s.data.toList p) with
            | true =>
              rw [hm] at M1 ho
              have HO := Lib.hid ho
              clear hl ho hm hk0
              have HN := Lib.hid (NI.step (c := .int .i64 ((k : Int) + 1)) hp hkp HI.out hA.out hL.out hw1 HW.out HO.out (by go_num))
              have HP := Lib.hid HI.out.pos
              have HP2 := Lib.hid (HI.out.move (p + Lx.wp s.data.toList p)).pos
              go_wp2_with (first | (go_at_call 29; (with_reducible refine (L1 _).mono ?_); rintro e w2 ⟨rfl, rfl⟩) | (go_at_call 30; (with_reducible refine (M1 _).mono ?_); rintro e w2 ⟨rfl, rfl⟩))
              go_roundw
              case rel => exact HN.out
              case measure => rw [HP2.out, HP.out]; omega
            | false =>
              rw [hm] at M1 ho
              have HF := Lib.hid (NI.no hp hA.out ho)
              have HB := Lib.hid ((HI.out.move (p + Lx.wp s.data.toList p)).bl)
              clear hl ho hm hk0
              go_wp2_with (first | (go_at_call 29; (with_reducible refine (L1 _).mono ?_); rintro e w2 ⟨rfl, rfl⟩) | (go_at_call 30; (with_reducible refine (M1 _).mono ?_); rintro e w2 ⟨rfl, rfl⟩))
              go_ret
              exact ⟨ret_bool HF.out.symm, HK.out.next HB.out⟩
      · have hnx := fun ty => hI.done hp ty
        have HI := Lib.hid hI
        have HF := Lib.hid (NI.fin hp HV.out hA.out hL.out)
        clear hI
        by_cases h1 : (1 : Int) ≤ k
        · go_wp2
          go_ret
          refine ⟨ret_bool ?_, HK.out.next HI.out.bl⟩
          rw [HF.out, decide_eq_true (by omega : 1 ≤ k), Bool.true_and]
          exact decide_eq_decide.2 (by omega)
        · go_wp2
          go_ret
          refine ⟨ret_bool ?_, HK.out.next HI.out.bl⟩
          rw [HF.out, decide_eq_false (by omega : ¬ 1 ≤ k), Bool.false_and]
end Go.Proofs.YtennmdpllclmiaaDoor
