/-
  Contracts of the document's answers of layer 4: names.
-/
import Derived.Test.YtennmdpllclmiaaDoorLexName
namespace Go.Proofs.YtennmdpllclmiaaDoor
open Go.RowKit

theorem from_step {L : List (Nat × Nat)} {k c : Nat} {B : Bool} (hk : k < L.length) (hc : c = (L[k]).1) (hA : Lx.allFrom k (L.drop k) = B) : (Lx.okAt k c && Lx.allFrom (k + 1) (L.drop (k + 1))) = B := by
  rw [← hA, List.drop_eq_getElem_cons hk, Lx.allFrom, hc]
theorem from_end {L : List (Nat × Nat)} {k : Nat} {B : Bool} (hk : L.length ≤ k) (hA : Lx.allFrom k (L.drop k) = B) : B = true := by
  rw [List.drop_eq_nil_of_le hk] at hA
  rw [← hA]
  rfl
theorem name_of {l : List UInt8} (hv : Lib.validD l = true) (h1 : 1 ≤ (Lx.sg l).length) (h2 : (Lx.sg l).length ≤ 32) : Lx.name l = Lx.allFrom 0 (Lx.sg l) := by
  unfold Lx.name
  rw [hv, decide_eq_true h1, decide_eq_true h2]
  simp
set_option maxHeartbeats 2000000 in
set_option maxRecDepth 100000 in
theorem rname_any (s : ByteArray) (w : World) (hs : s.size ≤ 1000000) :
    Calls Tryd.prog 21 #[.string s] w fun e w' => e = .returned (.bool (Lx.name s.data.toList)) ∧ Bl w w' := by
  go_enter Tryd.func21, Tryd.ntmps21
  go_wp2_with fail
  refine (rsigns_any s w hs).mono ?_
  rintro e w1 (⟨hv, u, v, rfl, hu, -, hk⟩ | ⟨hv, rfl, hk⟩)
  · have hlen := Lx.sg_len s.data.toList
    rw [len_list] at hlen
    obtain ⟨a, c, rfl, hac, hcells⟩ := hu
    rw [iv_len, cs_len] at hac ⊢
    have HK := Lib.hid hk
    have HU := Lib.hid hcells
    have HV := Lib.hid hv
    clear hk hcells hv
    by_cases h1 : (Lx.sg s.data.toList).length < 1
    · have z1 : ((Lx.sg s.data.toList).length : Int) < 1 := by omega
      have HF : Hid (Lx.name s.data.toList = false) := Lib.hid (by unfold Lx.name; rw [decide_eq_false (by omega : ¬ 1 ≤ (Lx.sg s.data.toList).length)]; simp)
      go_wp2
      go_ret
      exact ⟨ret_bool HF.out.symm, HK.out⟩
    · by_cases h2 : 32 < (Lx.sg s.data.toList).length
      · have z1 : (1 : Int) ≤ ((Lx.sg s.data.toList).length : Int) := by omega
        have z2 : (32 : Int) < ((Lx.sg s.data.toList).length : Int) := by omega
        have HF : Hid (Lx.name s.data.toList = false) := Lib.hid (by unfold Lx.name; rw [decide_eq_false (by omega : ¬ (Lx.sg s.data.toList).length ≤ 32)]; simp)
        go_wp2
        go_ret
        exact ⟨ret_bool HF.out.symm, HK.out⟩
      · have z1 : (1 : Int) ≤ ((Lx.sg s.data.toList).length : Int) := by omega
        have z2 : ((Lx.sg s.data.toList).length : Int) ≤ 32 := by omega
        have HM := Lib.hid (name_of HV.out (by omega) (by omega))
        clear h1 h2
        go_wp2
        go_loop [6] (fun i => ∃ k : Nat, k ≤ (Lx.sg s.data.toList).length ∧ i = .int .i64 k ∧ Hid (Lx.allFrom k ((Lx.sg s.data.toList).drop k) = Lx.allFrom 0 (Lx.sg s.data.toList))) (fun i => msr (Lx.sg s.data.toList).length i)
        case atStart => exact ⟨0, Nat.zero_le _, rfl, Lib.hid rfl⟩
        case round =>
          obtain ⟨k, hk, rfl, hA⟩ := hrel
          by_cases hlt : k < (Lx.sg s.data.toList).length
          · have z3 : (k : Int) < ((Lx.sg s.data.toList).length : Int) := by omega
            obtain ⟨c, hc⟩ : ∃ c, c = ((Lx.sg s.data.toList)[k]).1 := ⟨_, rfl⟩
            obtain ⟨b1, o1, e1, -, c1⟩ := HU.out k (.int .i64 c) (by unfold iv cs; rw [List.getElem?_map, List.getElem?_map, List.getElem?_eq_getElem hlt, hc]; rfl)
            subst e1
            have HS := Lib.hid (from_step hlt hc hA.out)
            clear hc hA
            rcases (show ((97 : Int) ≤ c ∧ (c : Int) ≤ 122) ∨ ((65 : Int) ≤ c ∧ (c : Int) ≤ 90 ∧ (c : Int) < 97) ∨ ((192 : Int) ≤ c ∧ (97 : Int) ≤ c ∧ (122 : Int) < c ∧ (65 : Int) ≤ c ∧ (90 : Int) < c) ∨ (c : Int) < 65 ∨ ((90 : Int) < c ∧ (c : Int) < 97 ∧ (65 : Int) ≤ c) ∨ ((122 : Int) < c ∧ (c : Int) < 192 ∧ (97 : Int) ≤ c ∧ (65 : Int) ≤ c ∧ (90 : Int) < c) by omega) with ⟨g1, g2⟩ | ⟨g1, g2, g3⟩ | ⟨g1, g2, g3, g4, g5⟩ | g1 | ⟨g1, g2, g3⟩ | ⟨g1, g2, g3, g4, g5⟩
            · skip
              have HO : Hid (Lx.okAt k c = true) := Lib.hid (by unfold Lx.okAt Lx.let' Lx.mark; simp; omega)
              have HN : Hid (Lx.allFrom (k + 1) ((Lx.sg s.data.toList).drop (k + 1)) = Lx.allFrom 0 (Lx.sg s.data.toList)) := Lib.hid (by have := HS.out; rw [HO.out, Bool.true_and] at this; exact this)
              try clear hk0
              go_wp2
              go_round
              case rel => exact ⟨k + 1, by omega, by go_num, HN⟩
              case measure => simp [msr, intOf]; omega
            · skip
              have HO : Hid (Lx.okAt k c = true) := Lib.hid (by unfold Lx.okAt Lx.let' Lx.mark; simp; omega)
              have HN : Hid (Lx.allFrom (k + 1) ((Lx.sg s.data.toList).drop (k + 1)) = Lx.allFrom 0 (Lx.sg s.data.toList)) := Lib.hid (by have := HS.out; rw [HO.out, Bool.true_and] at this; exact this)
              try clear hk0
              go_wp2
              go_round
              case rel => exact ⟨k + 1, by omega, by go_num, HN⟩
              case measure => simp [msr, intOf]; omega
            · skip
              have HO : Hid (Lx.okAt k c = true) := Lib.hid (by unfold Lx.okAt Lx.let' Lx.mark; simp; omega)
              have HN : Hid (Lx.allFrom (k + 1) ((Lx.sg s.data.toList).drop (k + 1)) = Lx.allFrom 0 (Lx.sg s.data.toList)) := Lib.hid (by have := HS.out; rw [HO.out, Bool.true_and] at this; exact this)
              try clear hk0
              go_wp2
              go_round
              case rel => exact ⟨k + 1, by omega, by go_num, HN⟩
              case measure => simp [msr, intOf]; omega
            · have d1 : decide ((192 : Int) ≤ (c : Int)) = false := decide_eq_false (by omega)
              by_cases hk0 : k = 0
              · have y1 : ((k : Int) == 0) = true := by rw [beq_iff_eq]; omega
                have HO : Hid (Lx.okAt k c = false) := Lib.hid (by unfold Lx.okAt Lx.let' Lx.mark; simp; omega)
                have HF : Hid (Lx.name s.data.toList = false) := Lib.hid (by have := HS.out; rw [HO.out, Bool.false_and] at this; rw [HM.out, ← this])
                try clear hk0
                go_wp2
                go_ret
                exact ⟨ret_bool HF.out.symm, HK.out⟩
              · have y1 : ((k : Int) == 0) = false := by rw [beq_eq_false_iff_ne]; omega
                have y2 : ((c : Int) != 95) = true := bne_iff_ne.2 (by omega)
                by_cases h45 : c = 45
                · have y3 : ((c : Int) != 45) = false := bne_eq_false_iff_eq.2 (by omega)
                  have HO : Hid (Lx.okAt k c = true) := Lib.hid (by unfold Lx.okAt Lx.let' Lx.mark; simp; omega)
                  have HN : Hid (Lx.allFrom (k + 1) ((Lx.sg s.data.toList).drop (k + 1)) = Lx.allFrom 0 (Lx.sg s.data.toList)) := Lib.hid (by have := HS.out; rw [HO.out, Bool.true_and] at this; exact this)
                  clear h45 hk0
                  go_wp2
                  go_round
                  case rel => exact ⟨k + 1, by omega, by go_num, HN⟩
                  case measure => simp [msr, intOf]; omega
                · have y3 : ((c : Int) != 45) = true := bne_iff_ne.2 (by omega)
                  rcases (show (c : Int) < 48 ∨ ((48 : Int) ≤ c ∧ (c : Int) ≤ 57) ∨ ((57 : Int) < c ∧ (48 : Int) ≤ c) by omega) with g2 | ⟨g2, g3⟩ | ⟨g2, g3⟩
                  · skip
                    have HO : Hid (Lx.okAt k c = false) := Lib.hid (by unfold Lx.okAt Lx.let' Lx.mark; simp; omega)
                    have HF : Hid (Lx.name s.data.toList = false) := Lib.hid (by have := HS.out; rw [HO.out, Bool.false_and] at this; rw [HM.out, ← this])
                    try clear hk0
                    go_wp2
                    go_ret
                    exact ⟨ret_bool HF.out.symm, HK.out⟩
                  · have d2 : decide ((57 : Int) < (c : Int)) = false := decide_eq_false (by omega)
                    have d3 : decide ((c : Int) < 48) = false := decide_eq_false (by omega)
                    have HO : Hid (Lx.okAt k c = true) := Lib.hid (by unfold Lx.okAt Lx.let' Lx.mark; simp; omega)
                    have HN : Hid (Lx.allFrom (k + 1) ((Lx.sg s.data.toList).drop (k + 1)) = Lx.allFrom 0 (Lx.sg s.data.toList)) := Lib.hid (by have := HS.out; rw [HO.out, Bool.true_and] at this; exact this)
                    try clear hk0
                    go_wp2
                    go_round
                    case rel => exact ⟨k + 1, by omega, by go_num, HN⟩
                    case measure => simp [msr, intOf]; omega
                  · skip
                    have HO : Hid (Lx.okAt k c = false) := Lib.hid (by unfold Lx.okAt Lx.let' Lx.mark; simp; omega)
                    have HF : Hid (Lx.name s.data.toList = false) := Lib.hid (by have := HS.out; rw [HO.out, Bool.false_and] at this; rw [HM.out, ← this])
                    try clear hk0
                    go_wp2
                    go_ret
                    exact ⟨ret_bool HF.out.symm, HK.out⟩
            · have d1 : decide ((192 : Int) ≤ (c : Int)) = false := decide_eq_false (by omega)
              have y3 : ((c : Int) != 45) = true := bne_iff_ne.2 (by omega)
              have d4 : decide ((c : Int) ≤ 90) = false := decide_eq_false (by omega)
              have g4 : (57 : Int) < c := by omega
              have g5 : (48 : Int) ≤ c := by omega
              by_cases hk0 : k = 0
              · have y1 : ((k : Int) == 0) = true := by rw [beq_iff_eq]; omega
                have HO : Hid (Lx.okAt k c = false) := Lib.hid (by unfold Lx.okAt Lx.let' Lx.mark; simp; omega)
                have HF : Hid (Lx.name s.data.toList = false) := Lib.hid (by have := HS.out; rw [HO.out, Bool.false_and] at this; rw [HM.out, ← this])
                try clear hk0
                go_wp2
                go_ret
                exact ⟨ret_bool HF.out.symm, HK.out⟩
              · have y1 : ((k : Int) == 0) = false := by rw [beq_eq_false_iff_ne]; omega
                by_cases h95 : c = 95
                · have y2 : ((c : Int) != 95) = false := bne_eq_false_iff_eq.2 (by omega)
                  have HO : Hid (Lx.okAt k c = true) := Lib.hid (by unfold Lx.okAt Lx.let' Lx.mark; simp; omega)
                  have HN : Hid (Lx.allFrom (k + 1) ((Lx.sg s.data.toList).drop (k + 1)) = Lx.allFrom 0 (Lx.sg s.data.toList)) := Lib.hid (by have := HS.out; rw [HO.out, Bool.true_and] at this; exact this)
                  clear h95 hk0
                  go_wp2
                  go_round
                  case rel => exact ⟨k + 1, by omega, by go_num, HN⟩
                  case measure => simp [msr, intOf]; omega
                · have y2 : ((c : Int) != 95) = true := bne_iff_ne.2 (by omega)
                  have HO : Hid (Lx.okAt k c = false) := Lib.hid (by unfold Lx.okAt Lx.let' Lx.mark; simp; omega)
                  have HF : Hid (Lx.name s.data.toList = false) := Lib.hid (by have := HS.out; rw [HO.out, Bool.false_and] at this; rw [HM.out, ← this])
                  try clear hk0
                  go_wp2
                  go_ret
                  exact ⟨ret_bool HF.out.symm, HK.out⟩
            · have d1 : decide ((192 : Int) ≤ (c : Int)) = false := decide_eq_false (by omega)
              have y2 : ((c : Int) != 95) = true := bne_iff_ne.2 (by omega)
              have y3 : ((c : Int) != 45) = true := bne_iff_ne.2 (by omega)
              have d4 : decide ((c : Int) ≤ 90) = false := decide_eq_false (by omega)
              have d5 : decide ((c : Int) ≤ 122) = false := decide_eq_false (by omega)
              have g6 : (57 : Int) < c := by omega
              have g7 : (48 : Int) ≤ c := by omega
              by_cases hk0 : k = 0
              · have y1 : ((k : Int) == 0) = true := by rw [beq_iff_eq]; omega
                have HO : Hid (Lx.okAt k c = false) := Lib.hid (by unfold Lx.okAt Lx.let' Lx.mark; simp; omega)
                have HF : Hid (Lx.name s.data.toList = false) := Lib.hid (by have := HS.out; rw [HO.out, Bool.false_and] at this; rw [HM.out, ← this])
                try clear hk0
                go_wp2
                go_ret
                exact ⟨ret_bool HF.out.symm, HK.out⟩
              · have y1 : ((k : Int) == 0) = false := by rw [beq_eq_false_iff_ne]; omega
                have HO : Hid (Lx.okAt k c = false) := Lib.hid (by unfold Lx.okAt Lx.let' Lx.mark; simp; omega)
                have HF : Hid (Lx.name s.data.toList = false) := Lib.hid (by have := HS.out; rw [HO.out, Bool.false_and] at this; rw [HM.out, ← this])
                try clear hk0
                go_wp2
                go_ret
                exact ⟨ret_bool HF.out.symm, HK.out⟩
          · have HF : Hid (Lx.name s.data.toList = true) := Lib.hid (by rw [HM.out]; exact from_end (by omega) hA.out)
            go_wp2
            go_ret
            exact ⟨ret_bool HF.out.symm, HK.out⟩
  · have HF : Hid (Lx.name s.data.toList = false) := Lib.hid (by unfold Lx.name; rw [hv]; rfl)
    have HK := Lib.hid hk
    clear hk hv
    go_wp2
    go_ret
    exact ⟨ret_bool HF.out.symm, HK.out⟩
end Go.Proofs.YtennmdpllclmiaaDoor
