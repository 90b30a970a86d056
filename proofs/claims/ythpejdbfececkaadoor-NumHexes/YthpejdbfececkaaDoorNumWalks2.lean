/-
  Contracts of layer 3 (num), decimal part: the document's answer reads.
-/
import Derived.Test.YthpejdbfececkaaDoorNumWalks
import Derived.Test.YthpejdbfececkaaDoorNumPlain2
namespace Go.Proofs.YthpejdbfececkaaDoor
open Go.RowKit

theorem get_list (s : ByteArray) (k : Nat) (h : k < s.size) : s[k] = s.data.toList[k]'(by simpa using h) := rfl
theorem len_list (s : ByteArray) : s.data.toList.length = s.size := Array.length_toList

theorem sgn_list (l : List UInt8) (h : 0 < l.length) : ((l[0].toNat : Int) == 45) = Nm.sgn l := by
  cases l with
  | nil => simp at h
  | cons c r =>
    show ((c.toNat : Int) == 45) = (some c == some 45)
    rw [Bool.eq_iff_iff, beq_iff_eq, beq_iff_eq, Option.some.injEq]
    constructor
    · intro hc
      apply UInt8.toNat.inj
      have e45 : (45 : UInt8).toNat = 45 := rfl
      omega
    · rintro rfl; rfl
theorem sgn_first (s : ByteArray) (h : 0 < s.size) (b : Bool) (hb : Nm.sgn s.data.toList = b) : ((s[0].toNat : Int) == 45) = b := by
  rw [get_list s 0 h, sgn_list _ (by rw [len_list]; exact h), hb]
/-- the document's reading ends so -/
def RU (l : List UInt8) (w : World) (e : Ending) (w' : World) : Prop := ∃ y b, e = .returned (.tuple #[.int .i64 y, .bool b]) ∧ Nm.undec l = (if b then some y else none) ∧ Bl w w'
theorem RU.no {l : List UInt8} {w w' : World} {e : Ending} {y : Int} (h : Nm.undec l = none) (he : e = .returned (.tuple #[.int .i64 y, .bool false])) (hb : Bl w w') : RU l w e w' := ⟨y, false, he, h, hb⟩
theorem not0 {k m : Nat} (h : m = 1) (hk : m ≤ k) : ((k : Int) == 0) = false := by rw [beq_eq_false_iff_ne]; omega
theorem u64_step (N c : Int) : IntKind.u64.wrap (IntKind.u64.wrap (IntKind.u64.wrap (N * 10) + c) - 48) = (N * 10 + c - 48) % 18446744073709551616 := by
  rw [IntKind.wrap_u64, IntKind.wrap_u64, IntKind.wrap_u64]
  omega

set_option maxHeartbeats 400000 in
theorem rundec_any (s : ByteArray) (w : World) (hs : s.size ≤ 1000) :
    Calls Tryd.prog 8 #[.string s] w fun e w' => RU s.data.toList w e w' := by
  by_cases hlen : s.size = 0 ∨ 20 < s.size
  · have HU := Lib.hid (Nm.undec_long s.data.toList (by rw [len_list]; exact hlen))
    rcases hlen with h0 | h0
    · have t1 : ((s.size : Int) == 0) = true := by simp [h0]
      have H0 := Lib.hid h0
      clear h0
      go_enter Tryd.func8, Tryd.ntmps8
      go_wp2
      go_ret2
      exact RU.no HU.out rfl (Bl.refl _)
    · have t1 : ((s.size : Int) == 0) = false := by rw [beq_eq_false_iff_ne]; omega
      go_enter Tryd.func8, Tryd.ntmps8
      go_wp2
      go_ret2
      exact RU.no HU.out rfl (Bl.refl _)
  · have h1 : 1 ≤ s.size := by omega
    have h2 : s.size ≤ 20 := by omega
    have h3 : 0 < s.size := by omega
    clear hlen
    have t1 : ((s.size : Int) == 0) = false := by rw [beq_eq_false_iff_ne]; omega
    cases hsg : Nm.sgn s.data.toList with
    | true =>
      have t2 := sgn_first s h3 _ hsg
      have HF : Hid (Nm.fst s.data.toList = 1) := Lib.hid (by unfold Nm.fst; rw [hsg]; rfl)
      have HG := Lib.hid hsg
      clear hsg
      go_enter Tryd.func8, Tryd.ntmps8
      go_wp2
      go_loop [5, 6] (fun n i => ∃ k : Nat, k ≤ s.size ∧ i = .int .i64 k ∧ ∃ N : Int, n = .int .u64 N ∧ 0 ≤ N ∧ N ≤ 18446744073709551615 ∧ Nm.Rd s.data.toList k N) (fun _ i => s.size - (intOf i).toNat)
      case atStart => exact ⟨0, Nat.zero_le _, rfl, 0, rfl, by omega, by omega, Nm.Rd.start _⟩
      case round =>
        obtain ⟨k, hk, rfl, N, rfl, hN0, hN1, hR⟩ := hrel
        by_cases hlt : k < s.size
        · have hlt' : k < s.data.toList.length := by rw [len_list]; exact hlt
          by_cases hfk : Nm.fst s.data.toList ≤ k
          · skip
            have tk := not0 HF.out hfk
            have hc := s[k].toNat_lt
            by_cases hd : 48 ≤ s[k].toNat ∧ s[k].toNat ≤ 57
            · have HD := Lib.hid ((Nm.isD_iff s.data.toList[k]).2 hd)
              have d1 : 48 ≤ (s[k].toNat : Int) := by omega
              have d2 : (s[k].toNat : Int) ≤ 57 := by omega
              clear hd hc
              go_wp2
              go_round
              case rel => exact ⟨k + 1, by omega, by go_num, _, rfl, by rw [u64_step]; omega, by rw [u64_step]; omega, hR.step hlt' hfk HD.out (u64_step N _)⟩
              case measure => simp [intOf]; omega
            · have HU := Lib.hid (Nm.undec_bad s.data.toList k hlt' hfk (by rw [← Bool.not_eq_true, Nm.isD_iff]; exact hd))
              rcases (show (s[k].toNat : Int) < 48 ∨ 57 < (s[k].toNat : Int) by omega) with d1 | d1
              · clear hd hc
                go_wp2
                go_ret2
                exact RU.no HU.out rfl (Bl.refl _)
              · have d2 : 48 ≤ (s[k].toNat : Int) := by omega
                clear hd hc
                go_wp2
                go_ret2
                exact RU.no HU.out rfl (Bl.refl _)
          · skip
            have ek : k = 0 := by have := HF.out; omega
            subst ek
            have HR := hR.skip _ HG.out
            clear hR hfk hlt'
            go_wp2
            go_round
            case rel => exact ⟨1, by omega, by go_num, _, rfl, hN0, hN1, HR⟩
            case measure => simp [intOf]; omega
        · have ek : k = s.size := by omega
          subst ek
          have HR : Nm.Rd s.data.toList s.data.toList.length N := by rw [len_list]; exact hR
          clear hR hlt hk
          rcases (show N < 9223372036854775808 ∨ N = 9223372036854775808 ∨ 9223372036854775808 < N by omega) with hN | hN | hN
          · skip
            go_wp2_with fail
            refine (rdec_any (-N) _ (by omega)).mono ?_
            rintro e w1 ⟨rfl, hk1⟩
            have HK1 := Lib.hid hk1
            clear hk1
            go_wp2
            go_ret2
            exact ⟨_, _, rfl, by rw [ByteArray.toList_eq]; exact HR.fin (-N) (by omega) (.inl ⟨HG.out, by omega⟩), HK1.out⟩
          · subst hN
            have W1 : IntKind.i64.wrap 9223372036854775808 = -9223372036854775808 := by rfl
            go_wp2_with fail
            refine (rdec_any (-9223372036854775808) _ (by omega)).mono ?_
            rintro e w1 ⟨rfl, hk1⟩
            have HK1 := Lib.hid hk1
            clear hk1
            go_wp2
            go_ret2
            exact ⟨_, _, rfl, by rw [ByteArray.toList_eq]; exact HR.fin (-9223372036854775808) (by omega) (.inl ⟨HG.out, by omega⟩), HK1.out⟩
          · have W1 : IntKind.i64.wrap N = N - 18446744073709551616 := by rw [IntKind.wrap_i64]; omega
            have W2 : -(N - 18446744073709551616) = 18446744073709551616 - N := by omega
            go_wp2_with fail
            refine (rdec_any (18446744073709551616 - N) _ (by omega)).mono ?_
            rintro e w1 ⟨rfl, hk1⟩
            have HK1 := Lib.hid hk1
            clear hk1
            go_wp2
            go_ret2
            exact ⟨_, _, rfl, by rw [ByteArray.toList_eq]; exact HR.fin (18446744073709551616 - N) (by omega) (.inl ⟨HG.out, by omega⟩), HK1.out⟩
    | false =>
      have t2 := sgn_first s h3 _ hsg
      have HF : Hid (Nm.fst s.data.toList = 0) := Lib.hid (by unfold Nm.fst; rw [hsg]; rfl)
      have HG := Lib.hid hsg
      clear hsg
      go_enter Tryd.func8, Tryd.ntmps8
      go_wp2
      go_loop [5, 6] (fun n i => ∃ k : Nat, k ≤ s.size ∧ i = .int .i64 k ∧ ∃ N : Int, n = .int .u64 N ∧ 0 ≤ N ∧ N ≤ 18446744073709551615 ∧ Nm.Rd s.data.toList k N) (fun _ i => s.size - (intOf i).toNat)
      case atStart => exact ⟨0, Nat.zero_le _, rfl, 0, rfl, by omega, by omega, Nm.Rd.start _⟩
      case round =>
        obtain ⟨k, hk, rfl, N, rfl, hN0, hN1, hR⟩ := hrel
        by_cases hlt : k < s.size
        · have hlt' : k < s.data.toList.length := by rw [len_list]; exact hlt
          by_cases hfk : Nm.fst s.data.toList ≤ k
          · skip
            cases tk : ((k : Int) == 0)
            · skip
              have hc := s[k].toNat_lt
              by_cases hd : 48 ≤ s[k].toNat ∧ s[k].toNat ≤ 57
              · have HD := Lib.hid ((Nm.isD_iff s.data.toList[k]).2 hd)
                have d1 : 48 ≤ (s[k].toNat : Int) := by omega
                have d2 : (s[k].toNat : Int) ≤ 57 := by omega
                clear hd hc
                go_wp2
                go_round
                case rel => exact ⟨k + 1, by omega, by go_num, _, rfl, by rw [u64_step]; omega, by rw [u64_step]; omega, hR.step hlt' hfk HD.out (u64_step N _)⟩
                case measure => simp [intOf]; omega
              · have HU := Lib.hid (Nm.undec_bad s.data.toList k hlt' hfk (by rw [← Bool.not_eq_true, Nm.isD_iff]; exact hd))
                rcases (show (s[k].toNat : Int) < 48 ∨ 57 < (s[k].toNat : Int) by omega) with d1 | d1
                · clear hd hc
                  go_wp2
                  go_ret2
                  exact RU.no HU.out rfl (Bl.refl _)
                · have d2 : 48 ≤ (s[k].toNat : Int) := by omega
                  clear hd hc
                  go_wp2
                  go_ret2
                  exact RU.no HU.out rfl (Bl.refl _)
            · skip
              have hc := s[k].toNat_lt
              by_cases hd : 48 ≤ s[k].toNat ∧ s[k].toNat ≤ 57
              · have HD := Lib.hid ((Nm.isD_iff s.data.toList[k]).2 hd)
                have d1 : 48 ≤ (s[k].toNat : Int) := by omega
                have d2 : (s[k].toNat : Int) ≤ 57 := by omega
                clear hd hc
                go_wp2
                go_round
                case rel => exact ⟨k + 1, by omega, by go_num, _, rfl, by rw [u64_step]; omega, by rw [u64_step]; omega, hR.step hlt' hfk HD.out (u64_step N _)⟩
                case measure => simp [intOf]; omega
              · have HU := Lib.hid (Nm.undec_bad s.data.toList k hlt' hfk (by rw [← Bool.not_eq_true, Nm.isD_iff]; exact hd))
                rcases (show (s[k].toNat : Int) < 48 ∨ 57 < (s[k].toNat : Int) by omega) with d1 | d1
                · clear hd hc
                  go_wp2
                  go_ret2
                  exact RU.no HU.out rfl (Bl.refl _)
                · have d2 : 48 ≤ (s[k].toNat : Int) := by omega
                  clear hd hc
                  go_wp2
                  go_ret2
                  exact RU.no HU.out rfl (Bl.refl _)
          · skip
            exact absurd hfk (by rw [HF.out]; omega)
        · have ek : k = s.size := by omega
          subst ek
          have HR : Nm.Rd s.data.toList s.data.toList.length N := by rw [len_list]; exact hR
          clear hR hlt hk
          rcases (show N < 9223372036854775808 ∨ 9223372036854775808 ≤ N by omega) with hN | hN
          · skip
            go_wp2_with fail
            refine (rdec_any (N) _ (by omega)).mono ?_
            rintro e w1 ⟨rfl, hk1⟩
            have HK1 := Lib.hid hk1
            clear hk1
            go_wp2
            go_ret2
            exact ⟨_, _, rfl, by rw [ByteArray.toList_eq]; exact HR.fin (N) (by omega) (.inr ⟨HG.out, by omega⟩), HK1.out⟩
          · have W1 : IntKind.i64.wrap N = N - 18446744073709551616 := by rw [IntKind.wrap_i64]; omega
            go_wp2_with fail
            refine (rdec_any (N - 18446744073709551616) _ (by omega)).mono ?_
            rintro e w1 ⟨rfl, hk1⟩
            have HK1 := Lib.hid hk1
            clear hk1
            go_wp2
            go_ret2
            exact ⟨_, _, rfl, by rw [ByteArray.toList_eq]; exact HR.fin (N - 18446744073709551616) (by omega) (.inr ⟨HG.out, by omega⟩), HK1.out⟩
end Go.Proofs.YthpejdbfececkaaDoor
