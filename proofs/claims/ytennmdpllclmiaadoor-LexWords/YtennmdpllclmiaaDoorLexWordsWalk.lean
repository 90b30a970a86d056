/-
  LexWords: its Go text returns true.
-/
import Derived.Test.YtennmdpllclmiaaDoorLexAwake
import Derived.Test.YtennmdpllclmiaaDoorLexCmp
import Derived.Test.YtennmdpllclmiaaDoorLexText
import Derived.Test.YtennmdpllclmiaaDoorLexLine2
namespace Go.Proofs.YtennmdpllclmiaaDoor
open Go.RowKit

theorem bs_inj : ∀ {xs ys : List ByteArray}, bs xs = bs ys → xs = ys
  | [], [], _ => rfl
  | [], y :: ys, h => by simp [bs] at h
  | x :: xs, [], h => by simp [bs] at h
  | x :: xs, y :: ys, h => by
    simp only [bs, List.map_cons, List.cons.injEq] at h
    have e1 : x = y := ByteArray.ext (Array.toList_inj.1 h.1)
    rw [e1, bs_inj (xs := xs) (ys := ys) h.2]
theorem same_yes (xs : List ByteArray) (u v : Value) (w : World) (hu : Sl w u (sv xs)) (hv : Sl w v (sv xs)) (hx : xs.length ≤ 1000000) :
    Calls Tryd.prog 17 #[u, v] w fun e w' => e = .returned (.bool true) ∧ Bl w w' := by
  have h := same_any xs xs u v w hu hv hx hx
  rwa [decide_eq_true rfl] at h
theorem same_no (xs ys : List ByteArray) (u v : Value) (w : World) (hne : xs ≠ ys) (hu : Sl w u (sv xs)) (hv : Sl w v (sv ys)) (hx : xs.length ≤ 1000000) (hy : ys.length ≤ 1000000) :
    Calls Tryd.prog 17 #[u, v] w fun e w' => e = .returned (.bool false) ∧ Bl w w' := by
  have h := same_any xs ys u v w hu hv hx hy
  rwa [decide_eq_false hne] at h
/-- words that are short enough, up to place k -/
def HI (xs : List ByteArray) (i : Value) : Prop := ∃ k : Nat, k ≤ xs.length ∧ i = .int .i64 k ∧ Hid (∀ x ∈ xs.take k, x.size ≤ 100)
theorem HI.step {xs : List ByteArray} {k : Nat} {i : Value} (hk : k < xs.length) (h : ∀ x ∈ xs.take k, x.size ≤ 100) (hs : xs[k].size ≤ 100) (hi : i = .int .i64 ((k + 1 : Nat) : Int)) : HI xs i := by
  refine ⟨k + 1, by omega, hi, Lib.hid ?_⟩
  intro x hx
  rw [List.take_add_one, List.getElem?_eq_getElem hk, Option.toList_some] at hx
  rcases List.mem_append.1 hx with hx | hx
  · exact h x hx
  · rw [List.mem_singleton] at hx
    rw [hx]
    exact hs

set_option maxHeartbeats 2000000 in
set_option maxRecDepth 100000 in
theorem lexWords_any (s : ByteArray) (xs : List ByteArray) (u : Value) (w : World) (hm : s.size ≤ 9223372036854775807) (hxm : xs.length ≤ 9223372036854775807) (hu : Sl w u (sv xs)) (hV : Vs w) :
    Calls Tryd.prog 4 #[.string s, u] w fun e w' => e = .returned (.bool true) ∧ Bl w w' := by
  have HU := Lib.hid hu
  obtain ⟨a, c, rfl, hac, -⟩ := hu
  rw [sv_len] at hac HU ⊢
  have HV := Lib.hid hV
  clear hV
  by_cases hs : 300 < s.size
  · go_enter Tryd.func4, Tryd.ntmps4
    go_wp2_with fail
    refine (awake_any _ HV.out).mono ?_
    rintro e w1 ⟨rfl, hk⟩
    have HK := Lib.hid hk
    clear hk
    go_wp2
    go_ret
    exact ⟨rfl, HK.out⟩
  · have hs' : s.size ≤ 300 := by omega
    have ds : decide ((300 : Int) < (s.size : Int)) = false := decide_eq_false (by omega)
    by_cases hx : 30 < xs.length
    · have zx : (30 : Int) < (xs.length : Int) := by omega
      go_enter Tryd.func4, Tryd.ntmps4
      go_wp2_with fail
      refine (awake_any _ HV.out).mono ?_
      rintro e w1 ⟨rfl, hk⟩
      have HK := Lib.hid hk
      clear hk
      go_wp2
      go_ret
      exact ⟨rfl, HK.out⟩
    · have hx' : xs.length ≤ 30 := by omega
      have dx : decide ((30 : Int) < (xs.length : Int)) = false := decide_eq_false (by omega)
      go_enter Tryd.func4, Tryd.ntmps4
      go_wp2_with fail
      refine (words_any s _ (by omega) HV.out).mono ?_
      rintro e w1 (⟨u1, x1, h1, rfl, hs1, hl1, hk⟩ | ⟨h1, rfl, hk⟩)
      · have HK := Lib.hid hk
        have HA := Lib.hid hs1
        have H1 := Lib.hid h1
        have HL1 : Hid (x1.length ≤ 301) := Lib.hid (by rw [len_list] at hl1; omega)
        clear hk hs1 h1 hl1
        go_wp2_with fail
        refine (rwords_any s w1 (by omega)).mono ?_
        rintro e w2 (⟨u2, x2, h2, rfl, hs2, hl2, hk⟩ | ⟨h2, rfl, hk⟩)
        · rw [Lx.words_eq, H1.out] at h2
          obtain rfl : x1 = x2 := bs_inj (Option.some.inj h2)
          have HK2 := Lib.hid (HK.out.next hk)
          have S1 := same_yes x1 u1 u2 w2 (HA.out.next hk) hs2 (by have := HL1.out; omega)
          clear hk hs2 hl2 h2 HK HA H1 HL1
          go_wp2_with fail
          refine S1.mono ?_
          rintro e wlast ⟨rfl, hk⟩
          have HK := Lib.hid (HK2.out.next hk)
          clear hk S1 HK2
          go_wp2
          go_loop [9] (fun i => HI xs i) (fun i => msr xs.length i)
          case atStart => exact ⟨0, Nat.zero_le _, rfl, Lib.hid (fun x hx => by cases hx)⟩
          case round =>
            obtain ⟨k, hk, rfl, hA⟩ := hrel
            by_cases hlt : k < xs.length
            · have z1 : (k : Int) < (xs.length : Int) := by omega
              obtain ⟨a', c', e1, -, hcell⟩ := HU.out.next HK.out
              obtain ⟨b1, o1, e2, -, c1⟩ := hcell k _ (sv_get hlt)
              injection e1 with e1 e3 e4
              clear e3 e4
              subst e1
              subst e2
              clear hcell
              by_cases hz : 100 < xs[k].size
              · have hV9 := HV.out.next HK.out
                have zz : (100 : Int) < (xs[k].size : Int) := by omega
                go_wp2_with fail
                refine (awake_any _ hV9).mono ?_
                rintro e w9 ⟨rfl, hk⟩
                have HK9 := Lib.hid (HK.out.next hk)
                clear hk hV9
                go_wp2
                go_ret
                exact ⟨rfl, HK9.out⟩
              · have zz : (xs[k].size : Int) ≤ 100 := by omega
                have HN := Lib.hid (HI.step (i := .int .i64 ((k : Int) + 1)) hlt hA.out (by omega) (by go_num))
                go_wp2
                go_round
                case rel => exact HN.out
                case measure => simp [msr, intOf]; omega
            · have HS : Hid (∀ x ∈ xs, x.size ≤ 100) := Lib.hid (by have h1 := hA.out; rw [List.take_of_length_le (by omega)] at h1; exact h1)
              have HJL : Hid ((Lib.join (bs xs) [32]).length ≤ 3030) := Lib.hid (Lx.join_len (bs xs) 30 100 (by rw [bs_len]; exact hx') (fun p hp => by
                obtain ⟨x, hx, rfl⟩ := List.mem_map.1 hp
                show x.data.toList.length ≤ 100
                rw [len_list]
                exact HS.out x hx))
              have J1 := join_any xs _ wlast (HU.out.next HK.out) (by omega) (fun x hx => by have := HS.out x hx; omega) (by have := HJL.out; omega) (HV.out.next HK.out)
              go_wp2_with fail
              refine J1.mono ?_
              rintro e w4 hJ
              have hk4 : Bl wlast w4 := by rcases hJ with ⟨_, _, h⟩ | ⟨_, _, h⟩ <;> exact h
              have HK4 := Lib.hid (HK.out.next hk4)
              clear hk4 HK J1
              have R1 := rjoin_any xs _ w4 (HU.out.next HK4.out) (by omega) (fun x hx => by have := HS.out x hx; omega)
              rcases hJ with ⟨hall, rfl, -⟩ | ⟨hall, rfl, -⟩
              · have HR : Hid (Lx.rwords (Lib.join (bs xs) [32]) = some (bs xs)) := Lib.hid ((Lx.join_words (bs xs)).2 hall)
                clear hall
                go_wp2_with fail
                refine R1.mono ?_
                rintro e w5 ⟨⟨t, rfl, ht, hts⟩, rfl⟩
                have HTE : Hid (t = ⟨(Lib.join (bs xs) [32]).toArray⟩) := Lib.hid (by rw [← ht, ba_list])
                have HT := Lib.hid ht
                have htz : t.size ≤ 3030 := by rw [← len_list, ht]; exact HJL.out
                clear ht R1
                go_wp2_with fail
                refine (rwords_any t w5 (by omega)).mono ?_
                rintro e w6 (⟨u6, x6, h6, rfl, hs6, hl6, hk⟩ | ⟨h6, rfl, hk⟩)
                · rw [HT.out, HR.out] at h6
                  obtain rfl : xs = x6 := bs_inj (Option.some.inj h6)
                  have HK := Lib.hid (HK4.out.next hk)
                  have S1 := same_yes xs u6 _ w6 hs6 (HU.out.next HK.out) (by omega)
                  obtain rfl := HTE.out
                  clear hs6 hl6 hk h6 HT htz hts HK4
                  go_wp2_with fail
                  refine S1.mono ?_
                  rintro e w7 ⟨rfl, hk⟩
                  have HK7 := Lib.hid (HK.out.next hk)
                  clear hk S1 HK
                  have HK := HK7
                  have hV9 := HV.out.next HK.out
                  clear HK7
                  go_wp2_with fail
                  refine (awake_any _ hV9).mono ?_
                  rintro e w9 ⟨rfl, hk⟩
                  have HK9 := Lib.hid (HK.out.next hk)
                  clear hk hV9
                  go_wp2
                  go_ret
                  exact ⟨rfl, HK9.out⟩
                · rw [HT.out, HR.out] at h6
                  cases h6
              · have HR : Hid (¬ Lx.rwords (Lib.join (bs xs) [32]) = some (bs xs)) := Lib.hid (fun h => by rw [(Lx.join_words (bs xs)).1 h] at hall; cases hall)
                clear hall
                go_wp2_with fail
                refine R1.mono ?_
                rintro e w5 ⟨⟨t, rfl, ht, hts⟩, rfl⟩
                have HT := Lib.hid ht
                have htz : t.size ≤ 3030 := by rw [← len_list, ht]; exact HJL.out
                clear ht R1
                go_wp2_with fail
                refine (rwords_any t w5 (by omega)).mono ?_
                rintro e w6 (⟨u6, x6, h6, rfl, hs6, hl6, hk⟩ | ⟨h6, rfl, hk⟩)
                · rw [HT.out] at h6
                  have hne : x6 ≠ xs := fun e => HR.out (by rw [h6, e])
                  have HK := Lib.hid (HK4.out.next hk)
                  have S1 := same_no x6 xs u6 _ w6 hne hs6 (HU.out.next HK.out) (by rw [len_list] at hl6; omega) (by omega)
                  clear hs6 hl6 hk h6 HT htz hts HK4 hne
                  go_wp2_with fail
                  refine S1.mono ?_
                  rintro e w7 ⟨rfl, hk⟩
                  have HK7 := Lib.hid (HK.out.next hk)
                  clear hk S1 HK
                  have HK := HK7
                  have hV9 := HV.out.next HK.out
                  clear HK7
                  go_wp2_with fail
                  refine (awake_any _ hV9).mono ?_
                  rintro e w9 ⟨rfl, hk⟩
                  have HK9 := Lib.hid (HK.out.next hk)
                  clear hk hV9
                  go_wp2
                  go_ret
                  exact ⟨rfl, HK9.out⟩
                · have HK := Lib.hid (HK4.out.next hk)
                  have hV9 := HV.out.next HK.out
                  clear hk h6 HT htz hts HK4
                  go_wp2_with fail
                  refine (awake_any _ hV9).mono ?_
                  rintro e w9 ⟨rfl, hk⟩
                  have HK9 := Lib.hid (HK.out.next hk)
                  clear hk hV9
                  go_wp2
                  go_ret
                  exact ⟨rfl, HK9.out⟩
        · rw [Lx.words_eq, H1.out] at h2
          cases h2
      · have HK := Lib.hid hk
        have H1 := Lib.hid h1
        clear hk h1
        go_wp2_with fail
        refine (rwords_any s w1 (by omega)).mono ?_
        rintro e wlast (⟨u2, x2, h2, rfl, hs2, hl2, hk⟩ | ⟨h2, rfl, hk⟩)
        · rw [Lx.words_eq, H1.out] at h2
          cases h2
        · have HK2 := Lib.hid (HK.out.next hk)
          clear hk h2 HK
          have HK := HK2
          clear HK2
          go_wp2
          go_loop [9] (fun i => HI xs i) (fun i => msr xs.length i)
          case atStart => exact ⟨0, Nat.zero_le _, rfl, Lib.hid (fun x hx => by cases hx)⟩
          case round =>
            obtain ⟨k, hk, rfl, hA⟩ := hrel
            by_cases hlt : k < xs.length
            · have z1 : (k : Int) < (xs.length : Int) := by omega
              obtain ⟨a', c', e1, -, hcell⟩ := HU.out.next HK.out
              obtain ⟨b1, o1, e2, -, c1⟩ := hcell k _ (sv_get hlt)
              injection e1 with e1 e3 e4
              clear e3 e4
              subst e1
              subst e2
              clear hcell
              by_cases hz : 100 < xs[k].size
              · have hV9 := HV.out.next HK.out
                have zz : (100 : Int) < (xs[k].size : Int) := by omega
                go_wp2_with fail
                refine (awake_any _ hV9).mono ?_
                rintro e w9 ⟨rfl, hk⟩
                have HK9 := Lib.hid (HK.out.next hk)
                clear hk hV9
                go_wp2
                go_ret
                exact ⟨rfl, HK9.out⟩
              · have zz : (xs[k].size : Int) ≤ 100 := by omega
                have HN := Lib.hid (HI.step (i := .int .i64 ((k : Int) + 1)) hlt hA.out (by omega) (by go_num))
                go_wp2
                go_round
                case rel => exact HN.out
                case measure => simp [msr, intOf]; omega
            · have HS : Hid (∀ x ∈ xs, x.size ≤ 100) := Lib.hid (by have h1 := hA.out; rw [List.take_of_length_le (by omega)] at h1; exact h1)
              have HJL : Hid ((Lib.join (bs xs) [32]).length ≤ 3030) := Lib.hid (Lx.join_len (bs xs) 30 100 (by rw [bs_len]; exact hx') (fun p hp => by
                obtain ⟨x, hx, rfl⟩ := List.mem_map.1 hp
                show x.data.toList.length ≤ 100
                rw [len_list]
                exact HS.out x hx))
              have J1 := join_any xs _ wlast (HU.out.next HK.out) (by omega) (fun x hx => by have := HS.out x hx; omega) (by have := HJL.out; omega) (HV.out.next HK.out)
              go_wp2_with fail
              refine J1.mono ?_
              rintro e w4 hJ
              have hk4 : Bl wlast w4 := by rcases hJ with ⟨_, _, h⟩ | ⟨_, _, h⟩ <;> exact h
              have HK4 := Lib.hid (HK.out.next hk4)
              clear hk4 HK J1
              have R1 := rjoin_any xs _ w4 (HU.out.next HK4.out) (by omega) (fun x hx => by have := HS.out x hx; omega)
              rcases hJ with ⟨hall, rfl, -⟩ | ⟨hall, rfl, -⟩
              · have HR : Hid (Lx.rwords (Lib.join (bs xs) [32]) = some (bs xs)) := Lib.hid ((Lx.join_words (bs xs)).2 hall)
                clear hall
                go_wp2_with fail
                refine R1.mono ?_
                rintro e w5 ⟨⟨t, rfl, ht, hts⟩, rfl⟩
                have HTE : Hid (t = ⟨(Lib.join (bs xs) [32]).toArray⟩) := Lib.hid (by rw [← ht, ba_list])
                have HT := Lib.hid ht
                have htz : t.size ≤ 3030 := by rw [← len_list, ht]; exact HJL.out
                clear ht R1
                go_wp2_with fail
                refine (rwords_any t w5 (by omega)).mono ?_
                rintro e w6 (⟨u6, x6, h6, rfl, hs6, hl6, hk⟩ | ⟨h6, rfl, hk⟩)
                · rw [HT.out, HR.out] at h6
                  obtain rfl : xs = x6 := bs_inj (Option.some.inj h6)
                  have HK := Lib.hid (HK4.out.next hk)
                  have S1 := same_yes xs u6 _ w6 hs6 (HU.out.next HK.out) (by omega)
                  obtain rfl := HTE.out
                  clear hs6 hl6 hk h6 HT htz hts HK4
                  go_wp2_with fail
                  refine S1.mono ?_
                  rintro e w7 ⟨rfl, hk⟩
                  have HK7 := Lib.hid (HK.out.next hk)
                  clear hk S1 HK
                  have HK := HK7
                  have hV9 := HV.out.next HK.out
                  clear HK7
                  go_wp2_with fail
                  refine (awake_any _ hV9).mono ?_
                  rintro e w9 ⟨rfl, hk⟩
                  have HK9 := Lib.hid (HK.out.next hk)
                  clear hk hV9
                  go_wp2
                  go_ret
                  exact ⟨rfl, HK9.out⟩
                · rw [HT.out, HR.out] at h6
                  cases h6
              · have HR : Hid (¬ Lx.rwords (Lib.join (bs xs) [32]) = some (bs xs)) := Lib.hid (fun h => by rw [(Lx.join_words (bs xs)).1 h] at hall; cases hall)
                clear hall
                go_wp2_with fail
                refine R1.mono ?_
                rintro e w5 ⟨⟨t, rfl, ht, hts⟩, rfl⟩
                have HT := Lib.hid ht
                have htz : t.size ≤ 3030 := by rw [← len_list, ht]; exact HJL.out
                clear ht R1
                go_wp2_with fail
                refine (rwords_any t w5 (by omega)).mono ?_
                rintro e w6 (⟨u6, x6, h6, rfl, hs6, hl6, hk⟩ | ⟨h6, rfl, hk⟩)
                · rw [HT.out] at h6
                  have hne : x6 ≠ xs := fun e => HR.out (by rw [h6, e])
                  have HK := Lib.hid (HK4.out.next hk)
                  have S1 := same_no x6 xs u6 _ w6 hne hs6 (HU.out.next HK.out) (by rw [len_list] at hl6; omega) (by omega)
                  clear hs6 hl6 hk h6 HT htz hts HK4 hne
                  go_wp2_with fail
                  refine S1.mono ?_
                  rintro e w7 ⟨rfl, hk⟩
                  have HK7 := Lib.hid (HK.out.next hk)
                  clear hk S1 HK
                  have HK := HK7
                  have hV9 := HV.out.next HK.out
                  clear HK7
                  go_wp2_with fail
                  refine (awake_any _ hV9).mono ?_
                  rintro e w9 ⟨rfl, hk⟩
                  have HK9 := Lib.hid (HK.out.next hk)
                  clear hk hV9
                  go_wp2
                  go_ret
                  exact ⟨rfl, HK9.out⟩
                · have HK := Lib.hid (HK4.out.next hk)
                  have hV9 := HV.out.next HK.out
                  clear hk h6 HT htz hts HK4
                  go_wp2_with fail
                  refine (awake_any _ hV9).mono ?_
                  rintro e w9 ⟨rfl, hk⟩
                  have HK9 := Lib.hid (HK.out.next hk)
                  clear hk hV9
                  go_wp2
                  go_ret
                  exact ⟨rfl, HK9.out⟩
end Go.Proofs.YtennmdpllclmiaaDoor
