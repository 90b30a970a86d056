/-
  LexSigns: its Go text returns true.
-/
import Derived.Test.YtennmdpllclmiaaDoorLexAwake
import Derived.Test.YtennmdpllclmiaaDoorLexCmp
import Derived.Test.YtennmdpllclmiaaDoorLexText
namespace Go.Proofs.YtennmdpllclmiaaDoor
open Go.RowKit

theorem alike_same (xs : List Int) (u v : Value) (w : World) (hu : Sl w u (iv xs)) (hv : Sl w v (iv xs)) (hx : xs.length ≤ 1000000) :
    Calls Tryd.prog 9 #[u, v] w fun e w' => e = .returned (.bool true) ∧ Bl w w' := by
  have h := alike_any xs xs u v w hu hv hx hx
  rwa [decide_eq_true rfl] at h
theorem text_back (s : ByteArray) (u : Value) (w : World) (hs : s.size ≤ 1000) (hv : Lib.validD s.data.toList = true) (hu : Sl w u (iv (cs (Lx.sg s.data.toList)))) :
    Calls Tryd.prog 12 #[u] w fun e w' => e = .returned (.tuple #[.string s, .int .i64 0]) ∧ Bl w w' := by
  have hl := Lx.sg_len s.data.toList
  rw [len_list] at hl
  obtain ⟨t1, t2⟩ := Lx.txt_rest s.data.toList s.data.toList.length 0 (by omega) hv
  refine (text_any _ u w hu (by rw [cs_len]; omega)).mono ?_
  rintro e w' (⟨_, rfl, hk⟩ | ⟨h, _, _⟩)
  · refine ⟨?_, hk⟩
    have e : Lx.txt (cs (Lx.sg s.data.toList)) = s.data.toList := by
      have := t1
      rw [List.drop_zero] at this
      exact this
    rw [e, ba_list]
  · rw [List.all_eq_false] at h
    obtain ⟨c, hc, hn⟩ := h
    obtain ⟨x, hx, rfl⟩ := List.mem_map.1 hc
    exact absurd (t2 x hx) hn

/-- the text that is wanted, up to place k -/
def QI (w : World) (xs : List Int) (S i : Value) (wr : World) : Prop :=
  ∃ (k : Nat) (t : ByteArray), k ≤ xs.length ∧ i = .int .i64 k ∧ S = .string t ∧ Hid (t = ⟨(Lx.txt (xs.take k)).toArray⟩) ∧ t.size ≤ 400 ∧ Bl w wr ∧ Hid ((xs.take k).all Lx.sgn = true)
theorem QI.start (w : World) (xs : List Int) : QI w xs (.string ⟨#[]⟩) (.int .i64 0) w := ⟨0, ⟨#[]⟩, Nat.zero_le _, rfl, rfl, Lib.hid rfl, Nat.zero_le _, Bl.refl _, Lib.hid rfl⟩
theorem QI.step {w wr : World} {xs : List Int} {k : Nat} {t : ByteArray} {i : Value} (hx : xs.length ≤ 100) (hk : k < xs.length) (ht : t = ⟨(Lx.txt (xs.take k)).toArray⟩) (hb : Bl w wr) (hA : (xs.take k).all Lx.sgn = true) (hs : Lx.sgn xs[k] = true) (hi : i = .int .i64 ((k + 1 : Nat) : Int)) :
    QI w xs (.string (t ++ ⟨(Lib.encodeRune xs[k]).toArray⟩)) i wr := by
  have e : t ++ ⟨(Lib.encodeRune xs[k]).toArray⟩ = ⟨(Lx.txt (xs.take (k + 1))).toArray⟩ := by
    rw [ht, txt_step xs k hk]
    apply ByteArray.ext
    simp
  have hl := txt_len xs (k + 1) (by omega)
  refine ⟨k + 1, _, by omega, hi, rfl, Lib.hid e, ?_, hb, Lib.hid (all_take hk hA hs)⟩
  rw [e, ← len_list]
  show (Lx.txt (xs.take (k + 1))).toArray.toList.length ≤ 400
  rw [List.toList_toArray]
  omega

set_option maxHeartbeats 2000000 in
set_option maxRecDepth 100000 in
theorem lexSigns_any (s : ByteArray) (xs : List Int) (u : Value) (w : World) (hm : s.size ≤ 9223372036854775807) (hxm : xs.length ≤ 9223372036854775807) (hu : Sl w u (iv xs)) (hV : Vs w) :
    Calls Tryd.prog 3 #[.string s, u] w fun e w' => e = .returned (.bool true) ∧ Bl w w' := by
  have HU := Lib.hid hu
  obtain ⟨a, c, rfl, hac, -⟩ := hu
  rw [iv_len] at hac HU ⊢
  have HV := Lib.hid hV
  clear hV
  by_cases hs : 300 < s.size
  · go_enter Tryd.func3, Tryd.ntmps3
    go_wp2_with fail
    refine (awake_any _ HV.out).mono ?_
    rintro e w1 ⟨rfl, hk⟩
    have HK := Lib.hid hk
    clear hk
    go_wp2
    go_ret
    exact ⟨rfl, HK.out⟩
  · have hs' : s.size ≤ 300 := by omega
    have ds : decide ((300 : Int) < (s.size : Int)) = false := decide_eq_false (by omega)
    by_cases hx : 100 < xs.length
    · have zx : (100 : Int) < (xs.length : Int) := by omega
      go_enter Tryd.func3, Tryd.ntmps3
      go_wp2_with fail
      refine (awake_any _ HV.out).mono ?_
      rintro e w1 ⟨rfl, hk⟩
      have HK := Lib.hid hk
      clear hk
      go_wp2
      go_ret
      exact ⟨rfl, HK.out⟩
    · have hx' : xs.length ≤ 100 := by omega
      have dx : decide ((100 : Int) < (xs.length : Int)) = false := decide_eq_false (by omega)
      have hl := Lx.sg_len s.data.toList
      rw [len_list] at hl
      have HLL : Hid ((Lx.sg s.data.toList).length ≤ 300) := Lib.hid (by omega)
      clear hl
      go_enter Tryd.func3, Tryd.ntmps3
      go_wp2_with fail
      refine (rsigns_any s _ (by omega)).mono ?_
      rintro e w1 (⟨hv, u1, v1, rfl, hu1, hv1, hk⟩ | ⟨hv, rfl, hk⟩)
      · have HK := Lib.hid hk
        have HA1 := Lib.hid hu1
        have HA2 := Lib.hid hv1
        have HVD := Lib.hid hv
        have R1 := right_any s w1 (by omega) (HV.out.next hk)
        rw [hv] at R1
        clear hk hu1 hv1 hv
        go_wp2_with fail
        refine R1.mono ?_
        rintro e w2 ⟨rfl, hk⟩
        have HK2 := Lib.hid (HK.out.next hk)
        have HA1' := Lib.hid (HA1.out.next hk)
        have HA2' := Lib.hid (HA2.out.next hk)
        clear hk R1 HK HA1 HA2
        go_wp2_with fail
        refine (signs_any s w2 (by omega) (HV.out.next HK2.out)).mono ?_
        rintro e w3 ⟨v3, rfl, h3, hk⟩
        rw [HVD.out, if_pos rfl] at h3
        have HK3 := Lib.hid (HK2.out.next hk)
        have HC := Lib.hid h3
        have HA1 := Lib.hid (HA1'.out.next hk)
        have HA2 := Lib.hid (HA2'.out.next hk)
        clear hk h3 HK2 HA1' HA2'
        go_wp2_with fail
        refine (alike_same (cs (Lx.sg s.data.toList)) v3 u1 w3 HC.out HA1.out (by rw [cs_len]; have := HLL.out; omega)).mono ?_
        rintro e w4 ⟨rfl, hk⟩
        have HK4 := Lib.hid (HK3.out.next hk)
        have HA2' := Lib.hid (HA2.out.next hk)
        clear hk HK3 HA1 HA2 HC
        go_wp2_with fail
        refine (places_any s w4 (by omega) (HV.out.next HK4.out)).mono ?_
        rintro e w5 ⟨v5, rfl, h5, hk⟩
        rw [HVD.out, if_pos rfl] at h5
        have HK5 := Lib.hid (HK4.out.next hk)
        have HC := Lib.hid h5
        have HA2 := Lib.hid (HA2'.out.next hk)
        clear hk h5 HK4 HA2'
        go_wp2_with fail
        refine (alike_same (ps (Lx.sg s.data.toList)) v5 v1 w5 HC.out HA2.out (by rw [ps_len]; have := HLL.out; omega)).mono ?_
        rintro e w6 ⟨rfl, hk⟩
        have HK6 := Lib.hid (HK5.out.next hk)
        clear hk HK5 HA2 HC
        go_wp2_with fail
        refine (signs_any s w6 (by omega) (HV.out.next HK6.out)).mono ?_
        rintro e w7 ⟨v7, rfl, h7, hk⟩
        rw [HVD.out, if_pos rfl] at h7
        have HK7 := Lib.hid (HK6.out.next hk)
        have HC := Lib.hid h7
        clear hk h7 HK6
        go_wp2_with fail
        refine (text_back s v7 w7 (by omega) HVD.out HC.out).mono ?_
        rintro e wlast ⟨rfl, hk⟩
        have HK := Lib.hid (HK7.out.next hk)
        clear hk HK7 HC
        go_wp2_with fail
        refine (text_any xs _ _ (HU.out.next HK.out) (by omega)).mono ?_
        rintro e wt hT
        have hk2 : Bl wlast wt := by rcases hT with ⟨_, _, h⟩ | ⟨_, _, h⟩ <;> exact h
        have HKT := Lib.hid (HK.out.next hk2)
        clear hk2 HK
        rcases hT with ⟨hall, rfl, _⟩ | ⟨hall, rfl, _⟩
        · have HALL := Lib.hid hall
          clear hall
          go_wp2
          go_loopw [12, 13] (fun S i wr => QI wt xs S i wr) (fun _ i _ => msr xs.length i)
          case atStart => exact QI.start wt xs
          case round =>
            obtain ⟨k, t, hk, rfl, rfl, ht, hts, hb, hA⟩ := hrel
            have HB := Lib.hid (HKT.out.next hb)
            have HB0 := Lib.hid hb
            clear hb
            by_cases hlt : k < xs.length
            · have z1 : (k : Int) < (xs.length : Int) := by omega
              obtain ⟨a', c', e1, -, hcell⟩ := HU.out.next HB.out
              obtain ⟨b1, o1, e2, -, c1⟩ := hcell k _ (iv_get hlt)
              injection e1 with e1 e3 e4
              clear e3 e4
              subst e1
              subst e2
              clear hcell
              have HSG : Hid (Lx.sgn xs[k] = true) := Lib.hid (List.all_eq_true.1 HALL.out _ (List.getElem_mem hlt))
              have S1 : ∀ W, Calls Tryd.prog 13 #[.int .i64 xs[k]] W fun e w' => e = .returned (.bool true) ∧ w' = W := fun W => by have := sign_any xs[k] W; rwa [HSG.out] at this
              go_wp2_with (go_at_call 13; (with_reducible refine (S1 _).mono ?_); rintro e w2 ⟨rfl, rfl⟩)
              refine (lay_any xs[k] _ HSG.out).mono ?_
              rintro e w3 ⟨v, rfl, hv, hk3⟩
              have cv := hv.conv
              have hle := enc_le xs[k]
              have HQ := Lib.hid (QI.step (i := .int .i64 ((k : Int) + 1)) (by omega) hlt ht.out (HB0.out.next hk3) hA.out HSG.out (by go_num))
              have hz : (⟨(Lib.encodeRune xs[k]).toArray⟩ : ByteArray).size ≤ 4 := by show (Lib.encodeRune xs[k]).toArray.size ≤ 4; rw [List.size_toArray]; exact hle
              clear hv hk3 S1 c1 hle
              go_wp2
              go_roundw
              case rel => exact HQ.out
              case measure => simp [msr, intOf]; omega
            · have hte : xs.take k = xs := List.take_of_length_le (by omega)
              have ht' := ht.out
              rw [hte] at ht'
              subst ht'
              have hV9 := HV.out.next HB.out
              clear hte ht hA
              go_wp2_with fail
              refine (awake_any _ hV9).mono ?_
              rintro e w4 ⟨rfl, hk⟩
              have HK4 := Lib.hid (HB.out.next hk)
              clear hk hV9
              go_wp2
              go_ret
              exact ⟨rfl, HK4.out⟩
        · have HALL := Lib.hid hall
          clear hall
          go_wp2
          go_loopw [12, 13] (fun S i wr => QI wt xs S i wr) (fun _ i _ => msr xs.length i)
          case atStart => exact QI.start wt xs
          case round =>
            obtain ⟨k, t, hk, rfl, rfl, ht, hts, hb, hA⟩ := hrel
            have HB := Lib.hid (HKT.out.next hb)
            have HB0 := Lib.hid hb
            clear hb
            by_cases hlt : k < xs.length
            · have z1 : (k : Int) < (xs.length : Int) := by omega
              obtain ⟨a', c', e1, -, hcell⟩ := HU.out.next HB.out
              obtain ⟨b1, o1, e2, -, c1⟩ := hcell k _ (iv_get hlt)
              injection e1 with e1 e3 e4
              clear e3 e4
              subst e1
              subst e2
              clear hcell
              cases hsg : Lx.sgn xs[k] with
              | true =>
                have HSG := Lib.hid hsg
                clear hsg
                have S1 : ∀ W, Calls Tryd.prog 13 #[.int .i64 xs[k]] W fun e w' => e = .returned (.bool true) ∧ w' = W := fun W => by have := sign_any xs[k] W; rwa [HSG.out] at this
                go_wp2_with (go_at_call 13; (with_reducible refine (S1 _).mono ?_); rintro e w2 ⟨rfl, rfl⟩)
                refine (lay_any xs[k] _ HSG.out).mono ?_
                rintro e w3 ⟨v, rfl, hv, hk3⟩
                have cv := hv.conv
                have hle := enc_le xs[k]
                have HQ := Lib.hid (QI.step (i := .int .i64 ((k : Int) + 1)) (by omega) hlt ht.out (HB0.out.next hk3) hA.out HSG.out (by go_num))
                have hz : (⟨(Lib.encodeRune xs[k]).toArray⟩ : ByteArray).size ≤ 4 := by show (Lib.encodeRune xs[k]).toArray.size ≤ 4; rw [List.size_toArray]; exact hle
                clear hv hk3 S1 c1 hle
                go_wp2
                go_roundw
                case rel => exact HQ.out
                case measure => simp [msr, intOf]; omega
              | false =>
                have S1 : ∀ W, Calls Tryd.prog 13 #[.int .i64 xs[k]] W fun e w' => e = .returned (.bool false) ∧ w' = W := fun W => by have := sign_any xs[k] W; rwa [hsg] at this
                have hV9 := HV.out.next HB.out
                clear hsg
                go_wp2_with (go_at_call 13; (with_reducible refine (S1 _).mono ?_); rintro e w2 ⟨rfl, rfl⟩)
                refine (awake_any _ hV9).mono ?_
                rintro e w4 ⟨rfl, hk⟩
                have HK4 := Lib.hid (HB.out.next hk)
                clear hk hV9 S1 c1
                go_wp2
                go_ret
                exact ⟨rfl, HK4.out⟩
            · exfalso
              have hte : xs.take k = xs := List.take_of_length_le (by omega)
              have := hA.out
              rw [hte, HALL.out] at this
              cases this
      · have HK := Lib.hid hk
        have HVD := Lib.hid hv
        have R1 := right_any s w1 (by omega) (HV.out.next hk)
        rw [hv] at R1
        clear hk hv
        go_wp2_with fail
        refine R1.mono ?_
        rintro e w2 ⟨rfl, hk⟩
        have HK2 := Lib.hid (HK.out.next hk)
        clear hk R1 HK
        go_wp2_with fail
        refine (signs_any s w2 (by omega) (HV.out.next HK2.out)).mono ?_
        rintro e w3 ⟨v3, rfl, h3, hk⟩
        rw [HVD.out] at h3
        have HK3 := Lib.hid (HK2.out.next hk)
        have HC : Hid (Sl w3 v3 (iv [])) := Lib.hid h3
        clear hk h3 HK2
        go_wp2_with fail
        refine (alike_same [] v3 _ w3 HC.out (Sl.nil _) (Nat.zero_le _)).mono ?_
        rintro e w4 ⟨rfl, hk⟩
        have HK4 := Lib.hid (HK3.out.next hk)
        clear hk HK3 HC
        go_wp2_with fail
        refine (places_any s w4 (by omega) (HV.out.next HK4.out)).mono ?_
        rintro e w5 ⟨v5, rfl, h5, hk⟩
        rw [HVD.out] at h5
        have HK5 := Lib.hid (HK4.out.next hk)
        have HC : Hid (Sl w5 v5 (iv [])) := Lib.hid h5
        clear hk h5 HK4
        go_wp2_with fail
        refine (alike_same [] v5 _ w5 HC.out (Sl.nil _) (Nat.zero_le _)).mono ?_
        rintro e wlast ⟨rfl, hk⟩
        have HK := Lib.hid (HK5.out.next hk)
        clear hk HK5 HC
        go_wp2_with fail
        refine (text_any xs _ _ (HU.out.next HK.out) (by omega)).mono ?_
        rintro e wt hT
        have hk2 : Bl wlast wt := by rcases hT with ⟨_, _, h⟩ | ⟨_, _, h⟩ <;> exact h
        have HKT := Lib.hid (HK.out.next hk2)
        clear hk2 HK
        rcases hT with ⟨hall, rfl, _⟩ | ⟨hall, rfl, _⟩
        · have HALL := Lib.hid hall
          clear hall
          go_wp2
          go_loopw [12, 13] (fun S i wr => QI wt xs S i wr) (fun _ i _ => msr xs.length i)
          case atStart => exact QI.start wt xs
          case round =>
            obtain ⟨k, t, hk, rfl, rfl, ht, hts, hb, hA⟩ := hrel
            have HB := Lib.hid (HKT.out.next hb)
            have HB0 := Lib.hid hb
            clear hb
            by_cases hlt : k < xs.length
            · have z1 : (k : Int) < (xs.length : Int) := by omega
              obtain ⟨a', c', e1, -, hcell⟩ := HU.out.next HB.out
              obtain ⟨b1, o1, e2, -, c1⟩ := hcell k _ (iv_get hlt)
              injection e1 with e1 e3 e4
              clear e3 e4
              subst e1
              subst e2
              clear hcell
              have HSG : Hid (Lx.sgn xs[k] = true) := Lib.hid (List.all_eq_true.1 HALL.out _ (List.getElem_mem hlt))
              have S1 : ∀ W, Calls Tryd.prog 13 #[.int .i64 xs[k]] W fun e w' => e = .returned (.bool true) ∧ w' = W := fun W => by have := sign_any xs[k] W; rwa [HSG.out] at this
              go_wp2_with (go_at_call 13; (with_reducible refine (S1 _).mono ?_); rintro e w2 ⟨rfl, rfl⟩)
              refine (lay_any xs[k] _ HSG.out).mono ?_
              rintro e w3 ⟨v, rfl, hv, hk3⟩
              have cv := hv.conv
              have hle := enc_le xs[k]
              have HQ := Lib.hid (QI.step (i := .int .i64 ((k : Int) + 1)) (by omega) hlt ht.out (HB0.out.next hk3) hA.out HSG.out (by go_num))
              have hz : (⟨(Lib.encodeRune xs[k]).toArray⟩ : ByteArray).size ≤ 4 := by show (Lib.encodeRune xs[k]).toArray.size ≤ 4; rw [List.size_toArray]; exact hle
              clear hv hk3 S1 c1 hle
              go_wp2
              go_roundw
              case rel => exact HQ.out
              case measure => simp [msr, intOf]; omega
            · have hte : xs.take k = xs := List.take_of_length_le (by omega)
              have ht' := ht.out
              rw [hte] at ht'
              subst ht'
              have hV9 := HV.out.next HB.out
              clear hte ht hA
              go_wp2_with fail
              refine (awake_any _ hV9).mono ?_
              rintro e w4 ⟨rfl, hk⟩
              have HK4 := Lib.hid (HB.out.next hk)
              clear hk hV9
              go_wp2
              go_ret
              exact ⟨rfl, HK4.out⟩
        · have HALL := Lib.hid hall
          clear hall
          go_wp2
          go_loopw [12, 13] (fun S i wr => QI wt xs S i wr) (fun _ i _ => msr xs.length i)
          case atStart => exact QI.start wt xs
          case round =>
            obtain ⟨k, t, hk, rfl, rfl, ht, hts, hb, hA⟩ := hrel
            have HB := Lib.hid (HKT.out.next hb)
            have HB0 := Lib.hid hb
            clear hb
            by_cases hlt : k < xs.length
            · have z1 : (k : Int) < (xs.length : Int) := by omega
              obtain ⟨a', c', e1, -, hcell⟩ := HU.out.next HB.out
              obtain ⟨b1, o1, e2, -, c1⟩ := hcell k _ (iv_get hlt)
              injection e1 with e1 e3 e4
              clear e3 e4
              subst e1
              subst e2
              clear hcell
              cases hsg : Lx.sgn xs[k] with
              | true =>
                have HSG := Lib.hid hsg
                clear hsg
                have S1 : ∀ W, Calls Tryd.prog 13 #[.int .i64 xs[k]] W fun e w' => e = .returned (.bool true) ∧ w' = W := fun W => by have := sign_any xs[k] W; rwa [HSG.out] at this
                go_wp2_with (go_at_call 13; (with_reducible refine (S1 _).mono ?_); rintro e w2 ⟨rfl, rfl⟩)
                refine (lay_any xs[k] _ HSG.out).mono ?_
                rintro e w3 ⟨v, rfl, hv, hk3⟩
                have cv := hv.conv
                have hle := enc_le xs[k]
                have HQ := Lib.hid (QI.step (i := .int .i64 ((k : Int) + 1)) (by omega) hlt ht.out (HB0.out.next hk3) hA.out HSG.out (by go_num))
                have hz : (⟨(Lib.encodeRune xs[k]).toArray⟩ : ByteArray).size ≤ 4 := by show (Lib.encodeRune xs[k]).toArray.size ≤ 4; rw [List.size_toArray]; exact hle
                clear hv hk3 S1 c1 hle
                go_wp2
                go_roundw
                case rel => exact HQ.out
                case measure => simp [msr, intOf]; omega
              | false =>
                have S1 : ∀ W, Calls Tryd.prog 13 #[.int .i64 xs[k]] W fun e w' => e = .returned (.bool false) ∧ w' = W := fun W => by have := sign_any xs[k] W; rwa [hsg] at this
                have hV9 := HV.out.next HB.out
                clear hsg
                go_wp2_with (go_at_call 13; (with_reducible refine (S1 _).mono ?_); rintro e w2 ⟨rfl, rfl⟩)
                refine (awake_any _ hV9).mono ?_
                rintro e w4 ⟨rfl, hk⟩
                have HK4 := Lib.hid (HB.out.next hk)
                clear hk hV9 S1 c1
                go_wp2
                go_ret
                exact ⟨rfl, HK4.out⟩
            · exfalso
              have hte : xs.take k = xs := List.take_of_length_le (by omega)
              have := hA.out
              rw [hte, HALL.out] at this
              cases this
end Go.Proofs.YtennmdpllclmiaaDoor
