/-
  Contracts of the document's answers of layer 4: lines.
-/
import Derived.Test.YtennmdpllclmiaaDoorLexWord
namespace Go.Proofs.YtennmdpllclmiaaDoor
open Go.RowKit

/-- the document's words of a line -/
def RW (l : List UInt8) (w : World) (e : Ending) (w' : World) : Prop :=
  (∃ u xs, Lx.rwords l = some (bs xs) ∧ e = .returned (.tuple #[u, .bool true]) ∧ Sl w' u (sv xs) ∧ xs.length ≤ l.length + 1 ∧ Bl w w') ∨
  (Lx.rwords l = none ∧ e = .returned (.tuple #[.slice none 0 0, .bool false]) ∧ Bl w w')
theorem rwords_not {l : List UInt8} (h : Lx.isL l = false) : Lx.rwords l = none := by
  unfold Lx.rwords
  rw [h]
  rfl
theorem isL_no {l : List UInt8} {k c : Nat} (hk : k < (Lx.sg l).length) (hc : c = ((Lx.sg l)[k]).1) (h : Lx.inL c = false) : Lx.isL l = false := by
  unfold Lx.isL
  have : (Lx.sg l).all (fun x => Lx.inL x.1) = false := by
    rw [List.all_eq_false]
    exact ⟨_, List.getElem_mem hk, by rw [← hc, h]; simp⟩
  rw [this, Bool.and_false]
theorem isL_yes {l : List UInt8} (hv : Lib.validD l = true) (h : (Lx.sg l).all (fun x => Lx.inL x.1) = true) : Lx.isL l = true := by
  unfold Lx.isL
  rw [hv, h]
  rfl

/-- parts gathered up to place k; the word that is under way -/
def PI (w1 : World) (s : ByteArray) (u x i : Value) (wr : World) : Prop :=
  ∃ (k : Nat) (acc : List ByteArray) (wd : ByteArray), i = .int .i64 k ∧ k ≤ s.size ∧ acc.length ≤ k ∧ wd.size ≤ k ∧ x = .string wd ∧ wr.ownsRow w1.heap.size 9 1 u (sv acc).length (sv acc) ∧ Bl w1 wr ∧
    Hid (Lx.spl [] s.data.toList = bs acc ++ Lx.spl wd.data.toList (s.data.toList.drop k)) ∧ Hid (∀ p ∈ bs acc, p ≠ [])
theorem PI.start (w1 : World) (s : ByteArray) : PI w1 s (.slice none 0 0) (.string ⟨#[]⟩) (.int .i64 0) w1 :=
  ⟨0, [], ⟨#[]⟩, rfl, Nat.zero_le _, Nat.zero_le _, Nat.zero_le _, rfl, World.ownsRow_nil _ _ _ _, Bl.refl _, Lib.hid rfl, Lib.hid (fun p hp => by cases hp)⟩
theorem drop_get (s : ByteArray) (k : Nat) (h : k < s.size) : s.data.toList.drop k = s[k] :: s.data.toList.drop (k + 1) := by
  have h' : k < s.data.toList.length := by rw [len_list]; exact h
  rw [List.drop_eq_getElem_cons h']
  congr 1
theorem ext_one (s : ByteArray) (k : Nat) (h : k < s.size) : (s.extract k (k + 1)).data.toList = [s[k]] := by
  have h' : k < s.data.toList.length := by rw [len_list]; exact h
  rw [Lib.extract_data]
  have e : (s.data.toList.drop k).take 1 = [s[k]] := by rw [drop_get s k h]; rfl
  simpa using e
theorem app_list (a b : ByteArray) : (a ++ b).data.toList = a.data.toList ++ b.data.toList := by
  simp
theorem PI.more {w1 wr : World} {s : ByteArray} {u : Value} {k : Nat} {acc : List ByteArray} {wd : ByteArray} {i : Value} (hk : k < s.size) (hb : s[k] ≠ 32) (ha : acc.length ≤ k) (hw : wd.size ≤ k) (ho : wr.ownsRow w1.heap.size 9 1 u (sv acc).length (sv acc)) (hB : Bl w1 wr)
    (h1 : Lx.spl [] s.data.toList = bs acc ++ Lx.spl wd.data.toList (s.data.toList.drop k)) (h2 : ∀ p ∈ bs acc, p ≠ []) (hi : i = .int .i64 ((k + 1 : Nat) : Int)) : PI w1 s u (.string (wd ++ s.extract k (k + 1))) i wr := by
  have e : (wd ++ s.extract k (k + 1)).data.toList = wd.data.toList ++ [s[k]] := by rw [app_list, ext_one s k hk]
  refine ⟨k + 1, acc, _, hi, by omega, by omega, ?_, rfl, ho, hB, Lib.hid ?_, Lib.hid h2⟩
  · rw [← len_list, e, List.length_append, len_list, List.length_singleton]
    omega
  · rw [h1, drop_get s k hk, Lx.spl, if_neg hb, e]
theorem PI.word {w1 w2 : World} {s : ByteArray} {v : Value} {k : Nat} {acc : List ByteArray} {wd : ByteArray} {i : Value} (hk : k < s.size) (hb : s[k] = 32) (ha : acc.length ≤ k) (hn : wd.data.toList ≠ []) (ho : w2.ownsRow w1.heap.size 9 1 v ((sv acc).length + 1) (sv acc ++ [.string wd])) (hB : Bl w1 w2)
    (h1 : Lx.spl [] s.data.toList = bs acc ++ Lx.spl wd.data.toList (s.data.toList.drop k)) (h2 : ∀ p ∈ bs acc, p ≠ []) (hi : i = .int .i64 ((k + 1 : Nat) : Int)) : PI w1 s v (.string ⟨#[]⟩) i w2 := by
  have e : sv (acc ++ [wd]) = sv acc ++ [.string wd] := by simp [sv]
  have e2 : bs (acc ++ [wd]) = bs acc ++ [wd.data.toList] := by simp [bs]
  refine ⟨k + 1, acc ++ [wd], ⟨#[]⟩, hi, by omega, by rw [List.length_append, List.length_singleton]; omega, Nat.zero_le _, rfl, ?_, hB, Lib.hid ?_, Lib.hid ?_⟩
  · rw [e, List.length_append]
    exact ho
  · rw [h1, drop_get s k hk, Lx.spl, if_pos hb, e2]
    simp
  · rw [e2]
    intro p hp
    rcases List.mem_append.1 hp with hp | hp
    · exact h2 p hp
    · rw [List.mem_singleton] at hp
      rw [hp]
      exact hn
theorem rw_no {l r : List UInt8} {A : List (List UInt8)} {p : List UInt8} (hL : Lx.isL l = true) (hne : l ≠ []) (h : Lx.spl [] l = A ++ p :: Lx.spl [] r) (hp : p = []) : Lx.rwords l = none := by
  have hf : (Lx.spl [] l).all (fun p => decide (p ≠ [])) = false := by
    rw [List.all_eq_false]
    exact ⟨p, by rw [h]; simp, by rw [hp]; simp⟩
  unfold Lx.rwords
  rw [hL, if_pos rfl, if_neg hne, hf]
  rfl
theorem rw_end {l : List UInt8} {A : List (List UInt8)} {p : List UInt8} (hL : Lx.isL l = true) (hne : l ≠ []) (h : Lx.spl [] l = A ++ [p]) (hA : ∀ q ∈ A, q ≠ []) : Lx.rwords l = if p = [] then none else some (A ++ [p]) := by
  unfold Lx.rwords
  rw [hL, if_pos rfl, if_neg hne, h]
  by_cases hp : p = []
  · have hf : (A ++ [p]).all (fun p => decide (p ≠ [])) = false := by
      rw [List.all_eq_false]
      exact ⟨p, by simp, by rw [hp]; simp⟩
    rw [hf, if_pos hp]
    rfl
  · have hf : (A ++ [p]).all (fun p => decide (p ≠ [])) = true := by
      rw [List.all_eq_true]
      intro q hq
      rw [decide_eq_true_eq]
      rcases List.mem_append.1 hq with hq | hq
      · exact hA q hq
      · rw [List.mem_singleton] at hq
        rw [hq]
        exact hp
    rw [hf, if_pos rfl, if_neg hp]
theorem own_bl {w1 wr w2 : World} {u : Value} {xs : List Value} {e : TypeId} {o : Obj} (hB : Bl w1 wr) (ho : wr.ownsRow w1.heap.size e 1 u xs.length xs) (h2 : (wr.alloc o).grownBy w2 u.ownBlock) : Bl w1 w2 :=
  Below.grown (hB.next (Bl.alloc wr o)) h2 (by have := hB.size; simp; omega) (fun k hk => (ho.lt k hk).1)

theorem to32 {b : UInt8} (h : (b.toNat : Int) = 32) : b = 32 := UInt8.toNat_inj.1 (by have : (32 : UInt8).toNat = 32 := rfl; omega)
set_option maxHeartbeats 2000000 in
theorem rwords_any (s : ByteArray) (w : World) (hs : s.size ≤ 100000) :
    Calls Tryd.prog 16 #[.string s] w fun e w' => RW s.data.toList w e w' := by
  obtain ⟨i0, hi, hz0, hz1, hz2⟩ := info_parts info9
  go_enter Tryd.func16, Tryd.ntmps16
  go_wp2_with fail
  refine (rsigns_any s w (by omega)).mono ?_
  rintro e w1 (⟨hv, u, v, rfl, hu, -, hk⟩ | ⟨hv, rfl, hk⟩)
  · have hlen := Lx.sg_len s.data.toList
    rw [len_list] at hlen
    obtain ⟨a, c, rfl, hac, hcells⟩ := hu
    rw [iv_len, cs_len] at hac ⊢
    have HK := Lib.hid hk
    have HU := Lib.hid hcells
    have HV := Lib.hid hv
    clear hk hcells hv
    go_wp2
    go_loop [7] (fun i => ∃ k : Nat, k ≤ (Lx.sg s.data.toList).length ∧ i = .int .i64 k ∧ Hid (((Lx.sg s.data.toList).take k).all (fun x => Lx.inL x.1) = true)) (fun i => msr (Lx.sg s.data.toList).length i)
    case atStart => exact ⟨0, Nat.zero_le _, rfl, Lib.hid rfl⟩
    case round =>
      obtain ⟨k, hk, rfl, hA⟩ := hrel
      by_cases hlt : k < (Lx.sg s.data.toList).length
      · have z3 : (k : Int) < ((Lx.sg s.data.toList).length : Int) := by omega
        obtain ⟨c, hc⟩ : ∃ c, c = ((Lx.sg s.data.toList)[k]).1 := ⟨_, rfl⟩
        obtain ⟨b1, o1, e1, -, c1⟩ := HU.out k (.int .i64 c) (by unfold iv cs; rw [List.getElem?_map, List.getElem?_map, List.getElem?_eq_getElem hlt, hc]; rfl)
        subst e1
        by_cases hq : (c : Int) < 32
        · have HF := Lib.hid (rwords_not (isL_no hlt hc (by unfold Lx.inL; rw [decide_eq_false (by omega : ¬ 32 ≤ c)]; rfl)))
          clear hc
          go_wp2
          go_ret2
          exact .inr ⟨HF.out, rfl, HK.out⟩
        · have hq1 : (32 : Int) ≤ (c : Int) := by omega
          have hd : decide ((c : Int) < 32) = false := decide_eq_false hq
          by_cases hr : c = 127
          · have HF := Lib.hid (rwords_not (isL_no hlt hc (by rw [hr]; rfl)))
            have y : ((c : Int) == 127) = true := by rw [beq_iff_eq]; omega
            clear hc hr
            go_wp2
            go_ret2
            exact .inr ⟨HF.out, rfl, HK.out⟩
          · have y : ((c : Int) == 127) = false := by rw [beq_eq_false_iff_ne]; omega
            have HN := Lib.hid (all_take hlt hA.out (show Lx.inL ((Lx.sg s.data.toList)[k]).1 = true by rw [← hc]; unfold Lx.inL; rw [decide_eq_true (by omega : 32 ≤ c), decide_eq_true hr]; rfl))
            clear hc hr
            go_wp2
            go_round
            case rel => exact ⟨k + 1, by omega, by go_num, HN⟩
            case measure => simp [msr, intOf]; omega
      · have HL : Hid (Lx.isL s.data.toList = true) := Lib.hid (isL_yes HV.out (by
          have h1 := hA.out
          rw [List.take_of_length_le (by omega)] at h1
          exact h1))
        clear HU
        go_wp2
        go_loopw [8, 9, 10] (fun u x i wr => PI w1 s u x i wr) (fun _ _ i _ => msr s.size i)
        case atStart => exact PI.start w1 s
        case round =>
          obtain ⟨k, acc, wd, rfl, hks, hal, hwk, rfl, ho, hB, h1, h2⟩ := hrel
          by_cases hlt : k < s.size
          · have z3 : (k : Int) < (s.size : Int) := by omega
            have hc := (s[k]'hlt).toNat_lt
            have hneL : s.data.toList ≠ [] := fun e => by
              have : s.size = 0 := by rw [← len_list, e]; rfl
              omega
            have HNE := Lib.hid hneL
            clear hneL
            by_cases hb : ((s[k]'hlt).toNat : Int) = 32
            · have y : (((s[k]'hlt).toNat : Int) != 32) = false := bne_eq_false_iff_eq.2 hb
              have HS := Lib.hid (to32 hb)
              clear hb
              by_cases hw : wd.data.toList = []
              · have e0 : wd.toList.isEmpty = true := by rw [ByteArray.toList_eq, hw]; rfl
                have e1 : (wd.toList == []) = true := by rw [ByteArray.toList_eq, hw]; rfl
                have HF : Hid (Lx.rwords s.data.toList = none) := Lib.hid (rw_no HL.out HNE.out (h1.out.trans (show _ = bs acc ++ wd.data.toList :: Lx.spl [] (s.data.toList.drop (k + 1)) by rw [drop_get s k hlt, Lx.spl, if_pos HS.out])) hw)
                have HB := Lib.hid hB
                clear hw hB ho
                go_wp2
                go_ret2
                exact .inr ⟨HF.out, rfl, HK.out.next HB.out⟩
              · have e0 : wd.toList.isEmpty = false := by rw [ByteArray.toList_eq, List.isEmpty_eq_false_iff]; exact hw
                have e1 : (wd.toList == []) = false := by rw [ByteArray.toList_eq, beq_eq_false_iff_ne]; exact hw
                have HW := Lib.hid hw
                have HO := Lib.hid ho
                have HB := Lib.hid hB
                have ll : (sv acc).length = acc.length := sv_len acc
                have K1 : Hid ((sv acc).length + 1 ≤ maxLen) := Lib.hid (by rw [ll]; unfold maxLen; omega)
                have K2 : Hid (((sv acc).length + 1) * 16 ≤ 140737488355328) := Lib.hid (by rw [ll]; omega)
                have K3 : Hid (w1.heap.size ≤ wr.heap.size) := Lib.hid hB.size
                clear hw ho hB ll
                go_wp2_with (at_builtin; refine wpList_append_own _ rfl (.tmp 56) (.tmp 58) 36 rfl w1.heap.size 9 i0 (.string ByteArray.empty) 1 16 Tryd.underlying36 hi hz0 hz1 hz2 rfl (by decide) _ _ _ rfl (HO.out.alloc _) ⟨wr.heap.size, 0, none⟩ 1 1 [.string wd] rfl rfl (news1 _ _ _) (one1 _ rfl) K1.out K2.out (Nat.le_trans K3.out (by simp)) ?_)
                intro v' w2 g1 g2 _
                have HB2 := Lib.hid (own_bl HB.out HO.out g2)
                have HO2 := Lib.hid g1
                clear g1 g2 HO HB K1 K2 K3
                go_wp2
                go_roundw
                case rel => exact PI.word hlt HS.out hal HW.out HO2.out HB2.out h1.out h2.out (by go_num)
                case measure => simp [msr, intOf]; omega
            · have y : (((s[k]'hlt).toNat : Int) != 32) = true := bne_iff_ne.2 hb
              have HS : Hid (s[k] ≠ 32) := Lib.hid (fun e => hb (by rw [e]; rfl))
              have HO := Lib.hid ho
              have HB := Lib.hid hB
              clear hb ho hB
              go_wp2
              go_roundw
              case rel => exact PI.more hlt HS.out hal hwk HO.out HB.out h1.out h2.out (by go_num)
              case measure => simp [msr, intOf]; omega
          · have HD : Hid (Lx.spl [] s.data.toList = bs acc ++ [wd.data.toList]) := Lib.hid (by rw [h1.out, List.drop_eq_nil_of_le (by rw [len_list]; omega), Lx.spl])
            have HO := Lib.hid ho
            have HB := Lib.hid hB
            clear ho hB h1
            by_cases hz : s.size = 0
            · have hw : wd.data.toList = [] := List.eq_nil_of_length_eq_zero (by rw [len_list]; omega)
              have e0 : wd.toList.isEmpty = true := by rw [ByteArray.toList_eq, hw]; rfl
              have e1 : (wd.toList == []) = true := by rw [ByteArray.toList_eq, hw]; rfl
              have hn : (s.size : Int) ≤ 0 := by omega
              have hacc : acc = [] := List.eq_nil_of_length_eq_zero (by omega)
              have HF : Hid (Lx.rwords s.data.toList = some (bs acc)) := Lib.hid (by rw [hacc, empty_list hz]; rfl)
              have HA : Hid (acc = []) := Lib.hid hacc
              clear hw hz hacc
              go_wp2
              go_ret2
              exact .inl ⟨_, acc, HF.out, rfl, Sl.of_own HO.out, by rw [HA.out]; exact Nat.zero_le _, HK.out.next HB.out⟩
            · have hn : (0 : Int) < (s.size : Int) := by omega
              have hneL : s.data.toList ≠ [] := fun e => hz (by rw [← len_list, e]; rfl)
              have HR := Lib.hid (rw_end HL.out hneL HD.out h2.out)
              clear hneL hz
              by_cases hw : wd.data.toList = []
              · have e0 : wd.toList.isEmpty = true := by rw [ByteArray.toList_eq, hw]; rfl
                have e1 : (wd.toList == []) = true := by rw [ByteArray.toList_eq, hw]; rfl
                have HF : Hid (Lx.rwords s.data.toList = none) := Lib.hid (by rw [HR.out, if_pos hw])
                clear hw
                go_wp2
                go_ret2
                exact .inr ⟨HF.out, rfl, HK.out.next HB.out⟩
              · have e0 : wd.toList.isEmpty = false := by rw [ByteArray.toList_eq, List.isEmpty_eq_false_iff]; exact hw
                have e1 : (wd.toList == []) = false := by rw [ByteArray.toList_eq, beq_eq_false_iff_ne]; exact hw
                have HF : Hid (Lx.rwords s.data.toList = some (bs (acc ++ [wd]))) := Lib.hid (by rw [HR.out, if_neg hw]; simp [bs])
                have ll : (sv acc).length = acc.length := sv_len acc
                have K1 : Hid ((sv acc).length + 1 ≤ maxLen) := Lib.hid (by rw [ll]; unfold maxLen; omega)
                have K2 : Hid (((sv acc).length + 1) * 16 ≤ 140737488355328) := Lib.hid (by rw [ll]; omega)
                have K3 : Hid (w1.heap.size ≤ wr.heap.size) := Lib.hid HB.out.size
                clear hw ll
                go_wp2_with (at_builtin; refine wpList_append_own _ rfl (.tmp 69) (.tmp 71) 36 rfl w1.heap.size 9 i0 (.string ByteArray.empty) 1 16 Tryd.underlying36 hi hz0 hz1 hz2 rfl (by decide) _ _ _ rfl (HO.out.alloc _) ⟨wr.heap.size, 0, none⟩ 1 1 [.string wd] rfl rfl (news1 _ _ _) (one1 _ rfl) K1.out K2.out (Nat.le_trans K3.out (by simp)) ?_)
                intro v' w2 g1 g2 _
                have HB2 := Lib.hid (own_bl HB.out HO.out g2)
                have HO2 : Hid (Sl w2 v' (sv (acc ++ [wd]))) := Lib.hid (by
                  have e : sv (acc ++ [wd]) = sv acc ++ [.string wd] := by simp [sv]
                  rw [e]
                  exact Sl.of_own g1)
                clear g1 g2 K1 K2 K3
                go_wp2
                go_ret2
                exact .inl ⟨_, _, HF.out, rfl, HO2.out, by rw [List.length_append, List.length_singleton, len_list]; omega, HK.out.next HB2.out⟩
  · have HF : Hid (Lx.rwords s.data.toList = none) := Lib.hid (rwords_not (by unfold Lx.isL; rw [hv]; rfl))
    have HK := Lib.hid hk
    clear hk hv
    go_wp2
    go_ret2
    exact .inr ⟨HF.out, rfl, HK.out⟩
end Go.Proofs.YtennmdpllclmiaaDoor
