/-
  Contracts of the document's answers of layer 4: a text's signs.
-/
import Derived.Test.YtennmdpllclmiaaDoorLexRows
import Derived.Test.YtennmdpllclmiaaDoorLexFirst5
namespace Go.Proofs.YtennmdpllclmiaaDoor
open Go.RowKit

/-- signs, and places, as numbers -/
def cs (l : List (Nat × Nat)) : List Int := l.map fun x => (x.1 : Int)
def ps (l : List (Nat × Nat)) : List Int := l.map fun x => (x.2 : Int)
/-- a row of ints -/
def iv (l : List Int) : List Value := l.map (Value.int .i64)
theorem iv_snoc (l : List Int) (x : Int) : iv (l ++ [x]) = iv l ++ [.int .i64 x] := by simp [iv]
theorem iv_len (l : List Int) : (iv l).length = l.length := by simp [iv]
theorem cs_snoc (l : List (Nat × Nat)) (x : Nat × Nat) : cs (l ++ [x]) = cs l ++ [(x.1 : Int)] := by simp [cs]
theorem ps_snoc (l : List (Nat × Nat)) (x : Nat × Nat) : ps (l ++ [x]) = ps l ++ [(x.2 : Int)] := by simp [ps]
theorem cs_len (l : List (Nat × Nat)) : (cs l).length = l.length := by simp [cs]
theorem ps_len (l : List (Nat × Nat)) : (ps l).length = l.length := by simp [ps]

theorem first_at (s : ByteArray) (p : Nat) (w : World) (hp : p < s.size) (hs : s.size ≤ 1000000) :
    Calls Tryd.prog 22 #[.string (s.extract p s.size)] w fun e w' =>
      (¬ Lx.bad s.data.toList p ∧ e = .returned (.tuple #[.int .i64 (Lx.cp s.data.toList p), .int .i64 (Lx.wp s.data.toList p)]) ∧ Bl w w') ∨ (Lx.bad s.data.toList p ∧ e = .returned (.tuple #[.int .i64 0, .int .i64 0]) ∧ Bl w w') := by
  have e : (s.extract p s.size).data.toList = s.data.toList.drop p := Lib.extract_to_end s p
  have hz : (s.extract p s.size).size = s.size - p := by rw [← len_list, e, List.length_drop, len_list]
  have h := first_any (s.extract p s.size) w (by omega) (by omega)
  rw [e] at h
  exact h

/-- the document's signs end so -/
def RS (l : List UInt8) (w : World) (e : Ending) (w' : World) : Prop :=
  (Lib.validD l = true ∧ ∃ u v, e = .returned (.tuple #[u, v, .bool true]) ∧ Sl w' u (iv (cs (Lx.sg l))) ∧ Sl w' v (iv (ps (Lx.sg l))) ∧ Bl w w') ∨
  (Lib.validD l = false ∧ e = .returned (.tuple #[.slice none 0 0, .slice none 0 0, .bool false]) ∧ Bl w w')
/-- what stands behind the signs up to place p -/
def SI (w : World) (l : List UInt8) (u v i : Value) (wr : World) : Prop :=
  ∃ (p : Nat) (acc : List (Nat × Nat)), i = .int .i64 p ∧ p ≤ l.length + 4 ∧ acc.length ≤ p ∧ Two w wr 3 u v (iv (cs acc)) (iv (ps acc)) ∧ Hid (acc ++ Lx.rest l p = Lx.sg l) ∧ Hid (Lib.validD (l.drop p) = Lib.validD l)
theorem wp_le (l : List UInt8) (p : Nat) (h : p < l.length) (hb : ¬ Lx.bad l p) : p + Lx.wp l p ≤ l.length := by
  have hne : l.drop p ≠ [] := by
    intro e
    have := congrArg List.length e
    rw [List.length_drop] at this
    simp at this
    omega
  have := (Lx.good_enc (l.drop p) hne hb).2.2
  rw [List.length_drop] at this
  have e : Lx.wp l p = (Lib.decodeL (l.drop p)).2 := rfl
  omega

theorem one1 (x : Value) (h : x.oneCell' = true) : ∀ u ∈ [x], u.oneCell' = true := by
  intro u hu
  rw [List.mem_singleton] at hu
  rw [hu]
  exact h
theorem SI.step {w wr : World} {l : List UInt8} {u v : Value} {acc : List (Nat × Nat)} {p c n : Nat} {i : Value} (hT : Two w wr 3 v u (iv (ps acc) ++ [.int .i64 p]) (iv (cs acc) ++ [.int .i64 c])) (hi : i = .int .i64 ((p + n : Nat) : Int)) (hp : p + n ≤ l.length) (hn : 1 ≤ n) (ha : acc.length ≤ p)
    (h1 : acc ++ Lx.rest l p = Lx.sg l) (h2 : Lib.validD (l.drop p) = Lib.validD l) (h3 : Lx.rest l p = (c, p) :: Lx.rest l (p + n)) (h4 : Lib.validD (l.drop p) = Lib.validD (l.drop (p + n))) : SI w l u v i wr := by
  refine ⟨p + n, acc ++ [(c, p)], hi, by omega, by rw [List.length_append, List.length_singleton]; omega, ?_, Lib.hid ?_, Lib.hid (by rw [← h4]; exact h2)⟩
  · rw [cs_snoc, ps_snoc, iv_snoc, iv_snoc]
    exact hT.swap
  · rw [← h1, h3]
    simp

set_option maxHeartbeats 1000000 in
theorem rsigns_any (s : ByteArray) (w : World) (hs : s.size ≤ 1000000) :
    Calls Tryd.prog 7 #[.string s] w fun e w' => RS s.data.toList w e w' := by
  obtain ⟨i0, hi, hz0, hz1, hz2⟩ := info_parts info3
  go_enter Tryd.func7, Tryd.ntmps7
  go_wp2
  go_loopw [5, 6, 7] (fun u v i wr => SI w s.data.toList u v i wr) (fun _ _ i _ => msr s.size i)
  case atStart => exact ⟨0, [], rfl, Nat.zero_le _, Nat.zero_le _, Two.start w 3, Lib.hid rfl, Lib.hid rfl⟩
  case round =>
    obtain ⟨p, acc, rfl, hp4, hal, hT, hA, hV⟩ := hrel
    rw [len_list] at hp4
    by_cases hp : p < s.size
    · have F1 := fun W => first_at s p W hp hs
      have hp' : p < s.data.toList.length := by rw [len_list]; exact hp
      have z1 : (p : Int) < (s.size : Int) := by omega
      have z2 : (p : Int) ≤ (s.size : Int) := by omega
      go_wp2_with fail
      refine (F1 _).mono ?_
      rintro e w1 (⟨hb, rfl, hk⟩ | ⟨hb, rfl, hk⟩)
      · have hw1 := Lx.wp_pos s.data.toList p
        have hw2 := wp_le s.data.toList p hp' hb
        rw [len_list] at hw2
        have HB := Lib.hid hb
        have HT := Lib.hid (hT.next hk)
        clear hb hT hk F1
        have HS1 := Lib.hid (Lx.rest_step s.data.toList p hp')
        have HS2 := Lib.hid (Lx.valid_step s.data.toList p hp' HB.out)
        generalize hc : Lx.cp s.data.toList p = c at *
        generalize hw : Lx.wp s.data.toList p = n at *
        have HC := Lib.hid hc
        have HW := Lib.hid hw
        clear hc hw
        have hn0 : ((n : Int) == 0) = false := by rw [beq_eq_false_iff_ne]; omega
        have hq1 : (iv (cs acc)).length = acc.length := by rw [iv_len, cs_len]
        have hq2 : (iv (ps acc)).length = acc.length := by rw [iv_len, ps_len]
        have K1 : Hid ((iv (cs acc)).length + 1 ≤ maxLen) := Lib.hid (by rw [hq1]; unfold maxLen; omega)
        have K2 : Hid (((iv (cs acc)).length + 1) * 8 ≤ 140737488355328) := Lib.hid (by rw [hq1]; omega)
        have K3 : Hid ((iv (ps acc)).length + 1 ≤ maxLen) := Lib.hid (by rw [hq2]; unfold maxLen; omega)
        have K4 : Hid (((iv (ps acc)).length + 1) * 8 ≤ 140737488355328) := Lib.hid (by rw [hq2]; omega)
        have K5 : Hid (w.heap.size ≤ w1.heap.size) := Lib.hid HT.out.bl.size
        clear hq1 hq2
        go_wp2_with (at_builtin; refine wpList_append_lies _ rfl (.tmp 23) (.tmp 25) 22 rfl w.heap.size 3 i0 (.int .i64 0) 1 8 Tryd.underlying22 hi hz0 hz1 hz2 rfl (by decide) _ _ _ rfl (HT.out.a.alloc _) ⟨w1.heap.size, 0, none⟩ 1 1 [.int .i64 c] rfl rfl (news1 _ _ _) (one1 _ rfl) (by decide) K1.out K2.out (Nat.le_trans K5.out (by simp)) (w1.heap.size + 1) (by simp) ?_)
        intro g cap w2 h1 h2 h3 h4
        have HT2 := Lib.hid (HT.out.put h1 h2 h3)
        have K6 : Hid (w.heap.size ≤ w2.heap.size) := Lib.hid HT2.out.bl.size
        clear h1 h2 h3 h4 HT K1 K2 K5
        go_wp2_with (at_builtin; refine wpList_append_lies _ rfl (.tmp 27) (.tmp 29) 22 rfl w.heap.size 3 i0 (.int .i64 0) 1 8 Tryd.underlying22 hi hz0 hz1 hz2 rfl (by decide) _ _ _ rfl (HT2.out.b.alloc _) ⟨w2.heap.size, 0, none⟩ 1 1 [.int .i64 p] rfl rfl (news1 _ _ _) (one1 _ rfl) (by decide) K3.out K4.out (Nat.le_trans K6.out (by simp)) (w2.heap.size + 1) (by simp) ?_)
        intro g' cap' w3 h1 h2 h3 h4
        have HT3 := Lib.hid (HT2.out.swap.put h1 h2 h3)
        clear h1 h2 h3 h4 HT2 K3 K4 K6
        go_wp2
        go_roundw
        case rel => exact SI.step HT3.out (by go_num) (by rw [len_list]; exact hw2) hw1 hal hA.out hV.out HS1.out HS2.out
        case measure => simp [msr, intOf]; omega
      · have HF : Hid (Lib.validD s.data.toList = false) := Lib.hid (by rw [← hV.out]; exact Lx.valid_bad _ _ hp' hb)
        have HK := Lib.hid (hT.bl.next hk)
        clear hb hT hk F1
        go_wp2
        go_ret3
        exact .inr ⟨HF.out, rfl, HK.out⟩
    · have HF : Hid (Lib.validD s.data.toList = true) := Lib.hid (by rw [← hV.out]; exact Lx.valid_end _ _ (by rw [len_list]; omega))
      have HE : Hid (acc = Lx.sg s.data.toList) := Lib.hid (by rw [← hA.out, Lx.rest_end _ _ (by rw [len_list]; omega), List.append_nil])
      have HT := Lib.hid hT
      clear hT
      go_wp2
      go_ret3
      refine .inl ⟨HF.out, _, _, rfl, ?_, ?_, HT.out.bl⟩
      · rw [← HE.out]; exact Sl.of_own HT.out.a
      · rw [← HE.out]; exact Sl.of_own HT.out.b
end Go.Proofs.YtennmdpllclmiaaDoor
