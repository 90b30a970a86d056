/-
  Contracts of layer 3 (num), decimal part: what its functions and the document's answers return, for every input.
-/
import Derived.Test.YthpejdbfececkaaDoorRows
import Derived.Test.YthpejdbfececkaaDoorShelf
import Derived.Test.YthpejdbfececkaaDoorNumPlain
import Derived.WalkKit
import Derived.WalkSpells
import Derived.WalkLawsBesides
import Derived.ProofKit
import Derived.OpenShut
import Derived.Below
import Derived.BigCall
import Derived.Lib.Hide
import Derived.Lib.AtoiErrMem
import Derived.Lib.AppendIntMem
import Derived.Deep.RegionHeld3
import Derived.BigQuiet
import Derived.IntWalk
namespace Go.Proofs.YthpejdbfececkaaDoor
open Go.RowKit

/-- all that stood stands; there may be more -/
abbrev Bl (w w' : World) : Prop := Below w.heap.size w w'
theorem Bl.refl (w : World) : Bl w w := Below.refl _ _
theorem Bl.next {a b c : World} (h : Bl a b) (k : Bl b c) : Bl a c := Below.trans h (Below.mono k (Below.size h))

/-- the library's variables that are read hold what their initialisers lay -/
structure Vs (w : World) : Prop where
  tab : Lib.TabIs Tryd.prog w "internal/strconv.uint64pow10" .u64 Lib.pow10Tab
  syn : ∃ tp p, w.var? Tryd.prog "strconv.ErrSyntax" = some #[.iface tp p]
  rng : ∃ tp p, w.var? Tryd.prog "strconv.ErrRange" = some #[.iface tp p]
theorem var_next {w w' : World} {name : String} {c : Array Value} (h : w.var? Tryd.prog name = some c) (hb : Bl w w') : w'.var? Tryd.prog name = some c := by
  unfold World.var? at *
  cases hg : Tryd.prog.globalNamed name with
  | none => simp [hg] at h
  | some g =>
    simp only [hg, Option.bind_some] at h ⊢
    have hlt : g < w.heap.size := by
      rcases Nat.lt_or_ge g w.heap.size with h' | h'
      · exact h'
      · rw [Array.getElem?_eq_none h'] at h; simp at h
    rw [hb.block g hlt]
    exact h
theorem Vs.next {w w' : World} (h : Vs w) (hb : Bl w w') : Vs w' := by
  obtain ⟨t, ⟨a, b, c⟩, ⟨d, e, f⟩⟩ := h
  exact ⟨var_next t hb, ⟨a, b, var_next c hb⟩, ⟨d, e, var_next f hb⟩⟩

theorem ret_str {a b : List UInt8} (h : a = b) : Ending.returned (.string ⟨a.toArray⟩) = .returned (.string ⟨b.toArray⟩) := by rw [h]

set_option maxHeartbeats 400000 in
theorem dec_any (n : Int) (w : World) (h : -9223372036854775808 ≤ n ∧ n ≤ 9223372036854775807) (hV : Vs w) :
    Calls Tryd.prog 7 #[.int .i64 n] w fun e w' => e = .returned (.string ⟨(Lib.itoa n).toArray⟩) ∧ Bl w w' := by
  go_enter Tryd.func7, Tryd.ntmps7
  go_wp2_with fail
  refine (Tryd.strconv_Itoa n h.1 h.2 _ hV.tab).mono ?_
  rintro e w1 ⟨rfl, k, os, rfl⟩
  go_wp2_with fail
  go_ret
  exact ⟨rfl, Lib.below_grow _ _ (Nat.le_refl _) _ _⟩

theorem conv1 (W : World) (b : Nat) (v : Int) (h : W.cell? ⟨b, 0, none⟩ = some (.int .u8 v)) :
    (convert 40 9 (.slice (some ⟨b, 0, none⟩) 1 1)).run Tryd.prog W = .ok (.string ⟨#[UInt8.ofNat v.toNat]⟩) W := by
  rw [run_convert_bytes_string W _ _ 5 _ _ _ Tryd.underlying40 Tryd.underlying5 Tryd.underlying9]
  have hl := run_loadCells_list (P := Tryd.prog) W ⟨b, 0, none⟩ ([v].map (Value.int .u8)) (fun j x hj => by
    match j, hj with
    | 0, hj =>
      simp at hj
      subst hj
      exact h
    | k + 1, hj => simp at hj)
  simp only [List.length_map, List.length_singleton] at hl
  rw [run_bytesToString W _ 1 1 [v] hl]
  rfl
theorem conv1_new (W : World) (v : Int) : (convert 40 9 (.slice (some ⟨W.heap.size, 0, none⟩) 1 1)).run Tryd.prog (W.alloc (.cells #[.int .u8 v] 5)) = .ok (.string ⟨#[UInt8.ofNat v.toNat]⟩) (W.alloc (.cells #[.int .u8 v] 5)) :=
  conv1 _ _ v (by simp [go_sem])
theorem conv1_drew (W : World) (v : Int) : (convert 40 9 (.slice (some ⟨W.heap.size, 0, none⟩) 1 1)).run Tryd.prog (W.alloc (.cells #[.int .u8 v] 5)).drew = .ok (.string ⟨#[UInt8.ofNat v.toNat]⟩) (W.alloc (.cells #[.int .u8 v] 5)).drew :=
  conv1 _ _ v (by simp [go_sem])
theorem conv1_next {W W1 : World} {v : Int} (hk : Bl (W.alloc (.cells #[.int .u8 v] 5)).drew W1) : (convert 40 9 (.slice (some ⟨W.heap.size, 0, none⟩) 1 1)).run Tryd.prog W1 = .ok (.string ⟨#[UInt8.ofNat v.toNat]⟩) W1 :=
  conv1 _ _ v ((Below.cell hk (p := ⟨W.heap.size, 0, none⟩) (by show W.heap.size < (W.heap.push _).size; rw [Array.size_push]; omega)).trans (by simp [go_sem]))
theorem str_app (l : List UInt8) (c : UInt8) : (⟨l.toArray⟩ : ByteArray) ++ ⟨#[c]⟩ = ⟨(l ++ [c]).toArray⟩ := by
  apply ByteArray.ext
  simp

theorem ret_app {S : ByteArray} {l m : List UInt8} {c : UInt8} (hS : S = ⟨l.toArray⟩) (hm : m = l ++ [c]) : Ending.returned (.string (S ++ ⟨#[c]⟩)) = .returned (.string ⟨m.toArray⟩) := by rw [hS, hm, str_app]
theorem bl_after {w w1 : World} (h : Bl w.drew w1) (o : Obj) : Bl w (w1.alloc o) := by
  have h1 : Bl w w1 := Bl.next (Below.drew (Below.refl _ _)) h
  exact Below.alloc h1 (Below.size h1) o
theorem bl_ahead {w w1 : World} {o : Obj} (h : Bl (w.alloc o).drew w1) : Bl w w1 := Bl.next (Below.drew (Below.alloc (Below.refl _ _) (Nat.le_refl _) o)) h

set_option maxHeartbeats 400000 in
theorem rdec_any (n : Int) (w : World) (h : -9223372036854775808 ≤ n ∧ n ≤ 9223372036854775807) :
    Calls Tryd.prog 9 #[.int .i64 n] w fun e w' => e = .returned (.string ⟨(Lib.itoa n).toArray⟩) ∧ Bl w w' := by
  induction hm : n.natAbs using Nat.strongRecOn generalizing n w with
  | _ m ih =>
  by_cases h0 : n < 0
  · by_cases h1 : -10 < n
    · have HE := Lib.hid (Nm.itoa_neg_small n h0 h1)
      clear ih hm
      have c1 := conv1_new w
      go_enter Tryd.func9, Tryd.ntmps9
      go_wp2
      go_ret
      exact ⟨by rw [HE.out]; rfl, (Below.refl _ _).alloc (Nat.le_refl _) _⟩
    · have HE := Lib.hid (Nm.itoa_neg_big n (by omega))
      have b1 : -922337203685477580 ≤ n.tdiv 10 ∧ n.tdiv 10 ≤ -1 ∧ (n.tdiv 10).natAbs < m := by rw [(Nm.tdiv_bd n (by omega)).1]; omega
      have b2 : -9 ≤ n.tmod 10 ∧ n.tmod 10 ≤ 0 := by rw [(Nm.tdiv_bd n (by omega)).2]; omega
      have ih' : ∀ W, Calls Tryd.prog 9 #[.int .i64 (n.tdiv 10)] W fun e w' => ∃ S : ByteArray, e = .returned (.string S) ∧ Hid (S = ⟨(Lib.itoa (n.tdiv 10)).toArray⟩) ∧ (S.size : Int) ≤ 100 ∧ Bl W w' := fun W => by
        refine (ih _ b1.2.2 (n.tdiv 10) W (by omega) rfl).mono ?_
        rintro e w1 ⟨rfl, hk⟩
        have := Nm.itoa_len (n.tdiv 10) (by omega) (by omega)
        exact ⟨_, rfl, Lib.hid rfl, by show (((Lib.itoa (n.tdiv 10)).toArray.size : Nat) : Int) ≤ 100; rw [List.size_toArray]; omega, hk⟩
      clear ih hm
      have h1' : n ≤ -10 := by omega
      have b11 := b1.1
      have b12 := b1.2.1
      have b21 := b2.1
      have b22 := b2.2
      clear b1 b2
      have c1 := conv1_new
      have c2 := conv1_drew
      go_enter Tryd.func9, Tryd.ntmps9
      go_wp2_with fail
      have W0 : IntKind.i64.wrap (n.tdiv 10) = n.tdiv 10 := IntWalk.i64_in _ (by omega)
      have W1 : IntKind.i64.wrap (48 - n.tmod 10) = 48 - n.tmod 10 := IntWalk.i64_in _ (by omega)
      have W2 : IntKind.u8.wrap (48 - n.tmod 10) = 48 - n.tmod 10 := IntWalk.u8_in _ (by omega)
      go_region_with (first
        | (go_at_call 9; (with_reducible refine (ih' _).mono ?_); rintro e w1 ⟨S, rfl, HS, hsz, hk⟩; (try have cB := conv1_next hk); have HK := Lib.hid hk; clear hk))
      all_goals
        go_wp2_with fail
        go_ret
        exact ⟨ret_app HS.out HE.out, by first | exact bl_after HK.out _ | exact bl_ahead HK.out⟩
  · by_cases h1 : n < 10
    · have HE := Lib.hid (Nm.itoa_small n (by omega) h1)
      clear ih hm
      have h0' : 0 ≤ n := by omega
      have c1 := conv1_new w
      go_enter Tryd.func9, Tryd.ntmps9
      go_wp2
      go_ret
      exact ⟨by rw [HE.out]; rfl, (Below.refl _ _).alloc (Nat.le_refl _) _⟩
    · have HE := Lib.hid (Nm.itoa_big n (by omega))
      have b1 : 1 ≤ n / 10 ∧ n / 10 ≤ 922337203685477580 ∧ (n / 10).natAbs < m := by omega
      have b2 : 0 ≤ n % 10 ∧ n % 10 ≤ 9 := by omega
      have ih' : ∀ W, Calls Tryd.prog 9 #[.int .i64 (n / 10)] W fun e w' => ∃ S : ByteArray, e = .returned (.string S) ∧ Hid (S = ⟨(Lib.itoa (n / 10)).toArray⟩) ∧ (S.size : Int) ≤ 100 ∧ Bl W w' := fun W => by
        refine (ih _ b1.2.2 (n / 10) W (by omega) rfl).mono ?_
        rintro e w1 ⟨rfl, hk⟩
        have := Nm.itoa_len (n / 10) (by omega) (by omega)
        exact ⟨_, rfl, Lib.hid rfl, by show (((Lib.itoa (n / 10)).toArray.size : Nat) : Int) ≤ 100; rw [List.size_toArray]; omega, hk⟩
      have h1' : 10 ≤ n := by omega
      have b11 := b1.1
      have b12 := b1.2.1
      have b21 := b2.1
      have b22 := b2.2
      clear b1 b2 ih hm
      have c1 := conv1_new
      have c2 := conv1_drew
      go_enter Tryd.func9, Tryd.ntmps9
      go_wp2_with fail
      have Wd : n.tdiv 10 = n / 10 := Int.tdiv_eq_ediv_of_nonneg (by omega)
      have Wm : n.tmod 10 = n % 10 := Int.tmod_eq_emod_of_nonneg (by omega)
      have W0 : IntKind.i64.wrap (n / 10) = n / 10 := IntWalk.i64_in _ (by omega)
      have W1 : IntKind.i64.wrap (48 + n % 10) = 48 + n % 10 := IntWalk.i64_in _ (by omega)
      have W2 : IntKind.u8.wrap (48 + n % 10) = 48 + n % 10 := IntWalk.u8_in _ (by omega)
      go_region_with (first
        | (go_at_call 9; (with_reducible refine (ih' _).mono ?_); rintro e w1 ⟨S, rfl, HS, hsz, hk⟩; (try have cB := conv1_next hk); have HK := Lib.hid hk; clear hk))
      all_goals
        go_wp2_with fail
        go_ret
        exact ⟨ret_app HS.out HE.out, by first | exact bl_after HK.out _ | exact bl_ahead HK.out⟩

/-- a reading ends for what stands there, not for its size -/
def isNo : Lib.NumEnd Int → Prop
  | .ok _ => False
  | .range => False
  | _ => True
theorem atoi_no (s : ByteArray) (hlim : s.size ≤ 281474976710656) (h : isNo (Lib.atoiAll s.data.toList)) (tp : TypeId) (p : Value) (w : World) (hvar : w.var? Tryd.prog "strconv.ErrSyntax" = some #[.iface tp p]) :
    Calls Tryd.prog 15 #[.string s] w fun e w' => ∃ N, e = .returned (.tuple #[.int .i64 0, .iface 47 (.pointer (some ⟨N, 0, none⟩))]) ∧ w.heap.size ≤ N ∧ w'.heap[N]? = some (.cells #[.string ⟨#[65, 116, 111, 105]⟩, .string s, .iface tp p] 55 (0, 0)) ∧ Below w.heap.size w w' := by
  rcases ha : Lib.atoiAll s.data.toList with v | _ | _
  · rw [ha] at h; exact h.elim
  · exact Go.Proofs.Any.strconv_Atoi_syntax_var Tryd.laysC172 s hlim ha tp p w hvar
  · rw [ha] at h; exact h.elim

theorem ba_list (s : ByteArray) : s = ⟨s.data.toList.toArray⟩ := by cases s; simp

set_option maxHeartbeats 400000 in
theorem undec_some (l : List UInt8) (v : Int) (w : World) (hs : l.length ≤ 1000) (hu : Nm.undec l = some v) (hV : Vs w) :
    Calls Tryd.prog 6 #[.string ⟨l.toArray⟩] w fun e w' => e = .returned (.tuple #[.int .i64 v, .int .i64 0]) ∧ Bl w w' := by
  obtain ⟨hl, hb⟩ := (Nm.undec_iff l v).1 hu
  have ha : Lib.atoiAll (⟨l.toArray⟩ : ByteArray).data.toList = .ok v := by show Lib.atoiAll l = _; rw [hl]; exact Nm.atoi_itoa v hb.1 hb.2
  have t1 : (Lib.itoa v == l) = true := by simp [hl]
  have t2 : (Lib.itoa v != l) = false := by simp [hl]
  have hsz : (⟨l.toArray⟩ : ByteArray).size ≤ 1000 := by show l.toArray.size ≤ 1000; simpa using hs
  have HL := Lib.hid hl
  clear hl hu
  go_enter Tryd.func6, Tryd.ntmps6
  go_wp2_with fail
  refine (Tryd.strconv_Atoi_ok _ (by omega) v ha _).mono ?_
  rintro e w1 ⟨rfl, hw⟩
  have hk : Bl w w1 := by
    rcases hw with rfl | ⟨t, rfl⟩
    · exact Bl.refl _
    · exact Lib.bytesWorld_below _ _ _
  clear hw
  have hV1 := hV.next hk
  have HK := Lib.hid hk
  clear hk hV ha
  go_wp2_with fail
  refine (dec_any v _ (by omega) hV1).mono ?_
  rintro e w2 ⟨rfl, hk2⟩
  have HK2 := Lib.hid (HK.out.next hk2)
  clear hk2 HK
  go_wp2
  go_ret2
  exact ⟨rfl, HK2.out⟩

set_option maxHeartbeats 400000 in
theorem undec_none (l : List UInt8) (w : World) (hs : l.length ≤ 1000) (hu : Nm.undec l = none) (hV : Vs w) :
    Calls Tryd.prog 6 #[.string ⟨l.toArray⟩] w fun e w' => e = .returned (.tuple #[.int .i64 0, .int .i64 6]) ∧ Bl w w' := by
  have hsz : (⟨l.toArray⟩ : ByteArray).size ≤ 1000 := by show l.toArray.size ≤ 1000; simpa using hs
  rcases ha : Lib.atoiAll (⟨l.toArray⟩ : ByteArray).data.toList with v | _ | _
  · have hb := Lib.atoiAll_bounds ha
    have hne : ¬ Lib.itoa v = l := fun e => by
      have := (Nm.undec_iff l v).2 ⟨e.symm, hb.1, hb.2⟩
      rw [hu] at this
      cases this
    have t1 : (Lib.itoa v == l) = false := by simp [hne]
    have t2 : (Lib.itoa v != l) = true := by simp [hne]
    clear hu hne
    go_enter Tryd.func6, Tryd.ntmps6
    go_wp2_with fail
    refine (Tryd.strconv_Atoi_ok _ (by omega) v ha _).mono ?_
    rintro e w1 ⟨rfl, hw⟩
    have hk : Bl w w1 := by
      rcases hw with rfl | ⟨t, rfl⟩
      · exact Bl.refl _
      · exact Lib.bytesWorld_below _ _ _
    clear hw
    have hV1 := hV.next hk
    have HK := Lib.hid hk
    clear hk hV ha
    go_wp2_with fail
    refine (dec_any v _ (by omega) hV1).mono ?_
    rintro e w2 ⟨rfl, hk2⟩
    have HK2 := Lib.hid (HK.out.next hk2)
    clear hk2 HK
    go_wp2
    go_ret2
    exact ⟨rfl, HK2.out⟩
  · obtain ⟨tp, p, hv⟩ := hV.syn
    go_enter Tryd.func6, Tryd.ntmps6
    go_wp2_with fail
    refine (atoi_no _ (by omega) (by rw [ha]; trivial) tp p _ hv).mono ?_
    rintro e w1 ⟨N, rfl, -, -, hk⟩
    have HK := Lib.hid hk
    clear hk hV hv ha hu
    go_wp2
    go_ret2
    exact ⟨rfl, HK.out⟩
  · obtain ⟨tp, p, hv⟩ := hV.rng
    go_enter Tryd.func6, Tryd.ntmps6
    go_wp2_with fail
    refine (Tryd.strconv_Atoi_range_var _ (by omega) ha tp p _ hv).mono ?_
    rintro e w1 ⟨N, rfl, -, -, hk⟩
    have HK := Lib.hid hk
    clear hk hV hv ha hu
    go_wp2
    go_ret2
    exact ⟨rfl, HK.out⟩
end Go.Proofs.YthpejdbfececkaaDoor
