/-
  Contracts of layer 4 (lex): lines.
-/
import Derived.Test.YtennmdpllclmiaaDoorLexWord
namespace Go.Proofs.YtennmdpllclmiaaDoor
open Go.RowKit

theorem Sl.new (w : World) (xs : List Value) (e : TypeId) (n : Nat) (h : n = xs.length) : Sl (w.alloc (.cells xs.toArray e)) (.slice (some ⟨w.heap.size, 0, none⟩) n n) xs := by
  subst h
  refine ⟨_, _, rfl, Nat.le_refl _, fun j x hj => ⟨w.heap.size, 0, rfl, by simp, ?_⟩⟩
  have hh : (w.alloc (.cells xs.toArray e)).heap[w.heap.size]? = some (.cells xs.toArray e) := heap_alloc_new _ _
  simp only [World.cell?, hh]
  rw [Nat.zero_add, List.getElem?_toArray]
  exact hj
theorem spl_le : ∀ (l acc p : List UInt8), p ∈ Lx.spl acc l → p.length ≤ acc.length + l.length
  | [], acc, p, h => by
    rw [Lx.spl, List.mem_singleton] at h
    rw [h]
    omega
  | b :: r, acc, p, h => by
    rw [List.length_cons]
    rw [Lx.spl] at h
    split at h
    · rcases List.mem_cons.1 h with rfl | h
      · omega
      · have := spl_le r [] p h
        simp at this
        omega
    · have := spl_le r _ p h
      rw [List.length_append, List.length_singleton] at this
      omega
/-- the blank -/
abbrev blk : ByteArray := ⟨#[32]⟩
/-- parts between blanks -/
def parts (s : ByteArray) : List ByteArray := Lib.splitB blk 0 (Lib.countB s blk) s
theorem parts_bs (s : ByteArray) : bs (parts s) = Lx.spl [] s.data.toList := by
  unfold bs parts
  rw [Lib.splitB_data, ← Lx.split_spl]
  rfl
theorem parts_len (s : ByteArray) : (parts s).length = Lib.countB s blk + 1 := Lib.splitB_all blk (by decide) 0 _ s rfl
theorem parts_le (s : ByteArray) : (parts s).length ≤ s.size + 1 := by
  rw [parts_len]
  have := Lib.countB_le blk (by decide) s.size s (Nat.le_refl _)
  omega
theorem parts_size (s x : ByteArray) (h : x ∈ parts s) : x.size ≤ s.size := by
  have h1 : x.data.toList ∈ bs (parts s) := List.mem_map.2 ⟨x, h, rfl⟩
  rw [parts_bs] at h1
  have := spl_le _ _ _ h1
  rw [len_list, len_list] at this
  simp at this
  omega
theorem split_any (s : ByteArray) (w : World) (hs : s.size ≤ 100000) (hV : Vs w) :
    Calls Tryd.prog 26 #[.string s, .string blk] w fun e w' => ∃ u, e = .returned u ∧ Sl w' u (sv (parts s)) ∧ Bl w w' := by
  obtain ⟨m, hm⟩ := hV.len
  refine (Tryd.strings_Split s blk m w (by omega) hm (by decide)).mono ?_
  rintro e w' ⟨rfl, rfl⟩
  exact ⟨_, rfl, Sl.new w (sv (parts s)) 9 _ (by rw [sv_len, parts_len]), Bl.alloc _ _⟩

/-- the words of a line -/
def LW (l : List UInt8) (w : World) (e : Ending) (w' : World) : Prop :=
  (∃ u xs, Lx.lwords l = some (bs xs) ∧ e = .returned (.tuple #[u, .int .i64 0]) ∧ Sl w' u (sv xs) ∧ xs.length ≤ l.length + 1 ∧ Bl w w') ∨
  (Lx.lwords l = none ∧ e = .returned (.tuple #[.slice none 0 0, .int .i64 13]) ∧ Bl w w')

set_option maxHeartbeats 1000000 in
theorem words_any (s : ByteArray) (w : World) (hs : s.size ≤ 100000) (hV : Vs w) :
    Calls Tryd.prog 15 #[.string s] w fun e w' => LW s.data.toList w e w' := by
  by_cases h0 : s.size = 0
  · have e0 : s.toList.isEmpty = true := by rw [ByteArray.toList_eq, empty_list h0]; rfl
    have e1 : (s.toList == []) = true := by rw [ByteArray.toList_eq, empty_list h0]; rfl
    have HF : Hid (Lx.lwords s.data.toList = some (bs [])) := Lib.hid (by rw [empty_list h0]; rfl)
    clear h0 hV
    go_enter Tryd.func15, Tryd.ntmps15
    go_wp2
    go_ret2
    exact .inl ⟨_, [], HF.out, rfl, Sl.nil _, Nat.zero_le _, Bl.refl _⟩
  · have hne : s.data.toList ≠ [] := fun e => h0 (by rw [← len_list, e]; rfl)
    have e0 : s.toList.isEmpty = false := by rw [ByteArray.toList_eq, List.isEmpty_eq_false_iff]; exact hne
    have e1 : (s.toList == []) = false := by rw [ByteArray.toList_eq, beq_eq_false_iff_ne]; exact hne
    have HW : Hid (Lx.lwords s.data.toList = if (bs (parts s)).all Lx.isW then some (bs (parts s)) else none) := Lib.hid (by unfold Lx.lwords; rw [if_neg hne, ← parts_bs])
    have HL : Hid ((parts s).length ≤ s.data.toList.length + 1) := Lib.hid (by rw [len_list]; exact parts_le s)
    clear hne h0
    go_enter Tryd.func15, Tryd.ntmps15
    go_wp2_with fail
    refine (split_any s w hs hV).mono ?_
    rintro e w1 ⟨u, rfl, hu, hk⟩
    have HU := Lib.hid hu
    have hV1 := hV.next hk
    have HK := Lib.hid hk
    have A1 := allWords_any (parts s) u w1 hu (by have := HL.out; rw [len_list] at this; omega) (fun x hx => by have := parts_size s x hx; omega) hV1
    clear hu hV hk hV1
    cases ha : (bs (parts s)).all Lx.isW with
    | true =>
      rw [ha] at A1
      have HA := Lib.hid ha
      clear ha
      go_wp2_with fail
      refine A1.mono ?_
      rintro e w2 ⟨rfl, hk⟩
      have HK2 := Lib.hid hk
      clear hk A1
      go_wp2
      go_ret2
      exact .inl ⟨_, parts s, by rw [HW.out, HA.out]; rfl, rfl, HU.out.next HK2.out, HL.out, HK.out.next HK2.out⟩
    | false =>
      rw [ha] at A1
      have HA := Lib.hid ha
      clear ha
      go_wp2_with fail
      refine A1.mono ?_
      rintro e w2 ⟨rfl, hk⟩
      have HK2 := Lib.hid hk
      clear hk A1
      go_wp2
      go_ret2
      exact .inr ⟨by rw [HW.out, HA.out]; rfl, rfl, HK.out.next HK2.out⟩

theorem jn_any (xs : List ByteArray) (u : Value) (w : World) (hu : Sl w u (sv xs)) (hx : xs.length ≤ 1000000) (hlen : (Lib.join (bs xs) [32]).length ≤ 1000000000) :
    Calls Tryd.prog 28 #[u, .string blk] w fun e w' => e = .returned (.string ⟨(Lib.join (bs xs) [32]).toArray⟩) ∧ Bl w w' := by
  obtain ⟨a, c, rfl, hac, hcell⟩ := hu
  rw [sv_len] at hac ⊢
  match xs, hx, hlen, hac, hcell with
  | [], _, _, _, _ =>
    refine (Tryd.strings_Join_none a c blk w).mono ?_
    rintro e w' ⟨rfl, rfl⟩
    exact ⟨rfl, Bl.refl _⟩
  | y :: r, hx, hlen, hac, hcell =>
    obtain ⟨b, o, rfl, hb, -⟩ := hcell 0 (.string y) rfl
    refine (Tryd.strings_Join b o c (y :: r) blk w (fun j x hj => ?_) hb (by omega) hac (Nat.le_trans hlen (by omega))).mono ?_
    · obtain ⟨b', o', e1, _, e2⟩ := hcell j (.string x) (by unfold sv; rw [List.getElem?_map, hj]; rfl)
      injection e1 with e1
      injection e1 with e1 e3 e4
      subst e1
      subst e3
      exact e2
    · rintro e w' ⟨rfl, hk⟩
      exact ⟨rfl, hk⟩

/-- the line of words -/
def JW (xs : List ByteArray) (w : World) (e : Ending) (w' : World) : Prop :=
  ((bs xs).all Lx.isW = true ∧ e = .returned (.tuple #[.string ⟨(Lib.join (bs xs) [32]).toArray⟩, .int .i64 0]) ∧ Bl w w') ∨ ((bs xs).all Lx.isW = false ∧ e = .returned (.tuple #[.string ⟨#[]⟩, .int .i64 13]) ∧ Bl w w')
set_option maxHeartbeats 1000000 in
theorem join_any (xs : List ByteArray) (u : Value) (w : World) (hu : Sl w u (sv xs)) (hx : xs.length ≤ 1000000) (hs : ∀ x ∈ xs, x.size ≤ 1000000) (hlen : (Lib.join (bs xs) [32]).length ≤ 1000000000) (hV : Vs w) :
    Calls Tryd.prog 18 #[u] w fun e w' => JW xs w e w' := by
  have A1 := allWords_any xs u w hu hx hs hV
  have HU := Lib.hid hu
  have HL := Lib.hid hlen
  clear hV hu hs hlen
  cases ha : (bs xs).all Lx.isW with
  | true =>
    rw [ha] at A1
    have HA := Lib.hid ha
    clear ha
    go_enter Tryd.func18, Tryd.ntmps18
    go_wp2_with fail
    refine A1.mono ?_
    rintro e w1 ⟨rfl, hk⟩
    have HK := Lib.hid hk
    clear hk A1
    go_wp2_with fail
    refine (jn_any xs u w1 (HU.out.next HK.out) hx HL.out).mono ?_
    rintro e w2 ⟨rfl, hk⟩
    have HK2 := Lib.hid hk
    clear hk
    go_wp2
    go_ret2
    exact .inl ⟨HA.out, rfl, HK.out.next HK2.out⟩
  | false =>
    rw [ha] at A1
    have HA := Lib.hid ha
    clear ha
    go_enter Tryd.func18, Tryd.ntmps18
    go_wp2_with fail
    refine A1.mono ?_
    rintro e w1 ⟨rfl, hk⟩
    have HK := Lib.hid hk
    clear hk A1
    go_wp2
    go_ret2
    exact .inr ⟨HA.out, rfl, HK.out⟩
end Go.Proofs.YtennmdpllclmiaaDoor
