/-
  Contracts of layer 4 (lex): a text gone through sign by sign.
-/
import Derived.Test.YtennmdpllclmiaaDoorLexSg
import Derived.Test.YtennmdpllclmiaaDoorShelf
import Derived.Lib.OthersKept
namespace Go.Proofs.YtennmdpllclmiaaDoor
open Go.RowKit

/-- the library's variables that are read hold what they are laid with -/
structure Vs (w : World) : Prop where
  tab : Lib.Utf8Tabs (Tryd.lays196_ren.g 3) (Tryd.lays196_ren.g 4) w
  len : ∃ m, w.cell? ⟨2, 0, none⟩ = some (.int .i64 m)
theorem cell_next {w w' : World} {p : Addr} {x : Value} (hb : Bl w w') (h : w.cell? p = some x) : w'.cell? p = some x := by
  refine (hb.cell (p := p) ?_).trans h
  rcases Nat.lt_or_ge p.block w.heap.size with h' | h'
  · exact h'
  · simp only [World.cell?, Array.getElem?_eq_none h'] at h
    cases h
theorem Vs.next {w w' : World} (h : Vs w) (hb : Bl w w') : Vs w' := by
  obtain ⟨⟨t1, t2⟩, m, hm⟩ := h
  exact ⟨⟨fun c hc => cell_next hb (t1 c hc), fun i hi => ⟨cell_next hb (t2 i hi).1, cell_next hb (t2 i hi).2⟩⟩, m, cell_next hb hm⟩

set_option maxHeartbeats 400000 in
theorem right_any (s : ByteArray) (w : World) (hs : s.size ≤ 9223372036854775807) (hV : Vs w) :
    Calls Tryd.prog 8 #[.string s] w fun e w' => e = .returned (.bool (Lib.validD s.data.toList)) ∧ Bl w w' := by
  have c1 := Tryd.utf8_ValidString s w hs hV.tab
  generalize Lib.validD s.data.toList = V at c1 ⊢
  clear hV
  go_enter Tryd.func8, Tryd.ntmps8
  go_wp2_with fail
  refine c1.mono ?_
  rintro e w1 ⟨rfl, hk⟩
  have HK := Lib.hid hk
  clear hk c1
  go_wp2
  go_ret
  exact ⟨rfl, HK.out⟩

/-- a text's iterator, laid behind all that stood, and a row of the call's own -/
structure It (w1 wr : World) (s : ByteArray) (pos : Nat) (e : TypeId) (u : Value) (xs : List Value) : Prop where
  own : wr.ownsRow (w1.heap.size + 1) e 1 u xs.length xs
  it : wr.heap[w1.heap.size]? = some (.stringIter s pos)
  bl : Bl w1 wr
theorem It.lt {w1 wr : World} {s : ByteArray} {pos : Nat} {e : TypeId} {u : Value} {xs : List Value} (h : It w1 wr s pos e u xs) : w1.heap.size + 1 ≤ wr.heap.size := (Array.getElem?_eq_some_iff.1 h.it).1
theorem It.start (w1 : World) (s : ByteArray) (e : TypeId) : It w1 (w1.iter s 0) s 0 e (.slice none 0 0) [] := by
  refine ⟨World.ownsRow_nil _ _ _ _, World.iter_heap w1 s 0, ?_⟩
  exact Bl.alloc w1 _
theorem It.move {w1 wr : World} {s : ByteArray} {pos : Nat} {e : TypeId} {u : Value} {xs : List Value} (h : It w1 wr s pos e u xs) (pos' : Nat) : It w1 (wr.iterAt w1.heap.size s pos') s pos' e u xs := by
  refine ⟨⟨h.own.1, ?_⟩, Lib.iterAt_heap wr w1.heap.size s pos pos' h.it, Lib.below_iterAt h.bl (Nat.le_refl _) s pos'⟩
  rcases h.own.2 with hn | ⟨g, cap, cur, hv, hbg, hg, rest⟩
  · exact .inl hn
  · exact .inr ⟨g, cap, cur, hv, hbg, (Lib.iterAt_other wr w1.heap.size g s pos' (by omega)).trans hg, rest⟩
theorem It.put {w1 wr w2 : World} {s : ByteArray} {pos : Nat} {e : TypeId} {u v : Value} {xs : List Value} {o : Obj} {x : Value} (h : It w1 wr s pos e u xs)
    (h1 : w2.ownsRow (w1.heap.size + 1) e 1 v (xs.length + 1) (xs ++ [x])) (h2 : (wr.alloc o).grownBy w2 u.ownBlock) : It w1 w2 s pos e v (xs ++ [x]) := by
  have hl := h.lt
  have hs : wr.heap.size ≤ (wr.alloc o).heap.size := by simp
  refine ⟨by rw [List.length_append]; exact h1, ?_, ?_⟩
  · rw [h2.block w1.heap.size (by omega) (fun e1 => ?_)]
    · exact (Below.heap_alloc wr o w1.heap.size (by omega)).trans h.it
    · have := (h.own.lt _ e1.symm).1
      omega
  · exact Below.grown (h.bl.next (Bl.alloc wr o)) h2 (by omega) (fun k hk => by have := (h.own.lt k hk).1; omega)
theorem It.pos {w1 wr : World} {s : ByteArray} {pos : Nat} {e : TypeId} {u : Value} {xs : List Value} (h : It w1 wr s pos e u xs) : wr.iterPos w1.heap.size = pos := by
  simp only [World.iterPos, h.it]
theorem It.next {w1 wr : World} {s : ByteArray} {pos : Nat} {e : TypeId} {u : Value} {xs : List Value} (h : It w1 wr s pos e u xs) (hp : pos < s.size) (ty : TypeId) :
    (Instr.next (.pointer (some ⟨w1.heap.size, 0, none⟩)) true ty).run Tryd.prog wr = .ok (.tuple #[.bool true, .int .i64 pos, .int .i32 (Lx.cp s.data.toList pos)]) (wr.iterAt w1.heap.size s (pos + Lx.wp s.data.toList pos)) := by
  rw [Lib.run_next_any_at wr w1.heap.size s pos ty h.it hp, Lx.decode_cp]
theorem It.done {w1 wr : World} {s : ByteArray} {pos : Nat} {e : TypeId} {u : Value} {xs : List Value} (h : It w1 wr s pos e u xs) (hp : ¬ pos < s.size) (ty : TypeId) :
    (Instr.next (.pointer (some ⟨w1.heap.size, 0, none⟩)) true ty).run Tryd.prog wr = .ok (.tuple #[.bool false]) wr := Lib.run_next_end_at wr w1.heap.size s pos ty h.it hp
theorem cp_le (l : List UInt8) (p : Nat) : Lx.cp l p ≤ 1114111 := Lib.decodeL_rune _

/-- a sign or place gathered so far -/
def GI (f : Nat × Nat → Int) (w1 : World) (s : ByteArray) (u : Value) (wr : World) : Prop :=
  ∃ (p : Nat) (acc : List (Nat × Nat)), p ≤ s.size + 4 ∧ acc.length ≤ p ∧ It w1 wr s p 3 u (iv (acc.map f)) ∧ Hid (acc ++ Lx.rest s.data.toList p = Lx.sg s.data.toList) ∧ Hid (Lib.validD (s.data.toList.drop p) = true)
theorem GI.start (f : Nat × Nat → Int) (w1 : World) (s : ByteArray) (hv : Lib.validD s.data.toList = true) : GI f w1 s (.slice none 0 0) (w1.iter s 0) := ⟨0, [], Nat.zero_le _, Nat.zero_le _, It.start w1 s 3, Lib.hid rfl, Lib.hid hv⟩
theorem GI.step {f : Nat × Nat → Int} {w1 wr w2 : World} {s : ByteArray} {u v : Value} {p : Nat} {acc : List (Nat × Nat)} {o : Obj} {x : Int} (hp : p < s.size) (ha : acc.length ≤ p)
    (hI : It w1 wr s p 3 u (iv (acc.map f))) (hA : acc ++ Lx.rest s.data.toList p = Lx.sg s.data.toList) (hx : x = f (Lx.cp s.data.toList p, p)) (hw : p + Lx.wp s.data.toList p ≤ s.size) (hv : Lib.validD (s.data.toList.drop (p + Lx.wp s.data.toList p)) = true)
    (h1 : w2.ownsRow (w1.heap.size + 1) 3 1 v ((iv (acc.map f)).length + 1) (iv (acc.map f) ++ [.int .i64 x])) (h2 : ((wr.iterAt w1.heap.size s (p + Lx.wp s.data.toList p)).alloc o).grownBy w2 u.ownBlock) : GI f w1 s v w2 ∧ w2.iterPos w1.heap.size = p + Lx.wp s.data.toList p := by
  have hq := Lx.wp_pos s.data.toList p
  have hI2 := (hI.move (p + Lx.wp s.data.toList p)).put h1 h2
  refine ⟨⟨p + Lx.wp s.data.toList p, acc ++ [(Lx.cp s.data.toList p, p)], by omega, by rw [List.length_append, List.length_singleton]; omega, ?_, Lib.hid ?_, Lib.hid hv⟩, hI2.pos⟩
  · rw [List.map_append, List.map_singleton, iv_snoc, ← hx]
    exact hI2
  · rw [← hA, Lx.rest_step s.data.toList p (by rw [len_list]; exact hp)]
    simp
theorem good_at {s : ByteArray} {p : Nat} (hp : p < s.size) (hv : Lib.validD (s.data.toList.drop p) = true) : p + Lx.wp s.data.toList p ≤ s.size ∧ Lib.validD (s.data.toList.drop (p + Lx.wp s.data.toList p)) = true := by
  have hp' : p < s.data.toList.length := by rw [len_list]; exact hp
  have hb : ¬ Lx.bad s.data.toList p := fun hb => by rw [Lx.valid_bad _ _ hp' hb] at hv; cases hv
  rw [Lx.valid_step _ _ hp' hb] at hv
  have := wp_le s.data.toList p hp' hb
  rw [len_list] at this
  exact ⟨this, hv⟩
/-- what is gathered is handed back -/
def GP (f : Nat × Nat → Int) (s : ByteArray) (w : World) (e : Ending) (w' : World) : Prop := ∃ v, e = .returned v ∧ Sl w' v (iv ((if Lib.validD s.data.toList then Lx.sg s.data.toList else []).map f)) ∧ Bl w w'
set_option maxHeartbeats 1000000 in
theorem signs_any (s : ByteArray) (w : World) (hs : s.size ≤ 1000000) (hV : Vs w) :
    Calls Tryd.prog 10 #[.string s] w fun e w' => GP (fun x => (x.1 : Int)) s w e w' := by
  obtain ⟨i0, hi, hz0, hz1, hz2⟩ := info_parts info3
  have R1 := right_any s w (by omega) hV
  clear hV
  cases hv : Lib.validD s.data.toList with
  | false =>
    rw [hv] at R1
    have HV := Lib.hid hv
    clear hv
    go_enter Tryd.func10, Tryd.ntmps10
    go_wp2_with fail
    refine R1.mono ?_
    rintro e w1 ⟨rfl, hk⟩
    have HK := Lib.hid hk
    clear hk R1
    go_wp2
    go_ret
    refine ⟨_, rfl, ?_, HK.out⟩
    rw [HV.out]
    exact Sl.nil _
  | true =>
    rw [hv] at R1
    have HV := Lib.hid hv
    clear hv
    go_enter Tryd.func10, Tryd.ntmps10
    go_wp2_with fail
    refine R1.mono ?_
    rintro e w1 ⟨rfl, hk⟩
    have HK := Lib.hid hk
    clear hk R1
    go_wp2
    go_loopw [3] (fun u wr => GI (fun x => (x.1 : Int)) w1 s u wr) (fun _ wr => s.size - wr.iterPos w1.heap.size)
    case atStart => exact GI.start _ w1 s HV.out
    case round =>
      obtain ⟨p, acc, hp4, hal, hI, hA, hVp⟩ := hrel
      by_cases hp : p < s.size
      · obtain ⟨hw1, hw2⟩ := good_at hp hVp.out
        have HW := Lib.hid hw2
        have hnx := fun ty => hI.next hp ty
        have hcl := cp_le s.data.toList p
        have hwp := Lx.wp_pos s.data.toList p
        have HI := Lib.hid hI
        have hl := hI.lt
        have ll : (iv (acc.map fun x => (x.1 : Int))).length = acc.length := by rw [iv_len, List.length_map]
        have K1 : Hid ((iv (acc.map fun x => (x.1 : Int))).length + 1 ≤ maxLen) := Lib.hid (by rw [ll]; unfold maxLen; omega)
        have K2 : Hid (((iv (acc.map fun x => (x.1 : Int))).length + 1) * 8 ≤ 140737488355328) := Lib.hid (by rw [ll]; omega)
        have K3 : Hid (w1.heap.size + 1 ≤ (wr.iterAt w1.heap.size s (p + Lx.wp s.data.toList p)).heap.size) := Lib.hid (by rw [Lib.iterAt_size]; exact hl)
        clear hw2 hI ll hl
        go_wp2_with (at_builtin; refine wpList_append_own _ rfl (.tmp 14) (.tmp 17) 22 rfl (w1.heap.size + 1) 3 i0 (.int .i64 0) 1 8 Tryd.underlying22 hi hz0 hz1 hz2 rfl (by decide) _ _ _ rfl ((HI.out.move _).own.alloc _) ⟨(wr.iterAt w1.heap.size s (p + Lx.wp s.data.toList p)).heap.size, 0, none⟩ 1 1 [.int .i64 (Lx.cp s.data.toList p)] rfl rfl (news1 _ _ _) (one1 _ rfl) K1.out K2.out (Nat.le_trans K3.out (by simp)) ?_)
        intro v w2 h1 h2 _
        have HS := Lib.hid (GI.step hp hal HI.out hA.out rfl hw1 HW.out h1 h2)
        have HP := Lib.hid HI.out.pos
        clear h1 h2 HI hnx K1 K2 K3
        go_wp2
        go_roundw
        case rel => exact HS.out.1
        case measure =>
          rw [HS.out.2, HP.out]
          omega
      · have hnx := fun ty => hI.done hp ty
        have HI := Lib.hid hI
        have HE : Hid (acc = Lx.sg s.data.toList) := Lib.hid (by rw [← hA.out, Lx.rest_end _ _ (by rw [len_list]; omega), List.append_nil])
        clear hI
        go_wp2
        go_ret
        refine ⟨_, rfl, ?_, HK.out.next HI.out.bl⟩
        rw [HV.out, if_pos rfl, ← HE.out]
        exact Sl.of_own HI.out.own
set_option maxHeartbeats 1000000 in
theorem places_any (s : ByteArray) (w : World) (hs : s.size ≤ 1000000) (hV : Vs w) :
    Calls Tryd.prog 11 #[.string s] w fun e w' => GP (fun x => (x.2 : Int)) s w e w' := by
  obtain ⟨i0, hi, hz0, hz1, hz2⟩ := info_parts info3
  have R1 := right_any s w (by omega) hV
  clear hV
  cases hv : Lib.validD s.data.toList with
  | false =>
    rw [hv] at R1
    have HV := Lib.hid hv
    clear hv
    go_enter Tryd.func11, Tryd.ntmps11
    go_wp2_with fail
    refine R1.mono ?_
    rintro e w1 ⟨rfl, hk⟩
    have HK := Lib.hid hk
    clear hk R1
    go_wp2
    go_ret
    refine ⟨_, rfl, ?_, HK.out⟩
    rw [HV.out]
    exact Sl.nil _
  | true =>
    rw [hv] at R1
    have HV := Lib.hid hv
    clear hv
    go_enter Tryd.func11, Tryd.ntmps11
    go_wp2_with fail
    refine R1.mono ?_
    rintro e w1 ⟨rfl, hk⟩
    have HK := Lib.hid hk
    clear hk R1
    go_wp2
    go_loopw [3] (fun u wr => GI (fun x => (x.2 : Int)) w1 s u wr) (fun _ wr => s.size - wr.iterPos w1.heap.size)
    case atStart => exact GI.start _ w1 s HV.out
    case round =>
      obtain ⟨p, acc, hp4, hal, hI, hA, hVp⟩ := hrel
      by_cases hp : p < s.size
      · obtain ⟨hw1, hw2⟩ := good_at hp hVp.out
        have HW := Lib.hid hw2
        have hnx := fun ty => hI.next hp ty
        have hcl := cp_le s.data.toList p
        have hwp := Lx.wp_pos s.data.toList p
        have HI := Lib.hid hI
        have hl := hI.lt
        have ll : (iv (acc.map fun x => (x.2 : Int))).length = acc.length := by rw [iv_len, List.length_map]
        have K1 : Hid ((iv (acc.map fun x => (x.2 : Int))).length + 1 ≤ maxLen) := Lib.hid (by rw [ll]; unfold maxLen; omega)
        have K2 : Hid (((iv (acc.map fun x => (x.2 : Int))).length + 1) * 8 ≤ 140737488355328) := Lib.hid (by rw [ll]; omega)
        have K3 : Hid (w1.heap.size + 1 ≤ (wr.iterAt w1.heap.size s (p + Lx.wp s.data.toList p)).heap.size) := Lib.hid (by rw [Lib.iterAt_size]; exact hl)
        clear hw2 hI ll hl
        go_wp2_with (at_builtin; refine wpList_append_own _ rfl (.tmp 13) (.tmp 15) 22 rfl (w1.heap.size + 1) 3 i0 (.int .i64 0) 1 8 Tryd.underlying22 hi hz0 hz1 hz2 rfl (by decide) _ _ _ rfl ((HI.out.move _).own.alloc _) ⟨(wr.iterAt w1.heap.size s (p + Lx.wp s.data.toList p)).heap.size, 0, none⟩ 1 1 [.int .i64 p] rfl rfl (news1 _ _ _) (one1 _ rfl) K1.out K2.out (Nat.le_trans K3.out (by simp)) ?_)
        intro v w2 h1 h2 _
        have HS := Lib.hid (GI.step hp hal HI.out hA.out rfl hw1 HW.out h1 h2)
        have HP := Lib.hid HI.out.pos
        clear h1 h2 HI hnx K1 K2 K3
        go_wp2
        go_roundw
        case rel => exact HS.out.1
        case measure =>
          rw [HS.out.2, HP.out]
          omega
      · have hnx := fun ty => hI.done hp ty
        have HI := Lib.hid hI
        have HE : Hid (acc = Lx.sg s.data.toList) := Lib.hid (by rw [← hA.out, Lx.rest_end _ _ (by rw [len_list]; omega), List.append_nil])
        clear hI
        go_wp2
        go_ret
        refine ⟨_, rfl, ?_, HK.out.next HI.out.bl⟩
        rw [HV.out, if_pos rfl, ← HE.out]
        exact Sl.of_own HI.out.own
end Go.Proofs.YtennmdpllclmiaaDoor
