/-
  Contract of layer 16 (view): Poly.
-/
import Derived.Test.YthhfhkenpkfioaaViewSnap
import Derived.Test.YthhfhkenpkfioaaRowsOf2
import Derived.BigGuard
namespace Go.Proofs.Ythhfhkenpkfioaa
open Go.RowKit

/-- a spot, as cells -/
def Vw.cs (s : Nat → Int) : List Value := [.int .i64 (s 0), .int .i64 (s 1), .int .i64 (s 2), .int .i64 (s 3), .int .i64 (s 4), .int .i64 (s 5), .int .i64 (s 6), .int .i64 (s 7), .int .i64 (s 8)]
theorem Vw.cs_len (s : Nat → Int) : (Vw.cs s).length = 9 := rfl
theorem infoSpot : (Try.prog.info? 32).map (fun i => (i.zero, i.size, i.bytes)) = some (some (.agg #[.int .i64 0, .int .i64 0, .int .i64 0, .int .i64 0, .int .i64 0, .int .i64 0, .int .i64 0, .int .i64 0, .int .i64 0]), 9, 72) := by kernel_rfl
theorem one9 (s : Nat → Int) : ∀ u ∈ ([.int .i64 (s 0), .int .i64 (s 1), .int .i64 (s 2), .int .i64 (s 3), .int .i64 (s 4), .int .i64 (s 5), .int .i64 (s 6), .int .i64 (s 7), .int .i64 (s 8)] : List Value), u.oneCell' = true := by
  intro u hu
  simp only [List.mem_cons, List.not_mem_nil, or_false] at hu
  rcases hu with rfl | rfl | rfl | rfl | rfl | rfl | rfl | rfl | rfl <;> rfl
/-- what Poly answers: a row of spots, an error -/
def PPoly (w : World) (L : List (Nat → Int)) (E : Int) (e : Ending) (w' : World) : Prop := ∃ v, e = .returned (.tuple #[v, .int .i64 E]) ∧ Ro.Sp Vw.cs 9 w' v L ∧ Below w.heap.size w w'
def msrS (n : Nat) (i : Value) : Nat := n - (intOf i).toNat
theorem Vw.map_next {α β : Type} (f : α → β) {l : List α} {j : Nat} (h : j < l.length) : (l.take (j + 1)).map f = (l.take j).map f ++ [f l[j]] := by rw [List.take_succ_eq_append_getElem h, List.map_append]; rfl
set_option linter.unusedSimpArgs false in
set_option maxRecDepth 100000 in
set_option maxHeartbeats 8000000 in
theorem vpoly_view (v : Value) (x y z u : Int) (w : World) (hx : -9223372036854775808 ≤ x ∧ x ≤ 9223372036854775807) (hy : -9223372036854775808 ≤ y ∧ y ≤ 9223372036854775807) (hz : -9223372036854775808 ≤ z ∧ z ≤ 9223372036854775807) (hu : -9223372036854775808 ≤ u ∧ u ≤ 9223372036854775807) (h : Vw.is x y z u = false) :
    Calls Try.prog 12 #[v, .agg #[.int .i64 x, .int .i64 y, .int .i64 z, .int .i64 u]] w fun e w' => PPoly w [] 12 e w' := by
  have C1 := fun W => vcheck_any x y z u W hx hy hz hu
  rw [Vw.chk_no h] at C1
  clear h hx hy hz hu
  have HO : Hid (Ow w _ [(w.heap.size, [.int .i64 x, .int .i64 y, .int .i64 z, .int .i64 u])]) := Lib.hid ((Ow.refl w).newAt w.heap.size rfl (.int .i64 x) [.int .i64 y, .int .i64 z, .int .i64 u] 28)
  go_enter Try.func12, Try.ntmps12
  go_wp2_with (first | ((with_reducible show wpList _ _ _ ({ dst := _, op := Op.load 28 (Operand.tmp 3), type := _, pos := _, after := _, guard := _ } :: _) _ _); refine wpList_ldr ty_rect rfl _ rfl _ rfl _ rfl (HO.out.at 0 rfl) ?_) | (go_at_call 7; (with_reducible refine (C1 _).mono ?_); rintro e wz ⟨rfl, hk1⟩; have l2 := HO.out.call hk1; clear HO hk1; have HO := Lib.hid l2; clear l2))
  go_ret2
  exact ⟨_, rfl, Ro.Sp.nil _, HO.out.k.below⟩
set_option linter.unusedSimpArgs false in
set_option maxRecDepth 100000 in
set_option maxHeartbeats 8000000 in
theorem vpoly_any (l : List Cn) (v : Value) (x y z u : Int) (w : World) (L : List (Nat → Int)) (E : Int) (hS : Sp w v l) (h : Vw.is x y z u = true) (hl : l.length ≤ 100)
    (hyes : l.all Vw.hasB = true → L = l.map (fun c => Vw.spot c x y z u) ∧ E = 0) (hno : l.all Vw.hasB = false → L = [] ∧ E = 3) :
    Calls Try.prog 12 #[v, .agg #[.int .i64 x, .int .i64 y, .int .i64 z, .int .i64 u]] w fun e w' => PPoly w L E e w' := by
  obtain ⟨vx, vy, vz, vu⟩ := Vw.is_iff.1 h
  have C1 := fun W => vcheck_any x y z u W (by omega) (by omega) (by omega) (by omega)
  rw [Vw.chk_yes h] at C1
  have SN := fun c W hc => vsnap_no c x y z u W h hc
  have SY := fun c W hc => vsnap_yes c x y z u W h hc
  have HY := Lib.hid hyes
  have HN := Lib.hid hno
  obtain ⟨a1, c1, rfl, hc1, hux⟩ := hS.each
  have HU := Lib.hid hux
  have hl2 : (l.length : Int) ≤ 100 := by omega
  have K2 : Hid (72 * l.length ≤ 281474976710656) := Lib.hid (by omega)
  have K3 : Hid (l.length ≤ maxLen) := Lib.hid (by unfold maxLen; omega)
  obtain ⟨i0, hi0, hz0, hz1, hz3⟩ := info_parts infoSpot
  have hb2 : Hid (i0.bytes * l.length ≤ 281474976710656) := Lib.hid (by rw [hz3]; exact K2.out)
  have HO : Hid (Ow w _ [(w.heap.size, [.int .i64 x, .int .i64 y, .int .i64 z, .int .i64 u])]) := Lib.hid ((Ow.refl w).newAt w.heap.size rfl (.int .i64 x) [.int .i64 y, .int .i64 z, .int .i64 u] 28)
  clear h hS hux hl hyes hno vx vy vz vu
  generalize hf : (fun c => Vw.spot c x y z u) = f at *
  have hf2 : ∀ c, Vw.spot c x y z u = f c := fun c => by rw [← hf]
  simp only [hf2] at SY
  clear hf hf2
  go_enter Try.func12, Try.ntmps12
  go_wp2_with (first
    | ((with_reducible show wpList _ _ _ ({ dst := _, op := Op.load 28 (Operand.tmp 3), type := _, pos := _, after := _, guard := _ } :: _) _ _); refine wpList_ldr ty_rect rfl _ rfl _ rfl _ rfl (HO.out.at 0 rfl) ?_)
    | (go_at_call 7; (with_reducible refine (C1 _).mono ?_); rintro e wz ⟨rfl, hk1⟩; have l2 := HO.out.call hk1; clear HO hk1; have HO := Lib.hid l2; clear l2)
    | ((with_reducible show wpList _ _ _ ({ dst := _, op := Op.makeSlice _ _ _, type := _, pos := _, after := _, guard := _ } :: _) _ _); refine wpList_make_own _ rfl _ _ _ rfl w.heap.size 32 i0 _ 9 Try.underlying44 hi0 hz0 hz1 .i64 .i64 (l.length : Int) l.length rfl rfl rfl hb2.out K3.out HO.out.k.size ?_; intro w4 h1 h2; have l2 := Ro.Rp.made (cs := Vw.cs) HO.out h1 h2; clear HO h1 h2; have HO := Lib.hid l2; clear l2))
  go_loopw [22, 7] (fun i t wr => ∃ j : Nat, j ≤ l.length ∧ i = .int .i64 j ∧ (l.take j).all Vw.hasB = true ∧ Ro.Rp 32 Vw.cs 9 w wr t ((l.take j).map f) [(w.heap.size, [.int .i64 x, .int .i64 y, .int .i64 z, .int .i64 u])]) (fun i _ _ => msrS l.length i)
  case atStart => exact ⟨0, by omega, rfl, rfl, HO.out⟩
  case round =>
    clear HO
    obtain ⟨j, hj, rfl, hs, ho⟩ := hrel
    have HO := Lib.hid ho
    clear ho
    by_cases hlt : j < l.length
    · have z1 : decide ((j : Int) < (l.length : Int)) = true := decide_eq_true (by omega)
      have z2 : (j : Int) < (l.length : Int) := by omega
      obtain ⟨b1, o1, e1, x1⟩ := HU.out j hlt
      have HX := Lib.hid (Cl.all_take hlt Vw.hasB)
      have HM := Lib.hid (Vw.map_next f hlt)
      have HN2 : Hid (Vw.hasB l[j] = false → L = [] ∧ E = 3) := Lib.hid fun h => HN.out (by
        rw [← Bool.not_eq_true, List.all_eq_true]; intro h2; rw [h2 _ (List.getElem_mem hlt)] at h; cases h)
      have HS := Lib.hid hs
      have HL : Hid (((l.take j).map f).length ≤ 100) := Lib.hid (by rw [List.length_map, List.length_take]; omega)
      have X1 : Hid (∀ U, Below w.heap.size w U → U.rangeAt b1 (o1 + j * 10) [.int .i64 (l[j] 0), .int .i64 (l[j] 1), .int .i64 (l[j] 2), .int .i64 (l[j] 3), .int .i64 (l[j] 4), .int .i64 (l[j] 5), .int .i64 (l[j] 6), .int .i64 (l[j] 7), .int .i64 (l[j] 8), .int .i64 (l[j] 9)]) := Lib.hid x1
      clear hs x1
      generalize l[j] = yc at *
      generalize (l.take j).map f = xs at *
      subst e1
      go_upto_region 8 with ((with_reducible show wpList _ _ _ ({ dst := _, op := Op.load 26 (Operand.tmp 24), type := _, pos := _, after := _, guard := _ } :: _) _ _); refine wpList_ldm ty_corner rfl _ rfl _ _ rfl _ rfl (X1.out _ HO.out.bl) ?_)
      have l2 := HO.out.newAt wr.heap.size rfl (.int .i64 (yc 0)) [.int .i64 (yc 1), .int .i64 (yc 2), .int .i64 (yc 3), .int .i64 (yc 4), .int .i64 (yc 5), .int .i64 (yc 6), .int .i64 (yc 7), .int .i64 (yc 8), .int .i64 (yc 9)] 26
      clear HO
      have HO := Lib.hid l2
      clear l2
      generalize hV : World.alloc _ _ = V1 at *
      clear hV
      generalize wr.heap.size = p7 at *
      cases hyy : Vw.hasB yc
      · have S1 := fun W => SN yc W hyy
        obtain ⟨rfl, rfl⟩ := HN2.out hyy
        clear HX HM HN2 HN HY hyy SN SY X1
        go_wp2_with (first | ((with_reducible show wpList _ _ _ ({ dst := _, op := Op.load 26 (Operand.tmp 9), type := _, pos := _, after := _, guard := _ } :: _) _ _); refine wpList_ldr ty_corner rfl _ rfl _ rfl _ rfl (HO.out.at 0 rfl) ?_) | ((with_reducible show wpList _ _ _ ({ dst := _, op := Op.load 28 (Operand.tmp 3), type := _, pos := _, after := _, guard := _ } :: _) _ _); refine wpList_ldr ty_rect rfl _ rfl _ rfl _ rfl (HO.out.at 1 rfl) ?_) | (go_at_call 6; (with_reducible refine (S1 _).mono ?_); rintro e wz ⟨rfl, hk1⟩; have l2 := HO.out.call hk1; clear HO hk1; have HO := Lib.hid l2; clear l2))
        go_ret2
        exact ⟨_, rfl, Ro.Sp.nil _, HO.out.bl.alloc HO.out.bl.size _⟩
      · have S1 := fun W => SY yc W hyy
        have HZ : Hid ((l.take (j + 1)).all Vw.hasB = true) := Lib.hid (by rw [HX.out, HS.out, hyy]; rfl)
        clear HX HN2 hyy SN SY X1
        generalize f yc = s at *
        go_upto_region 9 with (first | ((with_reducible show wpList _ _ _ ({ dst := _, op := Op.load 26 (Operand.tmp 9), type := _, pos := _, after := _, guard := _ } :: _) _ _); refine wpList_ldr ty_corner rfl _ rfl _ rfl _ rfl (HO.out.at 0 rfl) ?_) | ((with_reducible show wpList _ _ _ ({ dst := _, op := Op.load 28 (Operand.tmp 3), type := _, pos := _, after := _, guard := _ } :: _) _ _); refine wpList_ldr ty_rect rfl _ rfl _ rfl _ rfl (HO.out.at 1 rfl) ?_) | (go_at_call 6; (with_reducible refine (S1 _).mono ?_); rintro e w5 ⟨rfl, hk1⟩; have l2 := (HO.out.call hk1).newAt w5.heap.size rfl (.int .i64 (s 0)) [.int .i64 (s 1), .int .i64 (s 2), .int .i64 (s 3), .int .i64 (s 4), .int .i64 (s 5), .int .i64 (s 6), .int .i64 (s 7), .int .i64 (s 8)] 32; clear HO hk1; have HO := Lib.hid l2; clear l2))
        generalize hV : World.alloc _ _ = V2 at *
        clear hV
        generalize w5.heap.size = p8 at *
        have K1 : Hid (xs.length + 1 ≤ maxLen) := Lib.hid (by have := HL.out; unfold maxLen; omega)
        have K4 : Hid ((xs.length + 1) * 72 ≤ 140737488355328) := Lib.hid (by have := HL.out; omega)
        have K5 : Hid (w.heap.size ≤ V2.heap.size) := Lib.hid HO.out.bl.size
        go_wp2_with (first | ((with_reducible show wpList _ _ _ ({ dst := _, op := Op.load 32 (Operand.tmp 10), type := _, pos := _, after := _, guard := _ } :: _) _ _); refine wpList_ldr ty_spot rfl _ rfl _ rfl _ rfl (HO.out.at 0 rfl) ?_) | (at_builtin; refine wpList_append_lies _ rfl (.tmp 35) (.tmp 37) 44 rfl w.heap.size 32 i0 _ 9 72 Try.underlying44 hi0 hz0 hz1 hz3 rfl (by decide) _ _ _ rfl (HO.out.own.alloc _) ⟨V2.heap.size, 0, none⟩ 1 1 [.int .i64 (s 0), .int .i64 (s 1), .int .i64 (s 2), .int .i64 (s 3), .int .i64 (s 4), .int .i64 (s 5), .int .i64 (s 6), .int .i64 (s 7), .int .i64 (s 8)] rfl rfl (Ro.news _ [.int .i64 (s 0), .int .i64 (s 1), .int .i64 (s 2), .int .i64 (s 3), .int .i64 (s 4), .int .i64 (s 5), .int .i64 (s 6), .int .i64 (s 7), .int .i64 (s 8)] _) (one9 s) (by decide) K1.out K4.out (Nat.le_trans K5.out (by simp)) (V2.heap.size + 1) (by simp) ?_))
        intro g cap w6 h1 h2 h3 h4
        have l2 := HO.out.put (c := s) (m := xs.length) rfl h1 h2 h3
        clear HO h1 h2 h3 h4 K1 K4 K5
        have HO := Lib.hid l2
        clear l2
        go_wp2_with fail
        go_roundw
        case rel => exact ⟨j + 1, by omega, by go_num, HZ.out, by rw [HM.out]; exact HO.out.drop (fun q hq => by simp at hq; simp [hq])⟩
        case measure => simp [msrS, intOf]; omega
    · have z1 : decide ((j : Int) < (l.length : Int)) = false := decide_eq_false (by omega)
      obtain rfl : j = l.length := by omega
      rw [List.take_length] at hs
      obtain ⟨rfl, rfl⟩ := HY.out hs
      rw [List.take_length] at HO
      clear hs HN HY SN SY
      go_wp2
      go_ret2
      exact ⟨_, rfl, HO.out.sp Vw.cs_len, HO.out.bl⟩
end Go.Proofs.Ythhfhkenpkfioaa
