/-
  Contracts of layer 4 (lex): a text of signs; words with blanks between, as the document lays them.
-/
import Derived.Test.YtennmdpllclmiaaDoorLexWord
import Derived.Laws.BytesArg
namespace Go.Proofs.YtennmdpllclmiaaDoor
open Go.RowKit

theorem join_step (ws : List (List UInt8)) (k : Nat) (hk : k < ws.length) : Lib.join (ws.take (k + 1)) [32] = if 0 < k then Lib.join (ws.take k) [32] ++ [32] ++ ws[k] else ws[k] := by
  match ws, hk with
  | x :: r, hk =>
    cases k with
    | zero => simp [Lib.join_one]
    | succ k =>
      have hk' : k < r.length := by simpa using hk
      rw [if_pos (by omega), List.take_succ_cons, List.take_succ_cons, Lib.join_cons, Lib.join_cons, Lib.joinTail_take_succ [32] r k r[k] (List.getElem?_eq_getElem hk')]
      simp
/-- words laid so far -/
def JI (xs : List ByteArray) (S i : Value) : Prop := ∃ (k : Nat) (t : ByteArray), k ≤ xs.length ∧ i = .int .i64 k ∧ S = .string t ∧ Hid (t.data.toList = Lib.join ((bs xs).take k) [32]) ∧ t.size ≤ k * 1001
theorem JI.start (xs : List ByteArray) : JI xs (.string ⟨#[]⟩) (.int .i64 0) := ⟨0, ⟨#[]⟩, Nat.zero_le _, rfl, rfl, Lib.hid rfl, Nat.zero_le _⟩
theorem bs_get {xs : List ByteArray} {k : Nat} (hk : k < xs.length) (hk' : k < (bs xs).length) : (bs xs)[k] = xs[k].data.toList := by simp [bs]
theorem size_list (s : ByteArray) (l : List UInt8) (h : s.data.toList = l) : s.size = l.length := by rw [← h, len_list]
theorem JI.first {xs : List ByteArray} {t : ByteArray} {i : Value} (hk : 0 < xs.length) (hx : xs[0].size ≤ 1000) (ht : t.data.toList = Lib.join ((bs xs).take 0) [32]) (hi : i = .int .i64 1) : JI xs (.string (t ++ xs[0])) i := by
  have e : (t ++ xs[0]).data.toList = Lib.join ((bs xs).take 1) [32] := by
    have h' : 0 < (bs xs).length := by rw [bs_len]; exact hk
    rw [join_step (bs xs) 0 h', if_neg (by omega), bs_get hk h', show (t ++ xs[0]).data.toList = t.data.toList ++ xs[0].data.toList by simp, ht]
    rfl
  refine ⟨1, _, by omega, hi, rfl, Lib.hid e, ?_⟩
  have : (t ++ xs[0]).data.toList = xs[0].data.toList := by
    rw [show (t ++ xs[0]).data.toList = t.data.toList ++ xs[0].data.toList by simp, ht]
    rfl
  rw [size_list _ _ this, len_list]
  omega
theorem JI.next {xs : List ByteArray} {t : ByteArray} {i : Value} {k : Nat} (hk : k < xs.length) (hk0 : 0 < k) (hx : xs[k].size ≤ 1000) (ht : t.data.toList = Lib.join ((bs xs).take k) [32]) (hs : t.size ≤ k * 1001) (hi : i = .int .i64 ((k + 1 : Nat) : Int)) : JI xs (.string (t ++ ⟨#[32]⟩ ++ xs[k])) i := by
  have e0 : (t ++ ⟨#[32]⟩ ++ xs[k]).data.toList = t.data.toList ++ [32] ++ xs[k].data.toList := by simp
  have e : (t ++ ⟨#[32]⟩ ++ xs[k]).data.toList = Lib.join ((bs xs).take (k + 1)) [32] := by
    have h' : k < (bs xs).length := by rw [bs_len]; exact hk
    rw [join_step (bs xs) k h', if_pos hk0, bs_get hk h', e0, ht]
  refine ⟨k + 1, _, by omega, hi, rfl, Lib.hid e, ?_⟩
  rw [size_list _ _ e0, List.length_append, List.length_append, len_list, len_list, List.length_singleton]
  omega

set_option maxHeartbeats 1000000 in
set_option maxRecDepth 100000 in
theorem rjoin_any (xs : List ByteArray) (u : Value) (w : World) (hu : Sl w u (sv xs)) (hx : xs.length ≤ 1000) (hs : ∀ x ∈ xs, x.size ≤ 1000) :
    Calls Tryd.prog 19 #[u] w fun e w' => (∃ t : ByteArray, e = .returned (.string t) ∧ t.data.toList = Lib.join (bs xs) [32] ∧ t.size ≤ 1001000) ∧ w' = w := by
  obtain ⟨a, c, rfl, hac, hcell⟩ := hu
  rw [sv_len] at hac ⊢
  have HU := Lib.hid hcell
  have HS := Lib.hid hs
  clear hcell hs
  go_enter Tryd.func19, Tryd.ntmps19
  go_wp2
  go_loop [3, 4] (fun S i => JI xs S i) (fun _ i => msr xs.length i)
  case atStart => exact JI.start xs
  case round =>
    obtain ⟨k, t, hk, rfl, rfl, hT, hts⟩ := hrel
    by_cases hlt : k < xs.length
    · have z1 : (k : Int) < (xs.length : Int) := by omega
      obtain ⟨b1, o1, e1, -, c1⟩ := HU.out k _ (sv_get hlt)
      subst e1
      have hxk := HS.out _ (List.getElem_mem hlt)
      have ht2 : t.size ≤ 1001000 := by have := Nat.mul_le_mul_right 1001 hk; omega
      by_cases hk0 : 0 < k
      · have z2 : (0 : Int) < (k : Int) := by omega
        go_wp2
        go_round
        case rel => exact JI.next hlt hk0 hxk hT.out hts (by go_num)
        case measure => simp [msr, intOf]; omega
      · obtain rfl : k = 0 := by omega
        rw [Nat.add_zero] at c1
        go_wp2
        go_round
        case rel => exact JI.first hlt hxk hT.out (by go_num)
        case measure => simp [msr, intOf]; omega
    · have HE : Hid (t.data.toList = Lib.join (bs xs) [32]) := Lib.hid (by have h1 := hT.out; rw [List.take_of_length_le (by rw [bs_len]; omega)] at h1; exact h1)
      have ht2 : t.size ≤ 1001000 := by have := Nat.mul_le_mul_right 1001 hk; omega
      go_wp2
      go_ret
      exact ⟨⟨_, rfl, HE.out, ht2⟩, rfl⟩

/-- v's bytes are l, in a row of the call's own -/
def TI (w : World) (xs : List Int) (v i : Value) (wr : World) : Prop :=
  ∃ k : Nat, k ≤ xs.length ∧ i = .int .i64 k ∧ wr.ownsRow w.heap.size 5 1 v (Lx.txt (xs.take k)).length (Lib.byteCells (Lx.txt (xs.take k))) ∧ Bl w wr ∧ Hid ((xs.take k).all Lx.sgn = true)
theorem TI.start (w : World) (xs : List Int) : TI w xs (.slice none 0 0) (.int .i64 0) w := ⟨0, Nat.zero_le _, rfl, World.ownsRow_nil _ _ _ _, Bl.refl _, Lib.hid rfl⟩
theorem txt_step (xs : List Int) (k : Nat) (hk : k < xs.length) : Lx.txt (xs.take (k + 1)) = Lx.txt (xs.take k) ++ Lib.encodeRune xs[k] := by
  unfold Lx.txt
  rw [List.take_add_one, List.getElem?_eq_getElem hk, Option.toList_some, List.map_append, List.map_singleton, List.flatten_append, List.flatten_singleton]
theorem enc_le (c : Int) : (Lib.encodeRune c).length ≤ 4 := by rw [← Lib.runeCells_length]; exact (Lib.runeCells_le c).2
theorem txt_len (xs : List Int) : ∀ k, k ≤ xs.length → (Lx.txt (xs.take k)).length ≤ 4 * k
  | 0, _ => by simp [Lx.txt]
  | k + 1, h => by
    have := txt_len xs k (by omega)
    have := enc_le (xs[k]'(by omega))
    rw [txt_step xs k (by omega), List.length_append]
    omega
theorem TI.step {w wr w2 : World} {xs : List Int} {v v' : Value} {k : Nat} {o : Obj} {i : Value} (hk : k < xs.length) (ho : wr.ownsRow w.heap.size 5 1 v (Lx.txt (xs.take k)).length (Lib.byteCells (Lx.txt (xs.take k)))) (hB : Bl w wr) (hA : (xs.take k).all Lx.sgn = true) (hs : Lx.sgn xs[k] = true)
    (h1 : w2.ownsRow w.heap.size 5 1 v' ((Lx.txt (xs.take k)).length + (Lib.runeCells xs[k]).length) (Lib.byteCells (Lx.txt (xs.take k)) ++ Lib.runeCells xs[k])) (h2 : (wr.alloc o).grownBy w2 v.ownBlock) (hi : i = .int .i64 ((k + 1 : Nat) : Int)) : TI w xs v' i w2 := by
  refine ⟨k + 1, by omega, hi, ?_, ?_, Lib.hid (all_take hk hA hs)⟩
  · rw [txt_step xs k hk, Lib.byteCells_append, Lib.byteCells_encodeRune, List.length_append, ← Lib.runeCells_length]
    exact h1
  · exact Below.grown (hB.next (Bl.alloc wr o)) h2 (by have := hB.size; simp; omega) (fun k hk => (ho.lt k hk).1)
theorem conv_own {w : World} {B : Nat} {v : Value} {l : List UInt8} (h : w.ownsRow B 5 1 v l.length (Lib.byteCells l)) : (convert 33 9 v).run Tryd.prog w = .ok (.string ⟨l.toArray⟩) w := by
  rcases h.2 with ⟨rfl, h0⟩ | ⟨g, cap, cur, rfl, _, hg, h1, h2, h3, h4⟩
  · have : l = [] := List.eq_nil_of_length_eq_zero h0
    subst this
    exact run_convert_bytes_nil w 33 5 Tryd.underlying33 Tryd.underlying5 0 0 9 Tryd.underlying9
  · exact run_convert_bytes_back w 33 9 5 ⟨g, 0, none⟩ cap l Tryd.underlying33 Tryd.underlying5 Tryd.underlying9 (fun j hj => by
      refine h.cells (g := g) rfl j _ ?_
      unfold Lib.byteCells
      rw [List.getElem?_map, List.getElem?_eq_getElem hj]
      rfl)

/-- the text of signs, or none -/
def TW (xs : List Int) (w : World) (e : Ending) (w' : World) : Prop :=
  (xs.all Lx.sgn = true ∧ e = .returned (.tuple #[.string ⟨(Lx.txt xs).toArray⟩, .int .i64 0]) ∧ Bl w w') ∨ (xs.all Lx.sgn = false ∧ e = .returned (.tuple #[.string ⟨#[]⟩, .int .i64 6]) ∧ Bl w w')
theorem all_no {xs : List Int} {k : Nat} {c : Int} (hk : k < xs.length) (hc : c = xs[k]) (h : Lx.sgn c = false) : xs.all Lx.sgn = false := by
  rw [List.all_eq_false]
  exact ⟨_, List.getElem_mem hk, by rw [← hc, h]; simp⟩
theorem vrune_any (c : Int) (w : World) : Calls Tryd.prog 24 #[.int .i32 c] w fun e w' => e = .returned (.bool (Lx.sgn c)) ∧ w' = w := Tryd.utf8_ValidRune c w
theorem iv_get {l : List Int} {k : Nat} (h : k < l.length) : (iv l)[k]? = some (.int .i64 l[k]) := by unfold iv; rw [List.getElem?_map, List.getElem?_eq_getElem h]; rfl

set_option maxHeartbeats 1000000 in
set_option maxRecDepth 100000 in
theorem text_any (xs : List Int) (u : Value) (w : World) (hu : Sl w u (iv xs)) (hx : xs.length ≤ 1000000) :
    Calls Tryd.prog 12 #[u] w fun e w' => TW xs w e w' := by
  have HU := Lib.hid hu
  obtain ⟨a, c, rfl, hac, -⟩ := hu
  rw [iv_len] at hac HU ⊢
  go_enter Tryd.func12, Tryd.ntmps12
  go_wp2
  go_loopw [4, 9] (fun v i wr => TI w xs v i wr) (fun _ i _ => msr xs.length i)
  case atStart => exact TI.start w xs
  case round =>
    obtain ⟨k, hk, rfl, ho, hb, hA⟩ := hrel
    have HB := Lib.hid hb
    have HO := Lib.hid ho
    clear hb ho
    by_cases hlt : k < xs.length
    · have z1 : (k : Int) < (xs.length : Int) := by omega
      obtain ⟨a', c', e1, -, hcell⟩ := HU.out.next HB.out
      obtain ⟨b1, o1, e2, -, c1⟩ := hcell k _ (iv_get hlt)
      injection e1 with e1 e3 e4
      clear e3 e4
      subst e1
      subst e2
      clear hcell
      obtain ⟨n, hn⟩ : ∃ n, n = xs[k] := ⟨_, rfl⟩
      rw [← hn] at c1
      have HN := Lib.hid hn
      clear hn
      by_cases h0 : n < 0
      · have HF := Lib.hid (all_no hlt HN.out (by unfold Lx.sgn; rw [decide_eq_false (by omega)]))
        go_wp2
        go_ret2
        exact .inr ⟨HF.out, rfl, HB.out⟩
      · have h0' : 0 ≤ n := by omega
        have d0 : decide (n < 0) = false := decide_eq_false h0
        by_cases h1 : 1114111 < n
        · have HF := Lib.hid (all_no hlt HN.out (by unfold Lx.sgn; rw [decide_eq_false (by omega)]))
          go_wp2
          go_ret2
          exact .inr ⟨HF.out, rfl, HB.out⟩
        · have h1' : n ≤ 1114111 := by omega
          have d1 : decide (1114111 < n) = false := decide_eq_false h1
          have V1 := fun W => vrune_any n W
          cases hs : Lx.sgn n with
          | false =>
            rw [hs] at V1
            have HF := Lib.hid (all_no hlt HN.out hs)
            clear hs
            go_wp2_with (go_at_call 24; (with_reducible refine (V1 _).mono ?_); rintro e w2 ⟨rfl, rfl⟩)
            go_ret2
            exact .inr ⟨HF.out, rfl, HB.out⟩
          | true =>
            rw [hs] at V1
            have HS := Lib.hid hs
            clear hs
            have ll := txt_len xs k hk
            have K1 : Hid ((Lx.txt (xs.take k)).length + 4 ≤ 140737488355328) := Lib.hid (by omega)
            clear ll
            go_wp2_with (go_at_call 24; (with_reducible refine (V1 _).mono ?_); rintro e w2 ⟨rfl, rfl⟩)
            refine (Tryd.utf8_AppendRune_plain w.heap.size _ _ _ n (by omega) (by omega) _ HO.out K1.out HB.out.size).mono ?_
            rintro e w3 ⟨v', rfl, g1, o, g2⟩
            have HI := Lib.hid (TI.step (i := .int .i64 ((k : Int) + 1)) hlt HO.out HB.out hA.out (by rw [← HN.out]; exact HS.out) (by rw [← HN.out]; exact g1) g2 (by go_num))
            clear g1 g2 HO HB K1 V1 c1
            go_wp2
            go_roundw
            case rel => exact HI.out
            case measure => simp [msr, intOf]; omega
    · have hte : xs.take k = xs := List.take_of_length_le (by omega)
      have HA : Hid (xs.all Lx.sgn = true) := Lib.hid (by have := hA.out; rw [hte] at this; exact this)
      have ho := HO.out
      rw [hte] at ho
      have cv := conv_own ho
      clear ho hte
      go_wp2
      go_ret2
      exact .inl ⟨HA.out, rfl, HB.out⟩
end Go.Proofs.YtennmdpllclmiaaDoor
