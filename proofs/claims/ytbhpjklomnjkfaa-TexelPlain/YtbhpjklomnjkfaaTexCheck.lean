/-
  Contracts of layer 14 (texel): Check, and the document's own Check.
-/
import Derived.Test.YtbhpjklomnjkfaaTexWalks
import Derived.Test.YtbhpjklomnjkfaaTintUnpack
import Derived.Test.YtbhpjklomnjkfaaSlRow
namespace Go.Proofs.Ytbhpjklomnjkfaa
open Go.RowKit

theorem ty_tex : Ty 24 3 := ⟨by kernel_rfl, _, Try.underlying24, rfl⟩
/-- a slice, and its cells in every world in which what stood stands -/
theorem Sl.parts {w : World} {v : Value} {xs : List Value} (h : Sl w v xs) : ∃ a c, v = .slice a xs.length c ∧ xs.length ≤ c ∧
    ∀ wr, Kp w.heap.size w wr → ∀ j x, xs[j]? = some x → ∃ b o, a = some ⟨b, o, none⟩ ∧ wr.cell? ⟨b, o + j, none⟩ = some x := by
  obtain ⟨a, c, h1, h2, h3⟩ := h
  refine ⟨a, c, h1, h2, fun wr hk j x hj => ?_⟩
  obtain ⟨b, o, e1, e2, e3⟩ := h3 j x hj
  exact ⟨b, o, e1, (hk.below.cell (p := ⟨b, o + j, none⟩) e2).trans e3⟩
/-- whole numbers of 64 bits -/
def Tx.ints (l : List Int) : Prop := ∀ x ∈ l, -9223372036854775808 ≤ x ∧ x ≤ 9223372036854775807
theorem Tx.all_next {l : List Int} {k : Nat} (h : k < l.length) (f : Int → Bool) : (l.take (k + 1)).all f = ((l.take k).all f && f l[k]) := by
  rw [List.take_succ_eq_append_getElem h, List.all_append]; simp
def msrX (n : Nat) (i : Value) : Nat := n - (intOf i).toNat
theorem Tx.chk_side {W H : Int} {l : List Int} (h : (Tx.side W && Tx.side H) = false) : Tx.chk W H l = 3 := by unfold Tx.chk; rw [h]; rfl
theorem Tx.chk_form {W H : Int} {l : List Int} (h : (Tx.side W && Tx.side H) = true) (h2 : (l.length : Int) ≠ W * H) : Tx.chk W H l = 6 := by unfold Tx.chk; rw [h, if_pos rfl, if_neg h2]
theorem Tx.chk_in {W H : Int} {l : List Int} (h : (Tx.side W && Tx.side H) = true) (h2 : (l.length : Int) = W * H) : ∃ r, Tx.chk W H l = r ∧ (l.all Tx.good = true → r = 0) ∧ (l.all Tx.good = false → r = 3) :=
  ⟨_, rfl, fun h3 => by unfold Tx.chk; rw [h, if_pos rfl, if_pos h2, if_pos h3], fun h3 => by unfold Tx.chk; rw [h, if_pos rfl, if_pos h2, h3]; rfl⟩

set_option maxHeartbeats 2000000 in
theorem check_any (W H : Int) (l : List Int) (v : Value) (w : World) (hS : Sl w v (iv l)) (hi : Tx.ints l) :
    Calls Try.prog 10 #[.agg #[.int .i64 W, .int .i64 H, v]] w fun e w' => e = .returned (.int .i64 (Tx.chk W H l)) ∧ Kp w.heap.size w w' := by
  obtain ⟨a, c, rfl, hac, hu⟩ := hS.parts
  rw [iv_len] at hac ⊢
  clear hS
  have S1 := fun w => side_any W w
  have S2 := fun w => side_any H w
  cases hs : (Tx.side W && Tx.side H)
  · rw [Tx.chk_side hs]
    clear hu hi
    have HO := Lib.hid ((Ow.refl w).newAt w.heap.size rfl (.int .i64 W) [.int .i64 H, .slice a l.length c] 24)
    have c0 := (HO.out.at 0 rfl).cell 0 rfl
    have c1 := (HO.out.at 0 rfl).cell 1 rfl
    have c2 := (HO.out.at 0 rfl).cell 2 rfl
    cases h1 : Tx.side W
    · rw [h1] at S1
      go_enter Try.func10, Try.ntmps10
      go_wp2_with (first | go_big_skip | (go_at_call 23; (first | (with_reducible refine (S1 _).mono ?_) | (with_reducible refine (S2 _).mono ?_)); rintro e w' ⟨rfl, rfl⟩))
      go_ret
      exact ⟨rfl, HO.out.k⟩
    · rw [h1] at hs S1
      rw [Bool.true_and] at hs
      rw [hs] at S2
      go_enter Try.func10, Try.ntmps10
      go_wp2_with (first | go_big_skip | (go_at_call 23; (first | (with_reducible refine (S1 _).mono ?_) | (with_reducible refine (S2 _).mono ?_)); rintro e w' ⟨rfl, rfl⟩))
      go_ret
      exact ⟨rfl, HO.out.k⟩
  · have hs2 := hs
    rw [Bool.and_eq_true] at hs2
    rw [hs2.1] at S1
    rw [hs2.2] at S2
    have ha := Tx.area_bd (Tx.side_iff.1 hs2.1) (Tx.side_iff.1 hs2.2)
    obtain ⟨ha1, ha2⟩ := ha
    clear hs2
    by_cases hf : (l.length : Int) = W * H
    · obtain ⟨r, hr, hr2⟩ := Tx.chk_in hs hf
      rw [hr]
      have HR := Lib.hid hr2
      clear hs hr hr2
      have hfd : ((l.length : Int) == W * H) = true := by simpa using hf
      have HF := Lib.hid hf
      have hl2 : (l.length : Int) ≤ 4096 := by omega
      have HU := Lib.hid hu
      have HI := Lib.hid hi
      clear hf hu hi
      have HO := Lib.hid ((Ow.refl w).newAt w.heap.size rfl (.int .i64 W) [.int .i64 H, .slice a l.length c] 24)
      have c0 := (HO.out.at 0 rfl).cell 0 rfl
      have c1 := (HO.out.at 0 rfl).cell 1 rfl
      have c2 := (HO.out.at 0 rfl).cell 2 rfl
      go_enter Try.func10, Try.ntmps10
      go_wp2_with (first | go_big_skip | (go_at_call 23; (first | (with_reducible refine (S1 _).mono ?_) | (with_reducible refine (S2 _).mono ?_)); rintro e w' ⟨rfl, rfl⟩))
      go_loopw [30, 5, 3] (fun i _ t wr => ∃ (k : Nat) (n : Int), k ≤ l.length ∧ i = .int .i64 k ∧ t = .int .i64 n ∧ (-9223372036854775808 ≤ n ∧ n ≤ 9223372036854775807) ∧ Tx.good n = (l.take k).all Tx.good ∧ Ow w wr [(w.heap.size, [.int .i64 W, .int .i64 H, .slice a l.length c])]) (fun i _ _ _ => msrX l.length i)
      case atStart => exact ⟨0, 0, Nat.zero_le _, rfl, rfl, by omega, rfl, HO.out⟩
      case round =>
        clear HO c0 c1 c2
        obtain ⟨k, n, hk, rfl, rfl, hn, hg, ho⟩ := hrel
        have HO := Lib.hid ho
        clear ho
        by_cases hlt : k < l.length
        · have z1 : (k : Int) < (l.length : Int) := by omega
          obtain ⟨b1, o1, e1, x1⟩ := HU.out _ HO.out.k k _ (iv_get hlt)
          have hb := Tx.bits_or hn (HI.out _ (List.getElem_mem hlt))
          have HB := Lib.hid hb
          have HG := Lib.hid (show (l.take (k + 1)).all Tx.good = (Tx.good n && Tx.good l[k]) by rw [Tx.all_next hlt, hg])
          clear hb hg hn
          generalize l[k] = y at *
          subst e1
          go_wp2
          go_roundw
          case rel => exact ⟨k + 1, _, by omega, by go_num, rfl, HB.out.1, by rw [HB.out.2, HG.out], HO.out⟩
          case measure => simp [msrX, intOf]; omega
        · obtain rfl : k = l.length := by omega
          rw [List.take_length] at hg
          cases hgn : Tx.good n
          · have U1 := fun W => unpack_no n W (by rw [← Bool.not_eq_true, Tx.good_iff] at hgn; omega)
            obtain rfl := HR.out.2 (by rw [← hg, hgn])
            clear hgn hg hn HR
            go_wp2_with (go_at_call 24; refine (U1 _).mono ?_; rintro e w1 ⟨rfl, hk1⟩; have l2 := HO.out.call hk1; clear HO hk1; have HO := Lib.hid l2; clear l2)
            go_ret
            exact ⟨rfl, HO.out.k.next (Kp.new _ _ _)⟩
          · have U1 := fun W => unpack_yes n W (Tx.good_iff.1 hgn)
            obtain rfl := HR.out.1 (by rw [← hg, hgn])
            clear hgn hg hn HR
            go_wp2_with (go_at_call 24; refine (U1 _).mono ?_; rintro e w1 ⟨rfl, hk1⟩; have l2 := HO.out.call hk1; clear HO hk1; have HO := Lib.hid l2; clear l2)
            go_ret
            exact ⟨rfl, HO.out.k.next (Kp.new _ _ _)⟩
    · rw [Tx.chk_form hs hf]
      have hfd : ((l.length : Int) == W * H) = false := by simpa using hf
      clear hs hf hu hi
      have HO := Lib.hid ((Ow.refl w).newAt w.heap.size rfl (.int .i64 W) [.int .i64 H, .slice a l.length c] 24)
      have c0 := (HO.out.at 0 rfl).cell 0 rfl
      have c1 := (HO.out.at 0 rfl).cell 1 rfl
      have c2 := (HO.out.at 0 rfl).cell 2 rfl
      go_enter Try.func10, Try.ntmps10
      go_wp2_with (first | go_big_skip | (go_at_call 23; (first | (with_reducible refine (S1 _).mono ?_) | (with_reducible refine (S2 _).mono ?_)); rintro e w' ⟨rfl, rfl⟩))
      go_ret
      exact ⟨rfl, HO.out.k⟩
set_option maxHeartbeats 2000000 in
theorem rcheck_any (W H : Int) (l : List Int) (v : Value) (w : World) (hS : Sl w v (iv l)) :
    Calls Try.prog 9 #[.agg #[.int .i64 W, .int .i64 H, v]] w fun e w' => e = .returned (.int .i64 (Tx.chk W H l)) ∧ Kp w.heap.size w w' := by
  obtain ⟨a, c, rfl, hac, hu⟩ := hS.parts
  rw [iv_len] at hac ⊢
  clear hS
  cases hs : (Tx.side W && Tx.side H)
  · rw [Tx.chk_side hs]
    clear hu
    have hx : W < 1 ∨ ¬ W < 1 ∧ 64 < W ∨ ¬ W < 1 ∧ ¬ 64 < W ∧ H < 1 ∨ ¬ W < 1 ∧ ¬ 64 < W ∧ ¬ H < 1 ∧ 64 < H := by
      rw [Bool.and_eq_false_iff, Tx.side_no, Tx.side_no] at hs; omega
    clear hs
    have HO := Lib.hid ((Ow.refl w).newAt w.heap.size rfl (.int .i64 W) [.int .i64 H, .slice a l.length c] 24)
    have c0 := (HO.out.at 0 rfl).cell 0 rfl
    have c1 := (HO.out.at 0 rfl).cell 1 rfl
    have c2 := (HO.out.at 0 rfl).cell 2 rfl
    rcases hx with h1 | ⟨h1, h2⟩ | ⟨h1, h2, h3⟩ | ⟨h1, h2, h3, h4⟩
    · have g1 : decide (W < 1) = true := decide_eq_true h1
      go_enter Try.func9, Try.ntmps9
      go_wp2_with go_big_skip
      go_ret
      exact ⟨rfl, HO.out.k⟩
    · have g1 : decide (W < 1) = false := decide_eq_false h1
      have g2 : decide (64 < W) = true := decide_eq_true h2
      go_enter Try.func9, Try.ntmps9
      go_wp2_with go_big_skip
      go_ret
      exact ⟨rfl, HO.out.k⟩
    · have g1 : decide (W < 1) = false := decide_eq_false h1
      have g2 : decide (64 < W) = false := decide_eq_false h2
      have g3 : decide (H < 1) = true := decide_eq_true h3
      go_enter Try.func9, Try.ntmps9
      go_wp2_with go_big_skip
      go_ret
      exact ⟨rfl, HO.out.k⟩
    · have g1 : decide (W < 1) = false := decide_eq_false h1
      have g2 : decide (64 < W) = false := decide_eq_false h2
      have g3 : decide (H < 1) = false := decide_eq_false h3
      have g4 : decide (64 < H) = true := decide_eq_true h4
      go_enter Try.func9, Try.ntmps9
      go_wp2_with go_big_skip
      go_ret
      exact ⟨rfl, HO.out.k⟩
  · have hs2 := hs
    rw [Bool.and_eq_true, Tx.side_iff, Tx.side_iff] at hs2
    obtain ⟨ha1, ha2⟩ := Tx.area_bd hs2.1 hs2.2
    have g1 : decide (W < 1) = false := decide_eq_false (by omega)
    have g2 : decide (64 < W) = false := decide_eq_false (by omega)
    have g3 : decide (H < 1) = false := decide_eq_false (by omega)
    have g4 : decide (64 < H) = false := decide_eq_false (by omega)
    clear hs2
    by_cases hf : (l.length : Int) = W * H
    · obtain ⟨r, hr, hr2⟩ := Tx.chk_in hs hf
      rw [hr]
      have HR := Lib.hid hr2
      clear hs hr hr2
      have hfd : ((l.length : Int) == W * H) = true := by simpa using hf
      have hl2 : (l.length : Int) ≤ 4096 := by omega
      have HU := Lib.hid hu
      clear hf hu
      have HO := Lib.hid ((Ow.refl w).newAt w.heap.size rfl (.int .i64 W) [.int .i64 H, .slice a l.length c] 24)
      have c0 := (HO.out.at 0 rfl).cell 0 rfl
      have c1 := (HO.out.at 0 rfl).cell 1 rfl
      have c2 := (HO.out.at 0 rfl).cell 2 rfl
      go_enter Try.func9, Try.ntmps9
      go_wp2_with go_big_skip
      clear g1 g2 g3 g4 ha1 ha2 hfd
      go_loopw [3] (fun i wr => ∃ k : Nat, k ≤ l.length ∧ i = .int .i64 k ∧ (l.take k).all Tx.good = true ∧ Ow w wr [(w.heap.size, [.int .i64 W, .int .i64 H, .slice a l.length c])]) (fun i _ => msrX l.length i)
      case atStart => exact ⟨0, Nat.zero_le _, rfl, rfl, HO.out⟩
      case round =>
        clear HO c0 c1 c2
        obtain ⟨k, hk, rfl, hg, ho⟩ := hrel
        have c2 := (ho.at 0 rfl).cell 2 rfl
        have HO := Lib.hid ho
        clear ho
        by_cases hlt : k < l.length
        · have z1 : decide ((k : Int) < (l.length : Int)) = true := decide_eq_true (by omega)
          have z2 : (k : Int) < (l.length : Int) := by omega
          obtain ⟨b1, o1, e1, x1⟩ := HU.out _ HO.out.k k _ (iv_get hlt)
          have HG := Lib.hid (Tx.all_next hlt Tx.good)
          have HA : Hid (Tx.good l[k] = false → l.all Tx.good = false) := Lib.hid fun h => by
            rw [← Bool.not_eq_true, List.all_eq_true]; intro h2; rw [h2 _ (List.getElem_mem hlt)] at h; cases h
          have hg0 := Lib.hid hg
          clear hg
          generalize l[k] = y at *
          subst e1
          by_cases h1 : y < 0
          · have q1 : decide (y < 0) = true := decide_eq_true h1
            obtain rfl := HR.out.2 (HA.out (by rw [← Bool.not_eq_true, Tx.good_iff]; omega))
            clear HA HG HR
            go_wp2_with go_big_skip
            go_ret
            exact ⟨rfl, HO.out.k⟩
          · have q1 : decide (y < 0) = false := decide_eq_false h1
            by_cases h2 : 4294967295 < y
            · have q2 : decide (4294967295 < y) = true := decide_eq_true h2
              obtain rfl := HR.out.2 (HA.out (by rw [← Bool.not_eq_true, Tx.good_iff]; omega))
              clear HA HG HR
              go_wp2_with go_big_skip
              go_ret
              exact ⟨rfl, HO.out.k⟩
            · have q2 : decide (4294967295 < y) = false := decide_eq_false h2
              have HN := Lib.hid (show Tx.good y = true by rw [Tx.good_iff]; omega)
              clear HA
              go_wp2_with go_big_skip
              go_roundw
              case rel => exact ⟨k + 1, by omega, by go_num, by rw [HG.out, hg0.out, HN.out]; rfl, HO.out⟩
              case measure => simp [msrX, intOf]; omega
        · have z1 : decide ((k : Int) < (l.length : Int)) = false := decide_eq_false (by omega)
          obtain rfl : k = l.length := by omega
          rw [List.take_length] at hg
          obtain rfl := HR.out.1 hg
          clear hg HR
          go_wp2
          go_ret
          exact ⟨rfl, HO.out.k⟩
    · rw [Tx.chk_form hs hf]
      have hfd : ((l.length : Int) == W * H) = false := by simpa using hf
      clear hs hf hu
      have HO := Lib.hid ((Ow.refl w).newAt w.heap.size rfl (.int .i64 W) [.int .i64 H, .slice a l.length c] 24)
      have c0 := (HO.out.at 0 rfl).cell 0 rfl
      have c1 := (HO.out.at 0 rfl).cell 1 rfl
      have c2 := (HO.out.at 0 rfl).cell 2 rfl
      go_enter Try.func9, Try.ntmps9
      go_wp2_with go_big_skip
      go_ret
      exact ⟨rfl, HO.out.k⟩
end Go.Proofs.Ytbhpjklomnjkfaa
