/-
  Contract of the document's own answers for layer 15 (clip): a polygon, cut off at all planes.
-/
import Derived.Test.YtfhlnldiljldcaaClipRefAt
namespace Go.Proofs.Ytfhlnldiljldcaa
open Go.RowKit

set_option linter.unusedSimpArgs false in
set_option maxHeartbeats 4000000 in
theorem rall_any (l : List Cn) (v : Value) (w : World) (hS : Sp w v l) (hm : ∀ c ∈ l, Cl.May c) (hl : l.length ≤ 16) :
    Calls Try.prog 18 #[v] w fun e w' => RAt w (Cl.all l 7) e w' := by
  obtain ⟨i0, hi0, hz0, hz1, hz3⟩ := info_parts infoCorner
  rcases hS.full with ⟨rfl, rfl⟩ | ⟨ad, cap, rfl, hc⟩
  · obtain ⟨l, hl0⟩ : ∃ l : List Cn, l = [] := ⟨_, rfl⟩
    rw [← hl0] at hm hl ⊢
    have HL := Lib.hid hl0
    clear hS hl0
    go_enter Try.func18, Try.ntmps18
    go_wp2_with (at_builtin; refine wpList_append_own_none rfl (.tmp 5) (.tmp 6) 37 rfl w.heap.size 26 i0 10 Try.underlying37 hi0 _ 0 [] rfl (World.ownsRow_made w #[] 0 (Nat.le_refl _) (by decide) rfl) rfl ?_)
    have HS2 : Hid (Sp (w.alloc (.cells #[] 26)) (.slice (some ⟨w.heap.size, 0, none⟩) 0 0) (Cl.all l 0)) := Lib.hid (by rw [show Cl.all l 0 = l from rfl, HL.out]; exact Sp.of_own (l := []) (World.ownsRow_made w #[] 0 (Nat.le_refl _) (by decide) rfl))
    have HB2 : Hid (Below w.heap.size w (w.alloc (.cells #[] 26))) := Lib.hid ((Below.refl _ _).alloc (Nat.le_refl _) _)
    go_wp2
    go_loopw [4, 3] (fun i u wr => ∃ (j : Nat), j ≤ 7 ∧ i = .int .i64 j ∧ Sp wr u (Cl.all l j) ∧ Below w.heap.size w wr) (fun i _ _ => 7 - (intOf i).toNat)
    case atStart => exact ⟨0, by omega, rfl, HS2.out, HB2.out⟩
    case round =>
      clear HS2 HB2
      obtain ⟨j, hj, rfl, hs, hb⟩ := hrel
      by_cases hlt : j < 7
      · have z1 : decide ((j : Int) < 7) = true := decide_eq_true (by omega)
        have hlen := Cl.all_len l j
        have hpow : 2 ^ j ≤ 128 := by have := Nat.pow_le_pow_right (show 0 < 2 by omega) (show j ≤ 7 by omega); simpa using this
        have hlen2 : (Cl.all l j).length ≤ 100000 := by
          have : 2 ^ j * l.length ≤ 128 * 16 := Nat.mul_le_mul hpow hl
          omega
        have A1 := rclip_any j (Cl.all l j) u3 wr hs hlt (Cl.all_may hm j) hlen2
        have HB := Lib.hid hb
        have HX : Hid (Cl.at j (Cl.all l j) = Cl.all l (j + 1)) := Lib.hid rfl
        generalize Cl.at j (Cl.all l j) = l2 at *
        clear hs hb hlen hpow hlen2
        go_wp2_with (go_at_call 16; refine A1.mono ?_; rintro e wz ⟨u, rfl, hs2, hb2⟩; have HS2 := Lib.hid hs2; have HB2 := Lib.hid hb2; clear hs2 hb2)
        go_roundw
        case rel => exact ⟨j + 1, by omega, by go_num, by rw [← HX.out]; exact HS2.out, HB.out.trans (HB2.out.mono HB.out.size)⟩
        case measure => simp [intOf]; omega
      · have z1 : decide ((j : Int) < 7) = false := decide_eq_false (by omega)
        obtain rfl : j = 7 := by omega
        have HS := Lib.hid hs
        have HB := Lib.hid hb
        clear hs hb
        go_wp2
        go_ret
        exact ⟨_, rfl, HS.out, HB.out⟩
  · clear hS
    have HC := Lib.hid hc
    have HK : Hid (∀ j u, (Cl.flat l)[j]? = some u → (w.alloc (.cells #[] 26)).cell? (ad.add j) = some u) := Lib.hid fun j u hj => by
      have h1 := hc j u hj
      exact (((Below.refl w.heap.size w).alloc (Nat.le_refl _) _).cell (World.block_lt_of_cell? _ _ h1)).trans h1
    have HO1 : Hid (∀ u ∈ Cl.flat l, u.oneCell' = true) := Lib.hid fun u hu => by
      obtain ⟨c, _, hc2⟩ := List.mem_flatMap.1 hu
      exact one10 c u hc2
    have K1 : Hid (0 + l.length ≤ maxLen) := Lib.hid (by unfold maxLen; omega)
    have K2 : Hid ((0 + l.length) * 80 ≤ 140737488355328) := Lib.hid (by omega)
    clear hc
    go_enter Try.func18, Try.ntmps18
    go_wp2_with (at_builtin; refine wpList_append_own _ rfl (.tmp 5) (.tmp 6) 37 rfl w.heap.size 26 i0 _ 10 80 Try.underlying37 hi0 hz0 hz1 hz3 rfl (by decide) _ 0 [] rfl (World.ownsRow_made w #[] 0 (Nat.le_refl _) (by decide) rfl) ad l.length cap (Cl.flat l) rfl (Cl.flat_len l) HK.out HO1.out K1.out K2.out (by simp) ?_)
    intro u w4 h1 h2 h3
    have HS2 : Hid (Sp w4 u (Cl.all l 0)) := Lib.hid (Sp.of_own (l := l) (by simpa using h1))
    have HB2 : Hid (Below w.heap.size w w4) := Lib.hid (Below.grown ((Below.refl _ _).alloc (Nat.le_refl _) _) h2 (by simp) (fun k hk => by cases hk; exact Nat.le_refl _))
    clear h1 h2 h3 K1 K2 HO1 HK HC
    go_wp2
    go_loopw [4, 3] (fun i u wr => ∃ (j : Nat), j ≤ 7 ∧ i = .int .i64 j ∧ Sp wr u (Cl.all l j) ∧ Below w.heap.size w wr) (fun i _ _ => 7 - (intOf i).toNat)
    case atStart => exact ⟨0, by omega, rfl, HS2.out, HB2.out⟩
    case round =>
      clear HS2 HB2
      obtain ⟨j, hj, rfl, hs, hb⟩ := hrel
      by_cases hlt : j < 7
      · have z1 : decide ((j : Int) < 7) = true := decide_eq_true (by omega)
        have hlen := Cl.all_len l j
        have hpow : 2 ^ j ≤ 128 := by have := Nat.pow_le_pow_right (show 0 < 2 by omega) (show j ≤ 7 by omega); simpa using this
        have hlen2 : (Cl.all l j).length ≤ 100000 := by
          have : 2 ^ j * l.length ≤ 128 * 16 := Nat.mul_le_mul hpow hl
          omega
        have A1 := rclip_any j (Cl.all l j) u3 wr hs hlt (Cl.all_may hm j) hlen2
        have HB := Lib.hid hb
        have HX : Hid (Cl.at j (Cl.all l j) = Cl.all l (j + 1)) := Lib.hid rfl
        generalize Cl.at j (Cl.all l j) = l2 at *
        clear hs hb hlen hpow hlen2
        go_wp2_with (go_at_call 16; refine A1.mono ?_; rintro e wz ⟨u, rfl, hs2, hb2⟩; have HS2 := Lib.hid hs2; have HB2 := Lib.hid hb2; clear hs2 hb2)
        go_roundw
        case rel => exact ⟨j + 1, by omega, by go_num, by rw [← HX.out]; exact HS2.out, HB.out.trans (HB2.out.mono HB.out.size)⟩
        case measure => simp [intOf]; omega
      · have z1 : decide ((j : Int) < 7) = false := decide_eq_false (by omega)
        obtain rfl : j = 7 := by omega
        have HS := Lib.hid hs
        have HB := Lib.hid hb
        clear hs hb
        go_wp2
        go_ret
        exact ⟨_, rfl, HS.out, HB.out⟩
end Go.Proofs.Ytfhlnldiljldcaa
