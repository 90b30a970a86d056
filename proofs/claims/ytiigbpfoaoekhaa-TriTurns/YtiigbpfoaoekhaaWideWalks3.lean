/-
  Contracts of layer 2 (wide), third part: how many bits a word has.
-/
import Derived.Test.YtiigbpfoaoekhaaWideWalks2
import Derived.Lib.Walk
import Derived.Lib.BitFns
namespace Go.Proofs.Ytiigbpfoaoekhaa
open Go.RowKit

theorem Wd.tab (i : Int) (h : i.toNat < Lib.len8tab.size) (h0 : 0 ≤ i) (h1 : i ≤ 255) : ((Lib.len8tab[i.toNat]'h).toNat : Int) = (Lib.bitLen i.toNat : Nat) := by
  have e := Lib.len8_of i h0 h1
  unfold Lib.len8 at e
  rw [ByteArray.getElem?_lt' _ _ h] at e
  simpa using e
theorem Wd.tab_shift (x i : Int) (k : Nat) (c : Int) (hc : c = k) (h : i.toNat < Lib.len8tab.size) (hi : i.toNat = x.toNat / 2 ^ k) (h0 : 0 ≤ i) (h1 : i ≤ 255) (hx : 2 ^ k ≤ x.toNat) (hx1 : x.toNat < 2 ^ 64) (hk : k ≤ 56) :
    wrap64 (c + wrap64 ((Lib.len8tab[i.toNat]'h).toNat : Int)) = (Lib.bitLen x.toNat : Nat) := by
  have l := Lib.bitLen_le8' i h0 h1
  rw [Wd.tab i h h0 h1, Lib.bitLen_shift k x.toNat hx hx1, ← hi]
  subst hc
  generalize Lib.bitLen i.toNat = b at *
  unfold wrap64; omega

set_option maxHeartbeats 4000000 in
set_option maxRecDepth 100000 in
theorem len64_any (x : Int) (w : World) (h0 : 0 ≤ x) (h1 : x ≤ 18446744073709551615) :
    Calls Try.prog 65 #[.int .u64 x] w fun e w' => e = .returned (.int .i64 (Lib.bitLen x.toNat)) ∧ w = w' := by
  have HS := Lib.hid Lib.len8tab_size
  go_enter Try.func65, Try.ntmps65
  go_wp2
  all_goals have hS := HS.out
  all_goals first
    | (exfalso; omega)
    | (go_ret; exact ⟨ret_int (Wd.tab_shift x _ 56 _ rfl _ (by omega) (by omega) (by omega) (by omega) (by omega) (by omega)), rfl⟩)
    | (go_ret; exact ⟨ret_int (Wd.tab_shift x _ 48 _ rfl _ (by omega) (by omega) (by omega) (by omega) (by omega) (by omega)), rfl⟩)
    | (go_ret; exact ⟨ret_int (Wd.tab_shift x _ 40 _ rfl _ (by omega) (by omega) (by omega) (by omega) (by omega) (by omega)), rfl⟩)
    | (go_ret; exact ⟨ret_int (Wd.tab_shift x _ 32 _ rfl _ (by omega) (by omega) (by omega) (by omega) (by omega) (by omega)), rfl⟩)
    | (go_ret; exact ⟨ret_int (Wd.tab_shift x _ 24 _ rfl _ (by omega) (by omega) (by omega) (by omega) (by omega) (by omega)), rfl⟩)
    | (go_ret; exact ⟨ret_int (Wd.tab_shift x _ 16 _ rfl _ (by omega) (by omega) (by omega) (by omega) (by omega) (by omega)), rfl⟩)
    | (go_ret; exact ⟨ret_int (Wd.tab_shift x _ 8 _ rfl _ (by omega) (by omega) (by omega) (by omega) (by omega) (by omega)), rfl⟩)
    | (go_ret; refine ⟨ret_int ?_, rfl⟩; rw [Wd.tab x _ h0 (by omega)]; have l := Lib.bitLen_le8' x h0 (by omega); generalize Lib.bitLen x.toNat = b at *; unfold wrap64; omega)
end Go.Proofs.Ytiigbpfoaoekhaa
