/-
  Contract of the document's own answers for layer 15 (clip): a number on the way from one to another one.
-/
import Derived.Test.YtfhlnldiljldcaaClipRef
import Derived.Test.YtfhlnldiljldcaaRefWalks6
namespace Go.Proofs.Ytfhlnldiljldcaa
open Go.RowKit

theorem Cl.btw_fl {n m d e : Int} (hd : 0 ≤ d ∧ d ≤ 5368709120) (he : e < 0 ∧ -5368709121 ≤ e) (hn : -1073741824 ≤ n ∧ n ≤ 1073741824) (hm : -1073741824 ≤ m ∧ m ≤ 1073741824) :
    Wd.fl ((m - n) * d) (d - e) = (m - n) * d / (d - e) ∧ Wd.isInt ((m - n) * d / (d - e)) := by
  have h := Cl.btw_int hd.1 he.1 hn hm
  refine ⟨?_, by unfold Wd.isInt; omega⟩
  unfold Wd.fl
  rw [Wd.sx_mul (by unfold Wd.isInt; omega) (by unfold Wd.isInt; omega), Int.fdiv_eq_ediv_of_nonneg _ (by omega)]
theorem rbetween_any (n m d e : Int) (w : World) (hd : 0 ≤ d ∧ d ≤ 5368709120) (he : e < 0 ∧ -5368709121 ≤ e) (hn : -1073741824 ≤ n ∧ n ≤ 1073741824) (hm : -1073741824 ≤ m ∧ m ≤ 1073741824) :
    Calls Try.prog 25 #[.int .i64 n, .int .i64 m, .int .i64 d, .int .i64 e] w fun en w' => en = .returned (.int .i64 (Cl.btw n m d e)) ∧ Kp w.heap.size w w' := by
  have M1 := fun W => rmuldiv_any (m - n) d (d - e) W (by unfold Wd.isInt; omega) (by unfold Wd.isInt; omega) (by unfold Wd.isInt; omega) (by omega)
  obtain ⟨h1, h2⟩ := Cl.btw_fl hd he hn hm
  have h3 := Wd.gn_in (x := (m - n) * d) (b := d - e) (by rw [h1]; exact h2)
  rw [h3.1, h3.2, h1] at M1
  have HR : Hid (Cl.btw n m d e = n + (m - n) * d / (d - e)) := Lib.hid rfl
  obtain ⟨b1, b2⟩ := Cl.btw_int hd.1 he.1 hn hm
  generalize Cl.btw n m d e = r at *
  generalize (m - n) * d / (d - e) = q at *
  obtain ⟨d1, d2⟩ := hd
  obtain ⟨e1, e2⟩ := he
  obtain ⟨n1, n2⟩ := hn
  obtain ⟨m1, m2⟩ := hm
  have HO := Lib.hid (Ow.refl w)
  clear h1 h2 h3
  go_enter Try.func25, Try.ntmps25
  go_wp2_with (go_at_call 31; refine (M1 _).mono ?_; rintro en wz ⟨rfl, hk1⟩; have l2 := HO.out.call hk1; clear HO hk1; have HO := Lib.hid l2; clear l2)
  go_ret
  exact ⟨ret_int HR.out.symm, HO.out.k⟩
end Go.Proofs.Ytfhlnldiljldcaa
