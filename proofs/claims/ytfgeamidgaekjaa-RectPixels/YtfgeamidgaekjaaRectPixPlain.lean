/-
  Plain facts of layer 10 (rect), further: the place of a pixel in its rectangle; no program in sight.
-/
import Derived.Test.YtfgeamidgaekjaaRectPlain
import Derived.Test.YtfgeamidgaekjaaMem2
namespace Go.Proofs.Ytfgeamidgaekjaa
open Go.RowKit

/-- the pixel of column c in row r comes as number r * w + c -/
theorem Rt.spot {w r c K : Int} (hr : 0 ≤ r) (hc : 0 ≤ c) (hw : c < w) (hK : K = r * w + c) : 0 ≤ K ∧ K % w = c ∧ K / w = r := by
  have h0 : 0 ≤ r * w := Int.mul_nonneg hr (by omega)
  refine ⟨by omega, ?_, ?_⟩
  · rw [hK, Int.add_comm, Int.add_mul_emod_self_right, Int.emod_eq_of_lt hc hw]
  · rw [hK, Int.add_comm, Int.add_mul_ediv_right _ _ (by omega), Int.ediv_eq_zero_of_lt hc hw, Int.zero_add]
/-- .. and comes among them -/
theorem Rt.among {w h r c K : Int} (hr : r < h) (hc : 0 ≤ c) (hw : c < w) (hK : K = r * w + c) : K < w * h := by
  have h1 : (r + 1) * w ≤ h * w := Int.mul_le_mul_of_nonneg_right (by omega) (by omega)
  rw [Int.add_mul, Int.one_mul, Int.mul_comm h w] at h1
  omega
theorem Rt.row_next {w r K : Int} (hK : K = r * w + w) : K = (r + 1) * w := by rw [Int.add_mul, Int.one_mul]; exact hK
theorem Rt.mn_eq {a b c : Int} (h : (c = a ∧ a ≤ b) ∨ (c = b ∧ b ≤ a)) : c = Rt.mn a b := by unfold Rt.mn; split <;> omega
theorem Rt.mx_one {a : Int} (h : 1 ≤ a) : Rt.mx a 1 = a := by unfold Rt.mx; split <;> omega
theorem Rt.wrap {n : Int} (h : -9223372036854775808 ≤ n ∧ n ≤ 9223372036854775807) : IntKind.i64.wrap n = n := by rw [IntKind.wrap_i64]; omega

/-- the blocks that the pixels' count reads and writes: is it right so far, how many, of how many, how wide, the rectangle, when to stop, the iterator's own rectangle -/
def Pb (bo bi bn bw br bs bp : Nat) (x0 y0 x1 y1 n ww stop K : Int) : List (Nat × List Value) :=
  [(bo, [.bool true]), (bi, [.int .i64 K]), (bn, [.int .i64 n]), (bw, [.int .i64 ww]), (br, [.int .i64 x0, .int .i64 y0, .int .i64 x1, .int .i64 y1]), (bs, [.int .u8 stop]), (bp, [.int .i64 x0, .int .i64 y0, .int .i64 x1, .int .i64 y1])]
theorem Ow.tail {w W : World} {q : Nat × List Value} {ms : List (Nat × List Value)} (h : Ow w W (q :: ms)) : Ow w W ms :=
  ⟨h.k, fun p hp => h.all p (List.mem_cons_of_mem _ hp), (List.pairwise_cons.1 h.nd).2⟩
end Go.Proofs.Ytfgeamidgaekjaa
