/-
  Contracts of layer 4 (lex): what the document reads at a text's head.
-/
import Derived.Test.YtennmdpllclmiaaDoorLexFirst1
import Derived.Test.YtennmdpllclmiaaDoorLexFirst2
import Derived.Test.YtennmdpllclmiaaDoorLexFirst3
import Derived.Test.YtennmdpllclmiaaDoorLexFirst4
set_option linter.unusedVariables false
namespace Go.Proofs.YtennmdpllclmiaaDoor
open Go.RowKit
theorem first_any (s : ByteArray) (w : World) (h0 : 0 < s.size) (hs : s.size ≤ 1000000) :
    Calls Tryd.prog 22 #[.string s] w fun e w' => FP s.data.toList w e w' := by
  have hne : s.data.toList ≠ [] := by
    intro e
    have : s.size = 0 := by rw [← len_list, e]; rfl
    omega
  have hnz : ((s.size : Int) == 0) = false := by rw [beq_eq_false_iff_ne]; omega
  have hg : s.data.toList.getD 0 0 = s[0] := get_list s 0 h0
  have hc := (s[0]'h0).toNat_lt
  rcases (show (s[0]'h0).toNat < 192 ∨ (192 ≤ (s[0]'h0).toNat ∧ (s[0]'h0).toNat < 224) ∨ (224 ≤ (s[0]'h0).toNat ∧ (s[0]'h0).toNat < 240) ∨ 240 ≤ (s[0]'h0).toNat by omega) with g | ⟨g, g'⟩ | ⟨g, g'⟩ | g
  · refine first_1 s w h0 hs hnz (by omega) (by omega) (by omega) (Lib.hid ?_) (Lib.hid rfl) hne ?_
    · show Lx.c0 _ = _; rw [hg]; unfold Lx.c0; rw [if_neg (by omega), if_neg (by omega), if_neg (by omega)]
    · rw [hg]; unfold Lx.ln; rw [if_neg (by omega), if_neg (by omega), if_neg (by omega)]
  · refine first_2 s w h0 hs hnz (by omega) (by omega) (by omega) (Lib.hid ?_) (Lib.hid rfl) hne ?_
    · show Lx.c0 _ = _; rw [hg]; unfold Lx.c0; rw [if_neg (by omega), if_neg (by omega), if_pos (by omega)]
    · rw [hg]; unfold Lx.ln; rw [if_neg (by omega), if_neg (by omega), if_pos (by omega)]
  · refine first_3 s w h0 hs hnz (by omega) (by omega) (by omega) (Lib.hid ?_) (Lib.hid rfl) hne ?_
    · show Lx.c0 _ = _; rw [hg]; unfold Lx.c0; rw [if_neg (by omega), if_pos (by omega)]
    · rw [hg]; unfold Lx.ln; rw [if_neg (by omega), if_pos (by omega)]
  · refine first_4 s w h0 hs hnz (by omega) (by omega) (by omega) (Lib.hid ?_) (Lib.hid rfl) hne ?_
    · show Lx.c0 _ = _; rw [hg]; unfold Lx.c0; rw [if_pos (by omega)]
    · rw [hg]; unfold Lx.ln; rw [if_pos (by omega)]
end Go.Proofs.YtennmdpllclmiaaDoor
