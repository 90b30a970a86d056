/-
  LexNames: its Go text returns true.
-/
import Derived.Test.YtennmdpllclmiaaDoorLexAwake
import Derived.Test.YtennmdpllclmiaaDoorLexName2
namespace Go.Proofs.YtennmdpllclmiaaDoor
open Go.RowKit

set_option maxHeartbeats 1000000 in
theorem lexNames_any (s : ByteArray) (w : World) (hm : s.size ≤ 9223372036854775807) (hV : Vs w) :
    Calls Tryd.prog 5 #[.string s] w fun e w' => e = .returned (.bool true) ∧ Bl w w' := by
  by_cases hs : 300 < s.size
  · go_enter Tryd.func5, Tryd.ntmps5
    go_wp2_with fail
    refine (awake_any _ hV).mono ?_
    rintro e w1 ⟨rfl, hk⟩
    have HK := Lib.hid hk
    clear hk hV
    go_wp2
    go_ret
    exact ⟨rfl, HK.out⟩
  · have hs' : s.size ≤ 300 := by omega
    have N1 := name_any s w (by omega) hV
    have N2 := fun W => rname_any s W (by omega)
    generalize Lx.name s.data.toList = B at N1 N2
    go_enter Tryd.func5, Tryd.ntmps5
    go_wp2_with fail
    refine N1.mono ?_
    rintro e w1 ⟨rfl, hk⟩
    have hV1 := hV.next hk
    have HK1 := Lib.hid hk
    clear hk hV N1
    go_wp2_with fail
    refine (N2 _).mono ?_
    rintro e w2 ⟨rfl, hk⟩
    have hV2 := hV1.next hk
    have HK2 := Lib.hid (HK1.out.next hk)
    clear hk hV1 HK1 N2
    go_wp2_with fail
    refine (awake_any _ hV2).mono ?_
    rintro e w3 ⟨rfl, hk⟩
    have HK3 := Lib.hid (HK2.out.next hk)
    clear hk hV2 HK2
    go_wp2
    go_ret
    exact ⟨rfl, HK3.out⟩
end Go.Proofs.YtennmdpllclmiaaDoor
