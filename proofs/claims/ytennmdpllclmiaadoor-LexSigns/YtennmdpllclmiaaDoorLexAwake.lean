/-
  What must come at any rate comes.
-/
import Derived.Test.YtennmdpllclmiaaDoorLexLine
import Derived.Test.YtennmdpllclmiaaDoorLexName
namespace Go.Proofs.YtennmdpllclmiaaDoor
open Go.RowKit

theorem aw1 : Lx.lwords (⟨#[100, 114, 97, 119, 32, 97, 32, 98]⟩ : ByteArray).data.toList = some [[100, 114, 97, 119], [97], [98]] := by decide +kernel
theorem aw2 : Lx.lwords (⟨#[32, 32]⟩ : ByteArray).data.toList = none := by decide +kernel
theorem aw3 : Lx.name (⟨#[120, 45, 49]⟩ : ByteArray).data.toList = true := by decide +kernel
theorem aw4 : Lx.name (⟨#[49, 120]⟩ : ByteArray).data.toList = false := by decide +kernel
theorem three {xs : List ByteArray} (h : some [[100, 114, 97, 119], [97], [98]] = some (bs xs)) : ∃ y z, xs = [⟨#[100, 114, 97, 119]⟩, y, z] := by
  have h := Option.some.inj h
  match xs, h with
  | [], h => simp [bs] at h
  | [a], h => simp [bs] at h
  | [a, b], h => simp [bs] at h
  | [a, b, c], h =>
    simp only [bs, List.map_cons, List.map_nil, List.cons.injEq] at h
    refine ⟨b, c, ?_⟩
    congr 1
    apply ByteArray.ext
    exact Array.toList_inj.1 h.1.symm
  | a :: b :: c :: d :: r, h => simp [bs] at h

theorem name1 (w : World) (hV : Vs w) : Calls Tryd.prog 20 #[.string ⟨#[120, 45, 49]⟩] w fun e w' => e = .returned (.bool true) ∧ Bl w w' := by
  have h := name_any ⟨#[120, 45, 49]⟩ w (by decide) hV
  rwa [aw3] at h
theorem name2 (w : World) (hV : Vs w) : Calls Tryd.prog 20 #[.string ⟨#[49, 120]⟩] w fun e w' => e = .returned (.bool false) ∧ Bl w w' := by
  have h := name_any ⟨#[49, 120]⟩ w (by decide) hV
  rwa [aw4] at h
theorem words1 (w : World) (hV : Vs w) : Calls Tryd.prog 15 #[.string ⟨#[100, 114, 97, 119, 32, 97, 32, 98]⟩] w fun e w' => ∃ b o c, e = .returned (.tuple #[.slice (some ⟨b, o, none⟩) 3 c, .int .i64 0]) ∧ 3 ≤ c ∧ b < w'.heap.size ∧ w'.cell? ⟨b, o, none⟩ = some (.string ⟨#[100, 114, 97, 119]⟩) ∧ Bl w w' := by
  refine (words_any ⟨#[100, 114, 97, 119, 32, 97, 32, 98]⟩ w (by decide) hV).mono ?_
  rintro e w' (⟨u, xs, h, rfl, hu, -, hk⟩ | ⟨h, -, -⟩)
  · rw [aw1] at h
    obtain ⟨y, z, rfl⟩ := three h
    obtain ⟨a, c, rfl, hac, hcell⟩ := hu
    obtain ⟨b, o, rfl, hb, hc⟩ := hcell 0 _ rfl
    exact ⟨b, o, c, rfl, hac, hb, hc, hk⟩
  · rw [aw1] at h
    cases h
theorem words2 (w : World) (hV : Vs w) : Calls Tryd.prog 15 #[.string ⟨#[32, 32]⟩] w fun e w' => e = .returned (.tuple #[.slice none 0 0, .int .i64 13]) ∧ Bl w w' := by
  refine (words_any ⟨#[32, 32]⟩ w (by decide) hV).mono ?_
  rintro e w' (⟨u, xs, h, -, -, -, -⟩ | ⟨-, rfl, hk⟩)
  · rw [aw2] at h
    cases h
  · exact ⟨rfl, hk⟩

set_option maxHeartbeats 1000000 in
theorem awake_any (w : World) (hV : Vs w) :
    Calls Tryd.prog 6 #[] w fun e w' => e = .returned (.bool true) ∧ Bl w w' := by
  go_enter Tryd.func6, Tryd.ntmps6
  go_wp2_with fail
  refine (words1 w hV).mono ?_
  rintro e w1 ⟨b, o, c, rfl, hc3, hb, hcell, hk⟩
  have hV1 := hV.next hk
  have HK1 := Lib.hid hk
  have HC := Lib.hid hcell
  clear hk hV hcell
  go_wp2_with fail
  refine (words2 w1 hV1).mono ?_
  rintro e w2 ⟨rfl, hk⟩
  have hV2 := hV1.next hk
  have HK2 := Lib.hid (HK1.out.next hk)
  have hcell2 : w2.cell? ⟨b, o, none⟩ = some (.string ⟨#[100, 114, 97, 119]⟩) := (hk.cell (p := ⟨b, o, none⟩) hb).trans HC.out
  clear hk hV1 HK1 HC
  go_wp2_with fail
  refine (name1 w2 hV2).mono ?_
  rintro e w3 ⟨rfl, hk⟩
  have hV3 := hV2.next hk
  have HK3 := Lib.hid (HK2.out.next hk)
  clear hk hV2 HK2 hcell2
  go_wp2_with fail
  refine (name2 w3 hV3).mono ?_
  rintro e w4 ⟨rfl, hk⟩
  have HK4 := Lib.hid (HK3.out.next hk)
  clear hk hV3 HK3
  go_wp2
  go_ret
  exact ⟨rfl, HK4.out⟩
end Go.Proofs.YtennmdpllclmiaaDoor
