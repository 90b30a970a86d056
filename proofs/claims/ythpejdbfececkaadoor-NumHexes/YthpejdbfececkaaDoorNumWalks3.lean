/-
  Contracts of layer 3 (num), digits of a base of 16: reading.
-/
import Derived.Test.YthpejdbfececkaaDoorNumWalks2
import Derived.Test.YthpejdbfececkaaDoorNumPlain3
import Derived.Lib.ConvBytes
namespace Go.Proofs.YthpejdbfececkaaDoor
open Go.RowKit

/-- reading ends so -/
def HU (l : List UInt8) (w : World) (e : Ending) (w' : World) : Prop := (∃ y, Nm.unhex l = some y ∧ e = .returned (.tuple #[.int .i64 y, .int .i64 0]) ∧ w' = w) ∨ (Nm.unhex l = none ∧ e = .returned (.tuple #[.int .i64 0, .int .i64 6]) ∧ w' = w)
/-- the document's reading ends so -/
def HR (l : List UInt8) (w : World) (e : Ending) (w' : World) : Prop := (∃ y, Nm.unhex l = some y ∧ e = .returned (.tuple #[.int .i64 y, .bool true]) ∧ w' = w) ∨ (Nm.unhex l = none ∧ e = .returned (.tuple #[.int .i64 0, .bool false]) ∧ w' = w)

set_option maxHeartbeats 400000 in
theorem unhex_any (s : ByteArray) (w : World) (hs : s.size ≤ 1000) :
    Calls Tryd.prog 11 #[.string s] w fun e w' => HU s.data.toList w e w' := by
  by_cases hlen : s.size < 1 ∨ 15 < s.size
  · have HU := Lib.hid (Nm.unhex_long s.data.toList (by rw [len_list]; exact hlen))
    rcases hlen with h0 | h0
    · have t1 : (s.size : Int) < 1 := by omega
      go_enter Tryd.func11, Tryd.ntmps11
      go_wp2
      go_ret2
      exact .inr ⟨HU.out, rfl, rfl⟩
    · have t1 : 1 ≤ (s.size : Int) := by omega
      go_enter Tryd.func11, Tryd.ntmps11
      go_wp2
      go_ret2
      exact .inr ⟨HU.out, rfl, rfl⟩
  · have h1 : 1 ≤ s.size := by omega
    have h2 : s.size ≤ 15 := by omega
    clear hlen
    go_enter Tryd.func11, Tryd.ntmps11
    go_wp2
    go_loop [4, 17] (fun n i => ∃ k : Nat, k ≤ s.size ∧ i = .int .i64 k ∧ ∃ N : Int, n = .int .i64 N ∧ Nm.Hr s.data.toList k N) (fun _ i => s.size - (intOf i).toNat)
    case atStart => exact ⟨0, Nat.zero_le _, rfl, 0, rfl, Nm.Hr.start _⟩
    case round =>
      obtain ⟨k, hk, rfl, N, rfl, hR⟩ := hrel
      have hN0 := hR.bd0
      by_cases hlt : k < s.size
      · have hlt' : k < s.data.toList.length := by rw [len_list]; exact hlt
        have hN1 := hR.small (by omega)
        have hc := s[k].toNat_lt
        have hb := Nm.hv_bd s.data.toList[k]
        have hx := Nm.hv_index s.data.toList[k]
        have e1 : ((s[k].toNat : Int)).toNat.toUInt8 = s.data.toList[k] := by rw [Int.toNat_natCast, get_list]; exact UInt8.ofNat_toNat
        go_wp2_with fail
        refine (Tryd.strings_IndexByte _ _ _).mono ?_
        rintro e w1 ⟨rfl, rfl⟩
        have e2 : Lib.indexByte (⟨#[48, 49, 50, 51, 52, 53, 54, 55, 56, 57, 97, 98, 99, 100, 101, 102]⟩ : ByteArray).data.toList ((s[k].toNat : Int)).toNat.toUInt8 = Nm.hv s.data.toList[k] := by rw [e1]; exact hx
        rw [e2]
        have HC : Hid (Nm.hv s.data.toList[k] = Nm.hv s.data.toList[k]) := Lib.hid rfl
        clear e1 e2 hx hc
        generalize hd : Nm.hv s.data.toList[k] = d at *
        have HD := Lib.hid hd
        clear hd HC
        by_cases hc0 : d < 0
        · have HU := Lib.hid (hR.bad hlt' (by rw [HD.out]; exact hc0))
          go_wp2
          go_ret2
          exact .inr ⟨HU.out, rfl, rfl⟩
        · have hc1 : 0 ≤ d := by omega
          have W1 := Nm.or_dig N d hN0 hN1 hc1 (by omega)
          have HN := Lib.hid (hR.step (M := N * 16 + d) hlt' (by rw [HD.out]; exact hc1) (by rw [HD.out]))
          clear hR
          go_wp2
          go_round
          case rel => exact ⟨k + 1, by omega, by go_num, _, rfl, HN.out⟩
          case measure => simp [intOf]; omega
      · have ek : k = s.size := by omega
        subst ek
        have HR : Nm.Hr s.data.toList s.data.toList.length N := by rw [len_list]; exact hR
        have HF := Lib.hid (HR.fin (by rw [len_list]; exact h1) (by rw [len_list]; exact h2))
        clear hR HR
        go_wp2
        go_ret2
        exact .inl ⟨N, HF.out, rfl, rfl⟩

set_option maxHeartbeats 400000 in
theorem runhex_any (s : ByteArray) (w : World) (hs : s.size ≤ 1000) :
    Calls Tryd.prog 12 #[.string s] w fun e w' => HR s.data.toList w e w' := by
  by_cases hlen : s.size < 1 ∨ 15 < s.size
  · have HU := Lib.hid (Nm.unhex_long s.data.toList (by rw [len_list]; exact hlen))
    rcases hlen with h0 | h0
    · have t1 : (s.size : Int) < 1 := by omega
      go_enter Tryd.func12, Tryd.ntmps12
      go_wp2
      go_ret2
      exact .inr ⟨HU.out, rfl, rfl⟩
    · have t1 : 1 ≤ (s.size : Int) := by omega
      go_enter Tryd.func12, Tryd.ntmps12
      go_wp2
      go_ret2
      exact .inr ⟨HU.out, rfl, rfl⟩
  · have h1 : 1 ≤ s.size := by omega
    have h2 : s.size ≤ 15 := by omega
    clear hlen
    go_enter Tryd.func12, Tryd.ntmps12
    go_wp2
    go_loop [4, 5] (fun n i => ∃ k : Nat, k ≤ s.size ∧ i = .int .i64 k ∧ ∃ N : Int, n = .int .i64 N ∧ Nm.Hr s.data.toList k N) (fun _ i => s.size - (intOf i).toNat)
    case atStart => exact ⟨0, Nat.zero_le _, rfl, 0, rfl, Nm.Hr.start _⟩
    case round =>
      obtain ⟨k, hk, rfl, N, rfl, hR⟩ := hrel
      have hN0 := hR.bd0
      by_cases hlt : k < s.size
      · have hlt' : k < s.data.toList.length := by rw [len_list]; exact hlt
        have hN1 := hR.small (by omega)
        have hc := s[k].toNat_lt
        have ed : Nm.hv s.data.toList[k] = Nm.hv s[k] := by rw [get_list s k hlt]
        unfold Nm.hv at ed
        rw [← Nm.hv] at ed
        by_cases d1 : 48 ≤ s[k].toNat ∧ s[k].toNat ≤ 57
        · rw [if_pos d1] at ed
          have HN := Lib.hid (hR.step (M := N * 16 + s[k].toNat - 48) hlt' (by rw [ed]; omega) (by rw [ed]; omega))
          have c1 : 48 ≤ (s[k].toNat : Int) := by omega
          have c2 : (s[k].toNat : Int) ≤ 57 := by omega
          clear hR ed d1 hc
          go_wp2
          go_round
          case rel => exact ⟨k + 1, by omega, by go_num, _, rfl, HN.out⟩
          case measure => simp [intOf]; omega
        · rw [if_neg d1] at ed
          by_cases d2 : 97 ≤ s[k].toNat ∧ s[k].toNat ≤ 102
          · rw [if_pos d2] at ed
            have HN := Lib.hid (hR.step (M := N * 16 + s[k].toNat - 87) hlt' (by rw [ed]; omega) (by rw [ed]; omega))
            have c1 : 97 ≤ (s[k].toNat : Int) := by omega
            have c2 : (s[k].toNat : Int) ≤ 102 := by omega
            clear hR ed d1 d2 hc
            go_wp2
            go_round
            case rel => exact ⟨k + 1, by omega, by go_num, _, rfl, HN.out⟩
            case measure => simp [intOf]; omega
          · rw [if_neg d2] at ed
            have HU := Lib.hid (hR.bad hlt' (by rw [ed]; omega))
            rcases (show (s[k].toNat : Int) < 48 ∨ (57 < (s[k].toNat : Int) ∧ (s[k].toNat : Int) < 97) ∨ 102 < (s[k].toNat : Int) by omega) with c1 | ⟨c1, c2⟩ | c1
            · clear hR ed d1 d2 hc
              go_wp2
              go_ret2
              exact .inr ⟨HU.out, rfl, rfl⟩
            · have c0 : 48 ≤ (s[k].toNat : Int) := by omega
              have c3 : ¬ 97 ≤ (s[k].toNat : Int) := by omega
              have c4 : (s[k].toNat : Int) ≤ 102 := by omega
              clear hR ed d1 d2 hc
              go_wp2
              go_ret2
              exact .inr ⟨HU.out, rfl, rfl⟩
            · have c0 : 48 ≤ (s[k].toNat : Int) := by omega
              have c2 : 57 < (s[k].toNat : Int) := by omega
              have c3 : 97 ≤ (s[k].toNat : Int) := by omega
              have c4 : (s[k].toNat : Int) ≤ 255 := by omega
              clear hR ed d1 d2 hc
              go_wp2
              go_ret2
              exact .inr ⟨HU.out, rfl, rfl⟩
      · have ek : k = s.size := by omega
        subst ek
        have HR : Nm.Hr s.data.toList s.data.toList.length N := by rw [len_list]; exact hR
        have HF := Lib.hid (HR.fin (by rw [len_list]; exact h1) (by rw [len_list]; exact h2))
        clear hR HR
        go_wp2
        go_ret2
        exact .inl ⟨N, HF.out, rfl, rfl⟩

theorem pow2_le (k m : Nat) (h : k ≤ m) : (2 : Int) ^ k ≤ 2 ^ m := by
  have := Nat.pow_le_pow_right (n := 2) (by decide) h
  exact_mod_cast this
theorem ret_int {k : IntKind} {a b : Int} (h : a = b) : Ending.returned (.int k a) = .returned (.int k b) := by rw [h]
set_option maxHeartbeats 400000 in
theorem power_any (n : Int) (w : World) (h1 : 0 ≤ n) (h2 : n ≤ 62) :
    Calls Tryd.prog 13 #[.int .i64 n] w fun e w' => e = .returned (.int .i64 (2 ^ n.toNat)) ∧ w' = w := by
  go_enter Tryd.func13, Tryd.ntmps13
  go_wp2
  go_loop [3, 4] (fun p i => ∃ k : Nat, (k : Int) ≤ n ∧ i = .int .i64 k ∧ p = .int .i64 (2 ^ k)) (fun _ i => n.toNat - (intOf i).toNat)
  case atStart => exact ⟨0, by omega, rfl, rfl⟩
  case round =>
    obtain ⟨k, hk, rfl, rfl⟩ := hrel
    by_cases hlt : (k : Int) < n
    · have hb1 : (0 : Int) < 2 ^ k := Int.pow_pos (by omega)
      have hb2 : (2 : Int) ^ k ≤ 2 ^ 61 := pow2_le k 61 (by omega)
      have hb3 : (2 : Int) ^ k ≤ 2305843009213693952 := hb2
      clear hb2
      go_wp2
      go_round
      case rel => exact ⟨k + 1, by omega, by go_num, by rw [Int.pow_succ]; go_num⟩
      case measure => simp [intOf]; omega
    · go_wp2
      go_ret
      exact ⟨ret_int (by rw [show n.toNat = k by omega]), rfl⟩

theorem hd_big (d : Int) (h0 : 9 < d) (h1 : d < 16) : UInt8.ofNat (87 + d).toNat = Nm.hd d.toNat := by
  unfold Nm.hd
  rw [if_neg (by omega)]
  congr 1
  omega
theorem hd_small (d : Int) (h0 : 0 ≤ d) (h1 : d ≤ 9) : UInt8.ofNat (48 + d).toNat = Nm.hd d.toNat := by
  unfold Nm.hd
  rw [if_pos (by omega)]
  congr 1
  omega
set_option maxHeartbeats 400000 in
theorem rhex_any (k : Nat) (N : Int) (w : World) (h0 : 0 ≤ N) (h1 : N ≤ 9223372036854775807) (hk : k ≤ 15) :
    Calls Tryd.prog 14 #[.int .i64 N, .int .i64 k] w fun e w' => e = .returned (.string ⟨(Nm.hx N.toNat k).toArray⟩) ∧ Bl w w' := by
  induction k generalizing N w with
  | zero =>
    go_enter Tryd.func14, Tryd.ntmps14
    go_wp2
    go_ret
    exact ⟨rfl, Bl.refl _⟩
  | succ k ih =>
    have b0 : 0 ≤ N % 16 := by omega
    have b1 : N % 16 < 16 := by omega
    have b2 : 0 ≤ N / 16 := by omega
    have b3 : N / 16 ≤ 576460752303423487 := by omega
    have e1 : N.toNat / 16 = (N / 16).toNat := by omega
    have e2 : N.toNat % 16 = (N % 16).toNat := by omega
    by_cases hd : 9 < N % 16
    · have HE : Hid (Nm.hx N.toNat (k + 1) = Nm.hx (N / 16).toNat k ++ [UInt8.ofNat (87 + N % 16).toNat]) := Lib.hid (by rw [Nm.hx_last, e1, e2, hd_big _ hd b1])
      clear e1 e2
      have ih' : ∀ W, Calls Tryd.prog 14 #[.int .i64 (N / 16), .int .i64 k] W fun e w' => ∃ S : ByteArray, e = .returned (.string S) ∧ Hid (S = ⟨(Nm.hx (N / 16).toNat k).toArray⟩) ∧ (S.size : Int) ≤ 100 ∧ Bl W w' := fun W => by
        refine (ih (N / 16) W (by omega) (by omega) (by omega)).mono ?_
        rintro e w1 ⟨rfl, hk⟩
        have := Nm.hx_len (N / 16).toNat k
        exact ⟨_, rfl, Lib.hid rfl, by show (((Nm.hx (N / 16).toNat k).toArray.size : Nat) : Int) ≤ 100; rw [List.size_toArray]; omega, hk⟩
      clear ih
      have c1 := conv1_new
      have c2 := conv1_drew
      go_enter Tryd.func14, Tryd.ntmps14
      go_wp2_with fail
      have Wd : N.tdiv 16 = N / 16 := Int.tdiv_eq_ediv_of_nonneg (by omega)
      have W0 : IntKind.i64.wrap (N / 16) = N / 16 := IntWalk.i64_in _ (by omega)
      have W1 : IntKind.i64.wrap ((k : Int) + 1 - 1) = k := by rw [IntWalk.i64_in _ (by omega)]; omega
      have W2 : IntKind.i64.wrap (k : Int) = k := IntWalk.i64_in _ (by omega)
      go_region_with (first
        | (go_at_call 14; (with_reducible refine (ih' _).mono ?_); rintro e w1 ⟨S, rfl, HS, hsz, hk⟩; (try have cB := conv1_next hk); have HK := Lib.hid hk; clear hk))
      all_goals
        go_wp2_with fail
        go_ret
        exact ⟨ret_app HS.out HE.out, by first | exact bl_after HK.out _ | exact bl_ahead HK.out⟩
    · have HE : Hid (Nm.hx N.toNat (k + 1) = Nm.hx (N / 16).toNat k ++ [UInt8.ofNat (48 + N % 16).toNat]) := Lib.hid (by rw [Nm.hx_last, e1, e2, hd_small _ b0 (by omega)])
      have hd' : N % 16 ≤ 9 := by omega
      clear e1 e2
      have ih' : ∀ W, Calls Tryd.prog 14 #[.int .i64 (N / 16), .int .i64 k] W fun e w' => ∃ S : ByteArray, e = .returned (.string S) ∧ Hid (S = ⟨(Nm.hx (N / 16).toNat k).toArray⟩) ∧ (S.size : Int) ≤ 100 ∧ Bl W w' := fun W => by
        refine (ih (N / 16) W (by omega) (by omega) (by omega)).mono ?_
        rintro e w1 ⟨rfl, hk⟩
        have := Nm.hx_len (N / 16).toNat k
        exact ⟨_, rfl, Lib.hid rfl, by show (((Nm.hx (N / 16).toNat k).toArray.size : Nat) : Int) ≤ 100; rw [List.size_toArray]; omega, hk⟩
      clear ih
      have c1 := conv1_new
      have c2 := conv1_drew
      go_enter Tryd.func14, Tryd.ntmps14
      go_wp2_with fail
      have Wd : N.tdiv 16 = N / 16 := Int.tdiv_eq_ediv_of_nonneg (by omega)
      have W0 : IntKind.i64.wrap (N / 16) = N / 16 := IntWalk.i64_in _ (by omega)
      have W1 : IntKind.i64.wrap ((k : Int) + 1 - 1) = k := by rw [IntWalk.i64_in _ (by omega)]; omega
      have W2 : IntKind.i64.wrap (k : Int) = k := IntWalk.i64_in _ (by omega)
      go_region_with (first
        | (go_at_call 14; (with_reducible refine (ih' _).mono ?_); rintro e w1 ⟨S, rfl, HS, hsz, hk⟩; (try have cB := conv1_next hk); have HK := Lib.hid hk; clear hk))
      all_goals
        go_wp2_with fail
        go_ret
        exact ⟨ret_app HS.out HE.out, by first | exact bl_after HK.out _ | exact bl_ahead HK.out⟩
end Go.Proofs.YthpejdbfececkaaDoor
