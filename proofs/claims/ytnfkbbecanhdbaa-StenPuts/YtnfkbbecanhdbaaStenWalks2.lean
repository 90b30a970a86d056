/-
  Contracts of layer 9 (sten): Plain, the deeds of a stencil test, Deed, Check; the document's Check.
-/
import Derived.Test.YtnfkbbecanhdbaaStenWalks
namespace Go.Proofs.Ytnfkbbecanhdbaa
open Go.RowKit

theorem ty_sten : Ty 23 7 := ⟨by kernel_rfl, _, Try.underlying23, rfl⟩
theorem ty_three : Ty 41 3 := ⟨by kernel_rfl, _, Try.underlying41, rfl⟩
/-- a stencil test by its cells -/
def Sn.row (fn ref rd wr f z p : Int) : List Value := [.int .i64 fn, .int .i64 ref, .int .i64 rd, .int .i64 wr, .int .i64 f, .int .i64 z, .int .i64 p]

theorem plain_any (w : World) :
    Calls Try.prog 22 #[] w fun o w' => o = .returned (.agg #[.int .i64 7, .int .i64 0, .int .i64 255, .int .i64 255, .int .i64 0, .int .i64 0, .int .i64 0]) ∧ Kp w.heap.size w w' := by
  go_enter Try.func22, Try.ntmps22
  go_wp2
  exact bodyPost_ret (results_c ty_sten rfl rfl rfl (Rc.new w [.int .i64 _, .int .i64 _, .int .i64 _, .int .i64 _, .int .i64 _, .int .i64 _, .int .i64 _] _ rfl)) rfl ⟨rfl, Kp.new _ _ _⟩
theorem deedsOf_any (fn ref rd wr f z p : Int) (w : World) :
    Calls Try.prog 20 #[.agg #[.int .i64 fn, .int .i64 ref, .int .i64 rd, .int .i64 wr, .int .i64 f, .int .i64 z, .int .i64 p]] w fun e w' => e = .returned (.agg #[.int .i64 f, .int .i64 z, .int .i64 p]) ∧ Kp w.heap.size w w' := by
  go_enter Try.func20, Try.ntmps20
  go_wp2
  exact bodyPost_ret (results_c ty_three rfl rfl rfl (Rc.new _ [.int .i64 f, .int .i64 z, .int .i64 p] _ (by simp))) rfl ⟨rfl, (Kp.new _ _ _).next (Kp.new _ _ _)⟩

theorem deed_no1 (k old ref : Int) (w : World) (hk : Dp.is k = false) :
    Calls Try.prog 15 #[.int .i64 k, .int .i64 old, .int .i64 ref] w fun e w' => e = .returned (.tuple #[.int .i64 0, .int .i64 9]) ∧ w = w' := by
  go_enter Try.func15, Try.ntmps15
  go_wp2_with (first
    | go_skip
    | (go_at_call 21; refine (isDeed_any k _).mono ?_; rintro e w' ⟨rfl, rfl⟩)
    | (go_at_call 17; (with_reducible refine (isSten_any old _).mono ?_); rintro e w' ⟨rfl, rfl⟩)
    | (go_at_call 17; (with_reducible refine (isSten_any ref _).mono ?_); rintro e w' ⟨rfl, rfl⟩)
    | (go_at_call 24; refine (made_any k old ref _ hk ho hr).mono ?_; rintro e w' ⟨rfl, rfl⟩))
  go_ret2
  exact ⟨rfl, rfl⟩
theorem deed_no2 (k old ref : Int) (w : World) (hk : Dp.is k = true) (ho : Sn.is old = false) :
    Calls Try.prog 15 #[.int .i64 k, .int .i64 old, .int .i64 ref] w fun e w' => e = .returned (.tuple #[.int .i64 0, .int .i64 3]) ∧ w = w' := by
  go_enter Try.func15, Try.ntmps15
  go_wp2_with (first
    | go_skip
    | (go_at_call 21; refine (isDeed_any k _).mono ?_; rintro e w' ⟨rfl, rfl⟩)
    | (go_at_call 17; (with_reducible refine (isSten_any old _).mono ?_); rintro e w' ⟨rfl, rfl⟩)
    | (go_at_call 17; (with_reducible refine (isSten_any ref _).mono ?_); rintro e w' ⟨rfl, rfl⟩)
    | (go_at_call 24; refine (made_any k old ref _ hk ho hr).mono ?_; rintro e w' ⟨rfl, rfl⟩))
  go_ret2
  exact ⟨rfl, rfl⟩
theorem deed_no3 (k old ref : Int) (w : World) (hk : Dp.is k = true) (ho : Sn.is old = true) (hr : Sn.is ref = false) :
    Calls Try.prog 15 #[.int .i64 k, .int .i64 old, .int .i64 ref] w fun e w' => e = .returned (.tuple #[.int .i64 0, .int .i64 3]) ∧ w = w' := by
  go_enter Try.func15, Try.ntmps15
  go_wp2_with (first
    | go_skip
    | (go_at_call 21; refine (isDeed_any k _).mono ?_; rintro e w' ⟨rfl, rfl⟩)
    | (go_at_call 17; (with_reducible refine (isSten_any old _).mono ?_); rintro e w' ⟨rfl, rfl⟩)
    | (go_at_call 17; (with_reducible refine (isSten_any ref _).mono ?_); rintro e w' ⟨rfl, rfl⟩)
    | (go_at_call 24; refine (made_any k old ref _ hk ho hr).mono ?_; rintro e w' ⟨rfl, rfl⟩))
  go_ret2
  exact ⟨rfl, rfl⟩
theorem deed_yes (k old ref : Int) (w : World) (hk : Dp.is k = true) (ho : Sn.is old = true) (hr : Sn.is ref = true) :
    Calls Try.prog 15 #[.int .i64 k, .int .i64 old, .int .i64 ref] w fun e w' => e = .returned (.tuple #[.int .i64 (Sn.made k old ref), .int .i64 0]) ∧ w = w' := by
  go_enter Try.func15, Try.ntmps15
  go_wp2_with (first
    | go_skip
    | (go_at_call 21; refine (isDeed_any k _).mono ?_; rintro e w' ⟨rfl, rfl⟩)
    | (go_at_call 17; (with_reducible refine (isSten_any old _).mono ?_); rintro e w' ⟨rfl, rfl⟩)
    | (go_at_call 17; (with_reducible refine (isSten_any ref _).mono ?_); rintro e w' ⟨rfl, rfl⟩)
    | (go_at_call 24; refine (made_any k old ref _ hk ho hr).mono ?_; rintro e w' ⟨rfl, rfl⟩))
  go_ret2
  exact ⟨rfl, rfl⟩

theorem index_three (f z p : Int) (k : Nat) (hk : k < 3) (w : World) : (Instr.index 41 (.agg #[.int .i64 f, .int .i64 z, .int .i64 p]) (.int .i64 k)).run Try.prog w = .ok (.int .i64 (Sn.deed f z p k)) w := by
  rcases k with _ | _ | _ | k
  all_goals first | omega | kernel_rfl
theorem Sn.chk_deed {fn ref rd wr f z p : Int} {k : Nat} (hk : k < 3) (h : Dp.is (Sn.deed f z p k) = false) : Sn.chk fn ref rd wr f z p = 9 := by
  rcases k with _ | _ | _ | k
  · simp only [Sn.deed] at h; simp [Sn.chk, h]
  · simp only [Sn.deed] at h; simp [Sn.chk, h]
  · simp only [Sn.deed] at h; simp [Sn.chk, h]
  · omega
def msr3 (i : Value) : Nat := 3 - (intOf i).toNat
/-- the deeds so far are some -/
def CI (f z p : Int) (i : Value) : Prop := ∃ k : Nat, k ≤ 3 ∧ i = .int .i64 k ∧ Hid (∀ j, j < k → Dp.is (Sn.deed f z p j) = true)
set_option maxHeartbeats 1000000 in
theorem check_any (fn ref rd wr f z p : Int) (w : World) :
    Calls Try.prog 8 #[.agg #[.int .i64 fn, .int .i64 ref, .int .i64 rd, .int .i64 wr, .int .i64 f, .int .i64 z, .int .i64 p]] w fun e w' => e = .returned (.int .i64 (Sn.chk fn ref rd wr f z p)) ∧ Kp w.heap.size w w' := by
  have HO := Lib.hid ((Ow.refl w).newAt w.heap.size rfl (.int .i64 fn) [.int .i64 ref, .int .i64 rd, .int .i64 wr, .int .i64 f, .int .i64 z, .int .i64 p] 23)
  cases h0 : Dp.is fn
  · have HC := Lib.hid (show Sn.chk fn ref rd wr f z p = 9 by simp [Sn.chk, h0])
    go_enter Try.func8, Try.ntmps8
    go_wp2_with (go_at_call 18; refine (passes_no fn 0 0 _ h0).mono ?_; rintro e w' ⟨rfl, rfl⟩)
    go_ret
    exact ⟨ret_int HC.out.symm, HO.out.k⟩
  · go_enter Try.func8, Try.ntmps8
    go_wp2_with (first
      | ((with_reducible show wpList _ _ _ ({ dst := _, op := Op.load 23 _, type := _, pos := _, after := _, guard := _ } :: _) _ _); refine wpList_ldr ty_sten rfl _ rfl _ rfl _ rfl (HO.out.at 0 rfl) ?_)
      | (go_at_call 18; refine (passes_yes fn 0 0 _ h0).mono ?_; rintro e w' ⟨rfl, rfl⟩)
      | (go_at_call 20; refine (deedsOf_any fn ref rd wr f z p _).mono ?_; rintro e w1 ⟨rfl, hk1⟩; have l2 := HO.out.call hk1; clear HO hk1; have HO := Lib.hid l2; clear l2))
    go_loop [18] (fun i => CI f z p i) (fun i => msr3 i)
    case atStart => exact ⟨0, by omega, rfl, Lib.hid fun j hj => by omega⟩
    case round =>
      obtain ⟨k, hk, rfl, HA⟩ := hrel
      by_cases hlt : k < 3
      · have hi := index_three f z p k hlt
        cases h1 : Dp.is (Sn.deed f z p k)
        · have HC := Lib.hid (Sn.chk_deed (fn := fn) (ref := ref) (rd := rd) (wr := wr) hlt h1)
          go_wp2_with (go_at_call 21; refine (isDeed_any _ _).mono ?_; rintro e w' ⟨rfl, rfl⟩)
          go_ret
          exact ⟨ret_int HC.out.symm, HO.out.k⟩
        · go_wp2_with (go_at_call 21; refine (isDeed_any _ _).mono ?_; rintro e w' ⟨rfl, rfl⟩)
          go_round
          case rel =>
            refine ⟨k + 1, by omega, by go_num, Lib.hid fun j hj => ?_⟩
            by_cases e : j = k
            · subst e; exact h1
            · exact HA.out j (by omega)
          case measure => simp [msr3, intOf]; omega
      · obtain rfl : k = 3 := by omega
        have d0 : Dp.is f = true := HA.out 0 (by omega)
        have d1 : Dp.is z = true := HA.out 1 (by omega)
        have d2 : Dp.is p = true := HA.out 2 (by omega)
        have c1 := (HO.out.at 0 rfl).cell 1 rfl
        have c2 := (HO.out.at 0 rfl).cell 2 rfl
        have c3 := (HO.out.at 0 rfl).cell 3 rfl
        cases s1 : Sn.is ref
        · have HC := Lib.hid (show Sn.chk fn ref rd wr f z p = 3 by simp [Sn.chk, h0, d0, d1, d2, s1])
          go_wp2_with (first | go_skip | (go_at_call 17; refine (isSten_any _ _).mono ?_; rintro e w' ⟨rfl, rfl⟩))
          go_ret
          exact ⟨ret_int HC.out.symm, HO.out.k⟩
        cases s2 : Sn.is rd
        · have HC := Lib.hid (show Sn.chk fn ref rd wr f z p = 3 by simp [Sn.chk, h0, d0, d1, d2, s1, s2])
          go_wp2_with (first | go_skip | (go_at_call 17; refine (isSten_any _ _).mono ?_; rintro e w' ⟨rfl, rfl⟩))
          go_ret
          exact ⟨ret_int HC.out.symm, HO.out.k⟩
        cases s3 : Sn.is wr
        · have HC := Lib.hid (show Sn.chk fn ref rd wr f z p = 3 by simp [Sn.chk, h0, d0, d1, d2, s1, s2, s3])
          go_wp2_with (first | go_skip | (go_at_call 17; refine (isSten_any _ _).mono ?_; rintro e w' ⟨rfl, rfl⟩))
          go_ret
          exact ⟨ret_int HC.out.symm, HO.out.k⟩
        · have HC := Lib.hid (show Sn.chk fn ref rd wr f z p = 0 by simp [Sn.chk, h0, d0, d1, d2, s1, s2, s3])
          go_wp2_with (first | go_skip | (go_at_call 17; refine (isSten_any _ _).mono ?_; rintro e w' ⟨rfl, rfl⟩))
          go_ret
          exact ⟨ret_int HC.out.symm, HO.out.k⟩

set_option maxHeartbeats 1000000 in
theorem rcheck_any (fn ref rd wr f z p : Int) (w : World) :
    Calls Try.prog 7 #[.agg #[.int .i64 fn, .int .i64 ref, .int .i64 rd, .int .i64 wr, .int .i64 f, .int .i64 z, .int .i64 p]] w fun e w' => e = .returned (.int .i64 (Sn.chk fn ref rd wr f z p)) ∧ Kp w.heap.size w w' := by
  cases h0 : Dp.is fn
  · have HC := Lib.hid (show Sn.chk fn ref rd wr f z p = 9 by simp [Sn.chk, h0])
    go_enter Try.func7, Try.ntmps7
    go_wp2_with (first
      | go_skip
      | (go_at_call 19; refine (ris_any _ _).mono ?_; rintro e w' ⟨rfl, rfl⟩)
      | (go_at_call 10; refine (rsten_any _ _).mono ?_; rintro e w' ⟨rfl, rfl⟩))
    go_ret
    exact ⟨ret_int HC.out.symm, Kp.new _ _ _⟩
  cases h1 : Dp.is f
  · have HC := Lib.hid (show Sn.chk fn ref rd wr f z p = 9 by simp [Sn.chk, h1])
    go_enter Try.func7, Try.ntmps7
    go_wp2_with (first
      | go_skip
      | (go_at_call 19; refine (ris_any _ _).mono ?_; rintro e w' ⟨rfl, rfl⟩)
      | (go_at_call 10; refine (rsten_any _ _).mono ?_; rintro e w' ⟨rfl, rfl⟩))
    go_ret
    exact ⟨ret_int HC.out.symm, Kp.new _ _ _⟩
  cases h2 : Dp.is z
  · have HC := Lib.hid (show Sn.chk fn ref rd wr f z p = 9 by simp [Sn.chk, h2])
    go_enter Try.func7, Try.ntmps7
    go_wp2_with (first
      | go_skip
      | (go_at_call 19; refine (ris_any _ _).mono ?_; rintro e w' ⟨rfl, rfl⟩)
      | (go_at_call 10; refine (rsten_any _ _).mono ?_; rintro e w' ⟨rfl, rfl⟩))
    go_ret
    exact ⟨ret_int HC.out.symm, Kp.new _ _ _⟩
  cases h3 : Dp.is p
  · have HC := Lib.hid (show Sn.chk fn ref rd wr f z p = 9 by simp [Sn.chk, h3])
    go_enter Try.func7, Try.ntmps7
    go_wp2_with (first
      | go_skip
      | (go_at_call 19; refine (ris_any _ _).mono ?_; rintro e w' ⟨rfl, rfl⟩)
      | (go_at_call 10; refine (rsten_any _ _).mono ?_; rintro e w' ⟨rfl, rfl⟩))
    go_ret
    exact ⟨ret_int HC.out.symm, Kp.new _ _ _⟩
  cases s1 : Sn.is ref
  · have HC := Lib.hid (show Sn.chk fn ref rd wr f z p = 3 by simp [Sn.chk, h0, h1, h2, h3, s1])
    go_enter Try.func7, Try.ntmps7
    go_wp2_with (first
      | go_skip
      | (go_at_call 19; refine (ris_any _ _).mono ?_; rintro e w' ⟨rfl, rfl⟩)
      | (go_at_call 10; refine (rsten_any _ _).mono ?_; rintro e w' ⟨rfl, rfl⟩))
    go_ret
    exact ⟨ret_int HC.out.symm, Kp.new _ _ _⟩
  cases s2 : Sn.is rd
  · have HC := Lib.hid (show Sn.chk fn ref rd wr f z p = 3 by simp [Sn.chk, h0, h1, h2, h3, s1, s2])
    go_enter Try.func7, Try.ntmps7
    go_wp2_with (first
      | go_skip
      | (go_at_call 19; refine (ris_any _ _).mono ?_; rintro e w' ⟨rfl, rfl⟩)
      | (go_at_call 10; refine (rsten_any _ _).mono ?_; rintro e w' ⟨rfl, rfl⟩))
    go_ret
    exact ⟨ret_int HC.out.symm, Kp.new _ _ _⟩
  cases s3 : Sn.is wr
  · have HC := Lib.hid (show Sn.chk fn ref rd wr f z p = 3 by simp [Sn.chk, h0, h1, h2, h3, s1, s2, s3])
    go_enter Try.func7, Try.ntmps7
    go_wp2_with (first
      | go_skip
      | (go_at_call 19; refine (ris_any _ _).mono ?_; rintro e w' ⟨rfl, rfl⟩)
      | (go_at_call 10; refine (rsten_any _ _).mono ?_; rintro e w' ⟨rfl, rfl⟩))
    go_ret
    exact ⟨ret_int HC.out.symm, Kp.new _ _ _⟩
  · have HC := Lib.hid (show Sn.chk fn ref rd wr f z p = 0 by simp [Sn.chk, h0, h1, h2, h3, s1, s2, s3])
    go_enter Try.func7, Try.ntmps7
    go_wp2_with (first
      | go_skip
      | (go_at_call 19; refine (ris_any _ _).mono ?_; rintro e w' ⟨rfl, rfl⟩)
      | (go_at_call 10; refine (rsten_any _ _).mono ?_; rintro e w' ⟨rfl, rfl⟩))
    go_ret
    exact ⟨ret_int HC.out.symm, Kp.new _ _ _⟩
end Go.Proofs.Ytnfkbbecanhdbaa
