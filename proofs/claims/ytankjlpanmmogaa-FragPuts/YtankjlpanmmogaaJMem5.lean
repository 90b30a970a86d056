/-
  What stands in memory, further, of no layer: 'copy' into a block; one cell of a block in a region that draws its order; slices in later worlds.
-/
import Derived.Test.YtankjlpanmmogaaJFragPlain
import Derived.Laws.CopyOwn
import Derived.BigGuard
import Derived.Test.YtankjlpanmmogaaJVecPlain
import Derived.Test.YtankjlpanmmogaaJViewIs
namespace Go.Proofs.Ytankjlpanmmogaa
set_option maxRecDepth 100000
open Go.RowKit

/-- one operation, alone, in a region that draws its order -/
theorem wpAny_alone {ops : Array Oper} {listed : Array Bool} {fuel : Nat} {op : Oper} {a : Act} {w : World} {Q : Exit → Act → World → Prop} (z : Nat) (hr : Region.ready .any ops listed = [z]) (hz : ops[z]? = some op)
    (hgd : Region.wanted op (yielded ops a.tmps) = true) (h : ∀ K : Act → World → Prop, (∀ a' w', wpAny Try.prog .any ops Q fuel (listed.setIfInBounds z true) a' w' → K a' w') → op.wp Try.prog a w K Q) : wpAny Try.prog .any ops Q (fuel + 1) listed a w := by
  refine wpAny_ready hr (by simp) (AllReady.cons hz (fun K hK => ?_) AllReady.nil)
  rw [if_pos hgd]
  exact h K hK
/-- a slice, and its cells in every world in which what stood stands -/
theorem Sl.kept {w : World} {v : Value} {xs : List Value} (h : Sl w v xs) : ∃ a c, v = .slice a xs.length c ∧ xs.length ≤ c ∧
    ∀ wr, Kp w.heap.size w wr → ∀ j x, xs[j]? = some x → ∃ b o, a = some ⟨b, o, none⟩ ∧ wr.cell? ⟨b, o + j, none⟩ = some x := by
  obtain ⟨a, c, h1, h2, h3⟩ := h
  refine ⟨a, c, h1, h2, fun wr hk j x hj => ?_⟩
  obtain ⟨b, o, e1, e2, e3⟩ := h3 j x hj
  exact ⟨b, o, e1, (hk.below.cell (p := ⟨b, o + j, none⟩) e2).trans e3⟩
/-- the third block comes first -/
theorem Ow.third {w W : World} {x y z : Nat × List Value} {ms : List (Nat × List Value)} (h : Ow w W (x :: y :: z :: ms)) : Ow w W (z :: x :: y :: ms) :=
  h.perm ((List.Perm.cons x (List.Perm.swap z y ms)).trans (List.Perm.swap z x (y :: ms)))
theorem Ow.back {w W : World} {x y z : Nat × List Value} {ms : List (Nat × List Value)} (h : Ow w W (z :: x :: y :: ms)) : Ow w W (x :: y :: z :: ms) :=
  h.perm ((List.Perm.swap x z (y :: ms)).trans (List.Perm.cons x (List.Perm.swap y z ms)))
/-- 'copy' into a part of one of the call's own blocks: as many cells as there is room for -/
theorem wp_copy {o : Oper} {a : Act} {w0 w : World} {K : Act → World → Prop} {Q : Exit → Act → World → Prop} {ms : List (Nat × List Value)} (HO : Ow w0 w ms) (i : Nat) (d s : Operand) (dT sT : TypeId)
    (ho : o.op = .call { callee := .builtin .copy, args := #[d, s], argTypes := #[dT, sT] }) (elem : TypeId) (hu : Try.prog.underlying dT = some (.slice elem)) (hsz : (Try.prog.info? elem).map (·.size) = some 1)
    (b off n dCap : Nat) (hd : a.eval d = .slice (some ⟨b, off, none⟩) n dCap) (v : Value) (xs : List Value) (hs : a.eval s = v) (hS : Sl w v xs) (vs : List Value) (hi : ms[i]? = some (b, vs)) (hfit : off + n ≤ vs.length)
    (h1 : ∀ x ∈ xs, x.oneCell' = true) (h : ∀ (W : World) (k : Nat), Ow w0 W (ms.set i (b, setsAt vs off (xs.take n))) → K (a.put o.dst (goInt k)) W) : o.wp Try.prog a w K Q := by
  obtain ⟨ad, c, rfl, hle, hx⟩ := hS
  have hmin : (xs.take n).length = Nat.min xs.length n := by rw [List.length_take]; exact Nat.min_comm _ _
  have hlen : (xs.take n).length ≤ n := by rw [List.length_take]; exact Nat.min_le_left _ _
  rcases Nat.eq_zero_or_pos (xs.take n).length with h0 | h0
  · have hrun := run_copy_none (P := Try.prog) w dT sT o.type elem (some ⟨b, off, none⟩) ad n dCap xs.length c hu hsz (by omega)
    unfold Oper.wp
    simp [execOp, ho, resolve, invoke, builtin, hd, hs, hrun, Result.andThen]
    refine h w 0 ?_
    rw [List.length_eq_zero_iff.1 h0]
    have hn : i < ms.length := (List.getElem?_eq_some_iff.1 hi).1
    have he : ms[i] = (b, vs) := (List.getElem?_eq_some_iff.1 hi).2
    show Ow w0 w (ms.set i (b, vs))
    rw [← he, List.set_getElem_self]; exact HO
  · have hpos : 0 < xs.length := by rw [List.length_take] at h0; omega
    obtain ⟨b2, o2, rfl, _, _⟩ := hx 0 _ (List.getElem?_eq_getElem hpos)
    have hsrc : ∀ j x, (xs.take n)[j]? = some x → w.cell? ((⟨b2, o2, none⟩ : Addr).add j) = some x := fun j x hj => by
      obtain ⟨b3, o3, e1, _, e3⟩ := hx j x (by
        rw [List.getElem?_take] at hj
        split at hj
        · exact hj
        · cases hj)
      cases e1
      rw [show (⟨b2, o2, none⟩ : Addr).add j = ⟨b2, o2 + j, none⟩ by simp [Addr.add]]
      exact e3
    have hth := (HO.at i hi).thereM (o := off) (n := (xs.take n).length) (by omega)
    have hrun := run_copy_cells (P := Try.prog) w dT sT o.type elem b off n dCap ⟨b2, o2, none⟩ xs.length c (xs.take n) hu hsz hmin hsrc (fun j hj => (hth j hj).1) (fun j hj => (hth j hj).2) (fun x hx => h1 x (List.mem_of_mem_take hx))
    unfold Oper.wp
    simp [execOp, ho, resolve, invoke, builtin, hd, hs, hrun, Result.andThen]
    exact h _ _ (HO.putM i hi off (xs.take n) (by omega))
/-- one cell of a block of the region's own is written -/
theorem Rg2.puts_cell {ops : Array Oper} {w : World} {ms s : List (Nat × List Value)} {o : Oper} {a : Act} (i : Nat) (hgd : Region.wanted o (yielded ops a.tmps) = true) {b : Nat} {vs : List Value} (j : Nat) (hj : j < vs.length) (v : Value)
    (hi : s[i]? = some (b, vs)) (hrun : ∀ W : World, W.cell? ⟨b, j, none⟩ = vs[j]? → W.frozen? ⟨b, j, none⟩ = false → (execOp a.eval o).run Try.prog W = .ok .skip (W.setCell ⟨b, j, none⟩ v)) :
    Rg2.Puts Try.prog ops (Rg2.Io w ms) o a s (s.set i (b, vs.set j v)) := by
  refine ⟨hgd, fun W hI => ⟨W.setCell ⟨b, j, none⟩ v, ?_, ?_⟩⟩
  · have hlt : i < s.length := (List.getElem?_eq_some_iff.1 hi).1
    have hR : Rc W b vs := Ow.at hI i (by rw [List.getElem?_append_left hlt]; exact hi)
    exact hrun W (by rw [List.getElem?_eq_getElem hj]; exact hR.cell j (List.getElem?_eq_getElem hj)) (hR.froz j hj)
  · have hlt : i < s.length := (List.getElem?_eq_some_iff.1 hi).1
    have h2 := Ow.put1 hI i (by rw [List.getElem?_append_left hlt]; exact hi) j hj v
    rw [List.set_append_left _ _ hlt] at h2
    exact h2
/-- nothing of one's own yet -/
theorem Ow.kp0 {w W : World} (h : Kp w.heap.size w W) : Ow w W [] := ⟨h, fun _ h => (by cases h), .nil⟩
end Go.Proofs.Ytankjlpanmmogaa

/-
  Contracts of layer 8 (depth): what its functions return, for every input; the world stays as it was.
-/
namespace Go.Proofs.Ytankjlpanmmogaa
set_option maxRecDepth 100000
open Go.RowKit

theorem may_any (k : Int) (w : World) :
    Calls Try.prog 79 #[.int .i64 k] w fun e w' => e = .returned (.bool (Dp.is k)) ∧ w = w' := by
  by_cases h : 0 ≤ k
  · go_enter Try.func79, Try.ntmps79
    go_wp2
    go_ret
    exact ⟨ret_bool (by simp [Dp.is, h]), rfl⟩
  · have hd : decide (0 ≤ k) = false := decide_eq_false h
    go_enter Try.func79, Try.ntmps79
    go_wp2
    go_ret
    exact ⟨ret_bool (by simp [Dp.is]; omega), rfl⟩
theorem ris_any (k : Int) (w : World) :
    Calls Try.prog 21 #[.int .i64 k] w fun e w' => e = .returned (.bool (Dp.is k)) ∧ w = w' := by
  by_cases h : 0 ≤ k
  · go_enter Try.func21, Try.ntmps21
    go_wp2
    go_ret
    exact ⟨ret_bool (by rw [Bool.eq_iff_iff]; simp [Dp.is, h]; omega), rfl⟩
  · have hd : decide (0 ≤ k) = false := decide_eq_false h
    go_enter Try.func21, Try.ntmps21
    go_wp2
    go_ret
    exact ⟨ret_bool (by simp [Dp.is]; omega), rfl⟩
theorem rel_any (a b : Int) (w : World) :
    Calls Try.prog 80 #[.int .i64 a, .int .i64 b] w fun e w' => e = .returned (.int .i64 (Dp.rel a b)) ∧ w = w' := by
  go_enter Try.func80, Try.ntmps80
  go_wp2
  all_goals
    go_ret
    exact ⟨ret_int (by unfold Dp.rel; (repeat' split) <;> omega), rfl⟩
theorem drlow_any (x y : Int) (w : World) :
    Calls Try.prog 75 #[.int .i64 x, .int .i64 y] w fun e w' => e = .returned (.int .i64 (Dp.low x y)) ∧ w = w' := by
  go_enter Try.func75, Try.ntmps75
  go_wp2
  all_goals
    go_ret
    exact ⟨ret_int (by unfold Dp.low; split <;> omega), rfl⟩

theorem passes_no (k a b : Int) (w : World) (h : Dp.is k = false) :
    Calls Try.prog 60 #[.int .i64 k, .int .i64 a, .int .i64 b] w fun e w' => e = .returned (.tuple #[.bool false, .int .i64 9]) ∧ w = w' := by
  have M1 : ∀ W, Calls Try.prog 79 #[.int .i64 k] W fun e w' => e = .returned (.bool false) ∧ W = w' := fun W => by have := may_any k W; rwa [h] at this
  clear h
  go_enter Try.func60, Try.ntmps60
  go_wp2_with (go_at_call 79; refine (M1 _).mono ?_; rintro e w' ⟨rfl, rfl⟩)
  go_ret2
  exact ⟨rfl, rfl⟩
theorem passes_yes (k a b : Int) (w : World) (h : Dp.is k = true) :
    Calls Try.prog 60 #[.int .i64 k, .int .i64 a, .int .i64 b] w fun e w' => e = .returned (.tuple #[.bool (Dp.pass k a b), .int .i64 0]) ∧ w = w' := by
  have M1 : ∀ W, Calls Try.prog 79 #[.int .i64 k] W fun e w' => e = .returned (.bool true) ∧ W = w' := fun W => by have := may_any k W; rwa [h] at this
  have HB := Lib.hid (Dp.bits a b h)
  clear h
  go_enter Try.func60, Try.ntmps60
  go_wp2_with (first | (go_at_call 79; refine (M1 _).mono ?_; rintro e w' ⟨rfl, rfl⟩) | (go_at_call 80; refine (rel_any a b _).mono ?_; rintro e w' ⟨rfl, rfl⟩))
  go_ret2
  exact ⟨by rw [← HB.out]; rfl, rfl⟩
set_option maxHeartbeats 1000000 in
theorem rpasses_any (k a b : Int) (w : World) (h : Dp.is k = true) :
    Calls Try.prog 33 #[.int .i64 k, .int .i64 a, .int .i64 b] w fun e w' => e = .returned (.bool (Dp.pass k a b)) ∧ w = w' := by
  rcases Dp.all h with rfl | rfl | rfl | rfl | rfl | rfl | rfl | rfl
  all_goals
    clear h
    go_enter Try.func33, Try.ntmps33
    go_wp2
    go_ret
    exact ⟨ret_bool (by simp [Dp.pass]), rfl⟩

theorem test_no (k : Int) (p : Bool) (z old : Int) (w : World) (h : Dp.is k = false) :
    Calls Try.prog 46 #[.int .i64 k, .bool p, .int .i64 z, .int .i64 old] w fun e w' => e = .returned (.tuple #[.bool false, .int .i64 0, .int .i64 9]) ∧ w = w' := by
  go_enter Try.func46, Try.ntmps46
  go_wp2_with (go_at_call 60; refine (passes_no k z old _ h).mono ?_; rintro e w' ⟨rfl, rfl⟩)
  go_ret3
  exact ⟨rfl, rfl⟩
theorem test_yes (k : Int) (p : Bool) (z old : Int) (w : World) (h : Dp.is k = true) :
    Calls Try.prog 46 #[.int .i64 k, .bool p, .int .i64 z, .int .i64 old] w fun e w' => e = .returned (.tuple #[.bool (Dp.pass k z old), .int .i64 (Dp.put k p z old), .int .i64 0]) ∧ w = w' := by
  have M1 := fun W => passes_yes k z old W h
  have HP : Hid (Dp.put k p z old = if Dp.pass k z old && p then z else old) := Lib.hid rfl
  clear h
  generalize Dp.put k p z old = P at *
  cases hp : Dp.pass k z old <;> rw [hp] at HP <;> simp only [hp] at M1 <;> clear hp <;> cases p
  all_goals
    go_enter Try.func46, Try.ntmps46
    go_wp2_with (go_at_call 60; refine (M1 _).mono ?_; rintro e w' ⟨rfl, rfl⟩)
    go_ret3
    exact ⟨by rw [HP.out]; rfl, rfl⟩

end Go.Proofs.Ytankjlpanmmogaa

/-
  Contracts of layer 9 (sten): stencils, deeds; the document's own, and the bits that two numbers have.
-/
namespace Go.Proofs.Ytankjlpanmmogaa
set_option maxRecDepth 100000
open Go.RowKit

theorem isDeed_any (k : Int) (w : World) :
    Calls Try.prog 62 #[.int .i64 k] w fun e w' => e = .returned (.bool (Dp.is k)) ∧ w = w' := by
  by_cases h : 0 ≤ k
  · go_enter Try.func62, Try.ntmps62
    go_wp2
    go_ret
    exact ⟨ret_bool (by rw [Bool.eq_iff_iff]; simp [Dp.is, h]), rfl⟩
  · have hd : decide (0 ≤ k) = false := decide_eq_false h
    go_enter Try.func62, Try.ntmps62
    go_wp2
    go_ret
    exact ⟨ret_bool (by simp [Dp.is]; omega), rfl⟩
theorem isSten_any (k : Int) (w : World) :
    Calls Try.prog 63 #[.int .i64 k] w fun e w' => e = .returned (.bool (Sn.is k)) ∧ w = w' := by
  by_cases h : 0 ≤ k
  · go_enter Try.func63, Try.ntmps63
    go_wp2
    go_ret
    exact ⟨ret_bool (by rw [Bool.eq_iff_iff]; simp [Sn.is, h]), rfl⟩
  · have hd : decide (0 ≤ k) = false := decide_eq_false h
    go_enter Try.func63, Try.ntmps63
    go_wp2
    go_ret
    exact ⟨ret_bool (by simp [Sn.is]; omega), rfl⟩
theorem rsten_any (k : Int) (w : World) :
    Calls Try.prog 29 #[.int .i64 k] w fun e w' => e = .returned (.bool (Sn.is k)) ∧ w = w' := by
  by_cases h : 0 ≤ k
  · go_enter Try.func29, Try.ntmps29
    go_wp2
    go_ret
    exact ⟨ret_bool (by rw [Bool.eq_iff_iff]; simp [Sn.is, h]), rfl⟩
  · have hd : decide (0 ≤ k) = false := decide_eq_false h
    go_enter Try.func29, Try.ntmps29
    go_wp2
    go_ret
    exact ⟨ret_bool (by simp [Sn.is]; omega), rfl⟩

set_option maxHeartbeats 1000000 in
theorem made_any (k old ref : Int) (w : World) (hk : Dp.is k = true) (ho : Sn.is old = true) (hr : Sn.is ref = true) :
    Calls Try.prog 81 #[.int .i64 k, .int .i64 old, .int .i64 ref] w fun e w' => e = .returned (.int .i64 (Sn.made k old ref)) ∧ w = w' := by
  obtain ⟨o1, o2⟩ := Sn.is_iff.1 ho
  obtain ⟨r1, r2⟩ := Sn.is_iff.1 hr
  rcases Dp.all hk with rfl | rfl | rfl | rfl | rfl | rfl | rfl | rfl
  all_goals
    clear hk ho hr
    go_enter Try.func81, Try.ntmps81
    go_wp2
    all_goals
      go_ret
      exact ⟨ret_int (by simp only [Sn.made, Sn.bits_255, Int.reduceEq, if_true, if_false]; first | done | omega | ((repeat' split) <;> omega)), rfl⟩
set_option maxHeartbeats 1000000 in
theorem rdeed_any (k old ref : Int) (w : World) (hk : Dp.is k = true) (ho : Sn.is old = true) (hr : Sn.is ref = true) :
    Calls Try.prog 56 #[.int .i64 k, .int .i64 old, .int .i64 ref] w fun e w' => e = .returned (.int .i64 (Sn.made k old ref)) ∧ w = w' := by
  obtain ⟨o1, o2⟩ := Sn.is_iff.1 ho
  obtain ⟨r1, r2⟩ := Sn.is_iff.1 hr
  rcases Dp.all hk with rfl | rfl | rfl | rfl | rfl | rfl | rfl | rfl
  all_goals
    clear hk ho hr
    go_enter Try.func56, Try.ntmps56
    go_wp2
    all_goals
      go_ret
      exact ⟨ret_int (by simp only [Sn.made, Int.reduceEq, if_true, if_false]; first | done | omega | ((repeat' split) <;> simp_all)), rfl⟩

def msr8 (i : Value) : Nat := 8 - (intOf i).toNat
/-- so much has been added up -/
def AI (a b : Int) (n p i : Value) : Prop := ∃ k : Nat, k ≤ 8 ∧ i = .int .i64 k ∧ p = .int .i64 (2 ^ k) ∧ n = .int .i64 (Sn.low a b k)
set_option maxHeartbeats 1000000 in
theorem rand_any (a b : Int) (w : World) (ha : Sn.is a = true) (hb : Sn.is b = true) :
    Calls Try.prog 55 #[.int .i64 a, .int .i64 b] w fun e w' => e = .returned (.int .i64 (Sn.and a b)) ∧ w = w' := by
  have HL := Lib.hid (Sn.low_all (a := a) hb)
  obtain ⟨a1, a2⟩ := Sn.is_iff.1 ha
  obtain ⟨b1, b2⟩ := Sn.is_iff.1 hb
  clear ha hb
  go_enter Try.func55, Try.ntmps55
  go_wp2
  go_loop [5, 6, 7] (fun n p i => AI a b n p i) (fun _ _ i => msr8 i)
  case atStart => exact ⟨0, by omega, rfl, rfl, by unfold Sn.low; simp [Nat.mod_one]⟩
  case round =>
    obtain ⟨k, hk, rfl, rfl, rfl⟩ := hrel
    by_cases hlt : k < 8
    · have hn := Sn.low_next a1 b1 k
      have HN := Lib.hid hn
      obtain ⟨l1, l2⟩ := Sn.low_bd a b k
      have p1 : (0 : Int) < 2 ^ k := Int.pow_pos (by omega)
      have p2 : (2 : Int) ^ k ≤ 128 := by
        obtain rfl | rfl | rfl | rfl | rfl | rfl | rfl | rfl : k = 0 ∨ k = 1 ∨ k = 2 ∨ k = 3 ∨ k = 4 ∨ k = 5 ∨ k = 6 ∨ k = 7 := by omega
        all_goals decide
      have p3 : (2 : Int) ^ k ≠ 0 := by omega
      have q1 : 0 ≤ a / 2 ^ k := Int.ediv_nonneg a1 (by omega)
      have q2 : a / 2 ^ k ≤ a := Int.ediv_le_self _ a1
      have q3 : 0 ≤ b / 2 ^ k := Int.ediv_nonneg b1 (by omega)
      have q4 : b / 2 ^ k ≤ b := Int.ediv_le_self _ b1
      clear hn
      cases h1 : (a / 2 ^ k % 2 == 1) <;> cases h2 : (b / 2 ^ k % 2 == 1) <;> rw [h1, h2] at HN
      all_goals
        simp only [Bool.and_self, Bool.and_false, Bool.and_true, if_true, Bool.false_eq_true, if_false] at HN
        go_wp2
        go_round
        case rel => exact ⟨k + 1, by omega, by go_num, by rw [Int.pow_succ]; go_num, by rw [HN.out]⟩
        case measure => simp [msr8, intOf]; omega
    · obtain rfl : k = 8 := by omega
      go_wp2
      go_ret
      exact ⟨ret_int HL.out, rfl⟩
end Go.Proofs.Ytankjlpanmmogaa

/-
  Contracts of layer 9 (sten): Plain, the deeds of a stencil test, Deed, Check; the document's Check.
-/
namespace Go.Proofs.Ytankjlpanmmogaa
set_option maxRecDepth 100000
open Go.RowKit

theorem ty_sten : Ty 33 7 := ⟨by kernel_rfl, _, Try.underlying33, rfl⟩
theorem ty_three : Ty 89 3 := ⟨by kernel_rfl, _, Try.underlying89, rfl⟩
/-- a stencil test by its cells -/
def Sn.row (fn ref rd wr f z p : Int) : List Value := [.int .i64 fn, .int .i64 ref, .int .i64 rd, .int .i64 wr, .int .i64 f, .int .i64 z, .int .i64 p]

theorem splain_any (w : World) :
    Calls Try.prog 51 #[] w fun o w' => o = .returned (.agg #[.int .i64 7, .int .i64 0, .int .i64 255, .int .i64 255, .int .i64 0, .int .i64 0, .int .i64 0]) ∧ Kp w.heap.size w w' := by
  go_enter Try.func51, Try.ntmps51
  go_wp2
  exact bodyPost_ret (results_c ty_sten rfl rfl rfl (Rc.new w [.int .i64 _, .int .i64 _, .int .i64 _, .int .i64 _, .int .i64 _, .int .i64 _, .int .i64 _] _ rfl)) rfl ⟨rfl, Kp.new _ _ _⟩
theorem deedsOf_any (fn ref rd wr f z p : Int) (w : World) :
    Calls Try.prog 61 #[.agg #[.int .i64 fn, .int .i64 ref, .int .i64 rd, .int .i64 wr, .int .i64 f, .int .i64 z, .int .i64 p]] w fun e w' => e = .returned (.agg #[.int .i64 f, .int .i64 z, .int .i64 p]) ∧ Kp w.heap.size w w' := by
  go_enter Try.func61, Try.ntmps61
  go_wp2
  exact bodyPost_ret (results_c ty_three rfl rfl rfl (Rc.new _ [.int .i64 f, .int .i64 z, .int .i64 p] _ (by simp))) rfl ⟨rfl, (Kp.new _ _ _).next (Kp.new _ _ _)⟩

theorem index_three (f z p : Int) (k : Nat) (hk : k < 3) (w : World) : (Instr.index 89 (.agg #[.int .i64 f, .int .i64 z, .int .i64 p]) (.int .i64 k)).run Try.prog w = .ok (.int .i64 (Sn.deed f z p k)) w := by
  rcases k with _ | _ | _ | k
  all_goals first | omega | kernel_rfl
theorem Sn.chk_deed {fn ref rd wr f z p : Int} {k : Nat} (hk : k < 3) (h : Dp.is (Sn.deed f z p k) = false) : Sn.chk fn ref rd wr f z p = 9 := by
  rcases k with _ | _ | _ | k
  · simp only [Sn.deed] at h; simp [Sn.chk, h]
  · simp only [Sn.deed] at h; simp [Sn.chk, h]
  · simp only [Sn.deed] at h; simp [Sn.chk, h]
  · omega
def msr3 (i : Value) : Nat := 3 - (intOf i).toNat
/-- the deeds so far are some -/
def CI (f z p : Int) (i : Value) : Prop := ∃ k : Nat, k ≤ 3 ∧ i = .int .i64 k ∧ Hid (∀ j, j < k → Dp.is (Sn.deed f z p j) = true)
set_option maxHeartbeats 1000000 in
theorem scheck_any (fn ref rd wr f z p : Int) (w : World) :
    Calls Try.prog 39 #[.agg #[.int .i64 fn, .int .i64 ref, .int .i64 rd, .int .i64 wr, .int .i64 f, .int .i64 z, .int .i64 p]] w fun e w' => e = .returned (.int .i64 (Sn.chk fn ref rd wr f z p)) ∧ Kp w.heap.size w w' := by
  have HO := Lib.hid ((Ow.refl w).newAt w.heap.size rfl (.int .i64 fn) [.int .i64 ref, .int .i64 rd, .int .i64 wr, .int .i64 f, .int .i64 z, .int .i64 p] 33)
  cases h0 : Dp.is fn
  · have HC := Lib.hid (show Sn.chk fn ref rd wr f z p = 9 by simp [Sn.chk, h0])
    go_enter Try.func39, Try.ntmps39
    go_wp2_with (go_at_call 60; refine (passes_no fn 0 0 _ h0).mono ?_; rintro e w' ⟨rfl, rfl⟩)
    go_ret
    exact ⟨ret_int HC.out.symm, HO.out.k⟩
  · go_enter Try.func39, Try.ntmps39
    go_wp2_with (first
      | ((with_reducible show wpList _ _ _ ({ dst := _, op := Op.load 33 _, type := _, pos := _, after := _, guard := _ } :: _) _ _); refine wpList_ldr ty_sten rfl _ rfl _ rfl _ rfl (HO.out.at 0 rfl) ?_)
      | (go_at_call 60; refine (passes_yes fn 0 0 _ h0).mono ?_; rintro e w' ⟨rfl, rfl⟩)
      | (go_at_call 61; refine (deedsOf_any fn ref rd wr f z p _).mono ?_; rintro e w1 ⟨rfl, hk1⟩; have l2 := HO.out.call hk1; clear HO hk1; have HO := Lib.hid l2; clear l2))
    go_loop [18] (fun i => CI f z p i) (fun i => msr3 i)
    case atStart => exact ⟨0, by omega, rfl, Lib.hid fun j hj => by omega⟩
    case round =>
      obtain ⟨k, hk, rfl, HA⟩ := hrel
      by_cases hlt : k < 3
      · have hi := index_three f z p k hlt
        cases h1 : Dp.is (Sn.deed f z p k)
        · have HC := Lib.hid (Sn.chk_deed (fn := fn) (ref := ref) (rd := rd) (wr := wr) hlt h1)
          go_wp2_with (go_at_call 62; refine (isDeed_any _ _).mono ?_; rintro e w' ⟨rfl, rfl⟩)
          go_ret
          exact ⟨ret_int HC.out.symm, HO.out.k⟩
        · go_wp2_with (go_at_call 62; refine (isDeed_any _ _).mono ?_; rintro e w' ⟨rfl, rfl⟩)
          go_round
          case rel =>
            refine ⟨k + 1, by omega, by go_num, Lib.hid fun j hj => ?_⟩
            by_cases e : j = k
            · subst e; exact h1
            · exact HA.out j (by omega)
          case measure => simp [msr3, intOf]; omega
      · obtain rfl : k = 3 := by omega
        have d0 : Dp.is f = true := HA.out 0 (by omega)
        have d1 : Dp.is z = true := HA.out 1 (by omega)
        have d2 : Dp.is p = true := HA.out 2 (by omega)
        have c1 := (HO.out.at 0 rfl).cell 1 rfl
        have c2 := (HO.out.at 0 rfl).cell 2 rfl
        have c3 := (HO.out.at 0 rfl).cell 3 rfl
        cases s1 : Sn.is ref
        · have HC := Lib.hid (show Sn.chk fn ref rd wr f z p = 3 by simp [Sn.chk, h0, d0, d1, d2, s1])
          go_wp2_with (first | go_skip | (go_at_call 63; refine (isSten_any _ _).mono ?_; rintro e w' ⟨rfl, rfl⟩))
          go_ret
          exact ⟨ret_int HC.out.symm, HO.out.k⟩
        cases s2 : Sn.is rd
        · have HC := Lib.hid (show Sn.chk fn ref rd wr f z p = 3 by simp [Sn.chk, h0, d0, d1, d2, s1, s2])
          go_wp2_with (first | go_skip | (go_at_call 63; refine (isSten_any _ _).mono ?_; rintro e w' ⟨rfl, rfl⟩))
          go_ret
          exact ⟨ret_int HC.out.symm, HO.out.k⟩
        cases s3 : Sn.is wr
        · have HC := Lib.hid (show Sn.chk fn ref rd wr f z p = 3 by simp [Sn.chk, h0, d0, d1, d2, s1, s2, s3])
          go_wp2_with (first | go_skip | (go_at_call 63; refine (isSten_any _ _).mono ?_; rintro e w' ⟨rfl, rfl⟩))
          go_ret
          exact ⟨ret_int HC.out.symm, HO.out.k⟩
        · have HC := Lib.hid (show Sn.chk fn ref rd wr f z p = 0 by simp [Sn.chk, h0, d0, d1, d2, s1, s2, s3])
          go_wp2_with (first | go_skip | (go_at_call 63; refine (isSten_any _ _).mono ?_; rintro e w' ⟨rfl, rfl⟩))
          go_ret
          exact ⟨ret_int HC.out.symm, HO.out.k⟩

set_option maxHeartbeats 1000000 in
theorem srcheck_any (fn ref rd wr f z p : Int) (w : World) :
    Calls Try.prog 22 #[.agg #[.int .i64 fn, .int .i64 ref, .int .i64 rd, .int .i64 wr, .int .i64 f, .int .i64 z, .int .i64 p]] w fun e w' => e = .returned (.int .i64 (Sn.chk fn ref rd wr f z p)) ∧ Kp w.heap.size w w' := by
  cases h0 : Dp.is fn
  · have HC := Lib.hid (show Sn.chk fn ref rd wr f z p = 9 by simp [Sn.chk, h0])
    go_enter Try.func22, Try.ntmps22
    go_wp2_with (first
      | go_skip
      | (go_at_call 21; refine (ris_any _ _).mono ?_; rintro e w' ⟨rfl, rfl⟩)
      | (go_at_call 29; refine (rsten_any _ _).mono ?_; rintro e w' ⟨rfl, rfl⟩))
    go_ret
    exact ⟨ret_int HC.out.symm, Kp.new _ _ _⟩
  cases h1 : Dp.is f
  · have HC := Lib.hid (show Sn.chk fn ref rd wr f z p = 9 by simp [Sn.chk, h1])
    go_enter Try.func22, Try.ntmps22
    go_wp2_with (first
      | go_skip
      | (go_at_call 21; refine (ris_any _ _).mono ?_; rintro e w' ⟨rfl, rfl⟩)
      | (go_at_call 29; refine (rsten_any _ _).mono ?_; rintro e w' ⟨rfl, rfl⟩))
    go_ret
    exact ⟨ret_int HC.out.symm, Kp.new _ _ _⟩
  cases h2 : Dp.is z
  · have HC := Lib.hid (show Sn.chk fn ref rd wr f z p = 9 by simp [Sn.chk, h2])
    go_enter Try.func22, Try.ntmps22
    go_wp2_with (first
      | go_skip
      | (go_at_call 21; refine (ris_any _ _).mono ?_; rintro e w' ⟨rfl, rfl⟩)
      | (go_at_call 29; refine (rsten_any _ _).mono ?_; rintro e w' ⟨rfl, rfl⟩))
    go_ret
    exact ⟨ret_int HC.out.symm, Kp.new _ _ _⟩
  cases h3 : Dp.is p
  · have HC := Lib.hid (show Sn.chk fn ref rd wr f z p = 9 by simp [Sn.chk, h3])
    go_enter Try.func22, Try.ntmps22
    go_wp2_with (first
      | go_skip
      | (go_at_call 21; refine (ris_any _ _).mono ?_; rintro e w' ⟨rfl, rfl⟩)
      | (go_at_call 29; refine (rsten_any _ _).mono ?_; rintro e w' ⟨rfl, rfl⟩))
    go_ret
    exact ⟨ret_int HC.out.symm, Kp.new _ _ _⟩
  cases s1 : Sn.is ref
  · have HC := Lib.hid (show Sn.chk fn ref rd wr f z p = 3 by simp [Sn.chk, h0, h1, h2, h3, s1])
    go_enter Try.func22, Try.ntmps22
    go_wp2_with (first
      | go_skip
      | (go_at_call 21; refine (ris_any _ _).mono ?_; rintro e w' ⟨rfl, rfl⟩)
      | (go_at_call 29; refine (rsten_any _ _).mono ?_; rintro e w' ⟨rfl, rfl⟩))
    go_ret
    exact ⟨ret_int HC.out.symm, Kp.new _ _ _⟩
  cases s2 : Sn.is rd
  · have HC := Lib.hid (show Sn.chk fn ref rd wr f z p = 3 by simp [Sn.chk, h0, h1, h2, h3, s1, s2])
    go_enter Try.func22, Try.ntmps22
    go_wp2_with (first
      | go_skip
      | (go_at_call 21; refine (ris_any _ _).mono ?_; rintro e w' ⟨rfl, rfl⟩)
      | (go_at_call 29; refine (rsten_any _ _).mono ?_; rintro e w' ⟨rfl, rfl⟩))
    go_ret
    exact ⟨ret_int HC.out.symm, Kp.new _ _ _⟩
  cases s3 : Sn.is wr
  · have HC := Lib.hid (show Sn.chk fn ref rd wr f z p = 3 by simp [Sn.chk, h0, h1, h2, h3, s1, s2, s3])
    go_enter Try.func22, Try.ntmps22
    go_wp2_with (first
      | go_skip
      | (go_at_call 21; refine (ris_any _ _).mono ?_; rintro e w' ⟨rfl, rfl⟩)
      | (go_at_call 29; refine (rsten_any _ _).mono ?_; rintro e w' ⟨rfl, rfl⟩))
    go_ret
    exact ⟨ret_int HC.out.symm, Kp.new _ _ _⟩
  · have HC := Lib.hid (show Sn.chk fn ref rd wr f z p = 0 by simp [Sn.chk, h0, h1, h2, h3, s1, s2, s3])
    go_enter Try.func22, Try.ntmps22
    go_wp2_with (first
      | go_skip
      | (go_at_call 21; refine (ris_any _ _).mono ?_; rintro e w' ⟨rfl, rfl⟩)
      | (go_at_call 29; refine (rsten_any _ _).mono ?_; rintro e w' ⟨rfl, rfl⟩))
    go_ret
    exact ⟨ret_int HC.out.symm, Kp.new _ _ _⟩
end Go.Proofs.Ytankjlpanmmogaa

/-
  Contracts of layer 7 (blend), the small functions: what they return, for every input; what stood in memory stands.
-/
namespace Go.Proofs.Ytankjlpanmmogaa
set_option maxRecDepth 100000
open Go.RowKit

theorem ty_blend : Ty 35 4 := ⟨by kernel_rfl, _, Try.underlying35, rfl⟩

theorem among_any (c n : Int) (w : World) :
    Calls Try.prog 64 #[.int .i64 c, .int .i64 n] w fun e w' => e = .returned (.bool (Bn.am c n)) ∧ w = w' := by
  by_cases h : 0 ≤ n
  · go_enter Try.func64, Try.ntmps64
    go_wp2
    go_ret
    exact ⟨ret_bool (by simp [Bn.am, h]), rfl⟩
  · have hd : decide (0 ≤ n) = false := decide_eq_false h
    go_enter Try.func64, Try.ntmps64
    go_wp2
    go_ret
    exact ⟨ret_bool (by simp [Bn.am]; omega), rfl⟩
set_option maxHeartbeats 1000000 in
theorem bcheck_any (s d e m : Int) (w : World) :
    Calls Try.prog 40 #[.agg #[.int .i64 s, .int .i64 d, .int .i64 e, .int .i64 m]] w fun o w' => o = .returned (.int .i64 (Bn.chk s d e m)) ∧ Kp w.heap.size w w' := by
  cases h0 : Bn.am 10 s
  · go_enter Try.func40, Try.ntmps40
    go_wp2_with (first | go_skip | (go_at_call 64; refine (among_any _ _ _).mono ?_; rintro e w' ⟨rfl, rfl⟩))
    go_ret
    exact ⟨ret_int (by simp [Bn.chk, h0]), Kp.new _ _ _⟩
  cases h1 : Bn.am 10 d
  · go_enter Try.func40, Try.ntmps40
    go_wp2_with (first | go_skip | (go_at_call 64; refine (among_any _ _ _).mono ?_; rintro e w' ⟨rfl, rfl⟩))
    go_ret
    exact ⟨ret_int (by simp [Bn.chk, h1]), Kp.new _ _ _⟩
  cases h2 : Bn.am 5 e
  · go_enter Try.func40, Try.ntmps40
    go_wp2_with (first | go_skip | (go_at_call 64; refine (among_any _ _ _).mono ?_; rintro e w' ⟨rfl, rfl⟩))
    go_ret
    exact ⟨ret_int (by simp [Bn.chk, h2]), Kp.new _ _ _⟩
  cases h3 : Bn.am 16 m
  · go_enter Try.func40, Try.ntmps40
    go_wp2_with (first | go_skip | (go_at_call 64; refine (among_any _ _ _).mono ?_; rintro e w' ⟨rfl, rfl⟩))
    go_ret
    exact ⟨ret_int (by simp [Bn.chk, h0, h1, h2, h3]), Kp.new _ _ _⟩
  · go_enter Try.func40, Try.ntmps40
    go_wp2_with (first | go_skip | (go_at_call 64; refine (among_any _ _ _).mono ?_; rintro e w' ⟨rfl, rfl⟩))
    go_ret
    exact ⟨ret_int (by simp [Bn.chk, h0, h1, h2, h3]), Kp.new _ _ _⟩

/-- a number that is not among so many is below 0, or beyond -/
theorem am_out {c n : Int} (h : Bn.am c n = false) : decide (n < 0) = true ∨ decide (n < 0) = false ∧ decide (c - 1 < n) = true := by
  have := Bn.am_no.1 h
  by_cases h1 : n < 0
  · exact .inl (decide_eq_true h1)
  · exact .inr ⟨decide_eq_false h1, decide_eq_true (by omega)⟩
theorem am_in {c n : Int} (h : Bn.am c n = true) : decide (n < 0) = false ∧ decide (c - 1 < n) = false := by
  have := Bn.am_iff.1 h
  exact ⟨decide_eq_false (by omega), decide_eq_false (by omega)⟩
set_option maxHeartbeats 2000000 in
theorem brcheck_any (s d e m : Int) (w : World) :
    Calls Try.prog 23 #[.agg #[.int .i64 s, .int .i64 d, .int .i64 e, .int .i64 m]] w fun o w' => o = .returned (.int .i64 (Bn.chk s d e m)) ∧ Kp w.heap.size w w' := by
  cases h0 : Bn.am 10 s
  · have hc : Bn.chk s d e m = 9 := by simp [Bn.chk, h0]
    have HC := Lib.hid hc
    rcases am_out h0 with p | ⟨p, q⟩
    all_goals
      try simp only [Int.reduceSub] at *
      clear hc
      go_enter Try.func23, Try.ntmps23
      go_wp2
      go_ret
      exact ⟨ret_int HC.out.symm, Kp.new _ _ _⟩
  obtain ⟨s1, s2⟩ := am_in h0
  cases h1 : Bn.am 10 d
  · have hc : Bn.chk s d e m = 9 := by simp [Bn.chk, h1]
    have HC := Lib.hid hc
    rcases am_out h1 with p | ⟨p, q⟩
    all_goals
      try simp only [Int.reduceSub] at *
      clear hc
      go_enter Try.func23, Try.ntmps23
      go_wp2
      go_ret
      exact ⟨ret_int HC.out.symm, Kp.new _ _ _⟩
  obtain ⟨d1, d2⟩ := am_in h1
  cases h2 : Bn.am 5 e
  · have hc : Bn.chk s d e m = 9 := by simp [Bn.chk, h2]
    have HC := Lib.hid hc
    rcases am_out h2 with p | ⟨p, q⟩
    all_goals
      try simp only [Int.reduceSub] at *
      clear hc
      go_enter Try.func23, Try.ntmps23
      go_wp2
      go_ret
      exact ⟨ret_int HC.out.symm, Kp.new _ _ _⟩
  obtain ⟨e1, e2⟩ := am_in h2
  cases h3 : Bn.am 16 m
  · have hc : Bn.chk s d e m = 3 := by simp [Bn.chk, h0, h1, h2, h3]
    have HC := Lib.hid hc
    rcases am_out h3 with p | ⟨p, q⟩
    all_goals
      try simp only [Int.reduceSub] at *
      clear hc
      go_enter Try.func23, Try.ntmps23
      go_wp2
      go_ret
      exact ⟨ret_int HC.out.symm, Kp.new _ _ _⟩
  · have hc : Bn.chk s d e m = 0 := by simp [Bn.chk, h0, h1, h2, h3]
    have HC := Lib.hid hc
    obtain ⟨p, q⟩ := am_in h3
    try simp only [Int.reduceSub] at *
    clear hc
    go_enter Try.func23, Try.ntmps23
    go_wp2
    go_ret
    exact ⟨ret_int HC.out.symm, Kp.new _ _ _⟩

theorem even_any (n : Int) (w : World) :
    Calls Try.prog 82 #[.int .i64 n] w fun o w' => o = .returned (.agg #[.int .i64 n, .int .i64 n, .int .i64 n, .int .i64 n]) ∧ Kp w.heap.size w w' := by
  go_enter Try.func82, Try.ntmps82
  go_wp2
  exact bodyPost_ret (results_c ty_color rfl rfl rfl (Rc.new w [.int .i64 _, .int .i64 _, .int .i64 _, .int .i64 _] _ rfl)) rfl ⟨rfl, Kp.new _ _ _⟩
theorem rest_any (r g b a : Int) (w : World) (h : Tn.right r g b a = true) :
    Calls Try.prog 83 #[.agg #[.int .i64 r, .int .i64 g, .int .i64 b, .int .i64 a]] w fun o w' => o = .returned (.agg #[.int .i64 (255 - r), .int .i64 (255 - g), .int .i64 (255 - b), .int .i64 (255 - a)]) ∧ Kp w.heap.size w w' := by
  obtain ⟨⟨h1, h2⟩, ⟨h3, h4⟩, ⟨h5, h6⟩, ⟨h7, h8⟩⟩ := Tn.right_iff.1 h
  clear h
  go_enter Try.func83, Try.ntmps83
  go_wp2
  exact bodyPost_ret (results_c ty_color rfl rfl rfl (Rc.new _ [.int .i64 _, .int .i64 _, .int .i64 _, .int .i64 _] _ (by simp))) rfl ⟨rfl, (Kp.new _ _ _).next (Kp.new _ _ _)⟩
theorem bplain_any (w : World) :
    Calls Try.prog 52 #[] w fun o w' => o = .returned (.agg #[.int .i64 1, .int .i64 0, .int .i64 0, .int .i64 15]) ∧ Kp w.heap.size w w' := by
  go_enter Try.func52, Try.ntmps52
  go_wp2
  exact bodyPost_ret (results_c ty_blend rfl rfl rfl (Rc.new w [.int .i64 _, .int .i64 _, .int .i64 _, .int .i64 _] _ rfl)) rfl ⟨rfl, Kp.new _ _ _⟩

theorem brhigh_any (x y : Int) (w : World) :
    Calls Try.prog 76 #[.int .i64 x, .int .i64 y] w fun e w' => e = .returned (.int .i64 (Bn.high x y)) ∧ w = w' := by
  go_enter Try.func76, Try.ntmps76
  go_wp2
  all_goals
    go_ret
    exact ⟨ret_int (by unfold Bn.high; split <;> omega), rfl⟩
theorem least_any (x y f g : Int) (w : World) :
    Calls Try.prog 85 #[.agg #[.int .i64 x, .int .i64 y], .agg #[.int .i64 f, .int .i64 g]] w fun e w' => e = .returned (.int .i64 (Tn.low x y)) ∧ Kp w.heap.size w w' := by
  go_enter Try.func85, Try.ntmps85
  go_wp2
  all_goals
    go_ret
    exact ⟨ret_int (by unfold Tn.low; (repeat' split) <;> omega), (Kp.new _ _ _).next (Kp.new _ _ _)⟩
theorem most_any (x y f g : Int) (w : World) :
    Calls Try.prog 86 #[.agg #[.int .i64 x, .int .i64 y], .agg #[.int .i64 f, .int .i64 g]] w fun e w' => e = .returned (.int .i64 (Bn.high x y)) ∧ Kp w.heap.size w w' := by
  go_enter Try.func86, Try.ntmps86
  go_wp2
  all_goals
    go_ret
    exact ⟨ret_int (by unfold Bn.high; (repeat' split) <;> omega), (Kp.new _ _ _).next (Kp.new _ _ _)⟩
end Go.Proofs.Ytankjlpanmmogaa

/-
  Contracts of layer 11 (tile): the small functions, Count, At; the document's own.
-/
namespace Go.Proofs.Ytankjlpanmmogaa
set_option maxRecDepth 100000
open Go.RowKit

end Go.Proofs.Ytankjlpanmmogaa
