/-
  Contracts of the document's own answers for layer 15 (clip): Check, Same, Has; corners held against each other.
-/
import Derived.Test.YtfhlnldiljldcaaClipRef
import Derived.ChangeKeysEq
import Derived.Laws.StructEq
import Derived.BigGuard
namespace Go.Proofs.Ytfhlnldiljldcaa
open Go.RowKit

/-- may a polygon be? -/
def Cl.chk (l : List Cn) : Int := if 16 < l.length then 4 else if l.all Cl.mayB then 0 else 3
theorem Cl.chk_ok {l : List Cn} : Cl.chk l = 0 ↔ l.length ≤ 16 ∧ ∀ c ∈ l, Cl.May c := by
  unfold Cl.chk
  by_cases h : 16 < l.length
  · rw [if_pos h]; constructor
    · intro h2; cases h2
    · intro h2; omega
  · rw [if_neg h]
    cases hb : l.all Cl.mayB
    · refine ⟨fun h2 => (by cases h2), fun h2 => ?_⟩
      rw [← Bool.not_eq_true, List.all_eq_true] at hb
      exact absurd (fun c hc => Cl.may_iff.2 (h2.2 c hc)) hb
    · refine ⟨fun _ => ⟨by omega, fun c hc => Cl.may_iff.1 (List.all_eq_true.1 hb c hc)⟩, fun _ => rfl⟩
theorem Cl.all_take {l : List Cn} {k : Nat} (h : k < l.length) (f : Cn → Bool) : (l.take (k + 1)).all f = ((l.take k).all f && f l[k]) := by
  rw [List.take_succ_eq_append_getElem h, List.all_append]; simp
def msrL (n : Nat) (i : Value) : Nat := n - (intOf i).toNat

/-! ### corners held against each other -/
theorem eqCells (xs ys : Array Value) (f g : Nat → Int) (w : World) : ∀ is : List Nat, (∀ i, i ∈ is → xs[i]? = some (.int .i64 (f i)) ∧ ys[i]? = some (.int .i64 (g i))) →
    (Op.eqItems 9998 3 1 xs ys is).run Try.prog w = .ok (is.all fun i => f i == g i) w
  | [], _ => by simp [Op.eqItems]
  | i :: is, h => by
    obtain ⟨h1, h2⟩ := h i (by simp)
    have ih := eqCells xs ys f g w is (fun k hk => h k (by simp [hk]))
    have p1 : (part 3 xs (i * 1)).run Try.prog w = .ok (.int .i64 (f i)) w := run_part_plain w (by kernel_rfl) (by rw [Nat.mul_one]; exact h1)
    have p2 : (part 3 ys (i * 1)).run Try.prog w = .ok (.int .i64 (g i)) w := run_part_plain w (by kernel_rfl) (by rw [Nat.mul_one]; exact h2)
    have p3 : (Op.equalIn 9998 3 (.int .i64 (f i)) (.int .i64 (g i))).run Try.prog w = .ok (f i == g i) w := run_equalIn_int w 9997 _ _ _ _ _ Try.underlying3
    simp only [Op.eqItems, Sem.run_bind, p1, p2, p3, Result.andThen_ok, List.all_cons]
    cases hb : (f i == g i)
    · simp
    · simpa using ih
theorem eqInt8 (x y : Int) {w : World} {xs ys : Array Value} {o : Nat} (h1 : xs[o]? = some (.int .i64 x)) (h2 : ys[o]? = some (.int .i64 y)) :
    ∃ va vb, (part 3 xs o).run Try.prog w = .ok va w ∧ (part 3 ys o).run Try.prog w = .ok vb w ∧ (Op.equalIn 9998 3 va vb).run Try.prog w = .ok (x == y) w :=
  ⟨_, _, run_part_plain w (by kernel_rfl) h1, run_part_plain w (by kernel_rfl) h2, run_equalIn_int w 9997 _ _ _ _ _ Try.underlying3⟩
theorem run_eqV (a b : Cn) (w : World) : (Op.equalIn 9999 23 (.agg #[.int .i64 (a 0), .int .i64 (a 1), .int .i64 (a 2), .int .i64 (a 3)]) (.agg #[.int .i64 (b 0), .int .i64 (b 1), .int .i64 (b 2), .int .i64 (b 3)])).run Try.prog w = .ok (a 0 == b 0 && (a 1 == b 1 && (a 2 == b 2 && (a 3 == b 3 && true)))) w := by
  rw [run_equalIn_struct w 9998 23 _ _ (by kernel_rfl) (by kernel_rfl)]
  simp only [Program.fieldsOf, Try.underlying23]
  exact eqStep (by decide) (eqInt8 _ _ rfl rfl) (eqStep (by decide) (eqInt8 _ _ rfl rfl) (eqStep (by decide) (eqInt8 _ _ rfl rfl) (eqStep (by decide) (eqInt8 _ _ rfl rfl) (by simp [Op.eqFields]))))
theorem run_eqA (a b : Cn) (w : World) : (Op.equalIn 9999 24 (.agg #[.int .i64 (a 4), .int .i64 (a 5), .int .i64 (a 6), .int .i64 (a 7), .int .i64 (a 8), .int .i64 (a 9)]) (.agg #[.int .i64 (b 4), .int .i64 (b 5), .int .i64 (b 6), .int .i64 (b 7), .int .i64 (b 8), .int .i64 (b 9)])).run Try.prog w = .ok ((List.range 6).all fun i => a (4 + i) == b (4 + i)) w := by
  have hi : ∃ i, Try.prog.info? 3 = some i := Option.isSome_iff_exists.1 (by kernel_rfl)
  obtain ⟨i, hi⟩ := hi
  rw [run_equalIn_array w 9998 _ _ Try.underlying24 hi, show Try.prog.cellsOf 3 = 1 by kernel_rfl]
  apply eqCells
  intro j hj
  have : j < 6 := List.mem_range.1 hj
  rcases j with _ | _ | _ | _ | _ | _ | j
  all_goals first | omega | exact ⟨rfl, rfl⟩
theorem Cl.eq_split (a b : Cn) : Cl.eq a b = ((a 0 == b 0 && (a 1 == b 1 && (a 2 == b 2 && (a 3 == b 3 && true)))) && (((List.range 6).all fun i => a (4 + i) == b (4 + i)) && true)) := by
  simp [Cl.eq, show List.range 10 = [0, 1, 2, 3, 4, 5, 6, 7, 8, 9] from rfl, show List.range 6 = [0, 1, 2, 3, 4, 5] from rfl, Bool.and_assoc]
theorem part_vec (c : Cn) (w : World) : (part 23 #[.int .i64 (c 0), .int .i64 (c 1), .int .i64 (c 2), .int .i64 (c 3), .int .i64 (c 4), .int .i64 (c 5), .int .i64 (c 6), .int .i64 (c 7), .int .i64 (c 8), .int .i64 (c 9)] 0).run Try.prog w = .ok (.agg #[.int .i64 (c 0), .int .i64 (c 1), .int .i64 (c 2), .int .i64 (c 3)]) w := by kernel_rfl
theorem part_arr (c : Cn) (w : World) : (part 24 #[.int .i64 (c 0), .int .i64 (c 1), .int .i64 (c 2), .int .i64 (c 3), .int .i64 (c 4), .int .i64 (c 5), .int .i64 (c 6), .int .i64 (c 7), .int .i64 (c 8), .int .i64 (c 9)] 4).run Try.prog w = .ok (.agg #[.int .i64 (c 4), .int .i64 (c 5), .int .i64 (c 6), .int .i64 (c 7), .int .i64 (c 8), .int .i64 (c 9)]) w := by kernel_rfl
theorem run_eqN (a b : Cn) (w : World) : (Op.equalIn 10000 26 (.agg #[.int .i64 (a 0), .int .i64 (a 1), .int .i64 (a 2), .int .i64 (a 3), .int .i64 (a 4), .int .i64 (a 5), .int .i64 (a 6), .int .i64 (a 7), .int .i64 (a 8), .int .i64 (a 9)]) (.agg #[.int .i64 (b 0), .int .i64 (b 1), .int .i64 (b 2), .int .i64 (b 3), .int .i64 (b 4), .int .i64 (b 5), .int .i64 (b 6), .int .i64 (b 7), .int .i64 (b 8), .int .i64 (b 9)])).run Try.prog w = .ok (Cl.eq a b) w := by
  rw [run_equalIn_struct w 9999 26 _ _ (by kernel_rfl) (by kernel_rfl), Cl.eq_split]
  simp only [Program.fieldsOf, Try.underlying26]
  exact eqStep (by decide) ⟨_, _, part_vec a w, part_vec b w, run_eqV a b w⟩ (eqStep (by decide) ⟨_, _, part_arr a w, part_arr b w, run_eqA a b w⟩ (by simp [Op.eqFields]))
theorem run_eqN_same (a : Cn) (w : World) : (Op.equalIn 10000 26 (.agg #[.int .i64 (a 0), .int .i64 (a 1), .int .i64 (a 2), .int .i64 (a 3), .int .i64 (a 4), .int .i64 (a 5), .int .i64 (a 6), .int .i64 (a 7), .int .i64 (a 8), .int .i64 (a 9)]) (.agg #[.int .i64 (a 0), .int .i64 (a 1), .int .i64 (a 2), .int .i64 (a 3), .int .i64 (a 4), .int .i64 (a 5), .int .i64 (a 6), .int .i64 (a 7), .int .i64 (a 8), .int .i64 (a 9)])).run Try.prog w = .ok true w := by rw [run_eqN, Cl.eq_refl]

set_option maxHeartbeats 1000000 in
theorem rchk_any (l : List Cn) (v : Value) (w : World) (hS : Sp w v l) :
    Calls Try.prog 14 #[v] w fun e w' => e = .returned (.int .i64 (Cl.chk l)) ∧ Kp w.heap.size w w' := by
  obtain ⟨a, cap, rfl, hac, hu⟩ := hS.parts
  clear hS
  have HO := Lib.hid (Ow.refl w)
  by_cases hl : 16 < l.length
  · have z1 : decide ((16 : Int) < (l.length : Int)) = true := decide_eq_true (by omega)
    have HR : Hid (Cl.chk l = 4) := Lib.hid (by unfold Cl.chk; rw [if_pos hl])
    generalize Cl.chk l = r at *
    clear hl hu
    go_enter Try.func14, Try.ntmps14
    go_wp2
    go_ret
    exact ⟨ret_int HR.out.symm, HO.out.k⟩
  · have z1 : decide ((16 : Int) < (l.length : Int)) = false := decide_eq_false (by omega)
    have HR : Hid ((l.all Cl.mayB = true → Cl.chk l = 0) ∧ (l.all Cl.mayB = false → Cl.chk l = 3)) := Lib.hid ⟨fun h => by unfold Cl.chk; rw [if_neg hl, if_pos h], fun h => by unfold Cl.chk; rw [if_neg hl, h]; rfl⟩
    generalize Cl.chk l = r at *
    have hl2 : (l.length : Int) ≤ 16 := by omega
    have HU := Lib.hid hu
    clear hl hu
    go_enter Try.func14, Try.ntmps14
    go_wp2
    clear z1
    go_loopw [3] (fun i wr => ∃ k : Nat, k ≤ l.length ∧ i = .int .i64 k ∧ (l.take k).all Cl.mayB = true ∧ Ow w wr []) (fun i _ => msrL l.length i)
    case atStart => exact ⟨0, by omega, rfl, rfl, HO.out⟩
    case round =>
      clear HO
      obtain ⟨k, hk, rfl, hs, ho⟩ := hrel
      by_cases hlt : k < l.length
      · have z1 : decide ((k : Int) < (l.length : Int)) = true := decide_eq_true (by omega)
        have z2 : (k : Int) < (l.length : Int) := by omega
        obtain ⟨b1, o1, e1, x1⟩ := HU.out _ ho.k.below k hlt
        have M1 := fun W => rmay_any l[k] W
        have HX := Lib.hid (Cl.all_take hlt Cl.mayB)
        have HY : Hid (Cl.mayB l[k] = false → l.all Cl.mayB = false) := Lib.hid fun h => by
          rw [← Bool.not_eq_true, List.all_eq_true]; intro h2; rw [h2 _ (List.getElem_mem hlt)] at h; cases h
        have HS := Lib.hid hs
        have HO := Lib.hid ho
        clear hs ho
        generalize l[k] = y at *
        have HR1 := Lib.hid x1
        clear x1
        subst e1
        cases hy : Cl.mayB y
        · rw [hy] at M1
          obtain rfl := HR.out.2 (HY.out hy)
          clear HR HX HY hy
          go_wp2_with (first | ((with_reducible show wpList _ _ _ ({ dst := _, op := Op.load 26 (Operand.tmp 15), type := _, pos := _, after := _, guard := _ } :: _) _ _); refine wpList_ldm ty_corner rfl _ rfl _ _ rfl _ rfl HR1.out ?_) | (go_at_call 10; refine (M1 _).mono ?_; rintro e wz ⟨rfl, hk1⟩; have l2 := HO.out.call hk1; clear HO hk1; have HO := Lib.hid l2; clear l2))
          go_ret
          exact ⟨rfl, HO.out.k⟩
        · rw [hy] at M1
          have HZ : Hid ((l.take (k + 1)).all Cl.mayB = true) := Lib.hid (by rw [HX.out, HS.out, hy]; rfl)
          clear HX HY hy
          go_wp2_with (first | ((with_reducible show wpList _ _ _ ({ dst := _, op := Op.load 26 (Operand.tmp 15), type := _, pos := _, after := _, guard := _ } :: _) _ _); refine wpList_ldm ty_corner rfl _ rfl _ _ rfl _ rfl HR1.out ?_) | (go_at_call 10; refine (M1 _).mono ?_; rintro e wz ⟨rfl, hk1⟩; have l2 := HO.out.call hk1; clear HO hk1; have HO := Lib.hid l2; clear l2))
          go_roundw
          case rel => exact ⟨k + 1, by omega, by go_num, HZ.out, HO.out⟩
          case measure => simp [msrL, intOf]; omega
      · have z1 : decide ((k : Int) < (l.length : Int)) = false := decide_eq_false (by omega)
        obtain rfl : k = l.length := by omega
        rw [List.take_length] at hs
        obtain rfl := HR.out.1 hs
        have HO := Lib.hid ho
        clear ho hs HR
        go_wp2
        go_ret
        exact ⟨rfl, HO.out.k⟩
end Go.Proofs.Ytfhlnldiljldcaa
