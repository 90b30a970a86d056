/-
  Contract of layer 14 (texel): a soft sample of a right texture.
-/
import Derived.Test.YtbhpjklomnjkfaaTexMix
import Derived.BigGuard
namespace Go.Proofs.Ytbhpjklomnjkfaa
open Go.RowKit

/-- the sums behind k rounds, as cells -/
def Tx.accs (F : Nat → Nat → Int) (p : Nat → Int) (k : Nat) : List Value := [.int .i64 (Tx.acc (F 0) p k), .int .i64 (Tx.acc (F 1) p k), .int .i64 (Tx.acc (F 2) p k), .int .i64 (Tx.acc (F 3) p k)]
/-- the blocks of a soft sample, but for the sums -/
def Tx.mb (w : World) (W H : Int) (v : Value) : List (Nat × List Value) := [(w.heap.size + 1, [.int .i64 0, .int .i64 0, .int .i64 0, .int .i64 0]), (w.heap.size, [.int .i64 W, .int .i64 H, v])]
set_option linter.unusedSimpArgs false in
set_option maxRecDepth 100000 in
set_option maxHeartbeats 4000000 in
theorem mixed_yes (W H u v k : Int) (l : List Int) (t : Value) (w : World) (hS : Sl w t (iv l)) (hc : Tx.chk W H l = 0) (hk : Tx.is k = true) (hu : -65536 ≤ u ∧ u ≤ 65536) (hv : -65536 ≤ v ∧ v ≤ 65536) :
    Calls Try.prog 20 #[.agg #[.int .i64 W, .int .i64 H, t], .int .i64 u, .int .i64 v, .int .i64 k] w fun e w' => e = .returned (.tuple #[.agg #[.int .i64 (Tx.soft W H l u v k 0), .int .i64 (Tx.soft W H l u v k 1), .int .i64 (Tx.soft W H l u v k 2), .int .i64 (Tx.soft W H l u v k 3)], .int .i64 0]) ∧ Kp w.heap.size w w' := by
  have hsoft : ∀ i, Tx.soft W H l u v k i = (Tx.acc (Tx.ch W H l ((u - 128) / 256) ((v - 128) / 256) k i) (Tx.cw ((256 - (u - 128) % 256) * (256 - (v - 128) % 256)) ((u - 128) % 256 * (256 - (v - 128) % 256)) ((256 - (u - 128) % 256) * ((v - 128) % 256)) ((u - 128) % 256 * ((v - 128) % 256))) 4 + 32768) / 65536 := fun i => (Tx.acc_lin W H l _ _ k _ _ i).symm
  rw [hsoft 0, hsoft 1, hsoft 2, hsoft 3]
  clear hsoft
  have D1 := fun U => split_any (u - 128) U (by omega) (by omega)
  have D2 := fun U => split_any (v - 128) U (by omega) (by omega)
  obtain ⟨x1, x2⟩ : -300 ≤ (u - 128) / 256 ∧ (u - 128) / 256 ≤ 300 := by omega
  obtain ⟨y1, y2⟩ : -300 ≤ (v - 128) / 256 ∧ (v - 128) / 256 ≤ 300 := by omega
  obtain ⟨f1, f2⟩ : 0 ≤ (u - 128) % 256 ∧ (u - 128) % 256 ≤ 255 := by omega
  obtain ⟨g1, g2⟩ : 0 ≤ (v - 128) % 256 ∧ (v - 128) % 256 ≤ 255 := by omega
  obtain ⟨u1, u2⟩ := hu
  obtain ⟨v1, v2⟩ := hv
  generalize (u - 128) / 256 = x at *
  generalize (v - 128) / 256 = y at *
  generalize (u - 128) % 256 = fx at *
  generalize (v - 128) % 256 = fy at *
  obtain ⟨⟨p01, p02⟩, ⟨p11, p12⟩, ⟨p21, p22⟩, ⟨p31, p32⟩, -⟩ := Tx.weights ⟨f1, f2⟩ ⟨g1, g2⟩
  have R : Hid (∀ (j : Nat) (U : World), Kp w.heap.size w U → Calls Try.prog 22 #[.agg #[.int .i64 W, .int .i64 H, t], .int .i64 (Tx.cx x j), .int .i64 (Tx.cy y j), .int .i64 k] U fun e w' => e = .returned (.tuple #[.agg #[.int .i64 (Tx.ch W H l x y k 0 j), .int .i64 (Tx.ch W H l x y k 1 j), .int .i64 (Tx.ch W H l x y k 2 j), .int .i64 (Tx.ch W H l x y k 3 j)], .int .i64 0]) ∧ Kp U.heap.size U w') :=
    Lib.hid fun j U hk2 => read_yes W H (Tx.cx x j) (Tx.cy y j) k l t U (hS.next hk2) hc hk (by have := Tx.cx_bd x j; omega) (by have := Tx.cy_bd y j; omega)
  have hF : Hid (∀ i j, 0 ≤ Tx.ch W H l x y k i j ∧ Tx.ch W H l x y k i j ≤ 255) := Lib.hid fun i j => Tx.part_bd _ _
  generalize Tx.ch W H l x y k = F at *
  clear hS hc hk
  obtain ⟨n0, hn0⟩ : ∃ n, n = (Tx.acc (F 0) (Tx.cw ((256 - fx) * (256 - fy)) (fx * (256 - fy)) ((256 - fx) * fy) (fx * fy)) 4 + 32768) / 65536 := ⟨_, rfl⟩
  obtain ⟨n1, hn1⟩ : ∃ n, n = (Tx.acc (F 1) (Tx.cw ((256 - fx) * (256 - fy)) (fx * (256 - fy)) ((256 - fx) * fy) (fx * fy)) 4 + 32768) / 65536 := ⟨_, rfl⟩
  obtain ⟨n2, hn2⟩ : ∃ n, n = (Tx.acc (F 2) (Tx.cw ((256 - fx) * (256 - fy)) (fx * (256 - fy)) ((256 - fx) * fy) (fx * fy)) 4 + 32768) / 65536 := ⟨_, rfl⟩
  obtain ⟨n3, hn3⟩ : ∃ n, n = (Tx.acc (F 3) (Tx.cw ((256 - fx) * (256 - fy)) (fx * (256 - fy)) ((256 - fx) * fy) (fx * fy)) 4 + 32768) / 65536 := ⟨_, rfl⟩
  rw [← hn0, ← hn1, ← hn2, ← hn3]
  have HN0 := Lib.hid hn0
  have HN1 := Lib.hid hn1
  have HN2 := Lib.hid hn2
  have HN3 := Lib.hid hn3
  clear hn0 hn1 hn2 hn3
  have HO : Hid (Ow w _ (Tx.mb w W H t)) := Lib.hid (((Ow.refl w).newAt w.heap.size rfl (.int .i64 W) [.int .i64 H, t] 24).newAt (w.heap.size + 1) (by simp) (.int .i64 0) [.int .i64 0, .int .i64 0, .int .i64 0] 29)
  go_enter Try.func20, Try.ntmps20
  go_wp2_with (first
    | (go_at_call 21; (first | (with_reducible refine (D1 _).mono ?_) | (with_reducible refine (D2 _).mono ?_)); rintro e w' ⟨rfl, rfl⟩)
    | (go_at_call 31; refine (summed_any _).mono ?_; rintro e wz ⟨b, rfl, hb⟩; have l2 : Ow w wz ((b, [.int .i64 0, .int .i64 0, .int .i64 0, .int .i64 0]) :: Tx.mb w W H t) := HO.out.join hb; clear HO hb; have HO := Lib.hid l2; clear l2))
  generalize (256 - fx) * (256 - fy) = p0 at *
  generalize fx * (256 - fy) = p1 at *
  generalize (256 - fx) * fy = p2 at *
  generalize fx * fy = p3 at *
  have hP := Lib.hid (Tx.cw_bd ⟨p01, p02⟩ ⟨p11, p12⟩ ⟨p21, p22⟩ ⟨p31, p32⟩)
  have hA : Hid (∀ i j, j ≤ 4 → 0 ≤ Tx.acc (F i) (Tx.cw p0 p1 p2 p3) j ∧ Tx.acc (F i) (Tx.cw p0 p1 p2 p3) j ≤ 67108864) := Lib.hid fun i j hj => Tx.acc_bd (hF.out i) hP.out j hj
  clear D1 D2 p01 p02 p11 p12 p21 p22 p31 p32 u1 u2 v1 v2 x1 x2 y1 y2 f1 f2 g1 g2
  go_loopw [69] (fun i wr => ∃ j : Nat, j ≤ 4 ∧ i = .int .i64 j ∧ Ow w wr ((b, Tx.accs F (Tx.cw p0 p1 p2 p3) j) :: Tx.mb w W H t)) (fun i _ => msr4 i)
  case atStart => exact ⟨0, by omega, rfl, HO.out⟩
  case round =>
    clear HO
    obtain ⟨j, hj, rfl, ho⟩ := hrel
    have HO := Lib.hid ho
    clear ho
    by_cases hlt : j < 4
    · have z1 : decide ((j : Int) < 4) = true := decide_eq_true (by omega)
      have hix := ix4 x y p0 p1 p2 p3 j hlt
      have R1 := R.out j
      go_upto_region 7 with fail
      have l2 := HO.out.newAt wr.heap.size rfl (.int .i64 (Tx.cx x j)) [.int .i64 (Tx.cy y j), .int .i64 (Tx.cw p0 p1 p2 p3 j)] 59
      clear HO hix z1
      have HO := Lib.hid l2
      clear l2
      have c0 := (HO.out.at 0 rfl).cell 0 rfl
      have c1 := (HO.out.at 0 rfl).cell 1 rfl
      generalize hW : World.alloc _ _ = W1 at *
      clear hW
      generalize wr.heap.size = n1 at *
      go_upto_region 8 with (first
        | ((with_reducible show wpList _ _ _ ({ dst := _, op := Op.load 24 _, type := _, pos := _, after := _, guard := _ } :: _) _ _); refine wpList_ldr ty_tex rfl _ rfl _ rfl _ rfl (HO.out.at 3 rfl) ?_)
        | (go_at_call 22; refine (R1 _ HO.out.k).mono ?_; rintro e wz ⟨rfl, hk1⟩; have l2 := (HO.out.call hk1).newAt wz.heap.size rfl (.int .i64 (F 0 j)) [.int .i64 (F 1 j), .int .i64 (F 2 j), .int .i64 (F 3 j)] 29; clear HO hk1 c0 c1; have HO := Lib.hid l2; clear l2))
      have c2 := (HO.out.at 1 rfl).cell 2 rfl
      clear R1
      go_wp2_with (first
        | ((with_reducible show wpList _ _ _ ({ dst := _, op := Op.load 29 _, type := _, pos := _, after := _, guard := _ } :: _) _ _); refine wpList_ldr ty_color rfl _ rfl _ rfl _ rfl (HO.out.at 0 rfl) ?_)
        | (go_at_call 35; refine (add_any b _ _ _ _ _ _ _ _ _ w _ (Tx.mb w W H t) HO.out.drop1.drop1 (hF.out 0 j) (hF.out 1 j) (hF.out 2 j) (hF.out 3 j) (hP.out j) (hA.out 0 j hj) (hA.out 1 j hj) (hA.out 2 j hj) (hA.out 3 j hj)).mono ?_; rintro e wz ⟨rfl, ho2⟩; clear HO c2; have HO := Lib.hid ho2; clear ho2))
      go_roundw
      case rel => exact ⟨j + 1, by omega, by go_num, HO.out⟩
      case measure => simp [msr4, intOf]; omega
    · have z1 : decide ((j : Int) < 4) = false := decide_eq_false (by omega)
      obtain rfl : j = 4 := by omega
      have C1 := fun U (hR : Rc U b (Tx.accs F (Tx.cw p0 p1 p2 p3) 4)) => cut_any b _ _ _ _ U hR (hA.out 0 4 hj) (hA.out 1 4 hj) (hA.out 2 4 hj) (hA.out 3 4 hj)
      simp only [← HN0.out, ← HN1.out, ← HN2.out, ← HN3.out] at C1
      go_wp2_with (first
        | (go_at_call 36; refine (C1 _ (HO.out.at 0 rfl)).mono ?_; rintro e wz ⟨rfl, hk1⟩; have l2 := HO.out.call hk1; clear HO hk1; have HO := Lib.hid l2; clear l2)
        | ((with_reducible show wpList _ _ _ ({ dst := _, op := Op.store 29 _ _, type := _, pos := _, after := _, guard := _ } :: _) _ _); refine wpList_sto ty_color HO.out 1 [.int .i64 n0, .int .i64 n1, .int .i64 n2, .int .i64 n3] rfl _ _ rfl _ rfl rfl _ rfl rfl rfl rfl ?_; intro w2 l2; clear HO; have HO := Lib.hid l2; clear l2))
      exact bodyPost_ret (results_c2 ty_color rfl rfl rfl rfl (HO.out.at 1 rfl)) rfl ⟨rfl, HO.out.k⟩
end Go.Proofs.Ytbhpjklomnjkfaa
