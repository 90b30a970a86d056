/-
  Contracts of layer 18 (state): what single commands set (a cull, a blend, a viewport, a scissor).
-/
import Derived.Test.YtoejknkjfnnffaaStateCode
import Derived.Test.YtoejknkjfnnffaaJDepthPlain
import Derived.Test.YtoejknkjfnnffaaJRegionOw
import Derived.BigGuard
namespace Go.Proofs.Ytoejknkjfnnffaa
open Go.RowKit

set_option linter.unusedSimpArgs false in
set_option maxRecDepth 100000 in
set_option maxHeartbeats 8000000 in
theorem setCull_any (s : Sf) (p q : Bool) (c : Sf) (v u : Value) (w0 w : World) (pb : Nat) (ms : List (Nat × List Value)) (ho : Ow w0 w ((pb, [.int .i64 (s 0), .int .i64 (s 1), .int .i64 (s 2), .int .i64 (s 3), .int .i64 (s 4), .int .i64 (s 5), .int .i64 (s 6), .int .i64 (s 7), .int .i64 (s 8), .int .i64 (s 9), .int .i64 (s 10), .int .i64 (s 11), .int .i64 (s 12), .int .i64 (s 13), .int .i64 (s 14), .int .i64 (s 15), .int .i64 (s 16), .int .i64 (s 17), .int .i64 (s 18), .int .i64 (s 19), .int .i64 (s 20), .int .i64 (s 21), .int .i64 (s 22), .int .i64 (s 23), .int .i64 (s 24), .bool p, .int .i64 (s 26), .int .i64 (s 27), .int .i64 (s 28), .int .i64 (s 29), .int .i64 (s 30), .int .i64 (s 31), .int .i64 (s 32), .int .i64 (s 33), .int .i64 (s 34), .int .i64 (s 35), .int .i64 (s 36), .int .i64 (s 37), .int .i64 (s 38), .int .i64 (s 39), .bool q]) :: ms)) :
    Calls Try.prog 46 #[.pointer (some ⟨pb, 0, none⟩), .agg #[.int .i64 (c 0), .int .i64 (c 1), .int .i64 (c 2), .int .i64 (c 3), .int .i64 (c 4), .int .i64 (c 5), v, u]] w fun e w' => e = .returned (.int .i64 (Sx.eCull c)) ∧ Ow w0 w' ((pb, [.int .i64 ((Sx.cull s (c 2)) 0), .int .i64 ((Sx.cull s (c 2)) 1), .int .i64 ((Sx.cull s (c 2)) 2), .int .i64 ((Sx.cull s (c 2)) 3), .int .i64 ((Sx.cull s (c 2)) 4), .int .i64 ((Sx.cull s (c 2)) 5), .int .i64 ((Sx.cull s (c 2)) 6), .int .i64 ((Sx.cull s (c 2)) 7), .int .i64 ((Sx.cull s (c 2)) 8), .int .i64 ((Sx.cull s (c 2)) 9), .int .i64 ((Sx.cull s (c 2)) 10), .int .i64 ((Sx.cull s (c 2)) 11), .int .i64 ((Sx.cull s (c 2)) 12), .int .i64 ((Sx.cull s (c 2)) 13), .int .i64 ((Sx.cull s (c 2)) 14), .int .i64 ((Sx.cull s (c 2)) 15), .int .i64 ((Sx.cull s (c 2)) 16), .int .i64 ((Sx.cull s (c 2)) 17), .int .i64 ((Sx.cull s (c 2)) 18), .int .i64 ((Sx.cull s (c 2)) 19), .int .i64 ((Sx.cull s (c 2)) 20), .int .i64 ((Sx.cull s (c 2)) 21), .int .i64 ((Sx.cull s (c 2)) 22), .int .i64 ((Sx.cull s (c 2)) 23), .int .i64 ((Sx.cull s (c 2)) 24), .bool p, .int .i64 ((Sx.cull s (c 2)) 26), .int .i64 ((Sx.cull s (c 2)) 27), .int .i64 ((Sx.cull s (c 2)) 28), .int .i64 ((Sx.cull s (c 2)) 29), .int .i64 ((Sx.cull s (c 2)) 30), .int .i64 ((Sx.cull s (c 2)) 31), .int .i64 ((Sx.cull s (c 2)) 32), .int .i64 ((Sx.cull s (c 2)) 33), .int .i64 ((Sx.cull s (c 2)) 34), .int .i64 ((Sx.cull s (c 2)) 35), .int .i64 ((Sx.cull s (c 2)) 36), .int .i64 ((Sx.cull s (c 2)) 37), .int .i64 ((Sx.cull s (c 2)) 38), .int .i64 ((Sx.cull s (c 2)) 39), .bool q]) :: ms) := by
  have T1 := fun W => cullOf_any (c 2) W
  have HO := Lib.hid (ho.newAt w.heap.size rfl (.int .i64 (c 0)) [.int .i64 (c 1), .int .i64 (c 2), .int .i64 (c 3), .int .i64 (c 4), .int .i64 (c 5), v, u] 35)
  have c2 := (HO.out.at 0 rfl).cell 2 rfl
  have d0 := (HO.out.at 1 rfl).cell 37 rfl
  have f0 := (HO.out.at 1 rfl).froz 37 (by simp)
  clear ho
  go_enter Try.func46, Try.ntmps46
  go_upto_region 2 with fail
  have l2 : Ow w0 _ ((w.heap.size, [.int .i64 (c 0), .int .i64 (c 1), .int .i64 (c 2), .int .i64 (c 3), .int .i64 (c 4), .int .i64 (c 5), v, u]) :: (pb, [.int .i64 ((Sx.cull s (c 2)) 0), .int .i64 ((Sx.cull s (c 2)) 1), .int .i64 ((Sx.cull s (c 2)) 2), .int .i64 ((Sx.cull s (c 2)) 3), .int .i64 ((Sx.cull s (c 2)) 4), .int .i64 ((Sx.cull s (c 2)) 5), .int .i64 ((Sx.cull s (c 2)) 6), .int .i64 ((Sx.cull s (c 2)) 7), .int .i64 ((Sx.cull s (c 2)) 8), .int .i64 ((Sx.cull s (c 2)) 9), .int .i64 ((Sx.cull s (c 2)) 10), .int .i64 ((Sx.cull s (c 2)) 11), .int .i64 ((Sx.cull s (c 2)) 12), .int .i64 ((Sx.cull s (c 2)) 13), .int .i64 ((Sx.cull s (c 2)) 14), .int .i64 ((Sx.cull s (c 2)) 15), .int .i64 ((Sx.cull s (c 2)) 16), .int .i64 ((Sx.cull s (c 2)) 17), .int .i64 ((Sx.cull s (c 2)) 18), .int .i64 ((Sx.cull s (c 2)) 19), .int .i64 ((Sx.cull s (c 2)) 20), .int .i64 ((Sx.cull s (c 2)) 21), .int .i64 ((Sx.cull s (c 2)) 22), .int .i64 ((Sx.cull s (c 2)) 23), .int .i64 ((Sx.cull s (c 2)) 24), .bool p, .int .i64 ((Sx.cull s (c 2)) 26), .int .i64 ((Sx.cull s (c 2)) 27), .int .i64 ((Sx.cull s (c 2)) 28), .int .i64 ((Sx.cull s (c 2)) 29), .int .i64 ((Sx.cull s (c 2)) 30), .int .i64 ((Sx.cull s (c 2)) 31), .int .i64 ((Sx.cull s (c 2)) 32), .int .i64 ((Sx.cull s (c 2)) 33), .int .i64 ((Sx.cull s (c 2)) 34), .int .i64 ((Sx.cull s (c 2)) 35), .int .i64 ((Sx.cull s (c 2)) 36), .int .i64 ((Sx.cull s (c 2)) 37), .int .i64 ((Sx.cull s (c 2)) 38), .int .i64 ((Sx.cull s (c 2)) 39), .bool q]) :: ms) := HO.out.put1 1 rfl 37 (by simp) (.int .i64 (c 2))
  clear HO d0 f0 c2
  have HO := Lib.hid l2
  clear l2
  generalize hW : World.setCell _ _ _ = V0 at *
  clear hW
  have c2 := (HO.out.at 0 rfl).cell 2 rfl
  go_wp2_with (go_at_call 32; (with_reducible refine (T1 _).mono ?_); rintro e w' ⟨rfl, rfl⟩)
  go_ret
  exact ⟨rfl, HO.out.drop1⟩
set_option linter.unusedSimpArgs false in
set_option maxRecDepth 100000 in
set_option maxHeartbeats 8000000 in
theorem setBlend_any (s : Sf) (p q : Bool) (c : Sf) (v u : Value) (w0 w : World) (pb : Nat) (ms : List (Nat × List Value)) (ho : Ow w0 w ((pb, [.int .i64 (s 0), .int .i64 (s 1), .int .i64 (s 2), .int .i64 (s 3), .int .i64 (s 4), .int .i64 (s 5), .int .i64 (s 6), .int .i64 (s 7), .int .i64 (s 8), .int .i64 (s 9), .int .i64 (s 10), .int .i64 (s 11), .int .i64 (s 12), .int .i64 (s 13), .int .i64 (s 14), .int .i64 (s 15), .int .i64 (s 16), .int .i64 (s 17), .int .i64 (s 18), .int .i64 (s 19), .int .i64 (s 20), .int .i64 (s 21), .int .i64 (s 22), .int .i64 (s 23), .int .i64 (s 24), .bool p, .int .i64 (s 26), .int .i64 (s 27), .int .i64 (s 28), .int .i64 (s 29), .int .i64 (s 30), .int .i64 (s 31), .int .i64 (s 32), .int .i64 (s 33), .int .i64 (s 34), .int .i64 (s 35), .int .i64 (s 36), .int .i64 (s 37), .int .i64 (s 38), .int .i64 (s 39), .bool q]) :: ms)) :
    Calls Try.prog 45 #[.pointer (some ⟨pb, 0, none⟩), .agg #[.int .i64 (c 0), .int .i64 (c 1), .int .i64 (c 2), .int .i64 (c 3), .int .i64 (c 4), .int .i64 (c 5), v, u]] w fun e w' => e = .returned (.int .i64 (Sx.eBlend c)) ∧ Ow w0 w' ((pb, [.int .i64 ((Sx.blend s (c 2) (c 3) (c 4) (c 5)) 0), .int .i64 ((Sx.blend s (c 2) (c 3) (c 4) (c 5)) 1), .int .i64 ((Sx.blend s (c 2) (c 3) (c 4) (c 5)) 2), .int .i64 ((Sx.blend s (c 2) (c 3) (c 4) (c 5)) 3), .int .i64 ((Sx.blend s (c 2) (c 3) (c 4) (c 5)) 4), .int .i64 ((Sx.blend s (c 2) (c 3) (c 4) (c 5)) 5), .int .i64 ((Sx.blend s (c 2) (c 3) (c 4) (c 5)) 6), .int .i64 ((Sx.blend s (c 2) (c 3) (c 4) (c 5)) 7), .int .i64 ((Sx.blend s (c 2) (c 3) (c 4) (c 5)) 8), .int .i64 ((Sx.blend s (c 2) (c 3) (c 4) (c 5)) 9), .int .i64 ((Sx.blend s (c 2) (c 3) (c 4) (c 5)) 10), .int .i64 ((Sx.blend s (c 2) (c 3) (c 4) (c 5)) 11), .int .i64 ((Sx.blend s (c 2) (c 3) (c 4) (c 5)) 12), .int .i64 ((Sx.blend s (c 2) (c 3) (c 4) (c 5)) 13), .int .i64 ((Sx.blend s (c 2) (c 3) (c 4) (c 5)) 14), .int .i64 ((Sx.blend s (c 2) (c 3) (c 4) (c 5)) 15), .int .i64 ((Sx.blend s (c 2) (c 3) (c 4) (c 5)) 16), .int .i64 ((Sx.blend s (c 2) (c 3) (c 4) (c 5)) 17), .int .i64 ((Sx.blend s (c 2) (c 3) (c 4) (c 5)) 18), .int .i64 ((Sx.blend s (c 2) (c 3) (c 4) (c 5)) 19), .int .i64 ((Sx.blend s (c 2) (c 3) (c 4) (c 5)) 20), .int .i64 ((Sx.blend s (c 2) (c 3) (c 4) (c 5)) 21), .int .i64 ((Sx.blend s (c 2) (c 3) (c 4) (c 5)) 22), .int .i64 ((Sx.blend s (c 2) (c 3) (c 4) (c 5)) 23), .int .i64 ((Sx.blend s (c 2) (c 3) (c 4) (c 5)) 24), .bool p, .int .i64 ((Sx.blend s (c 2) (c 3) (c 4) (c 5)) 26), .int .i64 ((Sx.blend s (c 2) (c 3) (c 4) (c 5)) 27), .int .i64 ((Sx.blend s (c 2) (c 3) (c 4) (c 5)) 28), .int .i64 ((Sx.blend s (c 2) (c 3) (c 4) (c 5)) 29), .int .i64 ((Sx.blend s (c 2) (c 3) (c 4) (c 5)) 30), .int .i64 ((Sx.blend s (c 2) (c 3) (c 4) (c 5)) 31), .int .i64 ((Sx.blend s (c 2) (c 3) (c 4) (c 5)) 32), .int .i64 ((Sx.blend s (c 2) (c 3) (c 4) (c 5)) 33), .int .i64 ((Sx.blend s (c 2) (c 3) (c 4) (c 5)) 34), .int .i64 ((Sx.blend s (c 2) (c 3) (c 4) (c 5)) 35), .int .i64 ((Sx.blend s (c 2) (c 3) (c 4) (c 5)) 36), .int .i64 ((Sx.blend s (c 2) (c 3) (c 4) (c 5)) 37), .int .i64 ((Sx.blend s (c 2) (c 3) (c 4) (c 5)) 38), .int .i64 ((Sx.blend s (c 2) (c 3) (c 4) (c 5)) 39), .bool q]) :: ms) := by
  have T1 := fun W => bcheck_any (c 2) (c 3) (c 4) (c 5) W
  have HO := Lib.hid (ho.newAt w.heap.size rfl (.int .i64 (c 0)) [.int .i64 (c 1), .int .i64 (c 2), .int .i64 (c 3), .int .i64 (c 4), .int .i64 (c 5), v, u] 35)
  have c2 := (HO.out.at 0 rfl).cell 2 rfl
  have c3 := (HO.out.at 0 rfl).cell 3 rfl
  have c4 := (HO.out.at 0 rfl).cell 4 rfl
  have c5 := (HO.out.at 0 rfl).cell 5 rfl
  clear ho
  go_enter Try.func45, Try.ntmps45
  go_upto_region 2 with ((with_reducible show wpList _ _ _ ({ dst := _, op := Op.store 29 (Operand.tmp 16) _, type := _, pos := _, after := _, guard := _ } :: _) _ _); refine wpList_stm ty_blend HO.out 1 [.int .i64 (c 2), .int .i64 (c 3), .int .i64 (c 4), .int .i64 (c 5)] rfl _ _ rfl _ 33 rfl rfl _ rfl (by simp) rfl rfl ?_; intro w2 l2; simp only [setsAt, List.set_cons_zero, List.set_cons_succ] at l2; clear HO; have HO := Lib.hid l2; clear l2)
  clear c2 c3 c4 c5
  go_wp2_with (first | ((with_reducible show wpList _ _ _ ({ dst := _, op := Op.load 29 (Operand.tmp 19), type := _, pos := _, after := _, guard := _ } :: _) _ _); refine wpList_ldo ty_blend rfl _ rfl _ _ rfl [.int .i64 (s 0), .int .i64 (s 1), .int .i64 (s 2), .int .i64 (s 3), .int .i64 (s 4), .int .i64 (s 5), .int .i64 (s 6), .int .i64 (s 7), .int .i64 (s 8), .int .i64 (s 9), .int .i64 (s 10), .int .i64 (s 11), .int .i64 (s 12), .int .i64 (s 13), .int .i64 (s 14), .int .i64 (s 15), .int .i64 (s 16), .int .i64 (s 17), .int .i64 (s 18), .int .i64 (s 19), .int .i64 (s 20), .int .i64 (s 21), .int .i64 (s 22), .int .i64 (s 23), .int .i64 (s 24), .bool p, .int .i64 (s 26), .int .i64 (s 27), .int .i64 (s 28), .int .i64 (s 29), .int .i64 (s 30), .int .i64 (s 31), .int .i64 (s 32), .int .i64 (c 2), .int .i64 (c 3), .int .i64 (c 4), .int .i64 (c 5), .int .i64 (s 37), .int .i64 (s 38), .int .i64 (s 39), .bool q] rfl (Rc.some (HO.out.at 1 rfl)) ?_; intro us hus; dsimp only [List.drop, List.take] at hus; subst hus) | (go_at_call 31; (with_reducible refine (T1 _).mono ?_); rintro e wz ⟨rfl, hk1⟩; have l2 := HO.out.call hk1; clear HO hk1; have HO := Lib.hid l2; clear l2))
  go_ret
  exact ⟨rfl, HO.out.drop1⟩
set_option linter.unusedSimpArgs false in
set_option maxRecDepth 100000 in
set_option maxHeartbeats 8000000 in
theorem setView_any (s : Sf) (p q : Bool) (c : Sf) (v u : Value) (w0 w : World) (pb : Nat) (ms : List (Nat × List Value)) (ho : Ow w0 w ((pb, [.int .i64 (s 0), .int .i64 (s 1), .int .i64 (s 2), .int .i64 (s 3), .int .i64 (s 4), .int .i64 (s 5), .int .i64 (s 6), .int .i64 (s 7), .int .i64 (s 8), .int .i64 (s 9), .int .i64 (s 10), .int .i64 (s 11), .int .i64 (s 12), .int .i64 (s 13), .int .i64 (s 14), .int .i64 (s 15), .int .i64 (s 16), .int .i64 (s 17), .int .i64 (s 18), .int .i64 (s 19), .int .i64 (s 20), .int .i64 (s 21), .int .i64 (s 22), .int .i64 (s 23), .int .i64 (s 24), .bool p, .int .i64 (s 26), .int .i64 (s 27), .int .i64 (s 28), .int .i64 (s 29), .int .i64 (s 30), .int .i64 (s 31), .int .i64 (s 32), .int .i64 (s 33), .int .i64 (s 34), .int .i64 (s 35), .int .i64 (s 36), .int .i64 (s 37), .int .i64 (s 38), .int .i64 (s 39), .bool q]) :: ms)) :
    Calls Try.prog 41 #[.pointer (some ⟨pb, 0, none⟩), .agg #[.int .i64 (c 0), .int .i64 (c 1), .int .i64 (c 2), .int .i64 (c 3), .int .i64 (c 4), .int .i64 (c 5), v, u]] w fun e w' => e = .returned (.int .i64 (Sx.eView c)) ∧ ∃ us, Ow w0 w' ((pb, us) :: ms) ∧ (Sx.eView c = 0 → us = [.int .i64 ((Sx.rect 16 s (c 2) (c 3) (c 2 + c 4) (c 3 + c 5)) 0), .int .i64 ((Sx.rect 16 s (c 2) (c 3) (c 2 + c 4) (c 3 + c 5)) 1), .int .i64 ((Sx.rect 16 s (c 2) (c 3) (c 2 + c 4) (c 3 + c 5)) 2), .int .i64 ((Sx.rect 16 s (c 2) (c 3) (c 2 + c 4) (c 3 + c 5)) 3), .int .i64 ((Sx.rect 16 s (c 2) (c 3) (c 2 + c 4) (c 3 + c 5)) 4), .int .i64 ((Sx.rect 16 s (c 2) (c 3) (c 2 + c 4) (c 3 + c 5)) 5), .int .i64 ((Sx.rect 16 s (c 2) (c 3) (c 2 + c 4) (c 3 + c 5)) 6), .int .i64 ((Sx.rect 16 s (c 2) (c 3) (c 2 + c 4) (c 3 + c 5)) 7), .int .i64 ((Sx.rect 16 s (c 2) (c 3) (c 2 + c 4) (c 3 + c 5)) 8), .int .i64 ((Sx.rect 16 s (c 2) (c 3) (c 2 + c 4) (c 3 + c 5)) 9), .int .i64 ((Sx.rect 16 s (c 2) (c 3) (c 2 + c 4) (c 3 + c 5)) 10), .int .i64 ((Sx.rect 16 s (c 2) (c 3) (c 2 + c 4) (c 3 + c 5)) 11), .int .i64 ((Sx.rect 16 s (c 2) (c 3) (c 2 + c 4) (c 3 + c 5)) 12), .int .i64 ((Sx.rect 16 s (c 2) (c 3) (c 2 + c 4) (c 3 + c 5)) 13), .int .i64 ((Sx.rect 16 s (c 2) (c 3) (c 2 + c 4) (c 3 + c 5)) 14), .int .i64 ((Sx.rect 16 s (c 2) (c 3) (c 2 + c 4) (c 3 + c 5)) 15), .int .i64 ((Sx.rect 16 s (c 2) (c 3) (c 2 + c 4) (c 3 + c 5)) 16), .int .i64 ((Sx.rect 16 s (c 2) (c 3) (c 2 + c 4) (c 3 + c 5)) 17), .int .i64 ((Sx.rect 16 s (c 2) (c 3) (c 2 + c 4) (c 3 + c 5)) 18), .int .i64 ((Sx.rect 16 s (c 2) (c 3) (c 2 + c 4) (c 3 + c 5)) 19), .int .i64 ((Sx.rect 16 s (c 2) (c 3) (c 2 + c 4) (c 3 + c 5)) 20), .int .i64 ((Sx.rect 16 s (c 2) (c 3) (c 2 + c 4) (c 3 + c 5)) 21), .int .i64 ((Sx.rect 16 s (c 2) (c 3) (c 2 + c 4) (c 3 + c 5)) 22), .int .i64 ((Sx.rect 16 s (c 2) (c 3) (c 2 + c 4) (c 3 + c 5)) 23), .int .i64 ((Sx.rect 16 s (c 2) (c 3) (c 2 + c 4) (c 3 + c 5)) 24), .bool p, .int .i64 ((Sx.rect 16 s (c 2) (c 3) (c 2 + c 4) (c 3 + c 5)) 26), .int .i64 ((Sx.rect 16 s (c 2) (c 3) (c 2 + c 4) (c 3 + c 5)) 27), .int .i64 ((Sx.rect 16 s (c 2) (c 3) (c 2 + c 4) (c 3 + c 5)) 28), .int .i64 ((Sx.rect 16 s (c 2) (c 3) (c 2 + c 4) (c 3 + c 5)) 29), .int .i64 ((Sx.rect 16 s (c 2) (c 3) (c 2 + c 4) (c 3 + c 5)) 30), .int .i64 ((Sx.rect 16 s (c 2) (c 3) (c 2 + c 4) (c 3 + c 5)) 31), .int .i64 ((Sx.rect 16 s (c 2) (c 3) (c 2 + c 4) (c 3 + c 5)) 32), .int .i64 ((Sx.rect 16 s (c 2) (c 3) (c 2 + c 4) (c 3 + c 5)) 33), .int .i64 ((Sx.rect 16 s (c 2) (c 3) (c 2 + c 4) (c 3 + c 5)) 34), .int .i64 ((Sx.rect 16 s (c 2) (c 3) (c 2 + c 4) (c 3 + c 5)) 35), .int .i64 ((Sx.rect 16 s (c 2) (c 3) (c 2 + c 4) (c 3 + c 5)) 36), .int .i64 ((Sx.rect 16 s (c 2) (c 3) (c 2 + c 4) (c 3 + c 5)) 37), .int .i64 ((Sx.rect 16 s (c 2) (c 3) (c 2 + c 4) (c 3 + c 5)) 38), .int .i64 ((Sx.rect 16 s (c 2) (c 3) (c 2 + c 4) (c 3 + c 5)) 39), .bool q]) := by
  have HO := Lib.hid (ho.newAt w.heap.size rfl (.int .i64 (c 0)) [.int .i64 (c 1), .int .i64 (c 2), .int .i64 (c 3), .int .i64 (c 4), .int .i64 (c 5), v, u] 35)
  have c2 := (HO.out.at 0 rfl).cell 2 rfl
  have c3 := (HO.out.at 0 rfl).cell 3 rfl
  have c4 := (HO.out.at 0 rfl).cell 4 rfl
  have c5 := (HO.out.at 0 rfl).cell 5 rfl
  cases hv : Rt.view (c 2) (c 3) (c 4) (c 5)
  · have T1 := fun W => of_no (c 2) (c 3) (c 4) (c 5) W hv
    have HR := Lib.hid (show Sx.eView c = 12 by unfold Sx.eView; rw [hv]; rfl)
    clear hv
    generalize Sx.eView c = r at *
    clear ho
    go_enter Try.func41, Try.ntmps41
    go_wp2_with (first | (go_at_call 61; (with_reducible refine (T1 _).mono ?_); rintro e wz ⟨rfl, hk1⟩; have l2 := HO.out.call hk1; clear HO hk1; have HO := Lib.hid l2; clear l2) | ((with_reducible show wpList _ _ _ ({ dst := _, op := Op.store 25 (Operand.tmp 19) _, type := _, pos := _, after := _, guard := _ } :: _) _ _); refine wpList_stm ty_rect HO.out 1 [.int .i64 0, .int .i64 0, .int .i64 0, .int .i64 0] rfl _ _ rfl _ 16 rfl rfl _ rfl (by simp) rfl rfl ?_; intro w2 l2; simp only [setsAt, List.set_cons_zero, List.set_cons_succ] at l2; clear HO; have HO := Lib.hid l2; clear l2))
    go_ret
    exact ⟨ret_int HR.out.symm, _, HO.out.drop1, fun h => by rw [HR.out] at h; cases h⟩
  · have T1 := fun W => of_yes (c 2) (c 3) (c 4) (c 5) W hv
    have HR := Lib.hid (show Sx.eView c = 0 by unfold Sx.eView; rw [hv]; rfl)
    clear hv
    generalize Sx.eView c = r at *
    generalize hx : c 2 + c 4 = x at *
    generalize hy : c 3 + c 5 = y at *
    clear hx hy
    clear ho
    go_enter Try.func41, Try.ntmps41
    go_wp2_with (first | (go_at_call 61; (with_reducible refine (T1 _).mono ?_); rintro e wz ⟨rfl, hk1⟩; have l2 := HO.out.call hk1; clear HO hk1; have HO := Lib.hid l2; clear l2) | ((with_reducible show wpList _ _ _ ({ dst := _, op := Op.store 25 (Operand.tmp 19) _, type := _, pos := _, after := _, guard := _ } :: _) _ _); refine wpList_stm ty_rect HO.out 1 [.int .i64 (c 2), .int .i64 (c 3), .int .i64 x, .int .i64 y] rfl _ _ rfl _ 16 rfl rfl _ rfl (by simp) rfl rfl ?_; intro w2 l2; simp only [setsAt, List.set_cons_zero, List.set_cons_succ] at l2; clear HO; have HO := Lib.hid l2; clear l2))
    go_ret
    exact ⟨ret_int HR.out.symm, _, HO.out.drop1, fun _ => rfl⟩
set_option linter.unusedSimpArgs false in
set_option maxRecDepth 100000 in
set_option maxHeartbeats 8000000 in
theorem setSciss_any (s : Sf) (p q : Bool) (c : Sf) (v u : Value) (w0 w : World) (pb : Nat) (ms : List (Nat × List Value)) (ho : Ow w0 w ((pb, [.int .i64 (s 0), .int .i64 (s 1), .int .i64 (s 2), .int .i64 (s 3), .int .i64 (s 4), .int .i64 (s 5), .int .i64 (s 6), .int .i64 (s 7), .int .i64 (s 8), .int .i64 (s 9), .int .i64 (s 10), .int .i64 (s 11), .int .i64 (s 12), .int .i64 (s 13), .int .i64 (s 14), .int .i64 (s 15), .int .i64 (s 16), .int .i64 (s 17), .int .i64 (s 18), .int .i64 (s 19), .int .i64 (s 20), .int .i64 (s 21), .int .i64 (s 22), .int .i64 (s 23), .int .i64 (s 24), .bool p, .int .i64 (s 26), .int .i64 (s 27), .int .i64 (s 28), .int .i64 (s 29), .int .i64 (s 30), .int .i64 (s 31), .int .i64 (s 32), .int .i64 (s 33), .int .i64 (s 34), .int .i64 (s 35), .int .i64 (s 36), .int .i64 (s 37), .int .i64 (s 38), .int .i64 (s 39), .bool q]) :: ms)) :
    Calls Try.prog 42 #[.pointer (some ⟨pb, 0, none⟩), .agg #[.int .i64 (c 0), .int .i64 (c 1), .int .i64 (c 2), .int .i64 (c 3), .int .i64 (c 4), .int .i64 (c 5), v, u]] w fun e w' => e = .returned (.int .i64 (Sx.eView c)) ∧ ∃ us, Ow w0 w' ((pb, us) :: ms) ∧ (Sx.eView c = 0 → us = [.int .i64 ((Sx.rect 20 s (c 2) (c 3) (c 2 + c 4) (c 3 + c 5)) 0), .int .i64 ((Sx.rect 20 s (c 2) (c 3) (c 2 + c 4) (c 3 + c 5)) 1), .int .i64 ((Sx.rect 20 s (c 2) (c 3) (c 2 + c 4) (c 3 + c 5)) 2), .int .i64 ((Sx.rect 20 s (c 2) (c 3) (c 2 + c 4) (c 3 + c 5)) 3), .int .i64 ((Sx.rect 20 s (c 2) (c 3) (c 2 + c 4) (c 3 + c 5)) 4), .int .i64 ((Sx.rect 20 s (c 2) (c 3) (c 2 + c 4) (c 3 + c 5)) 5), .int .i64 ((Sx.rect 20 s (c 2) (c 3) (c 2 + c 4) (c 3 + c 5)) 6), .int .i64 ((Sx.rect 20 s (c 2) (c 3) (c 2 + c 4) (c 3 + c 5)) 7), .int .i64 ((Sx.rect 20 s (c 2) (c 3) (c 2 + c 4) (c 3 + c 5)) 8), .int .i64 ((Sx.rect 20 s (c 2) (c 3) (c 2 + c 4) (c 3 + c 5)) 9), .int .i64 ((Sx.rect 20 s (c 2) (c 3) (c 2 + c 4) (c 3 + c 5)) 10), .int .i64 ((Sx.rect 20 s (c 2) (c 3) (c 2 + c 4) (c 3 + c 5)) 11), .int .i64 ((Sx.rect 20 s (c 2) (c 3) (c 2 + c 4) (c 3 + c 5)) 12), .int .i64 ((Sx.rect 20 s (c 2) (c 3) (c 2 + c 4) (c 3 + c 5)) 13), .int .i64 ((Sx.rect 20 s (c 2) (c 3) (c 2 + c 4) (c 3 + c 5)) 14), .int .i64 ((Sx.rect 20 s (c 2) (c 3) (c 2 + c 4) (c 3 + c 5)) 15), .int .i64 ((Sx.rect 20 s (c 2) (c 3) (c 2 + c 4) (c 3 + c 5)) 16), .int .i64 ((Sx.rect 20 s (c 2) (c 3) (c 2 + c 4) (c 3 + c 5)) 17), .int .i64 ((Sx.rect 20 s (c 2) (c 3) (c 2 + c 4) (c 3 + c 5)) 18), .int .i64 ((Sx.rect 20 s (c 2) (c 3) (c 2 + c 4) (c 3 + c 5)) 19), .int .i64 ((Sx.rect 20 s (c 2) (c 3) (c 2 + c 4) (c 3 + c 5)) 20), .int .i64 ((Sx.rect 20 s (c 2) (c 3) (c 2 + c 4) (c 3 + c 5)) 21), .int .i64 ((Sx.rect 20 s (c 2) (c 3) (c 2 + c 4) (c 3 + c 5)) 22), .int .i64 ((Sx.rect 20 s (c 2) (c 3) (c 2 + c 4) (c 3 + c 5)) 23), .int .i64 ((Sx.rect 20 s (c 2) (c 3) (c 2 + c 4) (c 3 + c 5)) 24), .bool p, .int .i64 ((Sx.rect 20 s (c 2) (c 3) (c 2 + c 4) (c 3 + c 5)) 26), .int .i64 ((Sx.rect 20 s (c 2) (c 3) (c 2 + c 4) (c 3 + c 5)) 27), .int .i64 ((Sx.rect 20 s (c 2) (c 3) (c 2 + c 4) (c 3 + c 5)) 28), .int .i64 ((Sx.rect 20 s (c 2) (c 3) (c 2 + c 4) (c 3 + c 5)) 29), .int .i64 ((Sx.rect 20 s (c 2) (c 3) (c 2 + c 4) (c 3 + c 5)) 30), .int .i64 ((Sx.rect 20 s (c 2) (c 3) (c 2 + c 4) (c 3 + c 5)) 31), .int .i64 ((Sx.rect 20 s (c 2) (c 3) (c 2 + c 4) (c 3 + c 5)) 32), .int .i64 ((Sx.rect 20 s (c 2) (c 3) (c 2 + c 4) (c 3 + c 5)) 33), .int .i64 ((Sx.rect 20 s (c 2) (c 3) (c 2 + c 4) (c 3 + c 5)) 34), .int .i64 ((Sx.rect 20 s (c 2) (c 3) (c 2 + c 4) (c 3 + c 5)) 35), .int .i64 ((Sx.rect 20 s (c 2) (c 3) (c 2 + c 4) (c 3 + c 5)) 36), .int .i64 ((Sx.rect 20 s (c 2) (c 3) (c 2 + c 4) (c 3 + c 5)) 37), .int .i64 ((Sx.rect 20 s (c 2) (c 3) (c 2 + c 4) (c 3 + c 5)) 38), .int .i64 ((Sx.rect 20 s (c 2) (c 3) (c 2 + c 4) (c 3 + c 5)) 39), .bool q]) := by
  have HO := Lib.hid (ho.newAt w.heap.size rfl (.int .i64 (c 0)) [.int .i64 (c 1), .int .i64 (c 2), .int .i64 (c 3), .int .i64 (c 4), .int .i64 (c 5), v, u] 35)
  have c2 := (HO.out.at 0 rfl).cell 2 rfl
  have c3 := (HO.out.at 0 rfl).cell 3 rfl
  have c4 := (HO.out.at 0 rfl).cell 4 rfl
  have c5 := (HO.out.at 0 rfl).cell 5 rfl
  cases hv : Rt.view (c 2) (c 3) (c 4) (c 5)
  · have T1 := fun W => of_no (c 2) (c 3) (c 4) (c 5) W hv
    have HR := Lib.hid (show Sx.eView c = 12 by unfold Sx.eView; rw [hv]; rfl)
    clear hv
    generalize Sx.eView c = r at *
    clear ho
    go_enter Try.func42, Try.ntmps42
    go_wp2_with (first | (go_at_call 61; (with_reducible refine (T1 _).mono ?_); rintro e wz ⟨rfl, hk1⟩; have l2 := HO.out.call hk1; clear HO hk1; have HO := Lib.hid l2; clear l2) | ((with_reducible show wpList _ _ _ ({ dst := _, op := Op.store 25 (Operand.tmp 19) _, type := _, pos := _, after := _, guard := _ } :: _) _ _); refine wpList_stm ty_rect HO.out 1 [.int .i64 0, .int .i64 0, .int .i64 0, .int .i64 0] rfl _ _ rfl _ 20 rfl rfl _ rfl (by simp) rfl rfl ?_; intro w2 l2; simp only [setsAt, List.set_cons_zero, List.set_cons_succ] at l2; clear HO; have HO := Lib.hid l2; clear l2))
    go_ret
    exact ⟨ret_int HR.out.symm, _, HO.out.drop1, fun h => by rw [HR.out] at h; cases h⟩
  · have T1 := fun W => of_yes (c 2) (c 3) (c 4) (c 5) W hv
    have HR := Lib.hid (show Sx.eView c = 0 by unfold Sx.eView; rw [hv]; rfl)
    clear hv
    generalize Sx.eView c = r at *
    generalize hx : c 2 + c 4 = x at *
    generalize hy : c 3 + c 5 = y at *
    clear hx hy
    clear ho
    go_enter Try.func42, Try.ntmps42
    go_wp2_with (first | (go_at_call 61; (with_reducible refine (T1 _).mono ?_); rintro e wz ⟨rfl, hk1⟩; have l2 := HO.out.call hk1; clear HO hk1; have HO := Lib.hid l2; clear l2) | ((with_reducible show wpList _ _ _ ({ dst := _, op := Op.store 25 (Operand.tmp 19) _, type := _, pos := _, after := _, guard := _ } :: _) _ _); refine wpList_stm ty_rect HO.out 1 [.int .i64 (c 2), .int .i64 (c 3), .int .i64 x, .int .i64 y] rfl _ _ rfl _ 20 rfl rfl _ rfl (by simp) rfl rfl ?_; intro w2 l2; simp only [setsAt, List.set_cons_zero, List.set_cons_succ] at l2; clear HO; have HO := Lib.hid l2; clear l2))
    go_ret
    exact ⟨ret_int HR.out.symm, _, HO.out.drop1, fun _ => rfl⟩
end Go.Proofs.Ytoejknkjfnnffaa
