/-
  OrderOrders, way by way: the walk of the law where all three are right. Numbers are within their types.
  OrderOrders: a capability that is not sealed is no more than itself; what is no more than what is no more is no more; moved it is no more: the walk of the law. No condition.
-/
import Derived.Test.YtkddgjaflcjhiaaOWorks
import Derived.Test.YtkddgjaflcjhiaaORight
import Derived.Test.YtkddgjaflcjhiaaOMath
namespace Go.Proofs.Ytkddgjaflcjhiaa
open Go.ChangeShapes Go.WideShapes Go.ChangeAt Go.RowKit Go.Maps
set_option linter.unusedVariables false
set_option linter.unusedSimpArgs false
set_option maxHeartbeats 2000000 in
set_option maxRecDepth 100000 in
theorem orders_no (a b c : Cp) (at' : Int) (ra : Raw a) (rb : Raw b) (rc : Raw c) (hr : rightL [a, b, c] = false) (w : World) :
    Calls Try.prog 10 #[.agg #[a.tg, a.pe, a.ty, a.mo, a.e, a.b, a.t, a.g, .int .u64 a.a], .agg #[b.tg, b.pe, b.ty, b.mo, b.e, b.b, b.t, b.g, .int .u64 b.a], .agg #[c.tg, c.pe, c.ty, c.mo, c.e, c.b, c.t, c.g, .int .u64 c.a], .int .u64 at'] w fun e' w' => e' = .returned (.bool true) ∧ Below w.heap.size w w' := by
  have HRT : Hid (∀ (A : Option Addr) (n : Nat) (w1 : World), Rd w1 w1.heap.size A [a, b, c] → Calls Try.prog 20 #[.slice A 3 n] w1 fun e' w' => e' = .returned (.bool false) ∧ Kp w1 w') := Lib.hid (fun A n w1 h => rightl_w [a, b, c] A n w1 h (by simp) (by intro d hd; simp at hd; rcases hd with rfl | rfl | rfl; exact ra; exact rb; exact rc) false hr)
  have HR0 : Hid (∀ w1 : World, Rd (w1.alloc (.cells #[a.tg, a.pe, a.ty, a.mo, a.e, a.b, a.t, a.g, .int .u64 a.a, b.tg, b.pe, b.ty, b.mo, b.e, b.b, b.t, b.g, .int .u64 b.a, c.tg, c.pe, c.ty, c.mo, c.e, c.b, c.t, c.g, .int .u64 c.a] 25)) (w1.alloc (.cells #[a.tg, a.pe, a.ty, a.mo, a.e, a.b, a.t, a.g, .int .u64 a.a, b.tg, b.pe, b.ty, b.mo, b.e, b.b, b.t, b.g, .int .u64 b.a, c.tg, c.pe, c.ty, c.mo, c.e, c.b, c.t, c.g, .int .u64 c.a] 25)).heap.size (some ⟨w1.heap.size, 0, none⟩) [a, b, c]) := Lib.hid (fun w1 => rd_new [a, b, c] w1)
  have L3 : Bl w (w.heap.size + 1 + 1 + 1) (((w.alloc (.cells #[a.tg, a.pe, a.ty, a.mo, a.e, a.b, a.t, a.g, .int .u64 a.a] 25)).alloc (.cells #[b.tg, b.pe, b.ty, b.mo, b.e, b.b, b.t, b.g, .int .u64 b.a] 25)).alloc (.cells #[c.tg, c.pe, c.ty, c.mo, c.e, c.b, c.t, c.g, .int .u64 c.a] 25)) := ⟨(((Below.refl _ _).alloc (Nat.le_refl _) _).alloc (by simp) _).alloc (by simp; omega) _, by omega, by simp⟩
  have A3 : At (w.heap.size) [a.tg, a.pe, a.ty, a.mo, a.e, a.b, a.t, a.g, .int .u64 a.a] (((w.alloc (.cells #[a.tg, a.pe, a.ty, a.mo, a.e, a.b, a.t, a.g, .int .u64 a.a] 25)).alloc (.cells #[b.tg, b.pe, b.ty, b.mo, b.e, b.b, b.t, b.g, .int .u64 b.a] 25)).alloc (.cells #[c.tg, c.pe, c.ty, c.mo, c.e, c.b, c.t, c.g, .int .u64 c.a] 25)) := ((At.new w [a.tg, a.pe, a.ty, a.mo, a.e, a.b, a.t, a.g, .int .u64 a.a] 25).alloc _).alloc _
  have B3 : At (w.heap.size + 1) [b.tg, b.pe, b.ty, b.mo, b.e, b.b, b.t, b.g, .int .u64 b.a] (((w.alloc (.cells #[a.tg, a.pe, a.ty, a.mo, a.e, a.b, a.t, a.g, .int .u64 a.a] 25)).alloc (.cells #[b.tg, b.pe, b.ty, b.mo, b.e, b.b, b.t, b.g, .int .u64 b.a] 25)).alloc (.cells #[c.tg, c.pe, c.ty, c.mo, c.e, c.b, c.t, c.g, .int .u64 c.a] 25)) := (At.new' (w.alloc (.cells #[a.tg, a.pe, a.ty, a.mo, a.e, a.b, a.t, a.g, .int .u64 a.a] 25)) [b.tg, b.pe, b.ty, b.mo, b.e, b.b, b.t, b.g, .int .u64 b.a] 25 (by simp)).alloc _
  have C3 : At (w.heap.size + 1 + 1) [c.tg, c.pe, c.ty, c.mo, c.e, c.b, c.t, c.g, .int .u64 c.a] (((w.alloc (.cells #[a.tg, a.pe, a.ty, a.mo, a.e, a.b, a.t, a.g, .int .u64 a.a] 25)).alloc (.cells #[b.tg, b.pe, b.ty, b.mo, b.e, b.b, b.t, b.g, .int .u64 b.a] 25)).alloc (.cells #[c.tg, c.pe, c.ty, c.mo, c.e, c.b, c.t, c.g, .int .u64 c.a] 25)) := At.new' ((w.alloc (.cells #[a.tg, a.pe, a.ty, a.mo, a.e, a.b, a.t, a.g, .int .u64 a.a] 25)).alloc (.cells #[b.tg, b.pe, b.ty, b.mo, b.e, b.b, b.t, b.g, .int .u64 b.a] 25)) [c.tg, c.pe, c.ty, c.mo, c.e, c.b, c.t, c.g, .int .u64 c.a] 25 (by simp)
  clear ra rb rc hr
  go_enter Try.func10, Try.ntmps10
  go_upto_region 1 with fail
  generalize hw0 : (((w.alloc (.cells #[a.tg, a.pe, a.ty, a.mo, a.e, a.b, a.t, a.g, .int .u64 a.a] 25)).alloc (.cells #[b.tg, b.pe, b.ty, b.mo, b.e, b.b, b.t, b.g, .int .u64 b.a] 25)).alloc (.cells #[c.tg, c.pe, c.ty, c.mo, c.e, c.b, c.t, c.g, .int .u64 c.a] 25)) = w0 at A3 B3 C3 L3 ⊢
  clear hw0
  obtain ⟨_, _, _, _, _, _, _, _, _⟩ := A3.out9
  obtain ⟨_, _, _, _, _, _, _, _, _⟩ := B3.out9
  obtain ⟨_, _, _, _, _, _, _, _, _⟩ := C3.out9
  have HL3 := Lib.hid L3
  clear A3 B3 C3 L3
  go_wp2_with (first
    | (go_at_call 20; (with_reducible refine (HRT.out _ _ _ (HR0.out w0)).mono ?_); rintro e' w1 ⟨rfl, qk⟩; have HL4 := Lib.hid ((HL3.out.alloc _).step qk.1); clear qk)
    | (go_at_call 13; (with_reducible refine (works_w _).mono ?_); rintro e' wz ⟨rfl, hbz⟩; have BZ := Lib.hid (HL4.out.step hbz).bl; clear hbz))
  go_ret
  exact ⟨rfl, BZ.out⟩
set_option maxHeartbeats 2000000 in
set_option maxRecDepth 100000 in
theorem orders_f (a b c : Cp) (at' : Int) (ha : RC a) (hb : RC b) (hc : RC c) (ra : Raw a) (rb : Raw b) (rc : Raw c) (hr : rightL [a, b, c] = true) (a0 : 0 ≤ at') (a1 : at' < 18446744073709551616) (h0 : a.tg = false) (w : World) :
    Calls Try.prog 10 #[.agg #[false, a.pe, a.ty, a.mo, a.e, a.b, a.t, a.g, .int .u64 a.a], .agg #[b.tg, b.pe, b.ty, b.mo, b.e, b.b, b.t, b.g, .int .u64 b.a], .agg #[c.tg, c.pe, c.ty, c.mo, c.e, c.b, c.t, c.g, .int .u64 c.a], .int .u64 at'] w fun e' w' => e' = .returned (.bool true) ∧ Below w.heap.size w w' := by
  have eaa : lessB a a = false := less_no a a (.inl h0)
  have eab : lessB a b = false := less_no a b (.inl h0)
  have LAA : Hid (∀ w1 : World, Calls Try.prog 25 #[.agg #[false, a.pe, a.ty, a.mo, a.e, a.b, a.t, a.g, .int .u64 a.a], .agg #[false, a.pe, a.ty, a.mo, a.e, a.b, a.t, a.g, .int .u64 a.a]] w1 fun e' w' => e' = .returned (.bool false) ∧ Below w1.heap.size w1 w') := Lib.hid (fun w1 => by have := kb (less_o a a ha ha false eaa w1); rw [h0] at this; exact this)
  have LAB : Hid (∀ w1 : World, Calls Try.prog 25 #[.agg #[false, a.pe, a.ty, a.mo, a.e, a.b, a.t, a.g, .int .u64 a.a], .agg #[b.tg, b.pe, b.ty, b.mo, b.e, b.b, b.t, b.g, .int .u64 b.a]] w1 fun e' w' => e' = .returned (.bool false) ∧ Below w1.heap.size w1 w') := Lib.hid (fun w1 => by have := kb (less_o a b ha hb false eab w1); rw [h0] at this; exact this)
  have HRT : Hid (∀ (A : Option Addr) (n : Nat) (w1 : World), Rd w1 w1.heap.size A [a, b, c] → Calls Try.prog 20 #[.slice A 3 n] w1 fun e' w' => e' = .returned (.bool true) ∧ Kp w1 w') := Lib.hid (fun A n w1 h => rightl_w [a, b, c] A n w1 h (by simp) (by intro d hd; simp at hd; rcases hd with rfl | rfl | rfl; exact ra; exact rb; exact rc) true hr)
  have ev : vsL [a, b, c] = [.bool false, .int .i64 a.pe, .int .i64 a.ty, .int .i64 a.mo, .int .i64 a.e, .int .i64 a.b, .int .i64 a.t, .bool a.g, .int .u64 a.a, .bool b.tg, .int .i64 b.pe, .int .i64 b.ty, .int .i64 b.mo, .int .i64 b.e, .int .i64 b.b, .int .i64 b.t, .bool b.g, .int .u64 b.a, .bool c.tg, .int .i64 c.pe, .int .i64 c.ty, .int .i64 c.mo, .int .i64 c.e, .int .i64 c.b, .int .i64 c.t, .bool c.g, .int .u64 c.a] := by simp [vsL, Cp.vs, h0]
  have hr0 : ∀ w1 : World, Rd (w1.alloc (.cells #[false, a.pe, a.ty, a.mo, a.e, a.b, a.t, a.g, .int .u64 a.a, b.tg, b.pe, b.ty, b.mo, b.e, b.b, b.t, b.g, .int .u64 b.a, c.tg, c.pe, c.ty, c.mo, c.e, c.b, c.t, c.g, .int .u64 c.a] 25)) (w1.alloc (.cells #[false, a.pe, a.ty, a.mo, a.e, a.b, a.t, a.g, .int .u64 a.a, b.tg, b.pe, b.ty, b.mo, b.e, b.b, b.t, b.g, .int .u64 b.a, c.tg, c.pe, c.ty, c.mo, c.e, c.b, c.t, c.g, .int .u64 c.a] 25)).heap.size (some ⟨w1.heap.size, 0, none⟩) [a, b, c] := fun w1 => by have := rd_new [a, b, c] w1; rw [ev] at this; exact this
  have HR0 := Lib.hid hr0
  have A3 : At (w.heap.size) [false, a.pe, a.ty, a.mo, a.e, a.b, a.t, a.g, .int .u64 a.a] (((w.alloc (.cells #[false, a.pe, a.ty, a.mo, a.e, a.b, a.t, a.g, .int .u64 a.a] 25)).alloc (.cells #[b.tg, b.pe, b.ty, b.mo, b.e, b.b, b.t, b.g, .int .u64 b.a] 25)).alloc (.cells #[c.tg, c.pe, c.ty, c.mo, c.e, c.b, c.t, c.g, .int .u64 c.a] 25)) := ((At.new w [false, a.pe, a.ty, a.mo, a.e, a.b, a.t, a.g, .int .u64 a.a] 25).alloc _).alloc _
  have B3 : At (w.heap.size + 1) [b.tg, b.pe, b.ty, b.mo, b.e, b.b, b.t, b.g, .int .u64 b.a] (((w.alloc (.cells #[false, a.pe, a.ty, a.mo, a.e, a.b, a.t, a.g, .int .u64 a.a] 25)).alloc (.cells #[b.tg, b.pe, b.ty, b.mo, b.e, b.b, b.t, b.g, .int .u64 b.a] 25)).alloc (.cells #[c.tg, c.pe, c.ty, c.mo, c.e, c.b, c.t, c.g, .int .u64 c.a] 25)) := (At.new' (w.alloc (.cells #[false, a.pe, a.ty, a.mo, a.e, a.b, a.t, a.g, .int .u64 a.a] 25)) [b.tg, b.pe, b.ty, b.mo, b.e, b.b, b.t, b.g, .int .u64 b.a] 25 (by simp)).alloc _
  have C3 : At (w.heap.size + 1 + 1) [c.tg, c.pe, c.ty, c.mo, c.e, c.b, c.t, c.g, .int .u64 c.a] (((w.alloc (.cells #[false, a.pe, a.ty, a.mo, a.e, a.b, a.t, a.g, .int .u64 a.a] 25)).alloc (.cells #[b.tg, b.pe, b.ty, b.mo, b.e, b.b, b.t, b.g, .int .u64 b.a] 25)).alloc (.cells #[c.tg, c.pe, c.ty, c.mo, c.e, c.b, c.t, c.g, .int .u64 c.a] 25)) := At.new' ((w.alloc (.cells #[false, a.pe, a.ty, a.mo, a.e, a.b, a.t, a.g, .int .u64 a.a] 25)).alloc (.cells #[b.tg, b.pe, b.ty, b.mo, b.e, b.b, b.t, b.g, .int .u64 b.a] 25)) [c.tg, c.pe, c.ty, c.mo, c.e, c.b, c.t, c.g, .int .u64 c.a] 25 (by simp)
  have L3 : Bl w (w.heap.size + 1 + 1 + 1) (((w.alloc (.cells #[false, a.pe, a.ty, a.mo, a.e, a.b, a.t, a.g, .int .u64 a.a] 25)).alloc (.cells #[b.tg, b.pe, b.ty, b.mo, b.e, b.b, b.t, b.g, .int .u64 b.a] 25)).alloc (.cells #[c.tg, c.pe, c.ty, c.mo, c.e, c.b, c.t, c.g, .int .u64 c.a] 25)) := ⟨(((Below.refl _ _).alloc (Nat.le_refl _) _).alloc (by simp) _).alloc (by simp; omega) _, by omega, by simp⟩
  clear eaa eab ra rb rc hr hr0 ev
  go_enter Try.func10, Try.ntmps10
  go_upto_region 1 with fail
  generalize hw0 : (((w.alloc (.cells #[false, a.pe, a.ty, a.mo, a.e, a.b, a.t, a.g, .int .u64 a.a] 25)).alloc (.cells #[b.tg, b.pe, b.ty, b.mo, b.e, b.b, b.t, b.g, .int .u64 b.a] 25)).alloc (.cells #[c.tg, c.pe, c.ty, c.mo, c.e, c.b, c.t, c.g, .int .u64 c.a] 25)) = w0 at A3 B3 C3 L3 ⊢
  clear hw0
  have le0 := L3.le
  obtain ⟨_, _, _, _, _, _, _, _, _⟩ := A3.out9
  obtain ⟨_, _, _, _, _, _, _, _, _⟩ := B3.out9
  obtain ⟨_, _, _, _, _, _, _, _, _⟩ := C3.out9
  have HA3 := Lib.hid A3
  have HB3 := Lib.hid B3
  have HC3 := Lib.hid C3
  have HL3 := Lib.hid L3
  clear A3 B3 C3 L3
  go_upto_region 3 with (go_at_call 20; (with_reducible refine (HRT.out _ _ _ (HR0.out w0)).mono ?_); rintro e' w1 ⟨rfl, qk⟩; have A4 : At (w.heap.size) [false, a.pe, a.ty, a.mo, a.e, a.b, a.t, a.g, .int .u64 a.a] w1 := (HA3.out.alloc _).kp qk (by simp; omega); have B4 : At (w.heap.size + 1) [b.tg, b.pe, b.ty, b.mo, b.e, b.b, b.t, b.g, .int .u64 b.a] w1 := (HB3.out.alloc _).kp qk (by simp; omega); have C4 : At (w.heap.size + 1 + 1) [c.tg, c.pe, c.ty, c.mo, c.e, c.b, c.t, c.g, .int .u64 c.a] w1 := (HC3.out.alloc _).kp qk (by simp; omega); have L4 : Bl w (w.heap.size + 1 + 1 + 1) w1 := (HL3.out.alloc _).step qk.1; clear qk)
  refine wp_region_held_drew (S := (fun w' => At (w.heap.size) [false, a.pe, a.ty, a.mo, a.e, a.b, a.t, a.g, .int .u64 a.a] w' ∧ At (w.heap.size + 1) [b.tg, b.pe, b.ty, b.mo, b.e, b.b, b.t, b.g, .int .u64 b.a] w' ∧ At (w.heap.size + 1 + 1) [c.tg, c.pe, c.ty, c.mo, c.e, c.b, c.t, c.g, .int .u64 c.a] w' ∧ Bl w (w.heap.size + 1 + 1 + 1) w')) (by kernel_rfl) ⟨At.drew (by with_reducible assumption), At.drew (by with_reducible assumption), At.drew (by with_reducible assumption), Bl.drew (by with_reducible assumption)⟩ (fun hS => ?_)
  generalize hgw : w1.drew = g0 at hS ⊢
  clear hgw
  try simp only [Act.put, zA, zB, zC]
  (refine tk 0 ?_ rfl (Or.inl ⟨by rfl, ?_⟩) hS ?_; rotate_left; focus (intro w' hSw; obtain ⟨s0, s1, s2, sb⟩ := hSw; obtain ⟨_, _, _, _, _, _, _, _, _⟩ := s0.out9; obtain ⟨_, _, _, _, _, _, _, _, _⟩ := s1.out9; obtain ⟨_, _, _, _, _, _, _, _, _⟩ := s2.out9; go_simp <;> try with_reducible rfl))
  try simp only [Act.put, zA, zB, zC]
  (refine tk 1 ?_ rfl (Or.inl ⟨by rfl, ?_⟩) hS ?_; rotate_left; focus (intro w' hSw; obtain ⟨s0, s1, s2, sb⟩ := hSw; obtain ⟨_, _, _, _, _, _, _, _, _⟩ := s0.out9; obtain ⟨_, _, _, _, _, _, _, _, _⟩ := s1.out9; obtain ⟨_, _, _, _, _, _, _, _, _⟩ := s2.out9; go_simp <;> try with_reducible rfl))
  try simp only [Act.put, zA, zB, zC]
  (refine tk 3 ?_ rfl (Or.inl ⟨by rfl, ?_⟩) hS ?_; rotate_left; focus (intro w' hSw; obtain ⟨s0, s1, s2, sb⟩ := hSw; go_simp <;> try with_reducible rfl))
  try simp only [Act.put, zA, zB, zC]
  (refine tk 4 ?_ rfl (Or.inl ⟨by rfl, ?_⟩) hS ?_; rotate_left; focus (intro w' hSw; obtain ⟨s0, s1, s2, sb⟩ := hSw; obtain ⟨_, _, _, _, _, _, _, _, _⟩ := s0.out9; obtain ⟨_, _, _, _, _, _, _, _, _⟩ := s1.out9; obtain ⟨_, _, _, _, _, _, _, _, _⟩ := s2.out9; go_simp <;> try with_reducible rfl))
  try simp only [Act.put, zA, zB, zC]
  refine rdy 2 rfl (fun K hK => ?_)
  refine take_if (by rfl) ?_
  obtain ⟨s0, s1, s2, sb⟩ := hS
  go_simp
  (with_reducible refine (LAA.out _).mono ?_)
  rintro e' g2 ⟨rfl, hb⟩
  have t0 := sb.at_ hb s0 (show w.heap.size < w.heap.size + 1 + 1 + 1 by omega)
  have t1 := sb.at_ hb s1 (show w.heap.size + 1 < w.heap.size + 1 + 1 + 1 by omega)
  have t2 := sb.at_ hb s2 (show w.heap.size + 1 + 1 < w.heap.size + 1 + 1 + 1 by omega)
  refine hK.out _ _ ⟨t0, t1, t2, (sb.step hb)⟩ (fun hS => ?_)
  clear hK K hb s0 t0 s1 t1 s2 t2 sb
  try simp only [Act.put, zA, zB, zC]
  (refine tk 5 ?_ rfl (Or.inl ⟨by rfl, ?_⟩) hS ?_; rotate_left; focus (intro w' hSw; obtain ⟨s0, s1, s2, sb⟩ := hSw; go_simp <;> try with_reducible rfl))
  try simp only [Act.put, zA, zB, zC]
  (refine wpAnyH_take (i := 6) (oi := ⟨_, _, _, _, _, _⟩) (v := undef) rfl (by kernel_rfl) (by kernel_rfl) (by kernel_rfl) (fun _ _ _ h => h) (Or.inr ⟨by rfl, rfl⟩) hS ?_)
  try simp only [Act.put, zA, zB, zC]
  refine rdy 7 rfl (fun K hK => ?_)
  refine skip_if (by rfl) ?_
  refine hK.out _ _ hS (fun hS => ?_)
  clear hK K
  try simp only [Act.put, zA, zB, zC]
  (refine wpAnyH_take (i := 8) (oi := ⟨_, _, _, _, _, _⟩) (v := undef) rfl (by kernel_rfl) (by kernel_rfl) (by kernel_rfl) (fun _ _ _ h => h) (Or.inr ⟨by rfl, rfl⟩) hS ?_)
  try simp only [Act.put, zA, zB, zC]
  (refine tk 9 ?_ rfl (Or.inl ⟨by rfl, ?_⟩) hS ?_; rotate_left; focus (intro w' hSw; obtain ⟨s0, s1, s2, sb⟩ := hSw; go_simp <;> try with_reducible rfl))
  try simp only [Act.put, zA, zB, zC]
  (refine tk 10 ?_ rfl (Or.inl ⟨by rfl, ?_⟩) hS ?_; rotate_left; focus (intro w' hSw; obtain ⟨s0, s1, s2, sb⟩ := hSw; go_simp <;> try with_reducible rfl))
  try simp only [Act.put, zA, zB, zC]
  (refine tk 11 ?_ rfl (Or.inl ⟨by rfl, ?_⟩) hS ?_; rotate_left; focus (intro w' hSw; obtain ⟨s0, s1, s2, sb⟩ := hSw; go_simp <;> try with_reducible rfl))
  try simp only [Act.put, zA, zB, zC]
  (refine tk 12 ?_ rfl (Or.inl ⟨by rfl, ?_⟩) hS ?_; rotate_left; focus (intro w' hSw; obtain ⟨s0, s1, s2, sb⟩ := hSw; obtain ⟨_, _, _, _, _, _, _, _, _⟩ := s0.out9; obtain ⟨_, _, _, _, _, _, _, _, _⟩ := s1.out9; obtain ⟨_, _, _, _, _, _, _, _, _⟩ := s2.out9; go_simp <;> try with_reducible rfl))
  try simp only [Act.put, zA, zB, zC]
  (refine tk 13 ?_ rfl (Or.inl ⟨by rfl, ?_⟩) hS ?_; rotate_left; focus (intro w' hSw; obtain ⟨s0, s1, s2, sb⟩ := hSw; obtain ⟨_, _, _, _, _, _, _, _, _⟩ := s0.out9; obtain ⟨_, _, _, _, _, _, _, _, _⟩ := s1.out9; obtain ⟨_, _, _, _, _, _, _, _, _⟩ := s2.out9; go_simp <;> try with_reducible rfl))
  try simp only [Act.put, zA, zB, zC]
  refine rdy 14 rfl (fun K hK => ?_)
  refine take_if (by rfl) ?_
  obtain ⟨s0, s1, s2, sb⟩ := hS
  go_simp
  (with_reducible refine (LAB.out _).mono ?_)
  rintro e' g14 ⟨rfl, hb⟩
  have t0 := sb.at_ hb s0 (show w.heap.size < w.heap.size + 1 + 1 + 1 by omega)
  have t1 := sb.at_ hb s1 (show w.heap.size + 1 < w.heap.size + 1 + 1 + 1 by omega)
  have t2 := sb.at_ hb s2 (show w.heap.size + 1 + 1 < w.heap.size + 1 + 1 + 1 by omega)
  refine hK.out _ _ ⟨t0, t1, t2, (sb.step hb)⟩ (fun hS => ?_)
  clear hK K hb s0 t0 s1 t1 s2 t2 sb
  try simp only [Act.put, zA, zB, zC]
  (refine tk 15 ?_ rfl (Or.inl ⟨by rfl, ?_⟩) hS ?_; rotate_left; focus (intro w' hSw; obtain ⟨s0, s1, s2, sb⟩ := hSw; go_simp <;> try with_reducible rfl))
  try simp only [Act.put, zA, zB, zC]
  (refine wpAnyH_take (i := 16) (oi := ⟨_, _, _, _, _, _⟩) (v := undef) rfl (by kernel_rfl) (by kernel_rfl) (by kernel_rfl) (fun _ _ _ h => h) (Or.inr ⟨by rfl, rfl⟩) hS ?_)
  try simp only [Act.put, zA, zB, zC]
  (refine wpAnyH_take (i := 17) (oi := ⟨_, _, _, _, _, _⟩) (v := undef) rfl (by kernel_rfl) (by kernel_rfl) (by kernel_rfl) (fun _ _ _ h => h) (Or.inr ⟨by rfl, rfl⟩) hS ?_)
  try simp only [Act.put, zA, zB, zC]
  refine rdy 18 rfl (fun K hK => ?_)
  refine skip_if (by rfl) ?_
  refine hK.out _ _ hS (fun hS => ?_)
  clear hK K
  try simp only [Act.put, zA, zB, zC]
  (refine tk 19 ?_ rfl (Or.inl ⟨by rfl, ?_⟩) hS ?_; rotate_left; focus (intro w' hSw; obtain ⟨s0, s1, s2, sb⟩ := hSw; go_simp <;> try with_reducible rfl))
  try simp only [Act.put, zA, zB, zC]
  (refine tk 20 ?_ rfl (Or.inl ⟨by rfl, ?_⟩) hS ?_; rotate_left; focus (intro w' hSw; obtain ⟨s0, s1, s2, sb⟩ := hSw; go_simp <;> try with_reducible rfl))
  try simp only [Act.put, zA, zB, zC]
  (refine wpAnyH_take (i := 21) (oi := ⟨_, _, _, _, _, _⟩) (v := undef) rfl (by kernel_rfl) (by kernel_rfl) (by kernel_rfl) (fun _ _ _ h => h) (Or.inr ⟨by rfl, rfl⟩) hS ?_)
  try simp only [Act.put, zA, zB, zC]
  (refine wpAnyH_take (i := 22) (oi := ⟨_, _, _, _, _, _⟩) (v := undef) rfl (by kernel_rfl) (by kernel_rfl) (by kernel_rfl) (fun _ _ _ h => h) (Or.inr ⟨by rfl, rfl⟩) hS ?_)
  try simp only [Act.put, zA, zB, zC]
  refine rdy 23 rfl (fun K hK => ?_)
  refine skip_if (by rfl) ?_
  refine hK.out _ _ hS (fun hS => ?_)
  clear hK K
  try simp only [Act.put, zA, zB, zC]
  (refine wpAnyH_take (i := 24) (oi := ⟨_, _, _, _, _, _⟩) (v := undef) rfl (by kernel_rfl) (by kernel_rfl) (by kernel_rfl) (fun _ _ _ h => h) (Or.inr ⟨by rfl, rfl⟩) hS ?_)
  try simp only [Act.put, zA, zB, zC]
  (refine tk 25 ?_ rfl (Or.inl ⟨by rfl, ?_⟩) hS ?_; rotate_left; focus (intro w' hSw; obtain ⟨s0, s1, s2, sb⟩ := hSw; go_simp <;> try with_reducible rfl))
  try simp only [Act.put, zA, zB, zC]
  (refine tk 26 ?_ rfl (Or.inl ⟨by rfl, ?_⟩) hS ?_; rotate_left; focus (intro w' hSw; obtain ⟨s0, s1, s2, sb⟩ := hSw; go_simp <;> try with_reducible rfl))
  try simp only [Act.put, zA, zB, zC]
  refine wpAnyH_done (by kernel_rfl) ?_ _
  obtain ⟨s0, s1, s2, sb⟩ := hS
  obtain ⟨_, _, _, _, _, _, _, _, _⟩ := s0.out9
  obtain ⟨_, _, _, _, _, _, _, _, _⟩ := s1.out9
  obtain ⟨_, _, _, _, _, _, _, _, _⟩ := s2.out9
  have le5 := sb.le
  go_wp2_with (first
    | (go_at_call 25; (with_reducible refine (LAB.out _).mono ?_); rintro e' w5 ⟨rfl, hq⟩; have A5 := sb.at_ hq s0 (show w.heap.size < _ by omega); have B5 := sb.at_ hq s1 (show w.heap.size + 1 < _ by omega); have L5 := sb.step hq; obtain ⟨_, _, _, _, _, _, _, _, _⟩ := A5.out9; obtain ⟨_, _, _, _, _, _, _, _, _⟩ := B5.out9; have HA5 := Lib.hid A5; have HB5 := Lib.hid B5; have HLX := Lib.hid L5; have le6 := L5.le; clear hq A5 B5 L5)
    | (go_at_call 13; (with_reducible refine (works_w _).mono ?_); rintro e' wz ⟨rfl, hbz⟩; have BZ := Lib.hid (HLX.out.step hbz).bl; clear hbz))
  go_ret
  exact ⟨rfl, BZ.out⟩
set_option maxHeartbeats 2000000 in
set_option maxRecDepth 100000 in
theorem orders_s (a b c : Cp) (at' : Int) (ha : RC a) (hb : RC b) (hc : RC c) (ra : Raw a) (rb : Raw b) (rc : Raw c) (hr : rightL [a, b, c] = true) (a0 : 0 ≤ at') (a1 : at' < 18446744073709551616) (h0 : a.tg = true) (h1 : a.sealed = true) (w : World) :
    Calls Try.prog 10 #[.agg #[true, a.pe, a.ty, a.mo, a.e, a.b, a.t, a.g, .int .u64 a.a], .agg #[b.tg, b.pe, b.ty, b.mo, b.e, b.b, b.t, b.g, .int .u64 b.a], .agg #[c.tg, c.pe, c.ty, c.mo, c.e, c.b, c.t, c.g, .int .u64 c.a], .int .u64 at'] w fun e' w' => e' = .returned (.bool true) ∧ Below w.heap.size w w' := by
  have eaa : lessB a a = false := less_no a a (.inr h1)
  have eab : lessB a b = false := less_no a b (.inr h1)
  have LAA : Hid (∀ w1 : World, Calls Try.prog 25 #[.agg #[true, a.pe, a.ty, a.mo, a.e, a.b, a.t, a.g, .int .u64 a.a], .agg #[true, a.pe, a.ty, a.mo, a.e, a.b, a.t, a.g, .int .u64 a.a]] w1 fun e' w' => e' = .returned (.bool false) ∧ Below w1.heap.size w1 w') := Lib.hid (fun w1 => by have := kb (less_o a a ha ha false eaa w1); rw [h0] at this; exact this)
  have LAB : Hid (∀ w1 : World, Calls Try.prog 25 #[.agg #[true, a.pe, a.ty, a.mo, a.e, a.b, a.t, a.g, .int .u64 a.a], .agg #[b.tg, b.pe, b.ty, b.mo, b.e, b.b, b.t, b.g, .int .u64 b.a]] w1 fun e' w' => e' = .returned (.bool false) ∧ Below w1.heap.size w1 w') := Lib.hid (fun w1 => by have := kb (less_o a b ha hb false eab w1); rw [h0] at this; exact this)
  have LSE : Hid (∀ w1 : World, Calls Try.prog 34 #[.agg #[true, a.pe, a.ty, a.mo, a.e, a.b, a.t, a.g, .int .u64 a.a]] w1 fun e' w' => e' = .returned (.bool true) ∧ Below w1.heap.size w1 w') := Lib.hid (fun w1 => by have := kb (sealed_w a.tg a.pe a.ty a.mo a.e a.b a.t a.g a.a _ h1 w1); rw [h0] at this; exact this)
  have HRT : Hid (∀ (A : Option Addr) (n : Nat) (w1 : World), Rd w1 w1.heap.size A [a, b, c] → Calls Try.prog 20 #[.slice A 3 n] w1 fun e' w' => e' = .returned (.bool true) ∧ Kp w1 w') := Lib.hid (fun A n w1 h => rightl_w [a, b, c] A n w1 h (by simp) (by intro d hd; simp at hd; rcases hd with rfl | rfl | rfl; exact ra; exact rb; exact rc) true hr)
  have ev : vsL [a, b, c] = [.bool true, .int .i64 a.pe, .int .i64 a.ty, .int .i64 a.mo, .int .i64 a.e, .int .i64 a.b, .int .i64 a.t, .bool a.g, .int .u64 a.a, .bool b.tg, .int .i64 b.pe, .int .i64 b.ty, .int .i64 b.mo, .int .i64 b.e, .int .i64 b.b, .int .i64 b.t, .bool b.g, .int .u64 b.a, .bool c.tg, .int .i64 c.pe, .int .i64 c.ty, .int .i64 c.mo, .int .i64 c.e, .int .i64 c.b, .int .i64 c.t, .bool c.g, .int .u64 c.a] := by simp [vsL, Cp.vs, h0]
  have hr0 : ∀ w1 : World, Rd (w1.alloc (.cells #[true, a.pe, a.ty, a.mo, a.e, a.b, a.t, a.g, .int .u64 a.a, b.tg, b.pe, b.ty, b.mo, b.e, b.b, b.t, b.g, .int .u64 b.a, c.tg, c.pe, c.ty, c.mo, c.e, c.b, c.t, c.g, .int .u64 c.a] 25)) (w1.alloc (.cells #[true, a.pe, a.ty, a.mo, a.e, a.b, a.t, a.g, .int .u64 a.a, b.tg, b.pe, b.ty, b.mo, b.e, b.b, b.t, b.g, .int .u64 b.a, c.tg, c.pe, c.ty, c.mo, c.e, c.b, c.t, c.g, .int .u64 c.a] 25)).heap.size (some ⟨w1.heap.size, 0, none⟩) [a, b, c] := fun w1 => by have := rd_new [a, b, c] w1; rw [ev] at this; exact this
  have HR0 := Lib.hid hr0
  have A3 : At (w.heap.size) [true, a.pe, a.ty, a.mo, a.e, a.b, a.t, a.g, .int .u64 a.a] (((w.alloc (.cells #[true, a.pe, a.ty, a.mo, a.e, a.b, a.t, a.g, .int .u64 a.a] 25)).alloc (.cells #[b.tg, b.pe, b.ty, b.mo, b.e, b.b, b.t, b.g, .int .u64 b.a] 25)).alloc (.cells #[c.tg, c.pe, c.ty, c.mo, c.e, c.b, c.t, c.g, .int .u64 c.a] 25)) := ((At.new w [true, a.pe, a.ty, a.mo, a.e, a.b, a.t, a.g, .int .u64 a.a] 25).alloc _).alloc _
  have B3 : At (w.heap.size + 1) [b.tg, b.pe, b.ty, b.mo, b.e, b.b, b.t, b.g, .int .u64 b.a] (((w.alloc (.cells #[true, a.pe, a.ty, a.mo, a.e, a.b, a.t, a.g, .int .u64 a.a] 25)).alloc (.cells #[b.tg, b.pe, b.ty, b.mo, b.e, b.b, b.t, b.g, .int .u64 b.a] 25)).alloc (.cells #[c.tg, c.pe, c.ty, c.mo, c.e, c.b, c.t, c.g, .int .u64 c.a] 25)) := (At.new' (w.alloc (.cells #[true, a.pe, a.ty, a.mo, a.e, a.b, a.t, a.g, .int .u64 a.a] 25)) [b.tg, b.pe, b.ty, b.mo, b.e, b.b, b.t, b.g, .int .u64 b.a] 25 (by simp)).alloc _
  have C3 : At (w.heap.size + 1 + 1) [c.tg, c.pe, c.ty, c.mo, c.e, c.b, c.t, c.g, .int .u64 c.a] (((w.alloc (.cells #[true, a.pe, a.ty, a.mo, a.e, a.b, a.t, a.g, .int .u64 a.a] 25)).alloc (.cells #[b.tg, b.pe, b.ty, b.mo, b.e, b.b, b.t, b.g, .int .u64 b.a] 25)).alloc (.cells #[c.tg, c.pe, c.ty, c.mo, c.e, c.b, c.t, c.g, .int .u64 c.a] 25)) := At.new' ((w.alloc (.cells #[true, a.pe, a.ty, a.mo, a.e, a.b, a.t, a.g, .int .u64 a.a] 25)).alloc (.cells #[b.tg, b.pe, b.ty, b.mo, b.e, b.b, b.t, b.g, .int .u64 b.a] 25)) [c.tg, c.pe, c.ty, c.mo, c.e, c.b, c.t, c.g, .int .u64 c.a] 25 (by simp)
  have L3 : Bl w (w.heap.size + 1 + 1 + 1) (((w.alloc (.cells #[true, a.pe, a.ty, a.mo, a.e, a.b, a.t, a.g, .int .u64 a.a] 25)).alloc (.cells #[b.tg, b.pe, b.ty, b.mo, b.e, b.b, b.t, b.g, .int .u64 b.a] 25)).alloc (.cells #[c.tg, c.pe, c.ty, c.mo, c.e, c.b, c.t, c.g, .int .u64 c.a] 25)) := ⟨(((Below.refl _ _).alloc (Nat.le_refl _) _).alloc (by simp) _).alloc (by simp; omega) _, by omega, by simp⟩
  clear eaa eab ra rb rc hr hr0 ev
  go_enter Try.func10, Try.ntmps10
  go_upto_region 1 with fail
  generalize hw0 : (((w.alloc (.cells #[true, a.pe, a.ty, a.mo, a.e, a.b, a.t, a.g, .int .u64 a.a] 25)).alloc (.cells #[b.tg, b.pe, b.ty, b.mo, b.e, b.b, b.t, b.g, .int .u64 b.a] 25)).alloc (.cells #[c.tg, c.pe, c.ty, c.mo, c.e, c.b, c.t, c.g, .int .u64 c.a] 25)) = w0 at A3 B3 C3 L3 ⊢
  clear hw0
  have le0 := L3.le
  obtain ⟨_, _, _, _, _, _, _, _, _⟩ := A3.out9
  obtain ⟨_, _, _, _, _, _, _, _, _⟩ := B3.out9
  obtain ⟨_, _, _, _, _, _, _, _, _⟩ := C3.out9
  have HA3 := Lib.hid A3
  have HB3 := Lib.hid B3
  have HC3 := Lib.hid C3
  have HL3 := Lib.hid L3
  clear A3 B3 C3 L3
  go_upto_region 3 with (go_at_call 20; (with_reducible refine (HRT.out _ _ _ (HR0.out w0)).mono ?_); rintro e' w1 ⟨rfl, qk⟩; have A4 : At (w.heap.size) [true, a.pe, a.ty, a.mo, a.e, a.b, a.t, a.g, .int .u64 a.a] w1 := (HA3.out.alloc _).kp qk (by simp; omega); have B4 : At (w.heap.size + 1) [b.tg, b.pe, b.ty, b.mo, b.e, b.b, b.t, b.g, .int .u64 b.a] w1 := (HB3.out.alloc _).kp qk (by simp; omega); have C4 : At (w.heap.size + 1 + 1) [c.tg, c.pe, c.ty, c.mo, c.e, c.b, c.t, c.g, .int .u64 c.a] w1 := (HC3.out.alloc _).kp qk (by simp; omega); have L4 : Bl w (w.heap.size + 1 + 1 + 1) w1 := (HL3.out.alloc _).step qk.1; clear qk)
  refine wp_region_held_drew (S := (fun w' => At (w.heap.size) [true, a.pe, a.ty, a.mo, a.e, a.b, a.t, a.g, .int .u64 a.a] w' ∧ At (w.heap.size + 1) [b.tg, b.pe, b.ty, b.mo, b.e, b.b, b.t, b.g, .int .u64 b.a] w' ∧ At (w.heap.size + 1 + 1) [c.tg, c.pe, c.ty, c.mo, c.e, c.b, c.t, c.g, .int .u64 c.a] w' ∧ Bl w (w.heap.size + 1 + 1 + 1) w')) (by kernel_rfl) ⟨At.drew (by with_reducible assumption), At.drew (by with_reducible assumption), At.drew (by with_reducible assumption), Bl.drew (by with_reducible assumption)⟩ (fun hS => ?_)
  generalize hgw : w1.drew = g0 at hS ⊢
  clear hgw
  try simp only [Act.put, zA, zB, zC]
  (refine tk 0 ?_ rfl (Or.inl ⟨by rfl, ?_⟩) hS ?_; rotate_left; focus (intro w' hSw; obtain ⟨s0, s1, s2, sb⟩ := hSw; obtain ⟨_, _, _, _, _, _, _, _, _⟩ := s0.out9; obtain ⟨_, _, _, _, _, _, _, _, _⟩ := s1.out9; obtain ⟨_, _, _, _, _, _, _, _, _⟩ := s2.out9; go_simp <;> try with_reducible rfl))
  try simp only [Act.put, zA, zB, zC]
  (refine tk 1 ?_ rfl (Or.inl ⟨by rfl, ?_⟩) hS ?_; rotate_left; focus (intro w' hSw; obtain ⟨s0, s1, s2, sb⟩ := hSw; obtain ⟨_, _, _, _, _, _, _, _, _⟩ := s0.out9; obtain ⟨_, _, _, _, _, _, _, _, _⟩ := s1.out9; obtain ⟨_, _, _, _, _, _, _, _, _⟩ := s2.out9; go_simp <;> try with_reducible rfl))
  try simp only [Act.put, zA, zB, zC]
  (refine tk 3 ?_ rfl (Or.inl ⟨by rfl, ?_⟩) hS ?_; rotate_left; focus (intro w' hSw; obtain ⟨s0, s1, s2, sb⟩ := hSw; go_simp <;> try with_reducible rfl))
  try simp only [Act.put, zA, zB, zC]
  (refine tk 4 ?_ rfl (Or.inl ⟨by rfl, ?_⟩) hS ?_; rotate_left; focus (intro w' hSw; obtain ⟨s0, s1, s2, sb⟩ := hSw; obtain ⟨_, _, _, _, _, _, _, _, _⟩ := s0.out9; obtain ⟨_, _, _, _, _, _, _, _, _⟩ := s1.out9; obtain ⟨_, _, _, _, _, _, _, _, _⟩ := s2.out9; go_simp <;> try with_reducible rfl))
  try simp only [Act.put, zA, zB, zC]
  refine rdy 2 rfl (fun K hK => ?_)
  refine take_if (by rfl) ?_
  obtain ⟨s0, s1, s2, sb⟩ := hS
  go_simp
  (with_reducible refine (LAA.out _).mono ?_)
  rintro e' g2 ⟨rfl, hb⟩
  have t0 := sb.at_ hb s0 (show w.heap.size < w.heap.size + 1 + 1 + 1 by omega)
  have t1 := sb.at_ hb s1 (show w.heap.size + 1 < w.heap.size + 1 + 1 + 1 by omega)
  have t2 := sb.at_ hb s2 (show w.heap.size + 1 + 1 < w.heap.size + 1 + 1 + 1 by omega)
  refine hK.out _ _ ⟨t0, t1, t2, (sb.step hb)⟩ (fun hS => ?_)
  clear hK K hb s0 t0 s1 t1 s2 t2 sb
  try simp only [Act.put, zA, zB, zC]
  (refine tk 5 ?_ rfl (Or.inl ⟨by rfl, ?_⟩) hS ?_; rotate_left; focus (intro w' hSw; obtain ⟨s0, s1, s2, sb⟩ := hSw; go_simp <;> try with_reducible rfl))
  try simp only [Act.put, zA, zB, zC]
  (refine tk 6 ?_ rfl (Or.inl ⟨by rfl, ?_⟩) hS ?_; rotate_left; focus (intro w' hSw; obtain ⟨s0, s1, s2, sb⟩ := hSw; obtain ⟨_, _, _, _, _, _, _, _, _⟩ := s0.out9; obtain ⟨_, _, _, _, _, _, _, _, _⟩ := s1.out9; obtain ⟨_, _, _, _, _, _, _, _, _⟩ := s2.out9; go_simp <;> try with_reducible rfl))
  try simp only [Act.put, zA, zB, zC]
  refine rdy 7 rfl (fun K hK => ?_)
  refine take_if (by rfl) ?_
  obtain ⟨s0, s1, s2, sb⟩ := hS
  go_simp
  (with_reducible refine (LSE.out _).mono ?_)
  rintro e' g7 ⟨rfl, hb⟩
  have t0 := sb.at_ hb s0 (show w.heap.size < w.heap.size + 1 + 1 + 1 by omega)
  have t1 := sb.at_ hb s1 (show w.heap.size + 1 < w.heap.size + 1 + 1 + 1 by omega)
  have t2 := sb.at_ hb s2 (show w.heap.size + 1 + 1 < w.heap.size + 1 + 1 + 1 by omega)
  refine hK.out _ _ ⟨t0, t1, t2, (sb.step hb)⟩ (fun hS => ?_)
  clear hK K hb s0 t0 s1 t1 s2 t2 sb
  try simp only [Act.put, zA, zB, zC]
  (refine tk 8 ?_ rfl (Or.inl ⟨by rfl, ?_⟩) hS ?_; rotate_left; focus (intro w' hSw; obtain ⟨s0, s1, s2, sb⟩ := hSw; go_simp <;> try with_reducible rfl))
  try simp only [Act.put, zA, zB, zC]
  (refine tk 9 ?_ rfl (Or.inl ⟨by rfl, ?_⟩) hS ?_; rotate_left; focus (intro w' hSw; obtain ⟨s0, s1, s2, sb⟩ := hSw; go_simp <;> try with_reducible rfl))
  try simp only [Act.put, zA, zB, zC]
  (refine tk 10 ?_ rfl (Or.inl ⟨by rfl, ?_⟩) hS ?_; rotate_left; focus (intro w' hSw; obtain ⟨s0, s1, s2, sb⟩ := hSw; go_simp <;> try with_reducible rfl))
  try simp only [Act.put, zA, zB, zC]
  (refine tk 11 ?_ rfl (Or.inl ⟨by rfl, ?_⟩) hS ?_; rotate_left; focus (intro w' hSw; obtain ⟨s0, s1, s2, sb⟩ := hSw; go_simp <;> try with_reducible rfl))
  try simp only [Act.put, zA, zB, zC]
  (refine tk 12 ?_ rfl (Or.inl ⟨by rfl, ?_⟩) hS ?_; rotate_left; focus (intro w' hSw; obtain ⟨s0, s1, s2, sb⟩ := hSw; obtain ⟨_, _, _, _, _, _, _, _, _⟩ := s0.out9; obtain ⟨_, _, _, _, _, _, _, _, _⟩ := s1.out9; obtain ⟨_, _, _, _, _, _, _, _, _⟩ := s2.out9; go_simp <;> try with_reducible rfl))
  try simp only [Act.put, zA, zB, zC]
  (refine tk 13 ?_ rfl (Or.inl ⟨by rfl, ?_⟩) hS ?_; rotate_left; focus (intro w' hSw; obtain ⟨s0, s1, s2, sb⟩ := hSw; obtain ⟨_, _, _, _, _, _, _, _, _⟩ := s0.out9; obtain ⟨_, _, _, _, _, _, _, _, _⟩ := s1.out9; obtain ⟨_, _, _, _, _, _, _, _, _⟩ := s2.out9; go_simp <;> try with_reducible rfl))
  try simp only [Act.put, zA, zB, zC]
  refine rdy 14 rfl (fun K hK => ?_)
  refine take_if (by rfl) ?_
  obtain ⟨s0, s1, s2, sb⟩ := hS
  go_simp
  (with_reducible refine (LAB.out _).mono ?_)
  rintro e' g14 ⟨rfl, hb⟩
  have t0 := sb.at_ hb s0 (show w.heap.size < w.heap.size + 1 + 1 + 1 by omega)
  have t1 := sb.at_ hb s1 (show w.heap.size + 1 < w.heap.size + 1 + 1 + 1 by omega)
  have t2 := sb.at_ hb s2 (show w.heap.size + 1 + 1 < w.heap.size + 1 + 1 + 1 by omega)
  refine hK.out _ _ ⟨t0, t1, t2, (sb.step hb)⟩ (fun hS => ?_)
  clear hK K hb s0 t0 s1 t1 s2 t2 sb
  try simp only [Act.put, zA, zB, zC]
  (refine tk 15 ?_ rfl (Or.inl ⟨by rfl, ?_⟩) hS ?_; rotate_left; focus (intro w' hSw; obtain ⟨s0, s1, s2, sb⟩ := hSw; go_simp <;> try with_reducible rfl))
  try simp only [Act.put, zA, zB, zC]
  (refine wpAnyH_take (i := 16) (oi := ⟨_, _, _, _, _, _⟩) (v := undef) rfl (by kernel_rfl) (by kernel_rfl) (by kernel_rfl) (fun _ _ _ h => h) (Or.inr ⟨by rfl, rfl⟩) hS ?_)
  try simp only [Act.put, zA, zB, zC]
  (refine wpAnyH_take (i := 17) (oi := ⟨_, _, _, _, _, _⟩) (v := undef) rfl (by kernel_rfl) (by kernel_rfl) (by kernel_rfl) (fun _ _ _ h => h) (Or.inr ⟨by rfl, rfl⟩) hS ?_)
  try simp only [Act.put, zA, zB, zC]
  refine rdy 18 rfl (fun K hK => ?_)
  refine skip_if (by rfl) ?_
  refine hK.out _ _ hS (fun hS => ?_)
  clear hK K
  try simp only [Act.put, zA, zB, zC]
  (refine tk 19 ?_ rfl (Or.inl ⟨by rfl, ?_⟩) hS ?_; rotate_left; focus (intro w' hSw; obtain ⟨s0, s1, s2, sb⟩ := hSw; go_simp <;> try with_reducible rfl))
  try simp only [Act.put, zA, zB, zC]
  (refine tk 20 ?_ rfl (Or.inl ⟨by rfl, ?_⟩) hS ?_; rotate_left; focus (intro w' hSw; obtain ⟨s0, s1, s2, sb⟩ := hSw; go_simp <;> try with_reducible rfl))
  try simp only [Act.put, zA, zB, zC]
  (refine wpAnyH_take (i := 21) (oi := ⟨_, _, _, _, _, _⟩) (v := undef) rfl (by kernel_rfl) (by kernel_rfl) (by kernel_rfl) (fun _ _ _ h => h) (Or.inr ⟨by rfl, rfl⟩) hS ?_)
  try simp only [Act.put, zA, zB, zC]
  (refine wpAnyH_take (i := 22) (oi := ⟨_, _, _, _, _, _⟩) (v := undef) rfl (by kernel_rfl) (by kernel_rfl) (by kernel_rfl) (fun _ _ _ h => h) (Or.inr ⟨by rfl, rfl⟩) hS ?_)
  try simp only [Act.put, zA, zB, zC]
  refine rdy 23 rfl (fun K hK => ?_)
  refine skip_if (by rfl) ?_
  refine hK.out _ _ hS (fun hS => ?_)
  clear hK K
  try simp only [Act.put, zA, zB, zC]
  (refine wpAnyH_take (i := 24) (oi := ⟨_, _, _, _, _, _⟩) (v := undef) rfl (by kernel_rfl) (by kernel_rfl) (by kernel_rfl) (fun _ _ _ h => h) (Or.inr ⟨by rfl, rfl⟩) hS ?_)
  try simp only [Act.put, zA, zB, zC]
  (refine tk 25 ?_ rfl (Or.inl ⟨by rfl, ?_⟩) hS ?_; rotate_left; focus (intro w' hSw; obtain ⟨s0, s1, s2, sb⟩ := hSw; go_simp <;> try with_reducible rfl))
  try simp only [Act.put, zA, zB, zC]
  (refine tk 26 ?_ rfl (Or.inl ⟨by rfl, ?_⟩) hS ?_; rotate_left; focus (intro w' hSw; obtain ⟨s0, s1, s2, sb⟩ := hSw; go_simp <;> try with_reducible rfl))
  try simp only [Act.put, zA, zB, zC]
  refine wpAnyH_done (by kernel_rfl) ?_ _
  obtain ⟨s0, s1, s2, sb⟩ := hS
  obtain ⟨_, _, _, _, _, _, _, _, _⟩ := s0.out9
  obtain ⟨_, _, _, _, _, _, _, _, _⟩ := s1.out9
  obtain ⟨_, _, _, _, _, _, _, _, _⟩ := s2.out9
  have le5 := sb.le
  go_wp2_with (first
    | (go_at_call 25; (with_reducible refine (LAB.out _).mono ?_); rintro e' w5 ⟨rfl, hq⟩; have A5 := sb.at_ hq s0 (show w.heap.size < _ by omega); have B5 := sb.at_ hq s1 (show w.heap.size + 1 < _ by omega); have L5 := sb.step hq; obtain ⟨_, _, _, _, _, _, _, _, _⟩ := A5.out9; obtain ⟨_, _, _, _, _, _, _, _, _⟩ := B5.out9; have HA5 := Lib.hid A5; have HB5 := Lib.hid B5; have HLX := Lib.hid L5; have le6 := L5.le; clear hq A5 B5 L5)
    | (go_at_call 13; (with_reducible refine (works_w _).mono ?_); rintro e' wz ⟨rfl, hbz⟩; have BZ := Lib.hid (HLX.out.step hbz).bl; clear hbz))
  go_ret
  exact ⟨rfl, BZ.out⟩
set_option maxHeartbeats 2000000 in
set_option maxRecDepth 100000 in
theorem orders_n (a b c : Cp) (at' : Int) (ha : RC a) (hb : RC b) (hc : RC c) (ra : Raw a) (rb : Raw b) (rc : Raw c) (hr : rightL [a, b, c] = true) (a0 : 0 ≤ at') (a1 : at' < 18446744073709551616) (h0 : a.tg = true) (h1 : a.sealed = false) (h2 : lessB a b = false) (w : World) :
    Calls Try.prog 10 #[.agg #[true, a.pe, a.ty, a.mo, a.e, a.b, a.t, a.g, .int .u64 a.a], .agg #[b.tg, b.pe, b.ty, b.mo, b.e, b.b, b.t, b.g, .int .u64 b.a], .agg #[c.tg, c.pe, c.ty, c.mo, c.e, c.b, c.t, c.g, .int .u64 c.a], .int .u64 at'] w fun e' w' => e' = .returned (.bool true) ∧ Below w.heap.size w w' := by
  have eaa : lessB a a = true := by rw [less_refl, h0, h1]; rfl
  have eab : lessB a b = false := h2
  have LAA : Hid (∀ w1 : World, Calls Try.prog 25 #[.agg #[true, a.pe, a.ty, a.mo, a.e, a.b, a.t, a.g, .int .u64 a.a], .agg #[true, a.pe, a.ty, a.mo, a.e, a.b, a.t, a.g, .int .u64 a.a]] w1 fun e' w' => e' = .returned (.bool true) ∧ Below w1.heap.size w1 w') := Lib.hid (fun w1 => by have := kb (less_o a a ha ha true eaa w1); rw [h0] at this; exact this)
  have LAB : Hid (∀ w1 : World, Calls Try.prog 25 #[.agg #[true, a.pe, a.ty, a.mo, a.e, a.b, a.t, a.g, .int .u64 a.a], .agg #[b.tg, b.pe, b.ty, b.mo, b.e, b.b, b.t, b.g, .int .u64 b.a]] w1 fun e' w' => e' = .returned (.bool false) ∧ Below w1.heap.size w1 w') := Lib.hid (fun w1 => by have := kb (less_o a b ha hb false eab w1); rw [h0] at this; exact this)
  have LSE : Hid (∀ w1 : World, Calls Try.prog 34 #[.agg #[true, a.pe, a.ty, a.mo, a.e, a.b, a.t, a.g, .int .u64 a.a]] w1 fun e' w' => e' = .returned (.bool false) ∧ Below w1.heap.size w1 w') := Lib.hid (fun w1 => by have := kb (sealed_w a.tg a.pe a.ty a.mo a.e a.b a.t a.g a.a _ h1 w1); rw [h0] at this; exact this)
  have HRT : Hid (∀ (A : Option Addr) (n : Nat) (w1 : World), Rd w1 w1.heap.size A [a, b, c] → Calls Try.prog 20 #[.slice A 3 n] w1 fun e' w' => e' = .returned (.bool true) ∧ Kp w1 w') := Lib.hid (fun A n w1 h => rightl_w [a, b, c] A n w1 h (by simp) (by intro d hd; simp at hd; rcases hd with rfl | rfl | rfl; exact ra; exact rb; exact rc) true hr)
  have ev : vsL [a, b, c] = [.bool true, .int .i64 a.pe, .int .i64 a.ty, .int .i64 a.mo, .int .i64 a.e, .int .i64 a.b, .int .i64 a.t, .bool a.g, .int .u64 a.a, .bool b.tg, .int .i64 b.pe, .int .i64 b.ty, .int .i64 b.mo, .int .i64 b.e, .int .i64 b.b, .int .i64 b.t, .bool b.g, .int .u64 b.a, .bool c.tg, .int .i64 c.pe, .int .i64 c.ty, .int .i64 c.mo, .int .i64 c.e, .int .i64 c.b, .int .i64 c.t, .bool c.g, .int .u64 c.a] := by simp [vsL, Cp.vs, h0]
  have hr0 : ∀ w1 : World, Rd (w1.alloc (.cells #[true, a.pe, a.ty, a.mo, a.e, a.b, a.t, a.g, .int .u64 a.a, b.tg, b.pe, b.ty, b.mo, b.e, b.b, b.t, b.g, .int .u64 b.a, c.tg, c.pe, c.ty, c.mo, c.e, c.b, c.t, c.g, .int .u64 c.a] 25)) (w1.alloc (.cells #[true, a.pe, a.ty, a.mo, a.e, a.b, a.t, a.g, .int .u64 a.a, b.tg, b.pe, b.ty, b.mo, b.e, b.b, b.t, b.g, .int .u64 b.a, c.tg, c.pe, c.ty, c.mo, c.e, c.b, c.t, c.g, .int .u64 c.a] 25)).heap.size (some ⟨w1.heap.size, 0, none⟩) [a, b, c] := fun w1 => by have := rd_new [a, b, c] w1; rw [ev] at this; exact this
  have HR0 := Lib.hid hr0
  have A3 : At (w.heap.size) [true, a.pe, a.ty, a.mo, a.e, a.b, a.t, a.g, .int .u64 a.a] (((w.alloc (.cells #[true, a.pe, a.ty, a.mo, a.e, a.b, a.t, a.g, .int .u64 a.a] 25)).alloc (.cells #[b.tg, b.pe, b.ty, b.mo, b.e, b.b, b.t, b.g, .int .u64 b.a] 25)).alloc (.cells #[c.tg, c.pe, c.ty, c.mo, c.e, c.b, c.t, c.g, .int .u64 c.a] 25)) := ((At.new w [true, a.pe, a.ty, a.mo, a.e, a.b, a.t, a.g, .int .u64 a.a] 25).alloc _).alloc _
  have B3 : At (w.heap.size + 1) [b.tg, b.pe, b.ty, b.mo, b.e, b.b, b.t, b.g, .int .u64 b.a] (((w.alloc (.cells #[true, a.pe, a.ty, a.mo, a.e, a.b, a.t, a.g, .int .u64 a.a] 25)).alloc (.cells #[b.tg, b.pe, b.ty, b.mo, b.e, b.b, b.t, b.g, .int .u64 b.a] 25)).alloc (.cells #[c.tg, c.pe, c.ty, c.mo, c.e, c.b, c.t, c.g, .int .u64 c.a] 25)) := (At.new' (w.alloc (.cells #[true, a.pe, a.ty, a.mo, a.e, a.b, a.t, a.g, .int .u64 a.a] 25)) [b.tg, b.pe, b.ty, b.mo, b.e, b.b, b.t, b.g, .int .u64 b.a] 25 (by simp)).alloc _
  have C3 : At (w.heap.size + 1 + 1) [c.tg, c.pe, c.ty, c.mo, c.e, c.b, c.t, c.g, .int .u64 c.a] (((w.alloc (.cells #[true, a.pe, a.ty, a.mo, a.e, a.b, a.t, a.g, .int .u64 a.a] 25)).alloc (.cells #[b.tg, b.pe, b.ty, b.mo, b.e, b.b, b.t, b.g, .int .u64 b.a] 25)).alloc (.cells #[c.tg, c.pe, c.ty, c.mo, c.e, c.b, c.t, c.g, .int .u64 c.a] 25)) := At.new' ((w.alloc (.cells #[true, a.pe, a.ty, a.mo, a.e, a.b, a.t, a.g, .int .u64 a.a] 25)).alloc (.cells #[b.tg, b.pe, b.ty, b.mo, b.e, b.b, b.t, b.g, .int .u64 b.a] 25)) [c.tg, c.pe, c.ty, c.mo, c.e, c.b, c.t, c.g, .int .u64 c.a] 25 (by simp)
  have L3 : Bl w (w.heap.size + 1 + 1 + 1) (((w.alloc (.cells #[true, a.pe, a.ty, a.mo, a.e, a.b, a.t, a.g, .int .u64 a.a] 25)).alloc (.cells #[b.tg, b.pe, b.ty, b.mo, b.e, b.b, b.t, b.g, .int .u64 b.a] 25)).alloc (.cells #[c.tg, c.pe, c.ty, c.mo, c.e, c.b, c.t, c.g, .int .u64 c.a] 25)) := ⟨(((Below.refl _ _).alloc (Nat.le_refl _) _).alloc (by simp) _).alloc (by simp; omega) _, by omega, by simp⟩
  clear eaa eab ra rb rc hr hr0 ev
  go_enter Try.func10, Try.ntmps10
  go_upto_region 1 with fail
  generalize hw0 : (((w.alloc (.cells #[true, a.pe, a.ty, a.mo, a.e, a.b, a.t, a.g, .int .u64 a.a] 25)).alloc (.cells #[b.tg, b.pe, b.ty, b.mo, b.e, b.b, b.t, b.g, .int .u64 b.a] 25)).alloc (.cells #[c.tg, c.pe, c.ty, c.mo, c.e, c.b, c.t, c.g, .int .u64 c.a] 25)) = w0 at A3 B3 C3 L3 ⊢
  clear hw0
  have le0 := L3.le
  obtain ⟨_, _, _, _, _, _, _, _, _⟩ := A3.out9
  obtain ⟨_, _, _, _, _, _, _, _, _⟩ := B3.out9
  obtain ⟨_, _, _, _, _, _, _, _, _⟩ := C3.out9
  have HA3 := Lib.hid A3
  have HB3 := Lib.hid B3
  have HC3 := Lib.hid C3
  have HL3 := Lib.hid L3
  clear A3 B3 C3 L3
  go_upto_region 3 with (go_at_call 20; (with_reducible refine (HRT.out _ _ _ (HR0.out w0)).mono ?_); rintro e' w1 ⟨rfl, qk⟩; have A4 : At (w.heap.size) [true, a.pe, a.ty, a.mo, a.e, a.b, a.t, a.g, .int .u64 a.a] w1 := (HA3.out.alloc _).kp qk (by simp; omega); have B4 : At (w.heap.size + 1) [b.tg, b.pe, b.ty, b.mo, b.e, b.b, b.t, b.g, .int .u64 b.a] w1 := (HB3.out.alloc _).kp qk (by simp; omega); have C4 : At (w.heap.size + 1 + 1) [c.tg, c.pe, c.ty, c.mo, c.e, c.b, c.t, c.g, .int .u64 c.a] w1 := (HC3.out.alloc _).kp qk (by simp; omega); have L4 : Bl w (w.heap.size + 1 + 1 + 1) w1 := (HL3.out.alloc _).step qk.1; clear qk)
  refine wp_region_held_drew (S := (fun w' => At (w.heap.size) [true, a.pe, a.ty, a.mo, a.e, a.b, a.t, a.g, .int .u64 a.a] w' ∧ At (w.heap.size + 1) [b.tg, b.pe, b.ty, b.mo, b.e, b.b, b.t, b.g, .int .u64 b.a] w' ∧ At (w.heap.size + 1 + 1) [c.tg, c.pe, c.ty, c.mo, c.e, c.b, c.t, c.g, .int .u64 c.a] w' ∧ Bl w (w.heap.size + 1 + 1 + 1) w')) (by kernel_rfl) ⟨At.drew (by with_reducible assumption), At.drew (by with_reducible assumption), At.drew (by with_reducible assumption), Bl.drew (by with_reducible assumption)⟩ (fun hS => ?_)
  generalize hgw : w1.drew = g0 at hS ⊢
  clear hgw
  try simp only [Act.put, zA, zB, zC]
  (refine tk 0 ?_ rfl (Or.inl ⟨by rfl, ?_⟩) hS ?_; rotate_left; focus (intro w' hSw; obtain ⟨s0, s1, s2, sb⟩ := hSw; obtain ⟨_, _, _, _, _, _, _, _, _⟩ := s0.out9; obtain ⟨_, _, _, _, _, _, _, _, _⟩ := s1.out9; obtain ⟨_, _, _, _, _, _, _, _, _⟩ := s2.out9; go_simp <;> try with_reducible rfl))
  try simp only [Act.put, zA, zB, zC]
  (refine tk 1 ?_ rfl (Or.inl ⟨by rfl, ?_⟩) hS ?_; rotate_left; focus (intro w' hSw; obtain ⟨s0, s1, s2, sb⟩ := hSw; obtain ⟨_, _, _, _, _, _, _, _, _⟩ := s0.out9; obtain ⟨_, _, _, _, _, _, _, _, _⟩ := s1.out9; obtain ⟨_, _, _, _, _, _, _, _, _⟩ := s2.out9; go_simp <;> try with_reducible rfl))
  try simp only [Act.put, zA, zB, zC]
  (refine tk 3 ?_ rfl (Or.inl ⟨by rfl, ?_⟩) hS ?_; rotate_left; focus (intro w' hSw; obtain ⟨s0, s1, s2, sb⟩ := hSw; go_simp <;> try with_reducible rfl))
  try simp only [Act.put, zA, zB, zC]
  (refine tk 4 ?_ rfl (Or.inl ⟨by rfl, ?_⟩) hS ?_; rotate_left; focus (intro w' hSw; obtain ⟨s0, s1, s2, sb⟩ := hSw; obtain ⟨_, _, _, _, _, _, _, _, _⟩ := s0.out9; obtain ⟨_, _, _, _, _, _, _, _, _⟩ := s1.out9; obtain ⟨_, _, _, _, _, _, _, _, _⟩ := s2.out9; go_simp <;> try with_reducible rfl))
  try simp only [Act.put, zA, zB, zC]
  refine rdy 2 rfl (fun K hK => ?_)
  refine take_if (by rfl) ?_
  obtain ⟨s0, s1, s2, sb⟩ := hS
  go_simp
  (with_reducible refine (LAA.out _).mono ?_)
  rintro e' g2 ⟨rfl, hb⟩
  have t0 := sb.at_ hb s0 (show w.heap.size < w.heap.size + 1 + 1 + 1 by omega)
  have t1 := sb.at_ hb s1 (show w.heap.size + 1 < w.heap.size + 1 + 1 + 1 by omega)
  have t2 := sb.at_ hb s2 (show w.heap.size + 1 + 1 < w.heap.size + 1 + 1 + 1 by omega)
  refine hK.out _ _ ⟨t0, t1, t2, (sb.step hb)⟩ (fun hS => ?_)
  clear hK K hb s0 t0 s1 t1 s2 t2 sb
  try simp only [Act.put, zA, zB, zC]
  (refine tk 5 ?_ rfl (Or.inl ⟨by rfl, ?_⟩) hS ?_; rotate_left; focus (intro w' hSw; obtain ⟨s0, s1, s2, sb⟩ := hSw; go_simp <;> try with_reducible rfl))
  try simp only [Act.put, zA, zB, zC]
  (refine tk 6 ?_ rfl (Or.inl ⟨by rfl, ?_⟩) hS ?_; rotate_left; focus (intro w' hSw; obtain ⟨s0, s1, s2, sb⟩ := hSw; obtain ⟨_, _, _, _, _, _, _, _, _⟩ := s0.out9; obtain ⟨_, _, _, _, _, _, _, _, _⟩ := s1.out9; obtain ⟨_, _, _, _, _, _, _, _, _⟩ := s2.out9; go_simp <;> try with_reducible rfl))
  try simp only [Act.put, zA, zB, zC]
  refine rdy 7 rfl (fun K hK => ?_)
  refine take_if (by rfl) ?_
  obtain ⟨s0, s1, s2, sb⟩ := hS
  go_simp
  (with_reducible refine (LSE.out _).mono ?_)
  rintro e' g7 ⟨rfl, hb⟩
  have t0 := sb.at_ hb s0 (show w.heap.size < w.heap.size + 1 + 1 + 1 by omega)
  have t1 := sb.at_ hb s1 (show w.heap.size + 1 < w.heap.size + 1 + 1 + 1 by omega)
  have t2 := sb.at_ hb s2 (show w.heap.size + 1 + 1 < w.heap.size + 1 + 1 + 1 by omega)
  refine hK.out _ _ ⟨t0, t1, t2, (sb.step hb)⟩ (fun hS => ?_)
  clear hK K hb s0 t0 s1 t1 s2 t2 sb
  try simp only [Act.put, zA, zB, zC]
  (refine tk 8 ?_ rfl (Or.inl ⟨by rfl, ?_⟩) hS ?_; rotate_left; focus (intro w' hSw; obtain ⟨s0, s1, s2, sb⟩ := hSw; go_simp <;> try with_reducible rfl))
  try simp only [Act.put, zA, zB, zC]
  (refine tk 9 ?_ rfl (Or.inl ⟨by rfl, ?_⟩) hS ?_; rotate_left; focus (intro w' hSw; obtain ⟨s0, s1, s2, sb⟩ := hSw; go_simp <;> try with_reducible rfl))
  try simp only [Act.put, zA, zB, zC]
  (refine tk 10 ?_ rfl (Or.inl ⟨by rfl, ?_⟩) hS ?_; rotate_left; focus (intro w' hSw; obtain ⟨s0, s1, s2, sb⟩ := hSw; go_simp <;> try with_reducible rfl))
  try simp only [Act.put, zA, zB, zC]
  (refine tk 11 ?_ rfl (Or.inl ⟨by rfl, ?_⟩) hS ?_; rotate_left; focus (intro w' hSw; obtain ⟨s0, s1, s2, sb⟩ := hSw; go_simp <;> try with_reducible rfl))
  try simp only [Act.put, zA, zB, zC]
  (refine tk 12 ?_ rfl (Or.inl ⟨by rfl, ?_⟩) hS ?_; rotate_left; focus (intro w' hSw; obtain ⟨s0, s1, s2, sb⟩ := hSw; obtain ⟨_, _, _, _, _, _, _, _, _⟩ := s0.out9; obtain ⟨_, _, _, _, _, _, _, _, _⟩ := s1.out9; obtain ⟨_, _, _, _, _, _, _, _, _⟩ := s2.out9; go_simp <;> try with_reducible rfl))
  try simp only [Act.put, zA, zB, zC]
  (refine tk 13 ?_ rfl (Or.inl ⟨by rfl, ?_⟩) hS ?_; rotate_left; focus (intro w' hSw; obtain ⟨s0, s1, s2, sb⟩ := hSw; obtain ⟨_, _, _, _, _, _, _, _, _⟩ := s0.out9; obtain ⟨_, _, _, _, _, _, _, _, _⟩ := s1.out9; obtain ⟨_, _, _, _, _, _, _, _, _⟩ := s2.out9; go_simp <;> try with_reducible rfl))
  try simp only [Act.put, zA, zB, zC]
  refine rdy 14 rfl (fun K hK => ?_)
  refine take_if (by rfl) ?_
  obtain ⟨s0, s1, s2, sb⟩ := hS
  go_simp
  (with_reducible refine (LAB.out _).mono ?_)
  rintro e' g14 ⟨rfl, hb⟩
  have t0 := sb.at_ hb s0 (show w.heap.size < w.heap.size + 1 + 1 + 1 by omega)
  have t1 := sb.at_ hb s1 (show w.heap.size + 1 < w.heap.size + 1 + 1 + 1 by omega)
  have t2 := sb.at_ hb s2 (show w.heap.size + 1 + 1 < w.heap.size + 1 + 1 + 1 by omega)
  refine hK.out _ _ ⟨t0, t1, t2, (sb.step hb)⟩ (fun hS => ?_)
  clear hK K hb s0 t0 s1 t1 s2 t2 sb
  try simp only [Act.put, zA, zB, zC]
  (refine tk 15 ?_ rfl (Or.inl ⟨by rfl, ?_⟩) hS ?_; rotate_left; focus (intro w' hSw; obtain ⟨s0, s1, s2, sb⟩ := hSw; go_simp <;> try with_reducible rfl))
  try simp only [Act.put, zA, zB, zC]
  (refine wpAnyH_take (i := 16) (oi := ⟨_, _, _, _, _, _⟩) (v := undef) rfl (by kernel_rfl) (by kernel_rfl) (by kernel_rfl) (fun _ _ _ h => h) (Or.inr ⟨by rfl, rfl⟩) hS ?_)
  try simp only [Act.put, zA, zB, zC]
  (refine wpAnyH_take (i := 17) (oi := ⟨_, _, _, _, _, _⟩) (v := undef) rfl (by kernel_rfl) (by kernel_rfl) (by kernel_rfl) (fun _ _ _ h => h) (Or.inr ⟨by rfl, rfl⟩) hS ?_)
  try simp only [Act.put, zA, zB, zC]
  refine rdy 18 rfl (fun K hK => ?_)
  refine skip_if (by rfl) ?_
  refine hK.out _ _ hS (fun hS => ?_)
  clear hK K
  try simp only [Act.put, zA, zB, zC]
  (refine tk 19 ?_ rfl (Or.inl ⟨by rfl, ?_⟩) hS ?_; rotate_left; focus (intro w' hSw; obtain ⟨s0, s1, s2, sb⟩ := hSw; go_simp <;> try with_reducible rfl))
  try simp only [Act.put, zA, zB, zC]
  (refine tk 20 ?_ rfl (Or.inl ⟨by rfl, ?_⟩) hS ?_; rotate_left; focus (intro w' hSw; obtain ⟨s0, s1, s2, sb⟩ := hSw; go_simp <;> try with_reducible rfl))
  try simp only [Act.put, zA, zB, zC]
  (refine wpAnyH_take (i := 21) (oi := ⟨_, _, _, _, _, _⟩) (v := undef) rfl (by kernel_rfl) (by kernel_rfl) (by kernel_rfl) (fun _ _ _ h => h) (Or.inr ⟨by rfl, rfl⟩) hS ?_)
  try simp only [Act.put, zA, zB, zC]
  (refine wpAnyH_take (i := 22) (oi := ⟨_, _, _, _, _, _⟩) (v := undef) rfl (by kernel_rfl) (by kernel_rfl) (by kernel_rfl) (fun _ _ _ h => h) (Or.inr ⟨by rfl, rfl⟩) hS ?_)
  try simp only [Act.put, zA, zB, zC]
  refine rdy 23 rfl (fun K hK => ?_)
  refine skip_if (by rfl) ?_
  refine hK.out _ _ hS (fun hS => ?_)
  clear hK K
  try simp only [Act.put, zA, zB, zC]
  (refine wpAnyH_take (i := 24) (oi := ⟨_, _, _, _, _, _⟩) (v := undef) rfl (by kernel_rfl) (by kernel_rfl) (by kernel_rfl) (fun _ _ _ h => h) (Or.inr ⟨by rfl, rfl⟩) hS ?_)
  try simp only [Act.put, zA, zB, zC]
  (refine tk 25 ?_ rfl (Or.inl ⟨by rfl, ?_⟩) hS ?_; rotate_left; focus (intro w' hSw; obtain ⟨s0, s1, s2, sb⟩ := hSw; go_simp <;> try with_reducible rfl))
  try simp only [Act.put, zA, zB, zC]
  (refine tk 26 ?_ rfl (Or.inl ⟨by rfl, ?_⟩) hS ?_; rotate_left; focus (intro w' hSw; obtain ⟨s0, s1, s2, sb⟩ := hSw; go_simp <;> try with_reducible rfl))
  try simp only [Act.put, zA, zB, zC]
  refine wpAnyH_done (by kernel_rfl) ?_ _
  obtain ⟨s0, s1, s2, sb⟩ := hS
  obtain ⟨_, _, _, _, _, _, _, _, _⟩ := s0.out9
  obtain ⟨_, _, _, _, _, _, _, _, _⟩ := s1.out9
  obtain ⟨_, _, _, _, _, _, _, _, _⟩ := s2.out9
  have le5 := sb.le
  go_wp2_with (first
    | (go_at_call 25; (with_reducible refine (LAB.out _).mono ?_); rintro e' w5 ⟨rfl, hq⟩; have A5 := sb.at_ hq s0 (show w.heap.size < _ by omega); have B5 := sb.at_ hq s1 (show w.heap.size + 1 < _ by omega); have L5 := sb.step hq; obtain ⟨_, _, _, _, _, _, _, _, _⟩ := A5.out9; obtain ⟨_, _, _, _, _, _, _, _, _⟩ := B5.out9; have HA5 := Lib.hid A5; have HB5 := Lib.hid B5; have HLX := Lib.hid L5; have le6 := L5.le; clear hq A5 B5 L5)
    | (go_at_call 13; (with_reducible refine (works_w _).mono ?_); rintro e' wz ⟨rfl, hbz⟩; have BZ := Lib.hid (HLX.out.step hbz).bl; clear hbz))
  go_ret
  exact ⟨rfl, BZ.out⟩
set_option maxHeartbeats 2000000 in
set_option maxRecDepth 100000 in
theorem orders_1 (a b c : Cp) (at' : Int) (ha : RC a) (hb : RC b) (hc : RC c) (ra : Raw a) (rb : Raw b) (rc : Raw c) (hr : rightL [a, b, c] = true) (a0 : 0 ≤ at') (a1 : at' < 18446744073709551616) (h0 : a.tg = true) (h1 : a.sealed = false) (h2 : lessB a b = true) (h3 : lessB b c = false) (w : World) :
    Calls Try.prog 10 #[.agg #[true, a.pe, a.ty, a.mo, a.e, a.b, a.t, a.g, .int .u64 a.a], .agg #[b.tg, b.pe, b.ty, b.mo, b.e, b.b, b.t, b.g, .int .u64 b.a], .agg #[c.tg, c.pe, c.ty, c.mo, c.e, c.b, c.t, c.g, .int .u64 c.a], .int .u64 at'] w fun e' w' => e' = .returned (.bool true) ∧ Below w.heap.size w w' := by
  have eaa : lessB a a = true := by rw [less_refl, h0, h1]; rfl
  have eab : lessB a b = true := h2
  have LAA : Hid (∀ w1 : World, Calls Try.prog 25 #[.agg #[true, a.pe, a.ty, a.mo, a.e, a.b, a.t, a.g, .int .u64 a.a], .agg #[true, a.pe, a.ty, a.mo, a.e, a.b, a.t, a.g, .int .u64 a.a]] w1 fun e' w' => e' = .returned (.bool true) ∧ Below w1.heap.size w1 w') := Lib.hid (fun w1 => by have := kb (less_o a a ha ha true eaa w1); rw [h0] at this; exact this)
  have LAB : Hid (∀ w1 : World, Calls Try.prog 25 #[.agg #[true, a.pe, a.ty, a.mo, a.e, a.b, a.t, a.g, .int .u64 a.a], .agg #[b.tg, b.pe, b.ty, b.mo, b.e, b.b, b.t, b.g, .int .u64 b.a]] w1 fun e' w' => e' = .returned (.bool true) ∧ Below w1.heap.size w1 w') := Lib.hid (fun w1 => by have := kb (less_o a b ha hb true eab w1); rw [h0] at this; exact this)
  have LBC : Hid (∀ w1 : World, Calls Try.prog 25 #[.agg #[b.tg, b.pe, b.ty, b.mo, b.e, b.b, b.t, b.g, .int .u64 b.a], .agg #[c.tg, c.pe, c.ty, c.mo, c.e, c.b, c.t, c.g, .int .u64 c.a]] w1 fun e' w' => e' = .returned (.bool false) ∧ Below w1.heap.size w1 w') := Lib.hid (fun w1 => kb (less_o b c hb hc false h3 w1))
  have LSE : Hid (∀ w1 : World, Calls Try.prog 34 #[.agg #[true, a.pe, a.ty, a.mo, a.e, a.b, a.t, a.g, .int .u64 a.a]] w1 fun e' w' => e' = .returned (.bool false) ∧ Below w1.heap.size w1 w') := Lib.hid (fun w1 => by have := kb (sealed_w a.tg a.pe a.ty a.mo a.e a.b a.t a.g a.a _ h1 w1); rw [h0] at this; exact this)
  have HRT : Hid (∀ (A : Option Addr) (n : Nat) (w1 : World), Rd w1 w1.heap.size A [a, b, c] → Calls Try.prog 20 #[.slice A 3 n] w1 fun e' w' => e' = .returned (.bool true) ∧ Kp w1 w') := Lib.hid (fun A n w1 h => rightl_w [a, b, c] A n w1 h (by simp) (by intro d hd; simp at hd; rcases hd with rfl | rfl | rfl; exact ra; exact rb; exact rc) true hr)
  have ev : vsL [a, b, c] = [.bool true, .int .i64 a.pe, .int .i64 a.ty, .int .i64 a.mo, .int .i64 a.e, .int .i64 a.b, .int .i64 a.t, .bool a.g, .int .u64 a.a, .bool b.tg, .int .i64 b.pe, .int .i64 b.ty, .int .i64 b.mo, .int .i64 b.e, .int .i64 b.b, .int .i64 b.t, .bool b.g, .int .u64 b.a, .bool c.tg, .int .i64 c.pe, .int .i64 c.ty, .int .i64 c.mo, .int .i64 c.e, .int .i64 c.b, .int .i64 c.t, .bool c.g, .int .u64 c.a] := by simp [vsL, Cp.vs, h0]
  have hr0 : ∀ w1 : World, Rd (w1.alloc (.cells #[true, a.pe, a.ty, a.mo, a.e, a.b, a.t, a.g, .int .u64 a.a, b.tg, b.pe, b.ty, b.mo, b.e, b.b, b.t, b.g, .int .u64 b.a, c.tg, c.pe, c.ty, c.mo, c.e, c.b, c.t, c.g, .int .u64 c.a] 25)) (w1.alloc (.cells #[true, a.pe, a.ty, a.mo, a.e, a.b, a.t, a.g, .int .u64 a.a, b.tg, b.pe, b.ty, b.mo, b.e, b.b, b.t, b.g, .int .u64 b.a, c.tg, c.pe, c.ty, c.mo, c.e, c.b, c.t, c.g, .int .u64 c.a] 25)).heap.size (some ⟨w1.heap.size, 0, none⟩) [a, b, c] := fun w1 => by have := rd_new [a, b, c] w1; rw [ev] at this; exact this
  have HR0 := Lib.hid hr0
  obtain ⟨mv, hmv⟩ : ∃ mv, moveT a.tg a.ty a.e a.b a.t a.g a.a at' = mv := ⟨_, rfl⟩
  have LMV : Hid (∀ w1 : World, Calls Try.prog 35 #[.agg #[true, a.pe, a.ty, a.mo, a.e, a.b, a.t, a.g, .int .u64 a.a], .int .u64 at'] w1 fun e' w' => e' = .returned (.agg #[mv, a.pe, a.ty, a.mo, a.e, a.b, a.t, a.g, .int .u64 at']) ∧ Kp w1 w') := Lib.hid (fun w1 => by have := move_w a.tg a.pe a.ty a.mo a.e a.b a.t a.g a.a at' ha.f a0 a1 mv hmv w1; rw [h0] at this; exact this)
  have HPE := less_per h2
  have LMB : Hid (mv = true → ∀ w1 : World, Calls Try.prog 25 #[.agg #[true, a.pe, a.ty, a.mo, a.e, a.b, a.t, a.g, .int .u64 at'], .agg #[b.tg, b.pe, b.ty, b.mo, b.e, b.b, b.t, b.g, .int .u64 b.a]] w1 fun e' w' => e' = .returned (.bool true) ∧ Kp w1 w') := Lib.hid (fun e w1 => less_o (mvC a at' true) b (ha.mv a0 a1 true) hb true (less_move h2 (by rw [hmv]; exact e)) w1)
  have A3 : At (w.heap.size) [true, a.pe, a.ty, a.mo, a.e, a.b, a.t, a.g, .int .u64 a.a] (((w.alloc (.cells #[true, a.pe, a.ty, a.mo, a.e, a.b, a.t, a.g, .int .u64 a.a] 25)).alloc (.cells #[b.tg, b.pe, b.ty, b.mo, b.e, b.b, b.t, b.g, .int .u64 b.a] 25)).alloc (.cells #[c.tg, c.pe, c.ty, c.mo, c.e, c.b, c.t, c.g, .int .u64 c.a] 25)) := ((At.new w [true, a.pe, a.ty, a.mo, a.e, a.b, a.t, a.g, .int .u64 a.a] 25).alloc _).alloc _
  have B3 : At (w.heap.size + 1) [b.tg, b.pe, b.ty, b.mo, b.e, b.b, b.t, b.g, .int .u64 b.a] (((w.alloc (.cells #[true, a.pe, a.ty, a.mo, a.e, a.b, a.t, a.g, .int .u64 a.a] 25)).alloc (.cells #[b.tg, b.pe, b.ty, b.mo, b.e, b.b, b.t, b.g, .int .u64 b.a] 25)).alloc (.cells #[c.tg, c.pe, c.ty, c.mo, c.e, c.b, c.t, c.g, .int .u64 c.a] 25)) := (At.new' (w.alloc (.cells #[true, a.pe, a.ty, a.mo, a.e, a.b, a.t, a.g, .int .u64 a.a] 25)) [b.tg, b.pe, b.ty, b.mo, b.e, b.b, b.t, b.g, .int .u64 b.a] 25 (by simp)).alloc _
  have C3 : At (w.heap.size + 1 + 1) [c.tg, c.pe, c.ty, c.mo, c.e, c.b, c.t, c.g, .int .u64 c.a] (((w.alloc (.cells #[true, a.pe, a.ty, a.mo, a.e, a.b, a.t, a.g, .int .u64 a.a] 25)).alloc (.cells #[b.tg, b.pe, b.ty, b.mo, b.e, b.b, b.t, b.g, .int .u64 b.a] 25)).alloc (.cells #[c.tg, c.pe, c.ty, c.mo, c.e, c.b, c.t, c.g, .int .u64 c.a] 25)) := At.new' ((w.alloc (.cells #[true, a.pe, a.ty, a.mo, a.e, a.b, a.t, a.g, .int .u64 a.a] 25)).alloc (.cells #[b.tg, b.pe, b.ty, b.mo, b.e, b.b, b.t, b.g, .int .u64 b.a] 25)) [c.tg, c.pe, c.ty, c.mo, c.e, c.b, c.t, c.g, .int .u64 c.a] 25 (by simp)
  have L3 : Bl w (w.heap.size + 1 + 1 + 1) (((w.alloc (.cells #[true, a.pe, a.ty, a.mo, a.e, a.b, a.t, a.g, .int .u64 a.a] 25)).alloc (.cells #[b.tg, b.pe, b.ty, b.mo, b.e, b.b, b.t, b.g, .int .u64 b.a] 25)).alloc (.cells #[c.tg, c.pe, c.ty, c.mo, c.e, c.b, c.t, c.g, .int .u64 c.a] 25)) := ⟨(((Below.refl _ _).alloc (Nat.le_refl _) _).alloc (by simp) _).alloc (by simp; omega) _, by omega, by simp⟩
  clear eaa eab ra rb rc hr hr0 ev
  go_enter Try.func10, Try.ntmps10
  go_upto_region 1 with fail
  generalize hw0 : (((w.alloc (.cells #[true, a.pe, a.ty, a.mo, a.e, a.b, a.t, a.g, .int .u64 a.a] 25)).alloc (.cells #[b.tg, b.pe, b.ty, b.mo, b.e, b.b, b.t, b.g, .int .u64 b.a] 25)).alloc (.cells #[c.tg, c.pe, c.ty, c.mo, c.e, c.b, c.t, c.g, .int .u64 c.a] 25)) = w0 at A3 B3 C3 L3 ⊢
  clear hw0
  have le0 := L3.le
  obtain ⟨_, _, _, _, _, _, _, _, _⟩ := A3.out9
  obtain ⟨_, _, _, _, _, _, _, _, _⟩ := B3.out9
  obtain ⟨_, _, _, _, _, _, _, _, _⟩ := C3.out9
  have HA3 := Lib.hid A3
  have HB3 := Lib.hid B3
  have HC3 := Lib.hid C3
  have HL3 := Lib.hid L3
  clear A3 B3 C3 L3
  go_upto_region 3 with (go_at_call 20; (with_reducible refine (HRT.out _ _ _ (HR0.out w0)).mono ?_); rintro e' w1 ⟨rfl, qk⟩; have A4 : At (w.heap.size) [true, a.pe, a.ty, a.mo, a.e, a.b, a.t, a.g, .int .u64 a.a] w1 := (HA3.out.alloc _).kp qk (by simp; omega); have B4 : At (w.heap.size + 1) [b.tg, b.pe, b.ty, b.mo, b.e, b.b, b.t, b.g, .int .u64 b.a] w1 := (HB3.out.alloc _).kp qk (by simp; omega); have C4 : At (w.heap.size + 1 + 1) [c.tg, c.pe, c.ty, c.mo, c.e, c.b, c.t, c.g, .int .u64 c.a] w1 := (HC3.out.alloc _).kp qk (by simp; omega); have L4 : Bl w (w.heap.size + 1 + 1 + 1) w1 := (HL3.out.alloc _).step qk.1; clear qk)
  refine wp_region_held_drew (S := (fun w' => At (w.heap.size) [true, a.pe, a.ty, a.mo, a.e, a.b, a.t, a.g, .int .u64 a.a] w' ∧ At (w.heap.size + 1) [b.tg, b.pe, b.ty, b.mo, b.e, b.b, b.t, b.g, .int .u64 b.a] w' ∧ At (w.heap.size + 1 + 1) [c.tg, c.pe, c.ty, c.mo, c.e, c.b, c.t, c.g, .int .u64 c.a] w' ∧ Bl w (w.heap.size + 1 + 1 + 1) w')) (by kernel_rfl) ⟨At.drew (by with_reducible assumption), At.drew (by with_reducible assumption), At.drew (by with_reducible assumption), Bl.drew (by with_reducible assumption)⟩ (fun hS => ?_)
  generalize hgw : w1.drew = g0 at hS ⊢
  clear hgw
  try simp only [Act.put, zA, zB, zC]
  (refine tk 0 ?_ rfl (Or.inl ⟨by rfl, ?_⟩) hS ?_; rotate_left; focus (intro w' hSw; obtain ⟨s0, s1, s2, sb⟩ := hSw; obtain ⟨_, _, _, _, _, _, _, _, _⟩ := s0.out9; obtain ⟨_, _, _, _, _, _, _, _, _⟩ := s1.out9; obtain ⟨_, _, _, _, _, _, _, _, _⟩ := s2.out9; go_simp <;> try with_reducible rfl))
  try simp only [Act.put, zA, zB, zC]
  (refine tk 1 ?_ rfl (Or.inl ⟨by rfl, ?_⟩) hS ?_; rotate_left; focus (intro w' hSw; obtain ⟨s0, s1, s2, sb⟩ := hSw; obtain ⟨_, _, _, _, _, _, _, _, _⟩ := s0.out9; obtain ⟨_, _, _, _, _, _, _, _, _⟩ := s1.out9; obtain ⟨_, _, _, _, _, _, _, _, _⟩ := s2.out9; go_simp <;> try with_reducible rfl))
  try simp only [Act.put, zA, zB, zC]
  (refine tk 3 ?_ rfl (Or.inl ⟨by rfl, ?_⟩) hS ?_; rotate_left; focus (intro w' hSw; obtain ⟨s0, s1, s2, sb⟩ := hSw; go_simp <;> try with_reducible rfl))
  try simp only [Act.put, zA, zB, zC]
  (refine tk 4 ?_ rfl (Or.inl ⟨by rfl, ?_⟩) hS ?_; rotate_left; focus (intro w' hSw; obtain ⟨s0, s1, s2, sb⟩ := hSw; obtain ⟨_, _, _, _, _, _, _, _, _⟩ := s0.out9; obtain ⟨_, _, _, _, _, _, _, _, _⟩ := s1.out9; obtain ⟨_, _, _, _, _, _, _, _, _⟩ := s2.out9; go_simp <;> try with_reducible rfl))
  try simp only [Act.put, zA, zB, zC]
  refine rdy 2 rfl (fun K hK => ?_)
  refine take_if (by rfl) ?_
  obtain ⟨s0, s1, s2, sb⟩ := hS
  go_simp
  (with_reducible refine (LAA.out _).mono ?_)
  rintro e' g2 ⟨rfl, hb⟩
  have t0 := sb.at_ hb s0 (show w.heap.size < w.heap.size + 1 + 1 + 1 by omega)
  have t1 := sb.at_ hb s1 (show w.heap.size + 1 < w.heap.size + 1 + 1 + 1 by omega)
  have t2 := sb.at_ hb s2 (show w.heap.size + 1 + 1 < w.heap.size + 1 + 1 + 1 by omega)
  refine hK.out _ _ ⟨t0, t1, t2, (sb.step hb)⟩ (fun hS => ?_)
  clear hK K hb s0 t0 s1 t1 s2 t2 sb
  try simp only [Act.put, zA, zB, zC]
  (refine tk 5 ?_ rfl (Or.inl ⟨by rfl, ?_⟩) hS ?_; rotate_left; focus (intro w' hSw; obtain ⟨s0, s1, s2, sb⟩ := hSw; go_simp <;> try with_reducible rfl))
  try simp only [Act.put, zA, zB, zC]
  (refine tk 6 ?_ rfl (Or.inl ⟨by rfl, ?_⟩) hS ?_; rotate_left; focus (intro w' hSw; obtain ⟨s0, s1, s2, sb⟩ := hSw; obtain ⟨_, _, _, _, _, _, _, _, _⟩ := s0.out9; obtain ⟨_, _, _, _, _, _, _, _, _⟩ := s1.out9; obtain ⟨_, _, _, _, _, _, _, _, _⟩ := s2.out9; go_simp <;> try with_reducible rfl))
  try simp only [Act.put, zA, zB, zC]
  refine rdy 7 rfl (fun K hK => ?_)
  refine take_if (by rfl) ?_
  obtain ⟨s0, s1, s2, sb⟩ := hS
  go_simp
  (with_reducible refine (LSE.out _).mono ?_)
  rintro e' g7 ⟨rfl, hb⟩
  have t0 := sb.at_ hb s0 (show w.heap.size < w.heap.size + 1 + 1 + 1 by omega)
  have t1 := sb.at_ hb s1 (show w.heap.size + 1 < w.heap.size + 1 + 1 + 1 by omega)
  have t2 := sb.at_ hb s2 (show w.heap.size + 1 + 1 < w.heap.size + 1 + 1 + 1 by omega)
  refine hK.out _ _ ⟨t0, t1, t2, (sb.step hb)⟩ (fun hS => ?_)
  clear hK K hb s0 t0 s1 t1 s2 t2 sb
  try simp only [Act.put, zA, zB, zC]
  (refine tk 8 ?_ rfl (Or.inl ⟨by rfl, ?_⟩) hS ?_; rotate_left; focus (intro w' hSw; obtain ⟨s0, s1, s2, sb⟩ := hSw; go_simp <;> try with_reducible rfl))
  try simp only [Act.put, zA, zB, zC]
  (refine tk 9 ?_ rfl (Or.inl ⟨by rfl, ?_⟩) hS ?_; rotate_left; focus (intro w' hSw; obtain ⟨s0, s1, s2, sb⟩ := hSw; go_simp <;> try with_reducible rfl))
  try simp only [Act.put, zA, zB, zC]
  (refine tk 10 ?_ rfl (Or.inl ⟨by rfl, ?_⟩) hS ?_; rotate_left; focus (intro w' hSw; obtain ⟨s0, s1, s2, sb⟩ := hSw; go_simp <;> try with_reducible rfl))
  try simp only [Act.put, zA, zB, zC]
  (refine tk 11 ?_ rfl (Or.inl ⟨by rfl, ?_⟩) hS ?_; rotate_left; focus (intro w' hSw; obtain ⟨s0, s1, s2, sb⟩ := hSw; go_simp <;> try with_reducible rfl))
  try simp only [Act.put, zA, zB, zC]
  (refine tk 12 ?_ rfl (Or.inl ⟨by rfl, ?_⟩) hS ?_; rotate_left; focus (intro w' hSw; obtain ⟨s0, s1, s2, sb⟩ := hSw; obtain ⟨_, _, _, _, _, _, _, _, _⟩ := s0.out9; obtain ⟨_, _, _, _, _, _, _, _, _⟩ := s1.out9; obtain ⟨_, _, _, _, _, _, _, _, _⟩ := s2.out9; go_simp <;> try with_reducible rfl))
  try simp only [Act.put, zA, zB, zC]
  (refine tk 13 ?_ rfl (Or.inl ⟨by rfl, ?_⟩) hS ?_; rotate_left; focus (intro w' hSw; obtain ⟨s0, s1, s2, sb⟩ := hSw; obtain ⟨_, _, _, _, _, _, _, _, _⟩ := s0.out9; obtain ⟨_, _, _, _, _, _, _, _, _⟩ := s1.out9; obtain ⟨_, _, _, _, _, _, _, _, _⟩ := s2.out9; go_simp <;> try with_reducible rfl))
  try simp only [Act.put, zA, zB, zC]
  refine rdy 14 rfl (fun K hK => ?_)
  refine take_if (by rfl) ?_
  obtain ⟨s0, s1, s2, sb⟩ := hS
  go_simp
  (with_reducible refine (LAB.out _).mono ?_)
  rintro e' g14 ⟨rfl, hb⟩
  have t0 := sb.at_ hb s0 (show w.heap.size < w.heap.size + 1 + 1 + 1 by omega)
  have t1 := sb.at_ hb s1 (show w.heap.size + 1 < w.heap.size + 1 + 1 + 1 by omega)
  have t2 := sb.at_ hb s2 (show w.heap.size + 1 + 1 < w.heap.size + 1 + 1 + 1 by omega)
  refine hK.out _ _ ⟨t0, t1, t2, (sb.step hb)⟩ (fun hS => ?_)
  clear hK K hb s0 t0 s1 t1 s2 t2 sb
  try simp only [Act.put, zA, zB, zC]
  (refine tk 15 ?_ rfl (Or.inl ⟨by rfl, ?_⟩) hS ?_; rotate_left; focus (intro w' hSw; obtain ⟨s0, s1, s2, sb⟩ := hSw; go_simp <;> try with_reducible rfl))
  try simp only [Act.put, zA, zB, zC]
  (refine tk 16 ?_ rfl (Or.inl ⟨by rfl, ?_⟩) hS ?_; rotate_left; focus (intro w' hSw; obtain ⟨s0, s1, s2, sb⟩ := hSw; obtain ⟨_, _, _, _, _, _, _, _, _⟩ := s0.out9; obtain ⟨_, _, _, _, _, _, _, _, _⟩ := s1.out9; obtain ⟨_, _, _, _, _, _, _, _, _⟩ := s2.out9; go_simp <;> try with_reducible rfl))
  try simp only [Act.put, zA, zB, zC]
  (refine tk 17 ?_ rfl (Or.inl ⟨by rfl, ?_⟩) hS ?_; rotate_left; focus (intro w' hSw; obtain ⟨s0, s1, s2, sb⟩ := hSw; obtain ⟨_, _, _, _, _, _, _, _, _⟩ := s0.out9; obtain ⟨_, _, _, _, _, _, _, _, _⟩ := s1.out9; obtain ⟨_, _, _, _, _, _, _, _, _⟩ := s2.out9; go_simp <;> try with_reducible rfl))
  try simp only [Act.put, zA, zB, zC]
  refine rdy 18 rfl (fun K hK => ?_)
  refine take_if (by rfl) ?_
  obtain ⟨s0, s1, s2, sb⟩ := hS
  go_simp
  (with_reducible refine (LBC.out _).mono ?_)
  rintro e' g18 ⟨rfl, hb⟩
  have t0 := sb.at_ hb s0 (show w.heap.size < w.heap.size + 1 + 1 + 1 by omega)
  have t1 := sb.at_ hb s1 (show w.heap.size + 1 < w.heap.size + 1 + 1 + 1 by omega)
  have t2 := sb.at_ hb s2 (show w.heap.size + 1 + 1 < w.heap.size + 1 + 1 + 1 by omega)
  refine hK.out _ _ ⟨t0, t1, t2, (sb.step hb)⟩ (fun hS => ?_)
  clear hK K hb s0 t0 s1 t1 s2 t2 sb
  try simp only [Act.put, zA, zB, zC]
  (refine tk 19 ?_ rfl (Or.inl ⟨by rfl, ?_⟩) hS ?_; rotate_left; focus (intro w' hSw; obtain ⟨s0, s1, s2, sb⟩ := hSw; go_simp <;> try with_reducible rfl))
  try simp only [Act.put, zA, zB, zC]
  (refine tk 20 ?_ rfl (Or.inl ⟨by rfl, ?_⟩) hS ?_; rotate_left; focus (intro w' hSw; obtain ⟨s0, s1, s2, sb⟩ := hSw; go_simp <;> try with_reducible rfl))
  try simp only [Act.put, zA, zB, zC]
  (refine wpAnyH_take (i := 21) (oi := ⟨_, _, _, _, _, _⟩) (v := undef) rfl (by kernel_rfl) (by kernel_rfl) (by kernel_rfl) (fun _ _ _ h => h) (Or.inr ⟨by rfl, rfl⟩) hS ?_)
  try simp only [Act.put, zA, zB, zC]
  (refine wpAnyH_take (i := 22) (oi := ⟨_, _, _, _, _, _⟩) (v := undef) rfl (by kernel_rfl) (by kernel_rfl) (by kernel_rfl) (fun _ _ _ h => h) (Or.inr ⟨by rfl, rfl⟩) hS ?_)
  try simp only [Act.put, zA, zB, zC]
  refine rdy 23 rfl (fun K hK => ?_)
  refine skip_if (by rfl) ?_
  refine hK.out _ _ hS (fun hS => ?_)
  clear hK K
  try simp only [Act.put, zA, zB, zC]
  (refine wpAnyH_take (i := 24) (oi := ⟨_, _, _, _, _, _⟩) (v := undef) rfl (by kernel_rfl) (by kernel_rfl) (by kernel_rfl) (fun _ _ _ h => h) (Or.inr ⟨by rfl, rfl⟩) hS ?_)
  try simp only [Act.put, zA, zB, zC]
  (refine tk 25 ?_ rfl (Or.inl ⟨by rfl, ?_⟩) hS ?_; rotate_left; focus (intro w' hSw; obtain ⟨s0, s1, s2, sb⟩ := hSw; go_simp <;> try with_reducible rfl))
  try simp only [Act.put, zA, zB, zC]
  (refine tk 26 ?_ rfl (Or.inl ⟨by rfl, ?_⟩) hS ?_; rotate_left; focus (intro w' hSw; obtain ⟨s0, s1, s2, sb⟩ := hSw; go_simp <;> try with_reducible rfl))
  try simp only [Act.put, zA, zB, zC]
  refine wpAnyH_done (by kernel_rfl) ?_ _
  obtain ⟨s0, s1, s2, sb⟩ := hS
  obtain ⟨_, _, _, _, _, _, _, _, _⟩ := s0.out9
  obtain ⟨_, _, _, _, _, _, _, _, _⟩ := s1.out9
  obtain ⟨_, _, _, _, _, _, _, _, _⟩ := s2.out9
  have le5 := sb.le
  clear hmv
  cases mv
  · go_wp2_with (first
      | (go_at_call 25; (with_reducible refine (LAB.out _).mono ?_); rintro e' w5 ⟨rfl, hq⟩; have A5 := sb.at_ hq s0 (show w.heap.size < _ by omega); have B5 := sb.at_ hq s1 (show w.heap.size + 1 < _ by omega); have L5 := sb.step hq; obtain ⟨_, _, _, _, _, _, _, _, _⟩ := A5.out9; obtain ⟨_, _, _, _, _, _, _, _, _⟩ := B5.out9; have HA5 := Lib.hid A5; have HB5 := Lib.hid B5; have HLX := Lib.hid L5; have le6 := L5.le; clear hq A5 B5 L5)
      | (go_at_call 35; (with_reducible refine (LMV.out _).mono ?_); rintro e' w6 ⟨rfl, qk⟩; have A6 := HA5.out.kp qk (by omega); have B6 := HB5.out.kp qk (by omega); have L6 := HLX.out.step qk.1; obtain ⟨_, _, _, _, _, _, _, _, _⟩ := A6.out9; obtain ⟨_, _, _, _, _, _, _, _, _⟩ := B6.out9; have HB6 := Lib.hid B6; have le7 : w5.heap.size ≤ w6.heap.size := qk.size; have z0 : w.heap.size < w6.heap.size := (by omega); have z1 : w.heap.size + 1 < w6.heap.size := (by omega); have HL6 := Lib.hid L6; clear qk A6 B6 L6)
      | (go_at_call 13; (with_reducible refine (works_w _).mono ?_); rintro e' wz ⟨rfl, hbz⟩; have BZ := Lib.hid ((HL6.out.alloc _).step hbz).bl; clear hbz))
    go_ret
    exact ⟨rfl, BZ.out⟩
  · have LMB2 := Lib.hid (LMB.out rfl)
    go_wp2_with (first
      | (go_at_call 25; (with_reducible refine (LAB.out _).mono ?_); rintro e' w5 ⟨rfl, hq⟩; have A5 := sb.at_ hq s0 (show w.heap.size < _ by omega); have B5 := sb.at_ hq s1 (show w.heap.size + 1 < _ by omega); have L5 := sb.step hq; obtain ⟨_, _, _, _, _, _, _, _, _⟩ := A5.out9; obtain ⟨_, _, _, _, _, _, _, _, _⟩ := B5.out9; have HA5 := Lib.hid A5; have HB5 := Lib.hid B5; have HLX := Lib.hid L5; have le6 := L5.le; clear hq A5 B5 L5)
      | (go_at_call 35; (with_reducible refine (LMV.out _).mono ?_); rintro e' w6 ⟨rfl, qk⟩; have A6 := HA5.out.kp qk (by omega); have B6 := HB5.out.kp qk (by omega); have L6 := HLX.out.step qk.1; obtain ⟨_, _, _, _, _, _, _, _, _⟩ := A6.out9; obtain ⟨_, _, _, _, _, _, _, _, _⟩ := B6.out9; have HB6 := Lib.hid B6; have le7 : w5.heap.size ≤ w6.heap.size := qk.size; have z0 : w.heap.size < w6.heap.size := (by omega); have z1 : w.heap.size + 1 < w6.heap.size := (by omega); have HL6 := Lib.hid L6; clear qk A6 B6 L6)
      | (go_at_call 25; go_loud (with_reducible refine (LMB2.out _).mono ?_); rintro e' w7 ⟨rfl, qk⟩; have HL7 := Lib.hid ((HL6.out.alloc _).step qk.1); clear qk)
      | (go_at_call 13; (with_reducible refine (works_w _).mono ?_); rintro e' wz ⟨rfl, hbz⟩; have BZ := Lib.hid (HL7.out.step hbz).bl; clear hbz))
    go_ret
    exact ⟨rfl, BZ.out⟩
set_option maxHeartbeats 2000000 in
set_option maxRecDepth 100000 in
theorem orders_2 (a b c : Cp) (at' : Int) (ha : RC a) (hb : RC b) (hc : RC c) (ra : Raw a) (rb : Raw b) (rc : Raw c) (hr : rightL [a, b, c] = true) (a0 : 0 ≤ at') (a1 : at' < 18446744073709551616) (h0 : a.tg = true) (h1 : a.sealed = false) (h2 : lessB a b = true) (h3 : lessB b c = true) (w : World) :
    Calls Try.prog 10 #[.agg #[true, a.pe, a.ty, a.mo, a.e, a.b, a.t, a.g, .int .u64 a.a], .agg #[b.tg, b.pe, b.ty, b.mo, b.e, b.b, b.t, b.g, .int .u64 b.a], .agg #[c.tg, c.pe, c.ty, c.mo, c.e, c.b, c.t, c.g, .int .u64 c.a], .int .u64 at'] w fun e' w' => e' = .returned (.bool true) ∧ Below w.heap.size w w' := by
  have eaa : lessB a a = true := by rw [less_refl, h0, h1]; rfl
  have eab : lessB a b = true := h2
  have eac : lessB a c = true := less_trans h2 h3
  have LAA : Hid (∀ w1 : World, Calls Try.prog 25 #[.agg #[true, a.pe, a.ty, a.mo, a.e, a.b, a.t, a.g, .int .u64 a.a], .agg #[true, a.pe, a.ty, a.mo, a.e, a.b, a.t, a.g, .int .u64 a.a]] w1 fun e' w' => e' = .returned (.bool true) ∧ Below w1.heap.size w1 w') := Lib.hid (fun w1 => by have := kb (less_o a a ha ha true eaa w1); rw [h0] at this; exact this)
  have LAB : Hid (∀ w1 : World, Calls Try.prog 25 #[.agg #[true, a.pe, a.ty, a.mo, a.e, a.b, a.t, a.g, .int .u64 a.a], .agg #[b.tg, b.pe, b.ty, b.mo, b.e, b.b, b.t, b.g, .int .u64 b.a]] w1 fun e' w' => e' = .returned (.bool true) ∧ Below w1.heap.size w1 w') := Lib.hid (fun w1 => by have := kb (less_o a b ha hb true eab w1); rw [h0] at this; exact this)
  have LBC : Hid (∀ w1 : World, Calls Try.prog 25 #[.agg #[b.tg, b.pe, b.ty, b.mo, b.e, b.b, b.t, b.g, .int .u64 b.a], .agg #[c.tg, c.pe, c.ty, c.mo, c.e, c.b, c.t, c.g, .int .u64 c.a]] w1 fun e' w' => e' = .returned (.bool true) ∧ Below w1.heap.size w1 w') := Lib.hid (fun w1 => kb (less_o b c hb hc true h3 w1))
  have LAC : Hid (∀ w1 : World, Calls Try.prog 25 #[.agg #[true, a.pe, a.ty, a.mo, a.e, a.b, a.t, a.g, .int .u64 a.a], .agg #[c.tg, c.pe, c.ty, c.mo, c.e, c.b, c.t, c.g, .int .u64 c.a]] w1 fun e' w' => e' = .returned (.bool true) ∧ Below w1.heap.size w1 w') := Lib.hid (fun w1 => by have := kb (less_o a c ha hc true eac w1); rw [h0] at this; exact this)
  have LSE : Hid (∀ w1 : World, Calls Try.prog 34 #[.agg #[true, a.pe, a.ty, a.mo, a.e, a.b, a.t, a.g, .int .u64 a.a]] w1 fun e' w' => e' = .returned (.bool false) ∧ Below w1.heap.size w1 w') := Lib.hid (fun w1 => by have := kb (sealed_w a.tg a.pe a.ty a.mo a.e a.b a.t a.g a.a _ h1 w1); rw [h0] at this; exact this)
  have HRT : Hid (∀ (A : Option Addr) (n : Nat) (w1 : World), Rd w1 w1.heap.size A [a, b, c] → Calls Try.prog 20 #[.slice A 3 n] w1 fun e' w' => e' = .returned (.bool true) ∧ Kp w1 w') := Lib.hid (fun A n w1 h => rightl_w [a, b, c] A n w1 h (by simp) (by intro d hd; simp at hd; rcases hd with rfl | rfl | rfl; exact ra; exact rb; exact rc) true hr)
  have ev : vsL [a, b, c] = [.bool true, .int .i64 a.pe, .int .i64 a.ty, .int .i64 a.mo, .int .i64 a.e, .int .i64 a.b, .int .i64 a.t, .bool a.g, .int .u64 a.a, .bool b.tg, .int .i64 b.pe, .int .i64 b.ty, .int .i64 b.mo, .int .i64 b.e, .int .i64 b.b, .int .i64 b.t, .bool b.g, .int .u64 b.a, .bool c.tg, .int .i64 c.pe, .int .i64 c.ty, .int .i64 c.mo, .int .i64 c.e, .int .i64 c.b, .int .i64 c.t, .bool c.g, .int .u64 c.a] := by simp [vsL, Cp.vs, h0]
  have hr0 : ∀ w1 : World, Rd (w1.alloc (.cells #[true, a.pe, a.ty, a.mo, a.e, a.b, a.t, a.g, .int .u64 a.a, b.tg, b.pe, b.ty, b.mo, b.e, b.b, b.t, b.g, .int .u64 b.a, c.tg, c.pe, c.ty, c.mo, c.e, c.b, c.t, c.g, .int .u64 c.a] 25)) (w1.alloc (.cells #[true, a.pe, a.ty, a.mo, a.e, a.b, a.t, a.g, .int .u64 a.a, b.tg, b.pe, b.ty, b.mo, b.e, b.b, b.t, b.g, .int .u64 b.a, c.tg, c.pe, c.ty, c.mo, c.e, c.b, c.t, c.g, .int .u64 c.a] 25)).heap.size (some ⟨w1.heap.size, 0, none⟩) [a, b, c] := fun w1 => by have := rd_new [a, b, c] w1; rw [ev] at this; exact this
  have HR0 := Lib.hid hr0
  obtain ⟨mv, hmv⟩ : ∃ mv, moveT a.tg a.ty a.e a.b a.t a.g a.a at' = mv := ⟨_, rfl⟩
  have LMV : Hid (∀ w1 : World, Calls Try.prog 35 #[.agg #[true, a.pe, a.ty, a.mo, a.e, a.b, a.t, a.g, .int .u64 a.a], .int .u64 at'] w1 fun e' w' => e' = .returned (.agg #[mv, a.pe, a.ty, a.mo, a.e, a.b, a.t, a.g, .int .u64 at']) ∧ Kp w1 w') := Lib.hid (fun w1 => by have := move_w a.tg a.pe a.ty a.mo a.e a.b a.t a.g a.a at' ha.f a0 a1 mv hmv w1; rw [h0] at this; exact this)
  have HPE := less_per h2
  have LMB : Hid (mv = true → ∀ w1 : World, Calls Try.prog 25 #[.agg #[true, a.pe, a.ty, a.mo, a.e, a.b, a.t, a.g, .int .u64 at'], .agg #[b.tg, b.pe, b.ty, b.mo, b.e, b.b, b.t, b.g, .int .u64 b.a]] w1 fun e' w' => e' = .returned (.bool true) ∧ Kp w1 w') := Lib.hid (fun e w1 => less_o (mvC a at' true) b (ha.mv a0 a1 true) hb true (less_move h2 (by rw [hmv]; exact e)) w1)
  have A3 : At (w.heap.size) [true, a.pe, a.ty, a.mo, a.e, a.b, a.t, a.g, .int .u64 a.a] (((w.alloc (.cells #[true, a.pe, a.ty, a.mo, a.e, a.b, a.t, a.g, .int .u64 a.a] 25)).alloc (.cells #[b.tg, b.pe, b.ty, b.mo, b.e, b.b, b.t, b.g, .int .u64 b.a] 25)).alloc (.cells #[c.tg, c.pe, c.ty, c.mo, c.e, c.b, c.t, c.g, .int .u64 c.a] 25)) := ((At.new w [true, a.pe, a.ty, a.mo, a.e, a.b, a.t, a.g, .int .u64 a.a] 25).alloc _).alloc _
  have B3 : At (w.heap.size + 1) [b.tg, b.pe, b.ty, b.mo, b.e, b.b, b.t, b.g, .int .u64 b.a] (((w.alloc (.cells #[true, a.pe, a.ty, a.mo, a.e, a.b, a.t, a.g, .int .u64 a.a] 25)).alloc (.cells #[b.tg, b.pe, b.ty, b.mo, b.e, b.b, b.t, b.g, .int .u64 b.a] 25)).alloc (.cells #[c.tg, c.pe, c.ty, c.mo, c.e, c.b, c.t, c.g, .int .u64 c.a] 25)) := (At.new' (w.alloc (.cells #[true, a.pe, a.ty, a.mo, a.e, a.b, a.t, a.g, .int .u64 a.a] 25)) [b.tg, b.pe, b.ty, b.mo, b.e, b.b, b.t, b.g, .int .u64 b.a] 25 (by simp)).alloc _
  have C3 : At (w.heap.size + 1 + 1) [c.tg, c.pe, c.ty, c.mo, c.e, c.b, c.t, c.g, .int .u64 c.a] (((w.alloc (.cells #[true, a.pe, a.ty, a.mo, a.e, a.b, a.t, a.g, .int .u64 a.a] 25)).alloc (.cells #[b.tg, b.pe, b.ty, b.mo, b.e, b.b, b.t, b.g, .int .u64 b.a] 25)).alloc (.cells #[c.tg, c.pe, c.ty, c.mo, c.e, c.b, c.t, c.g, .int .u64 c.a] 25)) := At.new' ((w.alloc (.cells #[true, a.pe, a.ty, a.mo, a.e, a.b, a.t, a.g, .int .u64 a.a] 25)).alloc (.cells #[b.tg, b.pe, b.ty, b.mo, b.e, b.b, b.t, b.g, .int .u64 b.a] 25)) [c.tg, c.pe, c.ty, c.mo, c.e, c.b, c.t, c.g, .int .u64 c.a] 25 (by simp)
  have L3 : Bl w (w.heap.size + 1 + 1 + 1) (((w.alloc (.cells #[true, a.pe, a.ty, a.mo, a.e, a.b, a.t, a.g, .int .u64 a.a] 25)).alloc (.cells #[b.tg, b.pe, b.ty, b.mo, b.e, b.b, b.t, b.g, .int .u64 b.a] 25)).alloc (.cells #[c.tg, c.pe, c.ty, c.mo, c.e, c.b, c.t, c.g, .int .u64 c.a] 25)) := ⟨(((Below.refl _ _).alloc (Nat.le_refl _) _).alloc (by simp) _).alloc (by simp; omega) _, by omega, by simp⟩
  clear eaa eab eac ra rb rc hr hr0 ev
  go_enter Try.func10, Try.ntmps10
  go_upto_region 1 with fail
  generalize hw0 : (((w.alloc (.cells #[true, a.pe, a.ty, a.mo, a.e, a.b, a.t, a.g, .int .u64 a.a] 25)).alloc (.cells #[b.tg, b.pe, b.ty, b.mo, b.e, b.b, b.t, b.g, .int .u64 b.a] 25)).alloc (.cells #[c.tg, c.pe, c.ty, c.mo, c.e, c.b, c.t, c.g, .int .u64 c.a] 25)) = w0 at A3 B3 C3 L3 ⊢
  clear hw0
  have le0 := L3.le
  obtain ⟨_, _, _, _, _, _, _, _, _⟩ := A3.out9
  obtain ⟨_, _, _, _, _, _, _, _, _⟩ := B3.out9
  obtain ⟨_, _, _, _, _, _, _, _, _⟩ := C3.out9
  have HA3 := Lib.hid A3
  have HB3 := Lib.hid B3
  have HC3 := Lib.hid C3
  have HL3 := Lib.hid L3
  clear A3 B3 C3 L3
  go_upto_region 3 with (go_at_call 20; (with_reducible refine (HRT.out _ _ _ (HR0.out w0)).mono ?_); rintro e' w1 ⟨rfl, qk⟩; have A4 : At (w.heap.size) [true, a.pe, a.ty, a.mo, a.e, a.b, a.t, a.g, .int .u64 a.a] w1 := (HA3.out.alloc _).kp qk (by simp; omega); have B4 : At (w.heap.size + 1) [b.tg, b.pe, b.ty, b.mo, b.e, b.b, b.t, b.g, .int .u64 b.a] w1 := (HB3.out.alloc _).kp qk (by simp; omega); have C4 : At (w.heap.size + 1 + 1) [c.tg, c.pe, c.ty, c.mo, c.e, c.b, c.t, c.g, .int .u64 c.a] w1 := (HC3.out.alloc _).kp qk (by simp; omega); have L4 : Bl w (w.heap.size + 1 + 1 + 1) w1 := (HL3.out.alloc _).step qk.1; clear qk)
  refine wp_region_held_drew (S := (fun w' => At (w.heap.size) [true, a.pe, a.ty, a.mo, a.e, a.b, a.t, a.g, .int .u64 a.a] w' ∧ At (w.heap.size + 1) [b.tg, b.pe, b.ty, b.mo, b.e, b.b, b.t, b.g, .int .u64 b.a] w' ∧ At (w.heap.size + 1 + 1) [c.tg, c.pe, c.ty, c.mo, c.e, c.b, c.t, c.g, .int .u64 c.a] w' ∧ Bl w (w.heap.size + 1 + 1 + 1) w')) (by kernel_rfl) ⟨At.drew (by with_reducible assumption), At.drew (by with_reducible assumption), At.drew (by with_reducible assumption), Bl.drew (by with_reducible assumption)⟩ (fun hS => ?_)
  generalize hgw : w1.drew = g0 at hS ⊢
  clear hgw
  try simp only [Act.put, zA, zB, zC]
  (refine tk 0 ?_ rfl (Or.inl ⟨by rfl, ?_⟩) hS ?_; rotate_left; focus (intro w' hSw; obtain ⟨s0, s1, s2, sb⟩ := hSw; obtain ⟨_, _, _, _, _, _, _, _, _⟩ := s0.out9; obtain ⟨_, _, _, _, _, _, _, _, _⟩ := s1.out9; obtain ⟨_, _, _, _, _, _, _, _, _⟩ := s2.out9; go_simp <;> try with_reducible rfl))
  try simp only [Act.put, zA, zB, zC]
  (refine tk 1 ?_ rfl (Or.inl ⟨by rfl, ?_⟩) hS ?_; rotate_left; focus (intro w' hSw; obtain ⟨s0, s1, s2, sb⟩ := hSw; obtain ⟨_, _, _, _, _, _, _, _, _⟩ := s0.out9; obtain ⟨_, _, _, _, _, _, _, _, _⟩ := s1.out9; obtain ⟨_, _, _, _, _, _, _, _, _⟩ := s2.out9; go_simp <;> try with_reducible rfl))
  try simp only [Act.put, zA, zB, zC]
  (refine tk 3 ?_ rfl (Or.inl ⟨by rfl, ?_⟩) hS ?_; rotate_left; focus (intro w' hSw; obtain ⟨s0, s1, s2, sb⟩ := hSw; go_simp <;> try with_reducible rfl))
  try simp only [Act.put, zA, zB, zC]
  (refine tk 4 ?_ rfl (Or.inl ⟨by rfl, ?_⟩) hS ?_; rotate_left; focus (intro w' hSw; obtain ⟨s0, s1, s2, sb⟩ := hSw; obtain ⟨_, _, _, _, _, _, _, _, _⟩ := s0.out9; obtain ⟨_, _, _, _, _, _, _, _, _⟩ := s1.out9; obtain ⟨_, _, _, _, _, _, _, _, _⟩ := s2.out9; go_simp <;> try with_reducible rfl))
  try simp only [Act.put, zA, zB, zC]
  refine rdy 2 rfl (fun K hK => ?_)
  refine take_if (by rfl) ?_
  obtain ⟨s0, s1, s2, sb⟩ := hS
  go_simp
  (with_reducible refine (LAA.out _).mono ?_)
  rintro e' g2 ⟨rfl, hb⟩
  have t0 := sb.at_ hb s0 (show w.heap.size < w.heap.size + 1 + 1 + 1 by omega)
  have t1 := sb.at_ hb s1 (show w.heap.size + 1 < w.heap.size + 1 + 1 + 1 by omega)
  have t2 := sb.at_ hb s2 (show w.heap.size + 1 + 1 < w.heap.size + 1 + 1 + 1 by omega)
  refine hK.out _ _ ⟨t0, t1, t2, (sb.step hb)⟩ (fun hS => ?_)
  clear hK K hb s0 t0 s1 t1 s2 t2 sb
  try simp only [Act.put, zA, zB, zC]
  (refine tk 5 ?_ rfl (Or.inl ⟨by rfl, ?_⟩) hS ?_; rotate_left; focus (intro w' hSw; obtain ⟨s0, s1, s2, sb⟩ := hSw; go_simp <;> try with_reducible rfl))
  try simp only [Act.put, zA, zB, zC]
  (refine tk 6 ?_ rfl (Or.inl ⟨by rfl, ?_⟩) hS ?_; rotate_left; focus (intro w' hSw; obtain ⟨s0, s1, s2, sb⟩ := hSw; obtain ⟨_, _, _, _, _, _, _, _, _⟩ := s0.out9; obtain ⟨_, _, _, _, _, _, _, _, _⟩ := s1.out9; obtain ⟨_, _, _, _, _, _, _, _, _⟩ := s2.out9; go_simp <;> try with_reducible rfl))
  try simp only [Act.put, zA, zB, zC]
  refine rdy 7 rfl (fun K hK => ?_)
  refine take_if (by rfl) ?_
  obtain ⟨s0, s1, s2, sb⟩ := hS
  go_simp
  (with_reducible refine (LSE.out _).mono ?_)
  rintro e' g7 ⟨rfl, hb⟩
  have t0 := sb.at_ hb s0 (show w.heap.size < w.heap.size + 1 + 1 + 1 by omega)
  have t1 := sb.at_ hb s1 (show w.heap.size + 1 < w.heap.size + 1 + 1 + 1 by omega)
  have t2 := sb.at_ hb s2 (show w.heap.size + 1 + 1 < w.heap.size + 1 + 1 + 1 by omega)
  refine hK.out _ _ ⟨t0, t1, t2, (sb.step hb)⟩ (fun hS => ?_)
  clear hK K hb s0 t0 s1 t1 s2 t2 sb
  try simp only [Act.put, zA, zB, zC]
  (refine tk 8 ?_ rfl (Or.inl ⟨by rfl, ?_⟩) hS ?_; rotate_left; focus (intro w' hSw; obtain ⟨s0, s1, s2, sb⟩ := hSw; go_simp <;> try with_reducible rfl))
  try simp only [Act.put, zA, zB, zC]
  (refine tk 9 ?_ rfl (Or.inl ⟨by rfl, ?_⟩) hS ?_; rotate_left; focus (intro w' hSw; obtain ⟨s0, s1, s2, sb⟩ := hSw; go_simp <;> try with_reducible rfl))
  try simp only [Act.put, zA, zB, zC]
  (refine tk 10 ?_ rfl (Or.inl ⟨by rfl, ?_⟩) hS ?_; rotate_left; focus (intro w' hSw; obtain ⟨s0, s1, s2, sb⟩ := hSw; go_simp <;> try with_reducible rfl))
  try simp only [Act.put, zA, zB, zC]
  (refine tk 11 ?_ rfl (Or.inl ⟨by rfl, ?_⟩) hS ?_; rotate_left; focus (intro w' hSw; obtain ⟨s0, s1, s2, sb⟩ := hSw; go_simp <;> try with_reducible rfl))
  try simp only [Act.put, zA, zB, zC]
  (refine tk 12 ?_ rfl (Or.inl ⟨by rfl, ?_⟩) hS ?_; rotate_left; focus (intro w' hSw; obtain ⟨s0, s1, s2, sb⟩ := hSw; obtain ⟨_, _, _, _, _, _, _, _, _⟩ := s0.out9; obtain ⟨_, _, _, _, _, _, _, _, _⟩ := s1.out9; obtain ⟨_, _, _, _, _, _, _, _, _⟩ := s2.out9; go_simp <;> try with_reducible rfl))
  try simp only [Act.put, zA, zB, zC]
  (refine tk 13 ?_ rfl (Or.inl ⟨by rfl, ?_⟩) hS ?_; rotate_left; focus (intro w' hSw; obtain ⟨s0, s1, s2, sb⟩ := hSw; obtain ⟨_, _, _, _, _, _, _, _, _⟩ := s0.out9; obtain ⟨_, _, _, _, _, _, _, _, _⟩ := s1.out9; obtain ⟨_, _, _, _, _, _, _, _, _⟩ := s2.out9; go_simp <;> try with_reducible rfl))
  try simp only [Act.put, zA, zB, zC]
  refine rdy 14 rfl (fun K hK => ?_)
  refine take_if (by rfl) ?_
  obtain ⟨s0, s1, s2, sb⟩ := hS
  go_simp
  (with_reducible refine (LAB.out _).mono ?_)
  rintro e' g14 ⟨rfl, hb⟩
  have t0 := sb.at_ hb s0 (show w.heap.size < w.heap.size + 1 + 1 + 1 by omega)
  have t1 := sb.at_ hb s1 (show w.heap.size + 1 < w.heap.size + 1 + 1 + 1 by omega)
  have t2 := sb.at_ hb s2 (show w.heap.size + 1 + 1 < w.heap.size + 1 + 1 + 1 by omega)
  refine hK.out _ _ ⟨t0, t1, t2, (sb.step hb)⟩ (fun hS => ?_)
  clear hK K hb s0 t0 s1 t1 s2 t2 sb
  try simp only [Act.put, zA, zB, zC]
  (refine tk 15 ?_ rfl (Or.inl ⟨by rfl, ?_⟩) hS ?_; rotate_left; focus (intro w' hSw; obtain ⟨s0, s1, s2, sb⟩ := hSw; go_simp <;> try with_reducible rfl))
  try simp only [Act.put, zA, zB, zC]
  (refine tk 16 ?_ rfl (Or.inl ⟨by rfl, ?_⟩) hS ?_; rotate_left; focus (intro w' hSw; obtain ⟨s0, s1, s2, sb⟩ := hSw; obtain ⟨_, _, _, _, _, _, _, _, _⟩ := s0.out9; obtain ⟨_, _, _, _, _, _, _, _, _⟩ := s1.out9; obtain ⟨_, _, _, _, _, _, _, _, _⟩ := s2.out9; go_simp <;> try with_reducible rfl))
  try simp only [Act.put, zA, zB, zC]
  (refine tk 17 ?_ rfl (Or.inl ⟨by rfl, ?_⟩) hS ?_; rotate_left; focus (intro w' hSw; obtain ⟨s0, s1, s2, sb⟩ := hSw; obtain ⟨_, _, _, _, _, _, _, _, _⟩ := s0.out9; obtain ⟨_, _, _, _, _, _, _, _, _⟩ := s1.out9; obtain ⟨_, _, _, _, _, _, _, _, _⟩ := s2.out9; go_simp <;> try with_reducible rfl))
  try simp only [Act.put, zA, zB, zC]
  refine rdy 18 rfl (fun K hK => ?_)
  refine take_if (by rfl) ?_
  obtain ⟨s0, s1, s2, sb⟩ := hS
  go_simp
  (with_reducible refine (LBC.out _).mono ?_)
  rintro e' g18 ⟨rfl, hb⟩
  have t0 := sb.at_ hb s0 (show w.heap.size < w.heap.size + 1 + 1 + 1 by omega)
  have t1 := sb.at_ hb s1 (show w.heap.size + 1 < w.heap.size + 1 + 1 + 1 by omega)
  have t2 := sb.at_ hb s2 (show w.heap.size + 1 + 1 < w.heap.size + 1 + 1 + 1 by omega)
  refine hK.out _ _ ⟨t0, t1, t2, (sb.step hb)⟩ (fun hS => ?_)
  clear hK K hb s0 t0 s1 t1 s2 t2 sb
  try simp only [Act.put, zA, zB, zC]
  (refine tk 19 ?_ rfl (Or.inl ⟨by rfl, ?_⟩) hS ?_; rotate_left; focus (intro w' hSw; obtain ⟨s0, s1, s2, sb⟩ := hSw; go_simp <;> try with_reducible rfl))
  try simp only [Act.put, zA, zB, zC]
  (refine tk 20 ?_ rfl (Or.inl ⟨by rfl, ?_⟩) hS ?_; rotate_left; focus (intro w' hSw; obtain ⟨s0, s1, s2, sb⟩ := hSw; go_simp <;> try with_reducible rfl))
  try simp only [Act.put, zA, zB, zC]
  (refine tk 21 ?_ rfl (Or.inl ⟨by rfl, ?_⟩) hS ?_; rotate_left; focus (intro w' hSw; obtain ⟨s0, s1, s2, sb⟩ := hSw; obtain ⟨_, _, _, _, _, _, _, _, _⟩ := s0.out9; obtain ⟨_, _, _, _, _, _, _, _, _⟩ := s1.out9; obtain ⟨_, _, _, _, _, _, _, _, _⟩ := s2.out9; go_simp <;> try with_reducible rfl))
  try simp only [Act.put, zA, zB, zC]
  (refine tk 22 ?_ rfl (Or.inl ⟨by rfl, ?_⟩) hS ?_; rotate_left; focus (intro w' hSw; obtain ⟨s0, s1, s2, sb⟩ := hSw; obtain ⟨_, _, _, _, _, _, _, _, _⟩ := s0.out9; obtain ⟨_, _, _, _, _, _, _, _, _⟩ := s1.out9; obtain ⟨_, _, _, _, _, _, _, _, _⟩ := s2.out9; go_simp <;> try with_reducible rfl))
  try simp only [Act.put, zA, zB, zC]
  refine rdy 23 rfl (fun K hK => ?_)
  refine take_if (by rfl) ?_
  obtain ⟨s0, s1, s2, sb⟩ := hS
  go_simp
  (with_reducible refine (LAC.out _).mono ?_)
  rintro e' g23 ⟨rfl, hb⟩
  have t0 := sb.at_ hb s0 (show w.heap.size < w.heap.size + 1 + 1 + 1 by omega)
  have t1 := sb.at_ hb s1 (show w.heap.size + 1 < w.heap.size + 1 + 1 + 1 by omega)
  have t2 := sb.at_ hb s2 (show w.heap.size + 1 + 1 < w.heap.size + 1 + 1 + 1 by omega)
  refine hK.out _ _ ⟨t0, t1, t2, (sb.step hb)⟩ (fun hS => ?_)
  clear hK K hb s0 t0 s1 t1 s2 t2 sb
  try simp only [Act.put, zA, zB, zC]
  (refine tk 24 ?_ rfl (Or.inl ⟨by rfl, ?_⟩) hS ?_; rotate_left; focus (intro w' hSw; obtain ⟨s0, s1, s2, sb⟩ := hSw; go_simp <;> try with_reducible rfl))
  try simp only [Act.put, zA, zB, zC]
  (refine tk 25 ?_ rfl (Or.inl ⟨by rfl, ?_⟩) hS ?_; rotate_left; focus (intro w' hSw; obtain ⟨s0, s1, s2, sb⟩ := hSw; go_simp <;> try with_reducible rfl))
  try simp only [Act.put, zA, zB, zC]
  (refine tk 26 ?_ rfl (Or.inl ⟨by rfl, ?_⟩) hS ?_; rotate_left; focus (intro w' hSw; obtain ⟨s0, s1, s2, sb⟩ := hSw; go_simp <;> try with_reducible rfl))
  try simp only [Act.put, zA, zB, zC]
  refine wpAnyH_done (by kernel_rfl) ?_ _
  obtain ⟨s0, s1, s2, sb⟩ := hS
  obtain ⟨_, _, _, _, _, _, _, _, _⟩ := s0.out9
  obtain ⟨_, _, _, _, _, _, _, _, _⟩ := s1.out9
  obtain ⟨_, _, _, _, _, _, _, _, _⟩ := s2.out9
  have le5 := sb.le
  clear hmv
  cases mv
  · go_wp2_with (first
      | (go_at_call 25; (with_reducible refine (LAB.out _).mono ?_); rintro e' w5 ⟨rfl, hq⟩; have A5 := sb.at_ hq s0 (show w.heap.size < _ by omega); have B5 := sb.at_ hq s1 (show w.heap.size + 1 < _ by omega); have L5 := sb.step hq; obtain ⟨_, _, _, _, _, _, _, _, _⟩ := A5.out9; obtain ⟨_, _, _, _, _, _, _, _, _⟩ := B5.out9; have HA5 := Lib.hid A5; have HB5 := Lib.hid B5; have HLX := Lib.hid L5; have le6 := L5.le; clear hq A5 B5 L5)
      | (go_at_call 35; (with_reducible refine (LMV.out _).mono ?_); rintro e' w6 ⟨rfl, qk⟩; have A6 := HA5.out.kp qk (by omega); have B6 := HB5.out.kp qk (by omega); have L6 := HLX.out.step qk.1; obtain ⟨_, _, _, _, _, _, _, _, _⟩ := A6.out9; obtain ⟨_, _, _, _, _, _, _, _, _⟩ := B6.out9; have HB6 := Lib.hid B6; have le7 : w5.heap.size ≤ w6.heap.size := qk.size; have z0 : w.heap.size < w6.heap.size := (by omega); have z1 : w.heap.size + 1 < w6.heap.size := (by omega); have HL6 := Lib.hid L6; clear qk A6 B6 L6)
      | (go_at_call 13; (with_reducible refine (works_w _).mono ?_); rintro e' wz ⟨rfl, hbz⟩; have BZ := Lib.hid ((HL6.out.alloc _).step hbz).bl; clear hbz))
    go_ret
    exact ⟨rfl, BZ.out⟩
  · have LMB2 := Lib.hid (LMB.out rfl)
    go_wp2_with (first
      | (go_at_call 25; (with_reducible refine (LAB.out _).mono ?_); rintro e' w5 ⟨rfl, hq⟩; have A5 := sb.at_ hq s0 (show w.heap.size < _ by omega); have B5 := sb.at_ hq s1 (show w.heap.size + 1 < _ by omega); have L5 := sb.step hq; obtain ⟨_, _, _, _, _, _, _, _, _⟩ := A5.out9; obtain ⟨_, _, _, _, _, _, _, _, _⟩ := B5.out9; have HA5 := Lib.hid A5; have HB5 := Lib.hid B5; have HLX := Lib.hid L5; have le6 := L5.le; clear hq A5 B5 L5)
      | (go_at_call 35; (with_reducible refine (LMV.out _).mono ?_); rintro e' w6 ⟨rfl, qk⟩; have A6 := HA5.out.kp qk (by omega); have B6 := HB5.out.kp qk (by omega); have L6 := HLX.out.step qk.1; obtain ⟨_, _, _, _, _, _, _, _, _⟩ := A6.out9; obtain ⟨_, _, _, _, _, _, _, _, _⟩ := B6.out9; have HB6 := Lib.hid B6; have le7 : w5.heap.size ≤ w6.heap.size := qk.size; have z0 : w.heap.size < w6.heap.size := (by omega); have z1 : w.heap.size + 1 < w6.heap.size := (by omega); have HL6 := Lib.hid L6; clear qk A6 B6 L6)
      | (go_at_call 25; go_loud (with_reducible refine (LMB2.out _).mono ?_); rintro e' w7 ⟨rfl, qk⟩; have HL7 := Lib.hid ((HL6.out.alloc _).step qk.1); clear qk)
      | (go_at_call 13; (with_reducible refine (works_w _).mono ?_); rintro e' wz ⟨rfl, hbz⟩; have BZ := Lib.hid (HL7.out.step hbz).bl; clear hbz))
    go_ret
    exact ⟨rfl, BZ.out⟩
end Go.Proofs.Ytkddgjaflcjhiaa
namespace Go.Proofs.Ytkddgjaflcjhiaa.orderOrders
open Go.ChangeShapes Go.WideShapes Go.ChangeAt Go.RowKit
set_option linter.unusedVariables false
set_option linter.unusedSimpArgs false
theorem own : ownKnob Try.prog.godebug = none := by kernel_rfl
theorem orders_all (a b c : Cp) (at' : Int) (ra : Raw a) (rb : Raw b) (rc : Raw c) (a0 : 0 ≤ at') (a1 : at' < 18446744073709551616) (w : World) :
    Calls Try.prog 10 #[.agg #[a.tg, a.pe, a.ty, a.mo, a.e, a.b, a.t, a.g, .int .u64 a.a], .agg #[b.tg, b.pe, b.ty, b.mo, b.e, b.b, b.t, b.g, .int .u64 b.a], .agg #[c.tg, c.pe, c.ty, c.mo, c.e, c.b, c.t, c.g, .int .u64 c.a], .int .u64 at'] w fun e' w' => e' = .returned (.bool true) ∧ Below w.heap.size w w' := by
  cases hr : rightL [a, b, c]
  · exact orders_no a b c at' ra rb rc hr w
  · have hr' := hr
    rw [rightL, Bool.and_eq_true, List.all_eq_true] at hr'
    have ha := RC.of_right ra (hr'.1 a (by simp))
    have hb := RC.of_right rb (hr'.1 b (by simp))
    have hc := RC.of_right rc (hr'.1 c (by simp))
    cases h0 : a.tg
    · exact orders_f a b c at' ha hb hc ra rb rc hr a0 a1 h0 w
    · cases h1 : a.sealed
      · cases h2 : lessB a b
        · exact orders_n a b c at' ha hb hc ra rb rc hr a0 a1 h0 h1 h2 w
        · cases h3 : lessB b c
          · exact orders_1 a b c at' ha hb hc ra rb rc hr a0 a1 h0 h1 h2 h3 w
          · exact orders_2 a b c at' ha hb hc ra rb rc hr a0 a1 h0 h1 h2 h3 w
      · exact orders_s a b c at' ha hb hc ra rb rc hr a0 a1 h0 h1 w
set_option maxHeartbeats 8000000 in
set_option maxRecDepth 100000 in
theorem walk (a0 : Bool) (a1 : Int) (a2 : Int) (a3 : Int) (a4 : Int) (a5 : Int) (a6 : Int) (a7 : Bool) (a8 : Int) (a9 : Bool) (a10 : Int) (a11 : Int) (a12 : Int) (a13 : Int) (a14 : Int) (a15 : Int) (a16 : Bool) (a17 : Int) (a18 : Bool) (a19 : Int) (a20 : Int) (a21 : Int) (a22 : Int) (a23 : Int) (a24 : Int) (a25 : Bool) (a26 : Int) (a27 : Int) (w1 : (Lit.int .i64 a1).wf = true) (w2 : (Lit.int .i64 a2).wf = true) (w3 : (Lit.int .i64 a3).wf = true) (w4 : (Lit.int .i64 a4).wf = true) (w5 : (Lit.int .i64 a5).wf = true) (w6 : (Lit.int .i64 a6).wf = true) (w8 : (Lit.int .u64 a8).wf = true) (w10 : (Lit.int .i64 a10).wf = true) (w11 : (Lit.int .i64 a11).wf = true) (w12 : (Lit.int .i64 a12).wf = true) (w13 : (Lit.int .i64 a13).wf = true) (w14 : (Lit.int .i64 a14).wf = true) (w15 : (Lit.int .i64 a15).wf = true) (w17 : (Lit.int .u64 a17).wf = true) (w19 : (Lit.int .i64 a19).wf = true) (w20 : (Lit.int .i64 a20).wf = true) (w21 : (Lit.int .i64 a21).wf = true) (w22 : (Lit.int .i64 a22).wf = true) (w23 : (Lit.int .i64 a23).wf = true) (w24 : (Lit.int .i64 a24).wf = true) (w26 : (Lit.int .u64 a26).wf = true) (w27 : (Lit.int .u64 a27).wf = true) (w : World) :
    Calls Try.prog 10 #[.agg #[a0, a1, a2, a3, a4, a5, a6, a7, .int .u64 a8], .agg #[a9, a10, a11, a12, a13, a14, a15, a16, .int .u64 a17], .agg #[a18, a19, a20, a21, a22, a23, a24, a25, .int .u64 a26], .int .u64 a27] w fun e w' => e = .returned (.bool true) ∧ Below w.heap.size w w' :=
  orders_all ⟨a0, a1, a2, a3, a4, a5, a6, a7, a8⟩ ⟨a9, a10, a11, a12, a13, a14, a15, a16, a17⟩ ⟨a18, a19, a20, a21, a22, a23, a24, a25, a26⟩ a27 ⟨(i64_bd w1).1, (i64_bd w1).2, (i64_bd w2).1, (i64_bd w2).2, (i64_bd w3).1, (i64_bd w3).2, (i64_bd w4).1, (i64_bd w4).2, (i64_bd w5).1, (i64_bd w5).2, (i64_bd w6).1, (i64_bd w6).2, (u64_bd w8).1, (u64_bd w8).2⟩ ⟨(i64_bd w10).1, (i64_bd w10).2, (i64_bd w11).1, (i64_bd w11).2, (i64_bd w12).1, (i64_bd w12).2, (i64_bd w13).1, (i64_bd w13).2, (i64_bd w14).1, (i64_bd w14).2, (i64_bd w15).1, (i64_bd w15).2, (u64_bd w17).1, (u64_bd w17).2⟩ ⟨(i64_bd w19).1, (i64_bd w19).2, (i64_bd w20).1, (i64_bd w20).2, (i64_bd w21).1, (i64_bd w21).2, (i64_bd w22).1, (i64_bd w22).2, (i64_bd w23).1, (i64_bd w23).2, (i64_bd w24).1, (i64_bd w24).2, (u64_bd w26).1, (u64_bd w26).2⟩ (u64_bd w27).1 (u64_bd w27).2 w
end Go.Proofs.Ytkddgjaflcjhiaa.orderOrders
