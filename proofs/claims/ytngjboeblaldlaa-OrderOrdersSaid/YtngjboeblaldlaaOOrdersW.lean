/-
  OrderOrders, way by way: the walk of the law where all three are right. Numbers are within their types.
-/
import Derived.Test.YtngjboeblaldlaaOWorks
import Derived.Test.YtngjboeblaldlaaORight
import Derived.Test.YtngjboeblaldlaaOMath
namespace Go.Proofs.Ytngjboeblaldlaa
open Go.ChangeShapes Go.WideShapes Go.ChangeAt Go.RowKit Go.Maps
set_option linter.unusedVariables false
set_option linter.unusedSimpArgs false
set_option maxHeartbeats 2000000 in
set_option maxRecDepth 100000 in
theorem orders_no (a b c : Cp) (at' : Int) (ra : Raw a) (rb : Raw b) (rc : Raw c) (hr : rightL [a, b, c] = false) (w : World) :
    Calls Try.prog 6 #[.agg #[.bool a.tg, .int .i64 a.pe, .int .i64 a.ty, .int .i64 a.mo, .int .i64 a.e, .int .i64 a.b, .int .i64 a.t, .bool a.g, .int .u64 a.a], .agg #[.bool b.tg, .int .i64 b.pe, .int .i64 b.ty, .int .i64 b.mo, .int .i64 b.e, .int .i64 b.b, .int .i64 b.t, .bool b.g, .int .u64 b.a], .agg #[.bool c.tg, .int .i64 c.pe, .int .i64 c.ty, .int .i64 c.mo, .int .i64 c.e, .int .i64 c.b, .int .i64 c.t, .bool c.g, .int .u64 c.a], .int .u64 at'] w fun e' w' => e' = .returned (.bool true) ∧ Below w.heap.size w w' := by
  have HRT : Hid (∀ (A : Option Addr) (n : Nat) (w1 : World), Rd w1 w1.heap.size A [a, b, c] → Calls Try.prog 9 #[.slice A 3 n] w1 fun e' w' => e' = .returned (.bool false) ∧ Kp w1 w') := Lib.hid (fun A n w1 h => rightl_w [a, b, c] A n w1 h (by simp) (by intro d hd; simp at hd; rcases hd with rfl | rfl | rfl; exact ra; exact rb; exact rc) false hr)
  have HR0 : Hid (∀ w1 : World, Rd (w1.alloc (.cells #[.bool a.tg, .int .i64 a.pe, .int .i64 a.ty, .int .i64 a.mo, .int .i64 a.e, .int .i64 a.b, .int .i64 a.t, .bool a.g, .int .u64 a.a, .bool b.tg, .int .i64 b.pe, .int .i64 b.ty, .int .i64 b.mo, .int .i64 b.e, .int .i64 b.b, .int .i64 b.t, .bool b.g, .int .u64 b.a, .bool c.tg, .int .i64 c.pe, .int .i64 c.ty, .int .i64 c.mo, .int .i64 c.e, .int .i64 c.b, .int .i64 c.t, .bool c.g, .int .u64 c.a] 25)) (w1.alloc (.cells #[.bool a.tg, .int .i64 a.pe, .int .i64 a.ty, .int .i64 a.mo, .int .i64 a.e, .int .i64 a.b, .int .i64 a.t, .bool a.g, .int .u64 a.a, .bool b.tg, .int .i64 b.pe, .int .i64 b.ty, .int .i64 b.mo, .int .i64 b.e, .int .i64 b.b, .int .i64 b.t, .bool b.g, .int .u64 b.a, .bool c.tg, .int .i64 c.pe, .int .i64 c.ty, .int .i64 c.mo, .int .i64 c.e, .int .i64 c.b, .int .i64 c.t, .bool c.g, .int .u64 c.a] 25)).heap.size (some ⟨w1.heap.size, 0, none⟩) [a, b, c]) := Lib.hid (fun w1 => rd_new [a, b, c] w1)
  have L3 : Bl w (w.heap.size + 1 + 1 + 1) (((w.alloc (.cells #[.bool a.tg, .int .i64 a.pe, .int .i64 a.ty, .int .i64 a.mo, .int .i64 a.e, .int .i64 a.b, .int .i64 a.t, .bool a.g, .int .u64 a.a] 25)).alloc (.cells #[.bool b.tg, .int .i64 b.pe, .int .i64 b.ty, .int .i64 b.mo, .int .i64 b.e, .int .i64 b.b, .int .i64 b.t, .bool b.g, .int .u64 b.a] 25)).alloc (.cells #[.bool c.tg, .int .i64 c.pe, .int .i64 c.ty, .int .i64 c.mo, .int .i64 c.e, .int .i64 c.b, .int .i64 c.t, .bool c.g, .int .u64 c.a] 25)) := ⟨(((Below.refl _ _).alloc (Nat.le_refl _) _).alloc (by simp) _).alloc (by simp; omega) _, by omega, by simp⟩
  have A3 : At (w.heap.size) [.bool a.tg, .int .i64 a.pe, .int .i64 a.ty, .int .i64 a.mo, .int .i64 a.e, .int .i64 a.b, .int .i64 a.t, .bool a.g, .int .u64 a.a] (((w.alloc (.cells #[.bool a.tg, .int .i64 a.pe, .int .i64 a.ty, .int .i64 a.mo, .int .i64 a.e, .int .i64 a.b, .int .i64 a.t, .bool a.g, .int .u64 a.a] 25)).alloc (.cells #[.bool b.tg, .int .i64 b.pe, .int .i64 b.ty, .int .i64 b.mo, .int .i64 b.e, .int .i64 b.b, .int .i64 b.t, .bool b.g, .int .u64 b.a] 25)).alloc (.cells #[.bool c.tg, .int .i64 c.pe, .int .i64 c.ty, .int .i64 c.mo, .int .i64 c.e, .int .i64 c.b, .int .i64 c.t, .bool c.g, .int .u64 c.a] 25)) := ((At.new w [.bool a.tg, .int .i64 a.pe, .int .i64 a.ty, .int .i64 a.mo, .int .i64 a.e, .int .i64 a.b, .int .i64 a.t, .bool a.g, .int .u64 a.a] 25).alloc _).alloc _
  have B3 : At (w.heap.size + 1) [.bool b.tg, .int .i64 b.pe, .int .i64 b.ty, .int .i64 b.mo, .int .i64 b.e, .int .i64 b.b, .int .i64 b.t, .bool b.g, .int .u64 b.a] (((w.alloc (.cells #[.bool a.tg, .int .i64 a.pe, .int .i64 a.ty, .int .i64 a.mo, .int .i64 a.e, .int .i64 a.b, .int .i64 a.t, .bool a.g, .int .u64 a.a] 25)).alloc (.cells #[.bool b.tg, .int .i64 b.pe, .int .i64 b.ty, .int .i64 b.mo, .int .i64 b.e, .int .i64 b.b, .int .i64 b.t, .bool b.g, .int .u64 b.a] 25)).alloc (.cells #[.bool c.tg, .int .i64 c.pe, .int .i64 c.ty, .int .i64 c.mo, .int .i64 c.e, .int .i64 c.b, .int .i64 c.t, .bool c.g, .int .u64 c.a] 25)) := (At.new' (w.alloc (.cells #[.bool a.tg, .int .i64 a.pe, .int .i64 a.ty, .int .i64 a.mo, .int .i64 a.e, .int .i64 a.b, .int .i64 a.t, .bool a.g, .int .u64 a.a] 25)) [.bool b.tg, .int .i64 b.pe, .int .i64 b.ty, .int .i64 b.mo, .int .i64 b.e, .int .i64 b.b, .int .i64 b.t, .bool b.g, .int .u64 b.a] 25 (by simp)).alloc _
  have C3 : At (w.heap.size + 1 + 1) [.bool c.tg, .int .i64 c.pe, .int .i64 c.ty, .int .i64 c.mo, .int .i64 c.e, .int .i64 c.b, .int .i64 c.t, .bool c.g, .int .u64 c.a] (((w.alloc (.cells #[.bool a.tg, .int .i64 a.pe, .int .i64 a.ty, .int .i64 a.mo, .int .i64 a.e, .int .i64 a.b, .int .i64 a.t, .bool a.g, .int .u64 a.a] 25)).alloc (.cells #[.bool b.tg, .int .i64 b.pe, .int .i64 b.ty, .int .i64 b.mo, .int .i64 b.e, .int .i64 b.b, .int .i64 b.t, .bool b.g, .int .u64 b.a] 25)).alloc (.cells #[.bool c.tg, .int .i64 c.pe, .int .i64 c.ty, .int .i64 c.mo, .int .i64 c.e, .int .i64 c.b, .int .i64 c.t, .bool c.g, .int .u64 c.a] 25)) := At.new' ((w.alloc (.cells #[.bool a.tg, .int .i64 a.pe, .int .i64 a.ty, .int .i64 a.mo, .int .i64 a.e, .int .i64 a.b, .int .i64 a.t, .bool a.g, .int .u64 a.a] 25)).alloc (.cells #[.bool b.tg, .int .i64 b.pe, .int .i64 b.ty, .int .i64 b.mo, .int .i64 b.e, .int .i64 b.b, .int .i64 b.t, .bool b.g, .int .u64 b.a] 25)) [.bool c.tg, .int .i64 c.pe, .int .i64 c.ty, .int .i64 c.mo, .int .i64 c.e, .int .i64 c.b, .int .i64 c.t, .bool c.g, .int .u64 c.a] 25 (by simp)
  clear ra rb rc hr
  go_enter Try.func6, Try.ntmps6
  go_upto_region 1 with fail
  generalize hw0 : (((w.alloc (.cells #[.bool a.tg, .int .i64 a.pe, .int .i64 a.ty, .int .i64 a.mo, .int .i64 a.e, .int .i64 a.b, .int .i64 a.t, .bool a.g, .int .u64 a.a] 25)).alloc (.cells #[.bool b.tg, .int .i64 b.pe, .int .i64 b.ty, .int .i64 b.mo, .int .i64 b.e, .int .i64 b.b, .int .i64 b.t, .bool b.g, .int .u64 b.a] 25)).alloc (.cells #[.bool c.tg, .int .i64 c.pe, .int .i64 c.ty, .int .i64 c.mo, .int .i64 c.e, .int .i64 c.b, .int .i64 c.t, .bool c.g, .int .u64 c.a] 25)) = w0 at A3 B3 C3 L3 ⊢
  clear hw0
  obtain ⟨_, _, _, _, _, _, _, _, _⟩ := A3.out9
  obtain ⟨_, _, _, _, _, _, _, _, _⟩ := B3.out9
  obtain ⟨_, _, _, _, _, _, _, _, _⟩ := C3.out9
  have HL3 := Lib.hid L3
  clear A3 B3 C3 L3
  go_wp2_with (first
    | (go_at_call 9; (with_reducible refine (HRT.out _ _ _ (HR0.out w0)).mono ?_); rintro e' w1 ⟨rfl, qk⟩; have HL4 := Lib.hid ((HL3.out.alloc _).step qk.1); clear qk)
    | (go_at_call 11; (with_reducible refine (works_w _).mono ?_); rintro e' wz ⟨rfl, hbz⟩; have BZ := Lib.hid (HL4.out.step hbz).bl; clear hbz))
  go_ret
  exact ⟨rfl, BZ.out⟩
set_option maxHeartbeats 2000000 in
set_option maxRecDepth 100000 in
theorem orders_f (a b c : Cp) (at' : Int) (ha : RC a) (hb : RC b) (hc : RC c) (ra : Raw a) (rb : Raw b) (rc : Raw c) (hr : rightL [a, b, c] = true) (a0 : 0 ≤ at') (a1 : at' < 18446744073709551616) (h0 : a.tg = false) (w : World) :
    Calls Try.prog 6 #[.agg #[.bool false, .int .i64 a.pe, .int .i64 a.ty, .int .i64 a.mo, .int .i64 a.e, .int .i64 a.b, .int .i64 a.t, .bool a.g, .int .u64 a.a], .agg #[.bool b.tg, .int .i64 b.pe, .int .i64 b.ty, .int .i64 b.mo, .int .i64 b.e, .int .i64 b.b, .int .i64 b.t, .bool b.g, .int .u64 b.a], .agg #[.bool c.tg, .int .i64 c.pe, .int .i64 c.ty, .int .i64 c.mo, .int .i64 c.e, .int .i64 c.b, .int .i64 c.t, .bool c.g, .int .u64 c.a], .int .u64 at'] w fun e' w' => e' = .returned (.bool true) ∧ Below w.heap.size w w' := by
  have eaa : lessB a a = false := less_no a a (.inl h0)
  have eab : lessB a b = false := less_no a b (.inl h0)
  have LAA : Hid (∀ w1 : World, Calls Try.prog 16 #[.agg #[.bool false, .int .i64 a.pe, .int .i64 a.ty, .int .i64 a.mo, .int .i64 a.e, .int .i64 a.b, .int .i64 a.t, .bool a.g, .int .u64 a.a], .agg #[.bool false, .int .i64 a.pe, .int .i64 a.ty, .int .i64 a.mo, .int .i64 a.e, .int .i64 a.b, .int .i64 a.t, .bool a.g, .int .u64 a.a]] w1 fun e' w' => e' = .returned (.bool false) ∧ Below w1.heap.size w1 w') := Lib.hid (fun w1 => by have := kb (less_o a a ha ha false eaa w1); rw [h0] at this; exact this)
  have LAB : Hid (∀ w1 : World, Calls Try.prog 16 #[.agg #[.bool false, .int .i64 a.pe, .int .i64 a.ty, .int .i64 a.mo, .int .i64 a.e, .int .i64 a.b, .int .i64 a.t, .bool a.g, .int .u64 a.a], .agg #[.bool b.tg, .int .i64 b.pe, .int .i64 b.ty, .int .i64 b.mo, .int .i64 b.e, .int .i64 b.b, .int .i64 b.t, .bool b.g, .int .u64 b.a]] w1 fun e' w' => e' = .returned (.bool false) ∧ Below w1.heap.size w1 w') := Lib.hid (fun w1 => by have := kb (less_o a b ha hb false eab w1); rw [h0] at this; exact this)
  have HRT : Hid (∀ (A : Option Addr) (n : Nat) (w1 : World), Rd w1 w1.heap.size A [a, b, c] → Calls Try.prog 9 #[.slice A 3 n] w1 fun e' w' => e' = .returned (.bool true) ∧ Kp w1 w') := Lib.hid (fun A n w1 h => rightl_w [a, b, c] A n w1 h (by simp) (by intro d hd; simp at hd; rcases hd with rfl | rfl | rfl; exact ra; exact rb; exact rc) true hr)
  have ev : vsL [a, b, c] = [.bool false, .int .i64 a.pe, .int .i64 a.ty, .int .i64 a.mo, .int .i64 a.e, .int .i64 a.b, .int .i64 a.t, .bool a.g, .int .u64 a.a, .bool b.tg, .int .i64 b.pe, .int .i64 b.ty, .int .i64 b.mo, .int .i64 b.e, .int .i64 b.b, .int .i64 b.t, .bool b.g, .int .u64 b.a, .bool c.tg, .int .i64 c.pe, .int .i64 c.ty, .int .i64 c.mo, .int .i64 c.e, .int .i64 c.b, .int .i64 c.t, .bool c.g, .int .u64 c.a] := by simp [vsL, Cp.vs, h0]
  have hr0 : ∀ w1 : World, Rd (w1.alloc (.cells #[.bool false, .int .i64 a.pe, .int .i64 a.ty, .int .i64 a.mo, .int .i64 a.e, .int .i64 a.b, .int .i64 a.t, .bool a.g, .int .u64 a.a, .bool b.tg, .int .i64 b.pe, .int .i64 b.ty, .int .i64 b.mo, .int .i64 b.e, .int .i64 b.b, .int .i64 b.t, .bool b.g, .int .u64 b.a, .bool c.tg, .int .i64 c.pe, .int .i64 c.ty, .int .i64 c.mo, .int .i64 c.e, .int .i64 c.b, .int .i64 c.t, .bool c.g, .int .u64 c.a] 25)) (w1.alloc (.cells #[.bool false, .int .i64 a.pe, .int .i64 a.ty, .int .i64 a.mo, .int .i64 a.e, .int .i64 a.b, .int .i64 a.t, .bool a.g, .int .u64 a.a, .bool b.tg, .int .i64 b.pe, .int .i64 b.ty, .int .i64 b.mo, .int .i64 b.e, .int .i64 b.b, .int .i64 b.t, .bool b.g, .int .u64 b.a, .bool c.tg, .int .i64 c.pe, .int .i64 c.ty, .int .i64 c.mo, .int .i64 c.e, .int .i64 c.b, .int .i64 c.t, .bool c.g, .int .u64 c.a] 25)).heap.size (some ⟨w1.heap.size, 0, none⟩) [a, b, c] := fun w1 => by have := rd_new [a, b, c] w1; rw [ev] at this; exact this
  have HR0 := Lib.hid hr0
  have A3 : At (w.heap.size) [.bool false, .int .i64 a.pe, .int .i64 a.ty, .int .i64 a.mo, .int .i64 a.e, .int .i64 a.b, .int .i64 a.t, .bool a.g, .int .u64 a.a] (((w.alloc (.cells #[.bool false, .int .i64 a.pe, .int .i64 a.ty, .int .i64 a.mo, .int .i64 a.e, .int .i64 a.b, .int .i64 a.t, .bool a.g, .int .u64 a.a] 25)).alloc (.cells #[.bool b.tg, .int .i64 b.pe, .int .i64 b.ty, .int .i64 b.mo, .int .i64 b.e, .int .i64 b.b, .int .i64 b.t, .bool b.g, .int .u64 b.a] 25)).alloc (.cells #[.bool c.tg, .int .i64 c.pe, .int .i64 c.ty, .int .i64 c.mo, .int .i64 c.e, .int .i64 c.b, .int .i64 c.t, .bool c.g, .int .u64 c.a] 25)) := ((At.new w [.bool false, .int .i64 a.pe, .int .i64 a.ty, .int .i64 a.mo, .int .i64 a.e, .int .i64 a.b, .int .i64 a.t, .bool a.g, .int .u64 a.a] 25).alloc _).alloc _
  have B3 : At (w.heap.size + 1) [.bool b.tg, .int .i64 b.pe, .int .i64 b.ty, .int .i64 b.mo, .int .i64 b.e, .int .i64 b.b, .int .i64 b.t, .bool b.g, .int .u64 b.a] (((w.alloc (.cells #[.bool false, .int .i64 a.pe, .int .i64 a.ty, .int .i64 a.mo, .int .i64 a.e, .int .i64 a.b, .int .i64 a.t, .bool a.g, .int .u64 a.a] 25)).alloc (.cells #[.bool b.tg, .int .i64 b.pe, .int .i64 b.ty, .int .i64 b.mo, .int .i64 b.e, .int .i64 b.b, .int .i64 b.t, .bool b.g, .int .u64 b.a] 25)).alloc (.cells #[.bool c.tg, .int .i64 c.pe, .int .i64 c.ty, .int .i64 c.mo, .int .i64 c.e, .int .i64 c.b, .int .i64 c.t, .bool c.g, .int .u64 c.a] 25)) := (At.new' (w.alloc (.cells #[.bool false, .int .i64 a.pe, .int .i64 a.ty, .int .i64 a.mo, .int .i64 a.e, .int .i64 a.b, .int .i64 a.t, .bool a.g, .int .u64 a.a] 25)) [.bool b.tg, .int .i64 b.pe, .int .i64 b.ty, .int .i64 b.mo, .int .i64 b.e, .int .i64 b.b, .int .i64 b.t, .bool b.g, .int .u64 b.a] 25 (by simp)).alloc _
  have C3 : At (w.heap.size + 1 + 1) [.bool c.tg, .int .i64 c.pe, .int .i64 c.ty, .int .i64 c.mo, .int .i64 c.e, .int .i64 c.b, .int .i64 c.t, .bool c.g, .int .u64 c.a] (((w.alloc (.cells #[.bool false, .int .i64 a.pe, .int .i64 a.ty, .int .i64 a.mo, .int .i64 a.e, .int .i64 a.b, .int .i64 a.t, .bool a.g, .int .u64 a.a] 25)).alloc (.cells #[.bool b.tg, .int .i64 b.pe, .int .i64 b.ty, .int .i64 b.mo, .int .i64 b.e, .int .i64 b.b, .int .i64 b.t, .bool b.g, .int .u64 b.a] 25)).alloc (.cells #[.bool c.tg, .int .i64 c.pe, .int .i64 c.ty, .int .i64 c.mo, .int .i64 c.e, .int .i64 c.b, .int .i64 c.t, .bool c.g, .int .u64 c.a] 25)) := At.new' ((w.alloc (.cells #[.bool false, .int .i64 a.pe, .int .i64 a.ty, .int .i64 a.mo, .int .i64 a.e, .int .i64 a.b, .int .i64 a.t, .bool a.g, .int .u64 a.a] 25)).alloc (.cells #[.bool b.tg, .int .i64 b.pe, .int .i64 b.ty, .int .i64 b.mo, .int .i64 b.e, .int .i64 b.b, .int .i64 b.t, .bool b.g, .int .u64 b.a] 25)) [.bool c.tg, .int .i64 c.pe, .int .i64 c.ty, .int .i64 c.mo, .int .i64 c.e, .int .i64 c.b, .int .i64 c.t, .bool c.g, .int .u64 c.a] 25 (by simp)
  have L3 : Bl w (w.heap.size + 1 + 1 + 1) (((w.alloc (.cells #[.bool false, .int .i64 a.pe, .int .i64 a.ty, .int .i64 a.mo, .int .i64 a.e, .int .i64 a.b, .int .i64 a.t, .bool a.g, .int .u64 a.a] 25)).alloc (.cells #[.bool b.tg, .int .i64 b.pe, .int .i64 b.ty, .int .i64 b.mo, .int .i64 b.e, .int .i64 b.b, .int .i64 b.t, .bool b.g, .int .u64 b.a] 25)).alloc (.cells #[.bool c.tg, .int .i64 c.pe, .int .i64 c.ty, .int .i64 c.mo, .int .i64 c.e, .int .i64 c.b, .int .i64 c.t, .bool c.g, .int .u64 c.a] 25)) := ⟨(((Below.refl _ _).alloc (Nat.le_refl _) _).alloc (by simp) _).alloc (by simp; omega) _, by omega, by simp⟩
  clear eaa eab ra rb rc hr hr0 ev
  go_enter Try.func6, Try.ntmps6
  go_upto_region 1 with fail
  generalize hw0 : (((w.alloc (.cells #[.bool false, .int .i64 a.pe, .int .i64 a.ty, .int .i64 a.mo, .int .i64 a.e, .int .i64 a.b, .int .i64 a.t, .bool a.g, .int .u64 a.a] 25)).alloc (.cells #[.bool b.tg, .int .i64 b.pe, .int .i64 b.ty, .int .i64 b.mo, .int .i64 b.e, .int .i64 b.b, .int .i64 b.t, .bool b.g, .int .u64 b.a] 25)).alloc (.cells #[.bool c.tg, .int .i64 c.pe, .int .i64 c.ty, .int .i64 c.mo, .int .i64 c.e, .int .i64 c.b, .int .i64 c.t, .bool c.g, .int .u64 c.a] 25)) = w0 at A3 B3 C3 L3 ⊢
  clear hw0
  have le0 := L3.le
  obtain ⟨_, _, _, _, _, _, _, _, _⟩ := A3.out9
  obtain ⟨_, _, _, _, _, _, _, _, _⟩ := B3.out9
  obtain ⟨_, _, _, _, _, _, _, _, _⟩ := C3.out9
  have HA3 := Lib.hid A3
  have HB3 := Lib.hid B3
  have HC3 := Lib.hid C3
  have HL3 := Lib.hid L3
  clear A3 B3 C3 L3
  go_upto_region 3 with (go_at_call 9; (with_reducible refine (HRT.out _ _ _ (HR0.out w0)).mono ?_); rintro e' w1 ⟨rfl, qk⟩; have A4 : At (w.heap.size) [.bool false, .int .i64 a.pe, .int .i64 a.ty, .int .i64 a.mo, .int .i64 a.e, .int .i64 a.b, .int .i64 a.t, .bool a.g, .int .u64 a.a] w1 := (HA3.out.alloc _).kp qk (by simp; omega); have B4 : At (w.heap.size + 1) [.bool b.tg, .int .i64 b.pe, .int .i64 b.ty, .int .i64 b.mo, .int .i64 b.e, .int .i64 b.b, .int .i64 b.t, .bool b.g, .int .u64 b.a] w1 := (HB3.out.alloc _).kp qk (by simp; omega); have C4 : At (w.heap.size + 1 + 1) [.bool c.tg, .int .i64 c.pe, .int .i64 c.ty, .int .i64 c.mo, .int .i64 c.e, .int .i64 c.b, .int .i64 c.t, .bool c.g, .int .u64 c.a] w1 := (HC3.out.alloc _).kp qk (by simp; omega); have L4 : Bl w (w.heap.size + 1 + 1 + 1) w1 := (HL3.out.alloc _).step qk.1; clear qk)
  refine wp_region_held_drew (S := (fun w' => At (w.heap.size) [.bool false, .int .i64 a.pe, .int .i64 a.ty, .int .i64 a.mo, .int .i64 a.e, .int .i64 a.b, .int .i64 a.t, .bool a.g, .int .u64 a.a] w' ∧ At (w.heap.size + 1) [.bool b.tg, .int .i64 b.pe, .int .i64 b.ty, .int .i64 b.mo, .int .i64 b.e, .int .i64 b.b, .int .i64 b.t, .bool b.g, .int .u64 b.a] w' ∧ At (w.heap.size + 1 + 1) [.bool c.tg, .int .i64 c.pe, .int .i64 c.ty, .int .i64 c.mo, .int .i64 c.e, .int .i64 c.b, .int .i64 c.t, .bool c.g, .int .u64 c.a] w' ∧ Bl w (w.heap.size + 1 + 1 + 1) w')) (by kernel_rfl) ⟨At.drew (by with_reducible assumption), At.drew (by with_reducible assumption), At.drew (by with_reducible assumption), Bl.drew (by with_reducible assumption)⟩ (fun hS => ?_)
  generalize hgw : w1.drew = g0 at hS ⊢
  clear hgw
  try simp only [Act.put, List.setIfInBounds_toArray, List.set_cons_zero, List.set_cons_succ]
  (refine wpAnyH_take (i := 0) (oi := { dst := some 17, op := Op.load 25 (Operand.tmp 4), type := 25, pos := "outright.go:72", after := #[], guard := none }) (v := ?_) rfl (by kernel_rfl) (by kernel_rfl) (by kernel_rfl) (fun _ _ _ h => h) (Or.inl ⟨by rfl, ?_⟩) hS ?_; rotate_left; focus (intro w' hSw; obtain ⟨s0, s1, s2, sb⟩ := hSw; obtain ⟨_, _, _, _, _, _, _, _, _⟩ := s0.out9; obtain ⟨_, _, _, _, _, _, _, _, _⟩ := s1.out9; obtain ⟨_, _, _, _, _, _, _, _, _⟩ := s2.out9; go_simp <;> try with_reducible rfl))
  try simp only [Act.put, List.setIfInBounds_toArray, List.set_cons_zero, List.set_cons_succ]
  (refine wpAnyH_take (i := 1) (oi := { dst := some 18, op := Op.load 25 (Operand.tmp 4), type := 25, pos := "outright.go:72", after := #[], guard := none }) (v := ?_) rfl (by kernel_rfl) (by kernel_rfl) (by kernel_rfl) (fun _ _ _ h => h) (Or.inl ⟨by rfl, ?_⟩) hS ?_; rotate_left; focus (intro w' hSw; obtain ⟨s0, s1, s2, sb⟩ := hSw; obtain ⟨_, _, _, _, _, _, _, _, _⟩ := s0.out9; obtain ⟨_, _, _, _, _, _, _, _, _⟩ := s1.out9; obtain ⟨_, _, _, _, _, _, _, _, _⟩ := s2.out9; go_simp <;> try with_reducible rfl))
  try simp only [Act.put, List.setIfInBounds_toArray, List.set_cons_zero, List.set_cons_succ]
  (refine wpAnyH_take (i := 3) (oi := { dst := some 20, op := Op.fieldAddr 25 (Operand.tmp 4) 0, type := 0, pos := "outright.go:72", after := #[], guard := none }) (v := ?_) rfl (by kernel_rfl) (by kernel_rfl) (by kernel_rfl) (fun _ _ _ h => h) (Or.inl ⟨by rfl, ?_⟩) hS ?_; rotate_left; focus (intro w' hSw; obtain ⟨s0, s1, s2, sb⟩ := hSw; go_simp <;> try with_reducible rfl))
  try simp only [Act.put, List.setIfInBounds_toArray, List.set_cons_zero, List.set_cons_succ]
  (refine wpAnyH_take (i := 4) (oi := { dst := some 21, op := Op.load 4 (Operand.tmp 20), type := 4, pos := "outright.go:72", after := #[{ on := 3, ground := Ground.data }], guard := none }) (v := ?_) rfl (by kernel_rfl) (by kernel_rfl) (by kernel_rfl) (fun _ _ _ h => h) (Or.inl ⟨by rfl, ?_⟩) hS ?_; rotate_left; focus (intro w' hSw; obtain ⟨s0, s1, s2, sb⟩ := hSw; obtain ⟨_, _, _, _, _, _, _, _, _⟩ := s0.out9; obtain ⟨_, _, _, _, _, _, _, _, _⟩ := s1.out9; obtain ⟨_, _, _, _, _, _, _, _, _⟩ := s2.out9; go_simp <;> try with_reducible rfl))
  try simp only [Act.put, List.setIfInBounds_toArray, List.set_cons_zero, List.set_cons_succ]
  refine wpAnyH_ready (rs := [2]) (by kernel_rfl) (by simp) ?_
  refine AllReadyH.cons (o := { dst := some 19, op := Op.call { callee := Callee.value (Operand.func 16), args := #[Operand.tmp 17, Operand.tmp 18], argTypes := #[25, 25] }, type := 4, pos := "outright.go:72", after := #[{ on := 0, ground := Ground.data }, { on := 1, ground := Ground.data }], guard := none }) rfl (fun K hK => ?_) AllReadyH.nil
  refine take_if (by rfl) ?_
  obtain ⟨s0, s1, s2, sb⟩ := hS
  go_simp
  (with_reducible refine (LAA.out _).mono ?_)
  rintro e' g2 ⟨rfl, hb⟩
  have t0 := sb.at_ hb s0 (show w.heap.size < w.heap.size + 1 + 1 + 1 by omega)
  have t1 := sb.at_ hb s1 (show w.heap.size + 1 < w.heap.size + 1 + 1 + 1 by omega)
  have t2 := sb.at_ hb s2 (show w.heap.size + 1 + 1 < w.heap.size + 1 + 1 + 1 by omega)
  refine hK.out _ _ ⟨t0, t1, t2, (sb.step hb)⟩ (fun hS => ?_)
  clear hK K hb s0 t0 s1 t1 s2 t2 sb
  try simp only [Act.put, List.setIfInBounds_toArray, List.set_cons_zero, List.set_cons_succ]
  (refine wpAnyH_take (i := 5) (oi := { dst := some 22, op := Op.move (Operand.tmp 21), type := 4, pos := "outright.go:72", after := #[{ on := 4, ground := Ground.data }, { on := 2, ground := Ground.chain }], guard := none }) (v := ?_) rfl (by kernel_rfl) (by kernel_rfl) (by kernel_rfl) (fun _ _ _ h => h) (Or.inl ⟨by rfl, ?_⟩) hS ?_; rotate_left; focus (intro w' hSw; obtain ⟨s0, s1, s2, sb⟩ := hSw; go_simp <;> try with_reducible rfl))
  try simp only [Act.put, List.setIfInBounds_toArray, List.set_cons_zero, List.set_cons_succ]
  (refine wpAnyH_take (i := 6) (oi := { dst := some 23, op := Op.load 25 (Operand.tmp 4), type := 25, pos := "outright.go:72", after := #[{ on := 5, ground := Ground.guard }], guard := some (5, true) }) (v := undef) rfl (by kernel_rfl) (by kernel_rfl) (by kernel_rfl) (fun _ _ _ h => h) (Or.inr ⟨by rfl, rfl⟩) hS ?_)
  try simp only [Act.put, List.setIfInBounds_toArray, List.set_cons_zero, List.set_cons_succ]
  refine wpAnyH_ready (rs := [7]) (by kernel_rfl) (by simp) ?_
  refine AllReadyH.cons (o := { dst := some 24, op := Op.call { callee := Callee.value (Operand.func 25), args := #[Operand.tmp 23], argTypes := #[25] }, type := 4, pos := "outright.go:72", after := #[{ on := 6, ground := Ground.data }, { on := 5, ground := Ground.chain }, { on := 5, ground := Ground.guard }], guard := some (5, true) }) rfl (fun K hK => ?_) AllReadyH.nil
  refine skip_if (by rfl) ?_
  refine hK.out _ _ hS (fun hS => ?_)
  clear hK K
  try simp only [Act.put, List.setIfInBounds_toArray, List.set_cons_zero, List.set_cons_succ]
  (refine wpAnyH_take (i := 8) (oi := { dst := some 25, op := Op.unOp UnOp.not 4 (Operand.tmp 24), type := 4, pos := "outright.go:72", after := #[{ on := 7, ground := Ground.data }, { on := 5, ground := Ground.guard }], guard := some (5, true) }) (v := undef) rfl (by kernel_rfl) (by kernel_rfl) (by kernel_rfl) (fun _ _ _ h => h) (Or.inr ⟨by rfl, rfl⟩) hS ?_)
  try simp only [Act.put, List.setIfInBounds_toArray, List.set_cons_zero, List.set_cons_succ]
  (refine wpAnyH_take (i := 9) (oi := { dst := some 26, op := Op.pick (Operand.tmp 22) (Operand.tmp 25) (Operand.const (Value.bool false)), type := 4, pos := "outright.go:72", after := #[{ on := 5, ground := Ground.data }, { on := 8, ground := Ground.data }], guard := none }) (v := ?_) rfl (by kernel_rfl) (by kernel_rfl) (by kernel_rfl) (fun _ _ _ h => h) (Or.inl ⟨by rfl, ?_⟩) hS ?_; rotate_left; focus (intro w' hSw; obtain ⟨s0, s1, s2, sb⟩ := hSw; go_simp <;> try with_reducible rfl))
  try simp only [Act.put, List.setIfInBounds_toArray, List.set_cons_zero, List.set_cons_succ]
  (refine wpAnyH_take (i := 10) (oi := { dst := some 27, op := Op.binOp BinOp.neq 4 (Operand.tmp 19) (Operand.tmp 26) 4, type := 4, pos := "outright.go:72", after := #[{ on := 2, ground := Ground.data }, { on := 9, ground := Ground.data }], guard := none }) (v := ?_) rfl (by kernel_rfl) (by kernel_rfl) (by kernel_rfl) (fun _ _ _ h => h) (Or.inl ⟨by rfl, ?_⟩) hS ?_; rotate_left; focus (intro w' hSw; obtain ⟨s0, s1, s2, sb⟩ := hSw; go_simp <;> try with_reducible rfl))
  try simp only [Act.put, List.setIfInBounds_toArray, List.set_cons_zero, List.set_cons_succ]
  (refine wpAnyH_take (i := 11) (oi := { dst := some 28, op := Op.move (Operand.tmp 27), type := 4, pos := "outright.go:72", after := #[{ on := 10, ground := Ground.data }, { on := 7, ground := Ground.chain }], guard := none }) (v := ?_) rfl (by kernel_rfl) (by kernel_rfl) (by kernel_rfl) (fun _ _ _ h => h) (Or.inl ⟨by rfl, ?_⟩) hS ?_; rotate_left; focus (intro w' hSw; obtain ⟨s0, s1, s2, sb⟩ := hSw; go_simp <;> try with_reducible rfl))
  try simp only [Act.put, List.setIfInBounds_toArray, List.set_cons_zero, List.set_cons_succ]
  (refine wpAnyH_take (i := 12) (oi := { dst := some 29, op := Op.load 25 (Operand.tmp 4), type := 25, pos := "outright.go:72", after := #[{ on := 11, ground := Ground.guard }], guard := some (11, false) }) (v := ?_) rfl (by kernel_rfl) (by kernel_rfl) (by kernel_rfl) (fun _ _ _ h => h) (Or.inl ⟨by rfl, ?_⟩) hS ?_; rotate_left; focus (intro w' hSw; obtain ⟨s0, s1, s2, sb⟩ := hSw; obtain ⟨_, _, _, _, _, _, _, _, _⟩ := s0.out9; obtain ⟨_, _, _, _, _, _, _, _, _⟩ := s1.out9; obtain ⟨_, _, _, _, _, _, _, _, _⟩ := s2.out9; go_simp <;> try with_reducible rfl))
  try simp only [Act.put, List.setIfInBounds_toArray, List.set_cons_zero, List.set_cons_succ]
  (refine wpAnyH_take (i := 13) (oi := { dst := some 30, op := Op.load 25 (Operand.tmp 5), type := 25, pos := "outright.go:72", after := #[{ on := 11, ground := Ground.guard }], guard := some (11, false) }) (v := ?_) rfl (by kernel_rfl) (by kernel_rfl) (by kernel_rfl) (fun _ _ _ h => h) (Or.inl ⟨by rfl, ?_⟩) hS ?_; rotate_left; focus (intro w' hSw; obtain ⟨s0, s1, s2, sb⟩ := hSw; obtain ⟨_, _, _, _, _, _, _, _, _⟩ := s0.out9; obtain ⟨_, _, _, _, _, _, _, _, _⟩ := s1.out9; obtain ⟨_, _, _, _, _, _, _, _, _⟩ := s2.out9; go_simp <;> try with_reducible rfl))
  try simp only [Act.put, List.setIfInBounds_toArray, List.set_cons_zero, List.set_cons_succ]
  refine wpAnyH_ready (rs := [14]) (by kernel_rfl) (by simp) ?_
  refine AllReadyH.cons (o := { dst := some 31, op := Op.call { callee := Callee.value (Operand.func 16), args := #[Operand.tmp 29, Operand.tmp 30], argTypes := #[25, 25] }, type := 4, pos := "outright.go:72", after := #[{ on := 12, ground := Ground.data }, { on := 13, ground := Ground.data }, { on := 11, ground := Ground.chain }, { on := 11, ground := Ground.guard }], guard := some (11, false) }) rfl (fun K hK => ?_) AllReadyH.nil
  refine take_if (by rfl) ?_
  obtain ⟨s0, s1, s2, sb⟩ := hS
  go_simp
  (with_reducible refine (LAB.out _).mono ?_)
  rintro e' g14 ⟨rfl, hb⟩
  have t0 := sb.at_ hb s0 (show w.heap.size < w.heap.size + 1 + 1 + 1 by omega)
  have t1 := sb.at_ hb s1 (show w.heap.size + 1 < w.heap.size + 1 + 1 + 1 by omega)
  have t2 := sb.at_ hb s2 (show w.heap.size + 1 + 1 < w.heap.size + 1 + 1 + 1 by omega)
  refine hK.out _ _ ⟨t0, t1, t2, (sb.step hb)⟩ (fun hS => ?_)
  clear hK K hb s0 t0 s1 t1 s2 t2 sb
  try simp only [Act.put, List.setIfInBounds_toArray, List.set_cons_zero, List.set_cons_succ]
  (refine wpAnyH_take (i := 15) (oi := { dst := some 32, op := Op.move (Operand.tmp 31), type := 4, pos := "outright.go:72", after := #[{ on := 14, ground := Ground.data }, { on := 14, ground := Ground.chain }, { on := 11, ground := Ground.guard }], guard := some (11, false) }) (v := ?_) rfl (by kernel_rfl) (by kernel_rfl) (by kernel_rfl) (fun _ _ _ h => h) (Or.inl ⟨by rfl, ?_⟩) hS ?_; rotate_left; focus (intro w' hSw; obtain ⟨s0, s1, s2, sb⟩ := hSw; go_simp <;> try with_reducible rfl))
  try simp only [Act.put, List.setIfInBounds_toArray, List.set_cons_zero, List.set_cons_succ]
  (refine wpAnyH_take (i := 16) (oi := { dst := some 33, op := Op.load 25 (Operand.tmp 5), type := 25, pos := "outright.go:72", after := #[{ on := 15, ground := Ground.guard }], guard := some (15, true) }) (v := undef) rfl (by kernel_rfl) (by kernel_rfl) (by kernel_rfl) (fun _ _ _ h => h) (Or.inr ⟨by rfl, rfl⟩) hS ?_)
  try simp only [Act.put, List.setIfInBounds_toArray, List.set_cons_zero, List.set_cons_succ]
  (refine wpAnyH_take (i := 17) (oi := { dst := some 34, op := Op.load 25 (Operand.tmp 6), type := 25, pos := "outright.go:72", after := #[{ on := 15, ground := Ground.guard }], guard := some (15, true) }) (v := undef) rfl (by kernel_rfl) (by kernel_rfl) (by kernel_rfl) (fun _ _ _ h => h) (Or.inr ⟨by rfl, rfl⟩) hS ?_)
  try simp only [Act.put, List.setIfInBounds_toArray, List.set_cons_zero, List.set_cons_succ]
  refine wpAnyH_ready (rs := [18]) (by kernel_rfl) (by simp) ?_
  refine AllReadyH.cons (o := { dst := some 35, op := Op.call { callee := Callee.value (Operand.func 16), args := #[Operand.tmp 33, Operand.tmp 34], argTypes := #[25, 25] }, type := 4, pos := "outright.go:72", after := #[{ on := 16, ground := Ground.data }, { on := 17, ground := Ground.data }, { on := 15, ground := Ground.chain }, { on := 15, ground := Ground.guard }], guard := some (15, true) }) rfl (fun K hK => ?_) AllReadyH.nil
  refine skip_if (by rfl) ?_
  refine hK.out _ _ hS (fun hS => ?_)
  clear hK K
  try simp only [Act.put, List.setIfInBounds_toArray, List.set_cons_zero, List.set_cons_succ]
  (refine wpAnyH_take (i := 19) (oi := { dst := some 36, op := Op.pick (Operand.tmp 32) (Operand.tmp 35) (Operand.const (Value.bool false)), type := 4, pos := "outright.go:72", after := #[{ on := 15, ground := Ground.data }, { on := 18, ground := Ground.data }, { on := 11, ground := Ground.guard }], guard := some (11, false) }) (v := ?_) rfl (by kernel_rfl) (by kernel_rfl) (by kernel_rfl) (fun _ _ _ h => h) (Or.inl ⟨by rfl, ?_⟩) hS ?_; rotate_left; focus (intro w' hSw; obtain ⟨s0, s1, s2, sb⟩ := hSw; go_simp <;> try with_reducible rfl))
  try simp only [Act.put, List.setIfInBounds_toArray, List.set_cons_zero, List.set_cons_succ]
  (refine wpAnyH_take (i := 20) (oi := { dst := some 37, op := Op.move (Operand.tmp 36), type := 4, pos := "outright.go:72", after := #[{ on := 19, ground := Ground.data }, { on := 18, ground := Ground.chain }, { on := 11, ground := Ground.guard }], guard := some (11, false) }) (v := ?_) rfl (by kernel_rfl) (by kernel_rfl) (by kernel_rfl) (fun _ _ _ h => h) (Or.inl ⟨by rfl, ?_⟩) hS ?_; rotate_left; focus (intro w' hSw; obtain ⟨s0, s1, s2, sb⟩ := hSw; go_simp <;> try with_reducible rfl))
  try simp only [Act.put, List.setIfInBounds_toArray, List.set_cons_zero, List.set_cons_succ]
  (refine wpAnyH_take (i := 21) (oi := { dst := some 38, op := Op.load 25 (Operand.tmp 4), type := 25, pos := "outright.go:72", after := #[{ on := 20, ground := Ground.guard }], guard := some (20, true) }) (v := undef) rfl (by kernel_rfl) (by kernel_rfl) (by kernel_rfl) (fun _ _ _ h => h) (Or.inr ⟨by rfl, rfl⟩) hS ?_)
  try simp only [Act.put, List.setIfInBounds_toArray, List.set_cons_zero, List.set_cons_succ]
  (refine wpAnyH_take (i := 22) (oi := { dst := some 39, op := Op.load 25 (Operand.tmp 6), type := 25, pos := "outright.go:72", after := #[{ on := 20, ground := Ground.guard }], guard := some (20, true) }) (v := undef) rfl (by kernel_rfl) (by kernel_rfl) (by kernel_rfl) (fun _ _ _ h => h) (Or.inr ⟨by rfl, rfl⟩) hS ?_)
  try simp only [Act.put, List.setIfInBounds_toArray, List.set_cons_zero, List.set_cons_succ]
  refine wpAnyH_ready (rs := [23]) (by kernel_rfl) (by simp) ?_
  refine AllReadyH.cons (o := { dst := some 40, op := Op.call { callee := Callee.value (Operand.func 16), args := #[Operand.tmp 38, Operand.tmp 39], argTypes := #[25, 25] }, type := 4, pos := "outright.go:72", after := #[{ on := 21, ground := Ground.data }, { on := 22, ground := Ground.data }, { on := 20, ground := Ground.chain }, { on := 20, ground := Ground.guard }], guard := some (20, true) }) rfl (fun K hK => ?_) AllReadyH.nil
  refine skip_if (by rfl) ?_
  refine hK.out _ _ hS (fun hS => ?_)
  clear hK K
  try simp only [Act.put, List.setIfInBounds_toArray, List.set_cons_zero, List.set_cons_succ]
  (refine wpAnyH_take (i := 24) (oi := { dst := some 41, op := Op.unOp UnOp.not 4 (Operand.tmp 40), type := 4, pos := "outright.go:72", after := #[{ on := 23, ground := Ground.data }, { on := 20, ground := Ground.guard }], guard := some (20, true) }) (v := undef) rfl (by kernel_rfl) (by kernel_rfl) (by kernel_rfl) (fun _ _ _ h => h) (Or.inr ⟨by rfl, rfl⟩) hS ?_)
  try simp only [Act.put, List.setIfInBounds_toArray, List.set_cons_zero, List.set_cons_succ]
  (refine wpAnyH_take (i := 25) (oi := { dst := some 42, op := Op.pick (Operand.tmp 37) (Operand.tmp 41) (Operand.const (Value.bool false)), type := 4, pos := "outright.go:72", after := #[{ on := 20, ground := Ground.data }, { on := 24, ground := Ground.data }, { on := 11, ground := Ground.guard }], guard := some (11, false) }) (v := ?_) rfl (by kernel_rfl) (by kernel_rfl) (by kernel_rfl) (fun _ _ _ h => h) (Or.inl ⟨by rfl, ?_⟩) hS ?_; rotate_left; focus (intro w' hSw; obtain ⟨s0, s1, s2, sb⟩ := hSw; go_simp <;> try with_reducible rfl))
  try simp only [Act.put, List.setIfInBounds_toArray, List.set_cons_zero, List.set_cons_succ]
  (refine wpAnyH_take (i := 26) (oi := { dst := some 43, op := Op.pick (Operand.tmp 28) (Operand.const (Value.bool true)) (Operand.tmp 42), type := 4, pos := "outright.go:72", after := #[{ on := 11, ground := Ground.data }, { on := 25, ground := Ground.data }], guard := none }) (v := ?_) rfl (by kernel_rfl) (by kernel_rfl) (by kernel_rfl) (fun _ _ _ h => h) (Or.inl ⟨by rfl, ?_⟩) hS ?_; rotate_left; focus (intro w' hSw; obtain ⟨s0, s1, s2, sb⟩ := hSw; go_simp <;> try with_reducible rfl))
  try simp only [Act.put, List.setIfInBounds_toArray, List.set_cons_zero, List.set_cons_succ]
  refine wpAnyH_done (by kernel_rfl) ?_ _
  obtain ⟨s0, s1, s2, sb⟩ := hS
  obtain ⟨_, _, _, _, _, _, _, _, _⟩ := s0.out9
  obtain ⟨_, _, _, _, _, _, _, _, _⟩ := s1.out9
  obtain ⟨_, _, _, _, _, _, _, _, _⟩ := s2.out9
  have le5 := sb.le
  go_wp2_with (first
    | (go_at_call 16; (with_reducible refine (LAB.out _).mono ?_); rintro e' w5 ⟨rfl, hq⟩; have A5 := sb.at_ hq s0 (show w.heap.size < _ by omega); have B5 := sb.at_ hq s1 (show w.heap.size + 1 < _ by omega); have L5 := sb.step hq; obtain ⟨_, _, _, _, _, _, _, _, _⟩ := A5.out9; obtain ⟨_, _, _, _, _, _, _, _, _⟩ := B5.out9; have HA5 := Lib.hid A5; have HB5 := Lib.hid B5; have HLX := Lib.hid L5; have le6 := L5.le; clear hq A5 B5 L5)
    | (go_at_call 11; (with_reducible refine (works_w _).mono ?_); rintro e' wz ⟨rfl, hbz⟩; have BZ := Lib.hid (HLX.out.step hbz).bl; clear hbz))
  go_ret
  exact ⟨rfl, BZ.out⟩
set_option maxHeartbeats 2000000 in
set_option maxRecDepth 100000 in
theorem orders_s (a b c : Cp) (at' : Int) (ha : RC a) (hb : RC b) (hc : RC c) (ra : Raw a) (rb : Raw b) (rc : Raw c) (hr : rightL [a, b, c] = true) (a0 : 0 ≤ at') (a1 : at' < 18446744073709551616) (h0 : a.tg = true) (h1 : a.sealed = true) (w : World) :
    Calls Try.prog 6 #[.agg #[.bool true, .int .i64 a.pe, .int .i64 a.ty, .int .i64 a.mo, .int .i64 a.e, .int .i64 a.b, .int .i64 a.t, .bool a.g, .int .u64 a.a], .agg #[.bool b.tg, .int .i64 b.pe, .int .i64 b.ty, .int .i64 b.mo, .int .i64 b.e, .int .i64 b.b, .int .i64 b.t, .bool b.g, .int .u64 b.a], .agg #[.bool c.tg, .int .i64 c.pe, .int .i64 c.ty, .int .i64 c.mo, .int .i64 c.e, .int .i64 c.b, .int .i64 c.t, .bool c.g, .int .u64 c.a], .int .u64 at'] w fun e' w' => e' = .returned (.bool true) ∧ Below w.heap.size w w' := by
  have eaa : lessB a a = false := less_no a a (.inr h1)
  have eab : lessB a b = false := less_no a b (.inr h1)
  have LAA : Hid (∀ w1 : World, Calls Try.prog 16 #[.agg #[.bool true, .int .i64 a.pe, .int .i64 a.ty, .int .i64 a.mo, .int .i64 a.e, .int .i64 a.b, .int .i64 a.t, .bool a.g, .int .u64 a.a], .agg #[.bool true, .int .i64 a.pe, .int .i64 a.ty, .int .i64 a.mo, .int .i64 a.e, .int .i64 a.b, .int .i64 a.t, .bool a.g, .int .u64 a.a]] w1 fun e' w' => e' = .returned (.bool false) ∧ Below w1.heap.size w1 w') := Lib.hid (fun w1 => by have := kb (less_o a a ha ha false eaa w1); rw [h0] at this; exact this)
  have LAB : Hid (∀ w1 : World, Calls Try.prog 16 #[.agg #[.bool true, .int .i64 a.pe, .int .i64 a.ty, .int .i64 a.mo, .int .i64 a.e, .int .i64 a.b, .int .i64 a.t, .bool a.g, .int .u64 a.a], .agg #[.bool b.tg, .int .i64 b.pe, .int .i64 b.ty, .int .i64 b.mo, .int .i64 b.e, .int .i64 b.b, .int .i64 b.t, .bool b.g, .int .u64 b.a]] w1 fun e' w' => e' = .returned (.bool false) ∧ Below w1.heap.size w1 w') := Lib.hid (fun w1 => by have := kb (less_o a b ha hb false eab w1); rw [h0] at this; exact this)
  have LSE : Hid (∀ w1 : World, Calls Try.prog 25 #[.agg #[.bool true, .int .i64 a.pe, .int .i64 a.ty, .int .i64 a.mo, .int .i64 a.e, .int .i64 a.b, .int .i64 a.t, .bool a.g, .int .u64 a.a]] w1 fun e' w' => e' = .returned (.bool true) ∧ Below w1.heap.size w1 w') := Lib.hid (fun w1 => by have := kb (sealed_w a.tg a.pe a.ty a.mo a.e a.b a.t a.g a.a _ h1 w1); rw [h0] at this; exact this)
  have HRT : Hid (∀ (A : Option Addr) (n : Nat) (w1 : World), Rd w1 w1.heap.size A [a, b, c] → Calls Try.prog 9 #[.slice A 3 n] w1 fun e' w' => e' = .returned (.bool true) ∧ Kp w1 w') := Lib.hid (fun A n w1 h => rightl_w [a, b, c] A n w1 h (by simp) (by intro d hd; simp at hd; rcases hd with rfl | rfl | rfl; exact ra; exact rb; exact rc) true hr)
  have ev : vsL [a, b, c] = [.bool true, .int .i64 a.pe, .int .i64 a.ty, .int .i64 a.mo, .int .i64 a.e, .int .i64 a.b, .int .i64 a.t, .bool a.g, .int .u64 a.a, .bool b.tg, .int .i64 b.pe, .int .i64 b.ty, .int .i64 b.mo, .int .i64 b.e, .int .i64 b.b, .int .i64 b.t, .bool b.g, .int .u64 b.a, .bool c.tg, .int .i64 c.pe, .int .i64 c.ty, .int .i64 c.mo, .int .i64 c.e, .int .i64 c.b, .int .i64 c.t, .bool c.g, .int .u64 c.a] := by simp [vsL, Cp.vs, h0]
  have hr0 : ∀ w1 : World, Rd (w1.alloc (.cells #[.bool true, .int .i64 a.pe, .int .i64 a.ty, .int .i64 a.mo, .int .i64 a.e, .int .i64 a.b, .int .i64 a.t, .bool a.g, .int .u64 a.a, .bool b.tg, .int .i64 b.pe, .int .i64 b.ty, .int .i64 b.mo, .int .i64 b.e, .int .i64 b.b, .int .i64 b.t, .bool b.g, .int .u64 b.a, .bool c.tg, .int .i64 c.pe, .int .i64 c.ty, .int .i64 c.mo, .int .i64 c.e, .int .i64 c.b, .int .i64 c.t, .bool c.g, .int .u64 c.a] 25)) (w1.alloc (.cells #[.bool true, .int .i64 a.pe, .int .i64 a.ty, .int .i64 a.mo, .int .i64 a.e, .int .i64 a.b, .int .i64 a.t, .bool a.g, .int .u64 a.a, .bool b.tg, .int .i64 b.pe, .int .i64 b.ty, .int .i64 b.mo, .int .i64 b.e, .int .i64 b.b, .int .i64 b.t, .bool b.g, .int .u64 b.a, .bool c.tg, .int .i64 c.pe, .int .i64 c.ty, .int .i64 c.mo, .int .i64 c.e, .int .i64 c.b, .int .i64 c.t, .bool c.g, .int .u64 c.a] 25)).heap.size (some ⟨w1.heap.size, 0, none⟩) [a, b, c] := fun w1 => by have := rd_new [a, b, c] w1; rw [ev] at this; exact this
  have HR0 := Lib.hid hr0
  have A3 : At (w.heap.size) [.bool true, .int .i64 a.pe, .int .i64 a.ty, .int .i64 a.mo, .int .i64 a.e, .int .i64 a.b, .int .i64 a.t, .bool a.g, .int .u64 a.a] (((w.alloc (.cells #[.bool true, .int .i64 a.pe, .int .i64 a.ty, .int .i64 a.mo, .int .i64 a.e, .int .i64 a.b, .int .i64 a.t, .bool a.g, .int .u64 a.a] 25)).alloc (.cells #[.bool b.tg, .int .i64 b.pe, .int .i64 b.ty, .int .i64 b.mo, .int .i64 b.e, .int .i64 b.b, .int .i64 b.t, .bool b.g, .int .u64 b.a] 25)).alloc (.cells #[.bool c.tg, .int .i64 c.pe, .int .i64 c.ty, .int .i64 c.mo, .int .i64 c.e, .int .i64 c.b, .int .i64 c.t, .bool c.g, .int .u64 c.a] 25)) := ((At.new w [.bool true, .int .i64 a.pe, .int .i64 a.ty, .int .i64 a.mo, .int .i64 a.e, .int .i64 a.b, .int .i64 a.t, .bool a.g, .int .u64 a.a] 25).alloc _).alloc _
  have B3 : At (w.heap.size + 1) [.bool b.tg, .int .i64 b.pe, .int .i64 b.ty, .int .i64 b.mo, .int .i64 b.e, .int .i64 b.b, .int .i64 b.t, .bool b.g, .int .u64 b.a] (((w.alloc (.cells #[.bool true, .int .i64 a.pe, .int .i64 a.ty, .int .i64 a.mo, .int .i64 a.e, .int .i64 a.b, .int .i64 a.t, .bool a.g, .int .u64 a.a] 25)).alloc (.cells #[.bool b.tg, .int .i64 b.pe, .int .i64 b.ty, .int .i64 b.mo, .int .i64 b.e, .int .i64 b.b, .int .i64 b.t, .bool b.g, .int .u64 b.a] 25)).alloc (.cells #[.bool c.tg, .int .i64 c.pe, .int .i64 c.ty, .int .i64 c.mo, .int .i64 c.e, .int .i64 c.b, .int .i64 c.t, .bool c.g, .int .u64 c.a] 25)) := (At.new' (w.alloc (.cells #[.bool true, .int .i64 a.pe, .int .i64 a.ty, .int .i64 a.mo, .int .i64 a.e, .int .i64 a.b, .int .i64 a.t, .bool a.g, .int .u64 a.a] 25)) [.bool b.tg, .int .i64 b.pe, .int .i64 b.ty, .int .i64 b.mo, .int .i64 b.e, .int .i64 b.b, .int .i64 b.t, .bool b.g, .int .u64 b.a] 25 (by simp)).alloc _
  have C3 : At (w.heap.size + 1 + 1) [.bool c.tg, .int .i64 c.pe, .int .i64 c.ty, .int .i64 c.mo, .int .i64 c.e, .int .i64 c.b, .int .i64 c.t, .bool c.g, .int .u64 c.a] (((w.alloc (.cells #[.bool true, .int .i64 a.pe, .int .i64 a.ty, .int .i64 a.mo, .int .i64 a.e, .int .i64 a.b, .int .i64 a.t, .bool a.g, .int .u64 a.a] 25)).alloc (.cells #[.bool b.tg, .int .i64 b.pe, .int .i64 b.ty, .int .i64 b.mo, .int .i64 b.e, .int .i64 b.b, .int .i64 b.t, .bool b.g, .int .u64 b.a] 25)).alloc (.cells #[.bool c.tg, .int .i64 c.pe, .int .i64 c.ty, .int .i64 c.mo, .int .i64 c.e, .int .i64 c.b, .int .i64 c.t, .bool c.g, .int .u64 c.a] 25)) := At.new' ((w.alloc (.cells #[.bool true, .int .i64 a.pe, .int .i64 a.ty, .int .i64 a.mo, .int .i64 a.e, .int .i64 a.b, .int .i64 a.t, .bool a.g, .int .u64 a.a] 25)).alloc (.cells #[.bool b.tg, .int .i64 b.pe, .int .i64 b.ty, .int .i64 b.mo, .int .i64 b.e, .int .i64 b.b, .int .i64 b.t, .bool b.g, .int .u64 b.a] 25)) [.bool c.tg, .int .i64 c.pe, .int .i64 c.ty, .int .i64 c.mo, .int .i64 c.e, .int .i64 c.b, .int .i64 c.t, .bool c.g, .int .u64 c.a] 25 (by simp)
  have L3 : Bl w (w.heap.size + 1 + 1 + 1) (((w.alloc (.cells #[.bool true, .int .i64 a.pe, .int .i64 a.ty, .int .i64 a.mo, .int .i64 a.e, .int .i64 a.b, .int .i64 a.t, .bool a.g, .int .u64 a.a] 25)).alloc (.cells #[.bool b.tg, .int .i64 b.pe, .int .i64 b.ty, .int .i64 b.mo, .int .i64 b.e, .int .i64 b.b, .int .i64 b.t, .bool b.g, .int .u64 b.a] 25)).alloc (.cells #[.bool c.tg, .int .i64 c.pe, .int .i64 c.ty, .int .i64 c.mo, .int .i64 c.e, .int .i64 c.b, .int .i64 c.t, .bool c.g, .int .u64 c.a] 25)) := ⟨(((Below.refl _ _).alloc (Nat.le_refl _) _).alloc (by simp) _).alloc (by simp; omega) _, by omega, by simp⟩
  clear eaa eab ra rb rc hr hr0 ev
  go_enter Try.func6, Try.ntmps6
  go_upto_region 1 with fail
  generalize hw0 : (((w.alloc (.cells #[.bool true, .int .i64 a.pe, .int .i64 a.ty, .int .i64 a.mo, .int .i64 a.e, .int .i64 a.b, .int .i64 a.t, .bool a.g, .int .u64 a.a] 25)).alloc (.cells #[.bool b.tg, .int .i64 b.pe, .int .i64 b.ty, .int .i64 b.mo, .int .i64 b.e, .int .i64 b.b, .int .i64 b.t, .bool b.g, .int .u64 b.a] 25)).alloc (.cells #[.bool c.tg, .int .i64 c.pe, .int .i64 c.ty, .int .i64 c.mo, .int .i64 c.e, .int .i64 c.b, .int .i64 c.t, .bool c.g, .int .u64 c.a] 25)) = w0 at A3 B3 C3 L3 ⊢
  clear hw0
  have le0 := L3.le
  obtain ⟨_, _, _, _, _, _, _, _, _⟩ := A3.out9
  obtain ⟨_, _, _, _, _, _, _, _, _⟩ := B3.out9
  obtain ⟨_, _, _, _, _, _, _, _, _⟩ := C3.out9
  have HA3 := Lib.hid A3
  have HB3 := Lib.hid B3
  have HC3 := Lib.hid C3
  have HL3 := Lib.hid L3
  clear A3 B3 C3 L3
  go_upto_region 3 with (go_at_call 9; (with_reducible refine (HRT.out _ _ _ (HR0.out w0)).mono ?_); rintro e' w1 ⟨rfl, qk⟩; have A4 : At (w.heap.size) [.bool true, .int .i64 a.pe, .int .i64 a.ty, .int .i64 a.mo, .int .i64 a.e, .int .i64 a.b, .int .i64 a.t, .bool a.g, .int .u64 a.a] w1 := (HA3.out.alloc _).kp qk (by simp; omega); have B4 : At (w.heap.size + 1) [.bool b.tg, .int .i64 b.pe, .int .i64 b.ty, .int .i64 b.mo, .int .i64 b.e, .int .i64 b.b, .int .i64 b.t, .bool b.g, .int .u64 b.a] w1 := (HB3.out.alloc _).kp qk (by simp; omega); have C4 : At (w.heap.size + 1 + 1) [.bool c.tg, .int .i64 c.pe, .int .i64 c.ty, .int .i64 c.mo, .int .i64 c.e, .int .i64 c.b, .int .i64 c.t, .bool c.g, .int .u64 c.a] w1 := (HC3.out.alloc _).kp qk (by simp; omega); have L4 : Bl w (w.heap.size + 1 + 1 + 1) w1 := (HL3.out.alloc _).step qk.1; clear qk)
  refine wp_region_held_drew (S := (fun w' => At (w.heap.size) [.bool true, .int .i64 a.pe, .int .i64 a.ty, .int .i64 a.mo, .int .i64 a.e, .int .i64 a.b, .int .i64 a.t, .bool a.g, .int .u64 a.a] w' ∧ At (w.heap.size + 1) [.bool b.tg, .int .i64 b.pe, .int .i64 b.ty, .int .i64 b.mo, .int .i64 b.e, .int .i64 b.b, .int .i64 b.t, .bool b.g, .int .u64 b.a] w' ∧ At (w.heap.size + 1 + 1) [.bool c.tg, .int .i64 c.pe, .int .i64 c.ty, .int .i64 c.mo, .int .i64 c.e, .int .i64 c.b, .int .i64 c.t, .bool c.g, .int .u64 c.a] w' ∧ Bl w (w.heap.size + 1 + 1 + 1) w')) (by kernel_rfl) ⟨At.drew (by with_reducible assumption), At.drew (by with_reducible assumption), At.drew (by with_reducible assumption), Bl.drew (by with_reducible assumption)⟩ (fun hS => ?_)
  generalize hgw : w1.drew = g0 at hS ⊢
  clear hgw
  try simp only [Act.put, List.setIfInBounds_toArray, List.set_cons_zero, List.set_cons_succ]
  (refine wpAnyH_take (i := 0) (oi := { dst := some 17, op := Op.load 25 (Operand.tmp 4), type := 25, pos := "outright.go:72", after := #[], guard := none }) (v := ?_) rfl (by kernel_rfl) (by kernel_rfl) (by kernel_rfl) (fun _ _ _ h => h) (Or.inl ⟨by rfl, ?_⟩) hS ?_; rotate_left; focus (intro w' hSw; obtain ⟨s0, s1, s2, sb⟩ := hSw; obtain ⟨_, _, _, _, _, _, _, _, _⟩ := s0.out9; obtain ⟨_, _, _, _, _, _, _, _, _⟩ := s1.out9; obtain ⟨_, _, _, _, _, _, _, _, _⟩ := s2.out9; go_simp <;> try with_reducible rfl))
  try simp only [Act.put, List.setIfInBounds_toArray, List.set_cons_zero, List.set_cons_succ]
  (refine wpAnyH_take (i := 1) (oi := { dst := some 18, op := Op.load 25 (Operand.tmp 4), type := 25, pos := "outright.go:72", after := #[], guard := none }) (v := ?_) rfl (by kernel_rfl) (by kernel_rfl) (by kernel_rfl) (fun _ _ _ h => h) (Or.inl ⟨by rfl, ?_⟩) hS ?_; rotate_left; focus (intro w' hSw; obtain ⟨s0, s1, s2, sb⟩ := hSw; obtain ⟨_, _, _, _, _, _, _, _, _⟩ := s0.out9; obtain ⟨_, _, _, _, _, _, _, _, _⟩ := s1.out9; obtain ⟨_, _, _, _, _, _, _, _, _⟩ := s2.out9; go_simp <;> try with_reducible rfl))
  try simp only [Act.put, List.setIfInBounds_toArray, List.set_cons_zero, List.set_cons_succ]
  (refine wpAnyH_take (i := 3) (oi := { dst := some 20, op := Op.fieldAddr 25 (Operand.tmp 4) 0, type := 0, pos := "outright.go:72", after := #[], guard := none }) (v := ?_) rfl (by kernel_rfl) (by kernel_rfl) (by kernel_rfl) (fun _ _ _ h => h) (Or.inl ⟨by rfl, ?_⟩) hS ?_; rotate_left; focus (intro w' hSw; obtain ⟨s0, s1, s2, sb⟩ := hSw; go_simp <;> try with_reducible rfl))
  try simp only [Act.put, List.setIfInBounds_toArray, List.set_cons_zero, List.set_cons_succ]
  (refine wpAnyH_take (i := 4) (oi := { dst := some 21, op := Op.load 4 (Operand.tmp 20), type := 4, pos := "outright.go:72", after := #[{ on := 3, ground := Ground.data }], guard := none }) (v := ?_) rfl (by kernel_rfl) (by kernel_rfl) (by kernel_rfl) (fun _ _ _ h => h) (Or.inl ⟨by rfl, ?_⟩) hS ?_; rotate_left; focus (intro w' hSw; obtain ⟨s0, s1, s2, sb⟩ := hSw; obtain ⟨_, _, _, _, _, _, _, _, _⟩ := s0.out9; obtain ⟨_, _, _, _, _, _, _, _, _⟩ := s1.out9; obtain ⟨_, _, _, _, _, _, _, _, _⟩ := s2.out9; go_simp <;> try with_reducible rfl))
  try simp only [Act.put, List.setIfInBounds_toArray, List.set_cons_zero, List.set_cons_succ]
  refine wpAnyH_ready (rs := [2]) (by kernel_rfl) (by simp) ?_
  refine AllReadyH.cons (o := { dst := some 19, op := Op.call { callee := Callee.value (Operand.func 16), args := #[Operand.tmp 17, Operand.tmp 18], argTypes := #[25, 25] }, type := 4, pos := "outright.go:72", after := #[{ on := 0, ground := Ground.data }, { on := 1, ground := Ground.data }], guard := none }) rfl (fun K hK => ?_) AllReadyH.nil
  refine take_if (by rfl) ?_
  obtain ⟨s0, s1, s2, sb⟩ := hS
  go_simp
  (with_reducible refine (LAA.out _).mono ?_)
  rintro e' g2 ⟨rfl, hb⟩
  have t0 := sb.at_ hb s0 (show w.heap.size < w.heap.size + 1 + 1 + 1 by omega)
  have t1 := sb.at_ hb s1 (show w.heap.size + 1 < w.heap.size + 1 + 1 + 1 by omega)
  have t2 := sb.at_ hb s2 (show w.heap.size + 1 + 1 < w.heap.size + 1 + 1 + 1 by omega)
  refine hK.out _ _ ⟨t0, t1, t2, (sb.step hb)⟩ (fun hS => ?_)
  clear hK K hb s0 t0 s1 t1 s2 t2 sb
  try simp only [Act.put, List.setIfInBounds_toArray, List.set_cons_zero, List.set_cons_succ]
  (refine wpAnyH_take (i := 5) (oi := { dst := some 22, op := Op.move (Operand.tmp 21), type := 4, pos := "outright.go:72", after := #[{ on := 4, ground := Ground.data }, { on := 2, ground := Ground.chain }], guard := none }) (v := ?_) rfl (by kernel_rfl) (by kernel_rfl) (by kernel_rfl) (fun _ _ _ h => h) (Or.inl ⟨by rfl, ?_⟩) hS ?_; rotate_left; focus (intro w' hSw; obtain ⟨s0, s1, s2, sb⟩ := hSw; go_simp <;> try with_reducible rfl))
  try simp only [Act.put, List.setIfInBounds_toArray, List.set_cons_zero, List.set_cons_succ]
  (refine wpAnyH_take (i := 6) (oi := { dst := some 23, op := Op.load 25 (Operand.tmp 4), type := 25, pos := "outright.go:72", after := #[{ on := 5, ground := Ground.guard }], guard := some (5, true) }) (v := ?_) rfl (by kernel_rfl) (by kernel_rfl) (by kernel_rfl) (fun _ _ _ h => h) (Or.inl ⟨by rfl, ?_⟩) hS ?_; rotate_left; focus (intro w' hSw; obtain ⟨s0, s1, s2, sb⟩ := hSw; obtain ⟨_, _, _, _, _, _, _, _, _⟩ := s0.out9; obtain ⟨_, _, _, _, _, _, _, _, _⟩ := s1.out9; obtain ⟨_, _, _, _, _, _, _, _, _⟩ := s2.out9; go_simp <;> try with_reducible rfl))
  try simp only [Act.put, List.setIfInBounds_toArray, List.set_cons_zero, List.set_cons_succ]
  refine wpAnyH_ready (rs := [7]) (by kernel_rfl) (by simp) ?_
  refine AllReadyH.cons (o := { dst := some 24, op := Op.call { callee := Callee.value (Operand.func 25), args := #[Operand.tmp 23], argTypes := #[25] }, type := 4, pos := "outright.go:72", after := #[{ on := 6, ground := Ground.data }, { on := 5, ground := Ground.chain }, { on := 5, ground := Ground.guard }], guard := some (5, true) }) rfl (fun K hK => ?_) AllReadyH.nil
  refine take_if (by rfl) ?_
  obtain ⟨s0, s1, s2, sb⟩ := hS
  go_simp
  (with_reducible refine (LSE.out _).mono ?_)
  rintro e' g7 ⟨rfl, hb⟩
  have t0 := sb.at_ hb s0 (show w.heap.size < w.heap.size + 1 + 1 + 1 by omega)
  have t1 := sb.at_ hb s1 (show w.heap.size + 1 < w.heap.size + 1 + 1 + 1 by omega)
  have t2 := sb.at_ hb s2 (show w.heap.size + 1 + 1 < w.heap.size + 1 + 1 + 1 by omega)
  refine hK.out _ _ ⟨t0, t1, t2, (sb.step hb)⟩ (fun hS => ?_)
  clear hK K hb s0 t0 s1 t1 s2 t2 sb
  try simp only [Act.put, List.setIfInBounds_toArray, List.set_cons_zero, List.set_cons_succ]
  (refine wpAnyH_take (i := 8) (oi := { dst := some 25, op := Op.unOp UnOp.not 4 (Operand.tmp 24), type := 4, pos := "outright.go:72", after := #[{ on := 7, ground := Ground.data }, { on := 5, ground := Ground.guard }], guard := some (5, true) }) (v := ?_) rfl (by kernel_rfl) (by kernel_rfl) (by kernel_rfl) (fun _ _ _ h => h) (Or.inl ⟨by rfl, ?_⟩) hS ?_; rotate_left; focus (intro w' hSw; obtain ⟨s0, s1, s2, sb⟩ := hSw; go_simp <;> try with_reducible rfl))
  try simp only [Act.put, List.setIfInBounds_toArray, List.set_cons_zero, List.set_cons_succ]
  (refine wpAnyH_take (i := 9) (oi := { dst := some 26, op := Op.pick (Operand.tmp 22) (Operand.tmp 25) (Operand.const (Value.bool false)), type := 4, pos := "outright.go:72", after := #[{ on := 5, ground := Ground.data }, { on := 8, ground := Ground.data }], guard := none }) (v := ?_) rfl (by kernel_rfl) (by kernel_rfl) (by kernel_rfl) (fun _ _ _ h => h) (Or.inl ⟨by rfl, ?_⟩) hS ?_; rotate_left; focus (intro w' hSw; obtain ⟨s0, s1, s2, sb⟩ := hSw; go_simp <;> try with_reducible rfl))
  try simp only [Act.put, List.setIfInBounds_toArray, List.set_cons_zero, List.set_cons_succ]
  (refine wpAnyH_take (i := 10) (oi := { dst := some 27, op := Op.binOp BinOp.neq 4 (Operand.tmp 19) (Operand.tmp 26) 4, type := 4, pos := "outright.go:72", after := #[{ on := 2, ground := Ground.data }, { on := 9, ground := Ground.data }], guard := none }) (v := ?_) rfl (by kernel_rfl) (by kernel_rfl) (by kernel_rfl) (fun _ _ _ h => h) (Or.inl ⟨by rfl, ?_⟩) hS ?_; rotate_left; focus (intro w' hSw; obtain ⟨s0, s1, s2, sb⟩ := hSw; go_simp <;> try with_reducible rfl))
  try simp only [Act.put, List.setIfInBounds_toArray, List.set_cons_zero, List.set_cons_succ]
  (refine wpAnyH_take (i := 11) (oi := { dst := some 28, op := Op.move (Operand.tmp 27), type := 4, pos := "outright.go:72", after := #[{ on := 10, ground := Ground.data }, { on := 7, ground := Ground.chain }], guard := none }) (v := ?_) rfl (by kernel_rfl) (by kernel_rfl) (by kernel_rfl) (fun _ _ _ h => h) (Or.inl ⟨by rfl, ?_⟩) hS ?_; rotate_left; focus (intro w' hSw; obtain ⟨s0, s1, s2, sb⟩ := hSw; go_simp <;> try with_reducible rfl))
  try simp only [Act.put, List.setIfInBounds_toArray, List.set_cons_zero, List.set_cons_succ]
  (refine wpAnyH_take (i := 12) (oi := { dst := some 29, op := Op.load 25 (Operand.tmp 4), type := 25, pos := "outright.go:72", after := #[{ on := 11, ground := Ground.guard }], guard := some (11, false) }) (v := ?_) rfl (by kernel_rfl) (by kernel_rfl) (by kernel_rfl) (fun _ _ _ h => h) (Or.inl ⟨by rfl, ?_⟩) hS ?_; rotate_left; focus (intro w' hSw; obtain ⟨s0, s1, s2, sb⟩ := hSw; obtain ⟨_, _, _, _, _, _, _, _, _⟩ := s0.out9; obtain ⟨_, _, _, _, _, _, _, _, _⟩ := s1.out9; obtain ⟨_, _, _, _, _, _, _, _, _⟩ := s2.out9; go_simp <;> try with_reducible rfl))
  try simp only [Act.put, List.setIfInBounds_toArray, List.set_cons_zero, List.set_cons_succ]
  (refine wpAnyH_take (i := 13) (oi := { dst := some 30, op := Op.load 25 (Operand.tmp 5), type := 25, pos := "outright.go:72", after := #[{ on := 11, ground := Ground.guard }], guard := some (11, false) }) (v := ?_) rfl (by kernel_rfl) (by kernel_rfl) (by kernel_rfl) (fun _ _ _ h => h) (Or.inl ⟨by rfl, ?_⟩) hS ?_; rotate_left; focus (intro w' hSw; obtain ⟨s0, s1, s2, sb⟩ := hSw; obtain ⟨_, _, _, _, _, _, _, _, _⟩ := s0.out9; obtain ⟨_, _, _, _, _, _, _, _, _⟩ := s1.out9; obtain ⟨_, _, _, _, _, _, _, _, _⟩ := s2.out9; go_simp <;> try with_reducible rfl))
  try simp only [Act.put, List.setIfInBounds_toArray, List.set_cons_zero, List.set_cons_succ]
  refine wpAnyH_ready (rs := [14]) (by kernel_rfl) (by simp) ?_
  refine AllReadyH.cons (o := { dst := some 31, op := Op.call { callee := Callee.value (Operand.func 16), args := #[Operand.tmp 29, Operand.tmp 30], argTypes := #[25, 25] }, type := 4, pos := "outright.go:72", after := #[{ on := 12, ground := Ground.data }, { on := 13, ground := Ground.data }, { on := 11, ground := Ground.chain }, { on := 11, ground := Ground.guard }], guard := some (11, false) }) rfl (fun K hK => ?_) AllReadyH.nil
  refine take_if (by rfl) ?_
  obtain ⟨s0, s1, s2, sb⟩ := hS
  go_simp
  (with_reducible refine (LAB.out _).mono ?_)
  rintro e' g14 ⟨rfl, hb⟩
  have t0 := sb.at_ hb s0 (show w.heap.size < w.heap.size + 1 + 1 + 1 by omega)
  have t1 := sb.at_ hb s1 (show w.heap.size + 1 < w.heap.size + 1 + 1 + 1 by omega)
  have t2 := sb.at_ hb s2 (show w.heap.size + 1 + 1 < w.heap.size + 1 + 1 + 1 by omega)
  refine hK.out _ _ ⟨t0, t1, t2, (sb.step hb)⟩ (fun hS => ?_)
  clear hK K hb s0 t0 s1 t1 s2 t2 sb
  try simp only [Act.put, List.setIfInBounds_toArray, List.set_cons_zero, List.set_cons_succ]
  (refine wpAnyH_take (i := 15) (oi := { dst := some 32, op := Op.move (Operand.tmp 31), type := 4, pos := "outright.go:72", after := #[{ on := 14, ground := Ground.data }, { on := 14, ground := Ground.chain }, { on := 11, ground := Ground.guard }], guard := some (11, false) }) (v := ?_) rfl (by kernel_rfl) (by kernel_rfl) (by kernel_rfl) (fun _ _ _ h => h) (Or.inl ⟨by rfl, ?_⟩) hS ?_; rotate_left; focus (intro w' hSw; obtain ⟨s0, s1, s2, sb⟩ := hSw; go_simp <;> try with_reducible rfl))
  try simp only [Act.put, List.setIfInBounds_toArray, List.set_cons_zero, List.set_cons_succ]
  (refine wpAnyH_take (i := 16) (oi := { dst := some 33, op := Op.load 25 (Operand.tmp 5), type := 25, pos := "outright.go:72", after := #[{ on := 15, ground := Ground.guard }], guard := some (15, true) }) (v := undef) rfl (by kernel_rfl) (by kernel_rfl) (by kernel_rfl) (fun _ _ _ h => h) (Or.inr ⟨by rfl, rfl⟩) hS ?_)
  try simp only [Act.put, List.setIfInBounds_toArray, List.set_cons_zero, List.set_cons_succ]
  (refine wpAnyH_take (i := 17) (oi := { dst := some 34, op := Op.load 25 (Operand.tmp 6), type := 25, pos := "outright.go:72", after := #[{ on := 15, ground := Ground.guard }], guard := some (15, true) }) (v := undef) rfl (by kernel_rfl) (by kernel_rfl) (by kernel_rfl) (fun _ _ _ h => h) (Or.inr ⟨by rfl, rfl⟩) hS ?_)
  try simp only [Act.put, List.setIfInBounds_toArray, List.set_cons_zero, List.set_cons_succ]
  refine wpAnyH_ready (rs := [18]) (by kernel_rfl) (by simp) ?_
  refine AllReadyH.cons (o := { dst := some 35, op := Op.call { callee := Callee.value (Operand.func 16), args := #[Operand.tmp 33, Operand.tmp 34], argTypes := #[25, 25] }, type := 4, pos := "outright.go:72", after := #[{ on := 16, ground := Ground.data }, { on := 17, ground := Ground.data }, { on := 15, ground := Ground.chain }, { on := 15, ground := Ground.guard }], guard := some (15, true) }) rfl (fun K hK => ?_) AllReadyH.nil
  refine skip_if (by rfl) ?_
  refine hK.out _ _ hS (fun hS => ?_)
  clear hK K
  try simp only [Act.put, List.setIfInBounds_toArray, List.set_cons_zero, List.set_cons_succ]
  (refine wpAnyH_take (i := 19) (oi := { dst := some 36, op := Op.pick (Operand.tmp 32) (Operand.tmp 35) (Operand.const (Value.bool false)), type := 4, pos := "outright.go:72", after := #[{ on := 15, ground := Ground.data }, { on := 18, ground := Ground.data }, { on := 11, ground := Ground.guard }], guard := some (11, false) }) (v := ?_) rfl (by kernel_rfl) (by kernel_rfl) (by kernel_rfl) (fun _ _ _ h => h) (Or.inl ⟨by rfl, ?_⟩) hS ?_; rotate_left; focus (intro w' hSw; obtain ⟨s0, s1, s2, sb⟩ := hSw; go_simp <;> try with_reducible rfl))
  try simp only [Act.put, List.setIfInBounds_toArray, List.set_cons_zero, List.set_cons_succ]
  (refine wpAnyH_take (i := 20) (oi := { dst := some 37, op := Op.move (Operand.tmp 36), type := 4, pos := "outright.go:72", after := #[{ on := 19, ground := Ground.data }, { on := 18, ground := Ground.chain }, { on := 11, ground := Ground.guard }], guard := some (11, false) }) (v := ?_) rfl (by kernel_rfl) (by kernel_rfl) (by kernel_rfl) (fun _ _ _ h => h) (Or.inl ⟨by rfl, ?_⟩) hS ?_; rotate_left; focus (intro w' hSw; obtain ⟨s0, s1, s2, sb⟩ := hSw; go_simp <;> try with_reducible rfl))
  try simp only [Act.put, List.setIfInBounds_toArray, List.set_cons_zero, List.set_cons_succ]
  (refine wpAnyH_take (i := 21) (oi := { dst := some 38, op := Op.load 25 (Operand.tmp 4), type := 25, pos := "outright.go:72", after := #[{ on := 20, ground := Ground.guard }], guard := some (20, true) }) (v := undef) rfl (by kernel_rfl) (by kernel_rfl) (by kernel_rfl) (fun _ _ _ h => h) (Or.inr ⟨by rfl, rfl⟩) hS ?_)
  try simp only [Act.put, List.setIfInBounds_toArray, List.set_cons_zero, List.set_cons_succ]
  (refine wpAnyH_take (i := 22) (oi := { dst := some 39, op := Op.load 25 (Operand.tmp 6), type := 25, pos := "outright.go:72", after := #[{ on := 20, ground := Ground.guard }], guard := some (20, true) }) (v := undef) rfl (by kernel_rfl) (by kernel_rfl) (by kernel_rfl) (fun _ _ _ h => h) (Or.inr ⟨by rfl, rfl⟩) hS ?_)
  try simp only [Act.put, List.setIfInBounds_toArray, List.set_cons_zero, List.set_cons_succ]
  refine wpAnyH_ready (rs := [23]) (by kernel_rfl) (by simp) ?_
  refine AllReadyH.cons (o := { dst := some 40, op := Op.call { callee := Callee.value (Operand.func 16), args := #[Operand.tmp 38, Operand.tmp 39], argTypes := #[25, 25] }, type := 4, pos := "outright.go:72", after := #[{ on := 21, ground := Ground.data }, { on := 22, ground := Ground.data }, { on := 20, ground := Ground.chain }, { on := 20, ground := Ground.guard }], guard := some (20, true) }) rfl (fun K hK => ?_) AllReadyH.nil
  refine skip_if (by rfl) ?_
  refine hK.out _ _ hS (fun hS => ?_)
  clear hK K
  try simp only [Act.put, List.setIfInBounds_toArray, List.set_cons_zero, List.set_cons_succ]
  (refine wpAnyH_take (i := 24) (oi := { dst := some 41, op := Op.unOp UnOp.not 4 (Operand.tmp 40), type := 4, pos := "outright.go:72", after := #[{ on := 23, ground := Ground.data }, { on := 20, ground := Ground.guard }], guard := some (20, true) }) (v := undef) rfl (by kernel_rfl) (by kernel_rfl) (by kernel_rfl) (fun _ _ _ h => h) (Or.inr ⟨by rfl, rfl⟩) hS ?_)
  try simp only [Act.put, List.setIfInBounds_toArray, List.set_cons_zero, List.set_cons_succ]
  (refine wpAnyH_take (i := 25) (oi := { dst := some 42, op := Op.pick (Operand.tmp 37) (Operand.tmp 41) (Operand.const (Value.bool false)), type := 4, pos := "outright.go:72", after := #[{ on := 20, ground := Ground.data }, { on := 24, ground := Ground.data }, { on := 11, ground := Ground.guard }], guard := some (11, false) }) (v := ?_) rfl (by kernel_rfl) (by kernel_rfl) (by kernel_rfl) (fun _ _ _ h => h) (Or.inl ⟨by rfl, ?_⟩) hS ?_; rotate_left; focus (intro w' hSw; obtain ⟨s0, s1, s2, sb⟩ := hSw; go_simp <;> try with_reducible rfl))
  try simp only [Act.put, List.setIfInBounds_toArray, List.set_cons_zero, List.set_cons_succ]
  (refine wpAnyH_take (i := 26) (oi := { dst := some 43, op := Op.pick (Operand.tmp 28) (Operand.const (Value.bool true)) (Operand.tmp 42), type := 4, pos := "outright.go:72", after := #[{ on := 11, ground := Ground.data }, { on := 25, ground := Ground.data }], guard := none }) (v := ?_) rfl (by kernel_rfl) (by kernel_rfl) (by kernel_rfl) (fun _ _ _ h => h) (Or.inl ⟨by rfl, ?_⟩) hS ?_; rotate_left; focus (intro w' hSw; obtain ⟨s0, s1, s2, sb⟩ := hSw; go_simp <;> try with_reducible rfl))
  try simp only [Act.put, List.setIfInBounds_toArray, List.set_cons_zero, List.set_cons_succ]
  refine wpAnyH_done (by kernel_rfl) ?_ _
  obtain ⟨s0, s1, s2, sb⟩ := hS
  obtain ⟨_, _, _, _, _, _, _, _, _⟩ := s0.out9
  obtain ⟨_, _, _, _, _, _, _, _, _⟩ := s1.out9
  obtain ⟨_, _, _, _, _, _, _, _, _⟩ := s2.out9
  have le5 := sb.le
  go_wp2_with (first
    | (go_at_call 16; (with_reducible refine (LAB.out _).mono ?_); rintro e' w5 ⟨rfl, hq⟩; have A5 := sb.at_ hq s0 (show w.heap.size < _ by omega); have B5 := sb.at_ hq s1 (show w.heap.size + 1 < _ by omega); have L5 := sb.step hq; obtain ⟨_, _, _, _, _, _, _, _, _⟩ := A5.out9; obtain ⟨_, _, _, _, _, _, _, _, _⟩ := B5.out9; have HA5 := Lib.hid A5; have HB5 := Lib.hid B5; have HLX := Lib.hid L5; have le6 := L5.le; clear hq A5 B5 L5)
    | (go_at_call 11; (with_reducible refine (works_w _).mono ?_); rintro e' wz ⟨rfl, hbz⟩; have BZ := Lib.hid (HLX.out.step hbz).bl; clear hbz))
  go_ret
  exact ⟨rfl, BZ.out⟩
set_option maxHeartbeats 2000000 in
set_option maxRecDepth 100000 in
theorem orders_n (a b c : Cp) (at' : Int) (ha : RC a) (hb : RC b) (hc : RC c) (ra : Raw a) (rb : Raw b) (rc : Raw c) (hr : rightL [a, b, c] = true) (a0 : 0 ≤ at') (a1 : at' < 18446744073709551616) (h0 : a.tg = true) (h1 : a.sealed = false) (h2 : lessB a b = false) (w : World) :
    Calls Try.prog 6 #[.agg #[.bool true, .int .i64 a.pe, .int .i64 a.ty, .int .i64 a.mo, .int .i64 a.e, .int .i64 a.b, .int .i64 a.t, .bool a.g, .int .u64 a.a], .agg #[.bool b.tg, .int .i64 b.pe, .int .i64 b.ty, .int .i64 b.mo, .int .i64 b.e, .int .i64 b.b, .int .i64 b.t, .bool b.g, .int .u64 b.a], .agg #[.bool c.tg, .int .i64 c.pe, .int .i64 c.ty, .int .i64 c.mo, .int .i64 c.e, .int .i64 c.b, .int .i64 c.t, .bool c.g, .int .u64 c.a], .int .u64 at'] w fun e' w' => e' = .returned (.bool true) ∧ Below w.heap.size w w' := by
  have eaa : lessB a a = true := by rw [less_refl, h0, h1]; rfl
  have eab : lessB a b = false := h2
  have LAA : Hid (∀ w1 : World, Calls Try.prog 16 #[.agg #[.bool true, .int .i64 a.pe, .int .i64 a.ty, .int .i64 a.mo, .int .i64 a.e, .int .i64 a.b, .int .i64 a.t, .bool a.g, .int .u64 a.a], .agg #[.bool true, .int .i64 a.pe, .int .i64 a.ty, .int .i64 a.mo, .int .i64 a.e, .int .i64 a.b, .int .i64 a.t, .bool a.g, .int .u64 a.a]] w1 fun e' w' => e' = .returned (.bool true) ∧ Below w1.heap.size w1 w') := Lib.hid (fun w1 => by have := kb (less_o a a ha ha true eaa w1); rw [h0] at this; exact this)
  have LAB : Hid (∀ w1 : World, Calls Try.prog 16 #[.agg #[.bool true, .int .i64 a.pe, .int .i64 a.ty, .int .i64 a.mo, .int .i64 a.e, .int .i64 a.b, .int .i64 a.t, .bool a.g, .int .u64 a.a], .agg #[.bool b.tg, .int .i64 b.pe, .int .i64 b.ty, .int .i64 b.mo, .int .i64 b.e, .int .i64 b.b, .int .i64 b.t, .bool b.g, .int .u64 b.a]] w1 fun e' w' => e' = .returned (.bool false) ∧ Below w1.heap.size w1 w') := Lib.hid (fun w1 => by have := kb (less_o a b ha hb false eab w1); rw [h0] at this; exact this)
  have LSE : Hid (∀ w1 : World, Calls Try.prog 25 #[.agg #[.bool true, .int .i64 a.pe, .int .i64 a.ty, .int .i64 a.mo, .int .i64 a.e, .int .i64 a.b, .int .i64 a.t, .bool a.g, .int .u64 a.a]] w1 fun e' w' => e' = .returned (.bool false) ∧ Below w1.heap.size w1 w') := Lib.hid (fun w1 => by have := kb (sealed_w a.tg a.pe a.ty a.mo a.e a.b a.t a.g a.a _ h1 w1); rw [h0] at this; exact this)
  have HRT : Hid (∀ (A : Option Addr) (n : Nat) (w1 : World), Rd w1 w1.heap.size A [a, b, c] → Calls Try.prog 9 #[.slice A 3 n] w1 fun e' w' => e' = .returned (.bool true) ∧ Kp w1 w') := Lib.hid (fun A n w1 h => rightl_w [a, b, c] A n w1 h (by simp) (by intro d hd; simp at hd; rcases hd with rfl | rfl | rfl; exact ra; exact rb; exact rc) true hr)
  have ev : vsL [a, b, c] = [.bool true, .int .i64 a.pe, .int .i64 a.ty, .int .i64 a.mo, .int .i64 a.e, .int .i64 a.b, .int .i64 a.t, .bool a.g, .int .u64 a.a, .bool b.tg, .int .i64 b.pe, .int .i64 b.ty, .int .i64 b.mo, .int .i64 b.e, .int .i64 b.b, .int .i64 b.t, .bool b.g, .int .u64 b.a, .bool c.tg, .int .i64 c.pe, .int .i64 c.ty, .int .i64 c.mo, .int .i64 c.e, .int .i64 c.b, .int .i64 c.t, .bool c.g, .int .u64 c.a] := by simp [vsL, Cp.vs, h0]
  have hr0 : ∀ w1 : World, Rd (w1.alloc (.cells #[.bool true, .int .i64 a.pe, .int .i64 a.ty, .int .i64 a.mo, .int .i64 a.e, .int .i64 a.b, .int .i64 a.t, .bool a.g, .int .u64 a.a, .bool b.tg, .int .i64 b.pe, .int .i64 b.ty, .int .i64 b.mo, .int .i64 b.e, .int .i64 b.b, .int .i64 b.t, .bool b.g, .int .u64 b.a, .bool c.tg, .int .i64 c.pe, .int .i64 c.ty, .int .i64 c.mo, .int .i64 c.e, .int .i64 c.b, .int .i64 c.t, .bool c.g, .int .u64 c.a] 25)) (w1.alloc (.cells #[.bool true, .int .i64 a.pe, .int .i64 a.ty, .int .i64 a.mo, .int .i64 a.e, .int .i64 a.b, .int .i64 a.t, .bool a.g, .int .u64 a.a, .bool b.tg, .int .i64 b.pe, .int .i64 b.ty, .int .i64 b.mo, .int .i64 b.e, .int .i64 b.b, .int .i64 b.t, .bool b.g, .int .u64 b.a, .bool c.tg, .int .i64 c.pe, .int .i64 c.ty, .int .i64 c.mo, .int .i64 c.e, .int .i64 c.b, .int .i64 c.t, .bool c.g, .int .u64 c.a] 25)).heap.size (some ⟨w1.heap.size, 0, none⟩) [a, b, c] := fun w1 => by have := rd_new [a, b, c] w1; rw [ev] at this; exact this
  have HR0 := Lib.hid hr0
  have A3 : At (w.heap.size) [.bool true, .int .i64 a.pe, .int .i64 a.ty, .int .i64 a.mo, .int .i64 a.e, .int .i64 a.b, .int .i64 a.t, .bool a.g, .int .u64 a.a] (((w.alloc (.cells #[.bool true, .int .i64 a.pe, .int .i64 a.ty, .int .i64 a.mo, .int .i64 a.e, .int .i64 a.b, .int .i64 a.t, .bool a.g, .int .u64 a.a] 25)).alloc (.cells #[.bool b.tg, .int .i64 b.pe, .int .i64 b.ty, .int .i64 b.mo, .int .i64 b.e, .int .i64 b.b, .int .i64 b.t, .bool b.g, .int .u64 b.a] 25)).alloc (.cells #[.bool c.tg, .int .i64 c.pe, .int .i64 c.ty, .int .i64 c.mo, .int .i64 c.e, .int .i64 c.b, .int .i64 c.t, .bool c.g, .int .u64 c.a] 25)) := ((At.new w [.bool true, .int .i64 a.pe, .int .i64 a.ty, .int .i64 a.mo, .int .i64 a.e, .int .i64 a.b, .int .i64 a.t, .bool a.g, .int .u64 a.a] 25).alloc _).alloc _
  have B3 : At (w.heap.size + 1) [.bool b.tg, .int .i64 b.pe, .int .i64 b.ty, .int .i64 b.mo, .int .i64 b.e, .int .i64 b.b, .int .i64 b.t, .bool b.g, .int .u64 b.a] (((w.alloc (.cells #[.bool true, .int .i64 a.pe, .int .i64 a.ty, .int .i64 a.mo, .int .i64 a.e, .int .i64 a.b, .int .i64 a.t, .bool a.g, .int .u64 a.a] 25)).alloc (.cells #[.bool b.tg, .int .i64 b.pe, .int .i64 b.ty, .int .i64 b.mo, .int .i64 b.e, .int .i64 b.b, .int .i64 b.t, .bool b.g, .int .u64 b.a] 25)).alloc (.cells #[.bool c.tg, .int .i64 c.pe, .int .i64 c.ty, .int .i64 c.mo, .int .i64 c.e, .int .i64 c.b, .int .i64 c.t, .bool c.g, .int .u64 c.a] 25)) := (At.new' (w.alloc (.cells #[.bool true, .int .i64 a.pe, .int .i64 a.ty, .int .i64 a.mo, .int .i64 a.e, .int .i64 a.b, .int .i64 a.t, .bool a.g, .int .u64 a.a] 25)) [.bool b.tg, .int .i64 b.pe, .int .i64 b.ty, .int .i64 b.mo, .int .i64 b.e, .int .i64 b.b, .int .i64 b.t, .bool b.g, .int .u64 b.a] 25 (by simp)).alloc _
  have C3 : At (w.heap.size + 1 + 1) [.bool c.tg, .int .i64 c.pe, .int .i64 c.ty, .int .i64 c.mo, .int .i64 c.e, .int .i64 c.b, .int .i64 c.t, .bool c.g, .int .u64 c.a] (((w.alloc (.cells #[.bool true, .int .i64 a.pe, .int .i64 a.ty, .int .i64 a.mo, .int .i64 a.e, .int .i64 a.b, .int .i64 a.t, .bool a.g, .int .u64 a.a] 25)).alloc (.cells #[.bool b.tg, .int .i64 b.pe, .int .i64 b.ty, .int .i64 b.mo, .int .i64 b.e, .int .i64 b.b, .int .i64 b.t, .bool b.g, .int .u64 b.a] 25)).alloc (.cells #[.bool c.tg, .int .i64 c.pe, .int .i64 c.ty, .int .i64 c.mo, .int .i64 c.e, .int .i64 c.b, .int .i64 c.t, .bool c.g, .int .u64 c.a] 25)) := At.new' ((w.alloc (.cells #[.bool true, .int .i64 a.pe, .int .i64 a.ty, .int .i64 a.mo, .int .i64 a.e, .int .i64 a.b, .int .i64 a.t, .bool a.g, .int .u64 a.a] 25)).alloc (.cells #[.bool b.tg, .int .i64 b.pe, .int .i64 b.ty, .int .i64 b.mo, .int .i64 b.e, .int .i64 b.b, .int .i64 b.t, .bool b.g, .int .u64 b.a] 25)) [.bool c.tg, .int .i64 c.pe, .int .i64 c.ty, .int .i64 c.mo, .int .i64 c.e, .int .i64 c.b, .int .i64 c.t, .bool c.g, .int .u64 c.a] 25 (by simp)
  have L3 : Bl w (w.heap.size + 1 + 1 + 1) (((w.alloc (.cells #[.bool true, .int .i64 a.pe, .int .i64 a.ty, .int .i64 a.mo, .int .i64 a.e, .int .i64 a.b, .int .i64 a.t, .bool a.g, .int .u64 a.a] 25)).alloc (.cells #[.bool b.tg, .int .i64 b.pe, .int .i64 b.ty, .int .i64 b.mo, .int .i64 b.e, .int .i64 b.b, .int .i64 b.t, .bool b.g, .int .u64 b.a] 25)).alloc (.cells #[.bool c.tg, .int .i64 c.pe, .int .i64 c.ty, .int .i64 c.mo, .int .i64 c.e, .int .i64 c.b, .int .i64 c.t, .bool c.g, .int .u64 c.a] 25)) := ⟨(((Below.refl _ _).alloc (Nat.le_refl _) _).alloc (by simp) _).alloc (by simp; omega) _, by omega, by simp⟩
  clear eaa eab ra rb rc hr hr0 ev
  go_enter Try.func6, Try.ntmps6
  go_upto_region 1 with fail
  generalize hw0 : (((w.alloc (.cells #[.bool true, .int .i64 a.pe, .int .i64 a.ty, .int .i64 a.mo, .int .i64 a.e, .int .i64 a.b, .int .i64 a.t, .bool a.g, .int .u64 a.a] 25)).alloc (.cells #[.bool b.tg, .int .i64 b.pe, .int .i64 b.ty, .int .i64 b.mo, .int .i64 b.e, .int .i64 b.b, .int .i64 b.t, .bool b.g, .int .u64 b.a] 25)).alloc (.cells #[.bool c.tg, .int .i64 c.pe, .int .i64 c.ty, .int .i64 c.mo, .int .i64 c.e, .int .i64 c.b, .int .i64 c.t, .bool c.g, .int .u64 c.a] 25)) = w0 at A3 B3 C3 L3 ⊢
  clear hw0
  have le0 := L3.le
  obtain ⟨_, _, _, _, _, _, _, _, _⟩ := A3.out9
  obtain ⟨_, _, _, _, _, _, _, _, _⟩ := B3.out9
  obtain ⟨_, _, _, _, _, _, _, _, _⟩ := C3.out9
  have HA3 := Lib.hid A3
  have HB3 := Lib.hid B3
  have HC3 := Lib.hid C3
  have HL3 := Lib.hid L3
  clear A3 B3 C3 L3
  go_upto_region 3 with (go_at_call 9; (with_reducible refine (HRT.out _ _ _ (HR0.out w0)).mono ?_); rintro e' w1 ⟨rfl, qk⟩; have A4 : At (w.heap.size) [.bool true, .int .i64 a.pe, .int .i64 a.ty, .int .i64 a.mo, .int .i64 a.e, .int .i64 a.b, .int .i64 a.t, .bool a.g, .int .u64 a.a] w1 := (HA3.out.alloc _).kp qk (by simp; omega); have B4 : At (w.heap.size + 1) [.bool b.tg, .int .i64 b.pe, .int .i64 b.ty, .int .i64 b.mo, .int .i64 b.e, .int .i64 b.b, .int .i64 b.t, .bool b.g, .int .u64 b.a] w1 := (HB3.out.alloc _).kp qk (by simp; omega); have C4 : At (w.heap.size + 1 + 1) [.bool c.tg, .int .i64 c.pe, .int .i64 c.ty, .int .i64 c.mo, .int .i64 c.e, .int .i64 c.b, .int .i64 c.t, .bool c.g, .int .u64 c.a] w1 := (HC3.out.alloc _).kp qk (by simp; omega); have L4 : Bl w (w.heap.size + 1 + 1 + 1) w1 := (HL3.out.alloc _).step qk.1; clear qk)
  refine wp_region_held_drew (S := (fun w' => At (w.heap.size) [.bool true, .int .i64 a.pe, .int .i64 a.ty, .int .i64 a.mo, .int .i64 a.e, .int .i64 a.b, .int .i64 a.t, .bool a.g, .int .u64 a.a] w' ∧ At (w.heap.size + 1) [.bool b.tg, .int .i64 b.pe, .int .i64 b.ty, .int .i64 b.mo, .int .i64 b.e, .int .i64 b.b, .int .i64 b.t, .bool b.g, .int .u64 b.a] w' ∧ At (w.heap.size + 1 + 1) [.bool c.tg, .int .i64 c.pe, .int .i64 c.ty, .int .i64 c.mo, .int .i64 c.e, .int .i64 c.b, .int .i64 c.t, .bool c.g, .int .u64 c.a] w' ∧ Bl w (w.heap.size + 1 + 1 + 1) w')) (by kernel_rfl) ⟨At.drew (by with_reducible assumption), At.drew (by with_reducible assumption), At.drew (by with_reducible assumption), Bl.drew (by with_reducible assumption)⟩ (fun hS => ?_)
  generalize hgw : w1.drew = g0 at hS ⊢
  clear hgw
  try simp only [Act.put, List.setIfInBounds_toArray, List.set_cons_zero, List.set_cons_succ]
  (refine wpAnyH_take (i := 0) (oi := { dst := some 17, op := Op.load 25 (Operand.tmp 4), type := 25, pos := "outright.go:72", after := #[], guard := none }) (v := ?_) rfl (by kernel_rfl) (by kernel_rfl) (by kernel_rfl) (fun _ _ _ h => h) (Or.inl ⟨by rfl, ?_⟩) hS ?_; rotate_left; focus (intro w' hSw; obtain ⟨s0, s1, s2, sb⟩ := hSw; obtain ⟨_, _, _, _, _, _, _, _, _⟩ := s0.out9; obtain ⟨_, _, _, _, _, _, _, _, _⟩ := s1.out9; obtain ⟨_, _, _, _, _, _, _, _, _⟩ := s2.out9; go_simp <;> try with_reducible rfl))
  try simp only [Act.put, List.setIfInBounds_toArray, List.set_cons_zero, List.set_cons_succ]
  (refine wpAnyH_take (i := 1) (oi := { dst := some 18, op := Op.load 25 (Operand.tmp 4), type := 25, pos := "outright.go:72", after := #[], guard := none }) (v := ?_) rfl (by kernel_rfl) (by kernel_rfl) (by kernel_rfl) (fun _ _ _ h => h) (Or.inl ⟨by rfl, ?_⟩) hS ?_; rotate_left; focus (intro w' hSw; obtain ⟨s0, s1, s2, sb⟩ := hSw; obtain ⟨_, _, _, _, _, _, _, _, _⟩ := s0.out9; obtain ⟨_, _, _, _, _, _, _, _, _⟩ := s1.out9; obtain ⟨_, _, _, _, _, _, _, _, _⟩ := s2.out9; go_simp <;> try with_reducible rfl))
  try simp only [Act.put, List.setIfInBounds_toArray, List.set_cons_zero, List.set_cons_succ]
  (refine wpAnyH_take (i := 3) (oi := { dst := some 20, op := Op.fieldAddr 25 (Operand.tmp 4) 0, type := 0, pos := "outright.go:72", after := #[], guard := none }) (v := ?_) rfl (by kernel_rfl) (by kernel_rfl) (by kernel_rfl) (fun _ _ _ h => h) (Or.inl ⟨by rfl, ?_⟩) hS ?_; rotate_left; focus (intro w' hSw; obtain ⟨s0, s1, s2, sb⟩ := hSw; go_simp <;> try with_reducible rfl))
  try simp only [Act.put, List.setIfInBounds_toArray, List.set_cons_zero, List.set_cons_succ]
  (refine wpAnyH_take (i := 4) (oi := { dst := some 21, op := Op.load 4 (Operand.tmp 20), type := 4, pos := "outright.go:72", after := #[{ on := 3, ground := Ground.data }], guard := none }) (v := ?_) rfl (by kernel_rfl) (by kernel_rfl) (by kernel_rfl) (fun _ _ _ h => h) (Or.inl ⟨by rfl, ?_⟩) hS ?_; rotate_left; focus (intro w' hSw; obtain ⟨s0, s1, s2, sb⟩ := hSw; obtain ⟨_, _, _, _, _, _, _, _, _⟩ := s0.out9; obtain ⟨_, _, _, _, _, _, _, _, _⟩ := s1.out9; obtain ⟨_, _, _, _, _, _, _, _, _⟩ := s2.out9; go_simp <;> try with_reducible rfl))
  try simp only [Act.put, List.setIfInBounds_toArray, List.set_cons_zero, List.set_cons_succ]
  refine wpAnyH_ready (rs := [2]) (by kernel_rfl) (by simp) ?_
  refine AllReadyH.cons (o := { dst := some 19, op := Op.call { callee := Callee.value (Operand.func 16), args := #[Operand.tmp 17, Operand.tmp 18], argTypes := #[25, 25] }, type := 4, pos := "outright.go:72", after := #[{ on := 0, ground := Ground.data }, { on := 1, ground := Ground.data }], guard := none }) rfl (fun K hK => ?_) AllReadyH.nil
  refine take_if (by rfl) ?_
  obtain ⟨s0, s1, s2, sb⟩ := hS
  go_simp
  (with_reducible refine (LAA.out _).mono ?_)
  rintro e' g2 ⟨rfl, hb⟩
  have t0 := sb.at_ hb s0 (show w.heap.size < w.heap.size + 1 + 1 + 1 by omega)
  have t1 := sb.at_ hb s1 (show w.heap.size + 1 < w.heap.size + 1 + 1 + 1 by omega)
  have t2 := sb.at_ hb s2 (show w.heap.size + 1 + 1 < w.heap.size + 1 + 1 + 1 by omega)
  refine hK.out _ _ ⟨t0, t1, t2, (sb.step hb)⟩ (fun hS => ?_)
  clear hK K hb s0 t0 s1 t1 s2 t2 sb
  try simp only [Act.put, List.setIfInBounds_toArray, List.set_cons_zero, List.set_cons_succ]
  (refine wpAnyH_take (i := 5) (oi := { dst := some 22, op := Op.move (Operand.tmp 21), type := 4, pos := "outright.go:72", after := #[{ on := 4, ground := Ground.data }, { on := 2, ground := Ground.chain }], guard := none }) (v := ?_) rfl (by kernel_rfl) (by kernel_rfl) (by kernel_rfl) (fun _ _ _ h => h) (Or.inl ⟨by rfl, ?_⟩) hS ?_; rotate_left; focus (intro w' hSw; obtain ⟨s0, s1, s2, sb⟩ := hSw; go_simp <;> try with_reducible rfl))
  try simp only [Act.put, List.setIfInBounds_toArray, List.set_cons_zero, List.set_cons_succ]
  (refine wpAnyH_take (i := 6) (oi := { dst := some 23, op := Op.load 25 (Operand.tmp 4), type := 25, pos := "outright.go:72", after := #[{ on := 5, ground := Ground.guard }], guard := some (5, true) }) (v := ?_) rfl (by kernel_rfl) (by kernel_rfl) (by kernel_rfl) (fun _ _ _ h => h) (Or.inl ⟨by rfl, ?_⟩) hS ?_; rotate_left; focus (intro w' hSw; obtain ⟨s0, s1, s2, sb⟩ := hSw; obtain ⟨_, _, _, _, _, _, _, _, _⟩ := s0.out9; obtain ⟨_, _, _, _, _, _, _, _, _⟩ := s1.out9; obtain ⟨_, _, _, _, _, _, _, _, _⟩ := s2.out9; go_simp <;> try with_reducible rfl))
  try simp only [Act.put, List.setIfInBounds_toArray, List.set_cons_zero, List.set_cons_succ]
  refine wpAnyH_ready (rs := [7]) (by kernel_rfl) (by simp) ?_
  refine AllReadyH.cons (o := { dst := some 24, op := Op.call { callee := Callee.value (Operand.func 25), args := #[Operand.tmp 23], argTypes := #[25] }, type := 4, pos := "outright.go:72", after := #[{ on := 6, ground := Ground.data }, { on := 5, ground := Ground.chain }, { on := 5, ground := Ground.guard }], guard := some (5, true) }) rfl (fun K hK => ?_) AllReadyH.nil
  refine take_if (by rfl) ?_
  obtain ⟨s0, s1, s2, sb⟩ := hS
  go_simp
  (with_reducible refine (LSE.out _).mono ?_)
  rintro e' g7 ⟨rfl, hb⟩
  have t0 := sb.at_ hb s0 (show w.heap.size < w.heap.size + 1 + 1 + 1 by omega)
  have t1 := sb.at_ hb s1 (show w.heap.size + 1 < w.heap.size + 1 + 1 + 1 by omega)
  have t2 := sb.at_ hb s2 (show w.heap.size + 1 + 1 < w.heap.size + 1 + 1 + 1 by omega)
  refine hK.out _ _ ⟨t0, t1, t2, (sb.step hb)⟩ (fun hS => ?_)
  clear hK K hb s0 t0 s1 t1 s2 t2 sb
  try simp only [Act.put, List.setIfInBounds_toArray, List.set_cons_zero, List.set_cons_succ]
  (refine wpAnyH_take (i := 8) (oi := { dst := some 25, op := Op.unOp UnOp.not 4 (Operand.tmp 24), type := 4, pos := "outright.go:72", after := #[{ on := 7, ground := Ground.data }, { on := 5, ground := Ground.guard }], guard := some (5, true) }) (v := ?_) rfl (by kernel_rfl) (by kernel_rfl) (by kernel_rfl) (fun _ _ _ h => h) (Or.inl ⟨by rfl, ?_⟩) hS ?_; rotate_left; focus (intro w' hSw; obtain ⟨s0, s1, s2, sb⟩ := hSw; go_simp <;> try with_reducible rfl))
  try simp only [Act.put, List.setIfInBounds_toArray, List.set_cons_zero, List.set_cons_succ]
  (refine wpAnyH_take (i := 9) (oi := { dst := some 26, op := Op.pick (Operand.tmp 22) (Operand.tmp 25) (Operand.const (Value.bool false)), type := 4, pos := "outright.go:72", after := #[{ on := 5, ground := Ground.data }, { on := 8, ground := Ground.data }], guard := none }) (v := ?_) rfl (by kernel_rfl) (by kernel_rfl) (by kernel_rfl) (fun _ _ _ h => h) (Or.inl ⟨by rfl, ?_⟩) hS ?_; rotate_left; focus (intro w' hSw; obtain ⟨s0, s1, s2, sb⟩ := hSw; go_simp <;> try with_reducible rfl))
  try simp only [Act.put, List.setIfInBounds_toArray, List.set_cons_zero, List.set_cons_succ]
  (refine wpAnyH_take (i := 10) (oi := { dst := some 27, op := Op.binOp BinOp.neq 4 (Operand.tmp 19) (Operand.tmp 26) 4, type := 4, pos := "outright.go:72", after := #[{ on := 2, ground := Ground.data }, { on := 9, ground := Ground.data }], guard := none }) (v := ?_) rfl (by kernel_rfl) (by kernel_rfl) (by kernel_rfl) (fun _ _ _ h => h) (Or.inl ⟨by rfl, ?_⟩) hS ?_; rotate_left; focus (intro w' hSw; obtain ⟨s0, s1, s2, sb⟩ := hSw; go_simp <;> try with_reducible rfl))
  try simp only [Act.put, List.setIfInBounds_toArray, List.set_cons_zero, List.set_cons_succ]
  (refine wpAnyH_take (i := 11) (oi := { dst := some 28, op := Op.move (Operand.tmp 27), type := 4, pos := "outright.go:72", after := #[{ on := 10, ground := Ground.data }, { on := 7, ground := Ground.chain }], guard := none }) (v := ?_) rfl (by kernel_rfl) (by kernel_rfl) (by kernel_rfl) (fun _ _ _ h => h) (Or.inl ⟨by rfl, ?_⟩) hS ?_; rotate_left; focus (intro w' hSw; obtain ⟨s0, s1, s2, sb⟩ := hSw; go_simp <;> try with_reducible rfl))
  try simp only [Act.put, List.setIfInBounds_toArray, List.set_cons_zero, List.set_cons_succ]
  (refine wpAnyH_take (i := 12) (oi := { dst := some 29, op := Op.load 25 (Operand.tmp 4), type := 25, pos := "outright.go:72", after := #[{ on := 11, ground := Ground.guard }], guard := some (11, false) }) (v := ?_) rfl (by kernel_rfl) (by kernel_rfl) (by kernel_rfl) (fun _ _ _ h => h) (Or.inl ⟨by rfl, ?_⟩) hS ?_; rotate_left; focus (intro w' hSw; obtain ⟨s0, s1, s2, sb⟩ := hSw; obtain ⟨_, _, _, _, _, _, _, _, _⟩ := s0.out9; obtain ⟨_, _, _, _, _, _, _, _, _⟩ := s1.out9; obtain ⟨_, _, _, _, _, _, _, _, _⟩ := s2.out9; go_simp <;> try with_reducible rfl))
  try simp only [Act.put, List.setIfInBounds_toArray, List.set_cons_zero, List.set_cons_succ]
  (refine wpAnyH_take (i := 13) (oi := { dst := some 30, op := Op.load 25 (Operand.tmp 5), type := 25, pos := "outright.go:72", after := #[{ on := 11, ground := Ground.guard }], guard := some (11, false) }) (v := ?_) rfl (by kernel_rfl) (by kernel_rfl) (by kernel_rfl) (fun _ _ _ h => h) (Or.inl ⟨by rfl, ?_⟩) hS ?_; rotate_left; focus (intro w' hSw; obtain ⟨s0, s1, s2, sb⟩ := hSw; obtain ⟨_, _, _, _, _, _, _, _, _⟩ := s0.out9; obtain ⟨_, _, _, _, _, _, _, _, _⟩ := s1.out9; obtain ⟨_, _, _, _, _, _, _, _, _⟩ := s2.out9; go_simp <;> try with_reducible rfl))
  try simp only [Act.put, List.setIfInBounds_toArray, List.set_cons_zero, List.set_cons_succ]
  refine wpAnyH_ready (rs := [14]) (by kernel_rfl) (by simp) ?_
  refine AllReadyH.cons (o := { dst := some 31, op := Op.call { callee := Callee.value (Operand.func 16), args := #[Operand.tmp 29, Operand.tmp 30], argTypes := #[25, 25] }, type := 4, pos := "outright.go:72", after := #[{ on := 12, ground := Ground.data }, { on := 13, ground := Ground.data }, { on := 11, ground := Ground.chain }, { on := 11, ground := Ground.guard }], guard := some (11, false) }) rfl (fun K hK => ?_) AllReadyH.nil
  refine take_if (by rfl) ?_
  obtain ⟨s0, s1, s2, sb⟩ := hS
  go_simp
  (with_reducible refine (LAB.out _).mono ?_)
  rintro e' g14 ⟨rfl, hb⟩
  have t0 := sb.at_ hb s0 (show w.heap.size < w.heap.size + 1 + 1 + 1 by omega)
  have t1 := sb.at_ hb s1 (show w.heap.size + 1 < w.heap.size + 1 + 1 + 1 by omega)
  have t2 := sb.at_ hb s2 (show w.heap.size + 1 + 1 < w.heap.size + 1 + 1 + 1 by omega)
  refine hK.out _ _ ⟨t0, t1, t2, (sb.step hb)⟩ (fun hS => ?_)
  clear hK K hb s0 t0 s1 t1 s2 t2 sb
  try simp only [Act.put, List.setIfInBounds_toArray, List.set_cons_zero, List.set_cons_succ]
  (refine wpAnyH_take (i := 15) (oi := { dst := some 32, op := Op.move (Operand.tmp 31), type := 4, pos := "outright.go:72", after := #[{ on := 14, ground := Ground.data }, { on := 14, ground := Ground.chain }, { on := 11, ground := Ground.guard }], guard := some (11, false) }) (v := ?_) rfl (by kernel_rfl) (by kernel_rfl) (by kernel_rfl) (fun _ _ _ h => h) (Or.inl ⟨by rfl, ?_⟩) hS ?_; rotate_left; focus (intro w' hSw; obtain ⟨s0, s1, s2, sb⟩ := hSw; go_simp <;> try with_reducible rfl))
  try simp only [Act.put, List.setIfInBounds_toArray, List.set_cons_zero, List.set_cons_succ]
  (refine wpAnyH_take (i := 16) (oi := { dst := some 33, op := Op.load 25 (Operand.tmp 5), type := 25, pos := "outright.go:72", after := #[{ on := 15, ground := Ground.guard }], guard := some (15, true) }) (v := undef) rfl (by kernel_rfl) (by kernel_rfl) (by kernel_rfl) (fun _ _ _ h => h) (Or.inr ⟨by rfl, rfl⟩) hS ?_)
  try simp only [Act.put, List.setIfInBounds_toArray, List.set_cons_zero, List.set_cons_succ]
  (refine wpAnyH_take (i := 17) (oi := { dst := some 34, op := Op.load 25 (Operand.tmp 6), type := 25, pos := "outright.go:72", after := #[{ on := 15, ground := Ground.guard }], guard := some (15, true) }) (v := undef) rfl (by kernel_rfl) (by kernel_rfl) (by kernel_rfl) (fun _ _ _ h => h) (Or.inr ⟨by rfl, rfl⟩) hS ?_)
  try simp only [Act.put, List.setIfInBounds_toArray, List.set_cons_zero, List.set_cons_succ]
  refine wpAnyH_ready (rs := [18]) (by kernel_rfl) (by simp) ?_
  refine AllReadyH.cons (o := { dst := some 35, op := Op.call { callee := Callee.value (Operand.func 16), args := #[Operand.tmp 33, Operand.tmp 34], argTypes := #[25, 25] }, type := 4, pos := "outright.go:72", after := #[{ on := 16, ground := Ground.data }, { on := 17, ground := Ground.data }, { on := 15, ground := Ground.chain }, { on := 15, ground := Ground.guard }], guard := some (15, true) }) rfl (fun K hK => ?_) AllReadyH.nil
  refine skip_if (by rfl) ?_
  refine hK.out _ _ hS (fun hS => ?_)
  clear hK K
  try simp only [Act.put, List.setIfInBounds_toArray, List.set_cons_zero, List.set_cons_succ]
  (refine wpAnyH_take (i := 19) (oi := { dst := some 36, op := Op.pick (Operand.tmp 32) (Operand.tmp 35) (Operand.const (Value.bool false)), type := 4, pos := "outright.go:72", after := #[{ on := 15, ground := Ground.data }, { on := 18, ground := Ground.data }, { on := 11, ground := Ground.guard }], guard := some (11, false) }) (v := ?_) rfl (by kernel_rfl) (by kernel_rfl) (by kernel_rfl) (fun _ _ _ h => h) (Or.inl ⟨by rfl, ?_⟩) hS ?_; rotate_left; focus (intro w' hSw; obtain ⟨s0, s1, s2, sb⟩ := hSw; go_simp <;> try with_reducible rfl))
  try simp only [Act.put, List.setIfInBounds_toArray, List.set_cons_zero, List.set_cons_succ]
  (refine wpAnyH_take (i := 20) (oi := { dst := some 37, op := Op.move (Operand.tmp 36), type := 4, pos := "outright.go:72", after := #[{ on := 19, ground := Ground.data }, { on := 18, ground := Ground.chain }, { on := 11, ground := Ground.guard }], guard := some (11, false) }) (v := ?_) rfl (by kernel_rfl) (by kernel_rfl) (by kernel_rfl) (fun _ _ _ h => h) (Or.inl ⟨by rfl, ?_⟩) hS ?_; rotate_left; focus (intro w' hSw; obtain ⟨s0, s1, s2, sb⟩ := hSw; go_simp <;> try with_reducible rfl))
  try simp only [Act.put, List.setIfInBounds_toArray, List.set_cons_zero, List.set_cons_succ]
  (refine wpAnyH_take (i := 21) (oi := { dst := some 38, op := Op.load 25 (Operand.tmp 4), type := 25, pos := "outright.go:72", after := #[{ on := 20, ground := Ground.guard }], guard := some (20, true) }) (v := undef) rfl (by kernel_rfl) (by kernel_rfl) (by kernel_rfl) (fun _ _ _ h => h) (Or.inr ⟨by rfl, rfl⟩) hS ?_)
  try simp only [Act.put, List.setIfInBounds_toArray, List.set_cons_zero, List.set_cons_succ]
  (refine wpAnyH_take (i := 22) (oi := { dst := some 39, op := Op.load 25 (Operand.tmp 6), type := 25, pos := "outright.go:72", after := #[{ on := 20, ground := Ground.guard }], guard := some (20, true) }) (v := undef) rfl (by kernel_rfl) (by kernel_rfl) (by kernel_rfl) (fun _ _ _ h => h) (Or.inr ⟨by rfl, rfl⟩) hS ?_)
  try simp only [Act.put, List.setIfInBounds_toArray, List.set_cons_zero, List.set_cons_succ]
  refine wpAnyH_ready (rs := [23]) (by kernel_rfl) (by simp) ?_
  refine AllReadyH.cons (o := { dst := some 40, op := Op.call { callee := Callee.value (Operand.func 16), args := #[Operand.tmp 38, Operand.tmp 39], argTypes := #[25, 25] }, type := 4, pos := "outright.go:72", after := #[{ on := 21, ground := Ground.data }, { on := 22, ground := Ground.data }, { on := 20, ground := Ground.chain }, { on := 20, ground := Ground.guard }], guard := some (20, true) }) rfl (fun K hK => ?_) AllReadyH.nil
  refine skip_if (by rfl) ?_
  refine hK.out _ _ hS (fun hS => ?_)
  clear hK K
  try simp only [Act.put, List.setIfInBounds_toArray, List.set_cons_zero, List.set_cons_succ]
  (refine wpAnyH_take (i := 24) (oi := { dst := some 41, op := Op.unOp UnOp.not 4 (Operand.tmp 40), type := 4, pos := "outright.go:72", after := #[{ on := 23, ground := Ground.data }, { on := 20, ground := Ground.guard }], guard := some (20, true) }) (v := undef) rfl (by kernel_rfl) (by kernel_rfl) (by kernel_rfl) (fun _ _ _ h => h) (Or.inr ⟨by rfl, rfl⟩) hS ?_)
  try simp only [Act.put, List.setIfInBounds_toArray, List.set_cons_zero, List.set_cons_succ]
  (refine wpAnyH_take (i := 25) (oi := { dst := some 42, op := Op.pick (Operand.tmp 37) (Operand.tmp 41) (Operand.const (Value.bool false)), type := 4, pos := "outright.go:72", after := #[{ on := 20, ground := Ground.data }, { on := 24, ground := Ground.data }, { on := 11, ground := Ground.guard }], guard := some (11, false) }) (v := ?_) rfl (by kernel_rfl) (by kernel_rfl) (by kernel_rfl) (fun _ _ _ h => h) (Or.inl ⟨by rfl, ?_⟩) hS ?_; rotate_left; focus (intro w' hSw; obtain ⟨s0, s1, s2, sb⟩ := hSw; go_simp <;> try with_reducible rfl))
  try simp only [Act.put, List.setIfInBounds_toArray, List.set_cons_zero, List.set_cons_succ]
  (refine wpAnyH_take (i := 26) (oi := { dst := some 43, op := Op.pick (Operand.tmp 28) (Operand.const (Value.bool true)) (Operand.tmp 42), type := 4, pos := "outright.go:72", after := #[{ on := 11, ground := Ground.data }, { on := 25, ground := Ground.data }], guard := none }) (v := ?_) rfl (by kernel_rfl) (by kernel_rfl) (by kernel_rfl) (fun _ _ _ h => h) (Or.inl ⟨by rfl, ?_⟩) hS ?_; rotate_left; focus (intro w' hSw; obtain ⟨s0, s1, s2, sb⟩ := hSw; go_simp <;> try with_reducible rfl))
  try simp only [Act.put, List.setIfInBounds_toArray, List.set_cons_zero, List.set_cons_succ]
  refine wpAnyH_done (by kernel_rfl) ?_ _
  obtain ⟨s0, s1, s2, sb⟩ := hS
  obtain ⟨_, _, _, _, _, _, _, _, _⟩ := s0.out9
  obtain ⟨_, _, _, _, _, _, _, _, _⟩ := s1.out9
  obtain ⟨_, _, _, _, _, _, _, _, _⟩ := s2.out9
  have le5 := sb.le
  go_wp2_with (first
    | (go_at_call 16; (with_reducible refine (LAB.out _).mono ?_); rintro e' w5 ⟨rfl, hq⟩; have A5 := sb.at_ hq s0 (show w.heap.size < _ by omega); have B5 := sb.at_ hq s1 (show w.heap.size + 1 < _ by omega); have L5 := sb.step hq; obtain ⟨_, _, _, _, _, _, _, _, _⟩ := A5.out9; obtain ⟨_, _, _, _, _, _, _, _, _⟩ := B5.out9; have HA5 := Lib.hid A5; have HB5 := Lib.hid B5; have HLX := Lib.hid L5; have le6 := L5.le; clear hq A5 B5 L5)
    | (go_at_call 11; (with_reducible refine (works_w _).mono ?_); rintro e' wz ⟨rfl, hbz⟩; have BZ := Lib.hid (HLX.out.step hbz).bl; clear hbz))
  go_ret
  exact ⟨rfl, BZ.out⟩
set_option maxHeartbeats 2000000 in
set_option maxRecDepth 100000 in
theorem orders_1 (a b c : Cp) (at' : Int) (ha : RC a) (hb : RC b) (hc : RC c) (ra : Raw a) (rb : Raw b) (rc : Raw c) (hr : rightL [a, b, c] = true) (a0 : 0 ≤ at') (a1 : at' < 18446744073709551616) (h0 : a.tg = true) (h1 : a.sealed = false) (h2 : lessB a b = true) (h3 : lessB b c = false) (w : World) :
    Calls Try.prog 6 #[.agg #[.bool true, .int .i64 a.pe, .int .i64 a.ty, .int .i64 a.mo, .int .i64 a.e, .int .i64 a.b, .int .i64 a.t, .bool a.g, .int .u64 a.a], .agg #[.bool b.tg, .int .i64 b.pe, .int .i64 b.ty, .int .i64 b.mo, .int .i64 b.e, .int .i64 b.b, .int .i64 b.t, .bool b.g, .int .u64 b.a], .agg #[.bool c.tg, .int .i64 c.pe, .int .i64 c.ty, .int .i64 c.mo, .int .i64 c.e, .int .i64 c.b, .int .i64 c.t, .bool c.g, .int .u64 c.a], .int .u64 at'] w fun e' w' => e' = .returned (.bool true) ∧ Below w.heap.size w w' := by
  have eaa : lessB a a = true := by rw [less_refl, h0, h1]; rfl
  have eab : lessB a b = true := h2
  have LAA : Hid (∀ w1 : World, Calls Try.prog 16 #[.agg #[.bool true, .int .i64 a.pe, .int .i64 a.ty, .int .i64 a.mo, .int .i64 a.e, .int .i64 a.b, .int .i64 a.t, .bool a.g, .int .u64 a.a], .agg #[.bool true, .int .i64 a.pe, .int .i64 a.ty, .int .i64 a.mo, .int .i64 a.e, .int .i64 a.b, .int .i64 a.t, .bool a.g, .int .u64 a.a]] w1 fun e' w' => e' = .returned (.bool true) ∧ Below w1.heap.size w1 w') := Lib.hid (fun w1 => by have := kb (less_o a a ha ha true eaa w1); rw [h0] at this; exact this)
  have LAB : Hid (∀ w1 : World, Calls Try.prog 16 #[.agg #[.bool true, .int .i64 a.pe, .int .i64 a.ty, .int .i64 a.mo, .int .i64 a.e, .int .i64 a.b, .int .i64 a.t, .bool a.g, .int .u64 a.a], .agg #[.bool b.tg, .int .i64 b.pe, .int .i64 b.ty, .int .i64 b.mo, .int .i64 b.e, .int .i64 b.b, .int .i64 b.t, .bool b.g, .int .u64 b.a]] w1 fun e' w' => e' = .returned (.bool true) ∧ Below w1.heap.size w1 w') := Lib.hid (fun w1 => by have := kb (less_o a b ha hb true eab w1); rw [h0] at this; exact this)
  have LBC : Hid (∀ w1 : World, Calls Try.prog 16 #[.agg #[.bool b.tg, .int .i64 b.pe, .int .i64 b.ty, .int .i64 b.mo, .int .i64 b.e, .int .i64 b.b, .int .i64 b.t, .bool b.g, .int .u64 b.a], .agg #[.bool c.tg, .int .i64 c.pe, .int .i64 c.ty, .int .i64 c.mo, .int .i64 c.e, .int .i64 c.b, .int .i64 c.t, .bool c.g, .int .u64 c.a]] w1 fun e' w' => e' = .returned (.bool false) ∧ Below w1.heap.size w1 w') := Lib.hid (fun w1 => kb (less_o b c hb hc false h3 w1))
  have LSE : Hid (∀ w1 : World, Calls Try.prog 25 #[.agg #[.bool true, .int .i64 a.pe, .int .i64 a.ty, .int .i64 a.mo, .int .i64 a.e, .int .i64 a.b, .int .i64 a.t, .bool a.g, .int .u64 a.a]] w1 fun e' w' => e' = .returned (.bool false) ∧ Below w1.heap.size w1 w') := Lib.hid (fun w1 => by have := kb (sealed_w a.tg a.pe a.ty a.mo a.e a.b a.t a.g a.a _ h1 w1); rw [h0] at this; exact this)
  have HRT : Hid (∀ (A : Option Addr) (n : Nat) (w1 : World), Rd w1 w1.heap.size A [a, b, c] → Calls Try.prog 9 #[.slice A 3 n] w1 fun e' w' => e' = .returned (.bool true) ∧ Kp w1 w') := Lib.hid (fun A n w1 h => rightl_w [a, b, c] A n w1 h (by simp) (by intro d hd; simp at hd; rcases hd with rfl | rfl | rfl; exact ra; exact rb; exact rc) true hr)
  have ev : vsL [a, b, c] = [.bool true, .int .i64 a.pe, .int .i64 a.ty, .int .i64 a.mo, .int .i64 a.e, .int .i64 a.b, .int .i64 a.t, .bool a.g, .int .u64 a.a, .bool b.tg, .int .i64 b.pe, .int .i64 b.ty, .int .i64 b.mo, .int .i64 b.e, .int .i64 b.b, .int .i64 b.t, .bool b.g, .int .u64 b.a, .bool c.tg, .int .i64 c.pe, .int .i64 c.ty, .int .i64 c.mo, .int .i64 c.e, .int .i64 c.b, .int .i64 c.t, .bool c.g, .int .u64 c.a] := by simp [vsL, Cp.vs, h0]
  have hr0 : ∀ w1 : World, Rd (w1.alloc (.cells #[.bool true, .int .i64 a.pe, .int .i64 a.ty, .int .i64 a.mo, .int .i64 a.e, .int .i64 a.b, .int .i64 a.t, .bool a.g, .int .u64 a.a, .bool b.tg, .int .i64 b.pe, .int .i64 b.ty, .int .i64 b.mo, .int .i64 b.e, .int .i64 b.b, .int .i64 b.t, .bool b.g, .int .u64 b.a, .bool c.tg, .int .i64 c.pe, .int .i64 c.ty, .int .i64 c.mo, .int .i64 c.e, .int .i64 c.b, .int .i64 c.t, .bool c.g, .int .u64 c.a] 25)) (w1.alloc (.cells #[.bool true, .int .i64 a.pe, .int .i64 a.ty, .int .i64 a.mo, .int .i64 a.e, .int .i64 a.b, .int .i64 a.t, .bool a.g, .int .u64 a.a, .bool b.tg, .int .i64 b.pe, .int .i64 b.ty, .int .i64 b.mo, .int .i64 b.e, .int .i64 b.b, .int .i64 b.t, .bool b.g, .int .u64 b.a, .bool c.tg, .int .i64 c.pe, .int .i64 c.ty, .int .i64 c.mo, .int .i64 c.e, .int .i64 c.b, .int .i64 c.t, .bool c.g, .int .u64 c.a] 25)).heap.size (some ⟨w1.heap.size, 0, none⟩) [a, b, c] := fun w1 => by have := rd_new [a, b, c] w1; rw [ev] at this; exact this
  have HR0 := Lib.hid hr0
  obtain ⟨mv, hmv⟩ : ∃ mv, moveT a.tg a.ty a.e a.b a.t a.g a.a at' = mv := ⟨_, rfl⟩
  have LMV : Hid (∀ w1 : World, Calls Try.prog 26 #[.agg #[.bool true, .int .i64 a.pe, .int .i64 a.ty, .int .i64 a.mo, .int .i64 a.e, .int .i64 a.b, .int .i64 a.t, .bool a.g, .int .u64 a.a], .int .u64 at'] w1 fun e' w' => e' = .returned (.agg #[.bool mv, .int .i64 a.pe, .int .i64 a.ty, .int .i64 a.mo, .int .i64 a.e, .int .i64 a.b, .int .i64 a.t, .bool a.g, .int .u64 at']) ∧ Kp w1 w') := Lib.hid (fun w1 => by have := move_w a.tg a.pe a.ty a.mo a.e a.b a.t a.g a.a at' ha.f a0 a1 mv hmv w1; rw [h0] at this; exact this)
  have HPE := less_per h2
  have LMB : Hid (mv = true → ∀ w1 : World, Calls Try.prog 16 #[.agg #[.bool true, .int .i64 a.pe, .int .i64 a.ty, .int .i64 a.mo, .int .i64 a.e, .int .i64 a.b, .int .i64 a.t, .bool a.g, .int .u64 at'], .agg #[.bool b.tg, .int .i64 b.pe, .int .i64 b.ty, .int .i64 b.mo, .int .i64 b.e, .int .i64 b.b, .int .i64 b.t, .bool b.g, .int .u64 b.a]] w1 fun e' w' => e' = .returned (.bool true) ∧ Kp w1 w') := Lib.hid (fun e w1 => less_o (mvC a at' true) b (ha.mv a0 a1 true) hb true (less_move h2 (by rw [hmv]; exact e)) w1)
  have A3 : At (w.heap.size) [.bool true, .int .i64 a.pe, .int .i64 a.ty, .int .i64 a.mo, .int .i64 a.e, .int .i64 a.b, .int .i64 a.t, .bool a.g, .int .u64 a.a] (((w.alloc (.cells #[.bool true, .int .i64 a.pe, .int .i64 a.ty, .int .i64 a.mo, .int .i64 a.e, .int .i64 a.b, .int .i64 a.t, .bool a.g, .int .u64 a.a] 25)).alloc (.cells #[.bool b.tg, .int .i64 b.pe, .int .i64 b.ty, .int .i64 b.mo, .int .i64 b.e, .int .i64 b.b, .int .i64 b.t, .bool b.g, .int .u64 b.a] 25)).alloc (.cells #[.bool c.tg, .int .i64 c.pe, .int .i64 c.ty, .int .i64 c.mo, .int .i64 c.e, .int .i64 c.b, .int .i64 c.t, .bool c.g, .int .u64 c.a] 25)) := ((At.new w [.bool true, .int .i64 a.pe, .int .i64 a.ty, .int .i64 a.mo, .int .i64 a.e, .int .i64 a.b, .int .i64 a.t, .bool a.g, .int .u64 a.a] 25).alloc _).alloc _
  have B3 : At (w.heap.size + 1) [.bool b.tg, .int .i64 b.pe, .int .i64 b.ty, .int .i64 b.mo, .int .i64 b.e, .int .i64 b.b, .int .i64 b.t, .bool b.g, .int .u64 b.a] (((w.alloc (.cells #[.bool true, .int .i64 a.pe, .int .i64 a.ty, .int .i64 a.mo, .int .i64 a.e, .int .i64 a.b, .int .i64 a.t, .bool a.g, .int .u64 a.a] 25)).alloc (.cells #[.bool b.tg, .int .i64 b.pe, .int .i64 b.ty, .int .i64 b.mo, .int .i64 b.e, .int .i64 b.b, .int .i64 b.t, .bool b.g, .int .u64 b.a] 25)).alloc (.cells #[.bool c.tg, .int .i64 c.pe, .int .i64 c.ty, .int .i64 c.mo, .int .i64 c.e, .int .i64 c.b, .int .i64 c.t, .bool c.g, .int .u64 c.a] 25)) := (At.new' (w.alloc (.cells #[.bool true, .int .i64 a.pe, .int .i64 a.ty, .int .i64 a.mo, .int .i64 a.e, .int .i64 a.b, .int .i64 a.t, .bool a.g, .int .u64 a.a] 25)) [.bool b.tg, .int .i64 b.pe, .int .i64 b.ty, .int .i64 b.mo, .int .i64 b.e, .int .i64 b.b, .int .i64 b.t, .bool b.g, .int .u64 b.a] 25 (by simp)).alloc _
  have C3 : At (w.heap.size + 1 + 1) [.bool c.tg, .int .i64 c.pe, .int .i64 c.ty, .int .i64 c.mo, .int .i64 c.e, .int .i64 c.b, .int .i64 c.t, .bool c.g, .int .u64 c.a] (((w.alloc (.cells #[.bool true, .int .i64 a.pe, .int .i64 a.ty, .int .i64 a.mo, .int .i64 a.e, .int .i64 a.b, .int .i64 a.t, .bool a.g, .int .u64 a.a] 25)).alloc (.cells #[.bool b.tg, .int .i64 b.pe, .int .i64 b.ty, .int .i64 b.mo, .int .i64 b.e, .int .i64 b.b, .int .i64 b.t, .bool b.g, .int .u64 b.a] 25)).alloc (.cells #[.bool c.tg, .int .i64 c.pe, .int .i64 c.ty, .int .i64 c.mo, .int .i64 c.e, .int .i64 c.b, .int .i64 c.t, .bool c.g, .int .u64 c.a] 25)) := At.new' ((w.alloc (.cells #[.bool true, .int .i64 a.pe, .int .i64 a.ty, .int .i64 a.mo, .int .i64 a.e, .int .i64 a.b, .int .i64 a.t, .bool a.g, .int .u64 a.a] 25)).alloc (.cells #[.bool b.tg, .int .i64 b.pe, .int .i64 b.ty, .int .i64 b.mo, .int .i64 b.e, .int .i64 b.b, .int .i64 b.t, .bool b.g, .int .u64 b.a] 25)) [.bool c.tg, .int .i64 c.pe, .int .i64 c.ty, .int .i64 c.mo, .int .i64 c.e, .int .i64 c.b, .int .i64 c.t, .bool c.g, .int .u64 c.a] 25 (by simp)
  have L3 : Bl w (w.heap.size + 1 + 1 + 1) (((w.alloc (.cells #[.bool true, .int .i64 a.pe, .int .i64 a.ty, .int .i64 a.mo, .int .i64 a.e, .int .i64 a.b, .int .i64 a.t, .bool a.g, .int .u64 a.a] 25)).alloc (.cells #[.bool b.tg, .int .i64 b.pe, .int .i64 b.ty, .int .i64 b.mo, .int .i64 b.e, .int .i64 b.b, .int .i64 b.t, .bool b.g, .int .u64 b.a] 25)).alloc (.cells #[.bool c.tg, .int .i64 c.pe, .int .i64 c.ty, .int .i64 c.mo, .int .i64 c.e, .int .i64 c.b, .int .i64 c.t, .bool c.g, .int .u64 c.a] 25)) := ⟨(((Below.refl _ _).alloc (Nat.le_refl _) _).alloc (by simp) _).alloc (by simp; omega) _, by omega, by simp⟩
  clear eaa eab ra rb rc hr hr0 ev
  go_enter Try.func6, Try.ntmps6
  go_upto_region 1 with fail
  generalize hw0 : (((w.alloc (.cells #[.bool true, .int .i64 a.pe, .int .i64 a.ty, .int .i64 a.mo, .int .i64 a.e, .int .i64 a.b, .int .i64 a.t, .bool a.g, .int .u64 a.a] 25)).alloc (.cells #[.bool b.tg, .int .i64 b.pe, .int .i64 b.ty, .int .i64 b.mo, .int .i64 b.e, .int .i64 b.b, .int .i64 b.t, .bool b.g, .int .u64 b.a] 25)).alloc (.cells #[.bool c.tg, .int .i64 c.pe, .int .i64 c.ty, .int .i64 c.mo, .int .i64 c.e, .int .i64 c.b, .int .i64 c.t, .bool c.g, .int .u64 c.a] 25)) = w0 at A3 B3 C3 L3 ⊢
  clear hw0
  have le0 := L3.le
  obtain ⟨_, _, _, _, _, _, _, _, _⟩ := A3.out9
  obtain ⟨_, _, _, _, _, _, _, _, _⟩ := B3.out9
  obtain ⟨_, _, _, _, _, _, _, _, _⟩ := C3.out9
  have HA3 := Lib.hid A3
  have HB3 := Lib.hid B3
  have HC3 := Lib.hid C3
  have HL3 := Lib.hid L3
  clear A3 B3 C3 L3
  go_upto_region 3 with (go_at_call 9; (with_reducible refine (HRT.out _ _ _ (HR0.out w0)).mono ?_); rintro e' w1 ⟨rfl, qk⟩; have A4 : At (w.heap.size) [.bool true, .int .i64 a.pe, .int .i64 a.ty, .int .i64 a.mo, .int .i64 a.e, .int .i64 a.b, .int .i64 a.t, .bool a.g, .int .u64 a.a] w1 := (HA3.out.alloc _).kp qk (by simp; omega); have B4 : At (w.heap.size + 1) [.bool b.tg, .int .i64 b.pe, .int .i64 b.ty, .int .i64 b.mo, .int .i64 b.e, .int .i64 b.b, .int .i64 b.t, .bool b.g, .int .u64 b.a] w1 := (HB3.out.alloc _).kp qk (by simp; omega); have C4 : At (w.heap.size + 1 + 1) [.bool c.tg, .int .i64 c.pe, .int .i64 c.ty, .int .i64 c.mo, .int .i64 c.e, .int .i64 c.b, .int .i64 c.t, .bool c.g, .int .u64 c.a] w1 := (HC3.out.alloc _).kp qk (by simp; omega); have L4 : Bl w (w.heap.size + 1 + 1 + 1) w1 := (HL3.out.alloc _).step qk.1; clear qk)
  refine wp_region_held_drew (S := (fun w' => At (w.heap.size) [.bool true, .int .i64 a.pe, .int .i64 a.ty, .int .i64 a.mo, .int .i64 a.e, .int .i64 a.b, .int .i64 a.t, .bool a.g, .int .u64 a.a] w' ∧ At (w.heap.size + 1) [.bool b.tg, .int .i64 b.pe, .int .i64 b.ty, .int .i64 b.mo, .int .i64 b.e, .int .i64 b.b, .int .i64 b.t, .bool b.g, .int .u64 b.a] w' ∧ At (w.heap.size + 1 + 1) [.bool c.tg, .int .i64 c.pe, .int .i64 c.ty, .int .i64 c.mo, .int .i64 c.e, .int .i64 c.b, .int .i64 c.t, .bool c.g, .int .u64 c.a] w' ∧ Bl w (w.heap.size + 1 + 1 + 1) w')) (by kernel_rfl) ⟨At.drew (by with_reducible assumption), At.drew (by with_reducible assumption), At.drew (by with_reducible assumption), Bl.drew (by with_reducible assumption)⟩ (fun hS => ?_)
  generalize hgw : w1.drew = g0 at hS ⊢
  clear hgw
  try simp only [Act.put, List.setIfInBounds_toArray, List.set_cons_zero, List.set_cons_succ]
  (refine wpAnyH_take (i := 0) (oi := { dst := some 17, op := Op.load 25 (Operand.tmp 4), type := 25, pos := "outright.go:72", after := #[], guard := none }) (v := ?_) rfl (by kernel_rfl) (by kernel_rfl) (by kernel_rfl) (fun _ _ _ h => h) (Or.inl ⟨by rfl, ?_⟩) hS ?_; rotate_left; focus (intro w' hSw; obtain ⟨s0, s1, s2, sb⟩ := hSw; obtain ⟨_, _, _, _, _, _, _, _, _⟩ := s0.out9; obtain ⟨_, _, _, _, _, _, _, _, _⟩ := s1.out9; obtain ⟨_, _, _, _, _, _, _, _, _⟩ := s2.out9; go_simp <;> try with_reducible rfl))
  try simp only [Act.put, List.setIfInBounds_toArray, List.set_cons_zero, List.set_cons_succ]
  (refine wpAnyH_take (i := 1) (oi := { dst := some 18, op := Op.load 25 (Operand.tmp 4), type := 25, pos := "outright.go:72", after := #[], guard := none }) (v := ?_) rfl (by kernel_rfl) (by kernel_rfl) (by kernel_rfl) (fun _ _ _ h => h) (Or.inl ⟨by rfl, ?_⟩) hS ?_; rotate_left; focus (intro w' hSw; obtain ⟨s0, s1, s2, sb⟩ := hSw; obtain ⟨_, _, _, _, _, _, _, _, _⟩ := s0.out9; obtain ⟨_, _, _, _, _, _, _, _, _⟩ := s1.out9; obtain ⟨_, _, _, _, _, _, _, _, _⟩ := s2.out9; go_simp <;> try with_reducible rfl))
  try simp only [Act.put, List.setIfInBounds_toArray, List.set_cons_zero, List.set_cons_succ]
  (refine wpAnyH_take (i := 3) (oi := { dst := some 20, op := Op.fieldAddr 25 (Operand.tmp 4) 0, type := 0, pos := "outright.go:72", after := #[], guard := none }) (v := ?_) rfl (by kernel_rfl) (by kernel_rfl) (by kernel_rfl) (fun _ _ _ h => h) (Or.inl ⟨by rfl, ?_⟩) hS ?_; rotate_left; focus (intro w' hSw; obtain ⟨s0, s1, s2, sb⟩ := hSw; go_simp <;> try with_reducible rfl))
  try simp only [Act.put, List.setIfInBounds_toArray, List.set_cons_zero, List.set_cons_succ]
  (refine wpAnyH_take (i := 4) (oi := { dst := some 21, op := Op.load 4 (Operand.tmp 20), type := 4, pos := "outright.go:72", after := #[{ on := 3, ground := Ground.data }], guard := none }) (v := ?_) rfl (by kernel_rfl) (by kernel_rfl) (by kernel_rfl) (fun _ _ _ h => h) (Or.inl ⟨by rfl, ?_⟩) hS ?_; rotate_left; focus (intro w' hSw; obtain ⟨s0, s1, s2, sb⟩ := hSw; obtain ⟨_, _, _, _, _, _, _, _, _⟩ := s0.out9; obtain ⟨_, _, _, _, _, _, _, _, _⟩ := s1.out9; obtain ⟨_, _, _, _, _, _, _, _, _⟩ := s2.out9; go_simp <;> try with_reducible rfl))
  try simp only [Act.put, List.setIfInBounds_toArray, List.set_cons_zero, List.set_cons_succ]
  refine wpAnyH_ready (rs := [2]) (by kernel_rfl) (by simp) ?_
  refine AllReadyH.cons (o := { dst := some 19, op := Op.call { callee := Callee.value (Operand.func 16), args := #[Operand.tmp 17, Operand.tmp 18], argTypes := #[25, 25] }, type := 4, pos := "outright.go:72", after := #[{ on := 0, ground := Ground.data }, { on := 1, ground := Ground.data }], guard := none }) rfl (fun K hK => ?_) AllReadyH.nil
  refine take_if (by rfl) ?_
  obtain ⟨s0, s1, s2, sb⟩ := hS
  go_simp
  (with_reducible refine (LAA.out _).mono ?_)
  rintro e' g2 ⟨rfl, hb⟩
  have t0 := sb.at_ hb s0 (show w.heap.size < w.heap.size + 1 + 1 + 1 by omega)
  have t1 := sb.at_ hb s1 (show w.heap.size + 1 < w.heap.size + 1 + 1 + 1 by omega)
  have t2 := sb.at_ hb s2 (show w.heap.size + 1 + 1 < w.heap.size + 1 + 1 + 1 by omega)
  refine hK.out _ _ ⟨t0, t1, t2, (sb.step hb)⟩ (fun hS => ?_)
  clear hK K hb s0 t0 s1 t1 s2 t2 sb
  try simp only [Act.put, List.setIfInBounds_toArray, List.set_cons_zero, List.set_cons_succ]
  (refine wpAnyH_take (i := 5) (oi := { dst := some 22, op := Op.move (Operand.tmp 21), type := 4, pos := "outright.go:72", after := #[{ on := 4, ground := Ground.data }, { on := 2, ground := Ground.chain }], guard := none }) (v := ?_) rfl (by kernel_rfl) (by kernel_rfl) (by kernel_rfl) (fun _ _ _ h => h) (Or.inl ⟨by rfl, ?_⟩) hS ?_; rotate_left; focus (intro w' hSw; obtain ⟨s0, s1, s2, sb⟩ := hSw; go_simp <;> try with_reducible rfl))
  try simp only [Act.put, List.setIfInBounds_toArray, List.set_cons_zero, List.set_cons_succ]
  (refine wpAnyH_take (i := 6) (oi := { dst := some 23, op := Op.load 25 (Operand.tmp 4), type := 25, pos := "outright.go:72", after := #[{ on := 5, ground := Ground.guard }], guard := some (5, true) }) (v := ?_) rfl (by kernel_rfl) (by kernel_rfl) (by kernel_rfl) (fun _ _ _ h => h) (Or.inl ⟨by rfl, ?_⟩) hS ?_; rotate_left; focus (intro w' hSw; obtain ⟨s0, s1, s2, sb⟩ := hSw; obtain ⟨_, _, _, _, _, _, _, _, _⟩ := s0.out9; obtain ⟨_, _, _, _, _, _, _, _, _⟩ := s1.out9; obtain ⟨_, _, _, _, _, _, _, _, _⟩ := s2.out9; go_simp <;> try with_reducible rfl))
  try simp only [Act.put, List.setIfInBounds_toArray, List.set_cons_zero, List.set_cons_succ]
  refine wpAnyH_ready (rs := [7]) (by kernel_rfl) (by simp) ?_
  refine AllReadyH.cons (o := { dst := some 24, op := Op.call { callee := Callee.value (Operand.func 25), args := #[Operand.tmp 23], argTypes := #[25] }, type := 4, pos := "outright.go:72", after := #[{ on := 6, ground := Ground.data }, { on := 5, ground := Ground.chain }, { on := 5, ground := Ground.guard }], guard := some (5, true) }) rfl (fun K hK => ?_) AllReadyH.nil
  refine take_if (by rfl) ?_
  obtain ⟨s0, s1, s2, sb⟩ := hS
  go_simp
  (with_reducible refine (LSE.out _).mono ?_)
  rintro e' g7 ⟨rfl, hb⟩
  have t0 := sb.at_ hb s0 (show w.heap.size < w.heap.size + 1 + 1 + 1 by omega)
  have t1 := sb.at_ hb s1 (show w.heap.size + 1 < w.heap.size + 1 + 1 + 1 by omega)
  have t2 := sb.at_ hb s2 (show w.heap.size + 1 + 1 < w.heap.size + 1 + 1 + 1 by omega)
  refine hK.out _ _ ⟨t0, t1, t2, (sb.step hb)⟩ (fun hS => ?_)
  clear hK K hb s0 t0 s1 t1 s2 t2 sb
  try simp only [Act.put, List.setIfInBounds_toArray, List.set_cons_zero, List.set_cons_succ]
  (refine wpAnyH_take (i := 8) (oi := { dst := some 25, op := Op.unOp UnOp.not 4 (Operand.tmp 24), type := 4, pos := "outright.go:72", after := #[{ on := 7, ground := Ground.data }, { on := 5, ground := Ground.guard }], guard := some (5, true) }) (v := ?_) rfl (by kernel_rfl) (by kernel_rfl) (by kernel_rfl) (fun _ _ _ h => h) (Or.inl ⟨by rfl, ?_⟩) hS ?_; rotate_left; focus (intro w' hSw; obtain ⟨s0, s1, s2, sb⟩ := hSw; go_simp <;> try with_reducible rfl))
  try simp only [Act.put, List.setIfInBounds_toArray, List.set_cons_zero, List.set_cons_succ]
  (refine wpAnyH_take (i := 9) (oi := { dst := some 26, op := Op.pick (Operand.tmp 22) (Operand.tmp 25) (Operand.const (Value.bool false)), type := 4, pos := "outright.go:72", after := #[{ on := 5, ground := Ground.data }, { on := 8, ground := Ground.data }], guard := none }) (v := ?_) rfl (by kernel_rfl) (by kernel_rfl) (by kernel_rfl) (fun _ _ _ h => h) (Or.inl ⟨by rfl, ?_⟩) hS ?_; rotate_left; focus (intro w' hSw; obtain ⟨s0, s1, s2, sb⟩ := hSw; go_simp <;> try with_reducible rfl))
  try simp only [Act.put, List.setIfInBounds_toArray, List.set_cons_zero, List.set_cons_succ]
  (refine wpAnyH_take (i := 10) (oi := { dst := some 27, op := Op.binOp BinOp.neq 4 (Operand.tmp 19) (Operand.tmp 26) 4, type := 4, pos := "outright.go:72", after := #[{ on := 2, ground := Ground.data }, { on := 9, ground := Ground.data }], guard := none }) (v := ?_) rfl (by kernel_rfl) (by kernel_rfl) (by kernel_rfl) (fun _ _ _ h => h) (Or.inl ⟨by rfl, ?_⟩) hS ?_; rotate_left; focus (intro w' hSw; obtain ⟨s0, s1, s2, sb⟩ := hSw; go_simp <;> try with_reducible rfl))
  try simp only [Act.put, List.setIfInBounds_toArray, List.set_cons_zero, List.set_cons_succ]
  (refine wpAnyH_take (i := 11) (oi := { dst := some 28, op := Op.move (Operand.tmp 27), type := 4, pos := "outright.go:72", after := #[{ on := 10, ground := Ground.data }, { on := 7, ground := Ground.chain }], guard := none }) (v := ?_) rfl (by kernel_rfl) (by kernel_rfl) (by kernel_rfl) (fun _ _ _ h => h) (Or.inl ⟨by rfl, ?_⟩) hS ?_; rotate_left; focus (intro w' hSw; obtain ⟨s0, s1, s2, sb⟩ := hSw; go_simp <;> try with_reducible rfl))
  try simp only [Act.put, List.setIfInBounds_toArray, List.set_cons_zero, List.set_cons_succ]
  (refine wpAnyH_take (i := 12) (oi := { dst := some 29, op := Op.load 25 (Operand.tmp 4), type := 25, pos := "outright.go:72", after := #[{ on := 11, ground := Ground.guard }], guard := some (11, false) }) (v := ?_) rfl (by kernel_rfl) (by kernel_rfl) (by kernel_rfl) (fun _ _ _ h => h) (Or.inl ⟨by rfl, ?_⟩) hS ?_; rotate_left; focus (intro w' hSw; obtain ⟨s0, s1, s2, sb⟩ := hSw; obtain ⟨_, _, _, _, _, _, _, _, _⟩ := s0.out9; obtain ⟨_, _, _, _, _, _, _, _, _⟩ := s1.out9; obtain ⟨_, _, _, _, _, _, _, _, _⟩ := s2.out9; go_simp <;> try with_reducible rfl))
  try simp only [Act.put, List.setIfInBounds_toArray, List.set_cons_zero, List.set_cons_succ]
  (refine wpAnyH_take (i := 13) (oi := { dst := some 30, op := Op.load 25 (Operand.tmp 5), type := 25, pos := "outright.go:72", after := #[{ on := 11, ground := Ground.guard }], guard := some (11, false) }) (v := ?_) rfl (by kernel_rfl) (by kernel_rfl) (by kernel_rfl) (fun _ _ _ h => h) (Or.inl ⟨by rfl, ?_⟩) hS ?_; rotate_left; focus (intro w' hSw; obtain ⟨s0, s1, s2, sb⟩ := hSw; obtain ⟨_, _, _, _, _, _, _, _, _⟩ := s0.out9; obtain ⟨_, _, _, _, _, _, _, _, _⟩ := s1.out9; obtain ⟨_, _, _, _, _, _, _, _, _⟩ := s2.out9; go_simp <;> try with_reducible rfl))
  try simp only [Act.put, List.setIfInBounds_toArray, List.set_cons_zero, List.set_cons_succ]
  refine wpAnyH_ready (rs := [14]) (by kernel_rfl) (by simp) ?_
  refine AllReadyH.cons (o := { dst := some 31, op := Op.call { callee := Callee.value (Operand.func 16), args := #[Operand.tmp 29, Operand.tmp 30], argTypes := #[25, 25] }, type := 4, pos := "outright.go:72", after := #[{ on := 12, ground := Ground.data }, { on := 13, ground := Ground.data }, { on := 11, ground := Ground.chain }, { on := 11, ground := Ground.guard }], guard := some (11, false) }) rfl (fun K hK => ?_) AllReadyH.nil
  refine take_if (by rfl) ?_
  obtain ⟨s0, s1, s2, sb⟩ := hS
  go_simp
  (with_reducible refine (LAB.out _).mono ?_)
  rintro e' g14 ⟨rfl, hb⟩
  have t0 := sb.at_ hb s0 (show w.heap.size < w.heap.size + 1 + 1 + 1 by omega)
  have t1 := sb.at_ hb s1 (show w.heap.size + 1 < w.heap.size + 1 + 1 + 1 by omega)
  have t2 := sb.at_ hb s2 (show w.heap.size + 1 + 1 < w.heap.size + 1 + 1 + 1 by omega)
  refine hK.out _ _ ⟨t0, t1, t2, (sb.step hb)⟩ (fun hS => ?_)
  clear hK K hb s0 t0 s1 t1 s2 t2 sb
  try simp only [Act.put, List.setIfInBounds_toArray, List.set_cons_zero, List.set_cons_succ]
  (refine wpAnyH_take (i := 15) (oi := { dst := some 32, op := Op.move (Operand.tmp 31), type := 4, pos := "outright.go:72", after := #[{ on := 14, ground := Ground.data }, { on := 14, ground := Ground.chain }, { on := 11, ground := Ground.guard }], guard := some (11, false) }) (v := ?_) rfl (by kernel_rfl) (by kernel_rfl) (by kernel_rfl) (fun _ _ _ h => h) (Or.inl ⟨by rfl, ?_⟩) hS ?_; rotate_left; focus (intro w' hSw; obtain ⟨s0, s1, s2, sb⟩ := hSw; go_simp <;> try with_reducible rfl))
  try simp only [Act.put, List.setIfInBounds_toArray, List.set_cons_zero, List.set_cons_succ]
  (refine wpAnyH_take (i := 16) (oi := { dst := some 33, op := Op.load 25 (Operand.tmp 5), type := 25, pos := "outright.go:72", after := #[{ on := 15, ground := Ground.guard }], guard := some (15, true) }) (v := ?_) rfl (by kernel_rfl) (by kernel_rfl) (by kernel_rfl) (fun _ _ _ h => h) (Or.inl ⟨by rfl, ?_⟩) hS ?_; rotate_left; focus (intro w' hSw; obtain ⟨s0, s1, s2, sb⟩ := hSw; obtain ⟨_, _, _, _, _, _, _, _, _⟩ := s0.out9; obtain ⟨_, _, _, _, _, _, _, _, _⟩ := s1.out9; obtain ⟨_, _, _, _, _, _, _, _, _⟩ := s2.out9; go_simp <;> try with_reducible rfl))
  try simp only [Act.put, List.setIfInBounds_toArray, List.set_cons_zero, List.set_cons_succ]
  (refine wpAnyH_take (i := 17) (oi := { dst := some 34, op := Op.load 25 (Operand.tmp 6), type := 25, pos := "outright.go:72", after := #[{ on := 15, ground := Ground.guard }], guard := some (15, true) }) (v := ?_) rfl (by kernel_rfl) (by kernel_rfl) (by kernel_rfl) (fun _ _ _ h => h) (Or.inl ⟨by rfl, ?_⟩) hS ?_; rotate_left; focus (intro w' hSw; obtain ⟨s0, s1, s2, sb⟩ := hSw; obtain ⟨_, _, _, _, _, _, _, _, _⟩ := s0.out9; obtain ⟨_, _, _, _, _, _, _, _, _⟩ := s1.out9; obtain ⟨_, _, _, _, _, _, _, _, _⟩ := s2.out9; go_simp <;> try with_reducible rfl))
  try simp only [Act.put, List.setIfInBounds_toArray, List.set_cons_zero, List.set_cons_succ]
  refine wpAnyH_ready (rs := [18]) (by kernel_rfl) (by simp) ?_
  refine AllReadyH.cons (o := { dst := some 35, op := Op.call { callee := Callee.value (Operand.func 16), args := #[Operand.tmp 33, Operand.tmp 34], argTypes := #[25, 25] }, type := 4, pos := "outright.go:72", after := #[{ on := 16, ground := Ground.data }, { on := 17, ground := Ground.data }, { on := 15, ground := Ground.chain }, { on := 15, ground := Ground.guard }], guard := some (15, true) }) rfl (fun K hK => ?_) AllReadyH.nil
  refine take_if (by rfl) ?_
  obtain ⟨s0, s1, s2, sb⟩ := hS
  go_simp
  (with_reducible refine (LBC.out _).mono ?_)
  rintro e' g18 ⟨rfl, hb⟩
  have t0 := sb.at_ hb s0 (show w.heap.size < w.heap.size + 1 + 1 + 1 by omega)
  have t1 := sb.at_ hb s1 (show w.heap.size + 1 < w.heap.size + 1 + 1 + 1 by omega)
  have t2 := sb.at_ hb s2 (show w.heap.size + 1 + 1 < w.heap.size + 1 + 1 + 1 by omega)
  refine hK.out _ _ ⟨t0, t1, t2, (sb.step hb)⟩ (fun hS => ?_)
  clear hK K hb s0 t0 s1 t1 s2 t2 sb
  try simp only [Act.put, List.setIfInBounds_toArray, List.set_cons_zero, List.set_cons_succ]
  (refine wpAnyH_take (i := 19) (oi := { dst := some 36, op := Op.pick (Operand.tmp 32) (Operand.tmp 35) (Operand.const (Value.bool false)), type := 4, pos := "outright.go:72", after := #[{ on := 15, ground := Ground.data }, { on := 18, ground := Ground.data }, { on := 11, ground := Ground.guard }], guard := some (11, false) }) (v := ?_) rfl (by kernel_rfl) (by kernel_rfl) (by kernel_rfl) (fun _ _ _ h => h) (Or.inl ⟨by rfl, ?_⟩) hS ?_; rotate_left; focus (intro w' hSw; obtain ⟨s0, s1, s2, sb⟩ := hSw; go_simp <;> try with_reducible rfl))
  try simp only [Act.put, List.setIfInBounds_toArray, List.set_cons_zero, List.set_cons_succ]
  (refine wpAnyH_take (i := 20) (oi := { dst := some 37, op := Op.move (Operand.tmp 36), type := 4, pos := "outright.go:72", after := #[{ on := 19, ground := Ground.data }, { on := 18, ground := Ground.chain }, { on := 11, ground := Ground.guard }], guard := some (11, false) }) (v := ?_) rfl (by kernel_rfl) (by kernel_rfl) (by kernel_rfl) (fun _ _ _ h => h) (Or.inl ⟨by rfl, ?_⟩) hS ?_; rotate_left; focus (intro w' hSw; obtain ⟨s0, s1, s2, sb⟩ := hSw; go_simp <;> try with_reducible rfl))
  try simp only [Act.put, List.setIfInBounds_toArray, List.set_cons_zero, List.set_cons_succ]
  (refine wpAnyH_take (i := 21) (oi := { dst := some 38, op := Op.load 25 (Operand.tmp 4), type := 25, pos := "outright.go:72", after := #[{ on := 20, ground := Ground.guard }], guard := some (20, true) }) (v := undef) rfl (by kernel_rfl) (by kernel_rfl) (by kernel_rfl) (fun _ _ _ h => h) (Or.inr ⟨by rfl, rfl⟩) hS ?_)
  try simp only [Act.put, List.setIfInBounds_toArray, List.set_cons_zero, List.set_cons_succ]
  (refine wpAnyH_take (i := 22) (oi := { dst := some 39, op := Op.load 25 (Operand.tmp 6), type := 25, pos := "outright.go:72", after := #[{ on := 20, ground := Ground.guard }], guard := some (20, true) }) (v := undef) rfl (by kernel_rfl) (by kernel_rfl) (by kernel_rfl) (fun _ _ _ h => h) (Or.inr ⟨by rfl, rfl⟩) hS ?_)
  try simp only [Act.put, List.setIfInBounds_toArray, List.set_cons_zero, List.set_cons_succ]
  refine wpAnyH_ready (rs := [23]) (by kernel_rfl) (by simp) ?_
  refine AllReadyH.cons (o := { dst := some 40, op := Op.call { callee := Callee.value (Operand.func 16), args := #[Operand.tmp 38, Operand.tmp 39], argTypes := #[25, 25] }, type := 4, pos := "outright.go:72", after := #[{ on := 21, ground := Ground.data }, { on := 22, ground := Ground.data }, { on := 20, ground := Ground.chain }, { on := 20, ground := Ground.guard }], guard := some (20, true) }) rfl (fun K hK => ?_) AllReadyH.nil
  refine skip_if (by rfl) ?_
  refine hK.out _ _ hS (fun hS => ?_)
  clear hK K
  try simp only [Act.put, List.setIfInBounds_toArray, List.set_cons_zero, List.set_cons_succ]
  (refine wpAnyH_take (i := 24) (oi := { dst := some 41, op := Op.unOp UnOp.not 4 (Operand.tmp 40), type := 4, pos := "outright.go:72", after := #[{ on := 23, ground := Ground.data }, { on := 20, ground := Ground.guard }], guard := some (20, true) }) (v := undef) rfl (by kernel_rfl) (by kernel_rfl) (by kernel_rfl) (fun _ _ _ h => h) (Or.inr ⟨by rfl, rfl⟩) hS ?_)
  try simp only [Act.put, List.setIfInBounds_toArray, List.set_cons_zero, List.set_cons_succ]
  (refine wpAnyH_take (i := 25) (oi := { dst := some 42, op := Op.pick (Operand.tmp 37) (Operand.tmp 41) (Operand.const (Value.bool false)), type := 4, pos := "outright.go:72", after := #[{ on := 20, ground := Ground.data }, { on := 24, ground := Ground.data }, { on := 11, ground := Ground.guard }], guard := some (11, false) }) (v := ?_) rfl (by kernel_rfl) (by kernel_rfl) (by kernel_rfl) (fun _ _ _ h => h) (Or.inl ⟨by rfl, ?_⟩) hS ?_; rotate_left; focus (intro w' hSw; obtain ⟨s0, s1, s2, sb⟩ := hSw; go_simp <;> try with_reducible rfl))
  try simp only [Act.put, List.setIfInBounds_toArray, List.set_cons_zero, List.set_cons_succ]
  (refine wpAnyH_take (i := 26) (oi := { dst := some 43, op := Op.pick (Operand.tmp 28) (Operand.const (Value.bool true)) (Operand.tmp 42), type := 4, pos := "outright.go:72", after := #[{ on := 11, ground := Ground.data }, { on := 25, ground := Ground.data }], guard := none }) (v := ?_) rfl (by kernel_rfl) (by kernel_rfl) (by kernel_rfl) (fun _ _ _ h => h) (Or.inl ⟨by rfl, ?_⟩) hS ?_; rotate_left; focus (intro w' hSw; obtain ⟨s0, s1, s2, sb⟩ := hSw; go_simp <;> try with_reducible rfl))
  try simp only [Act.put, List.setIfInBounds_toArray, List.set_cons_zero, List.set_cons_succ]
  refine wpAnyH_done (by kernel_rfl) ?_ _
  obtain ⟨s0, s1, s2, sb⟩ := hS
  obtain ⟨_, _, _, _, _, _, _, _, _⟩ := s0.out9
  obtain ⟨_, _, _, _, _, _, _, _, _⟩ := s1.out9
  obtain ⟨_, _, _, _, _, _, _, _, _⟩ := s2.out9
  have le5 := sb.le
  clear hmv
  cases mv
  · go_wp2_with (first
      | (go_at_call 16; (with_reducible refine (LAB.out _).mono ?_); rintro e' w5 ⟨rfl, hq⟩; have A5 := sb.at_ hq s0 (show w.heap.size < _ by omega); have B5 := sb.at_ hq s1 (show w.heap.size + 1 < _ by omega); have L5 := sb.step hq; obtain ⟨_, _, _, _, _, _, _, _, _⟩ := A5.out9; obtain ⟨_, _, _, _, _, _, _, _, _⟩ := B5.out9; have HA5 := Lib.hid A5; have HB5 := Lib.hid B5; have HLX := Lib.hid L5; have le6 := L5.le; clear hq A5 B5 L5)
      | (go_at_call 26; (with_reducible refine (LMV.out _).mono ?_); rintro e' w6 ⟨rfl, qk⟩; have A6 := HA5.out.kp qk (by omega); have B6 := HB5.out.kp qk (by omega); have L6 := HLX.out.step qk.1; obtain ⟨_, _, _, _, _, _, _, _, _⟩ := A6.out9; obtain ⟨_, _, _, _, _, _, _, _, _⟩ := B6.out9; have HB6 := Lib.hid B6; have le7 : w5.heap.size ≤ w6.heap.size := qk.size; have z0 : w.heap.size < w6.heap.size := (by omega); have z1 : w.heap.size + 1 < w6.heap.size := (by omega); have HL6 := Lib.hid L6; clear qk A6 B6 L6)
      | (go_at_call 11; (with_reducible refine (works_w _).mono ?_); rintro e' wz ⟨rfl, hbz⟩; have BZ := Lib.hid ((HL6.out.alloc _).step hbz).bl; clear hbz))
    go_ret
    exact ⟨rfl, BZ.out⟩
  · have LMB2 := Lib.hid (LMB.out rfl)
    go_wp2_with (first
      | (go_at_call 16; (with_reducible refine (LAB.out _).mono ?_); rintro e' w5 ⟨rfl, hq⟩; have A5 := sb.at_ hq s0 (show w.heap.size < _ by omega); have B5 := sb.at_ hq s1 (show w.heap.size + 1 < _ by omega); have L5 := sb.step hq; obtain ⟨_, _, _, _, _, _, _, _, _⟩ := A5.out9; obtain ⟨_, _, _, _, _, _, _, _, _⟩ := B5.out9; have HA5 := Lib.hid A5; have HB5 := Lib.hid B5; have HLX := Lib.hid L5; have le6 := L5.le; clear hq A5 B5 L5)
      | (go_at_call 26; (with_reducible refine (LMV.out _).mono ?_); rintro e' w6 ⟨rfl, qk⟩; have A6 := HA5.out.kp qk (by omega); have B6 := HB5.out.kp qk (by omega); have L6 := HLX.out.step qk.1; obtain ⟨_, _, _, _, _, _, _, _, _⟩ := A6.out9; obtain ⟨_, _, _, _, _, _, _, _, _⟩ := B6.out9; have HB6 := Lib.hid B6; have le7 : w5.heap.size ≤ w6.heap.size := qk.size; have z0 : w.heap.size < w6.heap.size := (by omega); have z1 : w.heap.size + 1 < w6.heap.size := (by omega); have HL6 := Lib.hid L6; clear qk A6 B6 L6)
      | (go_at_call 16; go_loud (with_reducible refine (LMB2.out _).mono ?_); rintro e' w7 ⟨rfl, qk⟩; have HL7 := Lib.hid ((HL6.out.alloc _).step qk.1); clear qk)
      | (go_at_call 11; (with_reducible refine (works_w _).mono ?_); rintro e' wz ⟨rfl, hbz⟩; have BZ := Lib.hid (HL7.out.step hbz).bl; clear hbz))
    go_ret
    exact ⟨rfl, BZ.out⟩
set_option maxHeartbeats 2000000 in
set_option maxRecDepth 100000 in
theorem orders_2 (a b c : Cp) (at' : Int) (ha : RC a) (hb : RC b) (hc : RC c) (ra : Raw a) (rb : Raw b) (rc : Raw c) (hr : rightL [a, b, c] = true) (a0 : 0 ≤ at') (a1 : at' < 18446744073709551616) (h0 : a.tg = true) (h1 : a.sealed = false) (h2 : lessB a b = true) (h3 : lessB b c = true) (w : World) :
    Calls Try.prog 6 #[.agg #[.bool true, .int .i64 a.pe, .int .i64 a.ty, .int .i64 a.mo, .int .i64 a.e, .int .i64 a.b, .int .i64 a.t, .bool a.g, .int .u64 a.a], .agg #[.bool b.tg, .int .i64 b.pe, .int .i64 b.ty, .int .i64 b.mo, .int .i64 b.e, .int .i64 b.b, .int .i64 b.t, .bool b.g, .int .u64 b.a], .agg #[.bool c.tg, .int .i64 c.pe, .int .i64 c.ty, .int .i64 c.mo, .int .i64 c.e, .int .i64 c.b, .int .i64 c.t, .bool c.g, .int .u64 c.a], .int .u64 at'] w fun e' w' => e' = .returned (.bool true) ∧ Below w.heap.size w w' := by
  have eaa : lessB a a = true := by rw [less_refl, h0, h1]; rfl
  have eab : lessB a b = true := h2
  have eac : lessB a c = true := less_trans h2 h3
  have LAA : Hid (∀ w1 : World, Calls Try.prog 16 #[.agg #[.bool true, .int .i64 a.pe, .int .i64 a.ty, .int .i64 a.mo, .int .i64 a.e, .int .i64 a.b, .int .i64 a.t, .bool a.g, .int .u64 a.a], .agg #[.bool true, .int .i64 a.pe, .int .i64 a.ty, .int .i64 a.mo, .int .i64 a.e, .int .i64 a.b, .int .i64 a.t, .bool a.g, .int .u64 a.a]] w1 fun e' w' => e' = .returned (.bool true) ∧ Below w1.heap.size w1 w') := Lib.hid (fun w1 => by have := kb (less_o a a ha ha true eaa w1); rw [h0] at this; exact this)
  have LAB : Hid (∀ w1 : World, Calls Try.prog 16 #[.agg #[.bool true, .int .i64 a.pe, .int .i64 a.ty, .int .i64 a.mo, .int .i64 a.e, .int .i64 a.b, .int .i64 a.t, .bool a.g, .int .u64 a.a], .agg #[.bool b.tg, .int .i64 b.pe, .int .i64 b.ty, .int .i64 b.mo, .int .i64 b.e, .int .i64 b.b, .int .i64 b.t, .bool b.g, .int .u64 b.a]] w1 fun e' w' => e' = .returned (.bool true) ∧ Below w1.heap.size w1 w') := Lib.hid (fun w1 => by have := kb (less_o a b ha hb true eab w1); rw [h0] at this; exact this)
  have LBC : Hid (∀ w1 : World, Calls Try.prog 16 #[.agg #[.bool b.tg, .int .i64 b.pe, .int .i64 b.ty, .int .i64 b.mo, .int .i64 b.e, .int .i64 b.b, .int .i64 b.t, .bool b.g, .int .u64 b.a], .agg #[.bool c.tg, .int .i64 c.pe, .int .i64 c.ty, .int .i64 c.mo, .int .i64 c.e, .int .i64 c.b, .int .i64 c.t, .bool c.g, .int .u64 c.a]] w1 fun e' w' => e' = .returned (.bool true) ∧ Below w1.heap.size w1 w') := Lib.hid (fun w1 => kb (less_o b c hb hc true h3 w1))
  have LAC : Hid (∀ w1 : World, Calls Try.prog 16 #[.agg #[.bool true, .int .i64 a.pe, .int .i64 a.ty, .int .i64 a.mo, .int .i64 a.e, .int .i64 a.b, .int .i64 a.t, .bool a.g, .int .u64 a.a], .agg #[.bool c.tg, .int .i64 c.pe, .int .i64 c.ty, .int .i64 c.mo, .int .i64 c.e, .int .i64 c.b, .int .i64 c.t, .bool c.g, .int .u64 c.a]] w1 fun e' w' => e' = .returned (.bool true) ∧ Below w1.heap.size w1 w') := Lib.hid (fun w1 => by have := kb (less_o a c ha hc true eac w1); rw [h0] at this; exact this)
  have LSE : Hid (∀ w1 : World, Calls Try.prog 25 #[.agg #[.bool true, .int .i64 a.pe, .int .i64 a.ty, .int .i64 a.mo, .int .i64 a.e, .int .i64 a.b, .int .i64 a.t, .bool a.g, .int .u64 a.a]] w1 fun e' w' => e' = .returned (.bool false) ∧ Below w1.heap.size w1 w') := Lib.hid (fun w1 => by have := kb (sealed_w a.tg a.pe a.ty a.mo a.e a.b a.t a.g a.a _ h1 w1); rw [h0] at this; exact this)
  have HRT : Hid (∀ (A : Option Addr) (n : Nat) (w1 : World), Rd w1 w1.heap.size A [a, b, c] → Calls Try.prog 9 #[.slice A 3 n] w1 fun e' w' => e' = .returned (.bool true) ∧ Kp w1 w') := Lib.hid (fun A n w1 h => rightl_w [a, b, c] A n w1 h (by simp) (by intro d hd; simp at hd; rcases hd with rfl | rfl | rfl; exact ra; exact rb; exact rc) true hr)
  have ev : vsL [a, b, c] = [.bool true, .int .i64 a.pe, .int .i64 a.ty, .int .i64 a.mo, .int .i64 a.e, .int .i64 a.b, .int .i64 a.t, .bool a.g, .int .u64 a.a, .bool b.tg, .int .i64 b.pe, .int .i64 b.ty, .int .i64 b.mo, .int .i64 b.e, .int .i64 b.b, .int .i64 b.t, .bool b.g, .int .u64 b.a, .bool c.tg, .int .i64 c.pe, .int .i64 c.ty, .int .i64 c.mo, .int .i64 c.e, .int .i64 c.b, .int .i64 c.t, .bool c.g, .int .u64 c.a] := by simp [vsL, Cp.vs, h0]
  have hr0 : ∀ w1 : World, Rd (w1.alloc (.cells #[.bool true, .int .i64 a.pe, .int .i64 a.ty, .int .i64 a.mo, .int .i64 a.e, .int .i64 a.b, .int .i64 a.t, .bool a.g, .int .u64 a.a, .bool b.tg, .int .i64 b.pe, .int .i64 b.ty, .int .i64 b.mo, .int .i64 b.e, .int .i64 b.b, .int .i64 b.t, .bool b.g, .int .u64 b.a, .bool c.tg, .int .i64 c.pe, .int .i64 c.ty, .int .i64 c.mo, .int .i64 c.e, .int .i64 c.b, .int .i64 c.t, .bool c.g, .int .u64 c.a] 25)) (w1.alloc (.cells #[.bool true, .int .i64 a.pe, .int .i64 a.ty, .int .i64 a.mo, .int .i64 a.e, .int .i64 a.b, .int .i64 a.t, .bool a.g, .int .u64 a.a, .bool b.tg, .int .i64 b.pe, .int .i64 b.ty, .int .i64 b.mo, .int .i64 b.e, .int .i64 b.b, .int .i64 b.t, .bool b.g, .int .u64 b.a, .bool c.tg, .int .i64 c.pe, .int .i64 c.ty, .int .i64 c.mo, .int .i64 c.e, .int .i64 c.b, .int .i64 c.t, .bool c.g, .int .u64 c.a] 25)).heap.size (some ⟨w1.heap.size, 0, none⟩) [a, b, c] := fun w1 => by have := rd_new [a, b, c] w1; rw [ev] at this; exact this
  have HR0 := Lib.hid hr0
  obtain ⟨mv, hmv⟩ : ∃ mv, moveT a.tg a.ty a.e a.b a.t a.g a.a at' = mv := ⟨_, rfl⟩
  have LMV : Hid (∀ w1 : World, Calls Try.prog 26 #[.agg #[.bool true, .int .i64 a.pe, .int .i64 a.ty, .int .i64 a.mo, .int .i64 a.e, .int .i64 a.b, .int .i64 a.t, .bool a.g, .int .u64 a.a], .int .u64 at'] w1 fun e' w' => e' = .returned (.agg #[.bool mv, .int .i64 a.pe, .int .i64 a.ty, .int .i64 a.mo, .int .i64 a.e, .int .i64 a.b, .int .i64 a.t, .bool a.g, .int .u64 at']) ∧ Kp w1 w') := Lib.hid (fun w1 => by have := move_w a.tg a.pe a.ty a.mo a.e a.b a.t a.g a.a at' ha.f a0 a1 mv hmv w1; rw [h0] at this; exact this)
  have HPE := less_per h2
  have LMB : Hid (mv = true → ∀ w1 : World, Calls Try.prog 16 #[.agg #[.bool true, .int .i64 a.pe, .int .i64 a.ty, .int .i64 a.mo, .int .i64 a.e, .int .i64 a.b, .int .i64 a.t, .bool a.g, .int .u64 at'], .agg #[.bool b.tg, .int .i64 b.pe, .int .i64 b.ty, .int .i64 b.mo, .int .i64 b.e, .int .i64 b.b, .int .i64 b.t, .bool b.g, .int .u64 b.a]] w1 fun e' w' => e' = .returned (.bool true) ∧ Kp w1 w') := Lib.hid (fun e w1 => less_o (mvC a at' true) b (ha.mv a0 a1 true) hb true (less_move h2 (by rw [hmv]; exact e)) w1)
  have A3 : At (w.heap.size) [.bool true, .int .i64 a.pe, .int .i64 a.ty, .int .i64 a.mo, .int .i64 a.e, .int .i64 a.b, .int .i64 a.t, .bool a.g, .int .u64 a.a] (((w.alloc (.cells #[.bool true, .int .i64 a.pe, .int .i64 a.ty, .int .i64 a.mo, .int .i64 a.e, .int .i64 a.b, .int .i64 a.t, .bool a.g, .int .u64 a.a] 25)).alloc (.cells #[.bool b.tg, .int .i64 b.pe, .int .i64 b.ty, .int .i64 b.mo, .int .i64 b.e, .int .i64 b.b, .int .i64 b.t, .bool b.g, .int .u64 b.a] 25)).alloc (.cells #[.bool c.tg, .int .i64 c.pe, .int .i64 c.ty, .int .i64 c.mo, .int .i64 c.e, .int .i64 c.b, .int .i64 c.t, .bool c.g, .int .u64 c.a] 25)) := ((At.new w [.bool true, .int .i64 a.pe, .int .i64 a.ty, .int .i64 a.mo, .int .i64 a.e, .int .i64 a.b, .int .i64 a.t, .bool a.g, .int .u64 a.a] 25).alloc _).alloc _
  have B3 : At (w.heap.size + 1) [.bool b.tg, .int .i64 b.pe, .int .i64 b.ty, .int .i64 b.mo, .int .i64 b.e, .int .i64 b.b, .int .i64 b.t, .bool b.g, .int .u64 b.a] (((w.alloc (.cells #[.bool true, .int .i64 a.pe, .int .i64 a.ty, .int .i64 a.mo, .int .i64 a.e, .int .i64 a.b, .int .i64 a.t, .bool a.g, .int .u64 a.a] 25)).alloc (.cells #[.bool b.tg, .int .i64 b.pe, .int .i64 b.ty, .int .i64 b.mo, .int .i64 b.e, .int .i64 b.b, .int .i64 b.t, .bool b.g, .int .u64 b.a] 25)).alloc (.cells #[.bool c.tg, .int .i64 c.pe, .int .i64 c.ty, .int .i64 c.mo, .int .i64 c.e, .int .i64 c.b, .int .i64 c.t, .bool c.g, .int .u64 c.a] 25)) := (At.new' (w.alloc (.cells #[.bool true, .int .i64 a.pe, .int .i64 a.ty, .int .i64 a.mo, .int .i64 a.e, .int .i64 a.b, .int .i64 a.t, .bool a.g, .int .u64 a.a] 25)) [.bool b.tg, .int .i64 b.pe, .int .i64 b.ty, .int .i64 b.mo, .int .i64 b.e, .int .i64 b.b, .int .i64 b.t, .bool b.g, .int .u64 b.a] 25 (by simp)).alloc _
  have C3 : At (w.heap.size + 1 + 1) [.bool c.tg, .int .i64 c.pe, .int .i64 c.ty, .int .i64 c.mo, .int .i64 c.e, .int .i64 c.b, .int .i64 c.t, .bool c.g, .int .u64 c.a] (((w.alloc (.cells #[.bool true, .int .i64 a.pe, .int .i64 a.ty, .int .i64 a.mo, .int .i64 a.e, .int .i64 a.b, .int .i64 a.t, .bool a.g, .int .u64 a.a] 25)).alloc (.cells #[.bool b.tg, .int .i64 b.pe, .int .i64 b.ty, .int .i64 b.mo, .int .i64 b.e, .int .i64 b.b, .int .i64 b.t, .bool b.g, .int .u64 b.a] 25)).alloc (.cells #[.bool c.tg, .int .i64 c.pe, .int .i64 c.ty, .int .i64 c.mo, .int .i64 c.e, .int .i64 c.b, .int .i64 c.t, .bool c.g, .int .u64 c.a] 25)) := At.new' ((w.alloc (.cells #[.bool true, .int .i64 a.pe, .int .i64 a.ty, .int .i64 a.mo, .int .i64 a.e, .int .i64 a.b, .int .i64 a.t, .bool a.g, .int .u64 a.a] 25)).alloc (.cells #[.bool b.tg, .int .i64 b.pe, .int .i64 b.ty, .int .i64 b.mo, .int .i64 b.e, .int .i64 b.b, .int .i64 b.t, .bool b.g, .int .u64 b.a] 25)) [.bool c.tg, .int .i64 c.pe, .int .i64 c.ty, .int .i64 c.mo, .int .i64 c.e, .int .i64 c.b, .int .i64 c.t, .bool c.g, .int .u64 c.a] 25 (by simp)
  have L3 : Bl w (w.heap.size + 1 + 1 + 1) (((w.alloc (.cells #[.bool true, .int .i64 a.pe, .int .i64 a.ty, .int .i64 a.mo, .int .i64 a.e, .int .i64 a.b, .int .i64 a.t, .bool a.g, .int .u64 a.a] 25)).alloc (.cells #[.bool b.tg, .int .i64 b.pe, .int .i64 b.ty, .int .i64 b.mo, .int .i64 b.e, .int .i64 b.b, .int .i64 b.t, .bool b.g, .int .u64 b.a] 25)).alloc (.cells #[.bool c.tg, .int .i64 c.pe, .int .i64 c.ty, .int .i64 c.mo, .int .i64 c.e, .int .i64 c.b, .int .i64 c.t, .bool c.g, .int .u64 c.a] 25)) := ⟨(((Below.refl _ _).alloc (Nat.le_refl _) _).alloc (by simp) _).alloc (by simp; omega) _, by omega, by simp⟩
  clear eaa eab eac ra rb rc hr hr0 ev
  go_enter Try.func6, Try.ntmps6
  go_upto_region 1 with fail
  generalize hw0 : (((w.alloc (.cells #[.bool true, .int .i64 a.pe, .int .i64 a.ty, .int .i64 a.mo, .int .i64 a.e, .int .i64 a.b, .int .i64 a.t, .bool a.g, .int .u64 a.a] 25)).alloc (.cells #[.bool b.tg, .int .i64 b.pe, .int .i64 b.ty, .int .i64 b.mo, .int .i64 b.e, .int .i64 b.b, .int .i64 b.t, .bool b.g, .int .u64 b.a] 25)).alloc (.cells #[.bool c.tg, .int .i64 c.pe, .int .i64 c.ty, .int .i64 c.mo, .int .i64 c.e, .int .i64 c.b, .int .i64 c.t, .bool c.g, .int .u64 c.a] 25)) = w0 at A3 B3 C3 L3 ⊢
  clear hw0
  have le0 := L3.le
  obtain ⟨_, _, _, _, _, _, _, _, _⟩ := A3.out9
  obtain ⟨_, _, _, _, _, _, _, _, _⟩ := B3.out9
  obtain ⟨_, _, _, _, _, _, _, _, _⟩ := C3.out9
  have HA3 := Lib.hid A3
  have HB3 := Lib.hid B3
  have HC3 := Lib.hid C3
  have HL3 := Lib.hid L3
  clear A3 B3 C3 L3
  go_upto_region 3 with (go_at_call 9; (with_reducible refine (HRT.out _ _ _ (HR0.out w0)).mono ?_); rintro e' w1 ⟨rfl, qk⟩; have A4 : At (w.heap.size) [.bool true, .int .i64 a.pe, .int .i64 a.ty, .int .i64 a.mo, .int .i64 a.e, .int .i64 a.b, .int .i64 a.t, .bool a.g, .int .u64 a.a] w1 := (HA3.out.alloc _).kp qk (by simp; omega); have B4 : At (w.heap.size + 1) [.bool b.tg, .int .i64 b.pe, .int .i64 b.ty, .int .i64 b.mo, .int .i64 b.e, .int .i64 b.b, .int .i64 b.t, .bool b.g, .int .u64 b.a] w1 := (HB3.out.alloc _).kp qk (by simp; omega); have C4 : At (w.heap.size + 1 + 1) [.bool c.tg, .int .i64 c.pe, .int .i64 c.ty, .int .i64 c.mo, .int .i64 c.e, .int .i64 c.b, .int .i64 c.t, .bool c.g, .int .u64 c.a] w1 := (HC3.out.alloc _).kp qk (by simp; omega); have L4 : Bl w (w.heap.size + 1 + 1 + 1) w1 := (HL3.out.alloc _).step qk.1; clear qk)
  refine wp_region_held_drew (S := (fun w' => At (w.heap.size) [.bool true, .int .i64 a.pe, .int .i64 a.ty, .int .i64 a.mo, .int .i64 a.e, .int .i64 a.b, .int .i64 a.t, .bool a.g, .int .u64 a.a] w' ∧ At (w.heap.size + 1) [.bool b.tg, .int .i64 b.pe, .int .i64 b.ty, .int .i64 b.mo, .int .i64 b.e, .int .i64 b.b, .int .i64 b.t, .bool b.g, .int .u64 b.a] w' ∧ At (w.heap.size + 1 + 1) [.bool c.tg, .int .i64 c.pe, .int .i64 c.ty, .int .i64 c.mo, .int .i64 c.e, .int .i64 c.b, .int .i64 c.t, .bool c.g, .int .u64 c.a] w' ∧ Bl w (w.heap.size + 1 + 1 + 1) w')) (by kernel_rfl) ⟨At.drew (by with_reducible assumption), At.drew (by with_reducible assumption), At.drew (by with_reducible assumption), Bl.drew (by with_reducible assumption)⟩ (fun hS => ?_)
  generalize hgw : w1.drew = g0 at hS ⊢
  clear hgw
  try simp only [Act.put, List.setIfInBounds_toArray, List.set_cons_zero, List.set_cons_succ]
  (refine wpAnyH_take (i := 0) (oi := { dst := some 17, op := Op.load 25 (Operand.tmp 4), type := 25, pos := "outright.go:72", after := #[], guard := none }) (v := ?_) rfl (by kernel_rfl) (by kernel_rfl) (by kernel_rfl) (fun _ _ _ h => h) (Or.inl ⟨by rfl, ?_⟩) hS ?_; rotate_left; focus (intro w' hSw; obtain ⟨s0, s1, s2, sb⟩ := hSw; obtain ⟨_, _, _, _, _, _, _, _, _⟩ := s0.out9; obtain ⟨_, _, _, _, _, _, _, _, _⟩ := s1.out9; obtain ⟨_, _, _, _, _, _, _, _, _⟩ := s2.out9; go_simp <;> try with_reducible rfl))
  try simp only [Act.put, List.setIfInBounds_toArray, List.set_cons_zero, List.set_cons_succ]
  (refine wpAnyH_take (i := 1) (oi := { dst := some 18, op := Op.load 25 (Operand.tmp 4), type := 25, pos := "outright.go:72", after := #[], guard := none }) (v := ?_) rfl (by kernel_rfl) (by kernel_rfl) (by kernel_rfl) (fun _ _ _ h => h) (Or.inl ⟨by rfl, ?_⟩) hS ?_; rotate_left; focus (intro w' hSw; obtain ⟨s0, s1, s2, sb⟩ := hSw; obtain ⟨_, _, _, _, _, _, _, _, _⟩ := s0.out9; obtain ⟨_, _, _, _, _, _, _, _, _⟩ := s1.out9; obtain ⟨_, _, _, _, _, _, _, _, _⟩ := s2.out9; go_simp <;> try with_reducible rfl))
  try simp only [Act.put, List.setIfInBounds_toArray, List.set_cons_zero, List.set_cons_succ]
  (refine wpAnyH_take (i := 3) (oi := { dst := some 20, op := Op.fieldAddr 25 (Operand.tmp 4) 0, type := 0, pos := "outright.go:72", after := #[], guard := none }) (v := ?_) rfl (by kernel_rfl) (by kernel_rfl) (by kernel_rfl) (fun _ _ _ h => h) (Or.inl ⟨by rfl, ?_⟩) hS ?_; rotate_left; focus (intro w' hSw; obtain ⟨s0, s1, s2, sb⟩ := hSw; go_simp <;> try with_reducible rfl))
  try simp only [Act.put, List.setIfInBounds_toArray, List.set_cons_zero, List.set_cons_succ]
  (refine wpAnyH_take (i := 4) (oi := { dst := some 21, op := Op.load 4 (Operand.tmp 20), type := 4, pos := "outright.go:72", after := #[{ on := 3, ground := Ground.data }], guard := none }) (v := ?_) rfl (by kernel_rfl) (by kernel_rfl) (by kernel_rfl) (fun _ _ _ h => h) (Or.inl ⟨by rfl, ?_⟩) hS ?_; rotate_left; focus (intro w' hSw; obtain ⟨s0, s1, s2, sb⟩ := hSw; obtain ⟨_, _, _, _, _, _, _, _, _⟩ := s0.out9; obtain ⟨_, _, _, _, _, _, _, _, _⟩ := s1.out9; obtain ⟨_, _, _, _, _, _, _, _, _⟩ := s2.out9; go_simp <;> try with_reducible rfl))
  try simp only [Act.put, List.setIfInBounds_toArray, List.set_cons_zero, List.set_cons_succ]
  refine wpAnyH_ready (rs := [2]) (by kernel_rfl) (by simp) ?_
  refine AllReadyH.cons (o := { dst := some 19, op := Op.call { callee := Callee.value (Operand.func 16), args := #[Operand.tmp 17, Operand.tmp 18], argTypes := #[25, 25] }, type := 4, pos := "outright.go:72", after := #[{ on := 0, ground := Ground.data }, { on := 1, ground := Ground.data }], guard := none }) rfl (fun K hK => ?_) AllReadyH.nil
  refine take_if (by rfl) ?_
  obtain ⟨s0, s1, s2, sb⟩ := hS
  go_simp
  (with_reducible refine (LAA.out _).mono ?_)
  rintro e' g2 ⟨rfl, hb⟩
  have t0 := sb.at_ hb s0 (show w.heap.size < w.heap.size + 1 + 1 + 1 by omega)
  have t1 := sb.at_ hb s1 (show w.heap.size + 1 < w.heap.size + 1 + 1 + 1 by omega)
  have t2 := sb.at_ hb s2 (show w.heap.size + 1 + 1 < w.heap.size + 1 + 1 + 1 by omega)
  refine hK.out _ _ ⟨t0, t1, t2, (sb.step hb)⟩ (fun hS => ?_)
  clear hK K hb s0 t0 s1 t1 s2 t2 sb
  try simp only [Act.put, List.setIfInBounds_toArray, List.set_cons_zero, List.set_cons_succ]
  (refine wpAnyH_take (i := 5) (oi := { dst := some 22, op := Op.move (Operand.tmp 21), type := 4, pos := "outright.go:72", after := #[{ on := 4, ground := Ground.data }, { on := 2, ground := Ground.chain }], guard := none }) (v := ?_) rfl (by kernel_rfl) (by kernel_rfl) (by kernel_rfl) (fun _ _ _ h => h) (Or.inl ⟨by rfl, ?_⟩) hS ?_; rotate_left; focus (intro w' hSw; obtain ⟨s0, s1, s2, sb⟩ := hSw; go_simp <;> try with_reducible rfl))
  try simp only [Act.put, List.setIfInBounds_toArray, List.set_cons_zero, List.set_cons_succ]
  (refine wpAnyH_take (i := 6) (oi := { dst := some 23, op := Op.load 25 (Operand.tmp 4), type := 25, pos := "outright.go:72", after := #[{ on := 5, ground := Ground.guard }], guard := some (5, true) }) (v := ?_) rfl (by kernel_rfl) (by kernel_rfl) (by kernel_rfl) (fun _ _ _ h => h) (Or.inl ⟨by rfl, ?_⟩) hS ?_; rotate_left; focus (intro w' hSw; obtain ⟨s0, s1, s2, sb⟩ := hSw; obtain ⟨_, _, _, _, _, _, _, _, _⟩ := s0.out9; obtain ⟨_, _, _, _, _, _, _, _, _⟩ := s1.out9; obtain ⟨_, _, _, _, _, _, _, _, _⟩ := s2.out9; go_simp <;> try with_reducible rfl))
  try simp only [Act.put, List.setIfInBounds_toArray, List.set_cons_zero, List.set_cons_succ]
  refine wpAnyH_ready (rs := [7]) (by kernel_rfl) (by simp) ?_
  refine AllReadyH.cons (o := { dst := some 24, op := Op.call { callee := Callee.value (Operand.func 25), args := #[Operand.tmp 23], argTypes := #[25] }, type := 4, pos := "outright.go:72", after := #[{ on := 6, ground := Ground.data }, { on := 5, ground := Ground.chain }, { on := 5, ground := Ground.guard }], guard := some (5, true) }) rfl (fun K hK => ?_) AllReadyH.nil
  refine take_if (by rfl) ?_
  obtain ⟨s0, s1, s2, sb⟩ := hS
  go_simp
  (with_reducible refine (LSE.out _).mono ?_)
  rintro e' g7 ⟨rfl, hb⟩
  have t0 := sb.at_ hb s0 (show w.heap.size < w.heap.size + 1 + 1 + 1 by omega)
  have t1 := sb.at_ hb s1 (show w.heap.size + 1 < w.heap.size + 1 + 1 + 1 by omega)
  have t2 := sb.at_ hb s2 (show w.heap.size + 1 + 1 < w.heap.size + 1 + 1 + 1 by omega)
  refine hK.out _ _ ⟨t0, t1, t2, (sb.step hb)⟩ (fun hS => ?_)
  clear hK K hb s0 t0 s1 t1 s2 t2 sb
  try simp only [Act.put, List.setIfInBounds_toArray, List.set_cons_zero, List.set_cons_succ]
  (refine wpAnyH_take (i := 8) (oi := { dst := some 25, op := Op.unOp UnOp.not 4 (Operand.tmp 24), type := 4, pos := "outright.go:72", after := #[{ on := 7, ground := Ground.data }, { on := 5, ground := Ground.guard }], guard := some (5, true) }) (v := ?_) rfl (by kernel_rfl) (by kernel_rfl) (by kernel_rfl) (fun _ _ _ h => h) (Or.inl ⟨by rfl, ?_⟩) hS ?_; rotate_left; focus (intro w' hSw; obtain ⟨s0, s1, s2, sb⟩ := hSw; go_simp <;> try with_reducible rfl))
  try simp only [Act.put, List.setIfInBounds_toArray, List.set_cons_zero, List.set_cons_succ]
  (refine wpAnyH_take (i := 9) (oi := { dst := some 26, op := Op.pick (Operand.tmp 22) (Operand.tmp 25) (Operand.const (Value.bool false)), type := 4, pos := "outright.go:72", after := #[{ on := 5, ground := Ground.data }, { on := 8, ground := Ground.data }], guard := none }) (v := ?_) rfl (by kernel_rfl) (by kernel_rfl) (by kernel_rfl) (fun _ _ _ h => h) (Or.inl ⟨by rfl, ?_⟩) hS ?_; rotate_left; focus (intro w' hSw; obtain ⟨s0, s1, s2, sb⟩ := hSw; go_simp <;> try with_reducible rfl))
  try simp only [Act.put, List.setIfInBounds_toArray, List.set_cons_zero, List.set_cons_succ]
  (refine wpAnyH_take (i := 10) (oi := { dst := some 27, op := Op.binOp BinOp.neq 4 (Operand.tmp 19) (Operand.tmp 26) 4, type := 4, pos := "outright.go:72", after := #[{ on := 2, ground := Ground.data }, { on := 9, ground := Ground.data }], guard := none }) (v := ?_) rfl (by kernel_rfl) (by kernel_rfl) (by kernel_rfl) (fun _ _ _ h => h) (Or.inl ⟨by rfl, ?_⟩) hS ?_; rotate_left; focus (intro w' hSw; obtain ⟨s0, s1, s2, sb⟩ := hSw; go_simp <;> try with_reducible rfl))
  try simp only [Act.put, List.setIfInBounds_toArray, List.set_cons_zero, List.set_cons_succ]
  (refine wpAnyH_take (i := 11) (oi := { dst := some 28, op := Op.move (Operand.tmp 27), type := 4, pos := "outright.go:72", after := #[{ on := 10, ground := Ground.data }, { on := 7, ground := Ground.chain }], guard := none }) (v := ?_) rfl (by kernel_rfl) (by kernel_rfl) (by kernel_rfl) (fun _ _ _ h => h) (Or.inl ⟨by rfl, ?_⟩) hS ?_; rotate_left; focus (intro w' hSw; obtain ⟨s0, s1, s2, sb⟩ := hSw; go_simp <;> try with_reducible rfl))
  try simp only [Act.put, List.setIfInBounds_toArray, List.set_cons_zero, List.set_cons_succ]
  (refine wpAnyH_take (i := 12) (oi := { dst := some 29, op := Op.load 25 (Operand.tmp 4), type := 25, pos := "outright.go:72", after := #[{ on := 11, ground := Ground.guard }], guard := some (11, false) }) (v := ?_) rfl (by kernel_rfl) (by kernel_rfl) (by kernel_rfl) (fun _ _ _ h => h) (Or.inl ⟨by rfl, ?_⟩) hS ?_; rotate_left; focus (intro w' hSw; obtain ⟨s0, s1, s2, sb⟩ := hSw; obtain ⟨_, _, _, _, _, _, _, _, _⟩ := s0.out9; obtain ⟨_, _, _, _, _, _, _, _, _⟩ := s1.out9; obtain ⟨_, _, _, _, _, _, _, _, _⟩ := s2.out9; go_simp <;> try with_reducible rfl))
  try simp only [Act.put, List.setIfInBounds_toArray, List.set_cons_zero, List.set_cons_succ]
  (refine wpAnyH_take (i := 13) (oi := { dst := some 30, op := Op.load 25 (Operand.tmp 5), type := 25, pos := "outright.go:72", after := #[{ on := 11, ground := Ground.guard }], guard := some (11, false) }) (v := ?_) rfl (by kernel_rfl) (by kernel_rfl) (by kernel_rfl) (fun _ _ _ h => h) (Or.inl ⟨by rfl, ?_⟩) hS ?_; rotate_left; focus (intro w' hSw; obtain ⟨s0, s1, s2, sb⟩ := hSw; obtain ⟨_, _, _, _, _, _, _, _, _⟩ := s0.out9; obtain ⟨_, _, _, _, _, _, _, _, _⟩ := s1.out9; obtain ⟨_, _, _, _, _, _, _, _, _⟩ := s2.out9; go_simp <;> try with_reducible rfl))
  try simp only [Act.put, List.setIfInBounds_toArray, List.set_cons_zero, List.set_cons_succ]
  refine wpAnyH_ready (rs := [14]) (by kernel_rfl) (by simp) ?_
  refine AllReadyH.cons (o := { dst := some 31, op := Op.call { callee := Callee.value (Operand.func 16), args := #[Operand.tmp 29, Operand.tmp 30], argTypes := #[25, 25] }, type := 4, pos := "outright.go:72", after := #[{ on := 12, ground := Ground.data }, { on := 13, ground := Ground.data }, { on := 11, ground := Ground.chain }, { on := 11, ground := Ground.guard }], guard := some (11, false) }) rfl (fun K hK => ?_) AllReadyH.nil
  refine take_if (by rfl) ?_
  obtain ⟨s0, s1, s2, sb⟩ := hS
  go_simp
  (with_reducible refine (LAB.out _).mono ?_)
  rintro e' g14 ⟨rfl, hb⟩
  have t0 := sb.at_ hb s0 (show w.heap.size < w.heap.size + 1 + 1 + 1 by omega)
  have t1 := sb.at_ hb s1 (show w.heap.size + 1 < w.heap.size + 1 + 1 + 1 by omega)
  have t2 := sb.at_ hb s2 (show w.heap.size + 1 + 1 < w.heap.size + 1 + 1 + 1 by omega)
  refine hK.out _ _ ⟨t0, t1, t2, (sb.step hb)⟩ (fun hS => ?_)
  clear hK K hb s0 t0 s1 t1 s2 t2 sb
  try simp only [Act.put, List.setIfInBounds_toArray, List.set_cons_zero, List.set_cons_succ]
  (refine wpAnyH_take (i := 15) (oi := { dst := some 32, op := Op.move (Operand.tmp 31), type := 4, pos := "outright.go:72", after := #[{ on := 14, ground := Ground.data }, { on := 14, ground := Ground.chain }, { on := 11, ground := Ground.guard }], guard := some (11, false) }) (v := ?_) rfl (by kernel_rfl) (by kernel_rfl) (by kernel_rfl) (fun _ _ _ h => h) (Or.inl ⟨by rfl, ?_⟩) hS ?_; rotate_left; focus (intro w' hSw; obtain ⟨s0, s1, s2, sb⟩ := hSw; go_simp <;> try with_reducible rfl))
  try simp only [Act.put, List.setIfInBounds_toArray, List.set_cons_zero, List.set_cons_succ]
  (refine wpAnyH_take (i := 16) (oi := { dst := some 33, op := Op.load 25 (Operand.tmp 5), type := 25, pos := "outright.go:72", after := #[{ on := 15, ground := Ground.guard }], guard := some (15, true) }) (v := ?_) rfl (by kernel_rfl) (by kernel_rfl) (by kernel_rfl) (fun _ _ _ h => h) (Or.inl ⟨by rfl, ?_⟩) hS ?_; rotate_left; focus (intro w' hSw; obtain ⟨s0, s1, s2, sb⟩ := hSw; obtain ⟨_, _, _, _, _, _, _, _, _⟩ := s0.out9; obtain ⟨_, _, _, _, _, _, _, _, _⟩ := s1.out9; obtain ⟨_, _, _, _, _, _, _, _, _⟩ := s2.out9; go_simp <;> try with_reducible rfl))
  try simp only [Act.put, List.setIfInBounds_toArray, List.set_cons_zero, List.set_cons_succ]
  (refine wpAnyH_take (i := 17) (oi := { dst := some 34, op := Op.load 25 (Operand.tmp 6), type := 25, pos := "outright.go:72", after := #[{ on := 15, ground := Ground.guard }], guard := some (15, true) }) (v := ?_) rfl (by kernel_rfl) (by kernel_rfl) (by kernel_rfl) (fun _ _ _ h => h) (Or.inl ⟨by rfl, ?_⟩) hS ?_; rotate_left; focus (intro w' hSw; obtain ⟨s0, s1, s2, sb⟩ := hSw; obtain ⟨_, _, _, _, _, _, _, _, _⟩ := s0.out9; obtain ⟨_, _, _, _, _, _, _, _, _⟩ := s1.out9; obtain ⟨_, _, _, _, _, _, _, _, _⟩ := s2.out9; go_simp <;> try with_reducible rfl))
  try simp only [Act.put, List.setIfInBounds_toArray, List.set_cons_zero, List.set_cons_succ]
  refine wpAnyH_ready (rs := [18]) (by kernel_rfl) (by simp) ?_
  refine AllReadyH.cons (o := { dst := some 35, op := Op.call { callee := Callee.value (Operand.func 16), args := #[Operand.tmp 33, Operand.tmp 34], argTypes := #[25, 25] }, type := 4, pos := "outright.go:72", after := #[{ on := 16, ground := Ground.data }, { on := 17, ground := Ground.data }, { on := 15, ground := Ground.chain }, { on := 15, ground := Ground.guard }], guard := some (15, true) }) rfl (fun K hK => ?_) AllReadyH.nil
  refine take_if (by rfl) ?_
  obtain ⟨s0, s1, s2, sb⟩ := hS
  go_simp
  (with_reducible refine (LBC.out _).mono ?_)
  rintro e' g18 ⟨rfl, hb⟩
  have t0 := sb.at_ hb s0 (show w.heap.size < w.heap.size + 1 + 1 + 1 by omega)
  have t1 := sb.at_ hb s1 (show w.heap.size + 1 < w.heap.size + 1 + 1 + 1 by omega)
  have t2 := sb.at_ hb s2 (show w.heap.size + 1 + 1 < w.heap.size + 1 + 1 + 1 by omega)
  refine hK.out _ _ ⟨t0, t1, t2, (sb.step hb)⟩ (fun hS => ?_)
  clear hK K hb s0 t0 s1 t1 s2 t2 sb
  try simp only [Act.put, List.setIfInBounds_toArray, List.set_cons_zero, List.set_cons_succ]
  (refine wpAnyH_take (i := 19) (oi := { dst := some 36, op := Op.pick (Operand.tmp 32) (Operand.tmp 35) (Operand.const (Value.bool false)), type := 4, pos := "outright.go:72", after := #[{ on := 15, ground := Ground.data }, { on := 18, ground := Ground.data }, { on := 11, ground := Ground.guard }], guard := some (11, false) }) (v := ?_) rfl (by kernel_rfl) (by kernel_rfl) (by kernel_rfl) (fun _ _ _ h => h) (Or.inl ⟨by rfl, ?_⟩) hS ?_; rotate_left; focus (intro w' hSw; obtain ⟨s0, s1, s2, sb⟩ := hSw; go_simp <;> try with_reducible rfl))
  try simp only [Act.put, List.setIfInBounds_toArray, List.set_cons_zero, List.set_cons_succ]
  (refine wpAnyH_take (i := 20) (oi := { dst := some 37, op := Op.move (Operand.tmp 36), type := 4, pos := "outright.go:72", after := #[{ on := 19, ground := Ground.data }, { on := 18, ground := Ground.chain }, { on := 11, ground := Ground.guard }], guard := some (11, false) }) (v := ?_) rfl (by kernel_rfl) (by kernel_rfl) (by kernel_rfl) (fun _ _ _ h => h) (Or.inl ⟨by rfl, ?_⟩) hS ?_; rotate_left; focus (intro w' hSw; obtain ⟨s0, s1, s2, sb⟩ := hSw; go_simp <;> try with_reducible rfl))
  try simp only [Act.put, List.setIfInBounds_toArray, List.set_cons_zero, List.set_cons_succ]
  (refine wpAnyH_take (i := 21) (oi := { dst := some 38, op := Op.load 25 (Operand.tmp 4), type := 25, pos := "outright.go:72", after := #[{ on := 20, ground := Ground.guard }], guard := some (20, true) }) (v := ?_) rfl (by kernel_rfl) (by kernel_rfl) (by kernel_rfl) (fun _ _ _ h => h) (Or.inl ⟨by rfl, ?_⟩) hS ?_; rotate_left; focus (intro w' hSw; obtain ⟨s0, s1, s2, sb⟩ := hSw; obtain ⟨_, _, _, _, _, _, _, _, _⟩ := s0.out9; obtain ⟨_, _, _, _, _, _, _, _, _⟩ := s1.out9; obtain ⟨_, _, _, _, _, _, _, _, _⟩ := s2.out9; go_simp <;> try with_reducible rfl))
  try simp only [Act.put, List.setIfInBounds_toArray, List.set_cons_zero, List.set_cons_succ]
  (refine wpAnyH_take (i := 22) (oi := { dst := some 39, op := Op.load 25 (Operand.tmp 6), type := 25, pos := "outright.go:72", after := #[{ on := 20, ground := Ground.guard }], guard := some (20, true) }) (v := ?_) rfl (by kernel_rfl) (by kernel_rfl) (by kernel_rfl) (fun _ _ _ h => h) (Or.inl ⟨by rfl, ?_⟩) hS ?_; rotate_left; focus (intro w' hSw; obtain ⟨s0, s1, s2, sb⟩ := hSw; obtain ⟨_, _, _, _, _, _, _, _, _⟩ := s0.out9; obtain ⟨_, _, _, _, _, _, _, _, _⟩ := s1.out9; obtain ⟨_, _, _, _, _, _, _, _, _⟩ := s2.out9; go_simp <;> try with_reducible rfl))
  try simp only [Act.put, List.setIfInBounds_toArray, List.set_cons_zero, List.set_cons_succ]
  refine wpAnyH_ready (rs := [23]) (by kernel_rfl) (by simp) ?_
  refine AllReadyH.cons (o := { dst := some 40, op := Op.call { callee := Callee.value (Operand.func 16), args := #[Operand.tmp 38, Operand.tmp 39], argTypes := #[25, 25] }, type := 4, pos := "outright.go:72", after := #[{ on := 21, ground := Ground.data }, { on := 22, ground := Ground.data }, { on := 20, ground := Ground.chain }, { on := 20, ground := Ground.guard }], guard := some (20, true) }) rfl (fun K hK => ?_) AllReadyH.nil
  refine take_if (by rfl) ?_
  obtain ⟨s0, s1, s2, sb⟩ := hS
  go_simp
  (with_reducible refine (LAC.out _).mono ?_)
  rintro e' g23 ⟨rfl, hb⟩
  have t0 := sb.at_ hb s0 (show w.heap.size < w.heap.size + 1 + 1 + 1 by omega)
  have t1 := sb.at_ hb s1 (show w.heap.size + 1 < w.heap.size + 1 + 1 + 1 by omega)
  have t2 := sb.at_ hb s2 (show w.heap.size + 1 + 1 < w.heap.size + 1 + 1 + 1 by omega)
  refine hK.out _ _ ⟨t0, t1, t2, (sb.step hb)⟩ (fun hS => ?_)
  clear hK K hb s0 t0 s1 t1 s2 t2 sb
  try simp only [Act.put, List.setIfInBounds_toArray, List.set_cons_zero, List.set_cons_succ]
  (refine wpAnyH_take (i := 24) (oi := { dst := some 41, op := Op.unOp UnOp.not 4 (Operand.tmp 40), type := 4, pos := "outright.go:72", after := #[{ on := 23, ground := Ground.data }, { on := 20, ground := Ground.guard }], guard := some (20, true) }) (v := ?_) rfl (by kernel_rfl) (by kernel_rfl) (by kernel_rfl) (fun _ _ _ h => h) (Or.inl ⟨by rfl, ?_⟩) hS ?_; rotate_left; focus (intro w' hSw; obtain ⟨s0, s1, s2, sb⟩ := hSw; go_simp <;> try with_reducible rfl))
  try simp only [Act.put, List.setIfInBounds_toArray, List.set_cons_zero, List.set_cons_succ]
  (refine wpAnyH_take (i := 25) (oi := { dst := some 42, op := Op.pick (Operand.tmp 37) (Operand.tmp 41) (Operand.const (Value.bool false)), type := 4, pos := "outright.go:72", after := #[{ on := 20, ground := Ground.data }, { on := 24, ground := Ground.data }, { on := 11, ground := Ground.guard }], guard := some (11, false) }) (v := ?_) rfl (by kernel_rfl) (by kernel_rfl) (by kernel_rfl) (fun _ _ _ h => h) (Or.inl ⟨by rfl, ?_⟩) hS ?_; rotate_left; focus (intro w' hSw; obtain ⟨s0, s1, s2, sb⟩ := hSw; go_simp <;> try with_reducible rfl))
  try simp only [Act.put, List.setIfInBounds_toArray, List.set_cons_zero, List.set_cons_succ]
  (refine wpAnyH_take (i := 26) (oi := { dst := some 43, op := Op.pick (Operand.tmp 28) (Operand.const (Value.bool true)) (Operand.tmp 42), type := 4, pos := "outright.go:72", after := #[{ on := 11, ground := Ground.data }, { on := 25, ground := Ground.data }], guard := none }) (v := ?_) rfl (by kernel_rfl) (by kernel_rfl) (by kernel_rfl) (fun _ _ _ h => h) (Or.inl ⟨by rfl, ?_⟩) hS ?_; rotate_left; focus (intro w' hSw; obtain ⟨s0, s1, s2, sb⟩ := hSw; go_simp <;> try with_reducible rfl))
  try simp only [Act.put, List.setIfInBounds_toArray, List.set_cons_zero, List.set_cons_succ]
  refine wpAnyH_done (by kernel_rfl) ?_ _
  obtain ⟨s0, s1, s2, sb⟩ := hS
  obtain ⟨_, _, _, _, _, _, _, _, _⟩ := s0.out9
  obtain ⟨_, _, _, _, _, _, _, _, _⟩ := s1.out9
  obtain ⟨_, _, _, _, _, _, _, _, _⟩ := s2.out9
  have le5 := sb.le
  clear hmv
  cases mv
  · go_wp2_with (first
      | (go_at_call 16; (with_reducible refine (LAB.out _).mono ?_); rintro e' w5 ⟨rfl, hq⟩; have A5 := sb.at_ hq s0 (show w.heap.size < _ by omega); have B5 := sb.at_ hq s1 (show w.heap.size + 1 < _ by omega); have L5 := sb.step hq; obtain ⟨_, _, _, _, _, _, _, _, _⟩ := A5.out9; obtain ⟨_, _, _, _, _, _, _, _, _⟩ := B5.out9; have HA5 := Lib.hid A5; have HB5 := Lib.hid B5; have HLX := Lib.hid L5; have le6 := L5.le; clear hq A5 B5 L5)
      | (go_at_call 26; (with_reducible refine (LMV.out _).mono ?_); rintro e' w6 ⟨rfl, qk⟩; have A6 := HA5.out.kp qk (by omega); have B6 := HB5.out.kp qk (by omega); have L6 := HLX.out.step qk.1; obtain ⟨_, _, _, _, _, _, _, _, _⟩ := A6.out9; obtain ⟨_, _, _, _, _, _, _, _, _⟩ := B6.out9; have HB6 := Lib.hid B6; have le7 : w5.heap.size ≤ w6.heap.size := qk.size; have z0 : w.heap.size < w6.heap.size := (by omega); have z1 : w.heap.size + 1 < w6.heap.size := (by omega); have HL6 := Lib.hid L6; clear qk A6 B6 L6)
      | (go_at_call 11; (with_reducible refine (works_w _).mono ?_); rintro e' wz ⟨rfl, hbz⟩; have BZ := Lib.hid ((HL6.out.alloc _).step hbz).bl; clear hbz))
    go_ret
    exact ⟨rfl, BZ.out⟩
  · have LMB2 := Lib.hid (LMB.out rfl)
    go_wp2_with (first
      | (go_at_call 16; (with_reducible refine (LAB.out _).mono ?_); rintro e' w5 ⟨rfl, hq⟩; have A5 := sb.at_ hq s0 (show w.heap.size < _ by omega); have B5 := sb.at_ hq s1 (show w.heap.size + 1 < _ by omega); have L5 := sb.step hq; obtain ⟨_, _, _, _, _, _, _, _, _⟩ := A5.out9; obtain ⟨_, _, _, _, _, _, _, _, _⟩ := B5.out9; have HA5 := Lib.hid A5; have HB5 := Lib.hid B5; have HLX := Lib.hid L5; have le6 := L5.le; clear hq A5 B5 L5)
      | (go_at_call 26; (with_reducible refine (LMV.out _).mono ?_); rintro e' w6 ⟨rfl, qk⟩; have A6 := HA5.out.kp qk (by omega); have B6 := HB5.out.kp qk (by omega); have L6 := HLX.out.step qk.1; obtain ⟨_, _, _, _, _, _, _, _, _⟩ := A6.out9; obtain ⟨_, _, _, _, _, _, _, _, _⟩ := B6.out9; have HB6 := Lib.hid B6; have le7 : w5.heap.size ≤ w6.heap.size := qk.size; have z0 : w.heap.size < w6.heap.size := (by omega); have z1 : w.heap.size + 1 < w6.heap.size := (by omega); have HL6 := Lib.hid L6; clear qk A6 B6 L6)
      | (go_at_call 16; go_loud (with_reducible refine (LMB2.out _).mono ?_); rintro e' w7 ⟨rfl, qk⟩; have HL7 := Lib.hid ((HL6.out.alloc _).step qk.1); clear qk)
      | (go_at_call 11; (with_reducible refine (works_w _).mono ?_); rintro e' wz ⟨rfl, hbz⟩; have BZ := Lib.hid (HL7.out.step hbz).bl; clear hbz))
    go_ret
    exact ⟨rfl, BZ.out⟩
end Go.Proofs.Ytngjboeblaldlaa
