/-
  The contracts of the document's answer for bounds, with the plain mathematics put in: Of, Fits. Bounds' fields are in their places.
-/
import Derived.Test.YtddgmbfngbobgaaCRefOf
namespace Go.Proofs.Ytddgmbfngbobgaa
open Go.ChangeShapes Go.WideShapes Go.ChangeAt Go.RowKit
set_option linter.unusedVariables false
set_option linter.unusedSimpArgs false

theorem step_eq (b e a x : Int) : b01 (decide (x < corV b)) - b01 (decide (midV e a < corV b)) = stepV b e a x := by
  unfold stepV b01
  by_cases h1 : x < corV b <;> by_cases h2 : midV e a < corV b <;> simp [h1, h2] <;> omega
theorem stepV_bd (b e a x : Int) : -1 ≤ stepV b e a x ∧ stepV b e a x ≤ 1 := by unfold stepV; split <;> (try split) <;> omega
theorem uppV_small (e a : Int) (e0 : 0 ≤ e) (a0 : 0 ≤ a) (a1 : a < 18446744073709551616) : 0 ≤ uppV e a ∧ uppV e a < 1125899906842624 := by
  unfold uppV
  have h2 : 2 ^ 14 ≤ 2 ^ (e + 14).toNat := Nat.pow_le_pow_right (by omega) (by omega)
  have h3 : (16384 : Int) ≤ 2 ^ (e + 14).toNat := by
    have h4 : ((2 ^ 14 : Nat) : Int) ≤ ((2 ^ (e + 14).toNat : Nat) : Int) := Int.ofNat_le.2 h2
    simpa using h4
  generalize (2 : Int) ^ (e + 14).toNat = m at *
  have h5 : 0 ≤ a / m := Int.ediv_nonneg a0 (by omega)
  have h6 := Int.ediv_mul_le a (show m ≠ 0 by omega)
  have h7 := Int.mul_le_mul_of_nonneg_left h3 h5
  omega
theorem plc_put (b e a x : Int) (e0 : 0 ≤ e) (a0 : 0 ≤ a) (a1 : a < 18446744073709551616) :
    wH (wN (wH (wN (b01 (decide (uppV e a + stepV b e a x < 0))) (IntKind.u64.wrap (uppV e a + stepV b e a x)) * 2 ^ (e + 14).toNat)) (wL (wN (b01 (decide (uppV e a + stepV b e a x < 0))) (IntKind.u64.wrap (uppV e a + stepV b e a x)) * 2 ^ (e + 14).toNat)) + wN (wH (wN (b01 false) x * 2 ^ e.toNat)) (wL (wN (b01 false) x * 2 ^ e.toNat))) = wH (plcV b e a x) ∧
    wL (wN (wH (wN (b01 (decide (uppV e a + stepV b e a x < 0))) (IntKind.u64.wrap (uppV e a + stepV b e a x)) * 2 ^ (e + 14).toNat)) (wL (wN (b01 (decide (uppV e a + stepV b e a x < 0))) (IntKind.u64.wrap (uppV e a + stepV b e a x)) * 2 ^ (e + 14).toNat)) + wN (wH (wN (b01 false) x * 2 ^ e.toNat)) (wL (wN (b01 false) x * 2 ^ e.toNat))) = wL (plcV b e a x) := by
  have h1 := uppV_small e a e0 a0 a1
  have h2 := stepV_bd b e a x
  exact put_eq (uppV e a + stepV b e a x) x e (by omega) (by omega) _ _ rfl (by rw [wN_zero])
theorem add_at {h l i m : Int} (A B : Int) (h0 : 0 ≤ h) (h1 : h < 2) (l0 : 0 ≤ l) (l1 : l < 18446744073709551616) (i0 : 0 ≤ i) (i1 : i < 2) (m0 : 0 ≤ m) (m1 : m < 18446744073709551616) (e1 : wH (wN h l + wN i m) = A) (e2 : wL (wN h l + wN i m) = B) (w : World) :
    Calls Try.prog 82 #[.agg #[.int .u64 h, .int .u64 l], .agg #[.int .u64 i, .int .u64 m]] w fun e' w' => e' = .returned (.agg #[.int .u64 A, .int .u64 B]) ∧ Kp w w' := by
  subst e1 e2; exact radd_w h l i m h0 h1 l0 l1 i0 i1 m0 m1 w
theorem refOf_w (tg : Bool) (pe ty mo e b t : Int) (g : Bool) (a : Int) (h : Fld e b t a) (w : World) :
    Calls Try.prog 57 #[.agg #[.bool tg, .int .i64 pe, .int .i64 ty, .int .i64 mo, .int .i64 e, .int .i64 b, .int .i64 t, .bool g, .int .u64 a]] w fun e' w' => e' = .returned (.agg #[.int .u64 (ofB e b a), .int .u64 (ofT e b t g a), .bool (ofO e b t g a)]) ∧ Kp w w' := by
  have hU := uppV_small e a h.e0 h.a0 h.a1
  have hT := t14_bd b t g h.b0 h.t0 h.t1
  have hs1 := stepV_bd b e a b
  have hs2 := stepV_bd b e a (t14 b t g)
  have p1 := plc_put b e a b h.e0 h.a0 h.a1
  have p2 := plc_put b e a (t14 b t g) h.e0 h.a0 h.a1
  have tH := ofH_bd e b t g a
  have bL := ofB_bd e b a
  have tL := ofT_bd e b t g a
  have e0 := h.e0
  have e1 := h.e1
  have b0 := h.b0
  have b1 := h.b1
  refine refOf_core tg pe ty mo e b t g a h (t14 b t g) (corV b) (midV e a) (uppV e a) (stepV b e a b) (stepV b e a (t14 b t g)) _ _ _ _ _ _ (wH (plcV b e a b)) (ofB e b a) _ _ _ _ (ofH e b t g a) (ofT e b t g a) _ _ _ 0 _ _ (farB (ofH e b t g a) (ofT e b t g a) (ofB e b a))
    rfl rfl rfl rfl (step_eq _ _ _ _) (step_eq _ _ _ _)
    (Lib.hid (fun w => rpart_w (uppV e a) (stepV b e a b) hU.1 (by omega) hs1.1 hs1.2 w)) (Lib.hid (fun w => rpart_w (uppV e a) (stepV b e a (t14 b t g)) hU.1 (by omega) hs2.1 hs2.2 w))
    (Lib.hid (fun w => rup_w _ _ (e + 14) (wrap_bd _).1 (wrap_bd _).2 (by omega) (by omega) w)) (Lib.hid (fun w => rup_w b false e b0 (by omega) e0 (by omega) w))
    (Lib.hid (fun w => add_at _ _ (wH_lo _) (wH_hi _) (wL_lo _) (wL_hi _) (wH_lo _) (wH_hi _) (wL_lo _) (wL_hi _) p1.1 p1.2 w))
    (Lib.hid (fun w => rup_w _ _ (e + 14) (wrap_bd _).1 (wrap_bd _).2 (by omega) (by omega) w)) (Lib.hid (fun w => rup_w (t14 b t g) false e hT.1 (by omega) e0 (by omega) w))
    (Lib.hid (fun w => add_at _ _ (wH_lo _) (wH_hi _) (wL_lo _) (wL_hi _) (wH_lo _) (wH_hi _) (wL_lo _) (wL_hi _) p2.1 p2.2 w))
    tH bL tL rfl rfl rfl ?_ (ofO e b t g a) ?_ w
  · unfold farB wN
    congr 1
    have hq : (ofH e b t g a * 18446744073709551616 + ofT e b t g a) / 9223372036854775808 = 2 * ofH e b t g a + ofT e b t g a / 9223372036854775808 := by omega
    rw [hq]
    generalize ofT e b t g a / 9223372036854775808 = x
    generalize ofB e b a / 9223372036854775808 = y
    rw [show (2 * ofH e b t g a + x + 4 - y) % 4 = (2 * ofH e b t g a + x - y) % 4 by omega]
  · unfold ofO ofF; rfl
set_option maxHeartbeats 4000000 in
set_option maxRecDepth 100000 in
theorem refFits_w (tg : Bool) (pe ty mo e b t : Int) (g : Bool) (a : Int) (x : Int) (h : Fld e b t a) (x0 : 0 ≤ x) (x1 : x < 18446744073709551616) (v : Bool) (hv : fitsV e b t g a x = v) (w : World) :
    Calls Try.prog 52 #[.agg #[.bool tg, .int .i64 pe, .int .i64 ty, .int .i64 mo, .int .i64 e, .int .i64 b, .int .i64 t, .bool g, .int .u64 a], .int .u64 x] w fun e' w' => e' = .returned (.bool v) ∧ Kp w w' := by
  obtain ⟨B1, hB1⟩ : ∃ B, ofB e b a = B := ⟨_, rfl⟩
  obtain ⟨T1, hT1⟩ : ∃ T, ofT e b t g a = T := ⟨_, rfl⟩
  obtain ⟨O1, hO1⟩ : ∃ O, ofO e b t g a = O := ⟨_, rfl⟩
  have c1 : ∀ w : World, Calls Try.prog 57 #[.agg #[.bool tg, .int .i64 pe, .int .i64 ty, .int .i64 mo, .int .i64 e, .int .i64 b, .int .i64 t, .bool g, .int .u64 a]] w fun e' w' => e' = .returned (.agg #[.int .u64 B1, .int .u64 T1, .bool O1]) ∧ Kp w w' := fun w => by
    have c := refOf_w tg pe ty mo e b t g a h w
    rw [hB1, hT1, hO1] at c; exact c
  obtain ⟨B2, hB2⟩ : ∃ B, ofB e b x = B := ⟨_, rfl⟩
  obtain ⟨T2, hT2⟩ : ∃ T, ofT e b t g x = T := ⟨_, rfl⟩
  obtain ⟨O2, hO2⟩ : ∃ O, ofO e b t g x = O := ⟨_, rfl⟩
  have c2 : ∀ w : World, Calls Try.prog 57 #[.agg #[.bool tg, .int .i64 pe, .int .i64 ty, .int .i64 mo, .int .i64 e, .int .i64 b, .int .i64 t, .bool g, .int .u64 x]] w fun e' w' => e' = .returned (.agg #[.int .u64 B2, .int .u64 T2, .bool O2]) ∧ Kp w w' := fun w => by
    have c := refOf_w tg pe ty mo e b t g x (h.at x0 x1) w
    rw [hB2, hT2, hO2] at c; exact c
  have hE : ∀ w : World, (binOp .eql 40 (.agg #[.int .u64 B1, .int .u64 T1, .bool O1]) (.agg #[.int .u64 B2, .int .u64 T2, .bool O2])).run Try.prog w = .ok (.bool v) w := fun w => by
    rw [range_eql]
    have : rangeB B1 T1 O1 B2 T2 O2 = v := by
      rw [← hv]; unfold fitsV; rw [hB1, hT1, hO1, hB2, hT2, hO2]
      unfold rangeB
      rw [Bool.eq_iff_iff]; simp only [decide_eq_true_eq]
      constructor <;> (rintro ⟨p, q, r⟩; exact ⟨p.symm, q.symm, r.symm⟩)
    rw [this]
  have C1 := Lib.hid c1
  have C2 := Lib.hid c2
  clear c1 c2 hB1 hT1 hO1 hB2 hT2 hO2 hv h
  have A0 : At (w.heap.size) [.bool tg, .int .i64 pe, .int .i64 ty, .int .i64 mo, .int .i64 e, .int .i64 b, .int .i64 t, .bool g, .int .u64 a] ((w.alloc (.cells #[.bool tg, .int .i64 pe, .int .i64 ty, .int .i64 mo, .int .i64 e, .int .i64 b, .int .i64 t, .bool g, .int .u64 a] 24)).alloc (.cells #[.bool tg, .int .i64 pe, .int .i64 ty, .int .i64 mo, .int .i64 e, .int .i64 b, .int .i64 t, .bool g, .int .u64 x] 24)) := ((At.new' w [.bool tg, .int .i64 pe, .int .i64 ty, .int .i64 mo, .int .i64 e, .int .i64 b, .int .i64 t, .bool g, .int .u64 a] 24 (by simp)).alloc _)
  have A1 : At (w.heap.size + 1) [.bool tg, .int .i64 pe, .int .i64 ty, .int .i64 mo, .int .i64 e, .int .i64 b, .int .i64 t, .bool g, .int .u64 x] ((w.alloc (.cells #[.bool tg, .int .i64 pe, .int .i64 ty, .int .i64 mo, .int .i64 e, .int .i64 b, .int .i64 t, .bool g, .int .u64 a] 24)).alloc (.cells #[.bool tg, .int .i64 pe, .int .i64 ty, .int .i64 mo, .int .i64 e, .int .i64 b, .int .i64 t, .bool g, .int .u64 x] 24)) := (At.new' (w.alloc (.cells #[.bool tg, .int .i64 pe, .int .i64 ty, .int .i64 mo, .int .i64 e, .int .i64 b, .int .i64 t, .bool g, .int .u64 a] 24)) [.bool tg, .int .i64 pe, .int .i64 ty, .int .i64 mo, .int .i64 e, .int .i64 b, .int .i64 t, .bool g, .int .u64 x] 24 (by simp))
  have kb : Bh w (w.heap.size + 2) ((w.alloc (.cells #[.bool tg, .int .i64 pe, .int .i64 ty, .int .i64 mo, .int .i64 e, .int .i64 b, .int .i64 t, .bool g, .int .u64 a] 24)).alloc (.cells #[.bool tg, .int .i64 pe, .int .i64 ty, .int .i64 mo, .int .i64 e, .int .i64 b, .int .i64 t, .bool g, .int .u64 x] 24)) := ⟨(((Kp.refl w).allocs _ _).allocs _ _), by simp, by simp⟩
  go_enter Try.func52, Try.ntmps52
  go_upto_region 3 with fail
  refine wp_region_held_drew (S := (fun w' => At (w.heap.size) [.bool tg, .int .i64 pe, .int .i64 ty, .int .i64 mo, .int .i64 e, .int .i64 b, .int .i64 t, .bool g, .int .u64 a] w' ∧ At (w.heap.size + 1) [.bool tg, .int .i64 pe, .int .i64 ty, .int .i64 mo, .int .i64 e, .int .i64 b, .int .i64 t, .bool g, .int .u64 x] w' ∧ Bh w (w.heap.size + 2) w')) (by kernel_rfl) ⟨At.drew (by with_reducible assumption), At.drew (by with_reducible assumption), Bh.drew (by with_reducible assumption)⟩ (fun hS => ?_)
  (refine wpAnyH_take (i := 0) (oi := { dst := some 9, op := Op.load 24 (Operand.tmp 2), type := 24, pos := "ref.go:104", after := #[], guard := none }) (v := ?_) rfl (by kernel_rfl) (by kernel_rfl) (by kernel_rfl) (fun _ _ _ h => h) (Or.inl ⟨by rfl, ?_⟩) hS ?_; rotate_left; focus (intro w' hSw; obtain ⟨s0, s1, sb⟩ := hSw; obtain ⟨_, _, _, _, _, _, _, _, _⟩ := s0.out9; obtain ⟨_, _, _, _, _, _, _, _, _⟩ := s1.out9; go_simp <;> try with_reducible rfl))
  try simp only [Act.put, List.setIfInBounds_toArray, List.set_cons_zero, List.set_cons_succ]
  (refine wpAnyH_take (i := 2) (oi := { dst := some 11, op := Op.load 24 (Operand.tmp 5), type := 24, pos := "ref.go:104", after := #[], guard := none }) (v := ?_) rfl (by kernel_rfl) (by kernel_rfl) (by kernel_rfl) (fun _ _ _ h => h) (Or.inl ⟨by rfl, ?_⟩) hS ?_; rotate_left; focus (intro w' hSw; obtain ⟨s0, s1, sb⟩ := hSw; obtain ⟨_, _, _, _, _, _, _, _, _⟩ := s0.out9; obtain ⟨_, _, _, _, _, _, _, _, _⟩ := s1.out9; go_simp <;> try with_reducible rfl))
  try simp only [Act.put, List.setIfInBounds_toArray, List.set_cons_zero, List.set_cons_succ]
  refine wpAnyH_ready (rs := [1]) (by kernel_rfl) (by simp) ?_
  refine AllReadyH.cons (o := { dst := some 10, op := Op.call { callee := Callee.value (Operand.func 57), args := #[Operand.tmp 9], argTypes := #[24] }, type := 40, pos := "ref.go:104", after := #[{ on := 0, ground := Ground.data }], guard := none }) rfl (fun K hK => ?_) AllReadyH.nil
  (first | (refine take_if (by rfl) ?_; obtain ⟨s0, s1, sb⟩ := hS; go_simp; (with_reducible refine (C1.out _).mono ?_); rintro e' w' ⟨rfl, qk⟩; have t0 := At.kp s0 qk (Nat.lt_of_lt_of_le (show w.heap.size < w.heap.size + 2 by omega) sb.le); have t1 := At.kp s1 qk (Nat.lt_of_lt_of_le (show w.heap.size + 1 < w.heap.size + 2 by omega) sb.le); have tb := Bh.step sb qk; clear qk; refine hK.out _ _ ⟨t0, t1, tb⟩ (fun hS => ?_)) | (refine take_if (by rfl) ?_; obtain ⟨s0, s1, sb⟩ := hS; go_simp; (with_reducible refine (C2.out _).mono ?_); rintro e' w' ⟨rfl, qk⟩; have t0 := At.kp s0 qk (Nat.lt_of_lt_of_le (show w.heap.size < w.heap.size + 2 by omega) sb.le); have t1 := At.kp s1 qk (Nat.lt_of_lt_of_le (show w.heap.size + 1 < w.heap.size + 2 by omega) sb.le); have tb := Bh.step sb qk; clear qk; refine hK.out _ _ ⟨t0, t1, tb⟩ (fun hS => ?_)))
  clear hK K
  try simp only [Act.put, List.setIfInBounds_toArray, List.set_cons_zero, List.set_cons_succ]
  refine wpAnyH_ready (rs := [3]) (by kernel_rfl) (by simp) ?_
  refine AllReadyH.cons (o := { dst := some 12, op := Op.call { callee := Callee.value (Operand.func 57), args := #[Operand.tmp 11], argTypes := #[24] }, type := 40, pos := "ref.go:104", after := #[{ on := 2, ground := Ground.data }, { on := 1, ground := Ground.chain }], guard := none }) rfl (fun K hK => ?_) AllReadyH.nil
  (first | (refine take_if (by rfl) ?_; obtain ⟨s0, s1, sb⟩ := hS; go_simp; (with_reducible refine (C1.out _).mono ?_); rintro e' w' ⟨rfl, qk⟩; have t0 := At.kp s0 qk (Nat.lt_of_lt_of_le (show w.heap.size < w.heap.size + 2 by omega) sb.le); have t1 := At.kp s1 qk (Nat.lt_of_lt_of_le (show w.heap.size + 1 < w.heap.size + 2 by omega) sb.le); have tb := Bh.step sb qk; clear qk; refine hK.out _ _ ⟨t0, t1, tb⟩ (fun hS => ?_)) | (refine take_if (by rfl) ?_; obtain ⟨s0, s1, sb⟩ := hS; go_simp; (with_reducible refine (C2.out _).mono ?_); rintro e' w' ⟨rfl, qk⟩; have t0 := At.kp s0 qk (Nat.lt_of_lt_of_le (show w.heap.size < w.heap.size + 2 by omega) sb.le); have t1 := At.kp s1 qk (Nat.lt_of_lt_of_le (show w.heap.size + 1 < w.heap.size + 2 by omega) sb.le); have tb := Bh.step sb qk; clear qk; refine hK.out _ _ ⟨t0, t1, tb⟩ (fun hS => ?_)))
  clear hK K
  try simp only [Act.put, List.setIfInBounds_toArray, List.set_cons_zero, List.set_cons_succ]
  (refine wpAnyH_take (i := 4) (oi := { dst := some 13, op := Op.binOp BinOp.eql 40 (Operand.tmp 10) (Operand.tmp 12) 40, type := 4, pos := "ref.go:104", after := #[{ on := 1, ground := Ground.data }, { on := 3, ground := Ground.data }], guard := none }) (v := ?_) rfl (by kernel_rfl) (by kernel_rfl) (by kernel_rfl) (fun _ _ _ h => h) (Or.inl ⟨by rfl, ?_⟩) hS ?_; rotate_left; focus (intro w' hSw; obtain ⟨s0, s1, sb⟩ := hSw; go_simp <;> try with_reducible rfl))
  try simp only [Act.put, List.setIfInBounds_toArray, List.set_cons_zero, List.set_cons_succ]
  (refine wpAnyH_take (i := 5) (oi := { dst := some 4, op := Op.assign (Operand.tmp 13), type := 4, pos := "ref.go:104", after := #[{ on := 4, ground := Ground.data }, { on := 3, ground := Ground.chain }, { on := 0, ground := Ground.phase }, { on := 1, ground := Ground.phase }, { on := 2, ground := Ground.phase }, { on := 3, ground := Ground.phase }, { on := 4, ground := Ground.phase }], guard := none }) (v := ?_) rfl (by kernel_rfl) (by kernel_rfl) (by kernel_rfl) (fun _ _ _ h => h) (Or.inl ⟨by rfl, ?_⟩) hS ?_; rotate_left; focus (intro w' hSw; obtain ⟨s0, s1, sb⟩ := hSw; go_simp <;> try with_reducible rfl))
  try simp only [Act.put, List.setIfInBounds_toArray, List.set_cons_zero, List.set_cons_succ]
  refine wpAnyH_done (by kernel_rfl) ?_ _
  obtain ⟨s0, s1, sb⟩ := hS
  obtain ⟨_, _, _, _, _, _, _, _, _⟩ := s0.out9; obtain ⟨_, _, _, _, _, _, _, _, _⟩ := s1.out9
  go_wp2
  go_ret
  exact ⟨rfl, sb.kp⟩
end Go.Proofs.Ytddgmbfngbobgaa
