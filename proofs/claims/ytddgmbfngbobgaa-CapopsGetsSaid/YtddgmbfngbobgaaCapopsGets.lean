/-
  CapopsGets: whatever is asked of a capability is answered as the document says: the walk of the law. No condition.
-/
import Derived.Test.YtddgmbfngbobgaaCKnown
import Derived.Test.YtddgmbfngbobgaaCRefGet
namespace Go.Proofs.Ytddgmbfngbobgaa.capopsGets
open Go.ChangeShapes Go.WideShapes Go.ChangeAt Go.RowKit
set_option linter.unusedVariables false
set_option linter.unusedSimpArgs false
theorem own : ownKnob Try.prog.godebug = none := by kernel_rfl
set_option maxHeartbeats 8000000 in
set_option maxRecDepth 100000 in
theorem gets_walk (ctg : Bool) (cpe cty cmo ce cb ct : Int) (cg : Bool) (ca : Int) (xpe xty xmo xe xb xt : Int) (hx : Rt xpe xty xmo xe xb xt ca) (Rx : Hid (∀ w : World, Calls Try.prog 11 #[.agg #[.bool ctg, .int .i64 cpe, .int .i64 cty, .int .i64 cmo, .int .i64 ce, .int .i64 cb, .int .i64 ct, .bool cg, .int .u64 ca]] w fun e' w' => e' = .returned (.agg #[.bool ctg, .int .i64 xpe, .int .i64 xty, .int .i64 xmo, .int .i64 xe, .int .i64 xb, .int .i64 xt, .bool cg, .int .u64 ca]) ∧ Kp w w')) (fn V : Int) (ok : Bool) (HG : Hid (∀ w : World, Calls Try.prog 39 #[.int .i64 fn, .agg #[.bool ctg, .int .i64 xpe, .int .i64 xty, .int .i64 xmo, .int .i64 xe, .int .i64 xb, .int .i64 xt, .bool cg, .int .u64 ca]] w fun e' w' => e' = .returned (.tuple #[.int .u64 V, .bool ok]) ∧ Kp w w')) (HR : Hid (∀ w : World, Calls Try.prog 40 #[.int .i64 fn, .agg #[.bool ctg, .int .i64 xpe, .int .i64 xty, .int .i64 xmo, .int .i64 xe, .int .i64 xb, .int .i64 xt, .bool cg, .int .u64 ca]] w fun e' w' => e' = .returned (.tuple #[.int .u64 V, .bool ok]) ∧ Kp w w')) (w : World) :
    Calls Try.prog 5 #[.int .i64 fn, .agg #[.bool ctg, .int .i64 cpe, .int .i64 cty, .int .i64 cmo, .int .i64 ce, .int .i64 cb, .int .i64 ct, .bool cg, .int .u64 ca]] w fun e' w' => e' = .returned (.bool true) ∧ Kp w w' := by
  cases ok
  all_goals
    have V_0_0 : At (w.heap.size) [.bool ctg, .int .i64 cpe, .int .i64 cty, .int .i64 cmo, .int .i64 ce, .int .i64 cb, .int .i64 ct, .bool cg, .int .u64 ca] (w.alloc (.cells #[.bool ctg, .int .i64 cpe, .int .i64 cty, .int .i64 cmo, .int .i64 ce, .int .i64 cb, .int .i64 ct, .bool cg, .int .u64 ca] 24)) := (At.new' w [.bool ctg, .int .i64 cpe, .int .i64 cty, .int .i64 cmo, .int .i64 ce, .int .i64 cb, .int .i64 ct, .bool cg, .int .u64 ca] 24 (by simp))
    have VR_0_0 : Rm (w.heap.size) 9 (w.alloc (.cells #[.bool ctg, .int .i64 cpe, .int .i64 cty, .int .i64 cmo, .int .i64 ce, .int .i64 cb, .int .i64 ct, .bool cg, .int .u64 ca] 24)) := (Rm.new' w [.bool ctg, .int .i64 cpe, .int .i64 cty, .int .i64 cmo, .int .i64 ce, .int .i64 cb, .int .i64 ct, .bool cg, .int .u64 ca] 24 9 (by simp) (by simp))
    have kv_0 : Bh w (w.heap.size + 1) (w.alloc (.cells #[.bool ctg, .int .i64 cpe, .int .i64 cty, .int .i64 cmo, .int .i64 ce, .int .i64 cb, .int .i64 ct, .bool cg, .int .u64 ca] 24)) := ⟨((Kp.refl w).allocs _ _), by simp, by simp⟩
    go_enter Try.func5, Try.ntmps5
    go_upto_region 2 with (first
      | (go_at_call 11; (with_reducible refine (Rx.out _).mono ?_); rintro e' u0 ⟨rfl, qk⟩; have kbu0 : Bh w (w.heap.size + 1) u0 := Bh.step kv_0 qk; have Ru00 := Rm.kp VR_0_0 qk (Nat.lt_of_lt_of_le (show w.heap.size < w.heap.size + 1 by omega) (Bh.le (W := w) kv_0)); obtain ⟨⟨_, _⟩, _, ⟨_, _⟩, _, ⟨_, _⟩, _, ⟨_, _⟩, _, ⟨_, _⟩, _, ⟨_, _⟩, _, ⟨_, _⟩, _, ⟨_, _⟩, _, ⟨_, _⟩, _⟩ := Ru00.out9; clear qk))
    generalize hX : (((((((((u0.setCell ⟨w.heap.size, 0, none⟩ (.bool ctg)).setCell ⟨w.heap.size, 1, none⟩ (.int .i64 xpe)).setCell ⟨w.heap.size, 2, none⟩ (.int .i64 xty)).setCell ⟨w.heap.size, 3, none⟩ (.int .i64 xmo)).setCell ⟨w.heap.size, 4, none⟩ (.int .i64 xe)).setCell ⟨w.heap.size, 5, none⟩ (.int .i64 xb)).setCell ⟨w.heap.size, 6, none⟩ (.int .i64 xt)).setCell ⟨w.heap.size, 7, none⟩ (.bool cg)).setCell ⟨w.heap.size, 8, none⟩ (.int .u64 ca)) = v
    have V_1_0 : At (w.heap.size) [.bool ctg, .int .i64 xpe, .int .i64 xty, .int .i64 xmo, .int .i64 xe, .int .i64 xb, .int .i64 xt, .bool cg, .int .u64 ca] v := by rw [← hX]; exact At.put9 Ru00
    have kv_1 : Bh w (w.heap.size + 1) v := by rw [← hX]; exact Bh.set9 kbu0 (by omega)
    clear hX
    clear kbu0 Ru00 kv_0 V_0_0 VR_0_0
    obtain ⟨_, _, _, _, _, _, _, _, _⟩ := V_1_0.out9
    go_wp2_with (first
      | (go_at_call 39; (with_reducible refine (HG.out _).mono ?_); rintro e' w3 ⟨rfl, qk⟩; have kbw3 : Bh w (w.heap.size + 1) w3 := Bh.step kv_1 qk; have Aw30 := At.kp V_1_0 qk (Nat.lt_of_lt_of_le (show w.heap.size < w.heap.size + 1 by omega) (Bh.le (W := w) kv_1)); obtain ⟨_, _, _, _, _, _, _, _, _⟩ := Aw30.out9; clear qk)
      | (go_at_call 40; (with_reducible refine (HR.out _).mono ?_); rintro e' w4 ⟨rfl, qk⟩; have kbw4 : Bh w (w.heap.size + 1) w4 := Bh.step (by with_reducible assumption) qk; clear qk)
      | (go_at_call 26; (with_reducible refine (known_w _).mono ?_); rintro e' w5 ⟨rfl, qk⟩; have kbw5 : Bh w (w.heap.size + 1) w5 := Bh.step (by with_reducible assumption) qk; clear qk))
    go_ret
    exact ⟨rfl, kbw5.kp⟩
set_option maxHeartbeats 8000000 in
set_option maxRecDepth 100000 in
theorem gets_core (ctg : Bool) (cpe cty cmo ce cb ct : Int) (cg : Bool) (ca : Int) (xpe xty xmo xe xb xt : Int) (hx : Rt xpe xty xmo xe xb xt ca) (Rx : Hid (∀ w : World, Calls Try.prog 11 #[.agg #[.bool ctg, .int .i64 cpe, .int .i64 cty, .int .i64 cmo, .int .i64 ce, .int .i64 cb, .int .i64 ct, .bool cg, .int .u64 ca]] w fun e' w' => e' = .returned (.agg #[.bool ctg, .int .i64 xpe, .int .i64 xty, .int .i64 xmo, .int .i64 xe, .int .i64 xb, .int .i64 xt, .bool cg, .int .u64 ca]) ∧ Kp w w')) (fn : Int) (w : World) :
    Calls Try.prog 5 #[.int .i64 fn, .agg #[.bool ctg, .int .i64 cpe, .int .i64 cty, .int .i64 cmo, .int .i64 ce, .int .i64 cb, .int .i64 ct, .bool cg, .int .u64 ca]] w fun e' w' => e' = .returned (.bool true) ∧ Kp w w' := by
  by_cases h0 : fn = 0
  · subst h0
    exact gets_walk _ _ _ _ _ _ _ _ _ _ _ _ _ _ _ hx Rx _ _ _ (Lib.hid (fun w => get_0 _ _ _ _ _ _ _ _ _ hx w)) (Lib.hid (fun w => rget_0 _ _ _ _ _ _ _ _ _ hx w)) w
  by_cases h1 : fn = 1
  · subst h1
    exact gets_walk _ _ _ _ _ _ _ _ _ _ _ _ _ _ _ hx Rx _ _ _ (Lib.hid (fun w => get_1 _ _ _ _ _ _ _ _ _ hx w)) (Lib.hid (fun w => rget_1 _ _ _ _ _ _ _ _ _ hx w)) w
  by_cases h2 : fn = 2
  · subst h2
    exact gets_walk _ _ _ _ _ _ _ _ _ _ _ _ _ _ _ hx Rx _ _ _ (Lib.hid (fun w => get_2 _ _ _ _ _ _ _ _ _ hx w)) (Lib.hid (fun w => rget_2 _ _ _ _ _ _ _ _ _ hx w)) w
  by_cases h3 : fn = 3
  · subst h3
    exact gets_walk _ _ _ _ _ _ _ _ _ _ _ _ _ _ _ hx Rx _ _ _ (Lib.hid (fun w => get_3 _ _ _ _ _ _ _ _ _ hx w)) (Lib.hid (fun w => rget_3 _ _ _ _ _ _ _ _ _ hx w)) w
  by_cases h4 : fn = 4
  · subst h4
    exact gets_walk _ _ _ _ _ _ _ _ _ _ _ _ _ _ _ hx Rx _ _ _ (Lib.hid (fun w => get_4 _ _ _ _ _ _ _ _ _ hx w)) (Lib.hid (fun w => rget_4 _ _ _ _ _ _ _ _ _ hx w)) w
  by_cases h5 : fn = 5
  · subst h5
    exact gets_walk _ _ _ _ _ _ _ _ _ _ _ _ _ _ _ hx Rx _ _ _ (Lib.hid (fun w => get_5 _ _ _ _ _ _ _ _ _ hx w)) (Lib.hid (fun w => rget_5 _ _ _ _ _ _ _ _ _ hx w)) w
  by_cases h6 : fn = 6
  · subst h6
    exact gets_walk _ _ _ _ _ _ _ _ _ _ _ _ _ _ _ hx Rx _ _ _ (Lib.hid (fun w => get_6 _ _ _ _ _ _ _ _ _ hx w)) (Lib.hid (fun w => rget_6 _ _ _ _ _ _ _ _ _ hx w)) w
  by_cases h7 : fn = 7
  · subst h7
    exact gets_walk _ _ _ _ _ _ _ _ _ _ _ _ _ _ _ hx Rx _ _ _ (Lib.hid (fun w => get_7 _ _ _ _ _ _ _ _ _ hx w)) (Lib.hid (fun w => rget_7 _ _ _ _ _ _ _ _ _ hx w)) w
  by_cases h8 : fn = 8
  · subst h8
    exact gets_walk _ _ _ _ _ _ _ _ _ _ _ _ _ _ _ hx Rx _ _ _ (Lib.hid (fun w => get_8 _ _ _ _ _ _ _ _ _ hx w)) (Lib.hid (fun w => rget_8 _ _ _ _ _ _ _ _ _ hx w)) w
  by_cases h9 : fn = 9
  · subst h9
    exact gets_walk _ _ _ _ _ _ _ _ _ _ _ _ _ _ _ hx Rx _ _ _ (Lib.hid (fun w => get_9 _ _ _ _ _ _ _ _ _ hx w)) (Lib.hid (fun w => rget_9 _ _ _ _ _ _ _ _ _ hx w)) w
  by_cases h15 : fn = 15
  · subst h15
    exact gets_walk _ _ _ _ _ _ _ _ _ _ _ _ _ _ _ hx Rx _ _ _ (Lib.hid (fun w => get_15 _ _ _ _ _ _ _ _ _ hx w)) (Lib.hid (fun w => rget_15 _ _ _ _ _ _ _ _ _ hx w)) w
  by_cases h24 : fn = 24
  · subst h24
    exact gets_walk _ _ _ _ _ _ _ _ _ _ _ _ _ _ _ hx Rx _ _ _ (Lib.hid (fun w => get_24 _ _ _ _ _ _ _ _ _ hx w)) (Lib.hid (fun w => rget_24 _ _ _ _ _ _ _ _ _ hx w)) w
  exact gets_walk _ _ _ _ _ _ _ _ _ _ _ _ _ _ _ hx Rx _ _ _ (Lib.hid (fun w => get_no _ _ _ _ _ _ _ _ _ fn h0 h1 h2 h3 h4 h5 h6 h7 h8 h9 h15 h24 w)) (Lib.hid (fun w => rget_no _ _ _ _ _ _ _ _ _ hx fn (by simpa using h0) (by simpa using h1) (by simpa using h2) (by simpa using h3) (by simpa using h4) (by simpa using h5) (by simpa using h6) (by simpa using h7) (by simpa using h8) (by simpa using h9) (by simpa using h15) (by simpa using h24) w)) w
set_option maxHeartbeats 8000000 in
set_option maxRecDepth 100000 in
theorem gets_w (ctg : Bool) (cpe cty cmo ce cb ct : Int) (cg : Bool) (ca : Int) (fn : Int) (cp0 : -9223372036854775808 ≤ cpe) (cp1 : cpe < 9223372036854775808) (cy0 : -9223372036854775808 ≤ cty) (cy1 : cty < 9223372036854775808) (co0 : -9223372036854775808 ≤ cmo) (co1 : cmo < 9223372036854775808) (ce0 : -9223372036854775808 ≤ ce) (ce1 : ce < 9223372036854775808) (cb0 : -9223372036854775808 ≤ cb) (cb1 : cb < 9223372036854775808) (ct0 : -9223372036854775808 ≤ ct) (ct1 : ct < 9223372036854775808) (ca0 : 0 ≤ ca) (ca1 : ca < 18446744073709551616) (w : World) :
    Calls Try.prog 5 #[.int .i64 fn, .agg #[.bool ctg, .int .i64 cpe, .int .i64 cty, .int .i64 cmo, .int .i64 ce, .int .i64 cb, .int .i64 ct, .bool cg, .int .u64 ca]] w fun e' w' => e' = .returned (.bool true) ∧ Kp w w' := by
  obtain ⟨xpe, xty, xmo, xe, xb, xt, hx, rx⟩ := right_ex ctg cpe cty cmo ce cb ct cg ca cp0 cp1 cy0 cy1 co0 co1 ce0 ce1 cb0 cb1 ct0 ct1 ca0 ca1
  exact gets_core ctg cpe cty cmo ce cb ct cg ca xpe xty xmo xe xb xt hx (Lib.hid rx) fn w
set_option maxHeartbeats 8000000 in
set_option maxRecDepth 100000 in
theorem walk (a0 : Int) (a1 : Bool) (a2 : Int) (a3 : Int) (a4 : Int) (a5 : Int) (a6 : Int) (a7 : Int) (a8 : Bool) (a9 : Int) (w0 : (Lit.int .i64 a0).wf = true) (w2 : (Lit.int .i64 a2).wf = true) (w3 : (Lit.int .i64 a3).wf = true) (w4 : (Lit.int .i64 a4).wf = true) (w5 : (Lit.int .i64 a5).wf = true) (w6 : (Lit.int .i64 a6).wf = true) (w7 : (Lit.int .i64 a7).wf = true) (w9 : (Lit.int .u64 a9).wf = true) (w : World) :
    Calls Try.prog 5 #[.int .i64 a0, .agg #[.bool a1, .int .i64 a2, .int .i64 a3, .int .i64 a4, .int .i64 a5, .int .i64 a6, .int .i64 a7, .bool a8, .int .u64 a9]] w fun e w' => e = .returned (.bool true) ∧ Grown w w' :=
  (gets_w a1 a2 a3 a4 a5 a6 a7 a8 a9 a0 (i64_bd w2).1 (i64_bd w2).2 (i64_bd w3).1 (i64_bd w3).2 (i64_bd w4).1 (i64_bd w4).2 (i64_bd w5).1 (i64_bd w5).2 (i64_bd w6).1 (i64_bd w6).2 (i64_bd w7).1 (i64_bd w7).2 (u64_bd w9).1 (u64_bd w9).2 w).mono fun _ _ h => ⟨h.1, h.2.grown⟩
end Go.Proofs.Ytddgmbfngbobgaa.capopsGets
