/-
  What a word of layer 10 is, as a function on numbers; what is true of any. No condition.
  Contracts of decode: Long, its array of functions, long words, halves, and Decode. No condition but what the tables hold.
  What the laws of layer 10 share: the chapter's examples, what is for capabilities. No condition but what the tables hold.
-/
import Derived.Test.YtlfeandnpflaaaaGreatDoorMK
import Derived.Test.YtlfeandnpflaaaaGreatDoorMJ
import Derived.Test.YtlfeandnpflaaaaGreatDoorDDec
import Derived.StillTailTactics
import Derived.Laws.Tables
import Derived.Laws.Rows
import Derived.Laws.CopyOwn
import Derived.Deep.WholeRow
namespace Go.Proofs.YtlfeandnpflaaaaGreatDoor
open Go.ChangeShapes Go.WideShapes Go.ChangeAt Go.RowKit
set_option linter.unusedVariables false
set_option linter.unusedSimpArgs false
/-- An instruction with its length and its bits. -/
structure Dc where
  i : Ins
  len : Int
  raw : Int
def Dc.v (d : Dc) : Value := d.i.v d.len d.raw
def lngD (x : Int) : Dc := match spec x with
  | some i => ⟨i, 4, x⟩
  | none => match dspec x with
    | some i => ⟨i, 4, x⟩
    | none => ⟨zIns, 4, x⟩
def hlfD (h : Nat) : Dc := match ex h with
  | none => ⟨zIns, 2, (h : Int)⟩
  | some v => match spec v with
    | some i => ⟨i, 2, (h : Int)⟩
    | none => ⟨zIns, 2, (h : Int)⟩
/-- What a word is. -/
def dcd (x : Int) : Dc := if x % 4 = 3 then lngD x else hlfD (x % 65536).toNat
def RegD (i : Ins) : Prop := (0 ≤ i.rd ∧ i.rd ≤ 31) ∧ (0 ≤ i.r1 ∧ i.r1 ≤ 31) ∧ (0 ≤ i.r2 ∧ i.r2 ≤ 31)
theorem regd_z : RegD zIns := by unfold RegD zIns; decide
theorem regd_s (x : Int) (i : Ins) (h : spec x = some i) : RegD i := by
  obtain ⟨⟨a, b, c, _⟩, _⟩ := fine x i h
  exact ⟨a, b, c⟩
theorem regd_d (x : Int) (i : Ins) (h : dspec x = some i) : RegD i := (fined x i h).1
theorem regd_lng (x : Int) : RegD (lngD x).i := by
  unfold lngD
  cases hs : spec x with
  | some i => exact regd_s x i hs
  | none =>
    cases hd : dspec x with
    | some i => exact regd_d x i hd
    | none => exact regd_z
theorem regd_hlf (h : Nat) : RegD (hlfD h).i := by
  unfold hlfD
  cases hs : ex h with
  | none => exact regd_z
  | some v =>
    dsimp only
    cases hd : spec v with
    | some i => exact regd_s v i hd
    | none => exact regd_z
theorem regd_all (x : Int) : RegD (dcd x).i := by
  unfold dcd
  split
  · exact regd_lng x
  · exact regd_hlf _
theorem dcd_lng (x : Int) (h : x % 4 = 3) : (dcd x).len = 4 ∧ (dcd x).raw = x := by
  rw [dcd, if_pos h]; unfold lngD
  cases spec x with
  | some i => exact ⟨rfl, rfl⟩
  | none => cases dspec x <;> exact ⟨rfl, rfl⟩
theorem dcd_hlf (x : Int) (h : ¬ x % 4 = 3) (x0 : 0 ≤ x) : (dcd x).len = 2 ∧ (dcd x).raw = x % 65536 := by
  rw [dcd, if_neg h]
  have e : (((x % 65536).toNat : Nat) : Int) = x % 65536 := Int.toNat_of_nonneg (by omega)
  generalize (x % 65536).toNat = n at *
  unfold hlfD
  cases ex n with
  | none => exact ⟨rfl, e⟩
  | some v => dsimp only; cases spec v <;> exact ⟨rfl, e⟩
theorem dcd_low (x y : Int) (h : ¬ x % 4 = 3) (e : y % 65536 = x % 65536) : dcd y = dcd x := by
  rw [dcd, dcd, if_neg h, if_neg (by omega), e]
/-- Is an instruction one for capabilities? -/
def capB (i : Ins) : Bool := (decide (23 ≤ i.op) && decide (i.op ≤ 29)) || ((i.op == 6 || i.op == 7) && i.wid == 7)
theorem cap_d (x : Int) (i : Ins) (h : dspec x = some i) : capB i = true := by
  rcases (fined x i h).2 with a | ⟨a, b⟩
  · simp [capB, a]
  · rcases a with a | a <;> simp [capB, a, b]
theorem op_s (x : Int) (i : Ins) (h : spec x = some i) : 1 ≤ i.op ∧ i.op ≤ 22 ∧ i.wid ≤ 6 := by
  obtain ⟨⟨_, _, _, _, k⟩, hn⟩ := fine x i h
  refine ⟨?_, ?_, k⟩ <;> (unfold NumP at hn; omega)
theorem cap_s (x : Int) (i : Ins) (h : spec x = some i) : capB i = false := by
  obtain ⟨a, b, c⟩ := op_s x i h
  have t1 : (decide (23 ≤ i.op)) = false := by simp; omega
  have t2 : (i.wid == 7) = false := by simp; omega
  simp [capB, t1, t2]
theorem op_d (x : Int) (i : Ins) (h : dspec x = some i) : 1 ≤ i.op ∧ i.op ≤ 29 := by
  rcases (fined x i h).2 with a | ⟨a, b⟩ <;> omega
end Go.Proofs.YtlfeandnpflaaaaGreatDoor
namespace Go.Proofs.YtlfeandnpflaaaaGreatDoor
open Go.ChangeShapes Go.WideShapes Go.ChangeAt Go.RowKit
set_option linter.unusedVariables false
set_option linter.unusedSimpArgs false
theorem andh (x : Int) (h0 : 0 ≤ x) (h1 : x < 65536) : bits .and .u16 x 3 = x % 4 := by
  have e : (3 : Int) = 2 ^ 2 - 1 := by decide
  rw [e, bits_mask .u16 16 (by decide) (fun n h0 h1 => by rw [IntKind.wrap_u16]; omega) 2 (by decide) x h0 (by omega)]; rfl
theorem long_w (x : Int) (x0 : 0 ≤ x) (x1 : x < 65536) (b : Bool) (hb : (x % 4 == 3) = b) (w : World) :
    Calls Tryz.prog 7 #[.int .u16 x] w fun e w' => e = .returned (.bool b) ∧ w = w' := by
  go_enter Tryz.func7, Tryz.ntmps7
  go_wp2
  go_ret
  exact ⟨ret_bool (by rw [andh x x0 x1]; exact hb), rfl⟩
def knA : Array Value := #[.func (.func 18) #[] #[], .func (.func 20) #[] #[]]
theorem knA_one : knA.all (·.oneCell') = true := by simp [knA, Value.oneCell']
theorem frozen_setRowX (w : World) (g : Nat) (cs : Array Value) (a : Addr) : (w.setRow g cs).frozen? a = w.frozen? a := by
  unfold World.setRow World.frozen?
  simp only [Array.getElem?_modify]
  by_cases h : g = a.block
  · rw [if_pos h]
    cases e : w.heap[a.block]? with
    | none => rfl
    | some o => cases o <;> rfl
  · rw [if_neg h]
theorem Kp.setRowX {w w' : World} (h : Kp w w') {g : Nat} (hg : w.heap.size ≤ g) (cs : Array Value) : Kp w (w'.setRow g cs) :=
  ⟨below_setRow h.1 hg cs, fun a => (frozen_setRowX w' g cs a).trans (h.2 a)⟩
set_option maxHeartbeats 4000000 in
theorem knowers_w (w : World) : Calls Tryz.prog 21 #[] w fun e w' => e = .returned (.agg knA) ∧ Kp w w' := by
  go_enter Tryz.func21, Tryz.ntmps21
  go_wp2_with (refine wpList_store_row rfl 39 _ _ rfl w.heap.size knA rfl rfl 39 _ (heap_alloc_last w _) (by kernel_rfl) rfl knA_one ?_)
  have hg := setRow_heap (w.alloc (.cells #[.nilFunc, .nilFunc] 39)) w.heap.size _ knA _ _ (heap_alloc_last w _)
  refine bodyPost_ret (v := .agg knA) (results_cell_row (p := 0) (ty := 39) Tryz.results21 _ _ w.heap.size _ _ _ _ rfl hg Tryz.underlying39 rfl (by kernel_rfl)) rfl ⟨rfl, ((Kp.refl w).allocs _ _).setRowX (Nat.le_refl _) _⟩
theorem illegal_w (l r : Int) (w : World) : Calls Tryz.prog 22 #[.int .i64 l, .int .u32 r] w fun e w' => e = .returned (.agg #[.int .i64 0, .int .i64 0, .int .i64 0, .int .i64 0, .int .i64 0, .int .i64 0, .int .i64 0, .bool false, .bool false, .int .i64 l, .int .u32 r]) ∧ Kp w w' := by
  go_enter Tryz.func22, Tryz.ntmps22
  go_wp2
  refine bodyPost_ret ?_ rfl ⟨rfl, (Kp.refl w).allocs _ _⟩
  simp [results, Tryz.results22, go_sem]
set_option maxHeartbeats 8000000 in
theorem oflong_b (x : Int) (x0 : 0 ≤ x) (x1 : x < 4294967296) (i : Ins) (hs : spec x = some i) (w : World) :
    Calls Tryz.prog 12 #[.int .u32 x] w fun e w' => e = .returned (Ins.v i 4 x) ∧ Kp w w' := by
  obtain ⟨op, fn, rd, r1, r2, imm, wid, wo, us⟩ := i
  have HS := Lib.hid hs
  clear hs
  dsimp only [Ins.v, zIns]
  have hI0 : ∀ w, (Instr.index 39 (.agg #[.func (.func 18) #[] #[], .func (.func 20) #[] #[]]) (.int .i64 0)).run Tryz.prog w = .ok (.func (.func 18) #[] #[]) w := fun _ => by kernel_rfl
  go_enter Tryz.func12, Tryz.ntmps12
  go_wp2_with ((go_at_call 21; (with_reducible refine (knowers_w _).mono ?_); rintro e' w0 ⟨rfl, qk⟩; have HKw0 := Lib.hid qk; obtain ⟨qw00, qw01, qw02, qw03, qw04, qw05, qw06, qw07, qw08, qw09, qw010⟩ := qk.c11 (b := w.heap.size) (.int .i64 0) (.int .i64 0) (.int .i64 0) (.int .i64 0) (.int .i64 0) (.int .i64 0) (.int .i64 0) (.bool false) (.bool false) (.int .i64 0) (.int .u32 0); obtain ⟨zw00, zw01, zw02, zw03, zw04, zw05, zw06, zw07, zw08, zw09, zw010⟩ := qk.z11 (b := w.heap.size); dsimp only [knA]; have szw0 := qk.size; (try simp at szw0); have KWw0 := Lib.hid (Kp.trans ((Kp.refl w).allocs _ _) qk); have hw00 : w.heap.size < w0.heap.size := (by omega); have hw01 : ¬ w.heap.size = w0.heap.size := (by omega); have hw02 : ¬ w0.heap.size = w.heap.size := (by omega); clear qk))
  refine wp_loop_rounds 3 ?_
  rw [rounds_succ]
  go_wp2_with ((go_at_call 18; (with_reducible refine (decode_at x x0 x1 (some ⟨op, fn, rd, r1, r2, imm, wid, wo, us⟩) HS.out _).mono ?_); rintro e' w1 ⟨rfl, qk⟩; have HKw1 := Lib.hid qk; obtain ⟨qw10, qw11, qw12, qw13, qw14, qw15, qw16, qw17, qw18, qw19, qw110⟩ := qk.c11 (b := w.heap.size) (.int .i64 0) (.int .i64 0) (.int .i64 0) (.int .i64 0) (.int .i64 0) (.int .i64 0) (.int .i64 0) (.bool false) (.bool false) (.int .i64 0) (.int .u32 0); obtain ⟨zw10, zw11, zw12, zw13, zw14, zw15, zw16, zw17, zw18, zw19, zw110⟩ := qk.z11 (b := w.heap.size); dsimp only [decV, Ins.v, zIns]; have szw1 := qk.size; (try simp at szw1); have KWw1 := Lib.hid (Kp.trans (KWw0.out) qk); have hw10 : w.heap.size < w1.heap.size := (by omega); have hw11 : ¬ w.heap.size = w1.heap.size := (by omega); have hw12 : ¬ w1.heap.size = w.heap.size := (by omega); have hw01 : w0.heap.size ≤ w1.heap.size := (by omega); clear qk))
  refine bodyPost_ret ?_ rfl ⟨rfl, by (repeat' (first | with_reducible refine Kp.setCell ?_ ?_ _ | with_reducible refine Kp.allocs ?_ _ _ | with_reducible refine Kp.drew ?_ | with_reducible refine Kp.drewN ?_ _)); all_goals first | exact KWw1.out | (dsimp only; omega)⟩
  simp [results, Tryz.results12, go_sem, *]
set_option maxHeartbeats 8000000 in
theorem oflong_d (x : Int) (x0 : 0 ≤ x) (x1 : x < 4294967296) (i : Ins) (hs : spec x = none) (hd : dspec x = some i) (w : World) :
    Calls Tryz.prog 12 #[.int .u32 x] w fun e w' => e = .returned (Ins.v i 4 x) ∧ Kp w w' := by
  obtain ⟨op, fn, rd, r1, r2, imm, wid, wo, us⟩ := i
  have HS := Lib.hid hs
  have HD := Lib.hid hd
  clear hs hd
  dsimp only [Ins.v, zIns]
  have hI0 : ∀ w, (Instr.index 39 (.agg #[.func (.func 18) #[] #[], .func (.func 20) #[] #[]]) (.int .i64 0)).run Tryz.prog w = .ok (.func (.func 18) #[] #[]) w := fun _ => by kernel_rfl
  have hI1 : ∀ w, (Instr.index 39 (.agg #[.func (.func 18) #[] #[], .func (.func 20) #[] #[]]) (.int .i64 1)).run Tryz.prog w = .ok (.func (.func 20) #[] #[]) w := fun _ => by kernel_rfl
  go_enter Tryz.func12, Tryz.ntmps12
  go_wp2_with ((go_at_call 21; (with_reducible refine (knowers_w _).mono ?_); rintro e' w0 ⟨rfl, qk⟩; have HKw0 := Lib.hid qk; obtain ⟨qw00, qw01, qw02, qw03, qw04, qw05, qw06, qw07, qw08, qw09, qw010⟩ := qk.c11 (b := w.heap.size) (.int .i64 0) (.int .i64 0) (.int .i64 0) (.int .i64 0) (.int .i64 0) (.int .i64 0) (.int .i64 0) (.bool false) (.bool false) (.int .i64 0) (.int .u32 0); obtain ⟨zw00, zw01, zw02, zw03, zw04, zw05, zw06, zw07, zw08, zw09, zw010⟩ := qk.z11 (b := w.heap.size); dsimp only [knA]; have szw0 := qk.size; (try simp at szw0); have KWw0 := Lib.hid (Kp.trans ((Kp.refl w).allocs _ _) qk); have hw00 : w.heap.size < w0.heap.size := (by omega); have hw01 : ¬ w.heap.size = w0.heap.size := (by omega); have hw02 : ¬ w0.heap.size = w.heap.size := (by omega); clear qk))
  refine wp_loop_rounds 3 ?_
  rw [rounds_succ]
  go_wp2_with ((go_at_call 18; (with_reducible refine (decode_at x x0 x1 none HS.out _).mono ?_); rintro e' w1 ⟨rfl, qk⟩; have HKw1 := Lib.hid qk; obtain ⟨qw10, qw11, qw12, qw13, qw14, qw15, qw16, qw17, qw18, qw19, qw110⟩ := qk.c11 (b := w.heap.size) (.int .i64 0) (.int .i64 0) (.int .i64 0) (.int .i64 0) (.int .i64 0) (.int .i64 0) (.int .i64 0) (.bool false) (.bool false) (.int .i64 0) (.int .u32 0); obtain ⟨zw10, zw11, zw12, zw13, zw14, zw15, zw16, zw17, zw18, zw19, zw110⟩ := qk.z11 (b := w.heap.size); dsimp only [decV, Ins.v, zIns]; have szw1 := qk.size; (try simp at szw1); have KWw1 := Lib.hid (Kp.trans (KWw0.out) qk); have hw10 : w.heap.size < w1.heap.size := (by omega); have hw11 : ¬ w.heap.size = w1.heap.size := (by omega); have hw12 : ¬ w1.heap.size = w.heap.size := (by omega); have hw01 : w0.heap.size ≤ w1.heap.size := (by omega); clear qk))
  rw [rounds_succ]
  go_wp2_with ((go_at_call 20; (with_reducible refine (ddec_at x x0 x1 (some ⟨op, fn, rd, r1, r2, imm, wid, wo, us⟩) HD.out _).mono ?_); rintro e' w2 ⟨rfl, qk⟩; have HKw2 := Lib.hid qk; obtain ⟨qw20, qw21, qw22, qw23, qw24, qw25, qw26, qw27, qw28, qw29, qw210⟩ := qk.c11 (b := w.heap.size) (.int .i64 0) (.int .i64 0) (.int .i64 0) (.int .i64 0) (.int .i64 0) (.int .i64 0) (.int .i64 0) (.bool false) (.bool false) (.int .i64 0) (.int .u32 0); obtain ⟨zw20, zw21, zw22, zw23, zw24, zw25, zw26, zw27, zw28, zw29, zw210⟩ := qk.z11 (b := w.heap.size); dsimp only [ddV, Ins.v, zIns]; have szw2 := qk.size; (try simp at szw2); have KWw2 := Lib.hid (Kp.trans (KWw1.out.allocs _ _) qk); have hw20 : w.heap.size < w2.heap.size := (by omega); have hw21 : ¬ w.heap.size = w2.heap.size := (by omega); have hw22 : ¬ w2.heap.size = w.heap.size := (by omega); clear qk))
  refine bodyPost_ret ?_ rfl ⟨rfl, by (repeat' (first | with_reducible refine Kp.setCell ?_ ?_ _ | with_reducible refine Kp.allocs ?_ _ _ | with_reducible refine Kp.drew ?_ | with_reducible refine Kp.drewN ?_ _)); all_goals first | exact KWw2.out | (dsimp only; omega)⟩
  simp [results, Tryz.results12, go_sem, *]
set_option maxHeartbeats 8000000 in
theorem oflong_n (x : Int) (x0 : 0 ≤ x) (x1 : x < 4294967296) (hs : spec x = none) (hd : dspec x = none) (w : World) :
    Calls Tryz.prog 12 #[.int .u32 x] w fun e w' => e = .returned (Ins.v zIns 4 x) ∧ Kp w w' := by
  have HS := Lib.hid hs
  have HD := Lib.hid hd
  clear hs hd
  dsimp only [Ins.v, zIns]
  have hI0 : ∀ w, (Instr.index 39 (.agg #[.func (.func 18) #[] #[], .func (.func 20) #[] #[]]) (.int .i64 0)).run Tryz.prog w = .ok (.func (.func 18) #[] #[]) w := fun _ => by kernel_rfl
  have hI1 : ∀ w, (Instr.index 39 (.agg #[.func (.func 18) #[] #[], .func (.func 20) #[] #[]]) (.int .i64 1)).run Tryz.prog w = .ok (.func (.func 20) #[] #[]) w := fun _ => by kernel_rfl
  go_enter Tryz.func12, Tryz.ntmps12
  go_wp2_with ((go_at_call 21; (with_reducible refine (knowers_w _).mono ?_); rintro e' w0 ⟨rfl, qk⟩; have HKw0 := Lib.hid qk; obtain ⟨qw00, qw01, qw02, qw03, qw04, qw05, qw06, qw07, qw08, qw09, qw010⟩ := qk.c11 (b := w.heap.size) (.int .i64 0) (.int .i64 0) (.int .i64 0) (.int .i64 0) (.int .i64 0) (.int .i64 0) (.int .i64 0) (.bool false) (.bool false) (.int .i64 0) (.int .u32 0); obtain ⟨zw00, zw01, zw02, zw03, zw04, zw05, zw06, zw07, zw08, zw09, zw010⟩ := qk.z11 (b := w.heap.size); dsimp only [knA]; have szw0 := qk.size; (try simp at szw0); have KWw0 := Lib.hid (Kp.trans ((Kp.refl w).allocs _ _) qk); have hw00 : w.heap.size < w0.heap.size := (by omega); have hw01 : ¬ w.heap.size = w0.heap.size := (by omega); have hw02 : ¬ w0.heap.size = w.heap.size := (by omega); clear qk))
  refine wp_loop_rounds 3 ?_
  rw [rounds_succ]
  go_wp2_with ((go_at_call 18; (with_reducible refine (decode_at x x0 x1 none HS.out _).mono ?_); rintro e' w1 ⟨rfl, qk⟩; have HKw1 := Lib.hid qk; obtain ⟨qw10, qw11, qw12, qw13, qw14, qw15, qw16, qw17, qw18, qw19, qw110⟩ := qk.c11 (b := w.heap.size) (.int .i64 0) (.int .i64 0) (.int .i64 0) (.int .i64 0) (.int .i64 0) (.int .i64 0) (.int .i64 0) (.bool false) (.bool false) (.int .i64 0) (.int .u32 0); obtain ⟨zw10, zw11, zw12, zw13, zw14, zw15, zw16, zw17, zw18, zw19, zw110⟩ := qk.z11 (b := w.heap.size); dsimp only [decV, Ins.v, zIns]; have szw1 := qk.size; (try simp at szw1); have KWw1 := Lib.hid (Kp.trans (KWw0.out) qk); have hw10 : w.heap.size < w1.heap.size := (by omega); have hw11 : ¬ w.heap.size = w1.heap.size := (by omega); have hw12 : ¬ w1.heap.size = w.heap.size := (by omega); have hw01 : w0.heap.size ≤ w1.heap.size := (by omega); clear qk))
  rw [rounds_succ]
  go_wp2_with ((go_at_call 20; (with_reducible refine (ddec_at x x0 x1 none HD.out _).mono ?_); rintro e' w2 ⟨rfl, qk⟩; have HKw2 := Lib.hid qk; obtain ⟨qw20, qw21, qw22, qw23, qw24, qw25, qw26, qw27, qw28, qw29, qw210⟩ := qk.c11 (b := w.heap.size) (.int .i64 0) (.int .i64 0) (.int .i64 0) (.int .i64 0) (.int .i64 0) (.int .i64 0) (.int .i64 0) (.bool false) (.bool false) (.int .i64 0) (.int .u32 0); obtain ⟨zw20, zw21, zw22, zw23, zw24, zw25, zw26, zw27, zw28, zw29, zw210⟩ := qk.z11 (b := w.heap.size); dsimp only [ddV, Ins.v, zIns]; have szw2 := qk.size; (try simp at szw2); have KWw2 := Lib.hid (Kp.trans (KWw1.out.allocs _ _) qk); have hw20 : w.heap.size < w2.heap.size := (by omega); have hw21 : ¬ w.heap.size = w2.heap.size := (by omega); have hw22 : ¬ w2.heap.size = w.heap.size := (by omega); clear qk))
  rw [rounds_succ]
  go_wp2_with ((go_at_call 22; (with_reducible refine (illegal_w 4 x _).mono ?_); rintro e' w3 ⟨rfl, qk⟩; have HKw3 := Lib.hid qk; obtain ⟨qw30, qw31, qw32, qw33, qw34, qw35, qw36, qw37, qw38, qw39, qw310⟩ := qk.c11 (b := w.heap.size) (.int .i64 0) (.int .i64 0) (.int .i64 0) (.int .i64 0) (.int .i64 0) (.int .i64 0) (.int .i64 0) (.bool false) (.bool false) (.int .i64 0) (.int .u32 0); obtain ⟨zw30, zw31, zw32, zw33, zw34, zw35, zw36, zw37, zw38, zw39, zw310⟩ := qk.z11 (b := w.heap.size); have szw3 := qk.size; (try simp at szw3); have KWw3 := Lib.hid (Kp.trans (KWw2.out.allocs _ _) qk); have hw30 : w.heap.size < w3.heap.size := (by omega); have hw31 : ¬ w.heap.size = w3.heap.size := (by omega); have hw32 : ¬ w3.heap.size = w.heap.size := (by omega); clear qk))
  refine bodyPost_ret ?_ rfl ⟨rfl, by (repeat' (first | with_reducible refine Kp.setCell ?_ ?_ _ | with_reducible refine Kp.allocs ?_ _ _ | with_reducible refine Kp.drew ?_ | with_reducible refine Kp.drewN ?_ _)); all_goals first | exact KWw3.out | (dsimp only; omega)⟩
  simp [results, Tryz.results12, go_sem, *]
set_option maxHeartbeats 8000000 in
theorem ofhalf_n (h : Nat) (h1 : h < 65536) (he : ex h = none) (w : World) (tb : Tb w) :
    Calls Tryz.prog 13 #[.int .u16 (h : Int)] w fun e w' => e = .returned (Ins.v zIns 2 (h : Int)) ∧ Kp w w' := by
  have HE := Lib.hid he
  have TB := Lib.hid (tb.kp ((Kp.refl w).allocs #[.int .i64 0, .int .i64 0, .int .i64 0, .int .i64 0, .int .i64 0, .int .i64 0, .int .i64 0, .bool false, .bool false, .int .i64 0, .int .u32 0] 24))
  clear he tb
  dsimp only [Ins.v, zIns]
  have hwr : IntKind.u32.wrap (h : Int) = h := by rw [IntKind.wrap_u32]; omega
  go_enter Tryz.func13, Tryz.ntmps13
  go_wp2_with (first | (go_at_call 17; (with_reducible refine (expand_n h h1 HE.out _ TB.out).mono ?_); rintro e' w1 ⟨rfl, qk⟩; have HKw1 := Lib.hid qk; obtain ⟨qw10, qw11, qw12, qw13, qw14, qw15, qw16, qw17, qw18, qw19, qw110⟩ := qk.c11 (b := w.heap.size) (.int .i64 0) (.int .i64 0) (.int .i64 0) (.int .i64 0) (.int .i64 0) (.int .i64 0) (.int .i64 0) (.bool false) (.bool false) (.int .i64 0) (.int .u32 0); obtain ⟨zw10, zw11, zw12, zw13, zw14, zw15, zw16, zw17, zw18, zw19, zw110⟩ := qk.z11 (b := w.heap.size); have szw1 := qk.size; (try simp at szw1); have KWw1 := Lib.hid (Kp.trans ((Kp.refl w).allocs _ _) qk); have hw10 : w.heap.size < w1.heap.size := (by omega); have hw11 : ¬ w.heap.size = w1.heap.size := (by omega); have hw12 : ¬ w1.heap.size = w.heap.size := (by omega); clear qk) | (go_at_call 22; (with_reducible refine (illegal_w 2 h _).mono ?_); rintro e' w2 ⟨rfl, qk⟩; have HKw2 := Lib.hid qk; obtain ⟨qw20, qw21, qw22, qw23, qw24, qw25, qw26, qw27, qw28, qw29, qw210⟩ := qk.c11 (b := w.heap.size) (.int .i64 0) (.int .i64 0) (.int .i64 0) (.int .i64 0) (.int .i64 0) (.int .i64 0) (.int .i64 0) (.bool false) (.bool false) (.int .i64 0) (.int .u32 0); obtain ⟨zw20, zw21, zw22, zw23, zw24, zw25, zw26, zw27, zw28, zw29, zw210⟩ := qk.z11 (b := w.heap.size); have szw2 := qk.size; (try simp at szw2); have KWw2 := Lib.hid (Kp.trans (KWw1.out) qk); have hw20 : w.heap.size < w2.heap.size := (by omega); have hw21 : ¬ w.heap.size = w2.heap.size := (by omega); have hw22 : ¬ w2.heap.size = w.heap.size := (by omega); clear qk))
  refine bodyPost_ret ?_ rfl ⟨rfl, by (repeat' (first | with_reducible refine Kp.setCell ?_ ?_ _ | with_reducible refine Kp.allocs ?_ _ _ | with_reducible refine Kp.drew ?_ | with_reducible refine Kp.drewN ?_ _)); all_goals first | exact KWw2.out | (dsimp only; omega)⟩
  simp [results, Tryz.results13, go_sem, *]
set_option maxHeartbeats 8000000 in
theorem ofhalf_s (h : Nat) (h1 : h < 65536) (v : Nat) (i : Ins) (he : ex h = some v) (v1 : v < 4294967296) (hs : spec v = some i) (w : World) (tb : Tb w) :
    Calls Tryz.prog 13 #[.int .u16 (h : Int)] w fun e w' => e = .returned (Ins.v i 2 (h : Int)) ∧ Kp w w' := by
  obtain ⟨op, fn, rd, r1, r2, imm, wid, wo, us⟩ := i
  have HE := Lib.hid he
  have HS := Lib.hid hs
  have TB := Lib.hid (tb.kp ((Kp.refl w).allocs #[.int .i64 0, .int .i64 0, .int .i64 0, .int .i64 0, .int .i64 0, .int .i64 0, .int .i64 0, .bool false, .bool false, .int .i64 0, .int .u32 0] 24))
  clear he hs tb
  dsimp only [Ins.v, zIns]
  have hwr : IntKind.u32.wrap (h : Int) = h := by rw [IntKind.wrap_u32]; omega
  go_enter Tryz.func13, Tryz.ntmps13
  go_wp2_with (first | (go_at_call 17; (with_reducible refine (expand_s h h1 v HE.out _ TB.out).mono ?_); rintro e' w1 ⟨rfl, qk⟩; have HKw1 := Lib.hid qk; obtain ⟨qw10, qw11, qw12, qw13, qw14, qw15, qw16, qw17, qw18, qw19, qw110⟩ := qk.c11 (b := w.heap.size) (.int .i64 0) (.int .i64 0) (.int .i64 0) (.int .i64 0) (.int .i64 0) (.int .i64 0) (.int .i64 0) (.bool false) (.bool false) (.int .i64 0) (.int .u32 0); obtain ⟨zw10, zw11, zw12, zw13, zw14, zw15, zw16, zw17, zw18, zw19, zw110⟩ := qk.z11 (b := w.heap.size); have szw1 := qk.size; (try simp at szw1); have KWw1 := Lib.hid (Kp.trans ((Kp.refl w).allocs _ _) qk); have hw10 : w.heap.size < w1.heap.size := (by omega); have hw11 : ¬ w.heap.size = w1.heap.size := (by omega); have hw12 : ¬ w1.heap.size = w.heap.size := (by omega); clear qk) | (go_at_call 18; (with_reducible refine (decode_at v (by omega) (by omega) (some ⟨op, fn, rd, r1, r2, imm, wid, wo, us⟩) HS.out _).mono ?_); rintro e' w2 ⟨rfl, qk⟩; have HKw2 := Lib.hid qk; obtain ⟨qw20, qw21, qw22, qw23, qw24, qw25, qw26, qw27, qw28, qw29, qw210⟩ := qk.c11 (b := w.heap.size) (.int .i64 0) (.int .i64 0) (.int .i64 0) (.int .i64 0) (.int .i64 0) (.int .i64 0) (.int .i64 0) (.bool false) (.bool false) (.int .i64 0) (.int .u32 0); obtain ⟨zw20, zw21, zw22, zw23, zw24, zw25, zw26, zw27, zw28, zw29, zw210⟩ := qk.z11 (b := w.heap.size); dsimp only [decV, Ins.v, zIns]; have szw2 := qk.size; (try simp at szw2); have KWw2 := Lib.hid (Kp.trans (KWw1.out) qk); have hw20 : w.heap.size < w2.heap.size := (by omega); have hw21 : ¬ w.heap.size = w2.heap.size := (by omega); have hw22 : ¬ w2.heap.size = w.heap.size := (by omega); clear qk))
  refine bodyPost_ret ?_ rfl ⟨rfl, by (repeat' (first | with_reducible refine Kp.setCell ?_ ?_ _ | with_reducible refine Kp.allocs ?_ _ _ | with_reducible refine Kp.drew ?_ | with_reducible refine Kp.drewN ?_ _)); all_goals first | exact KWw2.out | (dsimp only; omega)⟩
  simp [results, Tryz.results13, go_sem, *]
set_option maxHeartbeats 8000000 in
theorem dec_long (x : Int) (x0 : 0 ≤ x) (x1 : x < 4294967296) (hl : x % 4 = 3) (i : Ins) (c : ∀ w, Calls Tryz.prog 12 #[.int .u32 x] w fun e w' => e = .returned (Ins.v i 4 x) ∧ Kp w w') (w : World) :
    Calls Tryz.prog 5 #[.int .u32 x] w fun e w' => e = .returned (Ins.v i 4 x) ∧ Kp w w' := by
  obtain ⟨op, fn, rd, r1, r2, imm, wid, wo, us⟩ := i
  have HC := Lib.hid c
  clear c
  dsimp only [Ins.v] at *
  have hw : IntKind.u16.wrap x = x % 65536 := by rw [IntKind.wrap_u16]
  have hb : ((x % 65536) % 4 == 3) = true := by simp; omega
  have HB := Lib.hid hb
  clear hb
  go_enter Tryz.func5, Tryz.ntmps5
  go_wp2_with (first | (go_at_call 7; (with_reducible refine (long_w (x % 65536) (by omega) (by omega) true HB.out _).mono ?_); rintro e' wl ⟨rfl, rfl⟩) | (go_at_call 12; (with_reducible refine (HC.out _).mono ?_); rintro e' w1 ⟨rfl, qk⟩; have HKw1 := Lib.hid qk; obtain ⟨qw10, qw11, qw12, qw13, qw14, qw15, qw16, qw17, qw18, qw19, qw110⟩ := qk.c11 (b := w.heap.size) (.int .i64 0) (.int .i64 0) (.int .i64 0) (.int .i64 0) (.int .i64 0) (.int .i64 0) (.int .i64 0) (.bool false) (.bool false) (.int .i64 0) (.int .u32 0); obtain ⟨zw10, zw11, zw12, zw13, zw14, zw15, zw16, zw17, zw18, zw19, zw110⟩ := qk.z11 (b := w.heap.size); have szw1 := qk.size; (try simp at szw1); have KWw1 := Lib.hid (Kp.trans ((Kp.refl w).allocs _ _) qk); have hw10 : w.heap.size < w1.heap.size := (by omega); have hw11 : ¬ w.heap.size = w1.heap.size := (by omega); have hw12 : ¬ w1.heap.size = w.heap.size := (by omega); clear qk))
  refine bodyPost_ret ?_ rfl ⟨rfl, by (repeat' (first | with_reducible refine Kp.setCell ?_ ?_ _ | with_reducible refine Kp.allocs ?_ _ _ | with_reducible refine Kp.drew ?_ | with_reducible refine Kp.drewN ?_ _)); all_goals first | exact KWw1.out | (dsimp only; omega)⟩
  simp [results, Tryz.results5, go_sem, *]
set_option maxHeartbeats 8000000 in
theorem dec_half (x : Int) (x0 : 0 ≤ x) (x1 : x < 4294967296) (hl : ¬ x % 4 = 3) (h : Nat) (hh : (h : Int) = x % 65536) (i : Ins) (c : ∀ w, Tb w → Calls Tryz.prog 13 #[.int .u16 (h : Int)] w fun e w' => e = .returned (Ins.v i 2 (h : Int)) ∧ Kp w w') (w : World) (tb : Tb w) :
    Calls Tryz.prog 5 #[.int .u32 x] w fun e w' => e = .returned (Ins.v i 2 (h : Int)) ∧ Kp w w' := by
  obtain ⟨op, fn, rd, r1, r2, imm, wid, wo, us⟩ := i
  have HC := Lib.hid c
  have TB := Lib.hid (tb.kp ((Kp.refl w).allocs #[.int .i64 0, .int .i64 0, .int .i64 0, .int .i64 0, .int .i64 0, .int .i64 0, .int .i64 0, .bool false, .bool false, .int .i64 0, .int .u32 0] 24))
  clear c tb
  dsimp only [Ins.v] at *
  have hw : IntKind.u16.wrap x = (h : Int) := by rw [IntKind.wrap_u16]; omega
  have hb : ((h : Int) % 4 == 3) = false := by simp; omega
  have HB := Lib.hid hb
  have hlt : (h : Int) < 65536 := by omega
  clear hb hh hl
  go_enter Tryz.func5, Tryz.ntmps5
  go_wp2_with (first | (go_at_call 7; (with_reducible refine (long_w (h : Int) (by omega) hlt false HB.out _).mono ?_); rintro e' wl ⟨rfl, rfl⟩) | (go_at_call 13; (with_reducible refine (HC.out _ TB.out).mono ?_); rintro e' w1 ⟨rfl, qk⟩; have HKw1 := Lib.hid qk; obtain ⟨qw10, qw11, qw12, qw13, qw14, qw15, qw16, qw17, qw18, qw19, qw110⟩ := qk.c11 (b := w.heap.size) (.int .i64 0) (.int .i64 0) (.int .i64 0) (.int .i64 0) (.int .i64 0) (.int .i64 0) (.int .i64 0) (.bool false) (.bool false) (.int .i64 0) (.int .u32 0); obtain ⟨zw10, zw11, zw12, zw13, zw14, zw15, zw16, zw17, zw18, zw19, zw110⟩ := qk.z11 (b := w.heap.size); have szw1 := qk.size; (try simp at szw1); have KWw1 := Lib.hid (Kp.trans ((Kp.refl w).allocs _ _) qk); have hw10 : w.heap.size < w1.heap.size := (by omega); have hw11 : ¬ w.heap.size = w1.heap.size := (by omega); have hw12 : ¬ w1.heap.size = w.heap.size := (by omega); clear qk))
  refine bodyPost_ret ?_ rfl ⟨rfl, by (repeat' (first | with_reducible refine Kp.setCell ?_ ?_ _ | with_reducible refine Kp.allocs ?_ _ _ | with_reducible refine Kp.drew ?_ | with_reducible refine Kp.drewN ?_ _)); all_goals first | exact KWw1.out | (dsimp only; omega)⟩
  simp [results, Tryz.results5, go_sem, *]
/-- Decode answers what the document says, of any word. -/
theorem dcd_w (x : Int) (x0 : 0 ≤ x) (x1 : x < 4294967296) (w : World) (tb : Tb w) :
    Calls Tryz.prog 5 #[.int .u32 x] w fun e w' => e = .returned (dcd x).v ∧ Kp w w' := by
  unfold dcd Dc.v
  split
  · rename_i hl
    unfold lngD
    cases hs : spec x with
    | some i => exact dec_long x x0 x1 hl i (oflong_b x x0 x1 i hs) w
    | none =>
      cases hd : dspec x with
      | some i => exact dec_long x x0 x1 hl i (oflong_d x x0 x1 i hs hd) w
      | none => exact dec_long x x0 x1 hl zIns (oflong_n x x0 x1 hs hd) w
  · rename_i hl
    have e : (((x % 65536).toNat : Nat) : Int) = x % 65536 := Int.toNat_of_nonneg (by omega)
    generalize (x % 65536).toNat = h at *
    have hx : h < 65536 := by omega
    unfold hlfD
    rcases facts h hx with ⟨he, d⟩ | ⟨v, i, he, d, v0, v1, m1, m2, hi, hk, hr, ht⟩
    · rw [he]; exact dec_half x x0 x1 hl h e zIns (ofhalf_n h hx he) w tb
    · rw [he]; dsimp only; rw [hi]; exact dec_half x x0 x1 hl h e i (ofhalf_s h hx v i he v1 hi) w tb
end Go.Proofs.YtlfeandnpflaaaaGreatDoor
namespace Go.Proofs.YtlfeandnpflaaaaGreatDoor
open Go.ChangeShapes Go.WideShapes Go.ChangeAt Go.RowKit
set_option linter.unusedVariables false
set_option linter.unusedSimpArgs false
deriving instance DecidableEq for Dc
theorem dcd_at (x : Int) (x0 : 0 ≤ x) (x1 : x < 4294967296) (d : Dc) (h : dcd x = d) (w : World) (tb : Tb w) :
    Calls Tryz.prog 5 #[.int .u32 x] w fun e w' => e = .returned d.v ∧ Kp w w' := by subst h; exact dcd_w x x0 x1 w tb
theorem long_k (x : Int) (x0 : 0 ≤ x) (x1 : x < 65536) (b : Bool) (hb : (x % 4 == 3) = b) (w : World) :
    Calls Tryz.prog 7 #[.int .u16 x] w fun e w' => e = .returned (.bool b) ∧ Kp w w' :=
  (long_w x x0 x1 b hb w).mono fun _ _ h => ⟨h.1, by obtain ⟨_, rfl⟩ := h; exact Kp.refl _⟩
theorem dc_a : dcd 10487059 = ⟨⟨8, 0, 10, 0, 0, 10, 0, false, false⟩, 4, 10487059⟩ := by decide +kernel
theorem dc_b : dcd 4294919465 = ⟨⟨8, 0, 10, 0, 0, 10, 0, false, false⟩, 2, 17705⟩ := by decide +kernel
theorem dc_c : dcd 4294967295 = ⟨⟨0, 0, 0, 0, 0, 0, 0, false, false⟩, 4, 4294967295⟩ := by decide +kernel
set_option maxHeartbeats 8000000 in
theorem works10_w (w : World) (tb : Tb w) : Calls Tryz.prog 9 #[] w fun e w' => e = .returned (.bool true) ∧ Kp w w' := by
  have q1 := ins_eql 8 0 10 0 0 10 0 false false 4 10487059
  have q2 := ins_eql 8 0 10 0 0 10 0 false false 2 17705
  have q3 := ins_eql 0 0 0 0 0 0 0 false false 4 4294967295
  have TB := Lib.hid tb
  clear tb
  go_enter Tryz.func9, Tryz.ntmps9
  go_wp2_with (first | (go_at_call 5; (with_reducible refine (dcd_at 10487059 (by decide) (by decide) _ dc_a _ TB.out).mono ?_); rintro e' w1 ⟨rfl, qk⟩; have HKw1 := Lib.hid qk; dsimp only [Dc.v, Ins.v]; have szw1 := qk.size; (try simp at szw1); have KWw1 := Lib.hid (Kp.trans (Kp.refl w) qk); have TB1 := Lib.hid ((TB.out.kp qk).kp ((Kp.refl _).allocs #[.int .i64 8, .int .i64 0, .int .i64 10, .int .i64 0, .int .i64 0, .int .i64 10, .int .i64 0, .bool false, .bool false, .int .i64 4, .int .u32 10487059] 24)); clear qk) | (go_at_call 5; (with_reducible refine (dcd_at 4294919465 (by decide) (by decide) _ dc_b _ TB1.out).mono ?_); rintro e' w2 ⟨rfl, qk⟩; have HKw2 := Lib.hid qk; obtain ⟨qw20, qw21, qw22, qw23, qw24, qw25, qw26, qw27, qw28, qw29, qw210⟩ := qk.c11 (b := w1.heap.size) (.int .i64 8) (.int .i64 0) (.int .i64 10) (.int .i64 0) (.int .i64 0) (.int .i64 10) (.int .i64 0) (.bool false) (.bool false) (.int .i64 4) (.int .u32 10487059); dsimp only [Dc.v, Ins.v]; have szw2 := qk.size; (try simp at szw2); have KWw2 := Lib.hid (Kp.trans (KWw1.out.allocs _ _) qk); have qa0 : w1.heap.size < w2.heap.size := (by omega); have qa1 : ¬ w1.heap.size = w2.heap.size := (by omega); have qa2 : ¬ w2.heap.size = w1.heap.size := (by omega); have TB2 := Lib.hid ((TB1.out.kp qk).kp ((Kp.refl _).allocs #[.int .i64 8, .int .i64 0, .int .i64 10, .int .i64 0, .int .i64 0, .int .i64 10, .int .i64 0, .bool false, .bool false, .int .i64 2, .int .u32 17705] 24)); clear qk) | (go_at_call 5; (with_reducible refine (dcd_at 4294967295 (by decide) (by decide) _ dc_c _ TB2.out).mono ?_); rintro e' w3 ⟨rfl, qk⟩; have HKw3 := Lib.hid qk; obtain ⟨qw30, qw31, qw32, qw33, qw34, qw35, qw36, qw37, qw38, qw39, qw310⟩ := qk.c11 (b := w1.heap.size) (.int .i64 8) (.int .i64 0) (.int .i64 10) (.int .i64 0) (.int .i64 0) (.int .i64 10) (.int .i64 0) (.bool false) (.bool false) (.int .i64 4) (.int .u32 10487059); obtain ⟨qw311, qw312, qw313, qw314, qw315, qw316, qw317, qw318, qw319, qw320, qw321⟩ := qk.c11 (b := w2.heap.size) (.int .i64 8) (.int .i64 0) (.int .i64 10) (.int .i64 0) (.int .i64 0) (.int .i64 10) (.int .i64 0) (.bool false) (.bool false) (.int .i64 2) (.int .u32 17705); dsimp only [Dc.v, Ins.v]; have szw3 := qk.size; (try simp at szw3); have KWw3 := Lib.hid (Kp.trans (KWw2.out.allocs _ _) qk); have qb0 : w1.heap.size < w3.heap.size := (by omega); have qb1 : ¬ w1.heap.size = w3.heap.size := (by omega); have qb2 : ¬ w3.heap.size = w1.heap.size := (by omega); have qc0 : w2.heap.size < w3.heap.size := (by omega); have qc1 : ¬ w2.heap.size = w3.heap.size := (by omega); have qc2 : ¬ w3.heap.size = w2.heap.size := (by omega); clear qk) | (go_at_call 7; (with_reducible refine (long_w 3 (by decide) (by decide) true (by decide) _).mono ?_); rintro e' wl ⟨rfl, rfl⟩) | (go_at_call 7; (with_reducible refine (long_w 2 (by decide) (by decide) false (by decide) _).mono ?_); rintro e' wl ⟨rfl, rfl⟩))
  go_ret
  exact ⟨rfl, KWw3.out.allocs _ _⟩
set_option maxHeartbeats 8000000 in
theorem capable_w (i : Ins) (ln raw : Int) (b : Bool) (hb : capB i = b) (w : World) : Calls Tryz.prog 19 #[i.v ln raw] w fun e w' => e = .returned (.bool b) ∧ Kp w w' := by
  obtain ⟨op, fn, rd, r1, r2, imm, wid, wo, us⟩ := i
  unfold capB at hb
  dsimp only [Ins.v] at *
  rcases (show (23 ≤ op ∧ op ≤ 29) ∨ (op = 6 ∧ wid = 7) ∨ (op = 6 ∧ ¬ wid = 7) ∨ (op = 7 ∧ wid = 7) ∨ (op = 7 ∧ ¬ wid = 7) ∨ (op < 23 ∧ ¬ op = 6 ∧ ¬ op = 7) ∨ (29 < op) by omega) with h | h | h | h | h | h | h
  · have t0 : (decide (23 ≤ op)) = true := by simp; omega
    have t1 : (decide (op ≤ 29)) = true := by simp; omega
    have e : b = true := by rw [← hb]; simp only [t0, t1]; simp
    subst e
    clear hb h
    go_enter Tryz.func19, Tryz.ntmps19
    go_wp2
    go_ret
    exact ⟨rfl, (Kp.refl w).allocs _ _⟩
  · have t0 : (decide (23 ≤ op)) = false := by simp; omega
    have t1 : ((op == 6)) = true := by simp; omega
    have t2 : ((wid == 7)) = true := by simp; omega
    have e : b = true := by rw [← hb]; simp only [t0, t1, t2]; simp
    subst e
    clear hb h
    go_enter Tryz.func19, Tryz.ntmps19
    go_wp2
    go_ret
    exact ⟨rfl, (Kp.refl w).allocs _ _⟩
  · have t0 : (decide (23 ≤ op)) = false := by simp; omega
    have t1 : ((op == 6)) = true := by simp; omega
    have t2 : ((wid == 7)) = false := by simp; omega
    have e : b = false := by rw [← hb]; simp only [t0, t1, t2]; simp
    subst e
    clear hb h
    go_enter Tryz.func19, Tryz.ntmps19
    go_wp2
    go_ret
    exact ⟨rfl, (Kp.refl w).allocs _ _⟩
  · have t0 : (decide (23 ≤ op)) = false := by simp; omega
    have t1 : ((op == 6)) = false := by simp; omega
    have t2 : ((op == 7)) = true := by simp; omega
    have t3 : ((wid == 7)) = true := by simp; omega
    have e : b = true := by rw [← hb]; simp only [t0, t1, t2, t3]; simp
    subst e
    clear hb h
    go_enter Tryz.func19, Tryz.ntmps19
    go_wp2
    go_ret
    exact ⟨rfl, (Kp.refl w).allocs _ _⟩
  · have t0 : (decide (23 ≤ op)) = false := by simp; omega
    have t1 : ((op == 6)) = false := by simp; omega
    have t2 : ((op == 7)) = true := by simp; omega
    have t3 : ((wid == 7)) = false := by simp; omega
    have e : b = false := by rw [← hb]; simp only [t0, t1, t2, t3]; simp
    subst e
    clear hb h
    go_enter Tryz.func19, Tryz.ntmps19
    go_wp2
    go_ret
    exact ⟨rfl, (Kp.refl w).allocs _ _⟩
  · have t0 : (decide (23 ≤ op)) = false := by simp; omega
    have t1 : ((op == 6)) = false := by simp; omega
    have t2 : ((op == 7)) = false := by simp; omega
    have e : b = false := by rw [← hb]; simp only [t0, t1, t2]; simp
    subst e
    clear hb h
    go_enter Tryz.func19, Tryz.ntmps19
    go_wp2
    go_ret
    exact ⟨rfl, (Kp.refl w).allocs _ _⟩
  · have t0 : (decide (23 ≤ op)) = true := by simp; omega
    have t1 : (decide (op ≤ 29)) = false := by simp; omega
    have t2 : ((op == 6)) = false := by simp; omega
    have t3 : ((op == 7)) = false := by simp; omega
    have e : b = false := by rw [← hb]; simp only [t0, t1, t2, t3]; simp
    subst e
    clear hb h
    go_enter Tryz.func19, Tryz.ntmps19
    go_wp2
    go_ret
    exact ⟨rfl, (Kp.refl w).allocs _ _⟩
end Go.Proofs.YtlfeandnpflaaaaGreatDoor
