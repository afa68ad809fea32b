/-
  Contracts of rvc's makers of closures, and of its array of functions. No condition.
-/
import Derived.Test.YtlfeandnpflaaaaGreatDoorME
import Derived.Laws.Tables
import Derived.Laws.Rows
import Derived.Laws.CopyOwn
import Derived.Deep.WholeRow
namespace Go.Proofs.YtlfeandnpflaaaaGreatDoor
open Go.ChangeShapes Go.WideShapes Go.ChangeAt Go.RowKit
set_option linter.unusedVariables false
set_option linter.unusedSimpArgs false
theorem mk_nearLoad (p q : Int) (w : World) : Calls Tryz.prog 58 #[.int .u32 p, .int .i64 q] w fun e w' =>
    ∃ b1 b2, e = .returned (.func (.func 103) #[] #[.pointer (some ⟨b1, 0, none⟩), .pointer (some ⟨b2, 0, none⟩)]) ∧ Kp w w' ∧ w.heap.size ≤ b1 ∧ b1 < w'.heap.size ∧ w.heap.size ≤ b2 ∧ b2 < w'.heap.size ∧ w'.cell? ⟨b1, 0, none⟩ = some (.int .u32 p) ∧ w'.cell? ⟨b2, 0, none⟩ = some (.int .i64 q) := by
  go_enter Tryz.func58, Tryz.ntmps58
  go_wp2
  go_ret
  exact ⟨w.heap.size, w.heap.size + 1, rfl, ((Kp.refl w).allocs _ _).allocs _ _, by simp, by simp; omega, by simp, by simp, by simp [go_sem], by simp [go_sem]⟩
theorem mk_nearStore (p q : Int) (w : World) : Calls Tryz.prog 59 #[.int .u32 p, .int .i64 q] w fun e w' =>
    ∃ b1 b2, e = .returned (.func (.func 105) #[] #[.pointer (some ⟨b1, 0, none⟩), .pointer (some ⟨b2, 0, none⟩)]) ∧ Kp w w' ∧ w.heap.size ≤ b1 ∧ b1 < w'.heap.size ∧ w.heap.size ≤ b2 ∧ b2 < w'.heap.size ∧ w'.cell? ⟨b1, 0, none⟩ = some (.int .u32 p) ∧ w'.cell? ⟨b2, 0, none⟩ = some (.int .i64 q) := by
  go_enter Tryz.func59, Tryz.ntmps59
  go_wp2
  go_ret
  exact ⟨w.heap.size, w.heap.size + 1, rfl, ((Kp.refl w).allocs _ _).allocs _ _, by simp, by simp; omega, by simp, by simp, by simp [go_sem], by simp [go_sem]⟩
theorem mk_stackLoad (p q : Int) (w : World) : Calls Tryz.prog 68 #[.int .u32 p, .int .i64 q] w fun e w' =>
    ∃ b1 b2, e = .returned (.func (.func 112) #[] #[.pointer (some ⟨b1, 0, none⟩), .pointer (some ⟨b2, 0, none⟩)]) ∧ Kp w w' ∧ w.heap.size ≤ b1 ∧ b1 < w'.heap.size ∧ w.heap.size ≤ b2 ∧ b2 < w'.heap.size ∧ w'.cell? ⟨b1, 0, none⟩ = some (.int .u32 p) ∧ w'.cell? ⟨b2, 0, none⟩ = some (.int .i64 q) := by
  go_enter Tryz.func68, Tryz.ntmps68
  go_wp2
  go_ret
  exact ⟨w.heap.size, w.heap.size + 1, rfl, ((Kp.refl w).allocs _ _).allocs _ _, by simp, by simp; omega, by simp, by simp, by simp [go_sem], by simp [go_sem]⟩
theorem mk_stackStore (p q : Int) (w : World) : Calls Tryz.prog 70 #[.int .u32 p, .int .i64 q] w fun e w' =>
    ∃ b1 b2, e = .returned (.func (.func 116) #[] #[.pointer (some ⟨b1, 0, none⟩), .pointer (some ⟨b2, 0, none⟩)]) ∧ Kp w w' ∧ w.heap.size ≤ b1 ∧ b1 < w'.heap.size ∧ w.heap.size ≤ b2 ∧ b2 < w'.heap.size ∧ w'.cell? ⟨b1, 0, none⟩ = some (.int .u32 p) ∧ w'.cell? ⟨b2, 0, none⟩ = some (.int .i64 q) := by
  go_enter Tryz.func70, Tryz.ntmps70
  go_wp2
  go_ret
  exact ⟨w.heap.size, w.heap.size + 1, rfl, ((Kp.refl w).allocs _ _).allocs _ _, by simp, by simp; omega, by simp, by simp, by simp [go_sem], by simp [go_sem]⟩
theorem mk_branch (p : Int) (w : World) : Calls Tryz.prog 66 #[.int .u32 p] w fun e w' =>
    ∃ b1, e = .returned (.func (.func 111) #[] #[.pointer (some ⟨b1, 0, none⟩)]) ∧ Kp w w' ∧ w.heap.size ≤ b1 ∧ b1 < w'.heap.size ∧ w'.cell? ⟨b1, 0, none⟩ = some (.int .u32 p) := by
  go_enter Tryz.func66, Tryz.ntmps66
  go_wp2
  go_ret
  exact ⟨w.heap.size, rfl, (Kp.refl w).allocs _ _, by simp, by simp, by simp [go_sem]⟩
/-- What the closures keep. -/
structure RC (w : World) (b0 b1 b2 b3 b4 b5 b6 b7 b8 b9 b10 b11 b12 b13 b14 b15 b16 b17 : Nat) : Prop where
  c0 : w.cell? ⟨b0, 0, none⟩ = some (.int .u32 2)
  c1 : w.cell? ⟨b1, 0, none⟩ = some (.int .i64 4)
  c2 : w.cell? ⟨b2, 0, none⟩ = some (.int .u32 3)
  c3 : w.cell? ⟨b3, 0, none⟩ = some (.int .i64 5)
  c4 : w.cell? ⟨b4, 0, none⟩ = some (.int .u32 2)
  c5 : w.cell? ⟨b5, 0, none⟩ = some (.int .i64 4)
  c6 : w.cell? ⟨b6, 0, none⟩ = some (.int .u32 3)
  c7 : w.cell? ⟨b7, 0, none⟩ = some (.int .i64 5)
  c8 : w.cell? ⟨b8, 0, none⟩ = some (.int .u32 0)
  c9 : w.cell? ⟨b9, 0, none⟩ = some (.int .u32 1)
  c10 : w.cell? ⟨b10, 0, none⟩ = some (.int .u32 2)
  c11 : w.cell? ⟨b11, 0, none⟩ = some (.int .i64 6)
  c12 : w.cell? ⟨b12, 0, none⟩ = some (.int .u32 3)
  c13 : w.cell? ⟨b13, 0, none⟩ = some (.int .i64 7)
  c14 : w.cell? ⟨b14, 0, none⟩ = some (.int .u32 2)
  c15 : w.cell? ⟨b15, 0, none⟩ = some (.int .i64 8)
  c16 : w.cell? ⟨b16, 0, none⟩ = some (.int .u32 3)
  c17 : w.cell? ⟨b17, 0, none⟩ = some (.int .i64 9)
def rowsA (b0 b1 b2 b3 b4 b5 b6 b7 b8 b9 b10 b11 b12 b13 b14 b15 b16 b17 : Nat) : Array Value := #[.func (.func 57) #[] #[], .nilFunc, .func (.func 103) #[] #[.pointer (some ⟨b0, 0, none⟩), .pointer (some ⟨b1, 0, none⟩)], .func (.func 103) #[] #[.pointer (some ⟨b2, 0, none⟩), .pointer (some ⟨b3, 0, none⟩)], .nilFunc, .nilFunc, .func (.func 105) #[] #[.pointer (some ⟨b4, 0, none⟩), .pointer (some ⟨b5, 0, none⟩)], .func (.func 105) #[] #[.pointer (some ⟨b6, 0, none⟩), .pointer (some ⟨b7, 0, none⟩)], .func (.func 60) #[] #[], .func (.func 61) #[] #[], .func (.func 62) #[] #[], .func (.func 63) #[] #[], .func (.func 64) #[] #[], .func (.func 65) #[] #[], .func (.func 111) #[] #[.pointer (some ⟨b8, 0, none⟩)], .func (.func 111) #[] #[.pointer (some ⟨b9, 0, none⟩)], .func (.func 67) #[] #[], .nilFunc, .func (.func 112) #[] #[.pointer (some ⟨b10, 0, none⟩), .pointer (some ⟨b11, 0, none⟩)], .func (.func 112) #[] #[.pointer (some ⟨b12, 0, none⟩), .pointer (some ⟨b13, 0, none⟩)], .func (.func 69) #[] #[], .nilFunc, .func (.func 116) #[] #[.pointer (some ⟨b14, 0, none⟩), .pointer (some ⟨b15, 0, none⟩)], .func (.func 116) #[] #[.pointer (some ⟨b16, 0, none⟩), .pointer (some ⟨b17, 0, none⟩)], .nilFunc, .nilFunc, .nilFunc, .nilFunc, .nilFunc, .nilFunc, .nilFunc, .nilFunc]
theorem rowsA_one (b0 b1 b2 b3 b4 b5 b6 b7 b8 b9 b10 b11 b12 b13 b14 b15 b16 b17 : Nat) : (rowsA b0 b1 b2 b3 b4 b5 b6 b7 b8 b9 b10 b11 b12 b13 b14 b15 b16 b17).all (·.oneCell') = true := by simp [rowsA, Value.oneCell']
theorem frozen_setRow (w : World) (g : Nat) (cs : Array Value) (a : Addr) : (w.setRow g cs).frozen? a = w.frozen? a := by
  unfold World.setRow World.frozen?
  simp only [Array.getElem?_modify]
  by_cases h : g = a.block
  · rw [if_pos h]
    cases e : w.heap[a.block]? with
    | none => rfl
    | some o => cases o <;> rfl
  · rw [if_neg h]
theorem Kp.blk {w w' : World} (h : Kp w w') {b : Nat} (hb : b < w.heap.size) : w'.heap[b]? = w.heap[b]? := h.1.block b hb
theorem Kp.setRow {w w' : World} (h : Kp w w') {g : Nat} (hg : w.heap.size ≤ g) (cs : Array Value) : Kp w (w'.setRow g cs) :=
  ⟨below_setRow h.1 hg cs, fun a => (frozen_setRow w' g cs a).trans (h.2 a)⟩
set_option maxHeartbeats 4000000 in
theorem rows_w (w : World) : Calls Tryz.prog 28 #[] w fun e w' =>
    ∃ b0 b1 b2 b3 b4 b5 b6 b7 b8 b9 b10 b11 b12 b13 b14 b15 b16 b17, e = .returned (.agg (rowsA b0 b1 b2 b3 b4 b5 b6 b7 b8 b9 b10 b11 b12 b13 b14 b15 b16 b17)) ∧ Kp w w' ∧ RC w' b0 b1 b2 b3 b4 b5 b6 b7 b8 b9 b10 b11 b12 b13 b14 b15 b16 b17 := by
  go_enter Tryz.func28, Tryz.ntmps28
  go_wp2_with (first | (go_at_call 58; (with_reducible refine (mk_nearLoad 2 4 _).mono ?_); rintro e' w0 ⟨b0, b1, rfl, k0, lob0, hib0, lob1, hib1, db0, db1⟩; have Hk0 := Lib.hid k0; clear k0; have Hlob0 := Lib.hid lob0; clear lob0; have Hlob1 := Lib.hid lob1; clear lob1; have Hhib0 := Lib.hid hib0; clear hib0; have Hhib1 := Lib.hid hib1; clear hib1; have Hdb0 := Lib.hid db0; clear db0; have Hdb1 := Lib.hid db1; clear db1) | (go_at_call 58; (with_reducible refine (mk_nearLoad 3 5 _).mono ?_); rintro e' w1 ⟨b2, b3, rfl, k1, lob2, hib2, lob3, hib3, db2, db3⟩; have Hk1 := Lib.hid k1; clear k1; have Hlob2 := Lib.hid lob2; clear lob2; have Hlob3 := Lib.hid lob3; clear lob3; have Hhib2 := Lib.hid hib2; clear hib2; have Hhib3 := Lib.hid hib3; clear hib3; have Hdb2 := Lib.hid db2; clear db2; have Hdb3 := Lib.hid db3; clear db3) | (go_at_call 59; (with_reducible refine (mk_nearStore 2 4 _).mono ?_); rintro e' w2 ⟨b4, b5, rfl, k2, lob4, hib4, lob5, hib5, db4, db5⟩; have Hk2 := Lib.hid k2; clear k2; have Hlob4 := Lib.hid lob4; clear lob4; have Hlob5 := Lib.hid lob5; clear lob5; have Hhib4 := Lib.hid hib4; clear hib4; have Hhib5 := Lib.hid hib5; clear hib5; have Hdb4 := Lib.hid db4; clear db4; have Hdb5 := Lib.hid db5; clear db5) | (go_at_call 59; (with_reducible refine (mk_nearStore 3 5 _).mono ?_); rintro e' w3 ⟨b6, b7, rfl, k3, lob6, hib6, lob7, hib7, db6, db7⟩; have Hk3 := Lib.hid k3; clear k3; have Hlob6 := Lib.hid lob6; clear lob6; have Hlob7 := Lib.hid lob7; clear lob7; have Hhib6 := Lib.hid hib6; clear hib6; have Hhib7 := Lib.hid hib7; clear hib7; have Hdb6 := Lib.hid db6; clear db6; have Hdb7 := Lib.hid db7; clear db7) | (go_at_call 66; (with_reducible refine (mk_branch 0 _).mono ?_); rintro e' w4 ⟨b8, rfl, k4, lob8, hib8, db8⟩; have Hk4 := Lib.hid k4; clear k4; have Hlob8 := Lib.hid lob8; clear lob8; have Hhib8 := Lib.hid hib8; clear hib8; have Hdb8 := Lib.hid db8; clear db8) | (go_at_call 66; (with_reducible refine (mk_branch 1 _).mono ?_); rintro e' w5 ⟨b9, rfl, k5, lob9, hib9, db9⟩; have Hk5 := Lib.hid k5; clear k5; have Hlob9 := Lib.hid lob9; clear lob9; have Hhib9 := Lib.hid hib9; clear hib9; have Hdb9 := Lib.hid db9; clear db9) | (go_at_call 68; (with_reducible refine (mk_stackLoad 2 6 _).mono ?_); rintro e' w6 ⟨b10, b11, rfl, k6, lob10, hib10, lob11, hib11, db10, db11⟩; have Hk6 := Lib.hid k6; clear k6; have Hlob10 := Lib.hid lob10; clear lob10; have Hlob11 := Lib.hid lob11; clear lob11; have Hhib10 := Lib.hid hib10; clear hib10; have Hhib11 := Lib.hid hib11; clear hib11; have Hdb10 := Lib.hid db10; clear db10; have Hdb11 := Lib.hid db11; clear db11) | (go_at_call 68; (with_reducible refine (mk_stackLoad 3 7 _).mono ?_); rintro e' w7 ⟨b12, b13, rfl, k7, lob12, hib12, lob13, hib13, db12, db13⟩; have Hk7 := Lib.hid k7; clear k7; have Hlob12 := Lib.hid lob12; clear lob12; have Hlob13 := Lib.hid lob13; clear lob13; have Hhib12 := Lib.hid hib12; clear hib12; have Hhib13 := Lib.hid hib13; clear hib13; have Hdb12 := Lib.hid db12; clear db12; have Hdb13 := Lib.hid db13; clear db13) | (go_at_call 70; (with_reducible refine (mk_stackStore 2 8 _).mono ?_); rintro e' w8 ⟨b14, b15, rfl, k8, lob14, hib14, lob15, hib15, db14, db15⟩; have Hk8 := Lib.hid k8; clear k8; have Hlob14 := Lib.hid lob14; clear lob14; have Hlob15 := Lib.hid lob15; clear lob15; have Hhib14 := Lib.hid hib14; clear hib14; have Hhib15 := Lib.hid hib15; clear hib15; have Hdb14 := Lib.hid db14; clear db14; have Hdb15 := Lib.hid db15; clear db15) | (go_at_call 70; (with_reducible refine (mk_stackStore 3 9 _).mono ?_); rintro e' w9 ⟨b16, b17, rfl, k9, lob16, hib16, lob17, hib17, db16, db17⟩; have Hk9 := Lib.hid k9; clear k9; have Hlob16 := Lib.hid lob16; clear lob16; have Hlob17 := Lib.hid lob17; clear lob17; have Hhib16 := Lib.hid hib16; clear hib16; have Hhib17 := Lib.hid hib17; clear hib17; have Hdb16 := Lib.hid db16; clear db16; have Hdb17 := Lib.hid db17; clear db17) | (refine wpList_store_row rfl 47 _ _ rfl w.heap.size (rowsA b0 b1 b2 b3 b4 b5 b6 b7 b8 b9 b10 b11 b12 b13 b14 b15 b16 b17) rfl rfl 47 _ (((Hk0.out.trans (Hk1.out.trans (Hk2.out.trans (Hk3.out.trans (Hk4.out.trans (Hk5.out.trans (Hk6.out.trans (Hk7.out.trans (Hk8.out.trans Hk9.out))))))))).blk (by simp)).trans (heap_alloc_last w _)) (by kernel_rfl) rfl (rowsA_one b0 b1 b2 b3 b4 b5 b6 b7 b8 b9 b10 b11 b12 b13 b14 b15 b16 b17) ?_))
  have K := (Hk0.out.trans (Hk1.out.trans (Hk2.out.trans (Hk3.out.trans (Hk4.out.trans (Hk5.out.trans (Hk6.out.trans (Hk7.out.trans (Hk8.out.trans Hk9.out)))))))))
  have hg := setRow_heap w9 w.heap.size _ (rowsA b0 b1 b2 b3 b4 b5 b6 b7 b8 b9 b10 b11 b12 b13 b14 b15 b16 b17) _ _ ((K.blk (by simp)).trans (heap_alloc_last w _))
  refine bodyPost_ret (v := .agg (rowsA b0 b1 b2 b3 b4 b5 b6 b7 b8 b9 b10 b11 b12 b13 b14 b15 b16 b17)) (results_cell_row (p := 0) (ty := 47) Tryz.results28 _ _ w.heap.size _ _ _ _ rfl hg Tryz.underlying47 rfl (by kernel_rfl)) rfl ?_
  refine ⟨b0, b1, b2, b3, b4, b5, b6, b7, b8, b9, b10, b11, b12, b13, b14, b15, b16, b17, rfl, (((Kp.refl w).allocs _ _).trans K).setRow (Nat.le_refl _) _, ?_⟩
  constructor
  · rw [cell_setRow_other _ _ _ _ (by have h := Hlob0.out; simp at h ⊢; omega)]; exact (((Hk1.out.trans (Hk2.out.trans (Hk3.out.trans (Hk4.out.trans (Hk5.out.trans (Hk6.out.trans (Hk7.out.trans (Hk8.out.trans Hk9.out)))))))).cell (p := ⟨b0, 0, none⟩) Hhib0.out)).trans Hdb0.out
  · rw [cell_setRow_other _ _ _ _ (by have h := Hlob1.out; simp at h ⊢; omega)]; exact (((Hk1.out.trans (Hk2.out.trans (Hk3.out.trans (Hk4.out.trans (Hk5.out.trans (Hk6.out.trans (Hk7.out.trans (Hk8.out.trans Hk9.out)))))))).cell (p := ⟨b1, 0, none⟩) Hhib1.out)).trans Hdb1.out
  · rw [cell_setRow_other _ _ _ _ (by have h := Hlob2.out; have k := Hk0.out.size; simp at h k ⊢; omega)]; exact (((Hk2.out.trans (Hk3.out.trans (Hk4.out.trans (Hk5.out.trans (Hk6.out.trans (Hk7.out.trans (Hk8.out.trans Hk9.out))))))).cell (p := ⟨b2, 0, none⟩) Hhib2.out)).trans Hdb2.out
  · rw [cell_setRow_other _ _ _ _ (by have h := Hlob3.out; have k := Hk0.out.size; simp at h k ⊢; omega)]; exact (((Hk2.out.trans (Hk3.out.trans (Hk4.out.trans (Hk5.out.trans (Hk6.out.trans (Hk7.out.trans (Hk8.out.trans Hk9.out))))))).cell (p := ⟨b3, 0, none⟩) Hhib3.out)).trans Hdb3.out
  · rw [cell_setRow_other _ _ _ _ (by have h := Hlob4.out; have k := (Hk0.out.trans Hk1.out).size; simp at h k ⊢; omega)]; exact (((Hk3.out.trans (Hk4.out.trans (Hk5.out.trans (Hk6.out.trans (Hk7.out.trans (Hk8.out.trans Hk9.out)))))).cell (p := ⟨b4, 0, none⟩) Hhib4.out)).trans Hdb4.out
  · rw [cell_setRow_other _ _ _ _ (by have h := Hlob5.out; have k := (Hk0.out.trans Hk1.out).size; simp at h k ⊢; omega)]; exact (((Hk3.out.trans (Hk4.out.trans (Hk5.out.trans (Hk6.out.trans (Hk7.out.trans (Hk8.out.trans Hk9.out)))))).cell (p := ⟨b5, 0, none⟩) Hhib5.out)).trans Hdb5.out
  · rw [cell_setRow_other _ _ _ _ (by have h := Hlob6.out; have k := (Hk0.out.trans (Hk1.out.trans Hk2.out)).size; simp at h k ⊢; omega)]; exact (((Hk4.out.trans (Hk5.out.trans (Hk6.out.trans (Hk7.out.trans (Hk8.out.trans Hk9.out))))).cell (p := ⟨b6, 0, none⟩) Hhib6.out)).trans Hdb6.out
  · rw [cell_setRow_other _ _ _ _ (by have h := Hlob7.out; have k := (Hk0.out.trans (Hk1.out.trans Hk2.out)).size; simp at h k ⊢; omega)]; exact (((Hk4.out.trans (Hk5.out.trans (Hk6.out.trans (Hk7.out.trans (Hk8.out.trans Hk9.out))))).cell (p := ⟨b7, 0, none⟩) Hhib7.out)).trans Hdb7.out
  · rw [cell_setRow_other _ _ _ _ (by have h := Hlob8.out; have k := (Hk0.out.trans (Hk1.out.trans (Hk2.out.trans Hk3.out))).size; simp at h k ⊢; omega)]; exact (((Hk5.out.trans (Hk6.out.trans (Hk7.out.trans (Hk8.out.trans Hk9.out)))).cell (p := ⟨b8, 0, none⟩) Hhib8.out)).trans Hdb8.out
  · rw [cell_setRow_other _ _ _ _ (by have h := Hlob9.out; have k := (Hk0.out.trans (Hk1.out.trans (Hk2.out.trans (Hk3.out.trans Hk4.out)))).size; simp at h k ⊢; omega)]; exact (((Hk6.out.trans (Hk7.out.trans (Hk8.out.trans Hk9.out))).cell (p := ⟨b9, 0, none⟩) Hhib9.out)).trans Hdb9.out
  · rw [cell_setRow_other _ _ _ _ (by have h := Hlob10.out; have k := (Hk0.out.trans (Hk1.out.trans (Hk2.out.trans (Hk3.out.trans (Hk4.out.trans Hk5.out))))).size; simp at h k ⊢; omega)]; exact (((Hk7.out.trans (Hk8.out.trans Hk9.out)).cell (p := ⟨b10, 0, none⟩) Hhib10.out)).trans Hdb10.out
  · rw [cell_setRow_other _ _ _ _ (by have h := Hlob11.out; have k := (Hk0.out.trans (Hk1.out.trans (Hk2.out.trans (Hk3.out.trans (Hk4.out.trans Hk5.out))))).size; simp at h k ⊢; omega)]; exact (((Hk7.out.trans (Hk8.out.trans Hk9.out)).cell (p := ⟨b11, 0, none⟩) Hhib11.out)).trans Hdb11.out
  · rw [cell_setRow_other _ _ _ _ (by have h := Hlob12.out; have k := (Hk0.out.trans (Hk1.out.trans (Hk2.out.trans (Hk3.out.trans (Hk4.out.trans (Hk5.out.trans Hk6.out)))))).size; simp at h k ⊢; omega)]; exact (((Hk8.out.trans Hk9.out).cell (p := ⟨b12, 0, none⟩) Hhib12.out)).trans Hdb12.out
  · rw [cell_setRow_other _ _ _ _ (by have h := Hlob13.out; have k := (Hk0.out.trans (Hk1.out.trans (Hk2.out.trans (Hk3.out.trans (Hk4.out.trans (Hk5.out.trans Hk6.out)))))).size; simp at h k ⊢; omega)]; exact (((Hk8.out.trans Hk9.out).cell (p := ⟨b13, 0, none⟩) Hhib13.out)).trans Hdb13.out
  · rw [cell_setRow_other _ _ _ _ (by have h := Hlob14.out; have k := (Hk0.out.trans (Hk1.out.trans (Hk2.out.trans (Hk3.out.trans (Hk4.out.trans (Hk5.out.trans (Hk6.out.trans Hk7.out))))))).size; simp at h k ⊢; omega)]; exact ((Hk9.out.cell (p := ⟨b14, 0, none⟩) Hhib14.out)).trans Hdb14.out
  · rw [cell_setRow_other _ _ _ _ (by have h := Hlob15.out; have k := (Hk0.out.trans (Hk1.out.trans (Hk2.out.trans (Hk3.out.trans (Hk4.out.trans (Hk5.out.trans (Hk6.out.trans Hk7.out))))))).size; simp at h k ⊢; omega)]; exact ((Hk9.out.cell (p := ⟨b15, 0, none⟩) Hhib15.out)).trans Hdb15.out
  · rw [cell_setRow_other _ _ _ _ (by have h := Hlob16.out; have k := (Hk0.out.trans (Hk1.out.trans (Hk2.out.trans (Hk3.out.trans (Hk4.out.trans (Hk5.out.trans (Hk6.out.trans (Hk7.out.trans Hk8.out)))))))).size; simp at h k ⊢; omega)]; exact (Eq.refl _).trans Hdb16.out
  · rw [cell_setRow_other _ _ _ _ (by have h := Hlob17.out; have k := (Hk0.out.trans (Hk1.out.trans (Hk2.out.trans (Hk3.out.trans (Hk4.out.trans (Hk5.out.trans (Hk6.out.trans (Hk7.out.trans Hk8.out)))))))).size; simp at h k ⊢; omega)]; exact (Eq.refl _).trans Hdb17.out
end Go.Proofs.YtlfeandnpflaaaaGreatDoor
