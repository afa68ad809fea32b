/-
  RvcRows of layer 8: one half of each row stands for what the manual's names say. No condition but what the tables hold.
-/
import Derived.Test.YtagoeceaobikaaaDoorVLaw
import Derived.Test.YtagoeceaobikaaaDoorCAt
namespace Go.Proofs.YtagoeceaobikaaaDoor.rvcRows
open Go.ChangeShapes Go.WideShapes Go.ChangeAt Go.RowKit
set_option linter.unusedVariables false
set_option linter.unusedSimpArgs false
theorem own : ownKnob Tryd.prog.godebug = none := by kernel_rfl
def rowsL : List (Nat × Nat) := [(72, 4261139), (16776, 369923), (25992, 8762627), (49544, 10854435), (58760, 10859555), (5501, 4294247699), (9477, 1377563), (21885, 4293920019), (24897, 16843027), (25861, 5431), (33029, 1398035), (34053, 1075139859), (35077, 1406227), (36109, 1085605171), (36141, 11879731), (36173, 11887923), (36205, 11892019), (40205, 1085605179), (40237, 11863355), (40961, 111), (49409, 327779), (57601, 331875), (1286, 1381651), (17666, 75011), (25858, 79107), (34050, 327783), (34094, 11535667), (38146, 327911), (38190, 11863347), (49194, 10559523), (57386, 10563619)]
theorem rows_ex : rowsL.all (fun p => decide (p.1 < 65536) && decide (ex p.1 = some p.2)) = true := by decide +kernel
def two (p : Nat × Nat) : List Value := [.int .u16 (p.1 : Int), .int .u32 (p.2 : Int)]
theorem flat2 : ∀ (l : List (Nat × Nat)) (k : Nat) (p : Nat × Nat), l[k]? = some p → (l.flatMap two)[k * 2]? = some (.int .u16 (p.1 : Int)) ∧ (l.flatMap two)[k * 2 + 1]? = some (.int .u32 (p.2 : Int))
  | [], k, p, h => by simp at h
  | q :: l, 0, p, h => by
    obtain rfl : q = p := by simpa using h
    simp [two]
  | q :: l, k + 1, p, h => by
    have ih := flat2 l k p (by simpa using h)
    rw [List.flatMap_cons, List.getElem?_append_right (by simp [two]; omega), List.getElem?_append_right (by simp [two]; omega)]
    simpa [two, show (k + 1) * 2 - 2 = k * 2 by omega, show (k + 1) * 2 + 1 - 2 = k * 2 + 1 by omega] using ih
theorem lits_eq : (rowsL.flatMap two).toArray = #[.int .u16 72, .int .u32 4261139, .int .u16 16776, .int .u32 369923, .int .u16 25992, .int .u32 8762627, .int .u16 49544, .int .u32 10854435, .int .u16 58760, .int .u32 10859555, .int .u16 5501, .int .u32 4294247699, .int .u16 9477, .int .u32 1377563, .int .u16 21885, .int .u32 4293920019, .int .u16 24897, .int .u32 16843027, .int .u16 25861, .int .u32 5431, .int .u16 33029, .int .u32 1398035, .int .u16 34053, .int .u32 1075139859, .int .u16 35077, .int .u32 1406227, .int .u16 36109, .int .u32 1085605171, .int .u16 36141, .int .u32 11879731, .int .u16 36173, .int .u32 11887923, .int .u16 36205, .int .u32 11892019, .int .u16 40205, .int .u32 1085605179, .int .u16 40237, .int .u32 11863355, .int .u16 40961, .int .u32 111, .int .u16 49409, .int .u32 327779, .int .u16 57601, .int .u32 331875, .int .u16 1286, .int .u32 1381651, .int .u16 17666, .int .u32 75011, .int .u16 25858, .int .u32 79107, .int .u16 34050, .int .u32 327783, .int .u16 34094, .int .u32 11535667, .int .u16 38146, .int .u32 327911, .int .u16 38190, .int .u32 11863347, .int .u16 49194, .int .u32 10559523, .int .u16 57386, .int .u32 10563619] := by kernel_rfl
structure Cel (B : Nat) (w : World) : Prop where
  c : ∀ k p, rowsL[k]? = some p → w.cell? ⟨B, k * 2, none⟩ = some (.int .u16 (p.1 : Int)) ∧ w.cell? ⟨B, k * 2 + 1, none⟩ = some (.int .u32 (p.2 : Int))
  s : B < w.heap.size
theorem Cel.kp {B : Nat} {w w' : World} (h : Cel B w) (k : Kp w w') : Cel B w' :=
  ⟨fun i p e => ⟨(k.cell (p := ⟨B, i * 2, none⟩) h.s).trans (h.c i p e).1, (k.cell (p := ⟨B, i * 2 + 1, none⟩) h.s).trans (h.c i p e).2⟩, Nat.lt_of_lt_of_le h.s k.size⟩
theorem cel_new (w : World) (t : TypeId) : Cel w.heap.size (w.alloc (.cells #[.int .u16 72, .int .u32 4261139, .int .u16 16776, .int .u32 369923, .int .u16 25992, .int .u32 8762627, .int .u16 49544, .int .u32 10854435, .int .u16 58760, .int .u32 10859555, .int .u16 5501, .int .u32 4294247699, .int .u16 9477, .int .u32 1377563, .int .u16 21885, .int .u32 4293920019, .int .u16 24897, .int .u32 16843027, .int .u16 25861, .int .u32 5431, .int .u16 33029, .int .u32 1398035, .int .u16 34053, .int .u32 1075139859, .int .u16 35077, .int .u32 1406227, .int .u16 36109, .int .u32 1085605171, .int .u16 36141, .int .u32 11879731, .int .u16 36173, .int .u32 11887923, .int .u16 36205, .int .u32 11892019, .int .u16 40205, .int .u32 1085605179, .int .u16 40237, .int .u32 11863355, .int .u16 40961, .int .u32 111, .int .u16 49409, .int .u32 327779, .int .u16 57601, .int .u32 331875, .int .u16 1286, .int .u32 1381651, .int .u16 17666, .int .u32 75011, .int .u16 25858, .int .u32 79107, .int .u16 34050, .int .u32 327783, .int .u16 34094, .int .u32 11535667, .int .u16 38146, .int .u32 327911, .int .u16 38190, .int .u32 11863347, .int .u16 49194, .int .u32 10559523, .int .u16 57386, .int .u32 10563619] t)) := by
  rw [← lits_eq]
  refine ⟨fun k p e => ?_, by simp⟩
  have h := flat2 rowsL k p e
  exact ⟨by rw [cell_of_row _ _ _ _ _ _ (heap_alloc_last w _)]; simpa using h.1, by rw [cell_of_row _ _ _ _ _ _ (heap_alloc_last w _)]; simpa using h.2⟩
set_option maxRecDepth 4000 in
set_option maxHeartbeats 8000000 in
theorem walk (w : World) (hz : Tb w) :
    Calls Tryd.prog 8 #[] w fun e w' => e = .returned (.bool true) ∧ Grown w w' := by
  have TB := Lib.hid hz
  clear hz
  go_enter Tryd.func8, Tryd.ntmps8
  go_wp2
  go_loopw [2] (fun i wr => ∃ k : Nat, k ≤ 31 ∧ i = .int .i64 k ∧ Kp w wr ∧ Cel w.heap.size wr) (fun i _ => 31 - (intOf i).toNat)
  case atStart => exact ⟨0, by omega, rfl, (Kp.refl w).allocs _ _, cel_new w _⟩
  case round =>
    obtain ⟨k, hk, rfl, hkp, hc⟩ := hrel
    have HKP := Lib.hid hkp
    have HC := Lib.hid hc
    have TBR := Lib.hid (TB.out.kp hkp)
    have bs : w.heap.size < wr.heap.size := hc.s
    clear hkp
    by_cases hlt : k < 31
    · have e0 : (decide ((k : Int) < 31)) = true := by simp; omega
      have e1 : (k : Int) < 31 := by omega
      obtain ⟨⟨a, b⟩, hp⟩ : ∃ p, rowsL[k]? = some p := ⟨_, List.getElem?_eq_getElem (show k < rowsL.length from hlt)⟩
      have hx := List.all_eq_true.1 rows_ex _ (List.mem_of_getElem? hp)
      simp only [Bool.and_eq_true, decide_eq_true_eq] at hx
      have cH := (hc.c k _ hp).1
      have cV := (hc.c k _ hp).2
      dsimp only at cH cV
      have HX := Lib.hid hx
      clear hx hc hp
      go_wp2
      refine wp_region_held_drew (S := fun w' => Kp wr w') (by kernel_rfl) (Kp.refl wr).drew (fun hS => ?_)
      generalize hgw : wr.drew = g0 at hS ⊢
      clear hgw
      try simp only [Act.put, List.setIfInBounds_toArray, List.set_cons_zero, List.set_cons_succ]
      (refine wpAnyH_take (i := 0) (oi := { dst := some 41, op := Op.move (Operand.tmp 1), type := 36, pos := "outright.go:134", after := #[], guard := none }) (v := ?_) rfl (by kernel_rfl) (by kernel_rfl) (by kernel_rfl) (fun _ _ _ h => h) (Or.inl ⟨by rfl, ?_⟩) hS ?_; rotate_left; focus (intro w' hSw; have q0 := (hSw.cell (p := ⟨w.heap.size, k * 2, none⟩) bs).trans cH; have q1 := (hSw.cell (p := ⟨w.heap.size, k * 2 + 1, none⟩) bs).trans cV; go_simp <;> try with_reducible rfl))
      try simp only [Act.put, List.setIfInBounds_toArray, List.set_cons_zero, List.set_cons_succ]
      (refine wpAnyH_take (i := 1) (oi := { dst := some 42, op := Op.move (Operand.tmp 2), type := 3, pos := "outright.go:134", after := #[], guard := none }) (v := ?_) rfl (by kernel_rfl) (by kernel_rfl) (by kernel_rfl) (fun _ _ _ h => h) (Or.inl ⟨by rfl, ?_⟩) hS ?_; rotate_left; focus (intro w' hSw; have q0 := (hSw.cell (p := ⟨w.heap.size, k * 2, none⟩) bs).trans cH; have q1 := (hSw.cell (p := ⟨w.heap.size, k * 2 + 1, none⟩) bs).trans cV; go_simp <;> try with_reducible rfl))
      try simp only [Act.put, List.setIfInBounds_toArray, List.set_cons_zero, List.set_cons_succ]
      (refine wpAnyH_take (i := 2) (oi := { dst := some 43, op := Op.indexAddr 36 (Operand.tmp 41) (Operand.tmp 42), type := 0, pos := "outright.go:134", after := #[{ on := 0, ground := Ground.data }, { on := 1, ground := Ground.data }], guard := none }) (v := ?_) rfl (by kernel_rfl) (by kernel_rfl) (by kernel_rfl) (fun _ _ _ h => h) (Or.inl ⟨by rfl, ?_⟩) hS ?_; rotate_left; focus (intro w' hSw; have q0 := (hSw.cell (p := ⟨w.heap.size, k * 2, none⟩) bs).trans cH; have q1 := (hSw.cell (p := ⟨w.heap.size, k * 2 + 1, none⟩) bs).trans cV; go_simp <;> try with_reducible rfl))
      try simp only [Act.put, List.setIfInBounds_toArray, List.set_cons_zero, List.set_cons_succ]
      (refine wpAnyH_take (i := 3) (oi := { dst := some 44, op := Op.fieldAddr 35 (Operand.tmp 43) 0, type := 0, pos := "outright.go:134", after := #[{ on := 2, ground := Ground.data }], guard := none }) (v := ?_) rfl (by kernel_rfl) (by kernel_rfl) (by kernel_rfl) (fun _ _ _ h => h) (Or.inl ⟨by rfl, ?_⟩) hS ?_; rotate_left; focus (intro w' hSw; have q0 := (hSw.cell (p := ⟨w.heap.size, k * 2, none⟩) bs).trans cH; have q1 := (hSw.cell (p := ⟨w.heap.size, k * 2 + 1, none⟩) bs).trans cV; go_simp <;> try with_reducible rfl))
      try simp only [Act.put, List.setIfInBounds_toArray, List.set_cons_zero, List.set_cons_succ]
      (refine wpAnyH_take (i := 4) (oi := { dst := some 45, op := Op.load 22 (Operand.tmp 44), type := 22, pos := "outright.go:134", after := #[{ on := 3, ground := Ground.data }], guard := none }) (v := ?_) rfl (by kernel_rfl) (by kernel_rfl) (by kernel_rfl) (fun _ _ _ h => h) (Or.inl ⟨by rfl, ?_⟩) hS ?_; rotate_left; focus (intro w' hSw; have q0 := (hSw.cell (p := ⟨w.heap.size, k * 2, none⟩) bs).trans cH; have q1 := (hSw.cell (p := ⟨w.heap.size, k * 2 + 1, none⟩) bs).trans cV; go_simp <;> try with_reducible rfl))
      try simp only [Act.put, List.setIfInBounds_toArray, List.set_cons_zero, List.set_cons_succ]
      (refine wpAnyH_take (i := 5) (oi := { dst := some 46, op := Op.move (Operand.tmp 1), type := 36, pos := "outright.go:134", after := #[], guard := none }) (v := ?_) rfl (by kernel_rfl) (by kernel_rfl) (by kernel_rfl) (fun _ _ _ h => h) (Or.inl ⟨by rfl, ?_⟩) hS ?_; rotate_left; focus (intro w' hSw; have q0 := (hSw.cell (p := ⟨w.heap.size, k * 2, none⟩) bs).trans cH; have q1 := (hSw.cell (p := ⟨w.heap.size, k * 2 + 1, none⟩) bs).trans cV; go_simp <;> try with_reducible rfl))
      try simp only [Act.put, List.setIfInBounds_toArray, List.set_cons_zero, List.set_cons_succ]
      (refine wpAnyH_take (i := 6) (oi := { dst := some 47, op := Op.move (Operand.tmp 2), type := 3, pos := "outright.go:134", after := #[], guard := none }) (v := ?_) rfl (by kernel_rfl) (by kernel_rfl) (by kernel_rfl) (fun _ _ _ h => h) (Or.inl ⟨by rfl, ?_⟩) hS ?_; rotate_left; focus (intro w' hSw; have q0 := (hSw.cell (p := ⟨w.heap.size, k * 2, none⟩) bs).trans cH; have q1 := (hSw.cell (p := ⟨w.heap.size, k * 2 + 1, none⟩) bs).trans cV; go_simp <;> try with_reducible rfl))
      try simp only [Act.put, List.setIfInBounds_toArray, List.set_cons_zero, List.set_cons_succ]
      (refine wpAnyH_take (i := 7) (oi := { dst := some 48, op := Op.indexAddr 36 (Operand.tmp 46) (Operand.tmp 47), type := 0, pos := "outright.go:134", after := #[{ on := 5, ground := Ground.data }, { on := 6, ground := Ground.data }], guard := none }) (v := ?_) rfl (by kernel_rfl) (by kernel_rfl) (by kernel_rfl) (fun _ _ _ h => h) (Or.inl ⟨by rfl, ?_⟩) hS ?_; rotate_left; focus (intro w' hSw; have q0 := (hSw.cell (p := ⟨w.heap.size, k * 2, none⟩) bs).trans cH; have q1 := (hSw.cell (p := ⟨w.heap.size, k * 2 + 1, none⟩) bs).trans cV; go_simp <;> try with_reducible rfl))
      try simp only [Act.put, List.setIfInBounds_toArray, List.set_cons_zero, List.set_cons_succ]
      (refine wpAnyH_take (i := 8) (oi := { dst := some 49, op := Op.fieldAddr 35 (Operand.tmp 48) 1, type := 0, pos := "outright.go:134", after := #[{ on := 7, ground := Ground.data }], guard := none }) (v := ?_) rfl (by kernel_rfl) (by kernel_rfl) (by kernel_rfl) (fun _ _ _ h => h) (Or.inl ⟨by rfl, ?_⟩) hS ?_; rotate_left; focus (intro w' hSw; have q0 := (hSw.cell (p := ⟨w.heap.size, k * 2, none⟩) bs).trans cH; have q1 := (hSw.cell (p := ⟨w.heap.size, k * 2 + 1, none⟩) bs).trans cV; go_simp <;> try with_reducible rfl))
      try simp only [Act.put, List.setIfInBounds_toArray, List.set_cons_zero, List.set_cons_succ]
      (refine wpAnyH_take (i := 9) (oi := { dst := some 50, op := Op.load 23 (Operand.tmp 49), type := 23, pos := "outright.go:134", after := #[{ on := 8, ground := Ground.data }], guard := none }) (v := ?_) rfl (by kernel_rfl) (by kernel_rfl) (by kernel_rfl) (fun _ _ _ h => h) (Or.inl ⟨by rfl, ?_⟩) hS ?_; rotate_left; focus (intro w' hSw; have q0 := (hSw.cell (p := ⟨w.heap.size, k * 2, none⟩) bs).trans cH; have q1 := (hSw.cell (p := ⟨w.heap.size, k * 2 + 1, none⟩) bs).trans cV; go_simp <;> try with_reducible rfl))
      try simp only [Act.put, List.setIfInBounds_toArray, List.set_cons_zero, List.set_cons_succ]
      refine wpAnyH_ready (rs := [10]) (by kernel_rfl) (by simp) ?_
      refine AllReadyH.cons (o := { dst := some 51, op := Op.call { callee := Callee.value (Operand.func 14), args := #[Operand.tmp 45, Operand.tmp 50], argTypes := #[22, 23] }, type := 4, pos := "outright.go:134", after := #[{ on := 4, ground := Ground.data }, { on := 9, ground := Ground.data }], guard := none }) rfl (fun K hK => ?_) AllReadyH.nil
      refine take_if (by rfl) ?_
      go_simp
      (with_reducible refine (is_w a b HX.out.1 HX.out.2 g0 (TBR.out.kp hS)).mono ?_)
      rintro e' g1 ⟨rfl, qk⟩
      refine hK.out _ _ (hS.trans qk) (fun hS => ?_)
      clear qk hK K
      try simp only [Act.put, List.setIfInBounds_toArray, List.set_cons_zero, List.set_cons_succ]
      (refine wpAnyH_take (i := 11) (oi := { dst := some 52, op := Op.unOp UnOp.not 4 (Operand.tmp 51), type := 4, pos := "outright.go:134", after := #[{ on := 10, ground := Ground.data }], guard := none }) (v := ?_) rfl (by kernel_rfl) (by kernel_rfl) (by kernel_rfl) (fun _ _ _ h => h) (Or.inl ⟨by rfl, ?_⟩) hS ?_; rotate_left; focus (intro w' hSw; have q0 := (hSw.cell (p := ⟨w.heap.size, k * 2, none⟩) bs).trans cH; have q1 := (hSw.cell (p := ⟨w.heap.size, k * 2 + 1, none⟩) bs).trans cV; go_simp <;> try with_reducible rfl))
      try simp only [Act.put, List.setIfInBounds_toArray, List.set_cons_zero, List.set_cons_succ]
      refine wpAnyH_done (by kernel_rfl) ?_ _
      have HS := Lib.hid hS
      clear hS
      go_wp2
      go_round
      case rel => exact ⟨k + 1, by omega, by go_num, HKP.out.trans HS.out, HC.out.kp HS.out⟩
      case measure => simp [intOf]; omega
    · have e0 : (decide ((k : Int) < 31)) = false := by simp; omega
      clear hc
      go_wp2_with (go_at_call 11; (with_reducible refine (works_w _ TBR.out).mono ?_); rintro e' w1 ⟨rfl, qk⟩; have HK1 := Lib.hid qk; clear qk)
      go_ret
      exact ⟨rfl, (HKP.out.trans HK1.out).grown⟩
end Go.Proofs.YtagoeceaobikaaaDoor.rvcRows
