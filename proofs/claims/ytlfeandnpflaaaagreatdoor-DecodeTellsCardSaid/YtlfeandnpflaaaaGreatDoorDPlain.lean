/-
  Contracts of the document's plain for layer 9: instructions of registers alone. No condition.
-/
import Derived.Test.YtlfeandnpflaaaaGreatDoorDIn
import Derived.Test.YtlfeandnpflaaaaGreatDoorMC
namespace Go.Proofs.YtlfeandnpflaaaaGreatDoor
open Go.ChangeShapes Go.WideShapes Go.ChangeAt Go.RowKit
set_option linter.unusedVariables false
set_option linter.unusedSimpArgs false

/-- What one of the document's readers returns of the word x, where it says s. -/
def RdQ9 (e : Ending) (x : Int) (s : Option Ins) : Prop := ∃ i len raw ok, e = .returned (.tuple #[Ins.v i len raw, .bool ok]) ∧ s = (if ok then some i else none) ∧ (ok = true → len = 4 ∧ raw = x)
theorem RdQ9.mk (i : Ins) (len raw : Int) (ok : Bool) {v : Value} {x : Int} {s : Option Ins} (hv : v = .tuple #[i.v len raw, .bool ok]) (hs : s = (if ok then some i else none)) (hl : ok = true → len = 4 ∧ raw = x) : RdQ9 (.returned v) x s := ⟨i, len, raw, ok, by rw [hv], hs, hl⟩
set_option maxRecDepth 4000 in
set_option maxHeartbeats 4000000 in
theorem rp_12 (x : Int) (x0 : 0 ≤ x) (x1 : x < 4294967296) (h : fl x 33554432 128 = 127) (h2 : fl x 1048576 32 = 12) (w : World) :
    Calls Tryz.prog 42 #[.int .u32 x, (Ins.v ⟨0, 0, (fl x 128 32), (fl x 32768 32), (fl x 1048576 32), 0, 0, false, false⟩ 4 x)] w fun e w' => RdQ9 e x (dsReg x) ∧ Kp w w' := by
  dsimp only [Ins.v]
  have brd := fl_bd x 128 32 (by omega)
  have bf3 := fl_bd x 4096 8 (by omega)
  have br1 := fl_bd x 32768 32 (by omega)
  have br2 := fl_bd x 1048576 32 (by omega)
  have bf7 := fl_bd x 33554432 128 (by omega)
  have t0 : (fl x 1048576 32 == 12) = true := by simp; omega
  have hs : dsReg x = some ⟨26, 0, (fl x 128 32), (fl x 32768 32), 0, 0, 0, false, false⟩ := by simp [dsReg, dsOne, h, h2, twoB]
  have H2 := Lib.hid h2
  clear h2
  go_enter Tryz.func42, Tryz.ntmps42
  go_wp2_with (first | (go_at_call 34; with_reducible refine (rf_31_25 x x0 x1 _).mono ?_; rintro e' w1 ⟨rfl, rfl⟩; (try rw [h])))
  refine bodyPost_ret (v := .tuple #[Ins.v ⟨26, 0, (fl x 128 32), (fl x 32768 32), 0, 0, 0, false, false⟩ 4 x, .bool (true)]) (by simp [results, Tryz.results42, go_sem, Ins.v, *]) rfl ⟨RdQ9.mk ⟨26, 0, (fl x 128 32), (fl x 32768 32), 0, 0, 0, false, false⟩ 4 x (true) rfl (hs) (fun _ => ⟨rfl, rfl⟩), by (repeat' (first | with_reducible refine Kp.setCell ?_ ?_ _ | with_reducible refine Kp.allocs ?_ _ _ | with_reducible refine Kp.drew ?_ | with_reducible refine Kp.drewN ?_ _)); all_goals first | exact Kp.refl w | (dsimp only; omega)⟩
set_option maxRecDepth 4000 in
set_option maxHeartbeats 4000000 in
theorem rp_1 (x : Int) (x0 : 0 ≤ x) (x1 : x < 4294967296) (h : fl x 33554432 128 = 1) (w : World) :
    Calls Tryz.prog 42 #[.int .u32 x, (Ins.v ⟨0, 0, (fl x 128 32), (fl x 32768 32), (fl x 1048576 32), 0, 0, false, false⟩ 4 x)] w fun e w' => RdQ9 e x (dsReg x) ∧ Kp w w' := by
  dsimp only [Ins.v]
  have brd := fl_bd x 128 32 (by omega)
  have bf3 := fl_bd x 4096 8 (by omega)
  have br1 := fl_bd x 32768 32 (by omega)
  have br2 := fl_bd x 1048576 32 (by omega)
  have bf7 := fl_bd x 33554432 128 (by omega)
  have hs : dsReg x = some ⟨27, 0, (fl x 128 32), (fl x 32768 32), 0, (fl x 1048576 32), 0, false, false⟩ := by simp [dsReg, h]
  go_enter Tryz.func42, Tryz.ntmps42
  go_wp2_with (first | (go_at_call 34; with_reducible refine (rf_31_25 x x0 x1 _).mono ?_; rintro e' w1 ⟨rfl, rfl⟩; (try rw [h])))
  refine bodyPost_ret (v := .tuple #[Ins.v ⟨27, 0, (fl x 128 32), (fl x 32768 32), 0, (fl x 1048576 32), 0, false, false⟩ 4 x, .bool (true)]) (by simp [results, Tryz.results42, go_sem, Ins.v, *]) rfl ⟨RdQ9.mk ⟨27, 0, (fl x 128 32), (fl x 32768 32), 0, (fl x 1048576 32), 0, false, false⟩ 4 x (true) rfl (hs) (fun _ => ⟨rfl, rfl⟩), by (repeat' (first | with_reducible refine Kp.setCell ?_ ?_ _ | with_reducible refine Kp.allocs ?_ _ _ | with_reducible refine Kp.drew ?_ | with_reducible refine Kp.drewN ?_ _)); all_goals first | exact Kp.refl w | (dsimp only; omega)⟩
set_option maxRecDepth 4000 in
set_option maxHeartbeats 4000000 in
theorem rp_125 (x : Int) (x0 : 0 ≤ x) (x1 : x < 4294967296) (h : fl x 33554432 128 = 125) (w : World) :
    Calls Tryz.prog 42 #[.int .u32 x, (Ins.v ⟨0, 0, (fl x 128 32), (fl x 32768 32), (fl x 1048576 32), 0, 0, false, false⟩ 4 x)] w fun e w' => RdQ9 e x (dsReg x) ∧ Kp w w' := by
  dsimp only [Ins.v]
  have brd := fl_bd x 128 32 (by omega)
  have bf3 := fl_bd x 4096 8 (by omega)
  have br1 := fl_bd x 32768 32 (by omega)
  have br2 := fl_bd x 1048576 32 (by omega)
  have bf7 := fl_bd x 33554432 128 (by omega)
  have e8 : ((fl x 1048576 32).tmod 8) = fl x 1048576 32 % 8 := Int.tmod_eq_emod_of_nonneg br2.1
  have hs : dsReg x = (if decide (fl x 1048576 32 < 16) then some ⟨28, 0, (fl x 128 32), (fl x 32768 32), 0, 0, fl x 1048576 32 % 8, false, decide (8 ≤ fl x 1048576 32)⟩ else none) := by
    simp only [dsReg, h, twoB, dsLoad]; by_cases g : fl x 1048576 32 < 16 <;> simp [g]
  go_enter Tryz.func42, Tryz.ntmps42
  go_wp2_with (first | (go_at_call 34; with_reducible refine (rf_31_25 x x0 x1 _).mono ?_; rintro e' w1 ⟨rfl, rfl⟩; (try rw [h])))
  refine bodyPost_ret (v := .tuple #[Ins.v ⟨28, 0, (fl x 128 32), (fl x 32768 32), 0, 0, fl x 1048576 32 % 8, false, decide (8 ≤ fl x 1048576 32)⟩ 4 x, .bool (decide (fl x 1048576 32 < 16))]) (by simp [results, Tryz.results42, go_sem, Ins.v, *]) rfl ⟨RdQ9.mk ⟨28, 0, (fl x 128 32), (fl x 32768 32), 0, 0, fl x 1048576 32 % 8, false, decide (8 ≤ fl x 1048576 32)⟩ 4 x (decide (fl x 1048576 32 < 16)) rfl (hs) (fun _ => ⟨rfl, rfl⟩), by (repeat' (first | with_reducible refine Kp.setCell ?_ ?_ _ | with_reducible refine Kp.allocs ?_ _ _ | with_reducible refine Kp.drew ?_ | with_reducible refine Kp.drewN ?_ _)); all_goals first | exact Kp.refl w | (dsimp only; omega)⟩
set_option maxRecDepth 4000 in
set_option maxHeartbeats 4000000 in
theorem rp_124 (x : Int) (x0 : 0 ≤ x) (x1 : x < 4294967296) (h : fl x 33554432 128 = 124) (w : World) :
    Calls Tryz.prog 42 #[.int .u32 x, (Ins.v ⟨0, 0, (fl x 128 32), (fl x 32768 32), (fl x 1048576 32), 0, 0, false, false⟩ 4 x)] w fun e w' => RdQ9 e x (dsReg x) ∧ Kp w w' := by
  dsimp only [Ins.v]
  have brd := fl_bd x 128 32 (by omega)
  have bf3 := fl_bd x 4096 8 (by omega)
  have br1 := fl_bd x 32768 32 (by omega)
  have br2 := fl_bd x 1048576 32 (by omega)
  have bf7 := fl_bd x 33554432 128 (by omega)
  have e8 : ((fl x 128 32).tmod 8) = fl x 128 32 % 8 := Int.tmod_eq_emod_of_nonneg brd.1
  obtain ⟨v, hv⟩ : ∃ v, stoB (fl x 128 32) = v := ⟨_, rfl⟩
  have HV := Lib.hid ((sto_in _ brd.1 brd.2).trans hv)
  have hs : dsReg x = (if v then some ⟨29, 0, 0, (fl x 32768 32), (fl x 1048576 32), 0, fl x 128 32 % 8, false, decide (8 ≤ fl x 128 32)⟩ else none) := by
    simp only [dsReg, h, twoB, dsStore, hv]; simp
  clear hv
  go_enter Tryz.func42, Tryz.ntmps42
  go_wp2_with (first | (go_at_call 34; with_reducible refine (rf_31_25 x x0 x1 _).mono ?_; rintro e' w1 ⟨rfl, rfl⟩; (try rw [h])) | (go_at_call 96; (with_reducible refine Calls.mono (in9_at (fl x 128 32) [0, 1, 2, 3, 7, 8, 9, 10, 11, 15] v HV.out _ rfl 10 rfl (by decide) (w.heap.size + 1 + 1) _ (At.new' _ _ _ (by simp))) ?_); rintro e' w1 ⟨rfl, qk⟩; have HKw1 := Lib.hid qk; obtain ⟨qw10, qw11, qw12, qw13, qw14, qw15, qw16, qw17, qw18, qw19, qw110⟩ := qk.c11 (b := w.heap.size) (.int .i64 29) (.int .i64 0) (.int .i64 ((fl x 128 32))) (.int .i64 ((fl x 32768 32))) (.int .i64 ((fl x 1048576 32))) (.int .i64 0) (.int .i64 (fl x 128 32 % 8)) (.bool false) (.bool (decide (8 ≤ fl x 128 32))) (.int .i64 4) (.int .u32 x); obtain ⟨qw111, qw112, qw113, qw114, qw115, qw116, qw117, qw118, qw119, qw120, qw121⟩ := qk.c11 (b := (w.heap.size + 1)) (.int .i64 0) (.int .i64 0) (.int .i64 0) (.int .i64 0) (.int .i64 0) (.int .i64 0) (.int .i64 0) (.bool false) (.bool false) (.int .i64 0) (.int .u32 0); obtain ⟨zw10, zw11, zw12, zw13, zw14, zw15, zw16, zw17, zw18, zw19, zw110⟩ := qk.z11 (b := w.heap.size); obtain ⟨zw111, zw112, zw113, zw114, zw115, zw116, zw117, zw118, zw119, zw120, zw121⟩ := qk.z11 (b := (w.heap.size + 1)); have sz := qk.size; (try simp at sz); have KW := Lib.hid (Kp.trans ((((Kp.refl w).allocs _ _).allocs _ _).allocs _ _) qk); have qa0 : w.heap.size < w1.heap.size := (by omega); have qa1 : ¬ w.heap.size = w1.heap.size := (by omega); have qa2 : ¬ w1.heap.size = w.heap.size := (by omega); have qb0 : (w.heap.size + 1) < w1.heap.size := (by omega); have qb1 : ¬ (w.heap.size + 1) = w1.heap.size := (by omega); have qb2 : ¬ w1.heap.size = (w.heap.size + 1) := (by omega); clear qk))
  refine bodyPost_ret (v := .tuple #[Ins.v ⟨29, 0, 0, (fl x 32768 32), (fl x 1048576 32), 0, fl x 128 32 % 8, false, decide (8 ≤ fl x 128 32)⟩ 4 x, .bool (v)]) (by simp [results, Tryz.results42, go_sem, Ins.v, *]) rfl ⟨RdQ9.mk ⟨29, 0, 0, (fl x 32768 32), (fl x 1048576 32), 0, fl x 128 32 % 8, false, decide (8 ≤ fl x 128 32)⟩ 4 x (v) rfl (hs) (fun _ => ⟨rfl, rfl⟩), by (repeat' (first | with_reducible refine Kp.setCell ?_ ?_ _ | with_reducible refine Kp.allocs ?_ _ _ | with_reducible refine Kp.drew ?_ | with_reducible refine Kp.drewN ?_ _)); all_goals first | exact KW.out | (dsimp only; omega)⟩
set_option maxRecDepth 4000 in
set_option maxHeartbeats 4000000 in
theorem rp_127a (x : Int) (x0 : 0 ≤ x) (x1 : x < 4294967296) (h : fl x 33554432 128 = 127) (h2 : fl x 1048576 32 ≤ 11) (w : World) :
    Calls Tryz.prog 42 #[.int .u32 x, (Ins.v ⟨0, 0, (fl x 128 32), (fl x 32768 32), (fl x 1048576 32), 0, 0, false, false⟩ 4 x)] w fun e w' => RdQ9 e x (dsReg x) ∧ Kp w w' := by
  dsimp only [Ins.v]
  have brd := fl_bd x 128 32 (by omega)
  have bf3 := fl_bd x 4096 8 (by omega)
  have br1 := fl_bd x 32768 32 (by omega)
  have br2 := fl_bd x 1048576 32 (by omega)
  have bf7 := fl_bd x 33554432 128 (by omega)
  have t0 : (fl x 1048576 32 == 12) = false := by simp; omega
  have t1 : decide (fl x 1048576 32 ≤ 11) = true := by simp; omega
  obtain ⟨v, hv⟩ : ∃ v, inB (fl x 1048576 32) [15, 17, 24] = v := ⟨_, rfl⟩
  have HV := Lib.hid hv
  have hs : dsReg x = some ⟨23, fl x 1048576 32, (fl x 128 32), (fl x 32768 32), 0, 0, 0, false, false⟩ := by simp [dsReg, dsOne, h, show ¬ fl x 1048576 32 = 12 by omega, twoB, getB, h2]
  have H2 := Lib.hid h2
  have HS := Lib.hid hs
  clear h2 hv hs
  go_enter Tryz.func42, Tryz.ntmps42
  go_wp2_with (first | (go_at_call 34; with_reducible refine (rf_31_25 x x0 x1 _).mono ?_; rintro e' w1 ⟨rfl, rfl⟩; (try rw [h])))
  have A1 : At w.heap.size [.int .i64 23, .int .i64 (fl x 1048576 32), .int .i64 ((fl x 128 32)), .int .i64 ((fl x 32768 32)), .int .i64 0, .int .i64 0, .int .i64 0, .bool false, .bool false, .int .i64 4, .int .u32 x] ((w.alloc (.cells #[.int .i64 23, .int .i64 (fl x 1048576 32), .int .i64 ((fl x 128 32)), .int .i64 ((fl x 32768 32)), .int .i64 0, .int .i64 0, .int .i64 0, .bool false, .bool false, .int .i64 4, .int .u32 x] 24)).alloc (.cells #[.int .i64 0, .int .i64 0, .int .i64 0, .int .i64 0, .int .i64 0, .int .i64 0, .int .i64 0, .bool false, .bool false, .int .i64 0, .int .u32 0] 24)) := (At.new' w _ _ rfl).alloc _
  have R2 : Rm (w.heap.size + 1) 11 ((w.alloc (.cells #[.int .i64 23, .int .i64 (fl x 1048576 32), .int .i64 ((fl x 128 32)), .int .i64 ((fl x 32768 32)), .int .i64 0, .int .i64 0, .int .i64 0, .bool false, .bool false, .int .i64 4, .int .u32 x] 24)).alloc (.cells #[.int .i64 0, .int .i64 0, .int .i64 0, .int .i64 0, .int .i64 0, .int .i64 0, .int .i64 0, .bool false, .bool false, .int .i64 0, .int .u32 0] 24)) := Rm.new' (w.alloc (.cells #[.int .i64 23, .int .i64 (fl x 1048576 32), .int .i64 ((fl x 128 32)), .int .i64 ((fl x 32768 32)), .int .i64 0, .int .i64 0, .int .i64 0, .bool false, .bool false, .int .i64 4, .int .u32 x] 24)) [.int .i64 0, .int .i64 0, .int .i64 0, .int .i64 0, .int .i64 0, .int .i64 0, .int .i64 0, .bool false, .bool false, .int .i64 0, .int .u32 0] 24 11 (by simp) (by simp)
  have kb : Bh w (w.heap.size + 1 + 1) ((w.alloc (.cells #[.int .i64 23, .int .i64 (fl x 1048576 32), .int .i64 ((fl x 128 32)), .int .i64 ((fl x 32768 32)), .int .i64 0, .int .i64 0, .int .i64 0, .bool false, .bool false, .int .i64 4, .int .u32 x] 24)).alloc (.cells #[.int .i64 0, .int .i64 0, .int .i64 0, .int .i64 0, .int .i64 0, .int .i64 0, .int .i64 0, .bool false, .bool false, .int .i64 0, .int .u32 0] 24)) := ⟨((Kp.refl w).allocs _ _).allocs _ _, by omega, by simp⟩
  obtain ⟨W2, hW⟩ : ∃ W2, ((w.alloc (.cells #[.int .i64 23, .int .i64 (fl x 1048576 32), .int .i64 ((fl x 128 32)), .int .i64 ((fl x 32768 32)), .int .i64 0, .int .i64 0, .int .i64 0, .bool false, .bool false, .int .i64 4, .int .u32 x] 24)).alloc (.cells #[.int .i64 0, .int .i64 0, .int .i64 0, .int .i64 0, .int .i64 0, .int .i64 0, .int .i64 0, .bool false, .bool false, .int .i64 0, .int .u32 0] 24)) = W2 := ⟨_, rfl⟩
  rw [hW] at A1 R2 kb ⊢
  clear hW
  have d0 := A1 0 _ rfl; have d1 := A1 1 _ rfl; have d2 := A1 2 _ rfl; have d3 := A1 3 _ rfl; have d4 := A1 4 _ rfl; have d5 := A1 5 _ rfl; have d6 := A1 6 _ rfl; have d7 := A1 7 _ rfl; have d8 := A1 8 _ rfl; have d9 := A1 9 _ rfl; have d10 := A1 10 _ rfl
  obtain ⟨⟨_, _⟩, _, ⟨_, _⟩, _, ⟨_, _⟩, _, ⟨_, _⟩, _, ⟨_, _⟩, _, ⟨_, _⟩, _, ⟨_, _⟩, _, ⟨_, _⟩, _, ⟨_, _⟩, _, ⟨_, _⟩, _, ⟨_, _⟩, _⟩ := R2.out11
  refine wp_region_held_drew (S := (fun w' => At (w.heap.size) [.int .i64 23, .int .i64 (fl x 1048576 32), .int .i64 ((fl x 128 32)), .int .i64 ((fl x 32768 32)), .int .i64 0, .int .i64 0, .int .i64 0, .bool false, .bool false, .int .i64 4, .int .u32 x] w' ∧ Rm ((w.heap.size + 1)) 11 w' ∧ Bh w (w.heap.size + 1 + 1) w')) (by kernel_rfl) ⟨At.drew (by with_reducible assumption), Rm.drew (by with_reducible assumption), Bh.drew (by with_reducible assumption)⟩ (fun hS => ?_)
  (refine tk 0 ?_ rfl (Or.inl ⟨by rfl, ?_⟩) hS ?_; rotate_left; focus (intro w' hSw; obtain ⟨s0, s1, sb⟩ := hSw; have c0_0 := s0 0 _ rfl; have c0_1 := s0 1 _ rfl; have c0_2 := s0 2 _ rfl; have c0_3 := s0 3 _ rfl; have c0_4 := s0 4 _ rfl; have c0_5 := s0 5 _ rfl; have c0_6 := s0 6 _ rfl; have c0_7 := s0 7 _ rfl; have c0_8 := s0 8 _ rfl; have c0_9 := s0 9 _ rfl; have c0_10 := s0 10 _ rfl; go_simp <;> try with_reducible rfl))
  try simp only [Act.put, zA, zB, zC]
  (refine tk 1 ?_ rfl (Or.inl ⟨by rfl, ?_⟩) hS ?_; rotate_left; focus (intro w' hSw; obtain ⟨s0, s1, sb⟩ := hSw; go_simp <;> try with_reducible rfl))
  try simp only [Act.put, zA, zB, zC]
  (refine tk 2 ?_ rfl (Or.inl ⟨by rfl, ?_⟩) hS ?_; rotate_left; focus (intro w' hSw; obtain ⟨s0, s1, sb⟩ := hSw; go_simp <;> try with_reducible rfl))
  try simp only [Act.put, zA, zB, zC]
  (refine tk 3 ?_ rfl (Or.inl ⟨by rfl, ?_⟩) hS ?_; rotate_left; focus (intro w' hSw; obtain ⟨s0, s1, sb⟩ := hSw; go_simp <;> try with_reducible rfl))
  try simp only [Act.put, zA, zB, zC]
  (refine tk 4 ?_ rfl ?_ hS ?_; rotate_left; focus (first | (refine Or.inl ⟨by rfl, ?_⟩; intro w' hSw; obtain ⟨s0, s1, sb⟩ := hSw; go_simp <;> try with_reducible rfl) | (refine Or.inr ⟨by rfl, ?_⟩; rfl)))
  try simp only [Act.put, zA, zB, zC]
  refine rdy 5 rfl (fun K hK => ?_)
  (first | (refine take_if (by rfl) ?_; obtain ⟨s0, s1, sb⟩ := hS; go_simp; refine hK.out _ _ ⟨At.alloc s0 _, Rm.alloc s1 _ _, Bh.alloc sb _ _⟩ (fun hS => ?_)) | (refine skip_if (by rfl) ?_; refine hK.out _ _ hS (fun hS => ?_)))
  clear hK K
  try simp only [Act.put, zA, zB, zC]
  refine rdy 6 rfl (fun K hK => ?_)
  (first | (refine take_if (by rfl) ?_; obtain ⟨s0, s1, sb⟩ := hS; go_simp; (with_reducible refine (in9_at (fl x 1048576 32) [15, 17, 24] v HV.out [.int .i64 15, .int .i64 17, .int .i64 24] (by simp) 3 (by simp) (by decide) _ _ (At.drew (At.new' _ _ _ rfl))).mono ?_); rintro e' w' ⟨rfl, qk⟩; have t0 := At.kp s0 qk (Nat.lt_of_lt_of_le (show w.heap.size < w.heap.size + 1 + 1 by omega) sb.le); have t1 := Rm.kp s1 qk (Nat.lt_of_lt_of_le (show (w.heap.size + 1) < w.heap.size + 1 + 1 by omega) sb.le); have tb := Bh.step sb qk; clear qk; refine hK.out _ _ ⟨t0, t1, tb⟩ (fun hS => ?_)) | (refine take_if (by rfl) ?_; obtain ⟨s0, s1, sb⟩ := hS; go_simp; (with_reducible refine (in9_at (fl x 1048576 32) [15, 17, 24] v HV.out [.int .i64 15, .int .i64 17, .int .i64 24] (by simp) 3 (by simp) (by decide) _ _ (At.new' _ _ _ rfl)).mono ?_); rintro e' w' ⟨rfl, qk⟩; have t0 := At.kp s0 qk (Nat.lt_of_lt_of_le (show w.heap.size < w.heap.size + 1 + 1 by omega) sb.le); have t1 := Rm.kp s1 qk (Nat.lt_of_lt_of_le (show (w.heap.size + 1) < w.heap.size + 1 + 1 by omega) sb.le); have tb := Bh.step sb qk; clear qk; refine hK.out _ _ ⟨t0, t1, tb⟩ (fun hS => ?_)) | (refine skip_if (by rfl) ?_; refine hK.out _ _ hS (fun hS => ?_)))
  clear hK K
  try simp only [Act.put, zA, zB, zC]
  (refine tk 7 ?_ rfl (Or.inl ⟨by rfl, ?_⟩) hS ?_; rotate_left; focus (intro w' hSw; obtain ⟨s0, s1, sb⟩ := hSw; go_simp <;> try with_reducible rfl))
  try simp only [Act.put, zA, zB, zC]
  refine rdy 8 rfl (fun K hK => ?_)
  obtain ⟨s0, s1, sb⟩ := hS
  have c0_0 := s0 0 _ rfl; have c0_1 := s0 1 _ rfl; have c0_2 := s0 2 _ rfl; have c0_3 := s0 3 _ rfl; have c0_4 := s0 4 _ rfl; have c0_5 := s0 5 _ rfl; have c0_6 := s0 6 _ rfl; have c0_7 := s0 7 _ rfl; have c0_8 := s0 8 _ rfl; have c0_9 := s0 9 _ rfl; have c0_10 := s0 10 _ rfl
  obtain ⟨⟨_, _⟩, _, ⟨_, _⟩, _, ⟨_, _⟩, _, ⟨_, _⟩, _, ⟨_, _⟩, _, ⟨_, _⟩, _, ⟨_, _⟩, _, ⟨_, _⟩, _, ⟨_, _⟩, _, ⟨_, _⟩, _, ⟨_, _⟩, _⟩ := s1.out11; 
  go_simp
  refine hK.out _ _ ⟨?_, ?_, ?_⟩ (fun hS => ?_)
  · repeat' (first | with_reducible assumption | (with_reducible refine At.set ?_ ?_ _) | with_reducible refine At.drew ?_)
    all_goals first | with_reducible assumption | (dsimp only; omega)
  · repeat' (first | with_reducible assumption | (with_reducible refine Rm.set ?_ _) | with_reducible refine Rm.drew ?_)
    all_goals first | with_reducible assumption | (dsimp only; omega)
  · repeat' (first | with_reducible assumption | with_reducible refine Bh.set2 ?_ ?_ | with_reducible refine Bh.drew ?_)
    all_goals first | with_reducible assumption | (dsimp only; omega)
  clear hK K
  try simp only [Act.put, zA, zB, zC]
  (refine tk 9 ?_ rfl (Or.inl ⟨by rfl, ?_⟩) hS ?_; rotate_left; focus (intro w' hSw; obtain ⟨s0, s1, sb⟩ := hSw; go_simp <;> try with_reducible rfl))
  try simp only [Act.put, zA, zB, zC]
  refine wpAnyH_done (by kernel_rfl) ?_ _
  obtain ⟨s0, s1, sb⟩ := hS
  have c0_0 := s0 0 _ rfl; have c0_1 := s0 1 _ rfl; have c0_2 := s0 2 _ rfl; have c0_3 := s0 3 _ rfl; have c0_4 := s0 4 _ rfl; have c0_5 := s0 5 _ rfl; have c0_6 := s0 6 _ rfl; have c0_7 := s0 7 _ rfl; have c0_8 := s0 8 _ rfl; have c0_9 := s0 9 _ rfl; have c0_10 := s0 10 _ rfl
  go_wp2
  refine bodyPost_ret (v := .tuple #[Ins.v ⟨23, fl x 1048576 32, (fl x 128 32), (fl x 32768 32), 0, 0, 0, false, false⟩ 4 x, .bool (true)]) ?_ rfl ⟨RdQ9.mk ⟨23, fl x 1048576 32, (fl x 128 32), (fl x 32768 32), 0, 0, 0, false, false⟩ 4 x (true) rfl (HS.out) (fun _ => ⟨rfl, rfl⟩), ?_⟩
  · simp [results, Tryz.results42, go_sem, Ins.v, *]
  · with_reducible exact sb.kp
set_option maxRecDepth 4000 in
set_option maxHeartbeats 4000000 in
theorem rp_127b (x : Int) (x0 : 0 ≤ x) (x1 : x < 4294967296) (h : fl x 33554432 128 = 127) (h2 : 11 < fl x 1048576 32) (h3 : ¬ fl x 1048576 32 = 12) (w : World) :
    Calls Tryz.prog 42 #[.int .u32 x, (Ins.v ⟨0, 0, (fl x 128 32), (fl x 32768 32), (fl x 1048576 32), 0, 0, false, false⟩ 4 x)] w fun e w' => RdQ9 e x (dsReg x) ∧ Kp w w' := by
  dsimp only [Ins.v]
  have brd := fl_bd x 128 32 (by omega)
  have bf3 := fl_bd x 4096 8 (by omega)
  have br1 := fl_bd x 32768 32 (by omega)
  have br2 := fl_bd x 1048576 32 (by omega)
  have bf7 := fl_bd x 33554432 128 (by omega)
  have t0 : (fl x 1048576 32 == 12) = false := by simp; omega
  have t1 : decide (fl x 1048576 32 ≤ 11) = false := by simp; omega
  obtain ⟨v, hv⟩ : ∃ v, inB (fl x 1048576 32) [15, 17, 24] = v := ⟨_, rfl⟩
  have HV := Lib.hid hv
  have hs : dsReg x = (if v then some ⟨23, fl x 1048576 32, (fl x 128 32), (fl x 32768 32), 0, 0, 0, false, false⟩ else none) := by
    have hg := get_in _ br2.1 br2.2
    rw [t1, Bool.false_or, hv] at hg
    simp [dsReg, dsOne, h, h3, twoB, ← hg]
  have H2 := Lib.hid h2
  have H3 := Lib.hid h3
  have HS := Lib.hid hs
  clear h2 h3 hv hs
  go_enter Tryz.func42, Tryz.ntmps42
  go_wp2_with (first | (go_at_call 34; with_reducible refine (rf_31_25 x x0 x1 _).mono ?_; rintro e' w1 ⟨rfl, rfl⟩; (try rw [h])))
  have A1 : At w.heap.size [.int .i64 23, .int .i64 (fl x 1048576 32), .int .i64 ((fl x 128 32)), .int .i64 ((fl x 32768 32)), .int .i64 0, .int .i64 0, .int .i64 0, .bool false, .bool false, .int .i64 4, .int .u32 x] ((w.alloc (.cells #[.int .i64 23, .int .i64 (fl x 1048576 32), .int .i64 ((fl x 128 32)), .int .i64 ((fl x 32768 32)), .int .i64 0, .int .i64 0, .int .i64 0, .bool false, .bool false, .int .i64 4, .int .u32 x] 24)).alloc (.cells #[.int .i64 0, .int .i64 0, .int .i64 0, .int .i64 0, .int .i64 0, .int .i64 0, .int .i64 0, .bool false, .bool false, .int .i64 0, .int .u32 0] 24)) := (At.new' w _ _ rfl).alloc _
  have R2 : Rm (w.heap.size + 1) 11 ((w.alloc (.cells #[.int .i64 23, .int .i64 (fl x 1048576 32), .int .i64 ((fl x 128 32)), .int .i64 ((fl x 32768 32)), .int .i64 0, .int .i64 0, .int .i64 0, .bool false, .bool false, .int .i64 4, .int .u32 x] 24)).alloc (.cells #[.int .i64 0, .int .i64 0, .int .i64 0, .int .i64 0, .int .i64 0, .int .i64 0, .int .i64 0, .bool false, .bool false, .int .i64 0, .int .u32 0] 24)) := Rm.new' (w.alloc (.cells #[.int .i64 23, .int .i64 (fl x 1048576 32), .int .i64 ((fl x 128 32)), .int .i64 ((fl x 32768 32)), .int .i64 0, .int .i64 0, .int .i64 0, .bool false, .bool false, .int .i64 4, .int .u32 x] 24)) [.int .i64 0, .int .i64 0, .int .i64 0, .int .i64 0, .int .i64 0, .int .i64 0, .int .i64 0, .bool false, .bool false, .int .i64 0, .int .u32 0] 24 11 (by simp) (by simp)
  have kb : Bh w (w.heap.size + 1 + 1) ((w.alloc (.cells #[.int .i64 23, .int .i64 (fl x 1048576 32), .int .i64 ((fl x 128 32)), .int .i64 ((fl x 32768 32)), .int .i64 0, .int .i64 0, .int .i64 0, .bool false, .bool false, .int .i64 4, .int .u32 x] 24)).alloc (.cells #[.int .i64 0, .int .i64 0, .int .i64 0, .int .i64 0, .int .i64 0, .int .i64 0, .int .i64 0, .bool false, .bool false, .int .i64 0, .int .u32 0] 24)) := ⟨((Kp.refl w).allocs _ _).allocs _ _, by omega, by simp⟩
  obtain ⟨W2, hW⟩ : ∃ W2, ((w.alloc (.cells #[.int .i64 23, .int .i64 (fl x 1048576 32), .int .i64 ((fl x 128 32)), .int .i64 ((fl x 32768 32)), .int .i64 0, .int .i64 0, .int .i64 0, .bool false, .bool false, .int .i64 4, .int .u32 x] 24)).alloc (.cells #[.int .i64 0, .int .i64 0, .int .i64 0, .int .i64 0, .int .i64 0, .int .i64 0, .int .i64 0, .bool false, .bool false, .int .i64 0, .int .u32 0] 24)) = W2 := ⟨_, rfl⟩
  rw [hW] at A1 R2 kb ⊢
  clear hW
  have d0 := A1 0 _ rfl; have d1 := A1 1 _ rfl; have d2 := A1 2 _ rfl; have d3 := A1 3 _ rfl; have d4 := A1 4 _ rfl; have d5 := A1 5 _ rfl; have d6 := A1 6 _ rfl; have d7 := A1 7 _ rfl; have d8 := A1 8 _ rfl; have d9 := A1 9 _ rfl; have d10 := A1 10 _ rfl
  obtain ⟨⟨_, _⟩, _, ⟨_, _⟩, _, ⟨_, _⟩, _, ⟨_, _⟩, _, ⟨_, _⟩, _, ⟨_, _⟩, _, ⟨_, _⟩, _, ⟨_, _⟩, _, ⟨_, _⟩, _, ⟨_, _⟩, _, ⟨_, _⟩, _⟩ := R2.out11
  refine wp_region_held_drew (S := (fun w' => At (w.heap.size) [.int .i64 23, .int .i64 (fl x 1048576 32), .int .i64 ((fl x 128 32)), .int .i64 ((fl x 32768 32)), .int .i64 0, .int .i64 0, .int .i64 0, .bool false, .bool false, .int .i64 4, .int .u32 x] w' ∧ Rm ((w.heap.size + 1)) 11 w' ∧ Bh w (w.heap.size + 1 + 1) w')) (by kernel_rfl) ⟨At.drew (by with_reducible assumption), Rm.drew (by with_reducible assumption), Bh.drew (by with_reducible assumption)⟩ (fun hS => ?_)
  (refine tk 0 ?_ rfl (Or.inl ⟨by rfl, ?_⟩) hS ?_; rotate_left; focus (intro w' hSw; obtain ⟨s0, s1, sb⟩ := hSw; have c0_0 := s0 0 _ rfl; have c0_1 := s0 1 _ rfl; have c0_2 := s0 2 _ rfl; have c0_3 := s0 3 _ rfl; have c0_4 := s0 4 _ rfl; have c0_5 := s0 5 _ rfl; have c0_6 := s0 6 _ rfl; have c0_7 := s0 7 _ rfl; have c0_8 := s0 8 _ rfl; have c0_9 := s0 9 _ rfl; have c0_10 := s0 10 _ rfl; go_simp <;> try with_reducible rfl))
  try simp only [Act.put, zA, zB, zC]
  (refine tk 1 ?_ rfl (Or.inl ⟨by rfl, ?_⟩) hS ?_; rotate_left; focus (intro w' hSw; obtain ⟨s0, s1, sb⟩ := hSw; go_simp <;> try with_reducible rfl))
  try simp only [Act.put, zA, zB, zC]
  (refine tk 2 ?_ rfl (Or.inl ⟨by rfl, ?_⟩) hS ?_; rotate_left; focus (intro w' hSw; obtain ⟨s0, s1, sb⟩ := hSw; go_simp <;> try with_reducible rfl))
  try simp only [Act.put, zA, zB, zC]
  (refine tk 3 ?_ rfl (Or.inl ⟨by rfl, ?_⟩) hS ?_; rotate_left; focus (intro w' hSw; obtain ⟨s0, s1, sb⟩ := hSw; go_simp <;> try with_reducible rfl))
  try simp only [Act.put, zA, zB, zC]
  (refine tk 4 ?_ rfl ?_ hS ?_; rotate_left; focus (first | (refine Or.inl ⟨by rfl, ?_⟩; intro w' hSw; obtain ⟨s0, s1, sb⟩ := hSw; go_simp <;> try with_reducible rfl) | (refine Or.inr ⟨by rfl, ?_⟩; rfl)))
  try simp only [Act.put, zA, zB, zC]
  refine rdy 5 rfl (fun K hK => ?_)
  (first | (refine take_if (by rfl) ?_; obtain ⟨s0, s1, sb⟩ := hS; go_simp; refine hK.out _ _ ⟨At.alloc s0 _, Rm.alloc s1 _ _, Bh.alloc sb _ _⟩ (fun hS => ?_)) | (refine skip_if (by rfl) ?_; refine hK.out _ _ hS (fun hS => ?_)))
  clear hK K
  try simp only [Act.put, zA, zB, zC]
  refine rdy 6 rfl (fun K hK => ?_)
  (first | (refine take_if (by rfl) ?_; obtain ⟨s0, s1, sb⟩ := hS; go_simp; (with_reducible refine (in9_at (fl x 1048576 32) [15, 17, 24] v HV.out [.int .i64 15, .int .i64 17, .int .i64 24] (by simp) 3 (by simp) (by decide) _ _ (At.drew (At.new' _ _ _ rfl))).mono ?_); rintro e' w' ⟨rfl, qk⟩; have t0 := At.kp s0 qk (Nat.lt_of_lt_of_le (show w.heap.size < w.heap.size + 1 + 1 by omega) sb.le); have t1 := Rm.kp s1 qk (Nat.lt_of_lt_of_le (show (w.heap.size + 1) < w.heap.size + 1 + 1 by omega) sb.le); have tb := Bh.step sb qk; clear qk; refine hK.out _ _ ⟨t0, t1, tb⟩ (fun hS => ?_)) | (refine take_if (by rfl) ?_; obtain ⟨s0, s1, sb⟩ := hS; go_simp; (with_reducible refine (in9_at (fl x 1048576 32) [15, 17, 24] v HV.out [.int .i64 15, .int .i64 17, .int .i64 24] (by simp) 3 (by simp) (by decide) _ _ (At.new' _ _ _ rfl)).mono ?_); rintro e' w' ⟨rfl, qk⟩; have t0 := At.kp s0 qk (Nat.lt_of_lt_of_le (show w.heap.size < w.heap.size + 1 + 1 by omega) sb.le); have t1 := Rm.kp s1 qk (Nat.lt_of_lt_of_le (show (w.heap.size + 1) < w.heap.size + 1 + 1 by omega) sb.le); have tb := Bh.step sb qk; clear qk; refine hK.out _ _ ⟨t0, t1, tb⟩ (fun hS => ?_)) | (refine skip_if (by rfl) ?_; refine hK.out _ _ hS (fun hS => ?_)))
  clear hK K
  try simp only [Act.put, zA, zB, zC]
  (refine tk 7 ?_ rfl (Or.inl ⟨by rfl, ?_⟩) hS ?_; rotate_left; focus (intro w' hSw; obtain ⟨s0, s1, sb⟩ := hSw; go_simp <;> try with_reducible rfl))
  try simp only [Act.put, zA, zB, zC]
  refine rdy 8 rfl (fun K hK => ?_)
  obtain ⟨s0, s1, sb⟩ := hS
  have c0_0 := s0 0 _ rfl; have c0_1 := s0 1 _ rfl; have c0_2 := s0 2 _ rfl; have c0_3 := s0 3 _ rfl; have c0_4 := s0 4 _ rfl; have c0_5 := s0 5 _ rfl; have c0_6 := s0 6 _ rfl; have c0_7 := s0 7 _ rfl; have c0_8 := s0 8 _ rfl; have c0_9 := s0 9 _ rfl; have c0_10 := s0 10 _ rfl
  obtain ⟨⟨_, _⟩, _, ⟨_, _⟩, _, ⟨_, _⟩, _, ⟨_, _⟩, _, ⟨_, _⟩, _, ⟨_, _⟩, _, ⟨_, _⟩, _, ⟨_, _⟩, _, ⟨_, _⟩, _, ⟨_, _⟩, _, ⟨_, _⟩, _⟩ := s1.out11; 
  go_simp
  refine hK.out _ _ ⟨?_, ?_, ?_⟩ (fun hS => ?_)
  · repeat' (first | with_reducible assumption | (with_reducible refine At.set ?_ ?_ _) | with_reducible refine At.drew ?_)
    all_goals first | with_reducible assumption | (dsimp only; omega)
  · repeat' (first | with_reducible assumption | (with_reducible refine Rm.set ?_ _) | with_reducible refine Rm.drew ?_)
    all_goals first | with_reducible assumption | (dsimp only; omega)
  · repeat' (first | with_reducible assumption | with_reducible refine Bh.set2 ?_ ?_ | with_reducible refine Bh.drew ?_)
    all_goals first | with_reducible assumption | (dsimp only; omega)
  clear hK K
  try simp only [Act.put, zA, zB, zC]
  (refine tk 9 ?_ rfl (Or.inl ⟨by rfl, ?_⟩) hS ?_; rotate_left; focus (intro w' hSw; obtain ⟨s0, s1, sb⟩ := hSw; go_simp <;> try with_reducible rfl))
  try simp only [Act.put, zA, zB, zC]
  refine wpAnyH_done (by kernel_rfl) ?_ _
  obtain ⟨s0, s1, sb⟩ := hS
  have c0_0 := s0 0 _ rfl; have c0_1 := s0 1 _ rfl; have c0_2 := s0 2 _ rfl; have c0_3 := s0 3 _ rfl; have c0_4 := s0 4 _ rfl; have c0_5 := s0 5 _ rfl; have c0_6 := s0 6 _ rfl; have c0_7 := s0 7 _ rfl; have c0_8 := s0 8 _ rfl; have c0_9 := s0 9 _ rfl; have c0_10 := s0 10 _ rfl
  go_wp2
  refine bodyPost_ret (v := .tuple #[Ins.v ⟨23, fl x 1048576 32, (fl x 128 32), (fl x 32768 32), 0, 0, 0, false, false⟩ 4 x, .bool (v)]) ?_ rfl ⟨RdQ9.mk ⟨23, fl x 1048576 32, (fl x 128 32), (fl x 32768 32), 0, 0, 0, false, false⟩ 4 x (v) rfl (HS.out) (fun _ => ⟨rfl, rfl⟩), ?_⟩
  · simp [results, Tryz.results42, go_sem, Ins.v, *]
  · with_reducible exact sb.kp
set_option maxRecDepth 4000 in
set_option maxHeartbeats 4000000 in
theorem rp_n (x : Int) (x0 : 0 ≤ x) (x1 : x < 4294967296) (h1 : ¬ fl x 33554432 128 = 1) (h2 : ¬ fl x 33554432 128 = 124) (h3 : ¬ fl x 33554432 128 = 125) (h4 : ¬ fl x 33554432 128 = 127) (w : World) :
    Calls Tryz.prog 42 #[.int .u32 x, (Ins.v ⟨0, 0, (fl x 128 32), (fl x 32768 32), (fl x 1048576 32), 0, 0, false, false⟩ 4 x)] w fun e w' => RdQ9 e x (dsReg x) ∧ Kp w w' := by
  dsimp only [Ins.v]
  have brd := fl_bd x 128 32 (by omega)
  have bf3 := fl_bd x 4096 8 (by omega)
  have br1 := fl_bd x 32768 32 (by omega)
  have br2 := fl_bd x 1048576 32 (by omega)
  have bf7 := fl_bd x 33554432 128 (by omega)
  have t1 : (fl x 33554432 128 == 1) = false := by simp; omega
  have t124 : (fl x 33554432 128 == 124) = false := by simp; omega
  have t125 : (fl x 33554432 128 == 125) = false := by simp; omega
  have t127 : (fl x 33554432 128 == 127) = false := by simp; omega
  obtain ⟨v, hv⟩ : ∃ v, twoB (fl x 33554432 128) = v := ⟨_, rfl⟩
  have HV := Lib.hid ((two_in _ bf7.1 bf7.2).trans hv)
  have hs : dsReg x = (if v then some ⟨24, fl x 33554432 128, (fl x 128 32), (fl x 32768 32), (fl x 1048576 32), 0, 0, false, false⟩ else none) := by
    simp [dsReg, h1, h2, h3, h4, hv]
  have HS := Lib.hid hs
  clear h1 h2 h3 h4 hv hs
  go_enter Tryz.func42, Tryz.ntmps42
  go_wp2_with (first | (go_at_call 34; with_reducible refine (rf_31_25 x x0 x1 _).mono ?_; rintro e' w1 ⟨rfl, rfl⟩))
  have A1 : At w.heap.size [.int .i64 24, .int .i64 (fl x 33554432 128), .int .i64 ((fl x 128 32)), .int .i64 ((fl x 32768 32)), .int .i64 ((fl x 1048576 32)), .int .i64 0, .int .i64 0, .bool false, .bool false, .int .i64 4, .int .u32 x] ((w.alloc (.cells #[.int .i64 24, .int .i64 (fl x 33554432 128), .int .i64 ((fl x 128 32)), .int .i64 ((fl x 32768 32)), .int .i64 ((fl x 1048576 32)), .int .i64 0, .int .i64 0, .bool false, .bool false, .int .i64 4, .int .u32 x] 24)).alloc (.cells #[.int .i64 0, .int .i64 0, .int .i64 0, .int .i64 0, .int .i64 0, .int .i64 0, .int .i64 0, .bool false, .bool false, .int .i64 0, .int .u32 0] 24)) := (At.new' w _ _ rfl).alloc _
  have R2 : Rm (w.heap.size + 1) 11 ((w.alloc (.cells #[.int .i64 24, .int .i64 (fl x 33554432 128), .int .i64 ((fl x 128 32)), .int .i64 ((fl x 32768 32)), .int .i64 ((fl x 1048576 32)), .int .i64 0, .int .i64 0, .bool false, .bool false, .int .i64 4, .int .u32 x] 24)).alloc (.cells #[.int .i64 0, .int .i64 0, .int .i64 0, .int .i64 0, .int .i64 0, .int .i64 0, .int .i64 0, .bool false, .bool false, .int .i64 0, .int .u32 0] 24)) := Rm.new' (w.alloc (.cells #[.int .i64 24, .int .i64 (fl x 33554432 128), .int .i64 ((fl x 128 32)), .int .i64 ((fl x 32768 32)), .int .i64 ((fl x 1048576 32)), .int .i64 0, .int .i64 0, .bool false, .bool false, .int .i64 4, .int .u32 x] 24)) [.int .i64 0, .int .i64 0, .int .i64 0, .int .i64 0, .int .i64 0, .int .i64 0, .int .i64 0, .bool false, .bool false, .int .i64 0, .int .u32 0] 24 11 (by simp) (by simp)
  have kb : Bh w (w.heap.size + 1 + 1) ((w.alloc (.cells #[.int .i64 24, .int .i64 (fl x 33554432 128), .int .i64 ((fl x 128 32)), .int .i64 ((fl x 32768 32)), .int .i64 ((fl x 1048576 32)), .int .i64 0, .int .i64 0, .bool false, .bool false, .int .i64 4, .int .u32 x] 24)).alloc (.cells #[.int .i64 0, .int .i64 0, .int .i64 0, .int .i64 0, .int .i64 0, .int .i64 0, .int .i64 0, .bool false, .bool false, .int .i64 0, .int .u32 0] 24)) := ⟨((Kp.refl w).allocs _ _).allocs _ _, by omega, by simp⟩
  obtain ⟨W2, hW⟩ : ∃ W2, ((w.alloc (.cells #[.int .i64 24, .int .i64 (fl x 33554432 128), .int .i64 ((fl x 128 32)), .int .i64 ((fl x 32768 32)), .int .i64 ((fl x 1048576 32)), .int .i64 0, .int .i64 0, .bool false, .bool false, .int .i64 4, .int .u32 x] 24)).alloc (.cells #[.int .i64 0, .int .i64 0, .int .i64 0, .int .i64 0, .int .i64 0, .int .i64 0, .int .i64 0, .bool false, .bool false, .int .i64 0, .int .u32 0] 24)) = W2 := ⟨_, rfl⟩
  rw [hW] at A1 R2 kb ⊢
  clear hW
  have d0 := A1 0 _ rfl; have d1 := A1 1 _ rfl; have d2 := A1 2 _ rfl; have d3 := A1 3 _ rfl; have d4 := A1 4 _ rfl; have d5 := A1 5 _ rfl; have d6 := A1 6 _ rfl; have d7 := A1 7 _ rfl; have d8 := A1 8 _ rfl; have d9 := A1 9 _ rfl; have d10 := A1 10 _ rfl
  obtain ⟨⟨_, _⟩, _, ⟨_, _⟩, _, ⟨_, _⟩, _, ⟨_, _⟩, _, ⟨_, _⟩, _, ⟨_, _⟩, _, ⟨_, _⟩, _, ⟨_, _⟩, _, ⟨_, _⟩, _, ⟨_, _⟩, _, ⟨_, _⟩, _⟩ := R2.out11
  refine wp_region_held_drew (S := (fun w' => At (w.heap.size) [.int .i64 24, .int .i64 (fl x 33554432 128), .int .i64 ((fl x 128 32)), .int .i64 ((fl x 32768 32)), .int .i64 ((fl x 1048576 32)), .int .i64 0, .int .i64 0, .bool false, .bool false, .int .i64 4, .int .u32 x] w' ∧ Rm ((w.heap.size + 1)) 11 w' ∧ Bh w (w.heap.size + 1 + 1) w')) (by kernel_rfl) ⟨At.drew (by with_reducible assumption), Rm.drew (by with_reducible assumption), Bh.drew (by with_reducible assumption)⟩ (fun hS => ?_)
  (refine tk 0 ?_ rfl (Or.inl ⟨by rfl, ?_⟩) hS ?_; rotate_left; focus (intro w' hSw; obtain ⟨s0, s1, sb⟩ := hSw; have c0_0 := s0 0 _ rfl; have c0_1 := s0 1 _ rfl; have c0_2 := s0 2 _ rfl; have c0_3 := s0 3 _ rfl; have c0_4 := s0 4 _ rfl; have c0_5 := s0 5 _ rfl; have c0_6 := s0 6 _ rfl; have c0_7 := s0 7 _ rfl; have c0_8 := s0 8 _ rfl; have c0_9 := s0 9 _ rfl; have c0_10 := s0 10 _ rfl; go_simp <;> try with_reducible rfl))
  try simp only [Act.put, zA, zB, zC]
  (refine tk 1 ?_ rfl (Or.inl ⟨by rfl, ?_⟩) hS ?_; rotate_left; focus (intro w' hSw; obtain ⟨s0, s1, sb⟩ := hSw; go_simp <;> try with_reducible rfl))
  try simp only [Act.put, zA, zB, zC]
  refine rdy 2 rfl (fun K hK => ?_)
  obtain ⟨s0, s1, sb⟩ := hS
  go_simp
  refine hK.out _ _ ⟨At.alloc s0 _, Rm.alloc s1 _ _, Bh.alloc sb _ _⟩ (fun hS => ?_)
  clear hK K
  try simp only [Act.put, zA, zB, zC]
  refine rdy 3 rfl (fun K hK => ?_)
  (first | (refine take_if (by rfl) ?_; obtain ⟨s0, s1, sb⟩ := hS; go_simp; (with_reducible refine (in9_at (fl x 33554432 128) [8, 9, 11, 12, 13, 14, 15, 16, 17, 18, 19, 20, 29, 30, 32] v HV.out [.int .i64 8, .int .i64 9, .int .i64 11, .int .i64 12, .int .i64 13, .int .i64 14, .int .i64 15, .int .i64 16, .int .i64 17, .int .i64 18, .int .i64 19, .int .i64 20, .int .i64 29, .int .i64 30, .int .i64 32] (by simp) 15 (by simp) (by decide) _ _ (At.drew (At.new' _ _ _ rfl))).mono ?_); rintro e' w' ⟨rfl, qk⟩; have t0 := At.kp s0 qk (Nat.lt_of_lt_of_le (show w.heap.size < w.heap.size + 1 + 1 by omega) sb.le); have t1 := Rm.kp s1 qk (Nat.lt_of_lt_of_le (show (w.heap.size + 1) < w.heap.size + 1 + 1 by omega) sb.le); have tb := Bh.step sb qk; clear qk; refine hK.out _ _ ⟨t0, t1, tb⟩ (fun hS => ?_)) | (refine take_if (by rfl) ?_; obtain ⟨s0, s1, sb⟩ := hS; go_simp; (with_reducible refine (in9_at (fl x 33554432 128) [8, 9, 11, 12, 13, 14, 15, 16, 17, 18, 19, 20, 29, 30, 32] v HV.out [.int .i64 8, .int .i64 9, .int .i64 11, .int .i64 12, .int .i64 13, .int .i64 14, .int .i64 15, .int .i64 16, .int .i64 17, .int .i64 18, .int .i64 19, .int .i64 20, .int .i64 29, .int .i64 30, .int .i64 32] (by simp) 15 (by simp) (by decide) _ _ (At.new' _ _ _ rfl)).mono ?_); rintro e' w' ⟨rfl, qk⟩; have t0 := At.kp s0 qk (Nat.lt_of_lt_of_le (show w.heap.size < w.heap.size + 1 + 1 by omega) sb.le); have t1 := Rm.kp s1 qk (Nat.lt_of_lt_of_le (show (w.heap.size + 1) < w.heap.size + 1 + 1 by omega) sb.le); have tb := Bh.step sb qk; clear qk; refine hK.out _ _ ⟨t0, t1, tb⟩ (fun hS => ?_)))
  clear hK K
  try simp only [Act.put, zA, zB, zC]
  refine rdy 4 rfl (fun K hK => ?_)
  obtain ⟨s0, s1, sb⟩ := hS
  have c0_0 := s0 0 _ rfl; have c0_1 := s0 1 _ rfl; have c0_2 := s0 2 _ rfl; have c0_3 := s0 3 _ rfl; have c0_4 := s0 4 _ rfl; have c0_5 := s0 5 _ rfl; have c0_6 := s0 6 _ rfl; have c0_7 := s0 7 _ rfl; have c0_8 := s0 8 _ rfl; have c0_9 := s0 9 _ rfl; have c0_10 := s0 10 _ rfl
  obtain ⟨⟨_, _⟩, _, ⟨_, _⟩, _, ⟨_, _⟩, _, ⟨_, _⟩, _, ⟨_, _⟩, _, ⟨_, _⟩, _, ⟨_, _⟩, _, ⟨_, _⟩, _, ⟨_, _⟩, _, ⟨_, _⟩, _, ⟨_, _⟩, _⟩ := s1.out11; 
  go_simp
  refine hK.out _ _ ⟨?_, ?_, ?_⟩ (fun hS => ?_)
  · repeat' (first | with_reducible assumption | (with_reducible refine At.set ?_ ?_ _) | with_reducible refine At.drew ?_)
    all_goals first | with_reducible assumption | (dsimp only; omega)
  · repeat' (first | with_reducible assumption | (with_reducible refine Rm.set ?_ _) | with_reducible refine Rm.drew ?_)
    all_goals first | with_reducible assumption | (dsimp only; omega)
  · repeat' (first | with_reducible assumption | with_reducible refine Bh.set2 ?_ ?_ | with_reducible refine Bh.drew ?_)
    all_goals first | with_reducible assumption | (dsimp only; omega)
  clear hK K
  try simp only [Act.put, zA, zB, zC]
  (refine tk 5 ?_ rfl (Or.inl ⟨by rfl, ?_⟩) hS ?_; rotate_left; focus (intro w' hSw; obtain ⟨s0, s1, sb⟩ := hSw; go_simp <;> try with_reducible rfl))
  try simp only [Act.put, zA, zB, zC]
  refine wpAnyH_done (by kernel_rfl) ?_ _
  obtain ⟨s0, s1, sb⟩ := hS
  have c0_0 := s0 0 _ rfl; have c0_1 := s0 1 _ rfl; have c0_2 := s0 2 _ rfl; have c0_3 := s0 3 _ rfl; have c0_4 := s0 4 _ rfl; have c0_5 := s0 5 _ rfl; have c0_6 := s0 6 _ rfl; have c0_7 := s0 7 _ rfl; have c0_8 := s0 8 _ rfl; have c0_9 := s0 9 _ rfl; have c0_10 := s0 10 _ rfl
  go_wp2
  refine bodyPost_ret (v := .tuple #[Ins.v ⟨24, fl x 33554432 128, (fl x 128 32), (fl x 32768 32), (fl x 1048576 32), 0, 0, false, false⟩ 4 x, .bool (v)]) ?_ rfl ⟨RdQ9.mk ⟨24, fl x 33554432 128, (fl x 128 32), (fl x 32768 32), (fl x 1048576 32), 0, 0, false, false⟩ 4 x (v) rfl (HS.out) (fun _ => ⟨rfl, rfl⟩), ?_⟩
  · simp [results, Tryz.results42, go_sem, Ins.v, *]
  · with_reducible exact sb.kp
theorem rplain_w (x : Int) (x0 : 0 ≤ x) (x1 : x < 4294967296) (w : World) :
    Calls Tryz.prog 42 #[.int .u32 x, (Ins.v ⟨0, 0, (fl x 128 32), (fl x 32768 32), (fl x 1048576 32), 0, 0, false, false⟩ 4 x)] w fun e w' => RdQ9 e x (dsReg x) ∧ Kp w w' := by
  by_cases h1 : fl x 33554432 128 = 1
  · exact rp_1 x x0 x1 h1 w
  by_cases h2 : fl x 33554432 128 = 124
  · exact rp_124 x x0 x1 h2 w
  by_cases h3 : fl x 33554432 128 = 125
  · exact rp_125 x x0 x1 h3 w
  by_cases h4 : fl x 33554432 128 = 127
  · by_cases h5 : fl x 1048576 32 = 12
    · exact rp_12 x x0 x1 h4 h5 w
    · by_cases h6 : fl x 1048576 32 ≤ 11
      · exact rp_127a x x0 x1 h4 h6 w
      · exact rp_127b x x0 x1 h4 (by omega) h5 w
  · exact rp_n x x0 x1 h1 h2 h3 h4 w
end Go.Proofs.YtlfeandnpflaaaaGreatDoor
