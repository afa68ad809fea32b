/-
  The program's bus: its regions, and which one has so many bytes. No condition.
-/
import Derived.Test.YtikibfpfieoabaaJObj
import Derived.RegionTactic
import Derived.Deep.QuietTactic
import Derived.BigQuiet
namespace Go.Proofs.Ytikibfpfieoabaa
open Go.ChangeShapes Go.WideShapes Go.ChangeAt Go.RowKit
set_option linter.unusedVariables false
set_option linter.unusedSimpArgs false
set_option maxRecDepth 4000
theorem Rm.out15 {B : Nat} {w : World} (h : Rm B 15 w) : (∃ v, w.cell? ⟨B, 0, none⟩ = some v) ∧ w.frozen? ⟨B, 0, none⟩ = false ∧ (∃ v, w.cell? ⟨B, 1, none⟩ = some v) ∧ w.frozen? ⟨B, 1, none⟩ = false ∧ (∃ v, w.cell? ⟨B, 2, none⟩ = some v) ∧ w.frozen? ⟨B, 2, none⟩ = false ∧ (∃ v, w.cell? ⟨B, 3, none⟩ = some v) ∧ w.frozen? ⟨B, 3, none⟩ = false ∧ (∃ v, w.cell? ⟨B, 4, none⟩ = some v) ∧ w.frozen? ⟨B, 4, none⟩ = false ∧ (∃ v, w.cell? ⟨B, 5, none⟩ = some v) ∧ w.frozen? ⟨B, 5, none⟩ = false ∧ (∃ v, w.cell? ⟨B, 6, none⟩ = some v) ∧ w.frozen? ⟨B, 6, none⟩ = false ∧ (∃ v, w.cell? ⟨B, 7, none⟩ = some v) ∧ w.frozen? ⟨B, 7, none⟩ = false ∧ (∃ v, w.cell? ⟨B, 8, none⟩ = some v) ∧ w.frozen? ⟨B, 8, none⟩ = false ∧ (∃ v, w.cell? ⟨B, 9, none⟩ = some v) ∧ w.frozen? ⟨B, 9, none⟩ = false ∧ (∃ v, w.cell? ⟨B, 10, none⟩ = some v) ∧ w.frozen? ⟨B, 10, none⟩ = false ∧ (∃ v, w.cell? ⟨B, 11, none⟩ = some v) ∧ w.frozen? ⟨B, 11, none⟩ = false ∧ (∃ v, w.cell? ⟨B, 12, none⟩ = some v) ∧ w.frozen? ⟨B, 12, none⟩ = false ∧ (∃ v, w.cell? ⟨B, 13, none⟩ = some v) ∧ w.frozen? ⟨B, 13, none⟩ = false ∧ (∃ v, w.cell? ⟨B, 14, none⟩ = some v) ∧ w.frozen? ⟨B, 14, none⟩ = false :=
  ⟨(h 0 (by decide)).1, (h 0 (by decide)).2, (h 1 (by decide)).1, (h 1 (by decide)).2, (h 2 (by decide)).1, (h 2 (by decide)).2, (h 3 (by decide)).1, (h 3 (by decide)).2, (h 4 (by decide)).1, (h 4 (by decide)).2, (h 5 (by decide)).1, (h 5 (by decide)).2, (h 6 (by decide)).1, (h 6 (by decide)).2, (h 7 (by decide)).1, (h 7 (by decide)).2, (h 8 (by decide)).1, (h 8 (by decide)).2, (h 9 (by decide)).1, (h 9 (by decide)).2, (h 10 (by decide)).1, (h 10 (by decide)).2, (h 11 (by decide)).1, (h 11 (by decide)).2, (h 12 (by decide)).1, (h 12 (by decide)).2, (h 13 (by decide)).1, (h 13 (by decide)).2, (h 14 (by decide)).1, (h 14 (by decide)).2⟩
/-- The regions, as one value. -/
def rgV (b1 b2 b3 b4 b5 : Nat) (n : Int) : Value := .agg #[.iface 42 (.pointer (some ⟨b1, 0, none⟩)), .int .u64 2147483648, .int .u64 n, .iface 43 (.pointer (some ⟨b2, 0, none⟩)), .int .u64 33554432, .int .u64 65536, .iface 44 (.pointer (some ⟨b3, 0, none⟩)), .int .u64 201326592, .int .u64 4194304, .iface 45 (.pointer (some ⟨b4, 0, none⟩)), .int .u64 268435456, .int .u64 256, .iface 46 (.pointer (some ⟨b5, 0, none⟩)), .int .u64 1048576, .int .u64 4096]
theorem szB_bd (n : Int) (h : szB n = true) : -9223372036854775808 ≤ n ∧ n < 9223372036854775808 := by
  simp only [szB, Bool.or_eq_true, beq_iff_eq] at h; omega
theorem szB_nat' (n : Int) (h : szB n = true) : 0 < n ∧ n < 9 := by
  simp only [szB, Bool.or_eq_true, beq_iff_eq] at h; omega
set_option maxHeartbeats 8000000 in
theorem jregions_w {w : World} {lo hi g a1 a2 a3 a4 a5 b1 b2 b3 b4 b5 : Nat} {S : BS} (m : BI w lo hi g a1 a2 a3 a4 a5 b1 b2 b3 b4 b5 S) (n : Int) (hn : (S.B.length : Int) = n) : Calls Try.prog 45 #[.pointer (some ⟨g, 0, none⟩)] w fun e w' => e = .returned (rgV b1 b2 b3 b4 b5 n) ∧ Kp w w' := by
  have hb : Bh w (w.heap.size + 1) (w.alloc (.cells #[.nilIface, .int .u64 0, .int .u64 0, .nilIface, .int .u64 0, .int .u64 0, .nilIface, .int .u64 0, .int .u64 0, .nilIface, .int .u64 0, .int .u64 0, .nilIface, .int .u64 0, .int .u64 0] 112)) := ⟨(Kp.refl w).allocs _ _, by simp, by simp⟩
  have hA : At g [.pointer (some ⟨b1, 0, none⟩), .pointer (some ⟨b2, 0, none⟩), .pointer (some ⟨b3, 0, none⟩), .pointer (some ⟨b4, 0, none⟩), .pointer (some ⟨b5, 0, none⟩)] (w.alloc (.cells #[.nilIface, .int .u64 0, .int .u64 0, .nilIface, .int .u64 0, .int .u64 0, .nilIface, .int .u64 0, .int .u64 0, .nilIface, .int .u64 0, .int .u64 0, .nilIface, .int .u64 0, .int .u64 0] 112)) := (m.blk.at_).alloc _
  have hR : Rm w.heap.size 15 (w.alloc (.cells #[.nilIface, .int .u64 0, .int .u64 0, .nilIface, .int .u64 0, .int .u64 0, .nilIface, .int .u64 0, .int .u64 0, .nilIface, .int .u64 0, .int .u64 0, .nilIface, .int .u64 0, .int .u64 0] 112)) := Rm.new w [.nilIface, .int .u64 0, .int .u64 0, .nilIface, .int .u64 0, .int .u64 0, .nilIface, .int .u64 0, .int .u64 0, .nilIface, .int .u64 0, .int .u64 0, .nilIface, .int .u64 0, .int .u64 0] _ 15 rfl
  have hg : g < w.heap.size := m.blk.lt
  have HM := Lib.hid m
  have HN := Lib.hid hn
  clear m hn
  go_enter Try.func45, Try.ntmps45
  go_upto_region 1 with fail
  refine wp_region_held_drew (S := (fun w' => At (g) [.pointer (some ⟨b1, 0, none⟩), .pointer (some ⟨b2, 0, none⟩), .pointer (some ⟨b3, 0, none⟩), .pointer (some ⟨b4, 0, none⟩), .pointer (some ⟨b5, 0, none⟩)] w' ∧ Rm (w.heap.size) 15 w' ∧ Bh w (w.heap.size + 1) w')) (by kernel_rfl) ⟨At.drew (by with_reducible assumption), Rm.drew (by with_reducible assumption), Bh.drew (by with_reducible assumption)⟩ (fun hS => ?_)
  (refine wpAnyH_take (i := 0) (oi := { dst := some 3, op := Op.move (Operand.tmp 0), type := 26, pos := "regions.go:44", after := #[], guard := none }) (v := ?_) rfl (by kernel_rfl) (by kernel_rfl) (by kernel_rfl) (fun _ _ _ h => h) (Or.inl ⟨by rfl, ?_⟩) hS ?_; rotate_left; focus (intro w' hSw; obtain ⟨s0, s1, sb⟩ := hSw; go_simp <;> try with_reducible rfl))
  try simp only [Act.put, List.setIfInBounds_toArray, List.set_cons_zero, List.set_cons_succ]
  (refine wpAnyH_take (i := 1) (oi := { dst := some 4, op := Op.nilCheck (Operand.tmp 3), type := 0, pos := "regions.go:44", after := #[{ on := 0, ground := Ground.data }], guard := none }) (v := ?_) rfl (by kernel_rfl) (by kernel_rfl) (by kernel_rfl) (fun _ _ _ h => h) (Or.inl ⟨by rfl, ?_⟩) hS ?_; rotate_left; focus (intro w' hSw; obtain ⟨s0, s1, sb⟩ := hSw; go_simp <;> try with_reducible rfl))
  try simp only [Act.put, List.setIfInBounds_toArray, List.set_cons_zero, List.set_cons_succ]
  (refine wpAnyH_take (i := 2) (oi := { dst := some 5, op := Op.fieldAddr 48 (Operand.tmp 4) 0, type := 0, pos := "regions.go:44", after := #[{ on := 1, ground := Ground.data }], guard := none }) (v := ?_) rfl (by kernel_rfl) (by kernel_rfl) (by kernel_rfl) (fun _ _ _ h => h) (Or.inl ⟨by rfl, ?_⟩) hS ?_; rotate_left; focus (intro w' hSw; obtain ⟨s0, s1, sb⟩ := hSw; go_simp <;> try with_reducible rfl))
  try simp only [Act.put, List.setIfInBounds_toArray, List.set_cons_zero, List.set_cons_succ]
  (refine wpAnyH_take (i := 3) (oi := { dst := some 6, op := Op.load 42 (Operand.tmp 5), type := 42, pos := "regions.go:44", after := #[{ on := 2, ground := Ground.data }], guard := none }) (v := ?_) rfl (by kernel_rfl) (by kernel_rfl) (by kernel_rfl) (fun _ _ _ h => h) (Or.inl ⟨by rfl, ?_⟩) hS ?_; rotate_left; focus (intro w' hSw; obtain ⟨s0, s1, sb⟩ := hSw; have c0_0 := s0 0 _ rfl; have c0_1 := s0 1 _ rfl; have c0_2 := s0 2 _ rfl; have c0_3 := s0 3 _ rfl; have c0_4 := s0 4 _ rfl; go_simp <;> try with_reducible rfl))
  try simp only [Act.put, List.setIfInBounds_toArray, List.set_cons_zero, List.set_cons_succ]
  (refine wpAnyH_take (i := 4) (oi := { dst := some 7, op := Op.makeInterface 42 (Operand.tmp 6), type := 69, pos := "regions.go:44", after := #[{ on := 3, ground := Ground.data }], guard := none }) (v := ?_) rfl (by kernel_rfl) (by kernel_rfl) (by kernel_rfl) (fun _ _ _ h => h) (Or.inl ⟨by rfl, ?_⟩) hS ?_; rotate_left; focus (intro w' hSw; obtain ⟨s0, s1, sb⟩ := hSw; go_simp <;> try with_reducible rfl))
  try simp only [Act.put, List.setIfInBounds_toArray, List.set_cons_zero, List.set_cons_succ]
  (refine wpAnyH_take (i := 5) (oi := { dst := some 8, op := Op.move (Operand.tmp 0), type := 26, pos := "regions.go:44", after := #[], guard := none }) (v := ?_) rfl (by kernel_rfl) (by kernel_rfl) (by kernel_rfl) (fun _ _ _ h => h) (Or.inl ⟨by rfl, ?_⟩) hS ?_; rotate_left; focus (intro w' hSw; obtain ⟨s0, s1, sb⟩ := hSw; go_simp <;> try with_reducible rfl))
  try simp only [Act.put, List.setIfInBounds_toArray, List.set_cons_zero, List.set_cons_succ]
  (refine wpAnyH_take (i := 8) (oi := { dst := some 11, op := Op.move (Operand.tmp 0), type := 26, pos := "regions.go:44", after := #[], guard := none }) (v := ?_) rfl (by kernel_rfl) (by kernel_rfl) (by kernel_rfl) (fun _ _ _ h => h) (Or.inl ⟨by rfl, ?_⟩) hS ?_; rotate_left; focus (intro w' hSw; obtain ⟨s0, s1, sb⟩ := hSw; go_simp <;> try with_reducible rfl))
  try simp only [Act.put, List.setIfInBounds_toArray, List.set_cons_zero, List.set_cons_succ]
  (refine wpAnyH_take (i := 9) (oi := { dst := some 12, op := Op.nilCheck (Operand.tmp 11), type := 0, pos := "regions.go:44", after := #[{ on := 8, ground := Ground.data }], guard := none }) (v := ?_) rfl (by kernel_rfl) (by kernel_rfl) (by kernel_rfl) (fun _ _ _ h => h) (Or.inl ⟨by rfl, ?_⟩) hS ?_; rotate_left; focus (intro w' hSw; obtain ⟨s0, s1, sb⟩ := hSw; go_simp <;> try with_reducible rfl))
  try simp only [Act.put, List.setIfInBounds_toArray, List.set_cons_zero, List.set_cons_succ]
  (refine wpAnyH_take (i := 10) (oi := { dst := some 13, op := Op.fieldAddr 48 (Operand.tmp 12) 1, type := 0, pos := "regions.go:44", after := #[{ on := 9, ground := Ground.data }], guard := none }) (v := ?_) rfl (by kernel_rfl) (by kernel_rfl) (by kernel_rfl) (fun _ _ _ h => h) (Or.inl ⟨by rfl, ?_⟩) hS ?_; rotate_left; focus (intro w' hSw; obtain ⟨s0, s1, sb⟩ := hSw; go_simp <;> try with_reducible rfl))
  try simp only [Act.put, List.setIfInBounds_toArray, List.set_cons_zero, List.set_cons_succ]
  (refine wpAnyH_take (i := 11) (oi := { dst := some 14, op := Op.load 43 (Operand.tmp 13), type := 43, pos := "regions.go:44", after := #[{ on := 10, ground := Ground.data }], guard := none }) (v := ?_) rfl (by kernel_rfl) (by kernel_rfl) (by kernel_rfl) (fun _ _ _ h => h) (Or.inl ⟨by rfl, ?_⟩) hS ?_; rotate_left; focus (intro w' hSw; obtain ⟨s0, s1, sb⟩ := hSw; have c0_0 := s0 0 _ rfl; have c0_1 := s0 1 _ rfl; have c0_2 := s0 2 _ rfl; have c0_3 := s0 3 _ rfl; have c0_4 := s0 4 _ rfl; go_simp <;> try with_reducible rfl))
  try simp only [Act.put, List.setIfInBounds_toArray, List.set_cons_zero, List.set_cons_succ]
  (refine wpAnyH_take (i := 12) (oi := { dst := some 15, op := Op.makeInterface 43 (Operand.tmp 14), type := 69, pos := "regions.go:44", after := #[{ on := 11, ground := Ground.data }], guard := none }) (v := ?_) rfl (by kernel_rfl) (by kernel_rfl) (by kernel_rfl) (fun _ _ _ h => h) (Or.inl ⟨by rfl, ?_⟩) hS ?_; rotate_left; focus (intro w' hSw; obtain ⟨s0, s1, sb⟩ := hSw; go_simp <;> try with_reducible rfl))
  try simp only [Act.put, List.setIfInBounds_toArray, List.set_cons_zero, List.set_cons_succ]
  (refine wpAnyH_take (i := 13) (oi := { dst := some 16, op := Op.build 63 #[(0, Operand.const (Value.int IntKind.u64 33554432)), (1, Operand.const (Value.int IntKind.u64 65536))], type := 63, pos := "regions.go:44", after := #[], guard := none }) (v := ?_) rfl (by kernel_rfl) (by kernel_rfl) (by kernel_rfl) (fun _ _ _ h => h) (Or.inl ⟨by rfl, ?_⟩) hS ?_; rotate_left; focus (intro w' hSw; obtain ⟨s0, s1, sb⟩ := hSw; go_simp <;> try with_reducible rfl))
  try simp only [Act.put, List.setIfInBounds_toArray, List.set_cons_zero, List.set_cons_succ]
  (refine wpAnyH_take (i := 14) (oi := { dst := some 17, op := Op.build 111 #[(0, Operand.tmp 15), (1, Operand.tmp 16)], type := 111, pos := "regions.go:44", after := #[{ on := 12, ground := Ground.data }, { on := 13, ground := Ground.data }], guard := none }) (v := ?_) rfl (by kernel_rfl) (by kernel_rfl) (by kernel_rfl) (fun _ _ _ h => h) (Or.inl ⟨by rfl, ?_⟩) hS ?_; rotate_left; focus (intro w' hSw; obtain ⟨s0, s1, sb⟩ := hSw; go_simp <;> try with_reducible rfl))
  try simp only [Act.put, List.setIfInBounds_toArray, List.set_cons_zero, List.set_cons_succ]
  (refine wpAnyH_take (i := 15) (oi := { dst := some 18, op := Op.move (Operand.tmp 0), type := 26, pos := "regions.go:44", after := #[], guard := none }) (v := ?_) rfl (by kernel_rfl) (by kernel_rfl) (by kernel_rfl) (fun _ _ _ h => h) (Or.inl ⟨by rfl, ?_⟩) hS ?_; rotate_left; focus (intro w' hSw; obtain ⟨s0, s1, sb⟩ := hSw; go_simp <;> try with_reducible rfl))
  try simp only [Act.put, List.setIfInBounds_toArray, List.set_cons_zero, List.set_cons_succ]
  (refine wpAnyH_take (i := 16) (oi := { dst := some 19, op := Op.nilCheck (Operand.tmp 18), type := 0, pos := "regions.go:44", after := #[{ on := 15, ground := Ground.data }], guard := none }) (v := ?_) rfl (by kernel_rfl) (by kernel_rfl) (by kernel_rfl) (fun _ _ _ h => h) (Or.inl ⟨by rfl, ?_⟩) hS ?_; rotate_left; focus (intro w' hSw; obtain ⟨s0, s1, sb⟩ := hSw; go_simp <;> try with_reducible rfl))
  try simp only [Act.put, List.setIfInBounds_toArray, List.set_cons_zero, List.set_cons_succ]
  (refine wpAnyH_take (i := 17) (oi := { dst := some 20, op := Op.fieldAddr 48 (Operand.tmp 19) 2, type := 0, pos := "regions.go:44", after := #[{ on := 16, ground := Ground.data }], guard := none }) (v := ?_) rfl (by kernel_rfl) (by kernel_rfl) (by kernel_rfl) (fun _ _ _ h => h) (Or.inl ⟨by rfl, ?_⟩) hS ?_; rotate_left; focus (intro w' hSw; obtain ⟨s0, s1, sb⟩ := hSw; go_simp <;> try with_reducible rfl))
  try simp only [Act.put, List.setIfInBounds_toArray, List.set_cons_zero, List.set_cons_succ]
  (refine wpAnyH_take (i := 18) (oi := { dst := some 21, op := Op.load 44 (Operand.tmp 20), type := 44, pos := "regions.go:44", after := #[{ on := 17, ground := Ground.data }], guard := none }) (v := ?_) rfl (by kernel_rfl) (by kernel_rfl) (by kernel_rfl) (fun _ _ _ h => h) (Or.inl ⟨by rfl, ?_⟩) hS ?_; rotate_left; focus (intro w' hSw; obtain ⟨s0, s1, sb⟩ := hSw; have c0_0 := s0 0 _ rfl; have c0_1 := s0 1 _ rfl; have c0_2 := s0 2 _ rfl; have c0_3 := s0 3 _ rfl; have c0_4 := s0 4 _ rfl; go_simp <;> try with_reducible rfl))
  try simp only [Act.put, List.setIfInBounds_toArray, List.set_cons_zero, List.set_cons_succ]
  (refine wpAnyH_take (i := 19) (oi := { dst := some 22, op := Op.makeInterface 44 (Operand.tmp 21), type := 69, pos := "regions.go:44", after := #[{ on := 18, ground := Ground.data }], guard := none }) (v := ?_) rfl (by kernel_rfl) (by kernel_rfl) (by kernel_rfl) (fun _ _ _ h => h) (Or.inl ⟨by rfl, ?_⟩) hS ?_; rotate_left; focus (intro w' hSw; obtain ⟨s0, s1, sb⟩ := hSw; go_simp <;> try with_reducible rfl))
  try simp only [Act.put, List.setIfInBounds_toArray, List.set_cons_zero, List.set_cons_succ]
  (refine wpAnyH_take (i := 20) (oi := { dst := some 23, op := Op.build 63 #[(0, Operand.const (Value.int IntKind.u64 201326592)), (1, Operand.const (Value.int IntKind.u64 4194304))], type := 63, pos := "regions.go:44", after := #[], guard := none }) (v := ?_) rfl (by kernel_rfl) (by kernel_rfl) (by kernel_rfl) (fun _ _ _ h => h) (Or.inl ⟨by rfl, ?_⟩) hS ?_; rotate_left; focus (intro w' hSw; obtain ⟨s0, s1, sb⟩ := hSw; go_simp <;> try with_reducible rfl))
  try simp only [Act.put, List.setIfInBounds_toArray, List.set_cons_zero, List.set_cons_succ]
  (refine wpAnyH_take (i := 21) (oi := { dst := some 24, op := Op.build 111 #[(0, Operand.tmp 22), (1, Operand.tmp 23)], type := 111, pos := "regions.go:44", after := #[{ on := 19, ground := Ground.data }, { on := 20, ground := Ground.data }], guard := none }) (v := ?_) rfl (by kernel_rfl) (by kernel_rfl) (by kernel_rfl) (fun _ _ _ h => h) (Or.inl ⟨by rfl, ?_⟩) hS ?_; rotate_left; focus (intro w' hSw; obtain ⟨s0, s1, sb⟩ := hSw; go_simp <;> try with_reducible rfl))
  try simp only [Act.put, List.setIfInBounds_toArray, List.set_cons_zero, List.set_cons_succ]
  (refine wpAnyH_take (i := 22) (oi := { dst := some 25, op := Op.move (Operand.tmp 0), type := 26, pos := "regions.go:44", after := #[], guard := none }) (v := ?_) rfl (by kernel_rfl) (by kernel_rfl) (by kernel_rfl) (fun _ _ _ h => h) (Or.inl ⟨by rfl, ?_⟩) hS ?_; rotate_left; focus (intro w' hSw; obtain ⟨s0, s1, sb⟩ := hSw; go_simp <;> try with_reducible rfl))
  try simp only [Act.put, List.setIfInBounds_toArray, List.set_cons_zero, List.set_cons_succ]
  (refine wpAnyH_take (i := 23) (oi := { dst := some 26, op := Op.nilCheck (Operand.tmp 25), type := 0, pos := "regions.go:44", after := #[{ on := 22, ground := Ground.data }], guard := none }) (v := ?_) rfl (by kernel_rfl) (by kernel_rfl) (by kernel_rfl) (fun _ _ _ h => h) (Or.inl ⟨by rfl, ?_⟩) hS ?_; rotate_left; focus (intro w' hSw; obtain ⟨s0, s1, sb⟩ := hSw; go_simp <;> try with_reducible rfl))
  try simp only [Act.put, List.setIfInBounds_toArray, List.set_cons_zero, List.set_cons_succ]
  (refine wpAnyH_take (i := 24) (oi := { dst := some 27, op := Op.fieldAddr 48 (Operand.tmp 26) 3, type := 0, pos := "regions.go:44", after := #[{ on := 23, ground := Ground.data }], guard := none }) (v := ?_) rfl (by kernel_rfl) (by kernel_rfl) (by kernel_rfl) (fun _ _ _ h => h) (Or.inl ⟨by rfl, ?_⟩) hS ?_; rotate_left; focus (intro w' hSw; obtain ⟨s0, s1, sb⟩ := hSw; go_simp <;> try with_reducible rfl))
  try simp only [Act.put, List.setIfInBounds_toArray, List.set_cons_zero, List.set_cons_succ]
  (refine wpAnyH_take (i := 25) (oi := { dst := some 28, op := Op.load 45 (Operand.tmp 27), type := 45, pos := "regions.go:44", after := #[{ on := 24, ground := Ground.data }], guard := none }) (v := ?_) rfl (by kernel_rfl) (by kernel_rfl) (by kernel_rfl) (fun _ _ _ h => h) (Or.inl ⟨by rfl, ?_⟩) hS ?_; rotate_left; focus (intro w' hSw; obtain ⟨s0, s1, sb⟩ := hSw; have c0_0 := s0 0 _ rfl; have c0_1 := s0 1 _ rfl; have c0_2 := s0 2 _ rfl; have c0_3 := s0 3 _ rfl; have c0_4 := s0 4 _ rfl; go_simp <;> try with_reducible rfl))
  try simp only [Act.put, List.setIfInBounds_toArray, List.set_cons_zero, List.set_cons_succ]
  (refine wpAnyH_take (i := 26) (oi := { dst := some 29, op := Op.makeInterface 45 (Operand.tmp 28), type := 69, pos := "regions.go:44", after := #[{ on := 25, ground := Ground.data }], guard := none }) (v := ?_) rfl (by kernel_rfl) (by kernel_rfl) (by kernel_rfl) (fun _ _ _ h => h) (Or.inl ⟨by rfl, ?_⟩) hS ?_; rotate_left; focus (intro w' hSw; obtain ⟨s0, s1, sb⟩ := hSw; go_simp <;> try with_reducible rfl))
  try simp only [Act.put, List.setIfInBounds_toArray, List.set_cons_zero, List.set_cons_succ]
  (refine wpAnyH_take (i := 27) (oi := { dst := some 30, op := Op.build 63 #[(0, Operand.const (Value.int IntKind.u64 268435456)), (1, Operand.const (Value.int IntKind.u64 256))], type := 63, pos := "regions.go:44", after := #[], guard := none }) (v := ?_) rfl (by kernel_rfl) (by kernel_rfl) (by kernel_rfl) (fun _ _ _ h => h) (Or.inl ⟨by rfl, ?_⟩) hS ?_; rotate_left; focus (intro w' hSw; obtain ⟨s0, s1, sb⟩ := hSw; go_simp <;> try with_reducible rfl))
  try simp only [Act.put, List.setIfInBounds_toArray, List.set_cons_zero, List.set_cons_succ]
  (refine wpAnyH_take (i := 28) (oi := { dst := some 31, op := Op.build 111 #[(0, Operand.tmp 29), (1, Operand.tmp 30)], type := 111, pos := "regions.go:44", after := #[{ on := 26, ground := Ground.data }, { on := 27, ground := Ground.data }], guard := none }) (v := ?_) rfl (by kernel_rfl) (by kernel_rfl) (by kernel_rfl) (fun _ _ _ h => h) (Or.inl ⟨by rfl, ?_⟩) hS ?_; rotate_left; focus (intro w' hSw; obtain ⟨s0, s1, sb⟩ := hSw; go_simp <;> try with_reducible rfl))
  try simp only [Act.put, List.setIfInBounds_toArray, List.set_cons_zero, List.set_cons_succ]
  (refine wpAnyH_take (i := 29) (oi := { dst := some 32, op := Op.move (Operand.tmp 0), type := 26, pos := "regions.go:44", after := #[], guard := none }) (v := ?_) rfl (by kernel_rfl) (by kernel_rfl) (by kernel_rfl) (fun _ _ _ h => h) (Or.inl ⟨by rfl, ?_⟩) hS ?_; rotate_left; focus (intro w' hSw; obtain ⟨s0, s1, sb⟩ := hSw; go_simp <;> try with_reducible rfl))
  try simp only [Act.put, List.setIfInBounds_toArray, List.set_cons_zero, List.set_cons_succ]
  (refine wpAnyH_take (i := 30) (oi := { dst := some 33, op := Op.nilCheck (Operand.tmp 32), type := 0, pos := "regions.go:44", after := #[{ on := 29, ground := Ground.data }], guard := none }) (v := ?_) rfl (by kernel_rfl) (by kernel_rfl) (by kernel_rfl) (fun _ _ _ h => h) (Or.inl ⟨by rfl, ?_⟩) hS ?_; rotate_left; focus (intro w' hSw; obtain ⟨s0, s1, sb⟩ := hSw; go_simp <;> try with_reducible rfl))
  try simp only [Act.put, List.setIfInBounds_toArray, List.set_cons_zero, List.set_cons_succ]
  (refine wpAnyH_take (i := 31) (oi := { dst := some 34, op := Op.fieldAddr 48 (Operand.tmp 33) 4, type := 0, pos := "regions.go:44", after := #[{ on := 30, ground := Ground.data }], guard := none }) (v := ?_) rfl (by kernel_rfl) (by kernel_rfl) (by kernel_rfl) (fun _ _ _ h => h) (Or.inl ⟨by rfl, ?_⟩) hS ?_; rotate_left; focus (intro w' hSw; obtain ⟨s0, s1, sb⟩ := hSw; go_simp <;> try with_reducible rfl))
  try simp only [Act.put, List.setIfInBounds_toArray, List.set_cons_zero, List.set_cons_succ]
  (refine wpAnyH_take (i := 32) (oi := { dst := some 35, op := Op.load 46 (Operand.tmp 34), type := 46, pos := "regions.go:44", after := #[{ on := 31, ground := Ground.data }], guard := none }) (v := ?_) rfl (by kernel_rfl) (by kernel_rfl) (by kernel_rfl) (fun _ _ _ h => h) (Or.inl ⟨by rfl, ?_⟩) hS ?_; rotate_left; focus (intro w' hSw; obtain ⟨s0, s1, sb⟩ := hSw; have c0_0 := s0 0 _ rfl; have c0_1 := s0 1 _ rfl; have c0_2 := s0 2 _ rfl; have c0_3 := s0 3 _ rfl; have c0_4 := s0 4 _ rfl; go_simp <;> try with_reducible rfl))
  try simp only [Act.put, List.setIfInBounds_toArray, List.set_cons_zero, List.set_cons_succ]
  (refine wpAnyH_take (i := 33) (oi := { dst := some 36, op := Op.makeInterface 46 (Operand.tmp 35), type := 69, pos := "regions.go:44", after := #[{ on := 32, ground := Ground.data }], guard := none }) (v := ?_) rfl (by kernel_rfl) (by kernel_rfl) (by kernel_rfl) (fun _ _ _ h => h) (Or.inl ⟨by rfl, ?_⟩) hS ?_; rotate_left; focus (intro w' hSw; obtain ⟨s0, s1, sb⟩ := hSw; go_simp <;> try with_reducible rfl))
  try simp only [Act.put, List.setIfInBounds_toArray, List.set_cons_zero, List.set_cons_succ]
  (refine wpAnyH_take (i := 34) (oi := { dst := some 37, op := Op.build 63 #[(0, Operand.const (Value.int IntKind.u64 1048576)), (1, Operand.const (Value.int IntKind.u64 4096))], type := 63, pos := "regions.go:44", after := #[], guard := none }) (v := ?_) rfl (by kernel_rfl) (by kernel_rfl) (by kernel_rfl) (fun _ _ _ h => h) (Or.inl ⟨by rfl, ?_⟩) hS ?_; rotate_left; focus (intro w' hSw; obtain ⟨s0, s1, sb⟩ := hSw; go_simp <;> try with_reducible rfl))
  try simp only [Act.put, List.setIfInBounds_toArray, List.set_cons_zero, List.set_cons_succ]
  (refine wpAnyH_take (i := 35) (oi := { dst := some 38, op := Op.build 111 #[(0, Operand.tmp 36), (1, Operand.tmp 37)], type := 111, pos := "regions.go:44", after := #[{ on := 33, ground := Ground.data }, { on := 34, ground := Ground.data }], guard := none }) (v := ?_) rfl (by kernel_rfl) (by kernel_rfl) (by kernel_rfl) (fun _ _ _ h => h) (Or.inl ⟨by rfl, ?_⟩) hS ?_; rotate_left; focus (intro w' hSw; obtain ⟨s0, s1, sb⟩ := hSw; go_simp <;> try with_reducible rfl))
  try simp only [Act.put, List.setIfInBounds_toArray, List.set_cons_zero, List.set_cons_succ]
  refine wpAnyH_ready (rs := [6]) (by kernel_rfl) (by simp) ?_
  refine AllReadyH.cons (o := { dst := some 9, op := Op.call { callee := Callee.value (Operand.func 26), args := #[Operand.tmp 8], argTypes := #[26] }, type := 63, pos := "regions.go:45", after := #[{ on := 5, ground := Ground.data }], guard := none }) rfl (fun K hK => ?_) AllReadyH.nil
  (refine take_if (by rfl) ?_; obtain ⟨s0, s1, sb⟩ := hS; go_simp; (with_reducible refine (jmem_w (HM.out.kp sb.kp) n HN.out).mono ?_); rintro e' w' ⟨rfl, qk⟩; have t0 := At.kp s0 qk (Nat.lt_of_lt_of_le (show g < w.heap.size + 1 by omega) sb.le); have t1 := Rm.kp s1 qk (Nat.lt_of_lt_of_le (show w.heap.size < w.heap.size + 1 by omega) sb.le); have tb := Bh.step sb qk; clear qk; refine hK.out _ _ ⟨t0, t1, tb⟩ (fun hS => ?_))
  clear hK K
  try simp only [Act.put, List.setIfInBounds_toArray, List.set_cons_zero, List.set_cons_succ]
  (refine wpAnyH_take (i := 7) (oi := { dst := some 10, op := Op.build 111 #[(0, Operand.tmp 7), (1, Operand.tmp 9)], type := 111, pos := "regions.go:44", after := #[{ on := 4, ground := Ground.data }, { on := 6, ground := Ground.data }], guard := none }) (v := ?_) rfl (by kernel_rfl) (by kernel_rfl) (by kernel_rfl) (fun _ _ _ h => h) (Or.inl ⟨by rfl, ?_⟩) hS ?_; rotate_left; focus (intro w' hSw; obtain ⟨s0, s1, sb⟩ := hSw; go_simp <;> try with_reducible rfl))
  try simp only [Act.put, List.setIfInBounds_toArray, List.set_cons_zero, List.set_cons_succ]
  (refine wpAnyH_take (i := 36) (oi := { dst := some 39, op := Op.build 112 #[(0, Operand.tmp 10), (1, Operand.tmp 17), (2, Operand.tmp 24), (3, Operand.tmp 31), (4, Operand.tmp 38)], type := 112, pos := "regions.go:44", after := #[{ on := 7, ground := Ground.data }, { on := 14, ground := Ground.data }, { on := 21, ground := Ground.data }, { on := 28, ground := Ground.data }, { on := 35, ground := Ground.data }], guard := none }) (v := ?_) rfl (by kernel_rfl) (by kernel_rfl) (by kernel_rfl) (fun _ _ _ h => h) (Or.inl ⟨by rfl, ?_⟩) hS ?_; rotate_left; focus (intro w' hSw; obtain ⟨s0, s1, sb⟩ := hSw; go_simp <;> try with_reducible rfl))
  try simp only [Act.put, List.setIfInBounds_toArray, List.set_cons_zero, List.set_cons_succ]
  refine wpAnyH_ready (rs := [37]) (by kernel_rfl) (by simp) ?_
  refine AllReadyH.cons (o := { dst := none, op := Op.store 112 (Operand.tmp 2) (Operand.tmp 39), type := 0, pos := "regions.go:44", after := #[{ on := 36, ground := Ground.data }, { on := 6, ground := Ground.chain }, { on := 0, ground := Ground.phase }, { on := 1, ground := Ground.phase }, { on := 2, ground := Ground.phase }, { on := 3, ground := Ground.phase }, { on := 4, ground := Ground.phase }, { on := 5, ground := Ground.phase }, { on := 6, ground := Ground.phase }, { on := 7, ground := Ground.phase }, { on := 8, ground := Ground.phase }, { on := 9, ground := Ground.phase }, { on := 10, ground := Ground.phase }, { on := 11, ground := Ground.phase }, { on := 12, ground := Ground.phase }, { on := 13, ground := Ground.phase }, { on := 14, ground := Ground.phase }, { on := 15, ground := Ground.phase }, { on := 16, ground := Ground.phase }, { on := 17, ground := Ground.phase }, { on := 18, ground := Ground.phase }, { on := 19, ground := Ground.phase }, { on := 20, ground := Ground.phase }, { on := 21, ground := Ground.phase }, { on := 22, ground := Ground.phase }, { on := 23, ground := Ground.phase }, { on := 24, ground := Ground.phase }, { on := 25, ground := Ground.phase }, { on := 26, ground := Ground.phase }, { on := 27, ground := Ground.phase }, { on := 28, ground := Ground.phase }, { on := 29, ground := Ground.phase }, { on := 30, ground := Ground.phase }, { on := 31, ground := Ground.phase }, { on := 32, ground := Ground.phase }, { on := 33, ground := Ground.phase }, { on := 34, ground := Ground.phase }, { on := 35, ground := Ground.phase }, { on := 36, ground := Ground.phase }], guard := none }) rfl (fun K hK => ?_) AllReadyH.nil
  obtain ⟨s0, s1, sb⟩ := hS
  have c0_0 := s0 0 _ rfl; have c0_1 := s0 1 _ rfl; have c0_2 := s0 2 _ rfl; have c0_3 := s0 3 _ rfl; have c0_4 := s0 4 _ rfl
  obtain ⟨⟨_, _⟩, _, ⟨_, _⟩, _, ⟨_, _⟩, _, ⟨_, _⟩, _, ⟨_, _⟩, _, ⟨_, _⟩, _, ⟨_, _⟩, _, ⟨_, _⟩, _, ⟨_, _⟩, _, ⟨_, _⟩, _, ⟨_, _⟩, _, ⟨_, _⟩, _, ⟨_, _⟩, _, ⟨_, _⟩, _, ⟨_, _⟩, _⟩ := s1.out15; 
  go_simp
  refine hK.out _ _ ⟨?_, ?_, ?_⟩ (fun hS => ?_)
  · repeat' (first | with_reducible assumption | (with_reducible refine At.set ?_ ?_ _) | with_reducible refine At.drew ?_)
    all_goals first | with_reducible assumption | (dsimp only; omega)
  · repeat' (first | with_reducible assumption | (with_reducible refine Rm.set ?_ _) | with_reducible refine Rm.drew ?_)
    all_goals first | with_reducible assumption | (dsimp only; omega)
  · repeat' (first | with_reducible assumption | with_reducible refine Bh.set2 ?_ ?_ | with_reducible refine Bh.drew ?_)
    all_goals first | with_reducible assumption | (dsimp only; omega)
  clear hK K hS
  try simp only [Act.put, List.setIfInBounds_toArray, List.set_cons_zero, List.set_cons_succ]
  refine wpAnyH_done (by kernel_rfl) ?_ _
  go_wp2
  refine bodyPost_ret (v := rgV b1 b2 b3 b4 b5 n) ?_ rfl ⟨rfl, ?_⟩
  · obtain ⟨⟨v0, f0⟩, z0, ⟨v1, f1⟩, z1, ⟨v2, f2⟩, z2, ⟨v3, f3⟩, z3, ⟨v4, f4⟩, z4, ⟨v5, f5⟩, z5, ⟨v6, f6⟩, z6, ⟨v7, f7⟩, z7, ⟨v8, f8⟩, z8, ⟨v9, f9⟩, z9, ⟨v10, f10⟩, z10, ⟨v11, f11⟩, z11, ⟨v12, f12⟩, z12, ⟨v13, f13⟩, z13, ⟨v14, f14⟩, z14⟩ := s1.out15
    simp [results, Try.results45, go_sem, rgV, f0, f1, f2, f3, f4, f5, f6, f7, f8, f9, f10, f11, f12, f13, f14]
  · repeat' (first | with_reducible refine Kp.setCell ?_ ?_ _ | with_reducible refine Kp.allocs ?_ _ _)
    all_goals first | exact sb.kp | (dsimp only; omega)
set_option maxHeartbeats 8000000 in
theorem jfind_1 {w : World} {lo hi g a1 a2 a3 a4 a5 b1 b2 b3 b4 b5 : Nat} {S : BS} (m : BI w lo hi g a1 a2 a3 a4 a5 b1 b2 b3 b4 b5 S) (pa size : Int) (p0 : 0 ≤ pa) (p1 : pa < 18446744073709551616) (hs : szB size = true) (h1 : inJ pa size 2147483648 (S.B.length : Int) = true) : Calls Try.prog 29 #[.pointer (some ⟨g, 0, none⟩), .int .u64 pa, .int .i64 size] w fun e w' => e = .returned (.tuple #[.iface 42 (.pointer (some ⟨b1, 0, none⟩)), .int .i64 (pa - 2147483648), .bool true]) ∧ Kp w w' := by
  have hl := m.ram.lim
  obtain ⟨n, hn⟩ : ∃ n, (S.B.length : Int) = n := ⟨_, rfl⟩
  have hn0 : 0 ≤ n := by omega
  have hn1 : n < 65537 := by omega
  rw [hn] at h1
  have hz := szB_nat' size hs
  have hbd : 2147483648 ≤ pa ∧ pa < 2147483648 + 9223372036854775808 := by simp [inJ] at h1; omega
  have H1 := Lib.hid h1
  have HS := Lib.hid hs
  have HM := Lib.hid m
  have HN := Lib.hid hn
  have HB := Lib.hid hbd
  clear m hn hs hz hl h1 hbd
  have HZ := Lib.hid (szB_bd size HS.out)
  have hI0 : ∀ w, (Instr.index 112 (rgV b1 b2 b3 b4 b5 n) (.int .i64 0)).run Try.prog w = .ok (.agg #[.iface 42 (.pointer (some ⟨b1, 0, none⟩)), .int .u64 2147483648, .int .u64 n]) w := fun _ => by kernel_rfl
  go_enter Try.func29, Try.ntmps29
  go_wp2_with (first | (go_at_call 44; (with_reducible refine (jsize_w size true HS.out _).mono ?_); rintro e' w1 ⟨rfl, rfl⟩) | (go_at_call 45; (with_reducible refine (jregions_w HM.out n HN.out).mono ?_); rintro e' w1 ⟨rfl, qk⟩; have K0 := Lib.hid qk; clear qk))
  refine wp_loop_rounds 6 ?_
  have B1 := Lib.hid (Blk.new w1 111 [.iface 42 (.pointer (some ⟨b1, 0, none⟩)), .int .u64 2147483648, .int .u64 n])
  have J1 := Lib.hid (K0.out.trans (Kp.alloc w1 #[.iface 42 (.pointer (some ⟨b1, 0, none⟩)), .int .u64 2147483648, .int .u64 n] 111))
  rw [rounds_succ]
  go_wp2_with (go_at_call 34; (with_reducible refine (jhas_w 2147483648 n pa size true H1.out (by decide) (by first | exact hn0 | decide) (by omega) p0 p1 HZ.out.1 HZ.out.2 _).mono ?_); rintro e' v1 ⟨rfl, qk⟩; have K1 := Lib.hid (J1.out.trans qk); have C1 := Lib.hid (B1.out.at_.kp qk B1.out.lt); have hz1 := qk.size; clear qk)
  have hA : At (w1.heap.size) [.iface 42 (.pointer (some ⟨b1, 0, none⟩)), .int .u64 2147483648, .int .u64 n] v1 := C1.out
  have hBh : Bh w (w1.heap.size + 1) v1 := ⟨K1.out, Nat.le_trans K0.out.size (Nat.le_succ _), Nat.lt_of_lt_of_le B1.out.lt hz1⟩
  refine wp_region_held_drew (S := (fun w' => At (w1.heap.size) [.iface 42 (.pointer (some ⟨b1, 0, none⟩)), .int .u64 2147483648, .int .u64 n] w' ∧ Bh w (w1.heap.size + 1) w')) (by kernel_rfl) ⟨At.drew (by with_reducible assumption), Bh.drew (by with_reducible assumption)⟩ (fun hS => ?_)
  (refine wpAnyH_take (i := 0) (oi := { dst := some 24, op := Op.fieldAddr 111 (Operand.tmp 10) 0, type := 0, pos := "regions.go:60", after := #[], guard := none }) (v := ?_) rfl (by kernel_rfl) (by kernel_rfl) (by kernel_rfl) (fun _ _ _ h => h) (Or.inl ⟨by rfl, ?_⟩) hS ?_; rotate_left; focus (intro w' hSw; obtain ⟨s0, sb⟩ := hSw; go_simp <;> try with_reducible rfl))
  try simp only [Act.put, List.setIfInBounds_toArray, List.set_cons_zero, List.set_cons_succ]
  (refine wpAnyH_take (i := 1) (oi := { dst := some 25, op := Op.load 69 (Operand.tmp 24), type := 69, pos := "regions.go:60", after := #[{ on := 0, ground := Ground.data }], guard := none }) (v := ?_) rfl (by kernel_rfl) (by kernel_rfl) (by kernel_rfl) (fun _ _ _ h => h) (Or.inl ⟨by rfl, ?_⟩) hS ?_; rotate_left; focus (intro w' hSw; obtain ⟨s0, sb⟩ := hSw; obtain ⟨_, _, _⟩ := s0.out3; go_simp <;> try with_reducible rfl))
  try simp only [Act.put, List.setIfInBounds_toArray, List.set_cons_zero, List.set_cons_succ]
  (refine wpAnyH_take (i := 2) (oi := { dst := some 26, op := Op.fieldAddr 111 (Operand.tmp 10) 1, type := 0, pos := "regions.go:60", after := #[], guard := none }) (v := ?_) rfl (by kernel_rfl) (by kernel_rfl) (by kernel_rfl) (fun _ _ _ h => h) (Or.inl ⟨by rfl, ?_⟩) hS ?_; rotate_left; focus (intro w' hSw; obtain ⟨s0, sb⟩ := hSw; go_simp <;> try with_reducible rfl))
  try simp only [Act.put, List.setIfInBounds_toArray, List.set_cons_zero, List.set_cons_succ]
  (refine wpAnyH_take (i := 3) (oi := { dst := some 27, op := Op.load 63 (Operand.tmp 26), type := 63, pos := "regions.go:60", after := #[{ on := 2, ground := Ground.data }], guard := none }) (v := ?_) rfl (by kernel_rfl) (by kernel_rfl) (by kernel_rfl) (fun _ _ _ h => h) (Or.inl ⟨by rfl, ?_⟩) hS ?_; rotate_left; focus (intro w' hSw; obtain ⟨s0, sb⟩ := hSw; obtain ⟨_, _, _⟩ := s0.out3; go_simp <;> try with_reducible rfl))
  try simp only [Act.put, List.setIfInBounds_toArray, List.set_cons_zero, List.set_cons_succ]
  (refine wpAnyH_take (i := 4) (oi := { dst := some 28, op := Op.move (Operand.tmp 1), type := 22, pos := "regions.go:60", after := #[], guard := none }) (v := ?_) rfl (by kernel_rfl) (by kernel_rfl) (by kernel_rfl) (fun _ _ _ h => h) (Or.inl ⟨by rfl, ?_⟩) hS ?_; rotate_left; focus (intro w' hSw; obtain ⟨s0, sb⟩ := hSw; go_simp <;> try with_reducible rfl))
  try simp only [Act.put, List.setIfInBounds_toArray, List.set_cons_zero, List.set_cons_succ]
  refine wpAnyH_ready (rs := [5]) (by kernel_rfl) (by simp) ?_
  refine AllReadyH.cons (o := { dst := some 29, op := Op.call { callee := Callee.value (Operand.func 27), args := #[Operand.tmp 27, Operand.tmp 28], argTypes := #[63, 22] }, type := 3, pos := "regions.go:60", after := #[{ on := 3, ground := Ground.data }, { on := 4, ground := Ground.data }], guard := none }) rfl (fun K hK => ?_) AllReadyH.nil
  (refine take_if (by rfl) ?_; obtain ⟨s0, sb⟩ := hS; go_simp; (with_reducible refine (jbehind_w 2147483648 n pa (by decide) HB.out.1 HB.out.2 p1 _).mono ?_); rintro e' w' ⟨rfl, qk⟩; have t0 := At.kp s0 qk (Nat.lt_of_lt_of_le (show w1.heap.size < w1.heap.size + 1 by omega) sb.le); have tb := Bh.step sb qk; clear qk; refine hK.out _ _ ⟨t0, tb⟩ (fun hS => ?_))
  clear hK K
  try simp only [Act.put, List.setIfInBounds_toArray, List.set_cons_zero, List.set_cons_succ]
  (refine wpAnyH_take (i := 6) (oi := { dst := some 6, op := Op.assign (Operand.tmp 25), type := 69, pos := "regions.go:60", after := #[{ on := 1, ground := Ground.data }, { on := 5, ground := Ground.chain }, { on := 0, ground := Ground.phase }, { on := 1, ground := Ground.phase }, { on := 2, ground := Ground.textOnly Departure.lateStores }, { on := 3, ground := Ground.textOnly Departure.lateStores }, { on := 4, ground := Ground.textOnly Departure.lateStores }, { on := 5, ground := Ground.textOnly Departure.lateStoresUnsure }], guard := none }) (v := ?_) rfl (by kernel_rfl) (by kernel_rfl) (by kernel_rfl) (fun _ _ _ h => h) (Or.inl ⟨by rfl, ?_⟩) hS ?_; rotate_left; focus (intro w' hSw; obtain ⟨s0, sb⟩ := hSw; go_simp <;> try with_reducible rfl))
  try simp only [Act.put, List.setIfInBounds_toArray, List.set_cons_zero, List.set_cons_succ]
  (refine wpAnyH_take (i := 7) (oi := { dst := some 7, op := Op.assign (Operand.tmp 29), type := 3, pos := "regions.go:60", after := #[{ on := 5, ground := Ground.data }, { on := 6, ground := Ground.chain }, { on := 0, ground := Ground.phase }, { on := 1, ground := Ground.phase }, { on := 2, ground := Ground.phase }, { on := 3, ground := Ground.phase }, { on := 4, ground := Ground.phase }, { on := 5, ground := Ground.phase }, { on := 6, ground := Ground.phase }], guard := none }) (v := ?_) rfl (by kernel_rfl) (by kernel_rfl) (by kernel_rfl) (fun _ _ _ h => h) (Or.inl ⟨by rfl, ?_⟩) hS ?_; rotate_left; focus (intro w' hSw; obtain ⟨s0, sb⟩ := hSw; go_simp <;> try with_reducible rfl))
  try simp only [Act.put, List.setIfInBounds_toArray, List.set_cons_zero, List.set_cons_succ]
  (refine wpAnyH_take (i := 8) (oi := { dst := some 8, op := Op.assign (Operand.const (Value.bool true)), type := 4, pos := "regions.go:60", after := #[{ on := 7, ground := Ground.chain }, { on := 0, ground := Ground.phase }, { on := 1, ground := Ground.phase }, { on := 2, ground := Ground.phase }, { on := 3, ground := Ground.phase }, { on := 4, ground := Ground.phase }, { on := 5, ground := Ground.phase }, { on := 6, ground := Ground.phase }, { on := 7, ground := Ground.phase }], guard := none }) (v := ?_) rfl (by kernel_rfl) (by kernel_rfl) (by kernel_rfl) (fun _ _ _ h => h) (Or.inl ⟨by rfl, ?_⟩) hS ?_; rotate_left; focus (intro w' hSw; obtain ⟨s0, sb⟩ := hSw; go_simp <;> try with_reducible rfl))
  try simp only [Act.put, List.setIfInBounds_toArray, List.set_cons_zero, List.set_cons_succ]
  refine wpAnyH_done (by kernel_rfl) ?_ _
  obtain ⟨s0, sb⟩ := hS
  obtain ⟨_, _, _⟩ := s0.out3
  go_wp2
  refine bodyPost_ret (v := .tuple #[.iface 42 (.pointer (some ⟨b1, 0, none⟩)), .int .i64 (pa - 2147483648), .bool true]) ?_ rfl ⟨rfl, sb.kp⟩
  simp [results, Try.results29, go_sem]
set_option maxHeartbeats 8000000 in
theorem jfind_2 {w : World} {lo hi g a1 a2 a3 a4 a5 b1 b2 b3 b4 b5 : Nat} {S : BS} (m : BI w lo hi g a1 a2 a3 a4 a5 b1 b2 b3 b4 b5 S) (pa size : Int) (p0 : 0 ≤ pa) (p1 : pa < 18446744073709551616) (hs : szB size = true) (h1 : inJ pa size 2147483648 (S.B.length : Int) = false) (h2 : inJ pa size 33554432 65536 = true) : Calls Try.prog 29 #[.pointer (some ⟨g, 0, none⟩), .int .u64 pa, .int .i64 size] w fun e w' => e = .returned (.tuple #[.iface 43 (.pointer (some ⟨b2, 0, none⟩)), .int .i64 (pa - 33554432), .bool true]) ∧ Kp w w' := by
  have hl := m.ram.lim
  obtain ⟨n, hn⟩ : ∃ n, (S.B.length : Int) = n := ⟨_, rfl⟩
  have hn0 : 0 ≤ n := by omega
  have hn1 : n < 65537 := by omega
  rw [hn] at h1
  have hz := szB_nat' size hs
  have hbd : 33554432 ≤ pa ∧ pa < 33554432 + 9223372036854775808 := by simp [inJ] at h2; omega
  have H1 := Lib.hid h1
  have H2 := Lib.hid h2
  have HS := Lib.hid hs
  have HM := Lib.hid m
  have HN := Lib.hid hn
  have HB := Lib.hid hbd
  clear m hn hs hz hl h1 h2 hbd
  have HZ := Lib.hid (szB_bd size HS.out)
  have hI0 : ∀ w, (Instr.index 112 (rgV b1 b2 b3 b4 b5 n) (.int .i64 0)).run Try.prog w = .ok (.agg #[.iface 42 (.pointer (some ⟨b1, 0, none⟩)), .int .u64 2147483648, .int .u64 n]) w := fun _ => by kernel_rfl
  have hI1 : ∀ w, (Instr.index 112 (rgV b1 b2 b3 b4 b5 n) (.int .i64 1)).run Try.prog w = .ok (.agg #[.iface 43 (.pointer (some ⟨b2, 0, none⟩)), .int .u64 33554432, .int .u64 65536]) w := fun _ => by kernel_rfl
  go_enter Try.func29, Try.ntmps29
  go_wp2_with (first | (go_at_call 44; (with_reducible refine (jsize_w size true HS.out _).mono ?_); rintro e' w1 ⟨rfl, rfl⟩) | (go_at_call 45; (with_reducible refine (jregions_w HM.out n HN.out).mono ?_); rintro e' w1 ⟨rfl, qk⟩; have K0 := Lib.hid qk; clear qk))
  refine wp_loop_rounds 6 ?_
  have B1 := Lib.hid (Blk.new w1 111 [.iface 42 (.pointer (some ⟨b1, 0, none⟩)), .int .u64 2147483648, .int .u64 n])
  have J1 := Lib.hid (K0.out.trans (Kp.alloc w1 #[.iface 42 (.pointer (some ⟨b1, 0, none⟩)), .int .u64 2147483648, .int .u64 n] 111))
  rw [rounds_succ]
  go_wp2_with (go_at_call 34; (with_reducible refine (jhas_w 2147483648 n pa size false H1.out (by decide) (by first | exact hn0 | decide) (by omega) p0 p1 HZ.out.1 HZ.out.2 _).mono ?_); rintro e' v1 ⟨rfl, qk⟩; have K1 := Lib.hid (J1.out.trans qk); have C1 := Lib.hid (B1.out.at_.kp qk B1.out.lt); have hz1 := qk.size; clear qk)
  have B2 := Lib.hid (Blk.new v1 111 [.iface 43 (.pointer (some ⟨b2, 0, none⟩)), .int .u64 33554432, .int .u64 65536])
  have J2 := Lib.hid (K1.out.trans (Kp.alloc v1 #[.iface 43 (.pointer (some ⟨b2, 0, none⟩)), .int .u64 33554432, .int .u64 65536] 111))
  rw [rounds_succ]
  go_wp2_with (go_at_call 34; (with_reducible refine (jhas_w 33554432 65536 pa size true H2.out (by decide) (by first | exact hn0 | decide) (by omega) p0 p1 HZ.out.1 HZ.out.2 _).mono ?_); rintro e' v2 ⟨rfl, qk⟩; have K2 := Lib.hid (J2.out.trans qk); have C2 := Lib.hid (B2.out.at_.kp qk B2.out.lt); have hz2 := qk.size; clear qk)
  have hA : At (v1.heap.size) [.iface 43 (.pointer (some ⟨b2, 0, none⟩)), .int .u64 33554432, .int .u64 65536] v2 := C2.out
  have hBh : Bh w (v1.heap.size + 1) v2 := ⟨K2.out, Nat.le_trans K1.out.size (Nat.le_succ _), Nat.lt_of_lt_of_le B2.out.lt hz2⟩
  refine wp_region_held_drew (S := (fun w' => At (v1.heap.size) [.iface 43 (.pointer (some ⟨b2, 0, none⟩)), .int .u64 33554432, .int .u64 65536] w' ∧ Bh w (v1.heap.size + 1) w')) (by kernel_rfl) ⟨At.drew (by with_reducible assumption), Bh.drew (by with_reducible assumption)⟩ (fun hS => ?_)
  (refine wpAnyH_take (i := 0) (oi := { dst := some 24, op := Op.fieldAddr 111 (Operand.tmp 10) 0, type := 0, pos := "regions.go:60", after := #[], guard := none }) (v := ?_) rfl (by kernel_rfl) (by kernel_rfl) (by kernel_rfl) (fun _ _ _ h => h) (Or.inl ⟨by rfl, ?_⟩) hS ?_; rotate_left; focus (intro w' hSw; obtain ⟨s0, sb⟩ := hSw; go_simp <;> try with_reducible rfl))
  try simp only [Act.put, List.setIfInBounds_toArray, List.set_cons_zero, List.set_cons_succ]
  (refine wpAnyH_take (i := 1) (oi := { dst := some 25, op := Op.load 69 (Operand.tmp 24), type := 69, pos := "regions.go:60", after := #[{ on := 0, ground := Ground.data }], guard := none }) (v := ?_) rfl (by kernel_rfl) (by kernel_rfl) (by kernel_rfl) (fun _ _ _ h => h) (Or.inl ⟨by rfl, ?_⟩) hS ?_; rotate_left; focus (intro w' hSw; obtain ⟨s0, sb⟩ := hSw; obtain ⟨_, _, _⟩ := s0.out3; go_simp <;> try with_reducible rfl))
  try simp only [Act.put, List.setIfInBounds_toArray, List.set_cons_zero, List.set_cons_succ]
  (refine wpAnyH_take (i := 2) (oi := { dst := some 26, op := Op.fieldAddr 111 (Operand.tmp 10) 1, type := 0, pos := "regions.go:60", after := #[], guard := none }) (v := ?_) rfl (by kernel_rfl) (by kernel_rfl) (by kernel_rfl) (fun _ _ _ h => h) (Or.inl ⟨by rfl, ?_⟩) hS ?_; rotate_left; focus (intro w' hSw; obtain ⟨s0, sb⟩ := hSw; go_simp <;> try with_reducible rfl))
  try simp only [Act.put, List.setIfInBounds_toArray, List.set_cons_zero, List.set_cons_succ]
  (refine wpAnyH_take (i := 3) (oi := { dst := some 27, op := Op.load 63 (Operand.tmp 26), type := 63, pos := "regions.go:60", after := #[{ on := 2, ground := Ground.data }], guard := none }) (v := ?_) rfl (by kernel_rfl) (by kernel_rfl) (by kernel_rfl) (fun _ _ _ h => h) (Or.inl ⟨by rfl, ?_⟩) hS ?_; rotate_left; focus (intro w' hSw; obtain ⟨s0, sb⟩ := hSw; obtain ⟨_, _, _⟩ := s0.out3; go_simp <;> try with_reducible rfl))
  try simp only [Act.put, List.setIfInBounds_toArray, List.set_cons_zero, List.set_cons_succ]
  (refine wpAnyH_take (i := 4) (oi := { dst := some 28, op := Op.move (Operand.tmp 1), type := 22, pos := "regions.go:60", after := #[], guard := none }) (v := ?_) rfl (by kernel_rfl) (by kernel_rfl) (by kernel_rfl) (fun _ _ _ h => h) (Or.inl ⟨by rfl, ?_⟩) hS ?_; rotate_left; focus (intro w' hSw; obtain ⟨s0, sb⟩ := hSw; go_simp <;> try with_reducible rfl))
  try simp only [Act.put, List.setIfInBounds_toArray, List.set_cons_zero, List.set_cons_succ]
  refine wpAnyH_ready (rs := [5]) (by kernel_rfl) (by simp) ?_
  refine AllReadyH.cons (o := { dst := some 29, op := Op.call { callee := Callee.value (Operand.func 27), args := #[Operand.tmp 27, Operand.tmp 28], argTypes := #[63, 22] }, type := 3, pos := "regions.go:60", after := #[{ on := 3, ground := Ground.data }, { on := 4, ground := Ground.data }], guard := none }) rfl (fun K hK => ?_) AllReadyH.nil
  (refine take_if (by rfl) ?_; obtain ⟨s0, sb⟩ := hS; go_simp; (with_reducible refine (jbehind_w 33554432 65536 pa (by decide) HB.out.1 HB.out.2 p1 _).mono ?_); rintro e' w' ⟨rfl, qk⟩; have t0 := At.kp s0 qk (Nat.lt_of_lt_of_le (show v1.heap.size < v1.heap.size + 1 by omega) sb.le); have tb := Bh.step sb qk; clear qk; refine hK.out _ _ ⟨t0, tb⟩ (fun hS => ?_))
  clear hK K
  try simp only [Act.put, List.setIfInBounds_toArray, List.set_cons_zero, List.set_cons_succ]
  (refine wpAnyH_take (i := 6) (oi := { dst := some 6, op := Op.assign (Operand.tmp 25), type := 69, pos := "regions.go:60", after := #[{ on := 1, ground := Ground.data }, { on := 5, ground := Ground.chain }, { on := 0, ground := Ground.phase }, { on := 1, ground := Ground.phase }, { on := 2, ground := Ground.textOnly Departure.lateStores }, { on := 3, ground := Ground.textOnly Departure.lateStores }, { on := 4, ground := Ground.textOnly Departure.lateStores }, { on := 5, ground := Ground.textOnly Departure.lateStoresUnsure }], guard := none }) (v := ?_) rfl (by kernel_rfl) (by kernel_rfl) (by kernel_rfl) (fun _ _ _ h => h) (Or.inl ⟨by rfl, ?_⟩) hS ?_; rotate_left; focus (intro w' hSw; obtain ⟨s0, sb⟩ := hSw; go_simp <;> try with_reducible rfl))
  try simp only [Act.put, List.setIfInBounds_toArray, List.set_cons_zero, List.set_cons_succ]
  (refine wpAnyH_take (i := 7) (oi := { dst := some 7, op := Op.assign (Operand.tmp 29), type := 3, pos := "regions.go:60", after := #[{ on := 5, ground := Ground.data }, { on := 6, ground := Ground.chain }, { on := 0, ground := Ground.phase }, { on := 1, ground := Ground.phase }, { on := 2, ground := Ground.phase }, { on := 3, ground := Ground.phase }, { on := 4, ground := Ground.phase }, { on := 5, ground := Ground.phase }, { on := 6, ground := Ground.phase }], guard := none }) (v := ?_) rfl (by kernel_rfl) (by kernel_rfl) (by kernel_rfl) (fun _ _ _ h => h) (Or.inl ⟨by rfl, ?_⟩) hS ?_; rotate_left; focus (intro w' hSw; obtain ⟨s0, sb⟩ := hSw; go_simp <;> try with_reducible rfl))
  try simp only [Act.put, List.setIfInBounds_toArray, List.set_cons_zero, List.set_cons_succ]
  (refine wpAnyH_take (i := 8) (oi := { dst := some 8, op := Op.assign (Operand.const (Value.bool true)), type := 4, pos := "regions.go:60", after := #[{ on := 7, ground := Ground.chain }, { on := 0, ground := Ground.phase }, { on := 1, ground := Ground.phase }, { on := 2, ground := Ground.phase }, { on := 3, ground := Ground.phase }, { on := 4, ground := Ground.phase }, { on := 5, ground := Ground.phase }, { on := 6, ground := Ground.phase }, { on := 7, ground := Ground.phase }], guard := none }) (v := ?_) rfl (by kernel_rfl) (by kernel_rfl) (by kernel_rfl) (fun _ _ _ h => h) (Or.inl ⟨by rfl, ?_⟩) hS ?_; rotate_left; focus (intro w' hSw; obtain ⟨s0, sb⟩ := hSw; go_simp <;> try with_reducible rfl))
  try simp only [Act.put, List.setIfInBounds_toArray, List.set_cons_zero, List.set_cons_succ]
  refine wpAnyH_done (by kernel_rfl) ?_ _
  obtain ⟨s0, sb⟩ := hS
  obtain ⟨_, _, _⟩ := s0.out3
  go_wp2
  refine bodyPost_ret (v := .tuple #[.iface 43 (.pointer (some ⟨b2, 0, none⟩)), .int .i64 (pa - 33554432), .bool true]) ?_ rfl ⟨rfl, sb.kp⟩
  simp [results, Try.results29, go_sem]
set_option maxHeartbeats 8000000 in
theorem jfind_3 {w : World} {lo hi g a1 a2 a3 a4 a5 b1 b2 b3 b4 b5 : Nat} {S : BS} (m : BI w lo hi g a1 a2 a3 a4 a5 b1 b2 b3 b4 b5 S) (pa size : Int) (p0 : 0 ≤ pa) (p1 : pa < 18446744073709551616) (hs : szB size = true) (h1 : inJ pa size 2147483648 (S.B.length : Int) = false) (h2 : inJ pa size 33554432 65536 = false) (h3 : inJ pa size 201326592 4194304 = true) : Calls Try.prog 29 #[.pointer (some ⟨g, 0, none⟩), .int .u64 pa, .int .i64 size] w fun e w' => e = .returned (.tuple #[.iface 44 (.pointer (some ⟨b3, 0, none⟩)), .int .i64 (pa - 201326592), .bool true]) ∧ Kp w w' := by
  have hl := m.ram.lim
  obtain ⟨n, hn⟩ : ∃ n, (S.B.length : Int) = n := ⟨_, rfl⟩
  have hn0 : 0 ≤ n := by omega
  have hn1 : n < 65537 := by omega
  rw [hn] at h1
  have hz := szB_nat' size hs
  have hbd : 201326592 ≤ pa ∧ pa < 201326592 + 9223372036854775808 := by simp [inJ] at h3; omega
  have H1 := Lib.hid h1
  have H2 := Lib.hid h2
  have H3 := Lib.hid h3
  have HS := Lib.hid hs
  have HM := Lib.hid m
  have HN := Lib.hid hn
  have HB := Lib.hid hbd
  clear m hn hs hz hl h1 h2 h3 hbd
  have HZ := Lib.hid (szB_bd size HS.out)
  have hI0 : ∀ w, (Instr.index 112 (rgV b1 b2 b3 b4 b5 n) (.int .i64 0)).run Try.prog w = .ok (.agg #[.iface 42 (.pointer (some ⟨b1, 0, none⟩)), .int .u64 2147483648, .int .u64 n]) w := fun _ => by kernel_rfl
  have hI1 : ∀ w, (Instr.index 112 (rgV b1 b2 b3 b4 b5 n) (.int .i64 1)).run Try.prog w = .ok (.agg #[.iface 43 (.pointer (some ⟨b2, 0, none⟩)), .int .u64 33554432, .int .u64 65536]) w := fun _ => by kernel_rfl
  have hI2 : ∀ w, (Instr.index 112 (rgV b1 b2 b3 b4 b5 n) (.int .i64 2)).run Try.prog w = .ok (.agg #[.iface 44 (.pointer (some ⟨b3, 0, none⟩)), .int .u64 201326592, .int .u64 4194304]) w := fun _ => by kernel_rfl
  go_enter Try.func29, Try.ntmps29
  go_wp2_with (first | (go_at_call 44; (with_reducible refine (jsize_w size true HS.out _).mono ?_); rintro e' w1 ⟨rfl, rfl⟩) | (go_at_call 45; (with_reducible refine (jregions_w HM.out n HN.out).mono ?_); rintro e' w1 ⟨rfl, qk⟩; have K0 := Lib.hid qk; clear qk))
  refine wp_loop_rounds 6 ?_
  have B1 := Lib.hid (Blk.new w1 111 [.iface 42 (.pointer (some ⟨b1, 0, none⟩)), .int .u64 2147483648, .int .u64 n])
  have J1 := Lib.hid (K0.out.trans (Kp.alloc w1 #[.iface 42 (.pointer (some ⟨b1, 0, none⟩)), .int .u64 2147483648, .int .u64 n] 111))
  rw [rounds_succ]
  go_wp2_with (go_at_call 34; (with_reducible refine (jhas_w 2147483648 n pa size false H1.out (by decide) (by first | exact hn0 | decide) (by omega) p0 p1 HZ.out.1 HZ.out.2 _).mono ?_); rintro e' v1 ⟨rfl, qk⟩; have K1 := Lib.hid (J1.out.trans qk); have C1 := Lib.hid (B1.out.at_.kp qk B1.out.lt); have hz1 := qk.size; clear qk)
  have B2 := Lib.hid (Blk.new v1 111 [.iface 43 (.pointer (some ⟨b2, 0, none⟩)), .int .u64 33554432, .int .u64 65536])
  have J2 := Lib.hid (K1.out.trans (Kp.alloc v1 #[.iface 43 (.pointer (some ⟨b2, 0, none⟩)), .int .u64 33554432, .int .u64 65536] 111))
  rw [rounds_succ]
  go_wp2_with (go_at_call 34; (with_reducible refine (jhas_w 33554432 65536 pa size false H2.out (by decide) (by first | exact hn0 | decide) (by omega) p0 p1 HZ.out.1 HZ.out.2 _).mono ?_); rintro e' v2 ⟨rfl, qk⟩; have K2 := Lib.hid (J2.out.trans qk); have C2 := Lib.hid (B2.out.at_.kp qk B2.out.lt); have hz2 := qk.size; clear qk)
  have B3 := Lib.hid (Blk.new v2 111 [.iface 44 (.pointer (some ⟨b3, 0, none⟩)), .int .u64 201326592, .int .u64 4194304])
  have J3 := Lib.hid (K2.out.trans (Kp.alloc v2 #[.iface 44 (.pointer (some ⟨b3, 0, none⟩)), .int .u64 201326592, .int .u64 4194304] 111))
  rw [rounds_succ]
  go_wp2_with (go_at_call 34; (with_reducible refine (jhas_w 201326592 4194304 pa size true H3.out (by decide) (by first | exact hn0 | decide) (by omega) p0 p1 HZ.out.1 HZ.out.2 _).mono ?_); rintro e' v3 ⟨rfl, qk⟩; have K3 := Lib.hid (J3.out.trans qk); have C3 := Lib.hid (B3.out.at_.kp qk B3.out.lt); have hz3 := qk.size; clear qk)
  have hA : At (v2.heap.size) [.iface 44 (.pointer (some ⟨b3, 0, none⟩)), .int .u64 201326592, .int .u64 4194304] v3 := C3.out
  have hBh : Bh w (v2.heap.size + 1) v3 := ⟨K3.out, Nat.le_trans K2.out.size (Nat.le_succ _), Nat.lt_of_lt_of_le B3.out.lt hz3⟩
  refine wp_region_held_drew (S := (fun w' => At (v2.heap.size) [.iface 44 (.pointer (some ⟨b3, 0, none⟩)), .int .u64 201326592, .int .u64 4194304] w' ∧ Bh w (v2.heap.size + 1) w')) (by kernel_rfl) ⟨At.drew (by with_reducible assumption), Bh.drew (by with_reducible assumption)⟩ (fun hS => ?_)
  (refine wpAnyH_take (i := 0) (oi := { dst := some 24, op := Op.fieldAddr 111 (Operand.tmp 10) 0, type := 0, pos := "regions.go:60", after := #[], guard := none }) (v := ?_) rfl (by kernel_rfl) (by kernel_rfl) (by kernel_rfl) (fun _ _ _ h => h) (Or.inl ⟨by rfl, ?_⟩) hS ?_; rotate_left; focus (intro w' hSw; obtain ⟨s0, sb⟩ := hSw; go_simp <;> try with_reducible rfl))
  try simp only [Act.put, List.setIfInBounds_toArray, List.set_cons_zero, List.set_cons_succ]
  (refine wpAnyH_take (i := 1) (oi := { dst := some 25, op := Op.load 69 (Operand.tmp 24), type := 69, pos := "regions.go:60", after := #[{ on := 0, ground := Ground.data }], guard := none }) (v := ?_) rfl (by kernel_rfl) (by kernel_rfl) (by kernel_rfl) (fun _ _ _ h => h) (Or.inl ⟨by rfl, ?_⟩) hS ?_; rotate_left; focus (intro w' hSw; obtain ⟨s0, sb⟩ := hSw; obtain ⟨_, _, _⟩ := s0.out3; go_simp <;> try with_reducible rfl))
  try simp only [Act.put, List.setIfInBounds_toArray, List.set_cons_zero, List.set_cons_succ]
  (refine wpAnyH_take (i := 2) (oi := { dst := some 26, op := Op.fieldAddr 111 (Operand.tmp 10) 1, type := 0, pos := "regions.go:60", after := #[], guard := none }) (v := ?_) rfl (by kernel_rfl) (by kernel_rfl) (by kernel_rfl) (fun _ _ _ h => h) (Or.inl ⟨by rfl, ?_⟩) hS ?_; rotate_left; focus (intro w' hSw; obtain ⟨s0, sb⟩ := hSw; go_simp <;> try with_reducible rfl))
  try simp only [Act.put, List.setIfInBounds_toArray, List.set_cons_zero, List.set_cons_succ]
  (refine wpAnyH_take (i := 3) (oi := { dst := some 27, op := Op.load 63 (Operand.tmp 26), type := 63, pos := "regions.go:60", after := #[{ on := 2, ground := Ground.data }], guard := none }) (v := ?_) rfl (by kernel_rfl) (by kernel_rfl) (by kernel_rfl) (fun _ _ _ h => h) (Or.inl ⟨by rfl, ?_⟩) hS ?_; rotate_left; focus (intro w' hSw; obtain ⟨s0, sb⟩ := hSw; obtain ⟨_, _, _⟩ := s0.out3; go_simp <;> try with_reducible rfl))
  try simp only [Act.put, List.setIfInBounds_toArray, List.set_cons_zero, List.set_cons_succ]
  (refine wpAnyH_take (i := 4) (oi := { dst := some 28, op := Op.move (Operand.tmp 1), type := 22, pos := "regions.go:60", after := #[], guard := none }) (v := ?_) rfl (by kernel_rfl) (by kernel_rfl) (by kernel_rfl) (fun _ _ _ h => h) (Or.inl ⟨by rfl, ?_⟩) hS ?_; rotate_left; focus (intro w' hSw; obtain ⟨s0, sb⟩ := hSw; go_simp <;> try with_reducible rfl))
  try simp only [Act.put, List.setIfInBounds_toArray, List.set_cons_zero, List.set_cons_succ]
  refine wpAnyH_ready (rs := [5]) (by kernel_rfl) (by simp) ?_
  refine AllReadyH.cons (o := { dst := some 29, op := Op.call { callee := Callee.value (Operand.func 27), args := #[Operand.tmp 27, Operand.tmp 28], argTypes := #[63, 22] }, type := 3, pos := "regions.go:60", after := #[{ on := 3, ground := Ground.data }, { on := 4, ground := Ground.data }], guard := none }) rfl (fun K hK => ?_) AllReadyH.nil
  (refine take_if (by rfl) ?_; obtain ⟨s0, sb⟩ := hS; go_simp; (with_reducible refine (jbehind_w 201326592 4194304 pa (by decide) HB.out.1 HB.out.2 p1 _).mono ?_); rintro e' w' ⟨rfl, qk⟩; have t0 := At.kp s0 qk (Nat.lt_of_lt_of_le (show v2.heap.size < v2.heap.size + 1 by omega) sb.le); have tb := Bh.step sb qk; clear qk; refine hK.out _ _ ⟨t0, tb⟩ (fun hS => ?_))
  clear hK K
  try simp only [Act.put, List.setIfInBounds_toArray, List.set_cons_zero, List.set_cons_succ]
  (refine wpAnyH_take (i := 6) (oi := { dst := some 6, op := Op.assign (Operand.tmp 25), type := 69, pos := "regions.go:60", after := #[{ on := 1, ground := Ground.data }, { on := 5, ground := Ground.chain }, { on := 0, ground := Ground.phase }, { on := 1, ground := Ground.phase }, { on := 2, ground := Ground.textOnly Departure.lateStores }, { on := 3, ground := Ground.textOnly Departure.lateStores }, { on := 4, ground := Ground.textOnly Departure.lateStores }, { on := 5, ground := Ground.textOnly Departure.lateStoresUnsure }], guard := none }) (v := ?_) rfl (by kernel_rfl) (by kernel_rfl) (by kernel_rfl) (fun _ _ _ h => h) (Or.inl ⟨by rfl, ?_⟩) hS ?_; rotate_left; focus (intro w' hSw; obtain ⟨s0, sb⟩ := hSw; go_simp <;> try with_reducible rfl))
  try simp only [Act.put, List.setIfInBounds_toArray, List.set_cons_zero, List.set_cons_succ]
  (refine wpAnyH_take (i := 7) (oi := { dst := some 7, op := Op.assign (Operand.tmp 29), type := 3, pos := "regions.go:60", after := #[{ on := 5, ground := Ground.data }, { on := 6, ground := Ground.chain }, { on := 0, ground := Ground.phase }, { on := 1, ground := Ground.phase }, { on := 2, ground := Ground.phase }, { on := 3, ground := Ground.phase }, { on := 4, ground := Ground.phase }, { on := 5, ground := Ground.phase }, { on := 6, ground := Ground.phase }], guard := none }) (v := ?_) rfl (by kernel_rfl) (by kernel_rfl) (by kernel_rfl) (fun _ _ _ h => h) (Or.inl ⟨by rfl, ?_⟩) hS ?_; rotate_left; focus (intro w' hSw; obtain ⟨s0, sb⟩ := hSw; go_simp <;> try with_reducible rfl))
  try simp only [Act.put, List.setIfInBounds_toArray, List.set_cons_zero, List.set_cons_succ]
  (refine wpAnyH_take (i := 8) (oi := { dst := some 8, op := Op.assign (Operand.const (Value.bool true)), type := 4, pos := "regions.go:60", after := #[{ on := 7, ground := Ground.chain }, { on := 0, ground := Ground.phase }, { on := 1, ground := Ground.phase }, { on := 2, ground := Ground.phase }, { on := 3, ground := Ground.phase }, { on := 4, ground := Ground.phase }, { on := 5, ground := Ground.phase }, { on := 6, ground := Ground.phase }, { on := 7, ground := Ground.phase }], guard := none }) (v := ?_) rfl (by kernel_rfl) (by kernel_rfl) (by kernel_rfl) (fun _ _ _ h => h) (Or.inl ⟨by rfl, ?_⟩) hS ?_; rotate_left; focus (intro w' hSw; obtain ⟨s0, sb⟩ := hSw; go_simp <;> try with_reducible rfl))
  try simp only [Act.put, List.setIfInBounds_toArray, List.set_cons_zero, List.set_cons_succ]
  refine wpAnyH_done (by kernel_rfl) ?_ _
  obtain ⟨s0, sb⟩ := hS
  obtain ⟨_, _, _⟩ := s0.out3
  go_wp2
  refine bodyPost_ret (v := .tuple #[.iface 44 (.pointer (some ⟨b3, 0, none⟩)), .int .i64 (pa - 201326592), .bool true]) ?_ rfl ⟨rfl, sb.kp⟩
  simp [results, Try.results29, go_sem]
set_option maxHeartbeats 8000000 in
theorem jfind_4 {w : World} {lo hi g a1 a2 a3 a4 a5 b1 b2 b3 b4 b5 : Nat} {S : BS} (m : BI w lo hi g a1 a2 a3 a4 a5 b1 b2 b3 b4 b5 S) (pa size : Int) (p0 : 0 ≤ pa) (p1 : pa < 18446744073709551616) (hs : szB size = true) (h1 : inJ pa size 2147483648 (S.B.length : Int) = false) (h2 : inJ pa size 33554432 65536 = false) (h3 : inJ pa size 201326592 4194304 = false) (h4 : inJ pa size 268435456 256 = true) : Calls Try.prog 29 #[.pointer (some ⟨g, 0, none⟩), .int .u64 pa, .int .i64 size] w fun e w' => e = .returned (.tuple #[.iface 45 (.pointer (some ⟨b4, 0, none⟩)), .int .i64 (pa - 268435456), .bool true]) ∧ Kp w w' := by
  have hl := m.ram.lim
  obtain ⟨n, hn⟩ : ∃ n, (S.B.length : Int) = n := ⟨_, rfl⟩
  have hn0 : 0 ≤ n := by omega
  have hn1 : n < 65537 := by omega
  rw [hn] at h1
  have hz := szB_nat' size hs
  have hbd : 268435456 ≤ pa ∧ pa < 268435456 + 9223372036854775808 := by simp [inJ] at h4; omega
  have H1 := Lib.hid h1
  have H2 := Lib.hid h2
  have H3 := Lib.hid h3
  have H4 := Lib.hid h4
  have HS := Lib.hid hs
  have HM := Lib.hid m
  have HN := Lib.hid hn
  have HB := Lib.hid hbd
  clear m hn hs hz hl h1 h2 h3 h4 hbd
  have HZ := Lib.hid (szB_bd size HS.out)
  have hI0 : ∀ w, (Instr.index 112 (rgV b1 b2 b3 b4 b5 n) (.int .i64 0)).run Try.prog w = .ok (.agg #[.iface 42 (.pointer (some ⟨b1, 0, none⟩)), .int .u64 2147483648, .int .u64 n]) w := fun _ => by kernel_rfl
  have hI1 : ∀ w, (Instr.index 112 (rgV b1 b2 b3 b4 b5 n) (.int .i64 1)).run Try.prog w = .ok (.agg #[.iface 43 (.pointer (some ⟨b2, 0, none⟩)), .int .u64 33554432, .int .u64 65536]) w := fun _ => by kernel_rfl
  have hI2 : ∀ w, (Instr.index 112 (rgV b1 b2 b3 b4 b5 n) (.int .i64 2)).run Try.prog w = .ok (.agg #[.iface 44 (.pointer (some ⟨b3, 0, none⟩)), .int .u64 201326592, .int .u64 4194304]) w := fun _ => by kernel_rfl
  have hI3 : ∀ w, (Instr.index 112 (rgV b1 b2 b3 b4 b5 n) (.int .i64 3)).run Try.prog w = .ok (.agg #[.iface 45 (.pointer (some ⟨b4, 0, none⟩)), .int .u64 268435456, .int .u64 256]) w := fun _ => by kernel_rfl
  go_enter Try.func29, Try.ntmps29
  go_wp2_with (first | (go_at_call 44; (with_reducible refine (jsize_w size true HS.out _).mono ?_); rintro e' w1 ⟨rfl, rfl⟩) | (go_at_call 45; (with_reducible refine (jregions_w HM.out n HN.out).mono ?_); rintro e' w1 ⟨rfl, qk⟩; have K0 := Lib.hid qk; clear qk))
  refine wp_loop_rounds 6 ?_
  have B1 := Lib.hid (Blk.new w1 111 [.iface 42 (.pointer (some ⟨b1, 0, none⟩)), .int .u64 2147483648, .int .u64 n])
  have J1 := Lib.hid (K0.out.trans (Kp.alloc w1 #[.iface 42 (.pointer (some ⟨b1, 0, none⟩)), .int .u64 2147483648, .int .u64 n] 111))
  rw [rounds_succ]
  go_wp2_with (go_at_call 34; (with_reducible refine (jhas_w 2147483648 n pa size false H1.out (by decide) (by first | exact hn0 | decide) (by omega) p0 p1 HZ.out.1 HZ.out.2 _).mono ?_); rintro e' v1 ⟨rfl, qk⟩; have K1 := Lib.hid (J1.out.trans qk); have C1 := Lib.hid (B1.out.at_.kp qk B1.out.lt); have hz1 := qk.size; clear qk)
  have B2 := Lib.hid (Blk.new v1 111 [.iface 43 (.pointer (some ⟨b2, 0, none⟩)), .int .u64 33554432, .int .u64 65536])
  have J2 := Lib.hid (K1.out.trans (Kp.alloc v1 #[.iface 43 (.pointer (some ⟨b2, 0, none⟩)), .int .u64 33554432, .int .u64 65536] 111))
  rw [rounds_succ]
  go_wp2_with (go_at_call 34; (with_reducible refine (jhas_w 33554432 65536 pa size false H2.out (by decide) (by first | exact hn0 | decide) (by omega) p0 p1 HZ.out.1 HZ.out.2 _).mono ?_); rintro e' v2 ⟨rfl, qk⟩; have K2 := Lib.hid (J2.out.trans qk); have C2 := Lib.hid (B2.out.at_.kp qk B2.out.lt); have hz2 := qk.size; clear qk)
  have B3 := Lib.hid (Blk.new v2 111 [.iface 44 (.pointer (some ⟨b3, 0, none⟩)), .int .u64 201326592, .int .u64 4194304])
  have J3 := Lib.hid (K2.out.trans (Kp.alloc v2 #[.iface 44 (.pointer (some ⟨b3, 0, none⟩)), .int .u64 201326592, .int .u64 4194304] 111))
  rw [rounds_succ]
  go_wp2_with (go_at_call 34; (with_reducible refine (jhas_w 201326592 4194304 pa size false H3.out (by decide) (by first | exact hn0 | decide) (by omega) p0 p1 HZ.out.1 HZ.out.2 _).mono ?_); rintro e' v3 ⟨rfl, qk⟩; have K3 := Lib.hid (J3.out.trans qk); have C3 := Lib.hid (B3.out.at_.kp qk B3.out.lt); have hz3 := qk.size; clear qk)
  have B4 := Lib.hid (Blk.new v3 111 [.iface 45 (.pointer (some ⟨b4, 0, none⟩)), .int .u64 268435456, .int .u64 256])
  have J4 := Lib.hid (K3.out.trans (Kp.alloc v3 #[.iface 45 (.pointer (some ⟨b4, 0, none⟩)), .int .u64 268435456, .int .u64 256] 111))
  rw [rounds_succ]
  go_wp2_with (go_at_call 34; (with_reducible refine (jhas_w 268435456 256 pa size true H4.out (by decide) (by first | exact hn0 | decide) (by omega) p0 p1 HZ.out.1 HZ.out.2 _).mono ?_); rintro e' v4 ⟨rfl, qk⟩; have K4 := Lib.hid (J4.out.trans qk); have C4 := Lib.hid (B4.out.at_.kp qk B4.out.lt); have hz4 := qk.size; clear qk)
  have hA : At (v3.heap.size) [.iface 45 (.pointer (some ⟨b4, 0, none⟩)), .int .u64 268435456, .int .u64 256] v4 := C4.out
  have hBh : Bh w (v3.heap.size + 1) v4 := ⟨K4.out, Nat.le_trans K3.out.size (Nat.le_succ _), Nat.lt_of_lt_of_le B4.out.lt hz4⟩
  refine wp_region_held_drew (S := (fun w' => At (v3.heap.size) [.iface 45 (.pointer (some ⟨b4, 0, none⟩)), .int .u64 268435456, .int .u64 256] w' ∧ Bh w (v3.heap.size + 1) w')) (by kernel_rfl) ⟨At.drew (by with_reducible assumption), Bh.drew (by with_reducible assumption)⟩ (fun hS => ?_)
  (refine wpAnyH_take (i := 0) (oi := { dst := some 24, op := Op.fieldAddr 111 (Operand.tmp 10) 0, type := 0, pos := "regions.go:60", after := #[], guard := none }) (v := ?_) rfl (by kernel_rfl) (by kernel_rfl) (by kernel_rfl) (fun _ _ _ h => h) (Or.inl ⟨by rfl, ?_⟩) hS ?_; rotate_left; focus (intro w' hSw; obtain ⟨s0, sb⟩ := hSw; go_simp <;> try with_reducible rfl))
  try simp only [Act.put, List.setIfInBounds_toArray, List.set_cons_zero, List.set_cons_succ]
  (refine wpAnyH_take (i := 1) (oi := { dst := some 25, op := Op.load 69 (Operand.tmp 24), type := 69, pos := "regions.go:60", after := #[{ on := 0, ground := Ground.data }], guard := none }) (v := ?_) rfl (by kernel_rfl) (by kernel_rfl) (by kernel_rfl) (fun _ _ _ h => h) (Or.inl ⟨by rfl, ?_⟩) hS ?_; rotate_left; focus (intro w' hSw; obtain ⟨s0, sb⟩ := hSw; obtain ⟨_, _, _⟩ := s0.out3; go_simp <;> try with_reducible rfl))
  try simp only [Act.put, List.setIfInBounds_toArray, List.set_cons_zero, List.set_cons_succ]
  (refine wpAnyH_take (i := 2) (oi := { dst := some 26, op := Op.fieldAddr 111 (Operand.tmp 10) 1, type := 0, pos := "regions.go:60", after := #[], guard := none }) (v := ?_) rfl (by kernel_rfl) (by kernel_rfl) (by kernel_rfl) (fun _ _ _ h => h) (Or.inl ⟨by rfl, ?_⟩) hS ?_; rotate_left; focus (intro w' hSw; obtain ⟨s0, sb⟩ := hSw; go_simp <;> try with_reducible rfl))
  try simp only [Act.put, List.setIfInBounds_toArray, List.set_cons_zero, List.set_cons_succ]
  (refine wpAnyH_take (i := 3) (oi := { dst := some 27, op := Op.load 63 (Operand.tmp 26), type := 63, pos := "regions.go:60", after := #[{ on := 2, ground := Ground.data }], guard := none }) (v := ?_) rfl (by kernel_rfl) (by kernel_rfl) (by kernel_rfl) (fun _ _ _ h => h) (Or.inl ⟨by rfl, ?_⟩) hS ?_; rotate_left; focus (intro w' hSw; obtain ⟨s0, sb⟩ := hSw; obtain ⟨_, _, _⟩ := s0.out3; go_simp <;> try with_reducible rfl))
  try simp only [Act.put, List.setIfInBounds_toArray, List.set_cons_zero, List.set_cons_succ]
  (refine wpAnyH_take (i := 4) (oi := { dst := some 28, op := Op.move (Operand.tmp 1), type := 22, pos := "regions.go:60", after := #[], guard := none }) (v := ?_) rfl (by kernel_rfl) (by kernel_rfl) (by kernel_rfl) (fun _ _ _ h => h) (Or.inl ⟨by rfl, ?_⟩) hS ?_; rotate_left; focus (intro w' hSw; obtain ⟨s0, sb⟩ := hSw; go_simp <;> try with_reducible rfl))
  try simp only [Act.put, List.setIfInBounds_toArray, List.set_cons_zero, List.set_cons_succ]
  refine wpAnyH_ready (rs := [5]) (by kernel_rfl) (by simp) ?_
  refine AllReadyH.cons (o := { dst := some 29, op := Op.call { callee := Callee.value (Operand.func 27), args := #[Operand.tmp 27, Operand.tmp 28], argTypes := #[63, 22] }, type := 3, pos := "regions.go:60", after := #[{ on := 3, ground := Ground.data }, { on := 4, ground := Ground.data }], guard := none }) rfl (fun K hK => ?_) AllReadyH.nil
  (refine take_if (by rfl) ?_; obtain ⟨s0, sb⟩ := hS; go_simp; (with_reducible refine (jbehind_w 268435456 256 pa (by decide) HB.out.1 HB.out.2 p1 _).mono ?_); rintro e' w' ⟨rfl, qk⟩; have t0 := At.kp s0 qk (Nat.lt_of_lt_of_le (show v3.heap.size < v3.heap.size + 1 by omega) sb.le); have tb := Bh.step sb qk; clear qk; refine hK.out _ _ ⟨t0, tb⟩ (fun hS => ?_))
  clear hK K
  try simp only [Act.put, List.setIfInBounds_toArray, List.set_cons_zero, List.set_cons_succ]
  (refine wpAnyH_take (i := 6) (oi := { dst := some 6, op := Op.assign (Operand.tmp 25), type := 69, pos := "regions.go:60", after := #[{ on := 1, ground := Ground.data }, { on := 5, ground := Ground.chain }, { on := 0, ground := Ground.phase }, { on := 1, ground := Ground.phase }, { on := 2, ground := Ground.textOnly Departure.lateStores }, { on := 3, ground := Ground.textOnly Departure.lateStores }, { on := 4, ground := Ground.textOnly Departure.lateStores }, { on := 5, ground := Ground.textOnly Departure.lateStoresUnsure }], guard := none }) (v := ?_) rfl (by kernel_rfl) (by kernel_rfl) (by kernel_rfl) (fun _ _ _ h => h) (Or.inl ⟨by rfl, ?_⟩) hS ?_; rotate_left; focus (intro w' hSw; obtain ⟨s0, sb⟩ := hSw; go_simp <;> try with_reducible rfl))
  try simp only [Act.put, List.setIfInBounds_toArray, List.set_cons_zero, List.set_cons_succ]
  (refine wpAnyH_take (i := 7) (oi := { dst := some 7, op := Op.assign (Operand.tmp 29), type := 3, pos := "regions.go:60", after := #[{ on := 5, ground := Ground.data }, { on := 6, ground := Ground.chain }, { on := 0, ground := Ground.phase }, { on := 1, ground := Ground.phase }, { on := 2, ground := Ground.phase }, { on := 3, ground := Ground.phase }, { on := 4, ground := Ground.phase }, { on := 5, ground := Ground.phase }, { on := 6, ground := Ground.phase }], guard := none }) (v := ?_) rfl (by kernel_rfl) (by kernel_rfl) (by kernel_rfl) (fun _ _ _ h => h) (Or.inl ⟨by rfl, ?_⟩) hS ?_; rotate_left; focus (intro w' hSw; obtain ⟨s0, sb⟩ := hSw; go_simp <;> try with_reducible rfl))
  try simp only [Act.put, List.setIfInBounds_toArray, List.set_cons_zero, List.set_cons_succ]
  (refine wpAnyH_take (i := 8) (oi := { dst := some 8, op := Op.assign (Operand.const (Value.bool true)), type := 4, pos := "regions.go:60", after := #[{ on := 7, ground := Ground.chain }, { on := 0, ground := Ground.phase }, { on := 1, ground := Ground.phase }, { on := 2, ground := Ground.phase }, { on := 3, ground := Ground.phase }, { on := 4, ground := Ground.phase }, { on := 5, ground := Ground.phase }, { on := 6, ground := Ground.phase }, { on := 7, ground := Ground.phase }], guard := none }) (v := ?_) rfl (by kernel_rfl) (by kernel_rfl) (by kernel_rfl) (fun _ _ _ h => h) (Or.inl ⟨by rfl, ?_⟩) hS ?_; rotate_left; focus (intro w' hSw; obtain ⟨s0, sb⟩ := hSw; go_simp <;> try with_reducible rfl))
  try simp only [Act.put, List.setIfInBounds_toArray, List.set_cons_zero, List.set_cons_succ]
  refine wpAnyH_done (by kernel_rfl) ?_ _
  obtain ⟨s0, sb⟩ := hS
  obtain ⟨_, _, _⟩ := s0.out3
  go_wp2
  refine bodyPost_ret (v := .tuple #[.iface 45 (.pointer (some ⟨b4, 0, none⟩)), .int .i64 (pa - 268435456), .bool true]) ?_ rfl ⟨rfl, sb.kp⟩
  simp [results, Try.results29, go_sem]
set_option maxHeartbeats 8000000 in
theorem jfind_5 {w : World} {lo hi g a1 a2 a3 a4 a5 b1 b2 b3 b4 b5 : Nat} {S : BS} (m : BI w lo hi g a1 a2 a3 a4 a5 b1 b2 b3 b4 b5 S) (pa size : Int) (p0 : 0 ≤ pa) (p1 : pa < 18446744073709551616) (hs : szB size = true) (h1 : inJ pa size 2147483648 (S.B.length : Int) = false) (h2 : inJ pa size 33554432 65536 = false) (h3 : inJ pa size 201326592 4194304 = false) (h4 : inJ pa size 268435456 256 = false) (h5 : inJ pa size 1048576 4096 = true) : Calls Try.prog 29 #[.pointer (some ⟨g, 0, none⟩), .int .u64 pa, .int .i64 size] w fun e w' => e = .returned (.tuple #[.iface 46 (.pointer (some ⟨b5, 0, none⟩)), .int .i64 (pa - 1048576), .bool true]) ∧ Kp w w' := by
  have hl := m.ram.lim
  obtain ⟨n, hn⟩ : ∃ n, (S.B.length : Int) = n := ⟨_, rfl⟩
  have hn0 : 0 ≤ n := by omega
  have hn1 : n < 65537 := by omega
  rw [hn] at h1
  have hz := szB_nat' size hs
  have hbd : 1048576 ≤ pa ∧ pa < 1048576 + 9223372036854775808 := by simp [inJ] at h5; omega
  have H1 := Lib.hid h1
  have H2 := Lib.hid h2
  have H3 := Lib.hid h3
  have H4 := Lib.hid h4
  have H5 := Lib.hid h5
  have HS := Lib.hid hs
  have HM := Lib.hid m
  have HN := Lib.hid hn
  have HB := Lib.hid hbd
  clear m hn hs hz hl h1 h2 h3 h4 h5 hbd
  have HZ := Lib.hid (szB_bd size HS.out)
  have hI0 : ∀ w, (Instr.index 112 (rgV b1 b2 b3 b4 b5 n) (.int .i64 0)).run Try.prog w = .ok (.agg #[.iface 42 (.pointer (some ⟨b1, 0, none⟩)), .int .u64 2147483648, .int .u64 n]) w := fun _ => by kernel_rfl
  have hI1 : ∀ w, (Instr.index 112 (rgV b1 b2 b3 b4 b5 n) (.int .i64 1)).run Try.prog w = .ok (.agg #[.iface 43 (.pointer (some ⟨b2, 0, none⟩)), .int .u64 33554432, .int .u64 65536]) w := fun _ => by kernel_rfl
  have hI2 : ∀ w, (Instr.index 112 (rgV b1 b2 b3 b4 b5 n) (.int .i64 2)).run Try.prog w = .ok (.agg #[.iface 44 (.pointer (some ⟨b3, 0, none⟩)), .int .u64 201326592, .int .u64 4194304]) w := fun _ => by kernel_rfl
  have hI3 : ∀ w, (Instr.index 112 (rgV b1 b2 b3 b4 b5 n) (.int .i64 3)).run Try.prog w = .ok (.agg #[.iface 45 (.pointer (some ⟨b4, 0, none⟩)), .int .u64 268435456, .int .u64 256]) w := fun _ => by kernel_rfl
  have hI4 : ∀ w, (Instr.index 112 (rgV b1 b2 b3 b4 b5 n) (.int .i64 4)).run Try.prog w = .ok (.agg #[.iface 46 (.pointer (some ⟨b5, 0, none⟩)), .int .u64 1048576, .int .u64 4096]) w := fun _ => by kernel_rfl
  go_enter Try.func29, Try.ntmps29
  go_wp2_with (first | (go_at_call 44; (with_reducible refine (jsize_w size true HS.out _).mono ?_); rintro e' w1 ⟨rfl, rfl⟩) | (go_at_call 45; (with_reducible refine (jregions_w HM.out n HN.out).mono ?_); rintro e' w1 ⟨rfl, qk⟩; have K0 := Lib.hid qk; clear qk))
  refine wp_loop_rounds 6 ?_
  have B1 := Lib.hid (Blk.new w1 111 [.iface 42 (.pointer (some ⟨b1, 0, none⟩)), .int .u64 2147483648, .int .u64 n])
  have J1 := Lib.hid (K0.out.trans (Kp.alloc w1 #[.iface 42 (.pointer (some ⟨b1, 0, none⟩)), .int .u64 2147483648, .int .u64 n] 111))
  rw [rounds_succ]
  go_wp2_with (go_at_call 34; (with_reducible refine (jhas_w 2147483648 n pa size false H1.out (by decide) (by first | exact hn0 | decide) (by omega) p0 p1 HZ.out.1 HZ.out.2 _).mono ?_); rintro e' v1 ⟨rfl, qk⟩; have K1 := Lib.hid (J1.out.trans qk); have C1 := Lib.hid (B1.out.at_.kp qk B1.out.lt); have hz1 := qk.size; clear qk)
  have B2 := Lib.hid (Blk.new v1 111 [.iface 43 (.pointer (some ⟨b2, 0, none⟩)), .int .u64 33554432, .int .u64 65536])
  have J2 := Lib.hid (K1.out.trans (Kp.alloc v1 #[.iface 43 (.pointer (some ⟨b2, 0, none⟩)), .int .u64 33554432, .int .u64 65536] 111))
  rw [rounds_succ]
  go_wp2_with (go_at_call 34; (with_reducible refine (jhas_w 33554432 65536 pa size false H2.out (by decide) (by first | exact hn0 | decide) (by omega) p0 p1 HZ.out.1 HZ.out.2 _).mono ?_); rintro e' v2 ⟨rfl, qk⟩; have K2 := Lib.hid (J2.out.trans qk); have C2 := Lib.hid (B2.out.at_.kp qk B2.out.lt); have hz2 := qk.size; clear qk)
  have B3 := Lib.hid (Blk.new v2 111 [.iface 44 (.pointer (some ⟨b3, 0, none⟩)), .int .u64 201326592, .int .u64 4194304])
  have J3 := Lib.hid (K2.out.trans (Kp.alloc v2 #[.iface 44 (.pointer (some ⟨b3, 0, none⟩)), .int .u64 201326592, .int .u64 4194304] 111))
  rw [rounds_succ]
  go_wp2_with (go_at_call 34; (with_reducible refine (jhas_w 201326592 4194304 pa size false H3.out (by decide) (by first | exact hn0 | decide) (by omega) p0 p1 HZ.out.1 HZ.out.2 _).mono ?_); rintro e' v3 ⟨rfl, qk⟩; have K3 := Lib.hid (J3.out.trans qk); have C3 := Lib.hid (B3.out.at_.kp qk B3.out.lt); have hz3 := qk.size; clear qk)
  have B4 := Lib.hid (Blk.new v3 111 [.iface 45 (.pointer (some ⟨b4, 0, none⟩)), .int .u64 268435456, .int .u64 256])
  have J4 := Lib.hid (K3.out.trans (Kp.alloc v3 #[.iface 45 (.pointer (some ⟨b4, 0, none⟩)), .int .u64 268435456, .int .u64 256] 111))
  rw [rounds_succ]
  go_wp2_with (go_at_call 34; (with_reducible refine (jhas_w 268435456 256 pa size false H4.out (by decide) (by first | exact hn0 | decide) (by omega) p0 p1 HZ.out.1 HZ.out.2 _).mono ?_); rintro e' v4 ⟨rfl, qk⟩; have K4 := Lib.hid (J4.out.trans qk); have C4 := Lib.hid (B4.out.at_.kp qk B4.out.lt); have hz4 := qk.size; clear qk)
  have B5 := Lib.hid (Blk.new v4 111 [.iface 46 (.pointer (some ⟨b5, 0, none⟩)), .int .u64 1048576, .int .u64 4096])
  have J5 := Lib.hid (K4.out.trans (Kp.alloc v4 #[.iface 46 (.pointer (some ⟨b5, 0, none⟩)), .int .u64 1048576, .int .u64 4096] 111))
  rw [rounds_succ]
  go_wp2_with (go_at_call 34; (with_reducible refine (jhas_w 1048576 4096 pa size true H5.out (by decide) (by first | exact hn0 | decide) (by omega) p0 p1 HZ.out.1 HZ.out.2 _).mono ?_); rintro e' v5 ⟨rfl, qk⟩; have K5 := Lib.hid (J5.out.trans qk); have C5 := Lib.hid (B5.out.at_.kp qk B5.out.lt); have hz5 := qk.size; clear qk)
  have hA : At (v4.heap.size) [.iface 46 (.pointer (some ⟨b5, 0, none⟩)), .int .u64 1048576, .int .u64 4096] v5 := C5.out
  have hBh : Bh w (v4.heap.size + 1) v5 := ⟨K5.out, Nat.le_trans K4.out.size (Nat.le_succ _), Nat.lt_of_lt_of_le B5.out.lt hz5⟩
  refine wp_region_held_drew (S := (fun w' => At (v4.heap.size) [.iface 46 (.pointer (some ⟨b5, 0, none⟩)), .int .u64 1048576, .int .u64 4096] w' ∧ Bh w (v4.heap.size + 1) w')) (by kernel_rfl) ⟨At.drew (by with_reducible assumption), Bh.drew (by with_reducible assumption)⟩ (fun hS => ?_)
  (refine wpAnyH_take (i := 0) (oi := { dst := some 24, op := Op.fieldAddr 111 (Operand.tmp 10) 0, type := 0, pos := "regions.go:60", after := #[], guard := none }) (v := ?_) rfl (by kernel_rfl) (by kernel_rfl) (by kernel_rfl) (fun _ _ _ h => h) (Or.inl ⟨by rfl, ?_⟩) hS ?_; rotate_left; focus (intro w' hSw; obtain ⟨s0, sb⟩ := hSw; go_simp <;> try with_reducible rfl))
  try simp only [Act.put, List.setIfInBounds_toArray, List.set_cons_zero, List.set_cons_succ]
  (refine wpAnyH_take (i := 1) (oi := { dst := some 25, op := Op.load 69 (Operand.tmp 24), type := 69, pos := "regions.go:60", after := #[{ on := 0, ground := Ground.data }], guard := none }) (v := ?_) rfl (by kernel_rfl) (by kernel_rfl) (by kernel_rfl) (fun _ _ _ h => h) (Or.inl ⟨by rfl, ?_⟩) hS ?_; rotate_left; focus (intro w' hSw; obtain ⟨s0, sb⟩ := hSw; obtain ⟨_, _, _⟩ := s0.out3; go_simp <;> try with_reducible rfl))
  try simp only [Act.put, List.setIfInBounds_toArray, List.set_cons_zero, List.set_cons_succ]
  (refine wpAnyH_take (i := 2) (oi := { dst := some 26, op := Op.fieldAddr 111 (Operand.tmp 10) 1, type := 0, pos := "regions.go:60", after := #[], guard := none }) (v := ?_) rfl (by kernel_rfl) (by kernel_rfl) (by kernel_rfl) (fun _ _ _ h => h) (Or.inl ⟨by rfl, ?_⟩) hS ?_; rotate_left; focus (intro w' hSw; obtain ⟨s0, sb⟩ := hSw; go_simp <;> try with_reducible rfl))
  try simp only [Act.put, List.setIfInBounds_toArray, List.set_cons_zero, List.set_cons_succ]
  (refine wpAnyH_take (i := 3) (oi := { dst := some 27, op := Op.load 63 (Operand.tmp 26), type := 63, pos := "regions.go:60", after := #[{ on := 2, ground := Ground.data }], guard := none }) (v := ?_) rfl (by kernel_rfl) (by kernel_rfl) (by kernel_rfl) (fun _ _ _ h => h) (Or.inl ⟨by rfl, ?_⟩) hS ?_; rotate_left; focus (intro w' hSw; obtain ⟨s0, sb⟩ := hSw; obtain ⟨_, _, _⟩ := s0.out3; go_simp <;> try with_reducible rfl))
  try simp only [Act.put, List.setIfInBounds_toArray, List.set_cons_zero, List.set_cons_succ]
  (refine wpAnyH_take (i := 4) (oi := { dst := some 28, op := Op.move (Operand.tmp 1), type := 22, pos := "regions.go:60", after := #[], guard := none }) (v := ?_) rfl (by kernel_rfl) (by kernel_rfl) (by kernel_rfl) (fun _ _ _ h => h) (Or.inl ⟨by rfl, ?_⟩) hS ?_; rotate_left; focus (intro w' hSw; obtain ⟨s0, sb⟩ := hSw; go_simp <;> try with_reducible rfl))
  try simp only [Act.put, List.setIfInBounds_toArray, List.set_cons_zero, List.set_cons_succ]
  refine wpAnyH_ready (rs := [5]) (by kernel_rfl) (by simp) ?_
  refine AllReadyH.cons (o := { dst := some 29, op := Op.call { callee := Callee.value (Operand.func 27), args := #[Operand.tmp 27, Operand.tmp 28], argTypes := #[63, 22] }, type := 3, pos := "regions.go:60", after := #[{ on := 3, ground := Ground.data }, { on := 4, ground := Ground.data }], guard := none }) rfl (fun K hK => ?_) AllReadyH.nil
  (refine take_if (by rfl) ?_; obtain ⟨s0, sb⟩ := hS; go_simp; (with_reducible refine (jbehind_w 1048576 4096 pa (by decide) HB.out.1 HB.out.2 p1 _).mono ?_); rintro e' w' ⟨rfl, qk⟩; have t0 := At.kp s0 qk (Nat.lt_of_lt_of_le (show v4.heap.size < v4.heap.size + 1 by omega) sb.le); have tb := Bh.step sb qk; clear qk; refine hK.out _ _ ⟨t0, tb⟩ (fun hS => ?_))
  clear hK K
  try simp only [Act.put, List.setIfInBounds_toArray, List.set_cons_zero, List.set_cons_succ]
  (refine wpAnyH_take (i := 6) (oi := { dst := some 6, op := Op.assign (Operand.tmp 25), type := 69, pos := "regions.go:60", after := #[{ on := 1, ground := Ground.data }, { on := 5, ground := Ground.chain }, { on := 0, ground := Ground.phase }, { on := 1, ground := Ground.phase }, { on := 2, ground := Ground.textOnly Departure.lateStores }, { on := 3, ground := Ground.textOnly Departure.lateStores }, { on := 4, ground := Ground.textOnly Departure.lateStores }, { on := 5, ground := Ground.textOnly Departure.lateStoresUnsure }], guard := none }) (v := ?_) rfl (by kernel_rfl) (by kernel_rfl) (by kernel_rfl) (fun _ _ _ h => h) (Or.inl ⟨by rfl, ?_⟩) hS ?_; rotate_left; focus (intro w' hSw; obtain ⟨s0, sb⟩ := hSw; go_simp <;> try with_reducible rfl))
  try simp only [Act.put, List.setIfInBounds_toArray, List.set_cons_zero, List.set_cons_succ]
  (refine wpAnyH_take (i := 7) (oi := { dst := some 7, op := Op.assign (Operand.tmp 29), type := 3, pos := "regions.go:60", after := #[{ on := 5, ground := Ground.data }, { on := 6, ground := Ground.chain }, { on := 0, ground := Ground.phase }, { on := 1, ground := Ground.phase }, { on := 2, ground := Ground.phase }, { on := 3, ground := Ground.phase }, { on := 4, ground := Ground.phase }, { on := 5, ground := Ground.phase }, { on := 6, ground := Ground.phase }], guard := none }) (v := ?_) rfl (by kernel_rfl) (by kernel_rfl) (by kernel_rfl) (fun _ _ _ h => h) (Or.inl ⟨by rfl, ?_⟩) hS ?_; rotate_left; focus (intro w' hSw; obtain ⟨s0, sb⟩ := hSw; go_simp <;> try with_reducible rfl))
  try simp only [Act.put, List.setIfInBounds_toArray, List.set_cons_zero, List.set_cons_succ]
  (refine wpAnyH_take (i := 8) (oi := { dst := some 8, op := Op.assign (Operand.const (Value.bool true)), type := 4, pos := "regions.go:60", after := #[{ on := 7, ground := Ground.chain }, { on := 0, ground := Ground.phase }, { on := 1, ground := Ground.phase }, { on := 2, ground := Ground.phase }, { on := 3, ground := Ground.phase }, { on := 4, ground := Ground.phase }, { on := 5, ground := Ground.phase }, { on := 6, ground := Ground.phase }, { on := 7, ground := Ground.phase }], guard := none }) (v := ?_) rfl (by kernel_rfl) (by kernel_rfl) (by kernel_rfl) (fun _ _ _ h => h) (Or.inl ⟨by rfl, ?_⟩) hS ?_; rotate_left; focus (intro w' hSw; obtain ⟨s0, sb⟩ := hSw; go_simp <;> try with_reducible rfl))
  try simp only [Act.put, List.setIfInBounds_toArray, List.set_cons_zero, List.set_cons_succ]
  refine wpAnyH_done (by kernel_rfl) ?_ _
  obtain ⟨s0, sb⟩ := hS
  obtain ⟨_, _, _⟩ := s0.out3
  go_wp2
  refine bodyPost_ret (v := .tuple #[.iface 46 (.pointer (some ⟨b5, 0, none⟩)), .int .i64 (pa - 1048576), .bool true]) ?_ rfl ⟨rfl, sb.kp⟩
  simp [results, Try.results29, go_sem]
set_option maxHeartbeats 8000000 in
theorem jfind_0 {w : World} {lo hi g a1 a2 a3 a4 a5 b1 b2 b3 b4 b5 : Nat} {S : BS} (m : BI w lo hi g a1 a2 a3 a4 a5 b1 b2 b3 b4 b5 S) (pa size : Int) (p0 : 0 ≤ pa) (p1 : pa < 18446744073709551616) (hs : szB size = true) (h1 : inJ pa size 2147483648 (S.B.length : Int) = false) (h2 : inJ pa size 33554432 65536 = false) (h3 : inJ pa size 201326592 4194304 = false) (h4 : inJ pa size 268435456 256 = false) (h5 : inJ pa size 1048576 4096 = false) : Calls Try.prog 29 #[.pointer (some ⟨g, 0, none⟩), .int .u64 pa, .int .i64 size] w fun e w' => e = .returned (.tuple #[.nilIface, .int .i64 0, .bool false]) ∧ Kp w w' := by
  have hl := m.ram.lim
  obtain ⟨n, hn⟩ : ∃ n, (S.B.length : Int) = n := ⟨_, rfl⟩
  have hn0 : 0 ≤ n := by omega
  have hn1 : n < 65537 := by omega
  rw [hn] at h1
  have hz := szB_nat' size hs
  have H1 := Lib.hid h1
  have H2 := Lib.hid h2
  have H3 := Lib.hid h3
  have H4 := Lib.hid h4
  have H5 := Lib.hid h5
  have HS := Lib.hid hs
  have HM := Lib.hid m
  have HN := Lib.hid hn
  skip
  clear m hn hs hz hl h1 h2 h3 h4 h5
  have HZ := Lib.hid (szB_bd size HS.out)
  have hI0 : ∀ w, (Instr.index 112 (rgV b1 b2 b3 b4 b5 n) (.int .i64 0)).run Try.prog w = .ok (.agg #[.iface 42 (.pointer (some ⟨b1, 0, none⟩)), .int .u64 2147483648, .int .u64 n]) w := fun _ => by kernel_rfl
  have hI1 : ∀ w, (Instr.index 112 (rgV b1 b2 b3 b4 b5 n) (.int .i64 1)).run Try.prog w = .ok (.agg #[.iface 43 (.pointer (some ⟨b2, 0, none⟩)), .int .u64 33554432, .int .u64 65536]) w := fun _ => by kernel_rfl
  have hI2 : ∀ w, (Instr.index 112 (rgV b1 b2 b3 b4 b5 n) (.int .i64 2)).run Try.prog w = .ok (.agg #[.iface 44 (.pointer (some ⟨b3, 0, none⟩)), .int .u64 201326592, .int .u64 4194304]) w := fun _ => by kernel_rfl
  have hI3 : ∀ w, (Instr.index 112 (rgV b1 b2 b3 b4 b5 n) (.int .i64 3)).run Try.prog w = .ok (.agg #[.iface 45 (.pointer (some ⟨b4, 0, none⟩)), .int .u64 268435456, .int .u64 256]) w := fun _ => by kernel_rfl
  have hI4 : ∀ w, (Instr.index 112 (rgV b1 b2 b3 b4 b5 n) (.int .i64 4)).run Try.prog w = .ok (.agg #[.iface 46 (.pointer (some ⟨b5, 0, none⟩)), .int .u64 1048576, .int .u64 4096]) w := fun _ => by kernel_rfl
  go_enter Try.func29, Try.ntmps29
  go_wp2_with (first | (go_at_call 44; (with_reducible refine (jsize_w size true HS.out _).mono ?_); rintro e' w1 ⟨rfl, rfl⟩) | (go_at_call 45; (with_reducible refine (jregions_w HM.out n HN.out).mono ?_); rintro e' w1 ⟨rfl, qk⟩; have K0 := Lib.hid qk; clear qk))
  refine wp_loop_rounds 6 ?_
  have B1 := Lib.hid (Blk.new w1 111 [.iface 42 (.pointer (some ⟨b1, 0, none⟩)), .int .u64 2147483648, .int .u64 n])
  have J1 := Lib.hid (K0.out.trans (Kp.alloc w1 #[.iface 42 (.pointer (some ⟨b1, 0, none⟩)), .int .u64 2147483648, .int .u64 n] 111))
  rw [rounds_succ]
  go_wp2_with (go_at_call 34; (with_reducible refine (jhas_w 2147483648 n pa size false H1.out (by decide) (by first | exact hn0 | decide) (by omega) p0 p1 HZ.out.1 HZ.out.2 _).mono ?_); rintro e' v1 ⟨rfl, qk⟩; have K1 := Lib.hid (J1.out.trans qk); have C1 := Lib.hid (B1.out.at_.kp qk B1.out.lt); have hz1 := qk.size; clear qk)
  have B2 := Lib.hid (Blk.new v1 111 [.iface 43 (.pointer (some ⟨b2, 0, none⟩)), .int .u64 33554432, .int .u64 65536])
  have J2 := Lib.hid (K1.out.trans (Kp.alloc v1 #[.iface 43 (.pointer (some ⟨b2, 0, none⟩)), .int .u64 33554432, .int .u64 65536] 111))
  rw [rounds_succ]
  go_wp2_with (go_at_call 34; (with_reducible refine (jhas_w 33554432 65536 pa size false H2.out (by decide) (by first | exact hn0 | decide) (by omega) p0 p1 HZ.out.1 HZ.out.2 _).mono ?_); rintro e' v2 ⟨rfl, qk⟩; have K2 := Lib.hid (J2.out.trans qk); have C2 := Lib.hid (B2.out.at_.kp qk B2.out.lt); have hz2 := qk.size; clear qk)
  have B3 := Lib.hid (Blk.new v2 111 [.iface 44 (.pointer (some ⟨b3, 0, none⟩)), .int .u64 201326592, .int .u64 4194304])
  have J3 := Lib.hid (K2.out.trans (Kp.alloc v2 #[.iface 44 (.pointer (some ⟨b3, 0, none⟩)), .int .u64 201326592, .int .u64 4194304] 111))
  rw [rounds_succ]
  go_wp2_with (go_at_call 34; (with_reducible refine (jhas_w 201326592 4194304 pa size false H3.out (by decide) (by first | exact hn0 | decide) (by omega) p0 p1 HZ.out.1 HZ.out.2 _).mono ?_); rintro e' v3 ⟨rfl, qk⟩; have K3 := Lib.hid (J3.out.trans qk); have C3 := Lib.hid (B3.out.at_.kp qk B3.out.lt); have hz3 := qk.size; clear qk)
  have B4 := Lib.hid (Blk.new v3 111 [.iface 45 (.pointer (some ⟨b4, 0, none⟩)), .int .u64 268435456, .int .u64 256])
  have J4 := Lib.hid (K3.out.trans (Kp.alloc v3 #[.iface 45 (.pointer (some ⟨b4, 0, none⟩)), .int .u64 268435456, .int .u64 256] 111))
  rw [rounds_succ]
  go_wp2_with (go_at_call 34; (with_reducible refine (jhas_w 268435456 256 pa size false H4.out (by decide) (by first | exact hn0 | decide) (by omega) p0 p1 HZ.out.1 HZ.out.2 _).mono ?_); rintro e' v4 ⟨rfl, qk⟩; have K4 := Lib.hid (J4.out.trans qk); have C4 := Lib.hid (B4.out.at_.kp qk B4.out.lt); have hz4 := qk.size; clear qk)
  have B5 := Lib.hid (Blk.new v4 111 [.iface 46 (.pointer (some ⟨b5, 0, none⟩)), .int .u64 1048576, .int .u64 4096])
  have J5 := Lib.hid (K4.out.trans (Kp.alloc v4 #[.iface 46 (.pointer (some ⟨b5, 0, none⟩)), .int .u64 1048576, .int .u64 4096] 111))
  rw [rounds_succ]
  go_wp2_with (go_at_call 34; (with_reducible refine (jhas_w 1048576 4096 pa size false H5.out (by decide) (by first | exact hn0 | decide) (by omega) p0 p1 HZ.out.1 HZ.out.2 _).mono ?_); rintro e' v5 ⟨rfl, qk⟩; have K5 := Lib.hid (J5.out.trans qk); have C5 := Lib.hid (B5.out.at_.kp qk B5.out.lt); have hz5 := qk.size; clear qk)
  rw [rounds_succ]
  go_wp2
  refine bodyPost_ret (v := .tuple #[.nilIface, .int .i64 0, .bool false]) ?_ rfl ⟨rfl, K5.out⟩
  simp [results, Try.results29, go_sem]
end Go.Proofs.Ytikibfpfieoabaa
