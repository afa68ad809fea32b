/-
  The program's bus: LoadCap, StoreCap, by what they answer and leave. No condition.
-/
import Derived.Test.YtikibfpfieoabaaJGo

import Derived.Test.YtikibfpfieoabaaECap
namespace Go.Proofs.Ytikibfpfieoabaa
open Go.ChangeShapes Go.WideShapes Go.ChangeAt Go.RowKit
set_option linter.unusedVariables false
set_option linter.unusedSimpArgs false
set_option maxRecDepth 4000
theorem Blk.c9 {w : World} {g : Nat} {t : TypeId} {v0 v1 v2 v3 v4 v5 v6 v7 v8 : Value} (h : Blk w g t [v0, v1, v2, v3, v4, v5, v6, v7, v8]) : w.cell? ⟨g, 0, none⟩ = some v0 ∧ w.cell? ⟨g, 1, none⟩ = some v1 ∧ w.cell? ⟨g, 2, none⟩ = some v2 ∧ w.cell? ⟨g, 3, none⟩ = some v3 ∧ w.cell? ⟨g, 4, none⟩ = some v4 ∧ w.cell? ⟨g, 5, none⟩ = some v5 ∧ w.cell? ⟨g, 6, none⟩ = some v6 ∧ w.cell? ⟨g, 7, none⟩ = some v7 ∧ w.cell? ⟨g, 8, none⟩ = some v8 ∧ w.frozen? ⟨g, 0, none⟩ = false ∧ w.frozen? ⟨g, 1, none⟩ = false ∧ w.frozen? ⟨g, 2, none⟩ = false ∧ w.frozen? ⟨g, 3, none⟩ = false ∧ w.frozen? ⟨g, 4, none⟩ = false ∧ w.frozen? ⟨g, 5, none⟩ = false ∧ w.frozen? ⟨g, 6, none⟩ = false ∧ w.frozen? ⟨g, 7, none⟩ = false ∧ w.frozen? ⟨g, 8, none⟩ = false :=
  ⟨h.at_ 0 _ rfl, h.at_ 1 _ rfl, h.at_ 2 _ rfl, h.at_ 3 _ rfl, h.at_ 4 _ rfl, h.at_ 5 _ rfl, h.at_ 6 _ rfl, h.at_ 7 _ rfl, h.at_ 8 _ rfl, h.frozen 0, h.frozen 1, h.frozen 2, h.frozen 3, h.frozen 4, h.frozen 5, h.frozen 6, h.frozen 7, h.frozen 8⟩
/-- Ahead of a capability's load: the bus, the result's row; nothing else has turned. -/
structure CJ (w w' : World) (lo hi g a1 a2 a3 a4 a5 b1 b2 b3 b4 b5 : Nat) (S : BS) : Prop where
  bi : BI w' lo hi g a1 a2 a3 a4 a5 b1 b2 b3 b4 b5 S
  row : Blk w' w.heap.size 24 [.bool false, .int .i64 0, .int .i64 0, .int .i64 0, .int .i64 0, .int .i64 0, .int .i64 0, .bool false, .int .u64 0]
  fr : Fr w w' (fun _ => False)
theorem CJ.below {w w1 w2 : World} {lo hi g a1 a2 a3 a4 a5 b1 b2 b3 b4 b5 : Nat} {S : BS} (h : CJ w w1 lo hi g a1 a2 a3 a4 a5 b1 b2 b3 b4 b5 S) (k : Below w1.heap.size w1 w2) : CJ w w2 lo hi g a1 a2 a3 a4 a5 b1 b2 b3 b4 b5 S :=
  ⟨h.bi.below k, h.row.block (k.block _ h.row.lt), h.fr.below k (fun i hi _ => Nat.lt_of_lt_of_le hi h.fr.size)⟩
theorem CJ.kp {w w1 w2 : World} {lo hi g a1 a2 a3 a4 a5 b1 b2 b3 b4 b5 : Nat} {S : BS} (h : CJ w w1 lo hi g a1 a2 a3 a4 a5 b1 b2 b3 b4 b5 S) (k : Kp w1 w2) : CJ w w2 lo hi g a1 a2 a3 a4 a5 b1 b2 b3 b4 b5 S := h.below k.1
theorem CJ.drew {w w1 : World} {lo hi g a1 a2 a3 a4 a5 b1 b2 b3 b4 b5 : Nat} {S : BS} (h : CJ w w1 lo hi g a1 a2 a3 a4 a5 b1 b2 b3 b4 b5 S) : CJ w w1.drew lo hi g a1 a2 a3 a4 a5 b1 b2 b3 b4 b5 S := h.kp (Kp.refl w1).drew
theorem CJ.new {w : World} {lo hi g a1 a2 a3 a4 a5 b1 b2 b3 b4 b5 : Nat} {S : BS} (h : BI w lo hi g a1 a2 a3 a4 a5 b1 b2 b3 b4 b5 S) : CJ w (w.alloc (.cells #[.bool false, .int .i64 0, .int .i64 0, .int .i64 0, .int .i64 0, .int .i64 0, .int .i64 0, .bool false, .int .u64 0] 24)) lo hi g a1 a2 a3 a4 a5 b1 b2 b3 b4 b5 S :=
  ⟨h.kp ((Kp.refl w).allocs _ _), Blk.new w _ [.bool false, .int .i64 0, .int .i64 0, .int .i64 0, .int .i64 0, .int .i64 0, .int .i64 0, .bool false, .int .u64 0], (Fr.refl w _).alloc _⟩
set_option maxHeartbeats 8000000 in
theorem jlc_out {w : World} {lo hi g a1 a2 a3 a4 a5 b1 b2 b3 b4 b5 : Nat} {S : BS} (m : BI w lo hi g a1 a2 a3 a4 a5 b1 b2 b3 b4 b5 S) (pa : Int) (p0 : 0 ≤ pa) (p1 : pa < 18446744073709551616) (hi16 : inJ pa 16 2147483648 S.B.length = false) : Calls Try.prog 9 #[.pointer (some ⟨g, 0, none⟩), .int .u64 pa] w fun e w' => e = .returned (.tuple #[.agg #[.bool false, .int .i64 0, .int .i64 0, .int .i64 0, .int .i64 0, .int .i64 0, .int .i64 0, .bool false, .int .u64 0], .bool false]) ∧ BI w' lo hi g a1 a2 a3 a4 a5 b1 b2 b3 b4 b5 S ∧ Fr w w' (Rg lo hi) := by
  have hl := m.ram.lim
  have C0 := Lib.hid (CJ.new m)
  have HI := Lib.hid (jinram_i C0.out.bi pa 16 false hi16 p0 p1 (by decide) (by decide))
  have HM := Lib.hid m
  clear m hi16 hl
  go_enter Try.func9, Try.ntmps9
  go_wp2_with (go_at_call 14; (with_reducible refine HI.out.mono ?_); rintro e' w1 ⟨rfl, qk⟩; have C1 := Lib.hid (C0.out.kp qk); obtain ⟨q0, q1, q2, q3, q4, q5, q6, q7, q8, z0, z1, z2, z3, z4, z5, z6, z7, z8⟩ := C1.out.row.c9; clear qk)
  refine bodyPost_ret (v := .tuple #[.agg #[.bool false, .int .i64 0, .int .i64 0, .int .i64 0, .int .i64 0, .int .i64 0, .int .i64 0, .bool false, .int .u64 0], .bool false]) ?_ rfl ⟨rfl, (fun F => ⟨HM.out.fr F (fun _ _ _ h => h), F.mono (fun _ _ h => h.elim)⟩) (?_ : Fr w _ (fun _ => False))⟩
  · simp [results, Try.results9, go_sem, q0, q1, q2, q3, q4, q5, q6, q7, q8]
  · repeat' (first | with_reducible refine Fr.setCell ?_ (Or.inl (Nat.le_refl _)) _)
    exact C1.out.fr
set_option maxHeartbeats 8000000 in
theorem jlc_no {w : World} {lo hi g a1 a2 a3 a4 a5 b1 b2 b3 b4 b5 : Nat} {S : BS} (m : BI w lo hi g a1 a2 a3 a4 a5 b1 b2 b3 b4 b5 S) (pa : Int) (p0 : 0 ≤ pa) (p1 : pa < 18446744073709551616) (hi16 : inJ pa 16 2147483648 S.B.length = true) (hk : cpO S.B.length (pa - 2147483648) = false) : Calls Try.prog 9 #[.pointer (some ⟨g, 0, none⟩), .int .u64 pa] w fun e w' => e = .returned (.tuple #[.agg #[.bool false, .int .i64 0, .int .i64 0, .int .i64 0, .int .i64 0, .int .i64 0, .int .i64 0, .bool false, .int .u64 0], .bool false]) ∧ BI w' lo hi g a1 a2 a3 a4 a5 b1 b2 b3 b4 b5 S ∧ Fr w w' (Rg lo hi) := by
  have hl := m.ram.lim
  have hx : 0 ≤ pa - 2147483648 ∧ pa - 2147483648 < 4294967296 := by simp [inJ] at hi16; omega
  obtain ⟨off, ho⟩ : ∃ off, pa - 2147483648 = off := ⟨_, rfl⟩
  have HB := Lib.hid (show 2147483648 ≤ pa ∧ pa < 2147483648 + 9223372036854775808 from by omega)
  rw [ho] at hx hk
  obtain ⟨n, hn⟩ : ∃ n, (S.B.length : Int) = n := ⟨_, rfl⟩
  have HN := Lib.hid hn
  have HE := Lib.hid ho
  obtain ⟨tg, ht⟩ : ∃ tg, cpT S.T S.B.length off = tg := ⟨_, rfl⟩
  obtain ⟨ad, hd⟩ : ∃ ad, cpA S.B off = ad := ⟨_, rfl⟩
  obtain ⟨me, he⟩ : ∃ me, cpM S.B off = me := ⟨_, rfl⟩
  have HL : ∀ (u : World), BI u lo hi g a1 a2 a3 a4 a5 b1 b2 b3 b4 b5 S → Calls Try.prog 28 #[.pointer (some ⟨b1, 0, none⟩), .int .i64 off] u fun e w' => e = .returned (.tuple #[.bool tg, .int .u64 ad, .int .u64 me, .bool false]) ∧ Below u.heap.size u w' := fun u x => (cloadcap_w x.ram off (by omega) (by omega)).mono fun e w' y => ⟨by rw [y.1, ht, hd, he, hk], y.2⟩
  have HL := Lib.hid HL
  have HO := Lib.hid (show pa - 2147483648 = off from ho)
  have C0 := Lib.hid (CJ.new m)
  have HI := Lib.hid (jinram_i C0.out.bi pa 16 true hi16 p0 p1 (by decide) (by decide))
  have HM := Lib.hid m
  clear m hi16 hl hk ht hd he hn ho
  go_enter Try.func9, Try.ntmps9
  go_upto_region 3 with (go_at_call 14; (with_reducible refine HI.out.mono ?_); rintro e' w1 ⟨rfl, qk⟩; have C1 := Lib.hid (C0.out.kp qk); clear qk)
  refine wp_region_held_drew (S := fun w' => CJ w w' lo hi g a1 a2 a3 a4 a5 b1 b2 b3 b4 b5 S) (by kernel_rfl) (C1.out.drew) (fun hS => ?_)
  (refine wpAnyH_take (i := 0) (oi := { dst := some 16, op := Op.move (Operand.tmp 0), type := 26, pos := "bus.go:60", after := #[], guard := none }) (v := ?_) rfl (by kernel_rfl) (by kernel_rfl) (by kernel_rfl) (fun _ _ _ h => h) (Or.inl ⟨by rfl, ?_⟩) hS ?_; rotate_left; focus (intro w' s0; go_simp <;> try with_reducible rfl))
  try simp only [Act.put, List.setIfInBounds_toArray, List.set_cons_zero, List.set_cons_succ]
  (refine wpAnyH_take (i := 1) (oi := { dst := some 17, op := Op.nilCheck (Operand.tmp 16), type := 0, pos := "bus.go:60", after := #[{ on := 0, ground := Ground.data }], guard := none }) (v := ?_) rfl (by kernel_rfl) (by kernel_rfl) (by kernel_rfl) (fun _ _ _ h => h) (Or.inl ⟨by rfl, ?_⟩) hS ?_; rotate_left; focus (intro w' s0; go_simp <;> try with_reducible rfl))
  try simp only [Act.put, List.setIfInBounds_toArray, List.set_cons_zero, List.set_cons_succ]
  (refine wpAnyH_take (i := 2) (oi := { dst := some 18, op := Op.fieldAddr 48 (Operand.tmp 17) 0, type := 0, pos := "bus.go:60", after := #[{ on := 1, ground := Ground.data }], guard := none }) (v := ?_) rfl (by kernel_rfl) (by kernel_rfl) (by kernel_rfl) (fun _ _ _ h => h) (Or.inl ⟨by rfl, ?_⟩) hS ?_; rotate_left; focus (intro w' s0; go_simp <;> try with_reducible rfl))
  try simp only [Act.put, List.setIfInBounds_toArray, List.set_cons_zero, List.set_cons_succ]
  (refine wpAnyH_take (i := 3) (oi := { dst := some 19, op := Op.load 42 (Operand.tmp 18), type := 42, pos := "bus.go:60", after := #[{ on := 2, ground := Ground.data }], guard := none }) (v := ?_) rfl (by kernel_rfl) (by kernel_rfl) (by kernel_rfl) (fun _ _ _ h => h) (Or.inl ⟨by rfl, ?_⟩) hS ?_; rotate_left; focus (intro w' s0; have c0 := s0.bi.blk.at_ 0 _ rfl; go_simp <;> try with_reducible rfl))
  try simp only [Act.put, List.setIfInBounds_toArray, List.set_cons_zero, List.set_cons_succ]
  (refine wpAnyH_take (i := 4) (oi := { dst := some 20, op := Op.move (Operand.tmp 0), type := 26, pos := "bus.go:60", after := #[], guard := none }) (v := ?_) rfl (by kernel_rfl) (by kernel_rfl) (by kernel_rfl) (fun _ _ _ h => h) (Or.inl ⟨by rfl, ?_⟩) hS ?_; rotate_left; focus (intro w' s0; go_simp <;> try with_reducible rfl))
  try simp only [Act.put, List.setIfInBounds_toArray, List.set_cons_zero, List.set_cons_succ]
  (refine wpAnyH_take (i := 6) (oi := { dst := some 22, op := Op.move (Operand.tmp 1), type := 22, pos := "bus.go:60", after := #[], guard := none }) (v := ?_) rfl (by kernel_rfl) (by kernel_rfl) (by kernel_rfl) (fun _ _ _ h => h) (Or.inl ⟨by rfl, ?_⟩) hS ?_; rotate_left; focus (intro w' s0; go_simp <;> try with_reducible rfl))
  try simp only [Act.put, List.setIfInBounds_toArray, List.set_cons_zero, List.set_cons_succ]
  refine wpAnyH_ready (rs := [5]) (by kernel_rfl) (by simp) ?_
  refine AllReadyH.cons (o := { dst := some 21, op := Op.call { callee := Callee.value (Operand.func 26), args := #[Operand.tmp 20], argTypes := #[26] }, type := 63, pos := "bus.go:60", after := #[{ on := 4, ground := Ground.data }], guard := none }) rfl (fun K hK => ?_) AllReadyH.nil
  refine take_if (by rfl) ?_
  go_simp
  (with_reducible refine (jmem_w hS.bi n HN.out).mono ?_)
  rintro e' x1 ⟨rfl, qk⟩
  have hS2 : CJ w x1 lo hi g a1 a2 a3 a4 a5 b1 b2 b3 b4 b5 S := hS.kp qk
  refine hK.out _ _ hS2 (fun hS => ?_)
  clear hK K hS2
  try simp only [Act.put, List.setIfInBounds_toArray, List.set_cons_zero, List.set_cons_succ]
  refine wpAnyH_ready (rs := [7]) (by kernel_rfl) (by simp) ?_
  refine AllReadyH.cons (o := { dst := some 23, op := Op.call { callee := Callee.value (Operand.func 27), args := #[Operand.tmp 21, Operand.tmp 22], argTypes := #[63, 22] }, type := 3, pos := "bus.go:60", after := #[{ on := 5, ground := Ground.data }, { on := 6, ground := Ground.data }, { on := 5, ground := Ground.chain }], guard := none }) rfl (fun K hK => ?_) AllReadyH.nil
  refine take_if (by rfl) ?_
  go_simp
  (with_reducible refine (jbehind_w 2147483648 n pa (by decide) HB.out.1 HB.out.2 p1 _).mono ?_)
  rintro e' x2 ⟨rfl, qk⟩
  have hS2 : CJ w x2 lo hi g a1 a2 a3 a4 a5 b1 b2 b3 b4 b5 S := hS.kp qk
  rw [HO.out]
  refine hK.out _ _ hS2 (fun hS => ?_)
  clear hK K hS2
  try simp only [Act.put, List.setIfInBounds_toArray, List.set_cons_zero, List.set_cons_succ]
  refine wpAnyH_ready (rs := [8]) (by kernel_rfl) (by simp) ?_
  refine AllReadyH.cons (o := { dst := some 24, op := Op.call { callee := Callee.value (Operand.func 28), args := #[Operand.tmp 19, Operand.tmp 23], argTypes := #[42, 3] }, type := 66, pos := "bus.go:60", after := #[{ on := 3, ground := Ground.data }, { on := 7, ground := Ground.data }, { on := 7, ground := Ground.chain }], guard := none }) rfl (fun K hK => ?_) AllReadyH.nil
  refine take_if (by rfl) ?_
  go_simp
  (with_reducible refine (HL.out _ hS.bi).mono ?_)
  rintro e' x3 ⟨rfl, qk⟩
  have hS2 : CJ w x3 lo hi g a1 a2 a3 a4 a5 b1 b2 b3 b4 b5 S := hS.below qk
  refine hK.out _ _ hS2 (fun hS => ?_)
  clear hK K hS2
  try simp only [Act.put, List.setIfInBounds_toArray, List.set_cons_zero, List.set_cons_succ]
  (refine wpAnyH_take (i := 9) (oi := { dst := some 15, op := Op.move (Operand.tmp 24), type := 66, pos := "bus.go:60", after := #[{ on := 8, ground := Ground.data }], guard := none }) (v := ?_) rfl (by kernel_rfl) (by kernel_rfl) (by kernel_rfl) (fun _ _ _ h => h) (Or.inl ⟨by rfl, ?_⟩) hS ?_; rotate_left; focus (intro w' s0; go_simp <;> try with_reducible rfl))
  try simp only [Act.put, List.setIfInBounds_toArray, List.set_cons_zero, List.set_cons_succ]
  (refine wpAnyH_take (i := 10) (oi := { dst := some 25, op := Op.extract (Operand.tmp 15) 0, type := 4, pos := "bus.go:60", after := #[{ on := 9, ground := Ground.data }], guard := none }) (v := ?_) rfl (by kernel_rfl) (by kernel_rfl) (by kernel_rfl) (fun _ _ _ h => h) (Or.inl ⟨by rfl, ?_⟩) hS ?_; rotate_left; focus (intro w' s0; go_simp <;> try with_reducible rfl))
  try simp only [Act.put, List.setIfInBounds_toArray, List.set_cons_zero, List.set_cons_succ]
  (refine wpAnyH_take (i := 11) (oi := { dst := some 26, op := Op.extract (Operand.tmp 15) 1, type := 22, pos := "bus.go:60", after := #[{ on := 9, ground := Ground.data }, { on := 14, ground := Ground.gcOnly Departure.lateStores }], guard := none }) (v := ?_) rfl (by kernel_rfl) (by kernel_rfl) (by kernel_rfl) (fun _ _ _ h => h) (Or.inl ⟨by rfl, ?_⟩) hS ?_; rotate_left; focus (intro w' s0; go_simp <;> try with_reducible rfl))
  try simp only [Act.put, List.setIfInBounds_toArray, List.set_cons_zero, List.set_cons_succ]
  (refine wpAnyH_take (i := 12) (oi := { dst := some 27, op := Op.extract (Operand.tmp 15) 2, type := 22, pos := "bus.go:60", after := #[{ on := 9, ground := Ground.data }, { on := 15, ground := Ground.gcOnly Departure.lateStores }], guard := none }) (v := ?_) rfl (by kernel_rfl) (by kernel_rfl) (by kernel_rfl) (fun _ _ _ h => h) (Or.inl ⟨by rfl, ?_⟩) hS ?_; rotate_left; focus (intro w' s0; go_simp <;> try with_reducible rfl))
  try simp only [Act.put, List.setIfInBounds_toArray, List.set_cons_zero, List.set_cons_succ]
  (refine wpAnyH_take (i := 13) (oi := { dst := some 28, op := Op.extract (Operand.tmp 15) 3, type := 4, pos := "bus.go:60", after := #[{ on := 9, ground := Ground.data }, { on := 16, ground := Ground.gcOnly Departure.lateStores }], guard := none }) (v := ?_) rfl (by kernel_rfl) (by kernel_rfl) (by kernel_rfl) (fun _ _ _ h => h) (Or.inl ⟨by rfl, ?_⟩) hS ?_; rotate_left; focus (intro w' s0; go_simp <;> try with_reducible rfl))
  try simp only [Act.put, List.setIfInBounds_toArray, List.set_cons_zero, List.set_cons_succ]
  (refine wpAnyH_take (i := 14) (oi := { dst := some 6, op := Op.assign (Operand.tmp 25), type := 4, pos := "bus.go:60", after := #[{ on := 10, ground := Ground.data }, { on := 8, ground := Ground.chain }, { on := 0, ground := Ground.phase }, { on := 1, ground := Ground.phase }, { on := 2, ground := Ground.phase }, { on := 3, ground := Ground.phase }, { on := 4, ground := Ground.phase }, { on := 5, ground := Ground.phase }, { on := 6, ground := Ground.phase }, { on := 7, ground := Ground.phase }, { on := 8, ground := Ground.phase }, { on := 9, ground := Ground.phase }, { on := 10, ground := Ground.phase }, { on := 11, ground := Ground.textOnly Departure.lateStores }, { on := 12, ground := Ground.textOnly Departure.lateStores }, { on := 13, ground := Ground.textOnly Departure.lateStores }], guard := none }) (v := ?_) rfl (by kernel_rfl) (by kernel_rfl) (by kernel_rfl) (fun _ _ _ h => h) (Or.inl ⟨by rfl, ?_⟩) hS ?_; rotate_left; focus (intro w' s0; go_simp <;> try with_reducible rfl))
  try simp only [Act.put, List.setIfInBounds_toArray, List.set_cons_zero, List.set_cons_succ]
  (refine wpAnyH_take (i := 15) (oi := { dst := some 7, op := Op.assign (Operand.tmp 26), type := 22, pos := "bus.go:60", after := #[{ on := 11, ground := Ground.data }, { on := 14, ground := Ground.chain }, { on := 0, ground := Ground.phase }, { on := 1, ground := Ground.phase }, { on := 2, ground := Ground.phase }, { on := 3, ground := Ground.phase }, { on := 4, ground := Ground.phase }, { on := 5, ground := Ground.phase }, { on := 6, ground := Ground.phase }, { on := 7, ground := Ground.phase }, { on := 8, ground := Ground.phase }, { on := 9, ground := Ground.phase }, { on := 10, ground := Ground.phase }, { on := 11, ground := Ground.phase }, { on := 12, ground := Ground.textOnly Departure.lateStores }, { on := 13, ground := Ground.textOnly Departure.lateStores }, { on := 14, ground := Ground.phase }], guard := none }) (v := ?_) rfl (by kernel_rfl) (by kernel_rfl) (by kernel_rfl) (fun _ _ _ h => h) (Or.inl ⟨by rfl, ?_⟩) hS ?_; rotate_left; focus (intro w' s0; go_simp <;> try with_reducible rfl))
  try simp only [Act.put, List.setIfInBounds_toArray, List.set_cons_zero, List.set_cons_succ]
  (refine wpAnyH_take (i := 16) (oi := { dst := some 8, op := Op.assign (Operand.tmp 27), type := 22, pos := "bus.go:60", after := #[{ on := 12, ground := Ground.data }, { on := 15, ground := Ground.chain }, { on := 0, ground := Ground.phase }, { on := 1, ground := Ground.phase }, { on := 2, ground := Ground.phase }, { on := 3, ground := Ground.phase }, { on := 4, ground := Ground.phase }, { on := 5, ground := Ground.phase }, { on := 6, ground := Ground.phase }, { on := 7, ground := Ground.phase }, { on := 8, ground := Ground.phase }, { on := 9, ground := Ground.phase }, { on := 10, ground := Ground.phase }, { on := 11, ground := Ground.phase }, { on := 12, ground := Ground.phase }, { on := 13, ground := Ground.textOnly Departure.lateStores }, { on := 14, ground := Ground.phase }, { on := 15, ground := Ground.phase }], guard := none }) (v := ?_) rfl (by kernel_rfl) (by kernel_rfl) (by kernel_rfl) (fun _ _ _ h => h) (Or.inl ⟨by rfl, ?_⟩) hS ?_; rotate_left; focus (intro w' s0; go_simp <;> try with_reducible rfl))
  try simp only [Act.put, List.setIfInBounds_toArray, List.set_cons_zero, List.set_cons_succ]
  (refine wpAnyH_take (i := 17) (oi := { dst := some 9, op := Op.assign (Operand.tmp 28), type := 4, pos := "bus.go:60", after := #[{ on := 13, ground := Ground.data }, { on := 16, ground := Ground.chain }, { on := 0, ground := Ground.phase }, { on := 1, ground := Ground.phase }, { on := 2, ground := Ground.phase }, { on := 3, ground := Ground.phase }, { on := 4, ground := Ground.phase }, { on := 5, ground := Ground.phase }, { on := 6, ground := Ground.phase }, { on := 7, ground := Ground.phase }, { on := 8, ground := Ground.phase }, { on := 9, ground := Ground.phase }, { on := 10, ground := Ground.phase }, { on := 11, ground := Ground.phase }, { on := 12, ground := Ground.phase }, { on := 13, ground := Ground.phase }, { on := 14, ground := Ground.phase }, { on := 15, ground := Ground.phase }, { on := 16, ground := Ground.phase }], guard := none }) (v := ?_) rfl (by kernel_rfl) (by kernel_rfl) (by kernel_rfl) (fun _ _ _ h => h) (Or.inl ⟨by rfl, ?_⟩) hS ?_; rotate_left; focus (intro w' s0; go_simp <;> try with_reducible rfl))
  try simp only [Act.put, List.setIfInBounds_toArray, List.set_cons_zero, List.set_cons_succ]
  refine wpAnyH_done (by kernel_rfl) ?_ _
  obtain ⟨q0, q1, q2, q3, q4, q5, q6, q7, q8, z0, z1, z2, z3, z4, z5, z6, z7, z8⟩ := hS.row.c9
  go_wp2
  refine bodyPost_ret (v := .tuple #[.agg #[.bool false, .int .i64 0, .int .i64 0, .int .i64 0, .int .i64 0, .int .i64 0, .int .i64 0, .bool false, .int .u64 0], .bool false]) ?_ rfl ⟨rfl, (fun F => ⟨HM.out.fr F (fun _ _ _ h => h), F.mono (fun _ _ h => h.elim)⟩) (?_ : Fr w _ (fun _ => False))⟩
  · simp [results, Try.results9, go_sem, q0, q1, q2, q3, q4, q5, q6, q7, q8]
  · repeat' (first | with_reducible refine Fr.setCell ?_ (Or.inl (Nat.le_refl _)) _)
    exact hS.fr
set_option maxHeartbeats 8000000 in
theorem jlc_yes {w : World} {lo hi g a1 a2 a3 a4 a5 b1 b2 b3 b4 b5 : Nat} {S : BS} (m : BI w lo hi g a1 a2 a3 a4 a5 b1 b2 b3 b4 b5 S) (pa : Int) (p0 : 0 ≤ pa) (p1 : pa < 18446744073709551616) (hi16 : inJ pa 16 2147483648 S.B.length = true) (hk : cpO S.B.length (pa - 2147483648) = true) (tg : Bool) (ad me : Int) (ht : cpT S.T S.B.length (pa - 2147483648) = tg) (hd : cpA S.B (pa - 2147483648) = ad) (he : cpM S.B (pa - 2147483648) = me) (m0 : 0 ≤ me) (m1 : me < 18446744073709551616) : Calls Try.prog 9 #[.pointer (some ⟨g, 0, none⟩), .int .u64 pa] w fun e w' => e = .returned (.tuple #[.agg #[.bool tg, .int .i64 (fP (xk me)), .int .i64 (fY (xk me)), .int .i64 (fM (xk me)), .int .i64 (fE (xk me)), .int .i64 (fB (xk me)), .int .i64 (fT (xk me)), .bool (fG (xk me)), .int .u64 ad], .bool true]) ∧ BI w' lo hi g a1 a2 a3 a4 a5 b1 b2 b3 b4 b5 S ∧ Fr w w' (Rg lo hi) := by
  have hl := m.ram.lim
  have hx : 0 ≤ pa - 2147483648 ∧ pa - 2147483648 < 4294967296 := by simp [inJ] at hi16; omega
  obtain ⟨off, ho⟩ : ∃ off, pa - 2147483648 = off := ⟨_, rfl⟩
  have HB := Lib.hid (show 2147483648 ≤ pa ∧ pa < 2147483648 + 9223372036854775808 from by omega)
  rw [ho] at hx hk ht hd he
  obtain ⟨n, hn⟩ : ∃ n, (S.B.length : Int) = n := ⟨_, rfl⟩
  have HN := Lib.hid hn
  have HE := Lib.hid ho
  have HL : ∀ (u : World), BI u lo hi g a1 a2 a3 a4 a5 b1 b2 b3 b4 b5 S → Calls Try.prog 28 #[.pointer (some ⟨b1, 0, none⟩), .int .i64 off] u fun e w' => e = .returned (.tuple #[.bool tg, .int .u64 ad, .int .u64 me, .bool true]) ∧ Below u.heap.size u w' := fun u x => (cloadcap_w x.ram off (by omega) (by omega)).mono fun e w' y => ⟨by rw [y.1, ht, hd, he, hk], y.2⟩
  have HL := Lib.hid HL
  have HO := Lib.hid (show pa - 2147483648 = off from ho)
  have C0 := Lib.hid (CJ.new m)
  have HI := Lib.hid (jinram_i C0.out.bi pa 16 true hi16 p0 p1 (by decide) (by decide))
  have HM := Lib.hid m
  clear m hi16 hl hk ht hd he hn ho
  go_enter Try.func9, Try.ntmps9
  go_upto_region 3 with (go_at_call 14; (with_reducible refine HI.out.mono ?_); rintro e' w1 ⟨rfl, qk⟩; have C1 := Lib.hid (C0.out.kp qk); clear qk)
  refine wp_region_held_drew (S := fun w' => CJ w w' lo hi g a1 a2 a3 a4 a5 b1 b2 b3 b4 b5 S) (by kernel_rfl) (C1.out.drew) (fun hS => ?_)
  (refine wpAnyH_take (i := 0) (oi := { dst := some 16, op := Op.move (Operand.tmp 0), type := 26, pos := "bus.go:60", after := #[], guard := none }) (v := ?_) rfl (by kernel_rfl) (by kernel_rfl) (by kernel_rfl) (fun _ _ _ h => h) (Or.inl ⟨by rfl, ?_⟩) hS ?_; rotate_left; focus (intro w' s0; go_simp <;> try with_reducible rfl))
  try simp only [Act.put, List.setIfInBounds_toArray, List.set_cons_zero, List.set_cons_succ]
  (refine wpAnyH_take (i := 1) (oi := { dst := some 17, op := Op.nilCheck (Operand.tmp 16), type := 0, pos := "bus.go:60", after := #[{ on := 0, ground := Ground.data }], guard := none }) (v := ?_) rfl (by kernel_rfl) (by kernel_rfl) (by kernel_rfl) (fun _ _ _ h => h) (Or.inl ⟨by rfl, ?_⟩) hS ?_; rotate_left; focus (intro w' s0; go_simp <;> try with_reducible rfl))
  try simp only [Act.put, List.setIfInBounds_toArray, List.set_cons_zero, List.set_cons_succ]
  (refine wpAnyH_take (i := 2) (oi := { dst := some 18, op := Op.fieldAddr 48 (Operand.tmp 17) 0, type := 0, pos := "bus.go:60", after := #[{ on := 1, ground := Ground.data }], guard := none }) (v := ?_) rfl (by kernel_rfl) (by kernel_rfl) (by kernel_rfl) (fun _ _ _ h => h) (Or.inl ⟨by rfl, ?_⟩) hS ?_; rotate_left; focus (intro w' s0; go_simp <;> try with_reducible rfl))
  try simp only [Act.put, List.setIfInBounds_toArray, List.set_cons_zero, List.set_cons_succ]
  (refine wpAnyH_take (i := 3) (oi := { dst := some 19, op := Op.load 42 (Operand.tmp 18), type := 42, pos := "bus.go:60", after := #[{ on := 2, ground := Ground.data }], guard := none }) (v := ?_) rfl (by kernel_rfl) (by kernel_rfl) (by kernel_rfl) (fun _ _ _ h => h) (Or.inl ⟨by rfl, ?_⟩) hS ?_; rotate_left; focus (intro w' s0; have c0 := s0.bi.blk.at_ 0 _ rfl; go_simp <;> try with_reducible rfl))
  try simp only [Act.put, List.setIfInBounds_toArray, List.set_cons_zero, List.set_cons_succ]
  (refine wpAnyH_take (i := 4) (oi := { dst := some 20, op := Op.move (Operand.tmp 0), type := 26, pos := "bus.go:60", after := #[], guard := none }) (v := ?_) rfl (by kernel_rfl) (by kernel_rfl) (by kernel_rfl) (fun _ _ _ h => h) (Or.inl ⟨by rfl, ?_⟩) hS ?_; rotate_left; focus (intro w' s0; go_simp <;> try with_reducible rfl))
  try simp only [Act.put, List.setIfInBounds_toArray, List.set_cons_zero, List.set_cons_succ]
  (refine wpAnyH_take (i := 6) (oi := { dst := some 22, op := Op.move (Operand.tmp 1), type := 22, pos := "bus.go:60", after := #[], guard := none }) (v := ?_) rfl (by kernel_rfl) (by kernel_rfl) (by kernel_rfl) (fun _ _ _ h => h) (Or.inl ⟨by rfl, ?_⟩) hS ?_; rotate_left; focus (intro w' s0; go_simp <;> try with_reducible rfl))
  try simp only [Act.put, List.setIfInBounds_toArray, List.set_cons_zero, List.set_cons_succ]
  refine wpAnyH_ready (rs := [5]) (by kernel_rfl) (by simp) ?_
  refine AllReadyH.cons (o := { dst := some 21, op := Op.call { callee := Callee.value (Operand.func 26), args := #[Operand.tmp 20], argTypes := #[26] }, type := 63, pos := "bus.go:60", after := #[{ on := 4, ground := Ground.data }], guard := none }) rfl (fun K hK => ?_) AllReadyH.nil
  refine take_if (by rfl) ?_
  go_simp
  (with_reducible refine (jmem_w hS.bi n HN.out).mono ?_)
  rintro e' x1 ⟨rfl, qk⟩
  have hS2 : CJ w x1 lo hi g a1 a2 a3 a4 a5 b1 b2 b3 b4 b5 S := hS.kp qk
  refine hK.out _ _ hS2 (fun hS => ?_)
  clear hK K hS2
  try simp only [Act.put, List.setIfInBounds_toArray, List.set_cons_zero, List.set_cons_succ]
  refine wpAnyH_ready (rs := [7]) (by kernel_rfl) (by simp) ?_
  refine AllReadyH.cons (o := { dst := some 23, op := Op.call { callee := Callee.value (Operand.func 27), args := #[Operand.tmp 21, Operand.tmp 22], argTypes := #[63, 22] }, type := 3, pos := "bus.go:60", after := #[{ on := 5, ground := Ground.data }, { on := 6, ground := Ground.data }, { on := 5, ground := Ground.chain }], guard := none }) rfl (fun K hK => ?_) AllReadyH.nil
  refine take_if (by rfl) ?_
  go_simp
  (with_reducible refine (jbehind_w 2147483648 n pa (by decide) HB.out.1 HB.out.2 p1 _).mono ?_)
  rintro e' x2 ⟨rfl, qk⟩
  have hS2 : CJ w x2 lo hi g a1 a2 a3 a4 a5 b1 b2 b3 b4 b5 S := hS.kp qk
  rw [HO.out]
  refine hK.out _ _ hS2 (fun hS => ?_)
  clear hK K hS2
  try simp only [Act.put, List.setIfInBounds_toArray, List.set_cons_zero, List.set_cons_succ]
  refine wpAnyH_ready (rs := [8]) (by kernel_rfl) (by simp) ?_
  refine AllReadyH.cons (o := { dst := some 24, op := Op.call { callee := Callee.value (Operand.func 28), args := #[Operand.tmp 19, Operand.tmp 23], argTypes := #[42, 3] }, type := 66, pos := "bus.go:60", after := #[{ on := 3, ground := Ground.data }, { on := 7, ground := Ground.data }, { on := 7, ground := Ground.chain }], guard := none }) rfl (fun K hK => ?_) AllReadyH.nil
  refine take_if (by rfl) ?_
  go_simp
  (with_reducible refine (HL.out _ hS.bi).mono ?_)
  rintro e' x3 ⟨rfl, qk⟩
  have hS2 : CJ w x3 lo hi g a1 a2 a3 a4 a5 b1 b2 b3 b4 b5 S := hS.below qk
  refine hK.out _ _ hS2 (fun hS => ?_)
  clear hK K hS2
  try simp only [Act.put, List.setIfInBounds_toArray, List.set_cons_zero, List.set_cons_succ]
  (refine wpAnyH_take (i := 9) (oi := { dst := some 15, op := Op.move (Operand.tmp 24), type := 66, pos := "bus.go:60", after := #[{ on := 8, ground := Ground.data }], guard := none }) (v := ?_) rfl (by kernel_rfl) (by kernel_rfl) (by kernel_rfl) (fun _ _ _ h => h) (Or.inl ⟨by rfl, ?_⟩) hS ?_; rotate_left; focus (intro w' s0; go_simp <;> try with_reducible rfl))
  try simp only [Act.put, List.setIfInBounds_toArray, List.set_cons_zero, List.set_cons_succ]
  (refine wpAnyH_take (i := 10) (oi := { dst := some 25, op := Op.extract (Operand.tmp 15) 0, type := 4, pos := "bus.go:60", after := #[{ on := 9, ground := Ground.data }], guard := none }) (v := ?_) rfl (by kernel_rfl) (by kernel_rfl) (by kernel_rfl) (fun _ _ _ h => h) (Or.inl ⟨by rfl, ?_⟩) hS ?_; rotate_left; focus (intro w' s0; go_simp <;> try with_reducible rfl))
  try simp only [Act.put, List.setIfInBounds_toArray, List.set_cons_zero, List.set_cons_succ]
  (refine wpAnyH_take (i := 11) (oi := { dst := some 26, op := Op.extract (Operand.tmp 15) 1, type := 22, pos := "bus.go:60", after := #[{ on := 9, ground := Ground.data }, { on := 14, ground := Ground.gcOnly Departure.lateStores }], guard := none }) (v := ?_) rfl (by kernel_rfl) (by kernel_rfl) (by kernel_rfl) (fun _ _ _ h => h) (Or.inl ⟨by rfl, ?_⟩) hS ?_; rotate_left; focus (intro w' s0; go_simp <;> try with_reducible rfl))
  try simp only [Act.put, List.setIfInBounds_toArray, List.set_cons_zero, List.set_cons_succ]
  (refine wpAnyH_take (i := 12) (oi := { dst := some 27, op := Op.extract (Operand.tmp 15) 2, type := 22, pos := "bus.go:60", after := #[{ on := 9, ground := Ground.data }, { on := 15, ground := Ground.gcOnly Departure.lateStores }], guard := none }) (v := ?_) rfl (by kernel_rfl) (by kernel_rfl) (by kernel_rfl) (fun _ _ _ h => h) (Or.inl ⟨by rfl, ?_⟩) hS ?_; rotate_left; focus (intro w' s0; go_simp <;> try with_reducible rfl))
  try simp only [Act.put, List.setIfInBounds_toArray, List.set_cons_zero, List.set_cons_succ]
  (refine wpAnyH_take (i := 13) (oi := { dst := some 28, op := Op.extract (Operand.tmp 15) 3, type := 4, pos := "bus.go:60", after := #[{ on := 9, ground := Ground.data }, { on := 16, ground := Ground.gcOnly Departure.lateStores }], guard := none }) (v := ?_) rfl (by kernel_rfl) (by kernel_rfl) (by kernel_rfl) (fun _ _ _ h => h) (Or.inl ⟨by rfl, ?_⟩) hS ?_; rotate_left; focus (intro w' s0; go_simp <;> try with_reducible rfl))
  try simp only [Act.put, List.setIfInBounds_toArray, List.set_cons_zero, List.set_cons_succ]
  (refine wpAnyH_take (i := 14) (oi := { dst := some 6, op := Op.assign (Operand.tmp 25), type := 4, pos := "bus.go:60", after := #[{ on := 10, ground := Ground.data }, { on := 8, ground := Ground.chain }, { on := 0, ground := Ground.phase }, { on := 1, ground := Ground.phase }, { on := 2, ground := Ground.phase }, { on := 3, ground := Ground.phase }, { on := 4, ground := Ground.phase }, { on := 5, ground := Ground.phase }, { on := 6, ground := Ground.phase }, { on := 7, ground := Ground.phase }, { on := 8, ground := Ground.phase }, { on := 9, ground := Ground.phase }, { on := 10, ground := Ground.phase }, { on := 11, ground := Ground.textOnly Departure.lateStores }, { on := 12, ground := Ground.textOnly Departure.lateStores }, { on := 13, ground := Ground.textOnly Departure.lateStores }], guard := none }) (v := ?_) rfl (by kernel_rfl) (by kernel_rfl) (by kernel_rfl) (fun _ _ _ h => h) (Or.inl ⟨by rfl, ?_⟩) hS ?_; rotate_left; focus (intro w' s0; go_simp <;> try with_reducible rfl))
  try simp only [Act.put, List.setIfInBounds_toArray, List.set_cons_zero, List.set_cons_succ]
  (refine wpAnyH_take (i := 15) (oi := { dst := some 7, op := Op.assign (Operand.tmp 26), type := 22, pos := "bus.go:60", after := #[{ on := 11, ground := Ground.data }, { on := 14, ground := Ground.chain }, { on := 0, ground := Ground.phase }, { on := 1, ground := Ground.phase }, { on := 2, ground := Ground.phase }, { on := 3, ground := Ground.phase }, { on := 4, ground := Ground.phase }, { on := 5, ground := Ground.phase }, { on := 6, ground := Ground.phase }, { on := 7, ground := Ground.phase }, { on := 8, ground := Ground.phase }, { on := 9, ground := Ground.phase }, { on := 10, ground := Ground.phase }, { on := 11, ground := Ground.phase }, { on := 12, ground := Ground.textOnly Departure.lateStores }, { on := 13, ground := Ground.textOnly Departure.lateStores }, { on := 14, ground := Ground.phase }], guard := none }) (v := ?_) rfl (by kernel_rfl) (by kernel_rfl) (by kernel_rfl) (fun _ _ _ h => h) (Or.inl ⟨by rfl, ?_⟩) hS ?_; rotate_left; focus (intro w' s0; go_simp <;> try with_reducible rfl))
  try simp only [Act.put, List.setIfInBounds_toArray, List.set_cons_zero, List.set_cons_succ]
  (refine wpAnyH_take (i := 16) (oi := { dst := some 8, op := Op.assign (Operand.tmp 27), type := 22, pos := "bus.go:60", after := #[{ on := 12, ground := Ground.data }, { on := 15, ground := Ground.chain }, { on := 0, ground := Ground.phase }, { on := 1, ground := Ground.phase }, { on := 2, ground := Ground.phase }, { on := 3, ground := Ground.phase }, { on := 4, ground := Ground.phase }, { on := 5, ground := Ground.phase }, { on := 6, ground := Ground.phase }, { on := 7, ground := Ground.phase }, { on := 8, ground := Ground.phase }, { on := 9, ground := Ground.phase }, { on := 10, ground := Ground.phase }, { on := 11, ground := Ground.phase }, { on := 12, ground := Ground.phase }, { on := 13, ground := Ground.textOnly Departure.lateStores }, { on := 14, ground := Ground.phase }, { on := 15, ground := Ground.phase }], guard := none }) (v := ?_) rfl (by kernel_rfl) (by kernel_rfl) (by kernel_rfl) (fun _ _ _ h => h) (Or.inl ⟨by rfl, ?_⟩) hS ?_; rotate_left; focus (intro w' s0; go_simp <;> try with_reducible rfl))
  try simp only [Act.put, List.setIfInBounds_toArray, List.set_cons_zero, List.set_cons_succ]
  (refine wpAnyH_take (i := 17) (oi := { dst := some 9, op := Op.assign (Operand.tmp 28), type := 4, pos := "bus.go:60", after := #[{ on := 13, ground := Ground.data }, { on := 16, ground := Ground.chain }, { on := 0, ground := Ground.phase }, { on := 1, ground := Ground.phase }, { on := 2, ground := Ground.phase }, { on := 3, ground := Ground.phase }, { on := 4, ground := Ground.phase }, { on := 5, ground := Ground.phase }, { on := 6, ground := Ground.phase }, { on := 7, ground := Ground.phase }, { on := 8, ground := Ground.phase }, { on := 9, ground := Ground.phase }, { on := 10, ground := Ground.phase }, { on := 11, ground := Ground.phase }, { on := 12, ground := Ground.phase }, { on := 13, ground := Ground.phase }, { on := 14, ground := Ground.phase }, { on := 15, ground := Ground.phase }, { on := 16, ground := Ground.phase }], guard := none }) (v := ?_) rfl (by kernel_rfl) (by kernel_rfl) (by kernel_rfl) (fun _ _ _ h => h) (Or.inl ⟨by rfl, ?_⟩) hS ?_; rotate_left; focus (intro w' s0; go_simp <;> try with_reducible rfl))
  try simp only [Act.put, List.setIfInBounds_toArray, List.set_cons_zero, List.set_cons_succ]
  refine wpAnyH_done (by kernel_rfl) ?_ _
  obtain ⟨q0, q1, q2, q3, q4, q5, q6, q7, q8, z0, z1, z2, z3, z4, z5, z6, z7, z8⟩ := hS.row.c9
  have C3 := Lib.hid hS
  clear hS q0 z0 q1 z1 q2 z2 q3 z3 q4 z4 q5 z5 q6 z6 q7 z7 q8 z8
  go_wp2_with (go_at_call 16; (with_reducible refine (unpack_w tg ad me m0 m1 _).mono ?_); rintro e' w4 ⟨rfl, qk⟩; have C4 := Lib.hid (C3.out.kp qk); obtain ⟨q0, q1, q2, q3, q4, q5, q6, q7, q8, z0, z1, z2, z3, z4, z5, z6, z7, z8⟩ := C4.out.row.c9; clear qk)
  refine bodyPost_ret (v := .tuple #[.agg #[.bool tg, .int .i64 (fP (xk me)), .int .i64 (fY (xk me)), .int .i64 (fM (xk me)), .int .i64 (fE (xk me)), .int .i64 (fB (xk me)), .int .i64 (fT (xk me)), .bool (fG (xk me)), .int .u64 ad], .bool true]) ?_ rfl ⟨rfl, (fun F => ⟨HM.out.fr F (fun _ _ _ h => h), F.mono (fun _ _ h => h.elim)⟩) (?_ : Fr w _ (fun _ => False))⟩
  · simp [results, Try.results9, go_sem, q0, q1, q2, q3, q4, q5, q6, q7, q8]
  · repeat' (first | with_reducible refine Fr.setCell ?_ (Or.inl (Nat.le_refl _)) _)
    exact C4.out.fr
set_option maxHeartbeats 8000000 in
theorem jsc_out {w : World} {lo hi g a1 a2 a3 a4 a5 b1 b2 b3 b4 b5 : Nat} {S : BS} (m : BI w lo hi g a1 a2 a3 a4 a5 b1 b2 b3 b4 b5 S) (pa : Int) (p0 : 0 ≤ pa) (p1 : pa < 18446744073709551616) (hi16 : inJ pa 16 2147483648 S.B.length = false) (tg : Bool) (pe ty mo ex b t : Int) (bg : Bool) (a : Int) (hR : RightP pe ty mo ex b t bg) (a0 : 0 ≤ a) (a1' : a < 18446744073709551616) : Calls Try.prog 8 #[.pointer (some ⟨g, 0, none⟩), .int .u64 pa, .agg #[.bool tg, .int .i64 pe, .int .i64 ty, .int .i64 mo, .int .i64 ex, .int .i64 b, .int .i64 t, .bool bg, .int .u64 a]] w fun e w' => e = .returned (.bool (false)) ∧ BI w' lo hi g a1 a2 a3 a4 a5 b1 b2 b3 b4 b5 S ∧ Fr w w' (Rg lo hi) := by
  have hl := m.ram.lim
  have I0 := Lib.hid (m.kp ((Kp.refl w).allocs #[.bool tg, .int .i64 pe, .int .i64 ty, .int .i64 mo, .int .i64 ex, .int .i64 b, .int .i64 t, .bool bg, .int .u64 a] 24))
  have F0 := Lib.hid (Fr.of_kp ((Kp.refl w).allocs #[.bool tg, .int .i64 pe, .int .i64 ty, .int .i64 mo, .int .i64 ex, .int .i64 b, .int .i64 t, .bool bg, .int .u64 a] 24) (fun _ => False))
  have R0 := Lib.hid (Blk.new w 24 [.bool tg, .int .i64 pe, .int .i64 ty, .int .i64 mo, .int .i64 ex, .int .i64 b, .int .i64 t, .bool bg, .int .u64 a])
  have HI := Lib.hid (jinram_i I0.out pa 16 false hi16 p0 p1 (by decide) (by decide))
  have HM := Lib.hid m
  clear m hi16 hl hR
  go_enter Try.func8, Try.ntmps8
  go_wp2_with (go_at_call 14; (with_reducible refine HI.out.mono ?_); rintro e' w1 ⟨rfl, qk⟩; have F1 := Lib.hid (F0.out.kp qk); clear qk)
  go_ret
  exact ⟨rfl, HM.out.fr F1.out (fun _ _ _ h => h), F1.out.mono (fun _ _ h => h.elim)⟩
set_option maxHeartbeats 8000000 in
theorem jsc_in {w : World} {lo hi g a1 a2 a3 a4 a5 b1 b2 b3 b4 b5 : Nat} {S : BS} (m : BI w lo hi g a1 a2 a3 a4 a5 b1 b2 b3 b4 b5 S) (pa : Int) (p0 : 0 ≤ pa) (p1 : pa < 18446744073709551616) (hi16 : inJ pa 16 2147483648 S.B.length = true) (tg : Bool) (pe ty mo ex b t : Int) (bg : Bool) (a : Int) (hR : RightP pe ty mo ex b t bg) (a0 : 0 ≤ a) (a1' : a < 18446744073709551616) : Calls Try.prog 8 #[.pointer (some ⟨g, 0, none⟩), .int .u64 pa, .agg #[.bool tg, .int .i64 pe, .int .i64 ty, .int .i64 mo, .int .i64 ex, .int .i64 b, .int .i64 t, .bool bg, .int .u64 a]] w fun e w' => e = .returned (.bool (cpO S.B.length (pa - 2147483648))) ∧ BI w' lo hi g a1 a2 a3 a4 a5 b1 b2 b3 b4 b5 { S with B := cB S.B (pa - 2147483648) a (xk (bitsV pe ty mo ex b t bg)), T := cT S.B.length S.T (pa - 2147483648) tg } ∧ Fr w w' (Rg lo hi) := by
  have hl := m.ram.lim
  have hx : 0 ≤ pa - 2147483648 ∧ pa - 2147483648 < 4294967296 := by simp [inJ] at hi16; omega
  have HB := Lib.hid (show 2147483648 ≤ pa ∧ pa < 2147483648 + 9223372036854775808 from by omega)
  obtain ⟨off, ho⟩ : ∃ off, pa - 2147483648 = off := ⟨_, rfl⟩
  rw [ho] at hx ⊢
  obtain ⟨n, hn⟩ : ∃ n, (S.B.length : Int) = n := ⟨_, rfl⟩
  have HN := Lib.hid hn
  have HO := Lib.hid ho
  have HP := Lib.hid (pack_w tg pe ty mo ex b t bg a hR)
  have hd := xk_bd (bitsV pe ty mo ex b t bg)
  obtain ⟨d, he⟩ : ∃ d, (xk (bitsV pe ty mo ex b t bg)) = d := ⟨_, rfl⟩
  rw [he] at HP hd ⊢
  have hgl : ¬ Rg lo a1 g ∧ ¬ Rg lo a1 w.heap.size := ⟨fun x => by have := x.2; have := m.l1; have := m.l2; have := m.l3; have := m.l4; have := m.l5; omega, fun x => by have := x.2; have := m.l1; have := m.l2; have := m.l3; have := m.l4; have := m.l5; have := m.gh; have := m.top; omega⟩
  have HG := Lib.hid hgl
  obtain ⟨ok, hk⟩ : ∃ ok, cpO S.B.length off = ok := ⟨_, rfl⟩
  have HSC : ∀ (u : World), BI u lo hi g a1 a2 a3 a4 a5 b1 b2 b3 b4 b5 S → Calls Try.prog 25 #[.pointer (some ⟨b1, 0, none⟩), .int .i64 off, .bool tg, .int .u64 a, .int .u64 d] u fun e w' => e = .returned (.bool ok) ∧ Ob w' lo a1 b1 (cB S.B off a d) (cT S.B.length S.T off tg) ∧ Fr u w' (Rg lo a1) := fun u x => hk ▸ cstorecap_w x.ram off tg a d (by omega) (by omega) a0 a1' hd.1 hd.2
  have HSC := Lib.hid HSC
  rw [hk]
  have I0 := Lib.hid (m.kp ((Kp.refl w).allocs #[.bool tg, .int .i64 pe, .int .i64 ty, .int .i64 mo, .int .i64 ex, .int .i64 b, .int .i64 t, .bool bg, .int .u64 a] 24))
  have F0 := Lib.hid (Fr.of_kp ((Kp.refl w).allocs #[.bool tg, .int .i64 pe, .int .i64 ty, .int .i64 mo, .int .i64 ex, .int .i64 b, .int .i64 t, .bool bg, .int .u64 a] 24) (fun _ => False))
  have R0 := Lib.hid (Blk.new w 24 [.bool tg, .int .i64 pe, .int .i64 ty, .int .i64 mo, .int .i64 ex, .int .i64 b, .int .i64 t, .bool bg, .int .u64 a])
  have HI := Lib.hid (jinram_i I0.out pa 16 true hi16 p0 p1 (by decide) (by decide))
  have HM := Lib.hid m
  clear m hi16 hl hR hn ho hgl he hk
  go_enter Try.func8, Try.ntmps8
  go_upto_region 4 with (first | (go_at_call 14; (with_reducible refine HI.out.mono ?_); rintro e' w1 ⟨rfl, qk⟩; have I1 := Lib.hid (I0.out.kp qk); have F1 := Lib.hid (F0.out.kp qk); have R1 := Lib.hid (R0.out.fr (Fr.of_kp qk (fun _ => False)) (fun h => h)); obtain ⟨q0, q1, q2, q3, q4, q5, q6, q7, q8, z0, z1, z2, z3, z4, z5, z6, z7, z8⟩ := R1.out.c9; clear qk) | (go_at_call 24; (with_reducible refine (HP.out _).mono ?_); rintro e' w2 ⟨rfl, qk⟩; have I2 := Lib.hid (I1.out.kp qk); have F2 := Lib.hid (F1.out.kp qk); have R2 := Lib.hid (R1.out.fr (Fr.of_kp qk (fun _ => False)) (fun h => h)); clear qk q0 q1 q2 q3 q4 q5 q6 q7 q8 z0 z1 z2 z3 z4 z5 z6 z7 z8))
  refine wp_region_held_drew (S := fun w' => Blk w' g 48 [.pointer (some ⟨b1, 0, none⟩), .pointer (some ⟨b2, 0, none⟩), .pointer (some ⟨b3, 0, none⟩), .pointer (some ⟨b4, 0, none⟩), .pointer (some ⟨b5, 0, none⟩)] ∧ Blk w' w.heap.size 24 [.bool tg, .int .i64 pe, .int .i64 ty, .int .i64 mo, .int .i64 ex, .int .i64 b, .int .i64 t, .bool bg, .int .u64 a]) (by kernel_rfl) (⟨I2.out.blk, R2.out⟩) (fun hS => ?_)
  have I3 := Lib.hid (I2.out.kp (Kp.refl w2).drew)
  have F3 := Lib.hid F2.out.drew
  generalize w2.drew = g0 at hS I3 F3 ⊢
  (refine wpAnyH_take (i := 0) (oi := { dst := some 18, op := Op.move (Operand.tmp 0), type := 26, pos := "bus.go:73", after := #[], guard := none }) (v := ?_) rfl (by kernel_rfl) (by kernel_rfl) (by kernel_rfl) (fun _ _ _ h => h) (Or.inl ⟨by rfl, ?_⟩) hS ?_; rotate_left; focus (intro w' s0; go_simp <;> try with_reducible rfl))
  try simp only [Act.put, List.setIfInBounds_toArray, List.set_cons_zero, List.set_cons_succ]
  (refine wpAnyH_take (i := 1) (oi := { dst := some 19, op := Op.nilCheck (Operand.tmp 18), type := 0, pos := "bus.go:73", after := #[{ on := 0, ground := Ground.data }], guard := none }) (v := ?_) rfl (by kernel_rfl) (by kernel_rfl) (by kernel_rfl) (fun _ _ _ h => h) (Or.inl ⟨by rfl, ?_⟩) hS ?_; rotate_left; focus (intro w' s0; go_simp <;> try with_reducible rfl))
  try simp only [Act.put, List.setIfInBounds_toArray, List.set_cons_zero, List.set_cons_succ]
  (refine wpAnyH_take (i := 2) (oi := { dst := some 20, op := Op.fieldAddr 48 (Operand.tmp 19) 0, type := 0, pos := "bus.go:73", after := #[{ on := 1, ground := Ground.data }], guard := none }) (v := ?_) rfl (by kernel_rfl) (by kernel_rfl) (by kernel_rfl) (fun _ _ _ h => h) (Or.inl ⟨by rfl, ?_⟩) hS ?_; rotate_left; focus (intro w' s0; go_simp <;> try with_reducible rfl))
  try simp only [Act.put, List.setIfInBounds_toArray, List.set_cons_zero, List.set_cons_succ]
  (refine wpAnyH_take (i := 3) (oi := { dst := some 21, op := Op.load 42 (Operand.tmp 20), type := 42, pos := "bus.go:73", after := #[{ on := 2, ground := Ground.data }], guard := none }) (v := ?_) rfl (by kernel_rfl) (by kernel_rfl) (by kernel_rfl) (fun _ _ _ h => h) (Or.inl ⟨by rfl, ?_⟩) hS ?_; rotate_left; focus (intro w' s0; obtain ⟨s1, s2⟩ := s0; have c0 := s1.at_ 0 _ rfl; have d0 := s2.at_ 0 _ rfl; go_simp <;> try with_reducible rfl))
  try simp only [Act.put, List.setIfInBounds_toArray, List.set_cons_zero, List.set_cons_succ]
  (refine wpAnyH_take (i := 4) (oi := { dst := some 22, op := Op.move (Operand.tmp 0), type := 26, pos := "bus.go:73", after := #[], guard := none }) (v := ?_) rfl (by kernel_rfl) (by kernel_rfl) (by kernel_rfl) (fun _ _ _ h => h) (Or.inl ⟨by rfl, ?_⟩) hS ?_; rotate_left; focus (intro w' s0; go_simp <;> try with_reducible rfl))
  try simp only [Act.put, List.setIfInBounds_toArray, List.set_cons_zero, List.set_cons_succ]
  (refine wpAnyH_take (i := 6) (oi := { dst := some 24, op := Op.move (Operand.tmp 1), type := 22, pos := "bus.go:73", after := #[], guard := none }) (v := ?_) rfl (by kernel_rfl) (by kernel_rfl) (by kernel_rfl) (fun _ _ _ h => h) (Or.inl ⟨by rfl, ?_⟩) hS ?_; rotate_left; focus (intro w' s0; go_simp <;> try with_reducible rfl))
  try simp only [Act.put, List.setIfInBounds_toArray, List.set_cons_zero, List.set_cons_succ]
  (refine wpAnyH_take (i := 8) (oi := { dst := some 26, op := Op.fieldAddr 24 (Operand.tmp 5) 0, type := 0, pos := "bus.go:73", after := #[], guard := none }) (v := ?_) rfl (by kernel_rfl) (by kernel_rfl) (by kernel_rfl) (fun _ _ _ h => h) (Or.inl ⟨by rfl, ?_⟩) hS ?_; rotate_left; focus (intro w' s0; go_simp <;> try with_reducible rfl))
  try simp only [Act.put, List.setIfInBounds_toArray, List.set_cons_zero, List.set_cons_succ]
  (refine wpAnyH_take (i := 9) (oi := { dst := some 27, op := Op.load 4 (Operand.tmp 26), type := 4, pos := "bus.go:73", after := #[{ on := 8, ground := Ground.data }], guard := none }) (v := ?_) rfl (by kernel_rfl) (by kernel_rfl) (by kernel_rfl) (fun _ _ _ h => h) (Or.inl ⟨by rfl, ?_⟩) hS ?_; rotate_left; focus (intro w' s0; obtain ⟨s1, s2⟩ := s0; have c0 := s1.at_ 0 _ rfl; have d0 := s2.at_ 0 _ rfl; go_simp <;> try with_reducible rfl))
  try simp only [Act.put, List.setIfInBounds_toArray, List.set_cons_zero, List.set_cons_succ]
  (refine wpAnyH_take (i := 10) (oi := { dst := some 28, op := Op.move (Operand.tmp 7), type := 22, pos := "bus.go:73", after := #[], guard := none }) (v := ?_) rfl (by kernel_rfl) (by kernel_rfl) (by kernel_rfl) (fun _ _ _ h => h) (Or.inl ⟨by rfl, ?_⟩) hS ?_; rotate_left; focus (intro w' s0; go_simp <;> try with_reducible rfl))
  try simp only [Act.put, List.setIfInBounds_toArray, List.set_cons_zero, List.set_cons_succ]
  (refine wpAnyH_take (i := 11) (oi := { dst := some 29, op := Op.move (Operand.tmp 8), type := 22, pos := "bus.go:73", after := #[], guard := none }) (v := ?_) rfl (by kernel_rfl) (by kernel_rfl) (by kernel_rfl) (fun _ _ _ h => h) (Or.inl ⟨by rfl, ?_⟩) hS ?_; rotate_left; focus (intro w' s0; go_simp <;> try with_reducible rfl))
  try simp only [Act.put, List.setIfInBounds_toArray, List.set_cons_zero, List.set_cons_succ]
  refine wpAnyH_ready (rs := [5]) (by kernel_rfl) (by simp) ?_
  refine AllReadyH.cons (o := { dst := some 23, op := Op.call { callee := Callee.value (Operand.func 26), args := #[Operand.tmp 22], argTypes := #[26] }, type := 63, pos := "bus.go:73", after := #[{ on := 4, ground := Ground.data }], guard := none }) rfl (fun K hK => ?_) AllReadyH.nil
  refine take_if (by rfl) ?_
  go_simp
  (with_reducible refine (jmem_w I3.out n HN.out).mono ?_)
  rintro e' x1 ⟨rfl, qk⟩
  have hS2 : Blk x1 g 48 [.pointer (some ⟨b1, 0, none⟩), .pointer (some ⟨b2, 0, none⟩), .pointer (some ⟨b3, 0, none⟩), .pointer (some ⟨b4, 0, none⟩), .pointer (some ⟨b5, 0, none⟩)] ∧ Blk x1 w.heap.size 24 [.bool tg, .int .i64 pe, .int .i64 ty, .int .i64 mo, .int .i64 ex, .int .i64 b, .int .i64 t, .bool bg, .int .u64 a] := ⟨hS.1.fr (Fr.of_kp qk (fun _ => False)) (fun h => h), hS.2.fr (Fr.of_kp qk (fun _ => False)) (fun h => h)⟩
  have I4 := Lib.hid (I3.out.kp qk)
  have F4 := Lib.hid (F3.out.kp qk)
  refine hK.out _ _ hS2 (fun hS => ?_)
  clear hK K hS2
  try simp only [Act.put, List.setIfInBounds_toArray, List.set_cons_zero, List.set_cons_succ]
  refine wpAnyH_ready (rs := [7]) (by kernel_rfl) (by simp) ?_
  refine AllReadyH.cons (o := { dst := some 25, op := Op.call { callee := Callee.value (Operand.func 27), args := #[Operand.tmp 23, Operand.tmp 24], argTypes := #[63, 22] }, type := 3, pos := "bus.go:73", after := #[{ on := 5, ground := Ground.data }, { on := 6, ground := Ground.data }, { on := 5, ground := Ground.chain }], guard := none }) rfl (fun K hK => ?_) AllReadyH.nil
  refine take_if (by rfl) ?_
  go_simp
  (with_reducible refine (jbehind_w 2147483648 n pa (by decide) HB.out.1 HB.out.2 p1 _).mono ?_)
  rintro e' x2 ⟨rfl, qk⟩
  have hS2 : Blk x2 g 48 [.pointer (some ⟨b1, 0, none⟩), .pointer (some ⟨b2, 0, none⟩), .pointer (some ⟨b3, 0, none⟩), .pointer (some ⟨b4, 0, none⟩), .pointer (some ⟨b5, 0, none⟩)] ∧ Blk x2 w.heap.size 24 [.bool tg, .int .i64 pe, .int .i64 ty, .int .i64 mo, .int .i64 ex, .int .i64 b, .int .i64 t, .bool bg, .int .u64 a] := ⟨hS.1.fr (Fr.of_kp qk (fun _ => False)) (fun h => h), hS.2.fr (Fr.of_kp qk (fun _ => False)) (fun h => h)⟩
  have I5 := Lib.hid (I4.out.kp qk)
  have F5 := Lib.hid (F4.out.kp qk)
  rw [HO.out]
  refine hK.out _ _ hS2 (fun hS => ?_)
  clear hK K hS2
  try simp only [Act.put, List.setIfInBounds_toArray, List.set_cons_zero, List.set_cons_succ]
  refine wpAnyH_ready (rs := [12]) (by kernel_rfl) (by simp) ?_
  refine AllReadyH.cons (o := { dst := some 30, op := Op.call { callee := Callee.value (Operand.func 25), args := #[Operand.tmp 21, Operand.tmp 25, Operand.tmp 27, Operand.tmp 28, Operand.tmp 29], argTypes := #[42, 3, 4, 22, 22] }, type := 4, pos := "bus.go:73", after := #[{ on := 3, ground := Ground.data }, { on := 7, ground := Ground.data }, { on := 9, ground := Ground.data }, { on := 10, ground := Ground.data }, { on := 11, ground := Ground.data }, { on := 7, ground := Ground.chain }], guard := none }) rfl (fun K hK => ?_) AllReadyH.nil
  refine take_if (by rfl) ?_
  go_simp
  (with_reducible refine (HSC.out _ I5.out).mono ?_)
  rintro e' x3 ⟨rfl, q, f⟩
  have hS2 : Blk x3 g 48 [.pointer (some ⟨b1, 0, none⟩), .pointer (some ⟨b2, 0, none⟩), .pointer (some ⟨b3, 0, none⟩), .pointer (some ⟨b4, 0, none⟩), .pointer (some ⟨b5, 0, none⟩)] ∧ Blk x3 w.heap.size 24 [.bool tg, .int .i64 pe, .int .i64 ty, .int .i64 mo, .int .i64 ex, .int .i64 b, .int .i64 t, .bool bg, .int .u64 a] := ⟨hS.1.fr f HG.out.1, hS.2.fr f HG.out.2⟩
  have Q := Lib.hid (I5.out.up_ram q f)
  refine hK.out _ _ hS2 (fun hS => ?_)
  clear hK K hS2
  try simp only [Act.put, List.setIfInBounds_toArray, List.set_cons_zero, List.set_cons_succ]
  (refine wpAnyH_take (i := 13) (oi := { dst := some 6, op := Op.assign (Operand.tmp 30), type := 4, pos := "bus.go:73", after := #[{ on := 12, ground := Ground.data }, { on := 12, ground := Ground.chain }, { on := 0, ground := Ground.phase }, { on := 1, ground := Ground.phase }, { on := 2, ground := Ground.phase }, { on := 3, ground := Ground.phase }, { on := 4, ground := Ground.phase }, { on := 5, ground := Ground.phase }, { on := 6, ground := Ground.phase }, { on := 7, ground := Ground.phase }, { on := 8, ground := Ground.phase }, { on := 9, ground := Ground.phase }, { on := 10, ground := Ground.phase }, { on := 11, ground := Ground.phase }, { on := 12, ground := Ground.phase }], guard := none }) (v := ?_) rfl (by kernel_rfl) (by kernel_rfl) (by kernel_rfl) (fun _ _ _ h => h) (Or.inl ⟨by rfl, ?_⟩) hS ?_; rotate_left; focus (intro w' s0; go_simp <;> try with_reducible rfl))
  try simp only [Act.put, List.setIfInBounds_toArray, List.set_cons_zero, List.set_cons_succ]
  refine wpAnyH_done (by kernel_rfl) ?_ _
  go_wp2
  go_ret
  exact ⟨rfl, Q.out.1, (F5.out.mono (fun _ _ h => h.elim)).trans Q.out.2 (fun _ _ x => x)⟩
end Go.Proofs.Ytikibfpfieoabaa
