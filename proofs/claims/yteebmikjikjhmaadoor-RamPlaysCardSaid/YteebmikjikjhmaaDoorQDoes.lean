/-
  does of layer 11: one act on both memories: they answer alike, and stay alike. No condition.
-/
import Derived.Test.YteebmikjikjhmaaDoorQGran
namespace Go.Proofs.YteebmikjikjhmaaDoor
open Go.ChangeShapes Go.WideShapes Go.ChangeAt Go.RowKit
set_option linter.unusedVariables false
set_option linter.unusedSimpArgs false
/-- What an act leaves. -/
def DoesP (w : World) (lo hi g g1 gb gt n : Nat) (e : Ending) (w' : World) : Prop :=
  e = .returned (.bool true) ∧ ∃ B' T', B'.length = n ∧ Ob w' lo hi g B' T' ∧ RM w' g1 gb gt B' T' ∧ Fr w w' (fun i => Rg lo hi i ∨ i = gb ∨ i = gt)
theorem Ob.below {w w' : World} {lo hi g : Nat} {B : List Int} {T : List Bool} (m : Ob w lo hi g B T) (k : Below w.heap.size w w') : Ob w' lo hi g B T := m.fr ((Fr.refl w (fun _ => False)).below k (fun _ hi _ => hi)) (fun _ _ _ h => h)
theorem At.bel {b : Nat} {vs : List Value} {w w' : World} (h : At b vs w) (k : Below w.heap.size w w') (hb : b < w.heap.size) : At b vs w' := fun i v hi => (k.cell (p := ⟨b, i, none⟩) hb).trans (h i v hi)
theorem At.frm {b : Nat} {vs : List Value} {w w' : World} {S : Nat → Prop} (h : At b vs w) (k : Fr w w' S) (hb : b < w.heap.size) (hS : ¬ S b) : At b vs w' := fun i v hi => (World.cell?_of_block (w := w) (k.block b hb hS)).trans (h i v hi)
theorem At.out6 {B : Nat} {w : World} {v0 v1 v2 v3 v4 v5 : Value} (h : At B [v0, v1, v2, v3, v4, v5] w) : w.cell? ⟨B, 0, none⟩ = some v0 ∧ w.cell? ⟨B, 1, none⟩ = some v1 ∧ w.cell? ⟨B, 2, none⟩ = some v2 ∧ w.cell? ⟨B, 3, none⟩ = some v3 ∧ w.cell? ⟨B, 4, none⟩ = some v4 ∧ w.cell? ⟨B, 5, none⟩ = some v5 :=
  ⟨h 0 _ rfl, h 1 _ rfl, h 2 _ rfl, h 3 _ rfl, h 4 _ rfl, h 5 _ rfl⟩
theorem pick_at (k n r : Int) (h : k % n = r) (k0 : -9223372036854775808 ≤ k) (k1 : k < 9223372036854775808) (n0 : 1 ≤ n) (n1 : n ≤ 1000000) (w : World) :
    Calls Tryd.prog 19 #[.int .i64 k, .int .i64 n] w fun e w' => e = .returned (.int .i64 r) ∧ w = w' := by subst h; exact pick_w k n k0 k1 n0 n1 w
set_option maxRecDepth 4000 in
set_option maxHeartbeats 4000000 in
theorem does_0 {w : World} {lo hi g g1 gb gt : Nat} {B : List Int} {T : List Bool} (o : Ob w lo hi g B T) (r : RM w g1 gb gt B T) (s1 : hi ≤ g1) (s2 : hi ≤ gb) (s3 : hi ≤ gt) (k off size a m : Int) (tag : Bool)
    (k0 : -9223372036854775808 ≤ k) (k1 : k < 9223372036854775808) (f0 : -9223372036854775808 ≤ off) (f1 : off < 9223372036854775808) (z0 : -9223372036854775808 ≤ size) (z1 : size < 9223372036854775808) (a0 : 0 ≤ a) (a1 : a < 18446744073709551616) (m0 : 0 ≤ m) (m1 : m < 18446744073709551616) (hk : k % 4 = 0) :
    Calls Tryd.prog 11 #[.pointer (some ⟨g, 0, none⟩), .pointer (some ⟨g1, 0, none⟩), .agg #[.int .i64 k, .int .i64 off, .int .i64 size, .bool tag, .int .u64 a, .int .u64 m]] w (DoesP w lo hi g g1 gb gt B.length) := by
  have hgb := r.bytes.lt
  have hgt := r.tags.lt
  have hg1 := r.blk.lt
  have hAA : At w.heap.size [.int .i64 k, .int .i64 off, .int .i64 size, .bool tag, .int .u64 a, .int .u64 m] (w.alloc (.cells #[.int .i64 k, .int .i64 off, .int .i64 size, .bool tag, .int .u64 a, .int .u64 m] 34)) := At.new w _ _
  have hF0 : Fr w (w.alloc (.cells #[.int .i64 k, .int .i64 off, .int .i64 size, .bool tag, .int .u64 a, .int .u64 m] 34)) (fun i => Rg lo hi i ∨ i = gb ∨ i = gt) := (Fr.refl _ _).alloc _
  have hO0 : Ob (w.alloc (.cells #[.int .i64 k, .int .i64 off, .int .i64 size, .bool tag, .int .u64 a, .int .u64 m] 34)) lo hi g B T := o.fr ((Fr.refl w (fun _ => False)).alloc _) (fun _ _ _ h => h)
  have hR0 : RM (w.alloc (.cells #[.int .i64 k, .int .i64 off, .int .i64 size, .bool tag, .int .u64 a, .int .u64 m] 34)) g1 gb gt B T := r.fr ((Fr.refl w (fun _ => False)).alloc _) id id id
  have HK := Lib.hid hk
  have HA0 := Lib.hid hAA
  have HF0 := Lib.hid hF0
  have HO0 := Lib.hid hO0
  have HR0 := Lib.hid hR0
  clear o r hk hAA hF0 hO0 hR0
  go_enter Tryd.func11, Tryd.ntmps11
  go_wp2_with (first | (go_at_call 19; (with_reducible refine (pick_at k 4 _ HK.out k0 k1 (by decide) (by decide) _).mono ?_); rintro e' wp ⟨rfl, rfl⟩) | (go_at_call 17; (with_reducible refine (cload_w HO0.out off size f0 f1 z0 z1).mono ?_); rintro e' w1 ⟨rfl, hb⟩; have hsz := hb.size; (try simp at hsz); have hA1 := HA0.out.bel hb (by simp); obtain ⟨q0, q1, q2, q3, q4, q5⟩ := hA1.out6; have HO1 := Lib.hid (HO0.out.below hb); have HR1 := Lib.hid (HR0.out.below hb); have HF1 := Lib.hid (HF0.out.below hb (fun i hi _ => by simp; omega)); clear hb hA1) | (go_at_call 18; (with_reducible refine (rload_w HR1.out off size).mono ?_); rintro e' w2 ⟨rfl, rfl⟩))
  go_ret
  exact ⟨rfl, B, T, rfl, HO1.out, HR1.out, HF1.out⟩
set_option maxRecDepth 4000 in
set_option maxHeartbeats 4000000 in
theorem does_2 {w : World} {lo hi g g1 gb gt : Nat} {B : List Int} {T : List Bool} (o : Ob w lo hi g B T) (r : RM w g1 gb gt B T) (s1 : hi ≤ g1) (s2 : hi ≤ gb) (s3 : hi ≤ gt) (k off size a m : Int) (tag : Bool)
    (k0 : -9223372036854775808 ≤ k) (k1 : k < 9223372036854775808) (f0 : -9223372036854775808 ≤ off) (f1 : off < 9223372036854775808) (z0 : -9223372036854775808 ≤ size) (z1 : size < 9223372036854775808) (a0 : 0 ≤ a) (a1 : a < 18446744073709551616) (m0 : 0 ≤ m) (m1 : m < 18446744073709551616) (hk : k % 4 = 2) :
    Calls Tryd.prog 11 #[.pointer (some ⟨g, 0, none⟩), .pointer (some ⟨g1, 0, none⟩), .agg #[.int .i64 k, .int .i64 off, .int .i64 size, .bool tag, .int .u64 a, .int .u64 m]] w (DoesP w lo hi g g1 gb gt B.length) := by
  have hgb := r.bytes.lt
  have hgt := r.tags.lt
  have hg1 := r.blk.lt
  have hAA : At w.heap.size [.int .i64 k, .int .i64 off, .int .i64 size, .bool tag, .int .u64 a, .int .u64 m] (w.alloc (.cells #[.int .i64 k, .int .i64 off, .int .i64 size, .bool tag, .int .u64 a, .int .u64 m] 34)) := At.new w _ _
  have hF0 : Fr w (w.alloc (.cells #[.int .i64 k, .int .i64 off, .int .i64 size, .bool tag, .int .u64 a, .int .u64 m] 34)) (fun i => Rg lo hi i ∨ i = gb ∨ i = gt) := (Fr.refl _ _).alloc _
  have hO0 : Ob (w.alloc (.cells #[.int .i64 k, .int .i64 off, .int .i64 size, .bool tag, .int .u64 a, .int .u64 m] 34)) lo hi g B T := o.fr ((Fr.refl w (fun _ => False)).alloc _) (fun _ _ _ h => h)
  have hR0 : RM (w.alloc (.cells #[.int .i64 k, .int .i64 off, .int .i64 size, .bool tag, .int .u64 a, .int .u64 m] 34)) g1 gb gt B T := r.fr ((Fr.refl w (fun _ => False)).alloc _) id id id
  have HK := Lib.hid hk
  have HA0 := Lib.hid hAA
  have HF0 := Lib.hid hF0
  have HO0 := Lib.hid hO0
  have HR0 := Lib.hid hR0
  clear o r hk hAA hF0 hO0 hR0
  go_enter Tryd.func11, Tryd.ntmps11
  go_wp2_with (first | (go_at_call 19; (with_reducible refine (pick_at k 4 _ HK.out k0 k1 (by decide) (by decide) _).mono ?_); rintro e' wp ⟨rfl, rfl⟩) | (go_at_call 22; (with_reducible refine (cloadcap_w HO0.out off f0 f1).mono ?_); rintro e' w1 ⟨rfl, hb⟩; have hsz := hb.size; (try simp at hsz); have hA1 := HA0.out.bel hb (by simp); obtain ⟨q0, q1, q2, q3, q4, q5⟩ := hA1.out6; have HO1 := Lib.hid (HO0.out.below hb); have HR1 := Lib.hid (HR0.out.below hb); have HF1 := Lib.hid (HF0.out.below hb (fun i hi _ => by simp; omega)); clear hb hA1) | (go_at_call 24; (with_reducible refine (rloadcap_w HR1.out off).mono ?_); rintro e' w2 ⟨rfl, rfl⟩))
  go_ret
  exact ⟨rfl, B, T, rfl, HO1.out, HR1.out, HF1.out⟩
set_option maxRecDepth 4000 in
set_option maxHeartbeats 4000000 in
theorem does_1 {w : World} {lo hi g g1 gb gt : Nat} {B : List Int} {T : List Bool} (o : Ob w lo hi g B T) (r : RM w g1 gb gt B T) (s1 : hi ≤ g1) (s2 : hi ≤ gb) (s3 : hi ≤ gt) (k off size a m : Int) (tag : Bool)
    (k0 : -9223372036854775808 ≤ k) (k1 : k < 9223372036854775808) (f0 : -9223372036854775808 ≤ off) (f1 : off < 9223372036854775808) (z0 : -9223372036854775808 ≤ size) (z1 : size < 9223372036854775808) (a0 : 0 ≤ a) (a1 : a < 18446744073709551616) (m0 : 0 ≤ m) (m1 : m < 18446744073709551616) (hk : k % 4 = 1) :
    Calls Tryd.prog 11 #[.pointer (some ⟨g, 0, none⟩), .pointer (some ⟨g1, 0, none⟩), .agg #[.int .i64 k, .int .i64 off, .int .i64 size, .bool tag, .int .u64 a, .int .u64 m]] w (DoesP w lo hi g g1 gb gt B.length) := by
  have hgb := r.bytes.lt
  have hgt := r.tags.lt
  have hg1 := r.blk.lt
  have hAA : At w.heap.size [.int .i64 k, .int .i64 off, .int .i64 size, .bool tag, .int .u64 a, .int .u64 m] (w.alloc (.cells #[.int .i64 k, .int .i64 off, .int .i64 size, .bool tag, .int .u64 a, .int .u64 m] 34)) := At.new w _ _
  have hF0 : Fr w (w.alloc (.cells #[.int .i64 k, .int .i64 off, .int .i64 size, .bool tag, .int .u64 a, .int .u64 m] 34)) (fun i => Rg lo hi i ∨ i = gb ∨ i = gt) := (Fr.refl _ _).alloc _
  have hO0 : Ob (w.alloc (.cells #[.int .i64 k, .int .i64 off, .int .i64 size, .bool tag, .int .u64 a, .int .u64 m] 34)) lo hi g B T := o.fr ((Fr.refl w (fun _ => False)).alloc _) (fun _ _ _ h => h)
  have hR0 : RM (w.alloc (.cells #[.int .i64 k, .int .i64 off, .int .i64 size, .bool tag, .int .u64 a, .int .u64 m] 34)) g1 gb gt B T := r.fr ((Fr.refl w (fun _ => False)).alloc _) id id id
  have HK := Lib.hid hk
  have HA0 := Lib.hid hAA
  have HF0 := Lib.hid hF0
  have HO0 := Lib.hid hO0
  have HR0 := Lib.hid hR0
  clear o r hk hAA hF0 hO0 hR0
  go_enter Tryd.func11, Tryd.ntmps11
  go_upto_region 7 with (go_at_call 19; (with_reducible refine (pick_at k 4 _ HK.out k0 k1 (by decide) (by decide) _).mono ?_); rintro e' wp ⟨rfl, rfl⟩)
  have hA := HA0.out
  generalize hgw : (w.alloc (.cells #[.int .i64 k, .int .i64 off, .int .i64 size, .bool tag, .int .u64 a, .int .u64 m] 34)) = gw at hA HO0 HR0 HF0 ⊢
  have hgs : w.heap.size < gw.heap.size := by rw [← hgw]; simp
  clear hgw
  refine wp_region_held_drew (S := fun w' => At (w.heap.size) [.int .i64 k, .int .i64 off, .int .i64 size, .bool tag, .int .u64 a, .int .u64 m] w') (by kernel_rfl) (hA.drew) (fun hS => ?_)
  have HOd := Lib.hid (HO0.out.fr (Fr.drew (Fr.refl gw (fun _ => False))) (fun _ _ _ h => h))
  have HRd := Lib.hid (HR0.out.fr (Fr.drew (Fr.refl gw (fun _ => False))) id id id)
  have HFd := Lib.hid HF0.out.drew
  have hgs2 : w.heap.size < gw.drew.heap.size := hgs
  have hhi := HOd.out.top
  generalize gw.drew = g0 at hS HOd HRd HFd hgs2 hhi ⊢
  (refine wpAnyH_take (i := 0) (oi := { dst := some 52, op := Op.move (Operand.tmp 0), type := 23, pos := "law.go:26", after := #[], guard := none }) (v := ?_) rfl (by kernel_rfl) (by kernel_rfl) (by kernel_rfl) (fun _ _ _ h => h) (Or.inl ⟨by rfl, ?_⟩) hS ?_; rotate_left; focus (intro w' s0; go_simp <;> try with_reducible rfl))
  try simp only [Act.put, List.setIfInBounds_toArray, List.set_cons_zero, List.set_cons_succ]
  (refine wpAnyH_take (i := 1) (oi := { dst := some 53, op := Op.fieldAddr 34 (Operand.tmp 5) 1, type := 0, pos := "law.go:26", after := #[], guard := none }) (v := ?_) rfl (by kernel_rfl) (by kernel_rfl) (by kernel_rfl) (fun _ _ _ h => h) (Or.inl ⟨by rfl, ?_⟩) hS ?_; rotate_left; focus (intro w' s0; go_simp <;> try with_reducible rfl))
  try simp only [Act.put, List.setIfInBounds_toArray, List.set_cons_zero, List.set_cons_succ]
  (refine wpAnyH_take (i := 2) (oi := { dst := some 54, op := Op.load 3 (Operand.tmp 53), type := 3, pos := "law.go:26", after := #[{ on := 1, ground := Ground.data }], guard := none }) (v := ?_) rfl (by kernel_rfl) (by kernel_rfl) (by kernel_rfl) (fun _ _ _ h => h) (Or.inl ⟨by rfl, ?_⟩) hS ?_; rotate_left; focus (intro w' s0; have c_0 := s0 0 _ rfl; have c_1 := s0 1 _ rfl; have c_2 := s0 2 _ rfl; have c_3 := s0 3 _ rfl; have c_4 := s0 4 _ rfl; have c_5 := s0 5 _ rfl; go_simp <;> try with_reducible rfl))
  try simp only [Act.put, List.setIfInBounds_toArray, List.set_cons_zero, List.set_cons_succ]
  (refine wpAnyH_take (i := 3) (oi := { dst := some 55, op := Op.fieldAddr 34 (Operand.tmp 5) 2, type := 0, pos := "law.go:26", after := #[], guard := none }) (v := ?_) rfl (by kernel_rfl) (by kernel_rfl) (by kernel_rfl) (fun _ _ _ h => h) (Or.inl ⟨by rfl, ?_⟩) hS ?_; rotate_left; focus (intro w' s0; go_simp <;> try with_reducible rfl))
  try simp only [Act.put, List.setIfInBounds_toArray, List.set_cons_zero, List.set_cons_succ]
  (refine wpAnyH_take (i := 4) (oi := { dst := some 56, op := Op.load 3 (Operand.tmp 55), type := 3, pos := "law.go:26", after := #[{ on := 3, ground := Ground.data }], guard := none }) (v := ?_) rfl (by kernel_rfl) (by kernel_rfl) (by kernel_rfl) (fun _ _ _ h => h) (Or.inl ⟨by rfl, ?_⟩) hS ?_; rotate_left; focus (intro w' s0; have c_0 := s0 0 _ rfl; have c_1 := s0 1 _ rfl; have c_2 := s0 2 _ rfl; have c_3 := s0 3 _ rfl; have c_4 := s0 4 _ rfl; have c_5 := s0 5 _ rfl; go_simp <;> try with_reducible rfl))
  try simp only [Act.put, List.setIfInBounds_toArray, List.set_cons_zero, List.set_cons_succ]
  (refine wpAnyH_take (i := 5) (oi := { dst := some 57, op := Op.fieldAddr 34 (Operand.tmp 5) 4, type := 0, pos := "law.go:26", after := #[], guard := none }) (v := ?_) rfl (by kernel_rfl) (by kernel_rfl) (by kernel_rfl) (fun _ _ _ h => h) (Or.inl ⟨by rfl, ?_⟩) hS ?_; rotate_left; focus (intro w' s0; go_simp <;> try with_reducible rfl))
  try simp only [Act.put, List.setIfInBounds_toArray, List.set_cons_zero, List.set_cons_succ]
  (refine wpAnyH_take (i := 6) (oi := { dst := some 58, op := Op.load 32 (Operand.tmp 57), type := 32, pos := "law.go:26", after := #[{ on := 5, ground := Ground.data }], guard := none }) (v := ?_) rfl (by kernel_rfl) (by kernel_rfl) (by kernel_rfl) (fun _ _ _ h => h) (Or.inl ⟨by rfl, ?_⟩) hS ?_; rotate_left; focus (intro w' s0; have c_0 := s0 0 _ rfl; have c_1 := s0 1 _ rfl; have c_2 := s0 2 _ rfl; have c_3 := s0 3 _ rfl; have c_4 := s0 4 _ rfl; have c_5 := s0 5 _ rfl; go_simp <;> try with_reducible rfl))
  try simp only [Act.put, List.setIfInBounds_toArray, List.set_cons_zero, List.set_cons_succ]
  (refine wpAnyH_take (i := 8) (oi := { dst := some 60, op := Op.move (Operand.tmp 1), type := 27, pos := "law.go:26", after := #[], guard := none }) (v := ?_) rfl (by kernel_rfl) (by kernel_rfl) (by kernel_rfl) (fun _ _ _ h => h) (Or.inl ⟨by rfl, ?_⟩) hS ?_; rotate_left; focus (intro w' s0; go_simp <;> try with_reducible rfl))
  try simp only [Act.put, List.setIfInBounds_toArray, List.set_cons_zero, List.set_cons_succ]
  (refine wpAnyH_take (i := 9) (oi := { dst := some 61, op := Op.fieldAddr 34 (Operand.tmp 5) 1, type := 0, pos := "law.go:26", after := #[], guard := none }) (v := ?_) rfl (by kernel_rfl) (by kernel_rfl) (by kernel_rfl) (fun _ _ _ h => h) (Or.inl ⟨by rfl, ?_⟩) hS ?_; rotate_left; focus (intro w' s0; go_simp <;> try with_reducible rfl))
  try simp only [Act.put, List.setIfInBounds_toArray, List.set_cons_zero, List.set_cons_succ]
  (refine wpAnyH_take (i := 10) (oi := { dst := some 62, op := Op.load 3 (Operand.tmp 61), type := 3, pos := "law.go:26", after := #[{ on := 9, ground := Ground.data }], guard := none }) (v := ?_) rfl (by kernel_rfl) (by kernel_rfl) (by kernel_rfl) (fun _ _ _ h => h) (Or.inl ⟨by rfl, ?_⟩) hS ?_; rotate_left; focus (intro w' s0; have c_0 := s0 0 _ rfl; have c_1 := s0 1 _ rfl; have c_2 := s0 2 _ rfl; have c_3 := s0 3 _ rfl; have c_4 := s0 4 _ rfl; have c_5 := s0 5 _ rfl; go_simp <;> try with_reducible rfl))
  try simp only [Act.put, List.setIfInBounds_toArray, List.set_cons_zero, List.set_cons_succ]
  (refine wpAnyH_take (i := 11) (oi := { dst := some 63, op := Op.fieldAddr 34 (Operand.tmp 5) 2, type := 0, pos := "law.go:26", after := #[], guard := none }) (v := ?_) rfl (by kernel_rfl) (by kernel_rfl) (by kernel_rfl) (fun _ _ _ h => h) (Or.inl ⟨by rfl, ?_⟩) hS ?_; rotate_left; focus (intro w' s0; go_simp <;> try with_reducible rfl))
  try simp only [Act.put, List.setIfInBounds_toArray, List.set_cons_zero, List.set_cons_succ]
  (refine wpAnyH_take (i := 12) (oi := { dst := some 64, op := Op.load 3 (Operand.tmp 63), type := 3, pos := "law.go:26", after := #[{ on := 11, ground := Ground.data }], guard := none }) (v := ?_) rfl (by kernel_rfl) (by kernel_rfl) (by kernel_rfl) (fun _ _ _ h => h) (Or.inl ⟨by rfl, ?_⟩) hS ?_; rotate_left; focus (intro w' s0; have c_0 := s0 0 _ rfl; have c_1 := s0 1 _ rfl; have c_2 := s0 2 _ rfl; have c_3 := s0 3 _ rfl; have c_4 := s0 4 _ rfl; have c_5 := s0 5 _ rfl; go_simp <;> try with_reducible rfl))
  try simp only [Act.put, List.setIfInBounds_toArray, List.set_cons_zero, List.set_cons_succ]
  (refine wpAnyH_take (i := 13) (oi := { dst := some 65, op := Op.fieldAddr 34 (Operand.tmp 5) 4, type := 0, pos := "law.go:26", after := #[], guard := none }) (v := ?_) rfl (by kernel_rfl) (by kernel_rfl) (by kernel_rfl) (fun _ _ _ h => h) (Or.inl ⟨by rfl, ?_⟩) hS ?_; rotate_left; focus (intro w' s0; go_simp <;> try with_reducible rfl))
  try simp only [Act.put, List.setIfInBounds_toArray, List.set_cons_zero, List.set_cons_succ]
  (refine wpAnyH_take (i := 14) (oi := { dst := some 66, op := Op.load 32 (Operand.tmp 65), type := 32, pos := "law.go:26", after := #[{ on := 13, ground := Ground.data }], guard := none }) (v := ?_) rfl (by kernel_rfl) (by kernel_rfl) (by kernel_rfl) (fun _ _ _ h => h) (Or.inl ⟨by rfl, ?_⟩) hS ?_; rotate_left; focus (intro w' s0; have c_0 := s0 0 _ rfl; have c_1 := s0 1 _ rfl; have c_2 := s0 2 _ rfl; have c_3 := s0 3 _ rfl; have c_4 := s0 4 _ rfl; have c_5 := s0 5 _ rfl; go_simp <;> try with_reducible rfl))
  try simp only [Act.put, List.setIfInBounds_toArray, List.set_cons_zero, List.set_cons_succ]
  refine wpAnyH_ready (rs := [7]) (by kernel_rfl) (by simp) ?_
  refine AllReadyH.cons (o := { dst := some 59, op := Op.call { callee := Callee.value (Operand.func 21), args := #[Operand.tmp 52, Operand.tmp 54, Operand.tmp 56, Operand.tmp 58], argTypes := #[23, 3, 3, 32] }, type := 4, pos := "law.go:26", after := #[{ on := 0, ground := Ground.data }, { on := 2, ground := Ground.data }, { on := 4, ground := Ground.data }, { on := 6, ground := Ground.data }], guard := none }) rfl (fun K hK => ?_) AllReadyH.nil
  refine take_if (by rfl) ?_
  go_simp
  (with_reducible refine (cstore_w HOd.out off size a f0 f1 z0 z1 a0 a1).mono ?_)
  rintro e' w1 ⟨rfl, o1, fr1⟩
  have hS2 : At (w.heap.size) [.int .i64 k, .int .i64 off, .int .i64 size, .bool tag, .int .u64 a, .int .u64 m] w1 := hS.frm fr1 hgs2 (fun x => by unfold Rg at x; omega)
  have hw1 := fr1.size
  have HO1 := Lib.hid o1
  have HR1 := Lib.hid (HRd.out.fr fr1 (fun x => by unfold Rg at x; omega) (fun x => by unfold Rg at x; omega) (fun x => by unfold Rg at x; omega))
  have HF1 := Lib.hid (HFd.out.trans fr1 (fun _ _ x => .inl x))
  clear o1 fr1
  refine hK.out _ _ hS2 (fun hS => ?_)
  clear hK K hS2
  try simp only [Act.put, List.setIfInBounds_toArray, List.set_cons_zero, List.set_cons_succ]
  refine wpAnyH_ready (rs := [15]) (by kernel_rfl) (by simp) ?_
  refine AllReadyH.cons (o := { dst := some 67, op := Op.call { callee := Callee.value (Operand.func 23), args := #[Operand.tmp 60, Operand.tmp 62, Operand.tmp 64, Operand.tmp 66], argTypes := #[27, 3, 3, 32] }, type := 4, pos := "law.go:26", after := #[{ on := 8, ground := Ground.data }, { on := 10, ground := Ground.data }, { on := 12, ground := Ground.data }, { on := 14, ground := Ground.data }, { on := 7, ground := Ground.chain }], guard := none }) rfl (fun K hK => ?_) AllReadyH.nil
  refine take_if (by rfl) ?_
  go_simp
  (with_reducible refine (rstore_w HR1.out off size a a0 a1).mono ?_)
  rintro e' w2 ⟨rfl, r2, fr2⟩
  have hS2 : At (w.heap.size) [.int .i64 k, .int .i64 off, .int .i64 size, .bool tag, .int .u64 a, .int .u64 m] w2 := hS.frm fr2 (by omega) (fun x => by omega)
  have HR2 := Lib.hid r2
  have HO2 := Lib.hid (HO1.out.fr fr2 (fun i h1 h2 x => by omega))
  have HF2 := Lib.hid (HF1.out.trans fr2 (fun _ _ x => .inr x))
  clear r2 fr2
  refine hK.out _ _ hS2 (fun hS => ?_)
  clear hK K hS2
  try simp only [Act.put, List.setIfInBounds_toArray, List.set_cons_zero, List.set_cons_succ]
  (refine wpAnyH_take (i := 16) (oi := { dst := some 68, op := Op.binOp BinOp.eql 4 (Operand.tmp 59) (Operand.tmp 67) 4, type := 4, pos := "law.go:26", after := #[{ on := 7, ground := Ground.data }, { on := 15, ground := Ground.data }], guard := none }) (v := ?_) rfl (by kernel_rfl) (by kernel_rfl) (by kernel_rfl) (fun _ _ _ h => h) (Or.inl ⟨by rfl, ?_⟩) hS ?_; rotate_left; focus (intro w' s0; go_simp <;> try with_reducible rfl))
  try simp only [Act.put, List.setIfInBounds_toArray, List.set_cons_zero, List.set_cons_succ]
  (refine wpAnyH_take (i := 17) (oi := { dst := some 6, op := Op.assign (Operand.tmp 68), type := 4, pos := "law.go:26", after := #[{ on := 16, ground := Ground.data }, { on := 15, ground := Ground.chain }, { on := 0, ground := Ground.phase }, { on := 1, ground := Ground.phase }, { on := 2, ground := Ground.phase }, { on := 3, ground := Ground.phase }, { on := 4, ground := Ground.phase }, { on := 5, ground := Ground.phase }, { on := 6, ground := Ground.phase }, { on := 7, ground := Ground.phase }, { on := 8, ground := Ground.phase }, { on := 9, ground := Ground.phase }, { on := 10, ground := Ground.phase }, { on := 11, ground := Ground.phase }, { on := 12, ground := Ground.phase }, { on := 13, ground := Ground.phase }, { on := 14, ground := Ground.phase }, { on := 15, ground := Ground.phase }, { on := 16, ground := Ground.phase }], guard := none }) (v := ?_) rfl (by kernel_rfl) (by kernel_rfl) (by kernel_rfl) (fun _ _ _ h => h) (Or.inl ⟨by rfl, ?_⟩) hS ?_; rotate_left; focus (intro w' s0; go_simp <;> try with_reducible rfl))
  try simp only [Act.put, List.setIfInBounds_toArray, List.set_cons_zero, List.set_cons_succ]
  refine wpAnyH_done (by kernel_rfl) ?_ _
  go_wp2
  go_ret
  exact ⟨rfl, sB B off size a, sT B.length T off size, sB_len _ _ _ _, HO2.out, HR2.out, HF2.out⟩
set_option maxRecDepth 4000 in
set_option maxHeartbeats 4000000 in
theorem does_3 {w : World} {lo hi g g1 gb gt : Nat} {B : List Int} {T : List Bool} (o : Ob w lo hi g B T) (r : RM w g1 gb gt B T) (s1 : hi ≤ g1) (s2 : hi ≤ gb) (s3 : hi ≤ gt) (k off size a m : Int) (tag : Bool)
    (k0 : -9223372036854775808 ≤ k) (k1 : k < 9223372036854775808) (f0 : -9223372036854775808 ≤ off) (f1 : off < 9223372036854775808) (z0 : -9223372036854775808 ≤ size) (z1 : size < 9223372036854775808) (a0 : 0 ≤ a) (a1 : a < 18446744073709551616) (m0 : 0 ≤ m) (m1 : m < 18446744073709551616) (hk : k % 4 = 3) :
    Calls Tryd.prog 11 #[.pointer (some ⟨g, 0, none⟩), .pointer (some ⟨g1, 0, none⟩), .agg #[.int .i64 k, .int .i64 off, .int .i64 size, .bool tag, .int .u64 a, .int .u64 m]] w (DoesP w lo hi g g1 gb gt B.length) := by
  have hgb := r.bytes.lt
  have hgt := r.tags.lt
  have hg1 := r.blk.lt
  have hAA : At w.heap.size [.int .i64 k, .int .i64 off, .int .i64 size, .bool tag, .int .u64 a, .int .u64 m] (w.alloc (.cells #[.int .i64 k, .int .i64 off, .int .i64 size, .bool tag, .int .u64 a, .int .u64 m] 34)) := At.new w _ _
  have hF0 : Fr w (w.alloc (.cells #[.int .i64 k, .int .i64 off, .int .i64 size, .bool tag, .int .u64 a, .int .u64 m] 34)) (fun i => Rg lo hi i ∨ i = gb ∨ i = gt) := (Fr.refl _ _).alloc _
  have hO0 : Ob (w.alloc (.cells #[.int .i64 k, .int .i64 off, .int .i64 size, .bool tag, .int .u64 a, .int .u64 m] 34)) lo hi g B T := o.fr ((Fr.refl w (fun _ => False)).alloc _) (fun _ _ _ h => h)
  have hR0 : RM (w.alloc (.cells #[.int .i64 k, .int .i64 off, .int .i64 size, .bool tag, .int .u64 a, .int .u64 m] 34)) g1 gb gt B T := r.fr ((Fr.refl w (fun _ => False)).alloc _) id id id
  have HK := Lib.hid hk
  have HA0 := Lib.hid hAA
  have HF0 := Lib.hid hF0
  have HO0 := Lib.hid hO0
  have HR0 := Lib.hid hR0
  clear o r hk hAA hF0 hO0 hR0
  go_enter Tryd.func11, Tryd.ntmps11
  go_upto_region 12 with (go_at_call 19; (with_reducible refine (pick_at k 4 _ HK.out k0 k1 (by decide) (by decide) _).mono ?_); rintro e' wp ⟨rfl, rfl⟩)
  have hA := HA0.out
  generalize hgw : (w.alloc (.cells #[.int .i64 k, .int .i64 off, .int .i64 size, .bool tag, .int .u64 a, .int .u64 m] 34)) = gw at hA HO0 HR0 HF0 ⊢
  have hgs : w.heap.size < gw.heap.size := by rw [← hgw]; simp
  clear hgw
  refine wp_region_held_drew (S := fun w' => At (w.heap.size) [.int .i64 k, .int .i64 off, .int .i64 size, .bool tag, .int .u64 a, .int .u64 m] w') (by kernel_rfl) (hA.drew) (fun hS => ?_)
  have HOd := Lib.hid (HO0.out.fr (Fr.drew (Fr.refl gw (fun _ => False))) (fun _ _ _ h => h))
  have HRd := Lib.hid (HR0.out.fr (Fr.drew (Fr.refl gw (fun _ => False))) id id id)
  have HFd := Lib.hid HF0.out.drew
  have hgs2 : w.heap.size < gw.drew.heap.size := hgs
  have hhi := HOd.out.top
  generalize gw.drew = g0 at hS HOd HRd HFd hgs2 hhi ⊢
  (refine wpAnyH_take (i := 0) (oi := { dst := some 107, op := Op.move (Operand.tmp 0), type := 23, pos := "law.go:32", after := #[], guard := none }) (v := ?_) rfl (by kernel_rfl) (by kernel_rfl) (by kernel_rfl) (fun _ _ _ h => h) (Or.inl ⟨by rfl, ?_⟩) hS ?_; rotate_left; focus (intro w' s0; go_simp <;> try with_reducible rfl))
  try simp only [Act.put, List.setIfInBounds_toArray, List.set_cons_zero, List.set_cons_succ]
  (refine wpAnyH_take (i := 1) (oi := { dst := some 108, op := Op.fieldAddr 34 (Operand.tmp 5) 1, type := 0, pos := "law.go:32", after := #[], guard := none }) (v := ?_) rfl (by kernel_rfl) (by kernel_rfl) (by kernel_rfl) (fun _ _ _ h => h) (Or.inl ⟨by rfl, ?_⟩) hS ?_; rotate_left; focus (intro w' s0; go_simp <;> try with_reducible rfl))
  try simp only [Act.put, List.setIfInBounds_toArray, List.set_cons_zero, List.set_cons_succ]
  (refine wpAnyH_take (i := 2) (oi := { dst := some 109, op := Op.load 3 (Operand.tmp 108), type := 3, pos := "law.go:32", after := #[{ on := 1, ground := Ground.data }], guard := none }) (v := ?_) rfl (by kernel_rfl) (by kernel_rfl) (by kernel_rfl) (fun _ _ _ h => h) (Or.inl ⟨by rfl, ?_⟩) hS ?_; rotate_left; focus (intro w' s0; have c_0 := s0 0 _ rfl; have c_1 := s0 1 _ rfl; have c_2 := s0 2 _ rfl; have c_3 := s0 3 _ rfl; have c_4 := s0 4 _ rfl; have c_5 := s0 5 _ rfl; go_simp <;> try with_reducible rfl))
  try simp only [Act.put, List.setIfInBounds_toArray, List.set_cons_zero, List.set_cons_succ]
  (refine wpAnyH_take (i := 3) (oi := { dst := some 110, op := Op.fieldAddr 34 (Operand.tmp 5) 3, type := 0, pos := "law.go:32", after := #[], guard := none }) (v := ?_) rfl (by kernel_rfl) (by kernel_rfl) (by kernel_rfl) (fun _ _ _ h => h) (Or.inl ⟨by rfl, ?_⟩) hS ?_; rotate_left; focus (intro w' s0; go_simp <;> try with_reducible rfl))
  try simp only [Act.put, List.setIfInBounds_toArray, List.set_cons_zero, List.set_cons_succ]
  (refine wpAnyH_take (i := 4) (oi := { dst := some 111, op := Op.load 4 (Operand.tmp 110), type := 4, pos := "law.go:32", after := #[{ on := 3, ground := Ground.data }], guard := none }) (v := ?_) rfl (by kernel_rfl) (by kernel_rfl) (by kernel_rfl) (fun _ _ _ h => h) (Or.inl ⟨by rfl, ?_⟩) hS ?_; rotate_left; focus (intro w' s0; have c_0 := s0 0 _ rfl; have c_1 := s0 1 _ rfl; have c_2 := s0 2 _ rfl; have c_3 := s0 3 _ rfl; have c_4 := s0 4 _ rfl; have c_5 := s0 5 _ rfl; go_simp <;> try with_reducible rfl))
  try simp only [Act.put, List.setIfInBounds_toArray, List.set_cons_zero, List.set_cons_succ]
  (refine wpAnyH_take (i := 5) (oi := { dst := some 112, op := Op.fieldAddr 34 (Operand.tmp 5) 4, type := 0, pos := "law.go:32", after := #[], guard := none }) (v := ?_) rfl (by kernel_rfl) (by kernel_rfl) (by kernel_rfl) (fun _ _ _ h => h) (Or.inl ⟨by rfl, ?_⟩) hS ?_; rotate_left; focus (intro w' s0; go_simp <;> try with_reducible rfl))
  try simp only [Act.put, List.setIfInBounds_toArray, List.set_cons_zero, List.set_cons_succ]
  (refine wpAnyH_take (i := 6) (oi := { dst := some 113, op := Op.load 32 (Operand.tmp 112), type := 32, pos := "law.go:32", after := #[{ on := 5, ground := Ground.data }], guard := none }) (v := ?_) rfl (by kernel_rfl) (by kernel_rfl) (by kernel_rfl) (fun _ _ _ h => h) (Or.inl ⟨by rfl, ?_⟩) hS ?_; rotate_left; focus (intro w' s0; have c_0 := s0 0 _ rfl; have c_1 := s0 1 _ rfl; have c_2 := s0 2 _ rfl; have c_3 := s0 3 _ rfl; have c_4 := s0 4 _ rfl; have c_5 := s0 5 _ rfl; go_simp <;> try with_reducible rfl))
  try simp only [Act.put, List.setIfInBounds_toArray, List.set_cons_zero, List.set_cons_succ]
  (refine wpAnyH_take (i := 7) (oi := { dst := some 114, op := Op.fieldAddr 34 (Operand.tmp 5) 5, type := 0, pos := "law.go:32", after := #[], guard := none }) (v := ?_) rfl (by kernel_rfl) (by kernel_rfl) (by kernel_rfl) (fun _ _ _ h => h) (Or.inl ⟨by rfl, ?_⟩) hS ?_; rotate_left; focus (intro w' s0; go_simp <;> try with_reducible rfl))
  try simp only [Act.put, List.setIfInBounds_toArray, List.set_cons_zero, List.set_cons_succ]
  (refine wpAnyH_take (i := 8) (oi := { dst := some 115, op := Op.load 32 (Operand.tmp 114), type := 32, pos := "law.go:32", after := #[{ on := 7, ground := Ground.data }], guard := none }) (v := ?_) rfl (by kernel_rfl) (by kernel_rfl) (by kernel_rfl) (fun _ _ _ h => h) (Or.inl ⟨by rfl, ?_⟩) hS ?_; rotate_left; focus (intro w' s0; have c_0 := s0 0 _ rfl; have c_1 := s0 1 _ rfl; have c_2 := s0 2 _ rfl; have c_3 := s0 3 _ rfl; have c_4 := s0 4 _ rfl; have c_5 := s0 5 _ rfl; go_simp <;> try with_reducible rfl))
  try simp only [Act.put, List.setIfInBounds_toArray, List.set_cons_zero, List.set_cons_succ]
  (refine wpAnyH_take (i := 10) (oi := { dst := some 117, op := Op.move (Operand.tmp 1), type := 27, pos := "law.go:32", after := #[], guard := none }) (v := ?_) rfl (by kernel_rfl) (by kernel_rfl) (by kernel_rfl) (fun _ _ _ h => h) (Or.inl ⟨by rfl, ?_⟩) hS ?_; rotate_left; focus (intro w' s0; go_simp <;> try with_reducible rfl))
  try simp only [Act.put, List.setIfInBounds_toArray, List.set_cons_zero, List.set_cons_succ]
  (refine wpAnyH_take (i := 11) (oi := { dst := some 118, op := Op.fieldAddr 34 (Operand.tmp 5) 1, type := 0, pos := "law.go:32", after := #[], guard := none }) (v := ?_) rfl (by kernel_rfl) (by kernel_rfl) (by kernel_rfl) (fun _ _ _ h => h) (Or.inl ⟨by rfl, ?_⟩) hS ?_; rotate_left; focus (intro w' s0; go_simp <;> try with_reducible rfl))
  try simp only [Act.put, List.setIfInBounds_toArray, List.set_cons_zero, List.set_cons_succ]
  (refine wpAnyH_take (i := 12) (oi := { dst := some 119, op := Op.load 3 (Operand.tmp 118), type := 3, pos := "law.go:32", after := #[{ on := 11, ground := Ground.data }], guard := none }) (v := ?_) rfl (by kernel_rfl) (by kernel_rfl) (by kernel_rfl) (fun _ _ _ h => h) (Or.inl ⟨by rfl, ?_⟩) hS ?_; rotate_left; focus (intro w' s0; have c_0 := s0 0 _ rfl; have c_1 := s0 1 _ rfl; have c_2 := s0 2 _ rfl; have c_3 := s0 3 _ rfl; have c_4 := s0 4 _ rfl; have c_5 := s0 5 _ rfl; go_simp <;> try with_reducible rfl))
  try simp only [Act.put, List.setIfInBounds_toArray, List.set_cons_zero, List.set_cons_succ]
  (refine wpAnyH_take (i := 13) (oi := { dst := some 120, op := Op.fieldAddr 34 (Operand.tmp 5) 3, type := 0, pos := "law.go:32", after := #[], guard := none }) (v := ?_) rfl (by kernel_rfl) (by kernel_rfl) (by kernel_rfl) (fun _ _ _ h => h) (Or.inl ⟨by rfl, ?_⟩) hS ?_; rotate_left; focus (intro w' s0; go_simp <;> try with_reducible rfl))
  try simp only [Act.put, List.setIfInBounds_toArray, List.set_cons_zero, List.set_cons_succ]
  (refine wpAnyH_take (i := 14) (oi := { dst := some 121, op := Op.load 4 (Operand.tmp 120), type := 4, pos := "law.go:32", after := #[{ on := 13, ground := Ground.data }], guard := none }) (v := ?_) rfl (by kernel_rfl) (by kernel_rfl) (by kernel_rfl) (fun _ _ _ h => h) (Or.inl ⟨by rfl, ?_⟩) hS ?_; rotate_left; focus (intro w' s0; have c_0 := s0 0 _ rfl; have c_1 := s0 1 _ rfl; have c_2 := s0 2 _ rfl; have c_3 := s0 3 _ rfl; have c_4 := s0 4 _ rfl; have c_5 := s0 5 _ rfl; go_simp <;> try with_reducible rfl))
  try simp only [Act.put, List.setIfInBounds_toArray, List.set_cons_zero, List.set_cons_succ]
  (refine wpAnyH_take (i := 15) (oi := { dst := some 122, op := Op.fieldAddr 34 (Operand.tmp 5) 4, type := 0, pos := "law.go:32", after := #[], guard := none }) (v := ?_) rfl (by kernel_rfl) (by kernel_rfl) (by kernel_rfl) (fun _ _ _ h => h) (Or.inl ⟨by rfl, ?_⟩) hS ?_; rotate_left; focus (intro w' s0; go_simp <;> try with_reducible rfl))
  try simp only [Act.put, List.setIfInBounds_toArray, List.set_cons_zero, List.set_cons_succ]
  (refine wpAnyH_take (i := 16) (oi := { dst := some 123, op := Op.load 32 (Operand.tmp 122), type := 32, pos := "law.go:32", after := #[{ on := 15, ground := Ground.data }], guard := none }) (v := ?_) rfl (by kernel_rfl) (by kernel_rfl) (by kernel_rfl) (fun _ _ _ h => h) (Or.inl ⟨by rfl, ?_⟩) hS ?_; rotate_left; focus (intro w' s0; have c_0 := s0 0 _ rfl; have c_1 := s0 1 _ rfl; have c_2 := s0 2 _ rfl; have c_3 := s0 3 _ rfl; have c_4 := s0 4 _ rfl; have c_5 := s0 5 _ rfl; go_simp <;> try with_reducible rfl))
  try simp only [Act.put, List.setIfInBounds_toArray, List.set_cons_zero, List.set_cons_succ]
  (refine wpAnyH_take (i := 17) (oi := { dst := some 124, op := Op.fieldAddr 34 (Operand.tmp 5) 5, type := 0, pos := "law.go:32", after := #[], guard := none }) (v := ?_) rfl (by kernel_rfl) (by kernel_rfl) (by kernel_rfl) (fun _ _ _ h => h) (Or.inl ⟨by rfl, ?_⟩) hS ?_; rotate_left; focus (intro w' s0; go_simp <;> try with_reducible rfl))
  try simp only [Act.put, List.setIfInBounds_toArray, List.set_cons_zero, List.set_cons_succ]
  (refine wpAnyH_take (i := 18) (oi := { dst := some 125, op := Op.load 32 (Operand.tmp 124), type := 32, pos := "law.go:32", after := #[{ on := 17, ground := Ground.data }], guard := none }) (v := ?_) rfl (by kernel_rfl) (by kernel_rfl) (by kernel_rfl) (fun _ _ _ h => h) (Or.inl ⟨by rfl, ?_⟩) hS ?_; rotate_left; focus (intro w' s0; have c_0 := s0 0 _ rfl; have c_1 := s0 1 _ rfl; have c_2 := s0 2 _ rfl; have c_3 := s0 3 _ rfl; have c_4 := s0 4 _ rfl; have c_5 := s0 5 _ rfl; go_simp <;> try with_reducible rfl))
  try simp only [Act.put, List.setIfInBounds_toArray, List.set_cons_zero, List.set_cons_succ]
  refine wpAnyH_ready (rs := [9]) (by kernel_rfl) (by simp) ?_
  refine AllReadyH.cons (o := { dst := some 116, op := Op.call { callee := Callee.value (Operand.func 20), args := #[Operand.tmp 107, Operand.tmp 109, Operand.tmp 111, Operand.tmp 113, Operand.tmp 115], argTypes := #[23, 3, 4, 32, 32] }, type := 4, pos := "law.go:32", after := #[{ on := 0, ground := Ground.data }, { on := 2, ground := Ground.data }, { on := 4, ground := Ground.data }, { on := 6, ground := Ground.data }, { on := 8, ground := Ground.data }], guard := none }) rfl (fun K hK => ?_) AllReadyH.nil
  refine take_if (by rfl) ?_
  go_simp
  (with_reducible refine (cstorecap_w HOd.out off tag a m f0 f1 a0 a1 m0 m1).mono ?_)
  rintro e' w1 ⟨rfl, o1, fr1⟩
  have hS2 : At (w.heap.size) [.int .i64 k, .int .i64 off, .int .i64 size, .bool tag, .int .u64 a, .int .u64 m] w1 := hS.frm fr1 hgs2 (fun x => by unfold Rg at x; omega)
  have hw1 := fr1.size
  have HO1 := Lib.hid o1
  have HR1 := Lib.hid (HRd.out.fr fr1 (fun x => by unfold Rg at x; omega) (fun x => by unfold Rg at x; omega) (fun x => by unfold Rg at x; omega))
  have HF1 := Lib.hid (HFd.out.trans fr1 (fun _ _ x => .inl x))
  clear o1 fr1
  refine hK.out _ _ hS2 (fun hS => ?_)
  clear hK K hS2
  try simp only [Act.put, List.setIfInBounds_toArray, List.set_cons_zero, List.set_cons_succ]
  refine wpAnyH_ready (rs := [19]) (by kernel_rfl) (by simp) ?_
  refine AllReadyH.cons (o := { dst := some 126, op := Op.call { callee := Callee.value (Operand.func 25), args := #[Operand.tmp 117, Operand.tmp 119, Operand.tmp 121, Operand.tmp 123, Operand.tmp 125], argTypes := #[27, 3, 4, 32, 32] }, type := 4, pos := "law.go:32", after := #[{ on := 10, ground := Ground.data }, { on := 12, ground := Ground.data }, { on := 14, ground := Ground.data }, { on := 16, ground := Ground.data }, { on := 18, ground := Ground.data }, { on := 9, ground := Ground.chain }], guard := none }) rfl (fun K hK => ?_) AllReadyH.nil
  refine take_if (by rfl) ?_
  go_simp
  (with_reducible refine (rstorecap_w HR1.out off tag a m a0 a1 m0 m1).mono ?_)
  rintro e' w2 ⟨rfl, r2, fr2⟩
  have hS2 : At (w.heap.size) [.int .i64 k, .int .i64 off, .int .i64 size, .bool tag, .int .u64 a, .int .u64 m] w2 := hS.frm fr2 (by omega) (fun x => by omega)
  have HR2 := Lib.hid r2
  have HO2 := Lib.hid (HO1.out.fr fr2 (fun i h1 h2 x => by omega))
  have HF2 := Lib.hid (HF1.out.trans fr2 (fun _ _ x => .inr x))
  clear r2 fr2
  refine hK.out _ _ hS2 (fun hS => ?_)
  clear hK K hS2
  try simp only [Act.put, List.setIfInBounds_toArray, List.set_cons_zero, List.set_cons_succ]
  (refine wpAnyH_take (i := 20) (oi := { dst := some 127, op := Op.binOp BinOp.eql 4 (Operand.tmp 116) (Operand.tmp 126) 4, type := 4, pos := "law.go:32", after := #[{ on := 9, ground := Ground.data }, { on := 19, ground := Ground.data }], guard := none }) (v := ?_) rfl (by kernel_rfl) (by kernel_rfl) (by kernel_rfl) (fun _ _ _ h => h) (Or.inl ⟨by rfl, ?_⟩) hS ?_; rotate_left; focus (intro w' s0; go_simp <;> try with_reducible rfl))
  try simp only [Act.put, List.setIfInBounds_toArray, List.set_cons_zero, List.set_cons_succ]
  (refine wpAnyH_take (i := 21) (oi := { dst := some 6, op := Op.assign (Operand.tmp 127), type := 4, pos := "law.go:32", after := #[{ on := 20, ground := Ground.data }, { on := 19, ground := Ground.chain }, { on := 0, ground := Ground.phase }, { on := 1, ground := Ground.phase }, { on := 2, ground := Ground.phase }, { on := 3, ground := Ground.phase }, { on := 4, ground := Ground.phase }, { on := 5, ground := Ground.phase }, { on := 6, ground := Ground.phase }, { on := 7, ground := Ground.phase }, { on := 8, ground := Ground.phase }, { on := 9, ground := Ground.phase }, { on := 10, ground := Ground.phase }, { on := 11, ground := Ground.phase }, { on := 12, ground := Ground.phase }, { on := 13, ground := Ground.phase }, { on := 14, ground := Ground.phase }, { on := 15, ground := Ground.phase }, { on := 16, ground := Ground.phase }, { on := 17, ground := Ground.phase }, { on := 18, ground := Ground.phase }, { on := 19, ground := Ground.phase }, { on := 20, ground := Ground.phase }], guard := none }) (v := ?_) rfl (by kernel_rfl) (by kernel_rfl) (by kernel_rfl) (fun _ _ _ h => h) (Or.inl ⟨by rfl, ?_⟩) hS ?_; rotate_left; focus (intro w' s0; go_simp <;> try with_reducible rfl))
  try simp only [Act.put, List.setIfInBounds_toArray, List.set_cons_zero, List.set_cons_succ]
  refine wpAnyH_done (by kernel_rfl) ?_ _
  go_wp2
  go_ret
  exact ⟨rfl, cB B off a m, cT B.length T off tag, cB_len _ _ _ _, HO2.out, HR2.out, HF2.out⟩
/-- does, of anything. -/
theorem does_w {w : World} {lo hi g g1 gb gt : Nat} {B : List Int} {T : List Bool} (o : Ob w lo hi g B T) (r : RM w g1 gb gt B T) (s1 : hi ≤ g1) (s2 : hi ≤ gb) (s3 : hi ≤ gt) (k off size a m : Int) (tag : Bool)
    (k0 : -9223372036854775808 ≤ k) (k1 : k < 9223372036854775808) (f0 : -9223372036854775808 ≤ off) (f1 : off < 9223372036854775808) (z0 : -9223372036854775808 ≤ size) (z1 : size < 9223372036854775808) (a0 : 0 ≤ a) (a1 : a < 18446744073709551616) (m0 : 0 ≤ m) (m1 : m < 18446744073709551616) :
    Calls Tryd.prog 11 #[.pointer (some ⟨g, 0, none⟩), .pointer (some ⟨g1, 0, none⟩), .agg #[.int .i64 k, .int .i64 off, .int .i64 size, .bool tag, .int .u64 a, .int .u64 m]] w (DoesP w lo hi g g1 gb gt B.length) := by
  rcases (show k % 4 = 0 ∨ k % 4 = 1 ∨ k % 4 = 2 ∨ k % 4 = 3 by omega) with h | h | h | h
  · exact does_0 o r s1 s2 s3 k off size a m tag k0 k1 f0 f1 z0 z1 a0 a1 m0 m1 h
  · exact does_1 o r s1 s2 s3 k off size a m tag k0 k1 f0 f1 z0 z1 a0 a1 m0 m1 h
  · exact does_2 o r s1 s2 s3 k off size a m tag k0 k1 f0 f1 z0 z1 a0 a1 m0 m1 h
  · exact does_3 o r s1 s2 s3 k off size a m tag k0 k1 f0 f1 z0 z1 a0 a1 m0 m1 h
end Go.Proofs.YteebmikjikjhmaaDoor
