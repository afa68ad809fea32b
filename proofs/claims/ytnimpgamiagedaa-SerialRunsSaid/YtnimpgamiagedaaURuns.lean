/-
  SerialRuns of layer 14: whatever is called, both answer alike. No condition but what the calls lean on.
-/
import Derived.Test.YtnimpgamiagedaaUBoth
namespace Go.Proofs.Ytnimpgamiagedaa
open Go.ChangeShapes Go.WideShapes Go.ChangeAt Go.RowKit
set_option linter.unusedVariables false
set_option linter.unusedSimpArgs false
section
variable {w : World} {B g : Nat} {v : Value} {S : US}
theorem ruwaits_at (m : RU w B g v S) (n : Int) (hn : (S.l.length : Int) = n) : Calls Try.prog 26 #[.pointer (some ⟨g, 0, none⟩)] w fun e w' => e = .returned (.int .i64 n) ∧ Kp w w' := by subst hn; exact ruwaits_w m
theorem ruout_at (m : RU w B g v S) (n : Int) (hn : S.told = n) : Calls Try.prog 16 #[.pointer (some ⟨g, 0, none⟩)] w fun e w' => e = .returned (.int .i64 n) ∧ RU w' B g v S.out ∧ Fr w w' (fun i => i = g ∨ v.ownBlock = some i) := by subst hn; exact ruout_w m
theorem ruin_at (m : RU w B g v S) (ok : S.Ok) (hB : B ≤ w.heap.size) (b : Int) (r : Bool) (S' : US) (hr : S.inO = r) (hS : S.inp b = S') (b0 : 0 ≤ b) (b1 : b < 256) : Calls Try.prog 14 #[.pointer (some ⟨g, 0, none⟩), .int .u8 b] w fun e w' => e = .returned (.bool r) ∧ (∃ v', RU w' B g v' S' ∧ ∀ i, v'.ownBlock = some i → v.ownBlock = some i ∨ w.heap.size ≤ i) ∧ Fr w w' (fun i => i = g ∨ v.ownBlock = some i) := by subst hr hS; exact ruin_w m ok hB b b0 b1
theorem ruload_at (m : RU w B g v S) (ok : S.Ok) (hB : B ≤ w.heap.size) (off size x : Int) (b : Bool) (S' : US) (hx : S.ldV off size = x) (hb : rgU off size = b) (hS : S.ldS off size = S') : Calls Try.prog 18 #[.pointer (some ⟨g, 0, none⟩), .int .i64 off, .int .i64 size] w fun e w' => e = .returned (.tuple #[.int .u64 x, .bool b]) ∧ (∃ v', RU w' B g v' S' ∧ ∀ i, v'.ownBlock = some i → v.ownBlock = some i ∨ w.heap.size ≤ i) ∧ Fr w w' (fun i => i = g ∨ v.ownBlock = some i) := by subst hx hb hS; exact ruload_w m ok hB off size
theorem rustore_at (m : RU w B g v S) (off size x : Int) (b : Bool) (S' : US) (hb : rgU off size = b) (hS : S.stS off size x = S') (x0 : 0 ≤ x) (x1 : x < 18446744073709551616) : Calls Try.prog 20 #[.pointer (some ⟨g, 0, none⟩), .int .i64 off, .int .i64 size, .int .u64 x] w fun e w' => e = .returned (.bool b) ∧ RU w' B g v S' ∧ Fr w w' (fun i => i = g ∨ v.ownBlock = some i) := by subst hb hS; exact rustore_w m off size x x0 x1
theorem rwload_at (w : World) (g : Nat) (off size : Int) (b : Bool) (hb : pwO off size = b) : Calls Try.prog 22 #[.pointer (some ⟨g, 0, none⟩), .int .i64 off, .int .i64 size] w fun e w' => e = .returned (.tuple #[.int .u64 0, .bool b]) ∧ Kp w w' := by subst hb; exact rwload_w w g off size
theorem rwstore_at {p : Bool} (m : RW w g p) (off size x : Int) (b q : Bool) (hb : pwO off size = b) (hq : pwS p off size x = q) (x0 : 0 ≤ x) (x1 : x < 18446744073709551616) : Calls Try.prog 24 #[.pointer (some ⟨g, 0, none⟩), .int .i64 off, .int .i64 size, .int .u64 x] w fun e w' => e = .returned (.bool b) ∧ RW w' g q ∧ Fr w w' (fun i => i = g) := by subst hb hq; exact rwstore_w m off size x x0 x1
end
set_option maxRecDepth 100000 in
set_option maxHeartbeats 16000000 in
theorem runs14_w (l : List Uo) (A : Option Addr) (cap : Nat) (W : World) (hrd : RdUo W W.heap.size A l) (hraw : ∀ c ∈ l, c.Raw) (hlen : l.length ≤ 9223372036854775807) (tb : UTb W) :
    Calls Try.prog 3 #[.slice A l.length cap] W fun e w' => e = .returned (.bool true) ∧ Below W.heap.size W w' := by
  have HRD := Lib.hid hrd
  have HRAW := Lib.hid hraw
  have HTB := Lib.hid tb
  clear hrd hraw tb
  by_cases h400 : 400 < l.length
  · have d0 : decide (400 < (l.length : Int)) = true := by simp; omega
    clear HRD HRAW
    go_enter Try.func3, Try.ntmps3
    go_wp2_with (go_at_call 8; (with_reducible refine (works14_w _ HTB.out).mono ?_); rintro e' w1 ⟨rfl, b1⟩; have HZ := Lib.hid b1; clear b1)
    go_ret
    exact ⟨rfl, HZ.out⟩
  have d0 : decide (400 < (l.length : Int)) = false := by simp; omega
  go_enter Try.func3, Try.ntmps3
  go_wp2_with (first | (go_at_call 9; (with_reducible refine (cunew_w _ HTB.out).mono ?_); rintro e' w0 ⟨g, rfl, m0, b0⟩; have hs0 := b0.size; have HU0 := Lib.hid m0; have HB0 := Lib.hid b0; clear m0 b0) | (go_at_call 10; (with_reducible refine (runew_w _).mono ?_); rintro e' w1 ⟨g1, rfl, r1, b1, hg1⟩; have hs1 := b1.size; have HU1 := Lib.hid (HU0.out.below b1); have HR1 := Lib.hid r1; have HB1 := Lib.hid (HB0.out.trans (b1.mono hs0)); have hl1 := (r1 (g1 + 1) (by omega)).lt; clear r1 b1) | (go_at_call 11; (with_reducible refine (cpwnew_w _ (UTb.h1 HTB HB1)).mono ?_); rintro e' w2 ⟨g3, rfl, m2, b2⟩; have hs2 := b2.size; have HU2 := Lib.hid (HU1.out.below b2); have HR2 := Lib.hid (fun B h => (HR1.out B h).below b2); have HS2 := Lib.hid m2; have HB2 := Lib.hid (HB1.out.trans (b2.mono HB1.out.size)); clear m2 b2) | (go_at_call 12; (with_reducible refine (rwnew_w _).mono ?_); rintro e' w3 ⟨g4, rfl, r3, b3, hg4⟩; have hl4 := r3.lt; have H3 := Lib.hid (BU.mk (HU2.out.below b3) ((HR2.out w3.heap.size (by have := b3.size; omega)).below b3) (HS2.out.below b3) r3 (HB2.out.trans (b3.mono HB2.out.size)) hg1 (by omega) hg4 hl4 (Nat.le_refl _)); clear r3 b3))
  generalize hhi : w0.heap.size = hi at *
  generalize hlo3 : w1.heap.size = lo3 at *
  generalize hhi3 : w2.heap.size = hi3 at *
  generalize hhB : w3.heap.size = B at *
  clear hhi hlo3 hhi3 hhB HU0 HU1 HU2 HR1 HR2 HS2 HB0 HB1 HB2 hs0 hs1 hs2 hl1 hl4 hg1 hg4
  go_loopw [7] (fun i wr => ∃ (k : Nat) (S : US) (p : Bool) (v : Value), k ≤ l.length ∧ i = .int .i64 (k : Int) ∧ S.Ok ∧ BU W wr hi g g1 lo3 hi3 g3 g4 B v S S p p) (fun i _ => l.length - (intOf i).toNat)
  case atStart => exact ⟨0, US.new, false, _, Nat.zero_le _, rfl, US.new_ok, H3.out⟩
  case round =>
    clear H3
    obtain ⟨j, S, p, v, hk, rfl, ok, h⟩ := hrel
    obtain ⟨r1, r2, r3, r4, r5, r6, r7, r8, r9, r10, hvb0⟩ := h.ord
    have OK := Lib.hid ok
    have H := Lib.hid h
    have hL := HRD.out.below h.b
    clear ok h
    by_cases hlt : j < l.length
    · obtain ⟨bb, oo, rfl, hbb, c, hc, hrow⟩ := hL.at_ hlt
      obtain ⟨q0, q1, q2, q3⟩ := hrow.out
      have hraw := HRAW.out c (List.mem_of_getElem? hc)
      clear hrow hc hL
      obtain ⟨ck, coff, csize, cv⟩ := c
      dsimp only [Uo.Raw] at *
      obtain ⟨⟨k0, k1⟩, ⟨o0, o1⟩, ⟨z0, z1⟩, ⟨v0, v1⟩⟩ := hraw
      go_upto_region 13 with fail
      have hA5 := At.new wr [.int .i64 ck, .int .i64 coff, .int .i64 csize, .int .u64 cv] 34
      have H5 := Lib.hid (H.out.alloc (.cells #[.int .i64 ck, .int .i64 coff, .int .i64 csize, .int .u64 cv] 34))
      have hs5 : (wr.alloc (.cells #[.int .i64 ck, .int .i64 coff, .int .i64 csize, .int .u64 cv] 34)).heap.size = wr.heap.size + 1 := by simp
      have e5 : ([.int .i64 ck, .int .i64 coff, .int .i64 csize, .int .u64 cv] : List Value).toArray = #[.int .i64 ck, .int .i64 coff, .int .i64 csize, .int .u64 cv] := rfl
      rw [e5] at hA5
      clear e5
      generalize wr.alloc (.cells #[.int .i64 ck, .int .i64 coff, .int .i64 csize, .int .u64 cv] 34) = w5 at hA5 H5 hs5 ⊢
      obtain ⟨b, hb⟩ : ∃ b, wr.heap.size = b := ⟨_, rfl⟩
      rw [hb] at hA5 hs5 r9 r10 hvb0 ⊢
      have hvb : ∀ i, v.ownBlock = some i → i < b := fun i e => (hvb0 i e).2
      clear hb H q0 q1 q2 q3 hvb0
      have x0 := hA5 0 _ rfl
      have x1 := hA5 1 _ rfl
      have x2 := hA5 2 _ rfl
      have x3 := hA5 3 _ rfl
      have HA5 := Lib.hid hA5
      clear hA5
      rcases (show ck = 0 ∨ ck = 1 ∨ ck = 2 ∨ ck = 3 ∨ ck = 4 ∨ ck = 5 ∨ (¬ ck = 0 ∧ ¬ ck = 1 ∧ ¬ ck = 2 ∧ ¬ ck = 3 ∧ ¬ ck = 4 ∧ ¬ ck = 5) by omega) with rfl | rfl | rfl | rfl | rfl | rfl | ⟨h0, h1, h2, h3, h4, h5⟩
      · have hb0 : 0 ≤ cv % 256 := by omega
        have hb1 : cv % 256 < 256 := by omega
        have ew : IntKind.u8.wrap cv = cv % 256 := IntKind.wrap_u8' cv
        obtain ⟨y, hy⟩ : ∃ y, Hid (S.inO = y) := ⟨_, Lib.hid rfl⟩
        have ey : (y == y) = true := by simp
        go_upto_region 16 with fail
        have hA := HA5.out
        refine wp_region_held_drew (S := fun w' => At (b) [.int .i64 0, .int .i64 coff, .int .i64 csize, .int .u64 cv] w') (by kernel_rfl) (hA.drew) (fun hS => ?_)
        have Hd := Lib.hid H5.out.drew
        have hsd : w5.drew.heap.size = w5.heap.size := rfl
        generalize w5.drew = g0 at hS Hd hsd ⊢
        (refine wpAnyH_take (i := 0) (oi := { dst := some 46, op := Op.move (Operand.tmp 3), type := 24, pos := "law.go:32", after := #[], guard := none }) (v := ?_) rfl (by kernel_rfl) (by kernel_rfl) (by kernel_rfl) (fun _ _ _ h => h) (Or.inl ⟨by rfl, ?_⟩) hS ?_; rotate_left; focus (intro w' s0; go_simp <;> try with_reducible rfl))
        try simp only [Act.put, List.setIfInBounds_toArray, List.set_cons_zero, List.set_cons_succ]
        (refine wpAnyH_take (i := 1) (oi := { dst := some 47, op := Op.nilCheck (Operand.tmp 46), type := 0, pos := "law.go:32", after := #[{ on := 0, ground := Ground.data }], guard := none }) (v := ?_) rfl (by kernel_rfl) (by kernel_rfl) (by kernel_rfl) (fun _ _ _ h => h) (Or.inl ⟨by rfl, ?_⟩) hS ?_; rotate_left; focus (intro w' s0; go_simp <;> try with_reducible rfl))
        try simp only [Act.put, List.setIfInBounds_toArray, List.set_cons_zero, List.set_cons_succ]
        (refine wpAnyH_take (i := 2) (oi := { dst := some 48, op := Op.fieldAddr 40 (Operand.tmp 47) 0, type := 0, pos := "law.go:32", after := #[{ on := 1, ground := Ground.data }], guard := none }) (v := ?_) rfl (by kernel_rfl) (by kernel_rfl) (by kernel_rfl) (fun _ _ _ h => h) (Or.inl ⟨by rfl, ?_⟩) hS ?_; rotate_left; focus (intro w' s0; go_simp <;> try with_reducible rfl))
        try simp only [Act.put, List.setIfInBounds_toArray, List.set_cons_zero, List.set_cons_succ]
        (refine wpAnyH_take (i := 3) (oi := { dst := some 49, op := Op.fieldAddr 34 (Operand.tmp 8) 3, type := 0, pos := "law.go:32", after := #[], guard := none }) (v := ?_) rfl (by kernel_rfl) (by kernel_rfl) (by kernel_rfl) (fun _ _ _ h => h) (Or.inl ⟨by rfl, ?_⟩) hS ?_; rotate_left; focus (intro w' s0; go_simp <;> try with_reducible rfl))
        try simp only [Act.put, List.setIfInBounds_toArray, List.set_cons_zero, List.set_cons_succ]
        (refine wpAnyH_take (i := 4) (oi := { dst := some 50, op := Op.load 32 (Operand.tmp 49), type := 32, pos := "law.go:32", after := #[{ on := 3, ground := Ground.data }], guard := none }) (v := ?_) rfl (by kernel_rfl) (by kernel_rfl) (by kernel_rfl) (fun _ _ _ h => h) (Or.inl ⟨by rfl, ?_⟩) hS ?_; rotate_left; focus (intro w' s0; have c_0 := s0 0 _ rfl; have c_1 := s0 1 _ rfl; have c_2 := s0 2 _ rfl; have c_3 := s0 3 _ rfl; go_simp <;> try with_reducible rfl))
        try simp only [Act.put, List.setIfInBounds_toArray, List.set_cons_zero, List.set_cons_succ]
        (refine wpAnyH_take (i := 5) (oi := { dst := some 51, op := Op.convert 32 5 (Operand.tmp 50), type := 5, pos := "law.go:32", after := #[{ on := 4, ground := Ground.data }], guard := none }) (v := ?_) rfl (by kernel_rfl) (by kernel_rfl) (by kernel_rfl) (fun _ _ _ h => h) (Or.inl ⟨by rfl, ?_⟩) hS ?_; rotate_left; focus (intro w' s0; go_simp <;> try with_reducible rfl))
        try simp only [Act.put, List.setIfInBounds_toArray, List.set_cons_zero, List.set_cons_succ]
        (refine wpAnyH_take (i := 7) (oi := { dst := some 53, op := Op.move (Operand.tmp 4), type := 26, pos := "law.go:32", after := #[], guard := none }) (v := ?_) rfl (by kernel_rfl) (by kernel_rfl) (by kernel_rfl) (fun _ _ _ h => h) (Or.inl ⟨by rfl, ?_⟩) hS ?_; rotate_left; focus (intro w' s0; go_simp <;> try with_reducible rfl))
        try simp only [Act.put, List.setIfInBounds_toArray, List.set_cons_zero, List.set_cons_succ]
        (refine wpAnyH_take (i := 8) (oi := { dst := some 54, op := Op.fieldAddr 34 (Operand.tmp 8) 3, type := 0, pos := "law.go:32", after := #[], guard := none }) (v := ?_) rfl (by kernel_rfl) (by kernel_rfl) (by kernel_rfl) (fun _ _ _ h => h) (Or.inl ⟨by rfl, ?_⟩) hS ?_; rotate_left; focus (intro w' s0; go_simp <;> try with_reducible rfl))
        try simp only [Act.put, List.setIfInBounds_toArray, List.set_cons_zero, List.set_cons_succ]
        (refine wpAnyH_take (i := 9) (oi := { dst := some 55, op := Op.load 32 (Operand.tmp 54), type := 32, pos := "law.go:32", after := #[{ on := 8, ground := Ground.data }], guard := none }) (v := ?_) rfl (by kernel_rfl) (by kernel_rfl) (by kernel_rfl) (fun _ _ _ h => h) (Or.inl ⟨by rfl, ?_⟩) hS ?_; rotate_left; focus (intro w' s0; have c_0 := s0 0 _ rfl; have c_1 := s0 1 _ rfl; have c_2 := s0 2 _ rfl; have c_3 := s0 3 _ rfl; go_simp <;> try with_reducible rfl))
        try simp only [Act.put, List.setIfInBounds_toArray, List.set_cons_zero, List.set_cons_succ]
        (refine wpAnyH_take (i := 10) (oi := { dst := some 56, op := Op.convert 32 5 (Operand.tmp 55), type := 5, pos := "law.go:32", after := #[{ on := 9, ground := Ground.data }], guard := none }) (v := ?_) rfl (by kernel_rfl) (by kernel_rfl) (by kernel_rfl) (fun _ _ _ h => h) (Or.inl ⟨by rfl, ?_⟩) hS ?_; rotate_left; focus (intro w' s0; go_simp <;> try with_reducible rfl))
        try simp only [Act.put, List.setIfInBounds_toArray, List.set_cons_zero, List.set_cons_succ]
        refine wpAnyH_ready (rs := [6]) (by kernel_rfl) (by simp) ?_
        refine AllReadyH.cons (o := { dst := some 52, op := Op.call { callee := Callee.value (Operand.func 13), args := #[Operand.tmp 48, Operand.tmp 51], argTypes := #[38, 5] }, type := 4, pos := "law.go:32", after := #[{ on := 2, ground := Ground.data }, { on := 5, ground := Ground.data }], guard := none }) rfl (fun K hK => ?_) AllReadyH.nil
        refine take_if (by rfl) ?_
        go_simp
        (with_reducible refine (cuin_at Hd.out.u OK.out (UTb.h1 HTB (Lib.hid Hd.out.b)) (cv % 256) y _ hy.out rfl hb0 hb1).mono ?_)
        rintro e' w1 ⟨rfl, m1, f1⟩
        have hS2 : At (b) [.int .i64 0, .int .i64 coff, .int .i64 csize, .int .u64 cv] w1 := hS.fram f1 (by omega) (fun x => by unfold Rg at x; omega)
        have hs1 := f1.size
        have H1 := Lib.hid (Hd.out.uart m1 f1)
        clear m1 f1
        refine hK.out _ _ hS2 (fun hS => ?_)
        clear hK K hS2
        try simp only [Act.put, List.setIfInBounds_toArray, List.set_cons_zero, List.set_cons_succ]
        refine wpAnyH_ready (rs := [11]) (by kernel_rfl) (by simp) ?_
        refine AllReadyH.cons (o := { dst := some 57, op := Op.call { callee := Callee.value (Operand.func 14), args := #[Operand.tmp 53, Operand.tmp 56], argTypes := #[26, 5] }, type := 4, pos := "law.go:32", after := #[{ on := 7, ground := Ground.data }, { on := 10, ground := Ground.data }, { on := 6, ground := Ground.chain }], guard := none }) rfl (fun K hK => ?_) AllReadyH.nil
        refine take_if (by rfl) ?_
        go_simp
        (with_reducible refine (ruin_at H1.out.r OK.out H1.out.hB (cv % 256) y _ hy.out rfl hb0 hb1).mono ?_)
        rintro e' w2 ⟨rfl, ⟨v2, m2, hv2⟩, f2⟩
        have hS2 : At (b) [.int .i64 0, .int .i64 coff, .int .i64 csize, .int .u64 cv] w2 := hS.fram f2 (by omega) (fun x => by rcases x with x | x; omega; have := hvb _ x; omega)
        have hs2 := f2.size
        have H2 := Lib.hid (H1.out.ruart m2 f2)
        clear m2 f2 hv2
        refine hK.out _ _ hS2 (fun hS => ?_)
        clear hK K hS2
        try simp only [Act.put, List.setIfInBounds_toArray, List.set_cons_zero, List.set_cons_succ]
        (refine wpAnyH_take (i := 12) (oi := { dst := some 58, op := Op.binOp BinOp.eql 4 (Operand.tmp 52) (Operand.tmp 57) 4, type := 4, pos := "law.go:32", after := #[{ on := 6, ground := Ground.data }, { on := 11, ground := Ground.data }], guard := none }) (v := ?_) rfl (by kernel_rfl) (by kernel_rfl) (by kernel_rfl) (fun _ _ _ h => h) (Or.inl ⟨by rfl, ?_⟩) hS ?_; rotate_left; focus (intro w' s0; go_simp <;> try with_reducible rfl))
        try simp only [Act.put, List.setIfInBounds_toArray, List.set_cons_zero, List.set_cons_succ]
        (refine wpAnyH_take (i := 13) (oi := { dst := some 9, op := Op.assign (Operand.tmp 58), type := 4, pos := "law.go:32", after := #[{ on := 12, ground := Ground.data }, { on := 11, ground := Ground.chain }, { on := 0, ground := Ground.phase }, { on := 1, ground := Ground.phase }, { on := 2, ground := Ground.phase }, { on := 3, ground := Ground.phase }, { on := 4, ground := Ground.phase }, { on := 5, ground := Ground.phase }, { on := 6, ground := Ground.phase }, { on := 7, ground := Ground.phase }, { on := 8, ground := Ground.phase }, { on := 9, ground := Ground.phase }, { on := 10, ground := Ground.phase }, { on := 11, ground := Ground.phase }, { on := 12, ground := Ground.phase }], guard := none }) (v := ?_) rfl (by kernel_rfl) (by kernel_rfl) (by kernel_rfl) (fun _ _ _ h => h) (Or.inl ⟨by rfl, ?_⟩) hS ?_; rotate_left; focus (intro w' s0; go_simp <;> try with_reducible rfl))
        try simp only [Act.put, List.setIfInBounds_toArray, List.set_cons_zero, List.set_cons_succ]
        refine wpAnyH_done (by kernel_rfl) ?_ _
        clear hS
        obtain ⟨S6, hS6⟩ : ∃ S6, S6 = S.inp (cv % 256) := ⟨_, rfl⟩
        rw [← hS6] at H2
        have OK6 : Hid S6.Ok := Lib.hid (by rw [hS6]; exact OK.out.inp _ hb0 hb1)
        clear hS6
        obtain ⟨nn, hnn⟩ : ∃ nn, Hid (((S6).l.length : Int) = nn) := ⟨_, Lib.hid rfl⟩
        have en : (nn != nn) = false := by simp
        have ep : (p != p) = false := by simp
        go_wp2_with (first | (go_at_call 25; (with_reducible refine (cuwaits_at H2.out.u OK6.out (UTb.h1 HTB (Lib.hid H2.out.b)) nn hnn.out).mono ?_); rintro e' w90 ⟨rfl, m90, f90⟩; have hs90 := f90.size; have H90 := Lib.hid (H2.out.uart m90 f90); clear m90 f90) | (go_at_call 26; (with_reducible refine (ruwaits_at H90.out.r nn hnn.out).mono ?_); rintro e' w91 ⟨rfl, k91⟩; have hs91 := k91.1.size; have H91 := Lib.hid (H90.out.kp k91); clear k91) | (go_at_call 27; (with_reducible refine (cpwoff_w H91.out.s (UTb.h1 HTB (Lib.hid H91.out.b)) ).mono ?_); rintro e' w92 ⟨rfl, m92, f92⟩; have hs92 := f92.size; have H92 := Lib.hid (H91.out.power m92 f92); clear m92 f92) | (go_at_call 28; (with_reducible refine (rwoff_w H92.out.y ).mono ?_); rintro e' w93 ⟨rfl, k93⟩; have hs93 := k93.1.size; have H93 := Lib.hid (H92.out.kp k93); clear k93))
        go_roundw
        case rel => exact ⟨j + 1, S6, p, v2, by omega, by go_num, OK6.out, H93.out⟩
        case measure => simp [intOf]; omega
      · obtain ⟨y, hy⟩ : ∃ y, Hid (S.told = y) := ⟨_, Lib.hid rfl⟩
        have ey : (y == y) = true := by simp
        go_upto_region 31 with (first | (go_at_call 15; (with_reducible refine (cuout_at H5.out.u OK.out (UTb.h1 HTB (Lib.hid H5.out.b)) y _ hy.out rfl).mono ?_); rintro e' w1 ⟨rfl, m1, f1⟩; have hs1 := f1.size; have H1 := Lib.hid (H5.out.uart m1 f1); have HA1 := Lib.hid (HA5.out.fram f1 (by omega) (fun x => by unfold Rg at x; omega)); have x1_1 := HA1.out 1 _ rfl; have x1_2 := HA1.out 2 _ rfl; have x1_3 := HA1.out 3 _ rfl; clear m1 f1) | (go_at_call 16; (with_reducible refine (ruout_at H1.out.r y hy.out).mono ?_); rintro e' w2 ⟨rfl, m2, f2⟩; have hs2 := f2.size; have H2 := Lib.hid (H1.out.ruart m2 f2); clear m2 f2))
        obtain ⟨S6, hS6⟩ : ∃ S6, S6 = S.out := ⟨_, rfl⟩
        rw [← hS6] at H2
        have OK6 : Hid S6.Ok := Lib.hid (by rw [hS6]; exact OK.out.out)
        clear hS6
        obtain ⟨nn, hnn⟩ : ∃ nn, Hid (((S6).l.length : Int) = nn) := ⟨_, Lib.hid rfl⟩
        have en : (nn != nn) = false := by simp
        have ep : (p != p) = false := by simp
        go_wp2_with (first | (go_at_call 25; (with_reducible refine (cuwaits_at H2.out.u OK6.out (UTb.h1 HTB (Lib.hid H2.out.b)) nn hnn.out).mono ?_); rintro e' w90 ⟨rfl, m90, f90⟩; have hs90 := f90.size; have H90 := Lib.hid (H2.out.uart m90 f90); clear m90 f90) | (go_at_call 26; (with_reducible refine (ruwaits_at H90.out.r nn hnn.out).mono ?_); rintro e' w91 ⟨rfl, k91⟩; have hs91 := k91.1.size; have H91 := Lib.hid (H90.out.kp k91); clear k91) | (go_at_call 27; (with_reducible refine (cpwoff_w H91.out.s (UTb.h1 HTB (Lib.hid H91.out.b)) ).mono ?_); rintro e' w92 ⟨rfl, m92, f92⟩; have hs92 := f92.size; have H92 := Lib.hid (H91.out.power m92 f92); clear m92 f92) | (go_at_call 28; (with_reducible refine (rwoff_w H92.out.y ).mono ?_); rintro e' w93 ⟨rfl, k93⟩; have hs93 := k93.1.size; have H93 := Lib.hid (H92.out.kp k93); clear k93))
        go_roundw
        case rel => exact ⟨j + 1, S6, p, v, by omega, by go_num, OK6.out, H93.out⟩
        case measure => simp [intOf]; omega
      · obtain ⟨x, hx⟩ : ∃ x, Hid (S.ldV coff csize = x) := ⟨_, Lib.hid rfl⟩
        have ex : (x == x) = true := by simp
        obtain ⟨y, hy⟩ : ∃ y, Hid (rgU coff csize = y) := ⟨_, Lib.hid rfl⟩
        have ey : (y == y) = true := by simp
        go_upto_region 31 with (first | (go_at_call 17; (with_reducible refine (cuload_at H5.out.u OK.out (UTb.h1 HTB (Lib.hid H5.out.b)) coff csize x y _ hx.out hy.out rfl o0 o1 z0 z1).mono ?_); rintro e' w1 ⟨rfl, m1, f1⟩; have hs1 := f1.size; have H1 := Lib.hid (H5.out.uart m1 f1); have HA1 := Lib.hid (HA5.out.fram f1 (by omega) (fun x => by unfold Rg at x; omega)); have x1_1 := HA1.out 1 _ rfl; have x1_2 := HA1.out 2 _ rfl; have x1_3 := HA1.out 3 _ rfl; clear m1 f1) | (go_at_call 18; (with_reducible refine (ruload_at H1.out.r OK.out H1.out.hB coff csize x y _ hx.out hy.out rfl).mono ?_); rintro e' w2 ⟨rfl, ⟨v2, m2, hv2⟩, f2⟩; have hs2 := f2.size; have H2 := Lib.hid (H1.out.ruart m2 f2); clear m2 f2 hv2))
        obtain ⟨S6, hS6⟩ : ∃ S6, S6 = S.ldS coff csize := ⟨_, rfl⟩
        rw [← hS6] at H2
        have OK6 : Hid S6.Ok := Lib.hid (by rw [hS6]; exact OK.out.ldS _ _)
        clear hS6
        obtain ⟨nn, hnn⟩ : ∃ nn, Hid (((S6).l.length : Int) = nn) := ⟨_, Lib.hid rfl⟩
        have en : (nn != nn) = false := by simp
        have ep : (p != p) = false := by simp
        go_wp2_with (first | (go_at_call 25; (with_reducible refine (cuwaits_at H2.out.u OK6.out (UTb.h1 HTB (Lib.hid H2.out.b)) nn hnn.out).mono ?_); rintro e' w90 ⟨rfl, m90, f90⟩; have hs90 := f90.size; have H90 := Lib.hid (H2.out.uart m90 f90); clear m90 f90) | (go_at_call 26; (with_reducible refine (ruwaits_at H90.out.r nn hnn.out).mono ?_); rintro e' w91 ⟨rfl, k91⟩; have hs91 := k91.1.size; have H91 := Lib.hid (H90.out.kp k91); clear k91) | (go_at_call 27; (with_reducible refine (cpwoff_w H91.out.s (UTb.h1 HTB (Lib.hid H91.out.b)) ).mono ?_); rintro e' w92 ⟨rfl, m92, f92⟩; have hs92 := f92.size; have H92 := Lib.hid (H91.out.power m92 f92); clear m92 f92) | (go_at_call 28; (with_reducible refine (rwoff_w H92.out.y ).mono ?_); rintro e' w93 ⟨rfl, k93⟩; have hs93 := k93.1.size; have H93 := Lib.hid (H92.out.kp k93); clear k93))
        go_roundw
        case rel => exact ⟨j + 1, S6, p, v2, by omega, by go_num, OK6.out, H93.out⟩
        case measure => simp [intOf]; omega
      · obtain ⟨y, hy⟩ : ∃ y, Hid (rgU coff csize = y) := ⟨_, Lib.hid rfl⟩
        have ey : (y == y) = true := by simp
        go_upto_region 24 with fail
        have hA := HA5.out
        refine wp_region_held_drew (S := fun w' => At (b) [.int .i64 3, .int .i64 coff, .int .i64 csize, .int .u64 cv] w') (by kernel_rfl) (hA.drew) (fun hS => ?_)
        have Hd := Lib.hid H5.out.drew
        have hsd : w5.drew.heap.size = w5.heap.size := rfl
        generalize w5.drew = g0 at hS Hd hsd ⊢
        (refine wpAnyH_take (i := 0) (oi := { dst := some 96, op := Op.move (Operand.tmp 3), type := 24, pos := "law.go:40", after := #[], guard := none }) (v := ?_) rfl (by kernel_rfl) (by kernel_rfl) (by kernel_rfl) (fun _ _ _ h => h) (Or.inl ⟨by rfl, ?_⟩) hS ?_; rotate_left; focus (intro w' s0; go_simp <;> try with_reducible rfl))
        try simp only [Act.put, List.setIfInBounds_toArray, List.set_cons_zero, List.set_cons_succ]
        (refine wpAnyH_take (i := 1) (oi := { dst := some 97, op := Op.fieldAddr 34 (Operand.tmp 8) 1, type := 0, pos := "law.go:40", after := #[], guard := none }) (v := ?_) rfl (by kernel_rfl) (by kernel_rfl) (by kernel_rfl) (fun _ _ _ h => h) (Or.inl ⟨by rfl, ?_⟩) hS ?_; rotate_left; focus (intro w' s0; go_simp <;> try with_reducible rfl))
        try simp only [Act.put, List.setIfInBounds_toArray, List.set_cons_zero, List.set_cons_succ]
        (refine wpAnyH_take (i := 2) (oi := { dst := some 98, op := Op.load 3 (Operand.tmp 97), type := 3, pos := "law.go:40", after := #[{ on := 1, ground := Ground.data }], guard := none }) (v := ?_) rfl (by kernel_rfl) (by kernel_rfl) (by kernel_rfl) (fun _ _ _ h => h) (Or.inl ⟨by rfl, ?_⟩) hS ?_; rotate_left; focus (intro w' s0; have c_0 := s0 0 _ rfl; have c_1 := s0 1 _ rfl; have c_2 := s0 2 _ rfl; have c_3 := s0 3 _ rfl; go_simp <;> try with_reducible rfl))
        try simp only [Act.put, List.setIfInBounds_toArray, List.set_cons_zero, List.set_cons_succ]
        (refine wpAnyH_take (i := 3) (oi := { dst := some 99, op := Op.fieldAddr 34 (Operand.tmp 8) 2, type := 0, pos := "law.go:40", after := #[], guard := none }) (v := ?_) rfl (by kernel_rfl) (by kernel_rfl) (by kernel_rfl) (fun _ _ _ h => h) (Or.inl ⟨by rfl, ?_⟩) hS ?_; rotate_left; focus (intro w' s0; go_simp <;> try with_reducible rfl))
        try simp only [Act.put, List.setIfInBounds_toArray, List.set_cons_zero, List.set_cons_succ]
        (refine wpAnyH_take (i := 4) (oi := { dst := some 100, op := Op.load 3 (Operand.tmp 99), type := 3, pos := "law.go:40", after := #[{ on := 3, ground := Ground.data }], guard := none }) (v := ?_) rfl (by kernel_rfl) (by kernel_rfl) (by kernel_rfl) (fun _ _ _ h => h) (Or.inl ⟨by rfl, ?_⟩) hS ?_; rotate_left; focus (intro w' s0; have c_0 := s0 0 _ rfl; have c_1 := s0 1 _ rfl; have c_2 := s0 2 _ rfl; have c_3 := s0 3 _ rfl; go_simp <;> try with_reducible rfl))
        try simp only [Act.put, List.setIfInBounds_toArray, List.set_cons_zero, List.set_cons_succ]
        (refine wpAnyH_take (i := 5) (oi := { dst := some 101, op := Op.fieldAddr 34 (Operand.tmp 8) 3, type := 0, pos := "law.go:40", after := #[], guard := none }) (v := ?_) rfl (by kernel_rfl) (by kernel_rfl) (by kernel_rfl) (fun _ _ _ h => h) (Or.inl ⟨by rfl, ?_⟩) hS ?_; rotate_left; focus (intro w' s0; go_simp <;> try with_reducible rfl))
        try simp only [Act.put, List.setIfInBounds_toArray, List.set_cons_zero, List.set_cons_succ]
        (refine wpAnyH_take (i := 6) (oi := { dst := some 102, op := Op.load 32 (Operand.tmp 101), type := 32, pos := "law.go:40", after := #[{ on := 5, ground := Ground.data }], guard := none }) (v := ?_) rfl (by kernel_rfl) (by kernel_rfl) (by kernel_rfl) (fun _ _ _ h => h) (Or.inl ⟨by rfl, ?_⟩) hS ?_; rotate_left; focus (intro w' s0; have c_0 := s0 0 _ rfl; have c_1 := s0 1 _ rfl; have c_2 := s0 2 _ rfl; have c_3 := s0 3 _ rfl; go_simp <;> try with_reducible rfl))
        try simp only [Act.put, List.setIfInBounds_toArray, List.set_cons_zero, List.set_cons_succ]
        (refine wpAnyH_take (i := 8) (oi := { dst := some 104, op := Op.move (Operand.tmp 4), type := 26, pos := "law.go:40", after := #[], guard := none }) (v := ?_) rfl (by kernel_rfl) (by kernel_rfl) (by kernel_rfl) (fun _ _ _ h => h) (Or.inl ⟨by rfl, ?_⟩) hS ?_; rotate_left; focus (intro w' s0; go_simp <;> try with_reducible rfl))
        try simp only [Act.put, List.setIfInBounds_toArray, List.set_cons_zero, List.set_cons_succ]
        (refine wpAnyH_take (i := 9) (oi := { dst := some 105, op := Op.fieldAddr 34 (Operand.tmp 8) 1, type := 0, pos := "law.go:40", after := #[], guard := none }) (v := ?_) rfl (by kernel_rfl) (by kernel_rfl) (by kernel_rfl) (fun _ _ _ h => h) (Or.inl ⟨by rfl, ?_⟩) hS ?_; rotate_left; focus (intro w' s0; go_simp <;> try with_reducible rfl))
        try simp only [Act.put, List.setIfInBounds_toArray, List.set_cons_zero, List.set_cons_succ]
        (refine wpAnyH_take (i := 10) (oi := { dst := some 106, op := Op.load 3 (Operand.tmp 105), type := 3, pos := "law.go:40", after := #[{ on := 9, ground := Ground.data }], guard := none }) (v := ?_) rfl (by kernel_rfl) (by kernel_rfl) (by kernel_rfl) (fun _ _ _ h => h) (Or.inl ⟨by rfl, ?_⟩) hS ?_; rotate_left; focus (intro w' s0; have c_0 := s0 0 _ rfl; have c_1 := s0 1 _ rfl; have c_2 := s0 2 _ rfl; have c_3 := s0 3 _ rfl; go_simp <;> try with_reducible rfl))
        try simp only [Act.put, List.setIfInBounds_toArray, List.set_cons_zero, List.set_cons_succ]
        (refine wpAnyH_take (i := 11) (oi := { dst := some 107, op := Op.fieldAddr 34 (Operand.tmp 8) 2, type := 0, pos := "law.go:40", after := #[], guard := none }) (v := ?_) rfl (by kernel_rfl) (by kernel_rfl) (by kernel_rfl) (fun _ _ _ h => h) (Or.inl ⟨by rfl, ?_⟩) hS ?_; rotate_left; focus (intro w' s0; go_simp <;> try with_reducible rfl))
        try simp only [Act.put, List.setIfInBounds_toArray, List.set_cons_zero, List.set_cons_succ]
        (refine wpAnyH_take (i := 12) (oi := { dst := some 108, op := Op.load 3 (Operand.tmp 107), type := 3, pos := "law.go:40", after := #[{ on := 11, ground := Ground.data }], guard := none }) (v := ?_) rfl (by kernel_rfl) (by kernel_rfl) (by kernel_rfl) (fun _ _ _ h => h) (Or.inl ⟨by rfl, ?_⟩) hS ?_; rotate_left; focus (intro w' s0; have c_0 := s0 0 _ rfl; have c_1 := s0 1 _ rfl; have c_2 := s0 2 _ rfl; have c_3 := s0 3 _ rfl; go_simp <;> try with_reducible rfl))
        try simp only [Act.put, List.setIfInBounds_toArray, List.set_cons_zero, List.set_cons_succ]
        (refine wpAnyH_take (i := 13) (oi := { dst := some 109, op := Op.fieldAddr 34 (Operand.tmp 8) 3, type := 0, pos := "law.go:40", after := #[], guard := none }) (v := ?_) rfl (by kernel_rfl) (by kernel_rfl) (by kernel_rfl) (fun _ _ _ h => h) (Or.inl ⟨by rfl, ?_⟩) hS ?_; rotate_left; focus (intro w' s0; go_simp <;> try with_reducible rfl))
        try simp only [Act.put, List.setIfInBounds_toArray, List.set_cons_zero, List.set_cons_succ]
        (refine wpAnyH_take (i := 14) (oi := { dst := some 110, op := Op.load 32 (Operand.tmp 109), type := 32, pos := "law.go:40", after := #[{ on := 13, ground := Ground.data }], guard := none }) (v := ?_) rfl (by kernel_rfl) (by kernel_rfl) (by kernel_rfl) (fun _ _ _ h => h) (Or.inl ⟨by rfl, ?_⟩) hS ?_; rotate_left; focus (intro w' s0; have c_0 := s0 0 _ rfl; have c_1 := s0 1 _ rfl; have c_2 := s0 2 _ rfl; have c_3 := s0 3 _ rfl; go_simp <;> try with_reducible rfl))
        try simp only [Act.put, List.setIfInBounds_toArray, List.set_cons_zero, List.set_cons_succ]
        refine wpAnyH_ready (rs := [7]) (by kernel_rfl) (by simp) ?_
        refine AllReadyH.cons (o := { dst := some 103, op := Op.call { callee := Callee.value (Operand.func 19), args := #[Operand.tmp 96, Operand.tmp 98, Operand.tmp 100, Operand.tmp 102], argTypes := #[24, 3, 3, 32] }, type := 4, pos := "law.go:40", after := #[{ on := 0, ground := Ground.data }, { on := 2, ground := Ground.data }, { on := 4, ground := Ground.data }, { on := 6, ground := Ground.data }], guard := none }) rfl (fun K hK => ?_) AllReadyH.nil
        refine take_if (by rfl) ?_
        go_simp
        (with_reducible refine (custore_at Hd.out.u OK.out (UTb.h1 HTB (Lib.hid Hd.out.b)) coff csize cv y _ hy.out rfl o0 o1 z0 z1 v0 v1).mono ?_)
        rintro e' w1 ⟨rfl, m1, f1⟩
        have hS2 : At (b) [.int .i64 3, .int .i64 coff, .int .i64 csize, .int .u64 cv] w1 := hS.fram f1 (by omega) (fun x => by unfold Rg at x; omega)
        have hs1 := f1.size
        have H1 := Lib.hid (Hd.out.uart m1 f1)
        clear m1 f1
        refine hK.out _ _ hS2 (fun hS => ?_)
        clear hK K hS2
        try simp only [Act.put, List.setIfInBounds_toArray, List.set_cons_zero, List.set_cons_succ]
        refine wpAnyH_ready (rs := [15]) (by kernel_rfl) (by simp) ?_
        refine AllReadyH.cons (o := { dst := some 111, op := Op.call { callee := Callee.value (Operand.func 20), args := #[Operand.tmp 104, Operand.tmp 106, Operand.tmp 108, Operand.tmp 110], argTypes := #[26, 3, 3, 32] }, type := 4, pos := "law.go:40", after := #[{ on := 8, ground := Ground.data }, { on := 10, ground := Ground.data }, { on := 12, ground := Ground.data }, { on := 14, ground := Ground.data }, { on := 7, ground := Ground.chain }], guard := none }) rfl (fun K hK => ?_) AllReadyH.nil
        refine take_if (by rfl) ?_
        go_simp
        (with_reducible refine (rustore_at H1.out.r coff csize cv y _ hy.out rfl v0 v1).mono ?_)
        rintro e' w2 ⟨rfl, m2, f2⟩
        have hS2 : At (b) [.int .i64 3, .int .i64 coff, .int .i64 csize, .int .u64 cv] w2 := hS.fram f2 (by omega) (fun x => by rcases x with x | x; omega; have := hvb _ x; omega)
        have hs2 := f2.size
        have H2 := Lib.hid (H1.out.ruart m2 f2)
        clear m2 f2
        refine hK.out _ _ hS2 (fun hS => ?_)
        clear hK K hS2
        try simp only [Act.put, List.setIfInBounds_toArray, List.set_cons_zero, List.set_cons_succ]
        (refine wpAnyH_take (i := 16) (oi := { dst := some 112, op := Op.binOp BinOp.eql 4 (Operand.tmp 103) (Operand.tmp 111) 4, type := 4, pos := "law.go:40", after := #[{ on := 7, ground := Ground.data }, { on := 15, ground := Ground.data }], guard := none }) (v := ?_) rfl (by kernel_rfl) (by kernel_rfl) (by kernel_rfl) (fun _ _ _ h => h) (Or.inl ⟨by rfl, ?_⟩) hS ?_; rotate_left; focus (intro w' s0; go_simp <;> try with_reducible rfl))
        try simp only [Act.put, List.setIfInBounds_toArray, List.set_cons_zero, List.set_cons_succ]
        (refine wpAnyH_take (i := 17) (oi := { dst := some 9, op := Op.assign (Operand.tmp 112), type := 4, pos := "law.go:40", after := #[{ on := 16, ground := Ground.data }, { on := 15, ground := Ground.chain }, { on := 0, ground := Ground.phase }, { on := 1, ground := Ground.phase }, { on := 2, ground := Ground.phase }, { on := 3, ground := Ground.phase }, { on := 4, ground := Ground.phase }, { on := 5, ground := Ground.phase }, { on := 6, ground := Ground.phase }, { on := 7, ground := Ground.phase }, { on := 8, ground := Ground.phase }, { on := 9, ground := Ground.phase }, { on := 10, ground := Ground.phase }, { on := 11, ground := Ground.phase }, { on := 12, ground := Ground.phase }, { on := 13, ground := Ground.phase }, { on := 14, ground := Ground.phase }, { on := 15, ground := Ground.phase }, { on := 16, ground := Ground.phase }], guard := none }) (v := ?_) rfl (by kernel_rfl) (by kernel_rfl) (by kernel_rfl) (fun _ _ _ h => h) (Or.inl ⟨by rfl, ?_⟩) hS ?_; rotate_left; focus (intro w' s0; go_simp <;> try with_reducible rfl))
        try simp only [Act.put, List.setIfInBounds_toArray, List.set_cons_zero, List.set_cons_succ]
        refine wpAnyH_done (by kernel_rfl) ?_ _
        clear hS
        obtain ⟨S6, hS6⟩ : ∃ S6, S6 = S.stS coff csize cv := ⟨_, rfl⟩
        rw [← hS6] at H2
        have OK6 : Hid S6.Ok := Lib.hid (by rw [hS6]; exact OK.out.stS _ _ _)
        clear hS6
        obtain ⟨nn, hnn⟩ : ∃ nn, Hid (((S6).l.length : Int) = nn) := ⟨_, Lib.hid rfl⟩
        have en : (nn != nn) = false := by simp
        have ep : (p != p) = false := by simp
        go_wp2_with (first | (go_at_call 25; (with_reducible refine (cuwaits_at H2.out.u OK6.out (UTb.h1 HTB (Lib.hid H2.out.b)) nn hnn.out).mono ?_); rintro e' w90 ⟨rfl, m90, f90⟩; have hs90 := f90.size; have H90 := Lib.hid (H2.out.uart m90 f90); clear m90 f90) | (go_at_call 26; (with_reducible refine (ruwaits_at H90.out.r nn hnn.out).mono ?_); rintro e' w91 ⟨rfl, k91⟩; have hs91 := k91.1.size; have H91 := Lib.hid (H90.out.kp k91); clear k91) | (go_at_call 27; (with_reducible refine (cpwoff_w H91.out.s (UTb.h1 HTB (Lib.hid H91.out.b)) ).mono ?_); rintro e' w92 ⟨rfl, m92, f92⟩; have hs92 := f92.size; have H92 := Lib.hid (H91.out.power m92 f92); clear m92 f92) | (go_at_call 28; (with_reducible refine (rwoff_w H92.out.y ).mono ?_); rintro e' w93 ⟨rfl, k93⟩; have hs93 := k93.1.size; have H93 := Lib.hid (H92.out.kp k93); clear k93))
        go_roundw
        case rel => exact ⟨j + 1, S6, p, v, by omega, by go_num, OK6.out, H93.out⟩
        case measure => simp [intOf]; omega
      · obtain ⟨y, hy⟩ : ∃ y, Hid (pwO coff csize = y) := ⟨_, Lib.hid rfl⟩
        have ey : (y == y) = true := by simp
        go_upto_region 31 with (first | (go_at_call 21; (with_reducible refine (cpwload_at H5.out.s (UTb.h1 HTB (Lib.hid H5.out.b)) coff csize y hy.out o0 o1 z0 z1).mono ?_); rintro e' w1 ⟨rfl, m1, f1⟩; have hs1 := f1.size; have H1 := Lib.hid (H5.out.power m1 f1); have HA1 := Lib.hid (HA5.out.fram f1 (by omega) (fun x => by unfold Rg at x; omega)); have x1_1 := HA1.out 1 _ rfl; have x1_2 := HA1.out 2 _ rfl; have x1_3 := HA1.out 3 _ rfl; clear m1 f1) | (go_at_call 22; (with_reducible refine (rwload_at _ g4 coff csize y hy.out).mono ?_); rintro e' w2 ⟨rfl, k2⟩; have hs2 := k2.1.size; have H2 := Lib.hid (H1.out.kp k2); clear k2))
        obtain ⟨nn, hnn⟩ : ∃ nn, Hid (((S).l.length : Int) = nn) := ⟨_, Lib.hid rfl⟩
        have en : (nn != nn) = false := by simp
        have ep : (p != p) = false := by simp
        go_wp2_with (first | (go_at_call 25; (with_reducible refine (cuwaits_at H2.out.u OK.out (UTb.h1 HTB (Lib.hid H2.out.b)) nn hnn.out).mono ?_); rintro e' w90 ⟨rfl, m90, f90⟩; have hs90 := f90.size; have H90 := Lib.hid (H2.out.uart m90 f90); clear m90 f90) | (go_at_call 26; (with_reducible refine (ruwaits_at H90.out.r nn hnn.out).mono ?_); rintro e' w91 ⟨rfl, k91⟩; have hs91 := k91.1.size; have H91 := Lib.hid (H90.out.kp k91); clear k91) | (go_at_call 27; (with_reducible refine (cpwoff_w H91.out.s (UTb.h1 HTB (Lib.hid H91.out.b)) ).mono ?_); rintro e' w92 ⟨rfl, m92, f92⟩; have hs92 := f92.size; have H92 := Lib.hid (H91.out.power m92 f92); clear m92 f92) | (go_at_call 28; (with_reducible refine (rwoff_w H92.out.y ).mono ?_); rintro e' w93 ⟨rfl, k93⟩; have hs93 := k93.1.size; have H93 := Lib.hid (H92.out.kp k93); clear k93))
        go_roundw
        case rel => exact ⟨j + 1, S, p, v, by omega, by go_num, OK.out, H93.out⟩
        case measure => simp [intOf]; omega
      · obtain ⟨pn, hpn⟩ : ∃ pn, Hid (pwS p coff csize cv = pn) := ⟨_, Lib.hid rfl⟩
        obtain ⟨y, hy⟩ : ∃ y, Hid (pwO coff csize = y) := ⟨_, Lib.hid rfl⟩
        have ey : (y == y) = true := by simp
        go_upto_region 30 with fail
        have hA := HA5.out
        refine wp_region_held_drew (S := fun w' => At (b) [.int .i64 5, .int .i64 coff, .int .i64 csize, .int .u64 cv] w') (by kernel_rfl) (hA.drew) (fun hS => ?_)
        have Hd := Lib.hid H5.out.drew
        have hsd : w5.drew.heap.size = w5.heap.size := rfl
        generalize w5.drew = g0 at hS Hd hsd ⊢
        (refine wpAnyH_take (i := 0) (oi := { dst := some 143, op := Op.move (Operand.tmp 5), type := 28, pos := "law.go:46", after := #[], guard := none }) (v := ?_) rfl (by kernel_rfl) (by kernel_rfl) (by kernel_rfl) (fun _ _ _ h => h) (Or.inl ⟨by rfl, ?_⟩) hS ?_; rotate_left; focus (intro w' s0; go_simp <;> try with_reducible rfl))
        try simp only [Act.put, List.setIfInBounds_toArray, List.set_cons_zero, List.set_cons_succ]
        (refine wpAnyH_take (i := 1) (oi := { dst := some 144, op := Op.fieldAddr 34 (Operand.tmp 8) 1, type := 0, pos := "law.go:46", after := #[], guard := none }) (v := ?_) rfl (by kernel_rfl) (by kernel_rfl) (by kernel_rfl) (fun _ _ _ h => h) (Or.inl ⟨by rfl, ?_⟩) hS ?_; rotate_left; focus (intro w' s0; go_simp <;> try with_reducible rfl))
        try simp only [Act.put, List.setIfInBounds_toArray, List.set_cons_zero, List.set_cons_succ]
        (refine wpAnyH_take (i := 2) (oi := { dst := some 145, op := Op.load 3 (Operand.tmp 144), type := 3, pos := "law.go:46", after := #[{ on := 1, ground := Ground.data }], guard := none }) (v := ?_) rfl (by kernel_rfl) (by kernel_rfl) (by kernel_rfl) (fun _ _ _ h => h) (Or.inl ⟨by rfl, ?_⟩) hS ?_; rotate_left; focus (intro w' s0; have c_0 := s0 0 _ rfl; have c_1 := s0 1 _ rfl; have c_2 := s0 2 _ rfl; have c_3 := s0 3 _ rfl; go_simp <;> try with_reducible rfl))
        try simp only [Act.put, List.setIfInBounds_toArray, List.set_cons_zero, List.set_cons_succ]
        (refine wpAnyH_take (i := 3) (oi := { dst := some 146, op := Op.fieldAddr 34 (Operand.tmp 8) 2, type := 0, pos := "law.go:46", after := #[], guard := none }) (v := ?_) rfl (by kernel_rfl) (by kernel_rfl) (by kernel_rfl) (fun _ _ _ h => h) (Or.inl ⟨by rfl, ?_⟩) hS ?_; rotate_left; focus (intro w' s0; go_simp <;> try with_reducible rfl))
        try simp only [Act.put, List.setIfInBounds_toArray, List.set_cons_zero, List.set_cons_succ]
        (refine wpAnyH_take (i := 4) (oi := { dst := some 147, op := Op.load 3 (Operand.tmp 146), type := 3, pos := "law.go:46", after := #[{ on := 3, ground := Ground.data }], guard := none }) (v := ?_) rfl (by kernel_rfl) (by kernel_rfl) (by kernel_rfl) (fun _ _ _ h => h) (Or.inl ⟨by rfl, ?_⟩) hS ?_; rotate_left; focus (intro w' s0; have c_0 := s0 0 _ rfl; have c_1 := s0 1 _ rfl; have c_2 := s0 2 _ rfl; have c_3 := s0 3 _ rfl; go_simp <;> try with_reducible rfl))
        try simp only [Act.put, List.setIfInBounds_toArray, List.set_cons_zero, List.set_cons_succ]
        (refine wpAnyH_take (i := 5) (oi := { dst := some 148, op := Op.fieldAddr 34 (Operand.tmp 8) 3, type := 0, pos := "law.go:46", after := #[], guard := none }) (v := ?_) rfl (by kernel_rfl) (by kernel_rfl) (by kernel_rfl) (fun _ _ _ h => h) (Or.inl ⟨by rfl, ?_⟩) hS ?_; rotate_left; focus (intro w' s0; go_simp <;> try with_reducible rfl))
        try simp only [Act.put, List.setIfInBounds_toArray, List.set_cons_zero, List.set_cons_succ]
        (refine wpAnyH_take (i := 6) (oi := { dst := some 149, op := Op.load 32 (Operand.tmp 148), type := 32, pos := "law.go:46", after := #[{ on := 5, ground := Ground.data }], guard := none }) (v := ?_) rfl (by kernel_rfl) (by kernel_rfl) (by kernel_rfl) (fun _ _ _ h => h) (Or.inl ⟨by rfl, ?_⟩) hS ?_; rotate_left; focus (intro w' s0; have c_0 := s0 0 _ rfl; have c_1 := s0 1 _ rfl; have c_2 := s0 2 _ rfl; have c_3 := s0 3 _ rfl; go_simp <;> try with_reducible rfl))
        try simp only [Act.put, List.setIfInBounds_toArray, List.set_cons_zero, List.set_cons_succ]
        (refine wpAnyH_take (i := 8) (oi := { dst := some 151, op := Op.move (Operand.tmp 6), type := 30, pos := "law.go:46", after := #[], guard := none }) (v := ?_) rfl (by kernel_rfl) (by kernel_rfl) (by kernel_rfl) (fun _ _ _ h => h) (Or.inl ⟨by rfl, ?_⟩) hS ?_; rotate_left; focus (intro w' s0; go_simp <;> try with_reducible rfl))
        try simp only [Act.put, List.setIfInBounds_toArray, List.set_cons_zero, List.set_cons_succ]
        (refine wpAnyH_take (i := 9) (oi := { dst := some 152, op := Op.fieldAddr 34 (Operand.tmp 8) 1, type := 0, pos := "law.go:46", after := #[], guard := none }) (v := ?_) rfl (by kernel_rfl) (by kernel_rfl) (by kernel_rfl) (fun _ _ _ h => h) (Or.inl ⟨by rfl, ?_⟩) hS ?_; rotate_left; focus (intro w' s0; go_simp <;> try with_reducible rfl))
        try simp only [Act.put, List.setIfInBounds_toArray, List.set_cons_zero, List.set_cons_succ]
        (refine wpAnyH_take (i := 10) (oi := { dst := some 153, op := Op.load 3 (Operand.tmp 152), type := 3, pos := "law.go:46", after := #[{ on := 9, ground := Ground.data }], guard := none }) (v := ?_) rfl (by kernel_rfl) (by kernel_rfl) (by kernel_rfl) (fun _ _ _ h => h) (Or.inl ⟨by rfl, ?_⟩) hS ?_; rotate_left; focus (intro w' s0; have c_0 := s0 0 _ rfl; have c_1 := s0 1 _ rfl; have c_2 := s0 2 _ rfl; have c_3 := s0 3 _ rfl; go_simp <;> try with_reducible rfl))
        try simp only [Act.put, List.setIfInBounds_toArray, List.set_cons_zero, List.set_cons_succ]
        (refine wpAnyH_take (i := 11) (oi := { dst := some 154, op := Op.fieldAddr 34 (Operand.tmp 8) 2, type := 0, pos := "law.go:46", after := #[], guard := none }) (v := ?_) rfl (by kernel_rfl) (by kernel_rfl) (by kernel_rfl) (fun _ _ _ h => h) (Or.inl ⟨by rfl, ?_⟩) hS ?_; rotate_left; focus (intro w' s0; go_simp <;> try with_reducible rfl))
        try simp only [Act.put, List.setIfInBounds_toArray, List.set_cons_zero, List.set_cons_succ]
        (refine wpAnyH_take (i := 12) (oi := { dst := some 155, op := Op.load 3 (Operand.tmp 154), type := 3, pos := "law.go:46", after := #[{ on := 11, ground := Ground.data }], guard := none }) (v := ?_) rfl (by kernel_rfl) (by kernel_rfl) (by kernel_rfl) (fun _ _ _ h => h) (Or.inl ⟨by rfl, ?_⟩) hS ?_; rotate_left; focus (intro w' s0; have c_0 := s0 0 _ rfl; have c_1 := s0 1 _ rfl; have c_2 := s0 2 _ rfl; have c_3 := s0 3 _ rfl; go_simp <;> try with_reducible rfl))
        try simp only [Act.put, List.setIfInBounds_toArray, List.set_cons_zero, List.set_cons_succ]
        (refine wpAnyH_take (i := 13) (oi := { dst := some 156, op := Op.fieldAddr 34 (Operand.tmp 8) 3, type := 0, pos := "law.go:46", after := #[], guard := none }) (v := ?_) rfl (by kernel_rfl) (by kernel_rfl) (by kernel_rfl) (fun _ _ _ h => h) (Or.inl ⟨by rfl, ?_⟩) hS ?_; rotate_left; focus (intro w' s0; go_simp <;> try with_reducible rfl))
        try simp only [Act.put, List.setIfInBounds_toArray, List.set_cons_zero, List.set_cons_succ]
        (refine wpAnyH_take (i := 14) (oi := { dst := some 157, op := Op.load 32 (Operand.tmp 156), type := 32, pos := "law.go:46", after := #[{ on := 13, ground := Ground.data }], guard := none }) (v := ?_) rfl (by kernel_rfl) (by kernel_rfl) (by kernel_rfl) (fun _ _ _ h => h) (Or.inl ⟨by rfl, ?_⟩) hS ?_; rotate_left; focus (intro w' s0; have c_0 := s0 0 _ rfl; have c_1 := s0 1 _ rfl; have c_2 := s0 2 _ rfl; have c_3 := s0 3 _ rfl; go_simp <;> try with_reducible rfl))
        try simp only [Act.put, List.setIfInBounds_toArray, List.set_cons_zero, List.set_cons_succ]
        refine wpAnyH_ready (rs := [7]) (by kernel_rfl) (by simp) ?_
        refine AllReadyH.cons (o := { dst := some 150, op := Op.call { callee := Callee.value (Operand.func 23), args := #[Operand.tmp 143, Operand.tmp 145, Operand.tmp 147, Operand.tmp 149], argTypes := #[28, 3, 3, 32] }, type := 4, pos := "law.go:46", after := #[{ on := 0, ground := Ground.data }, { on := 2, ground := Ground.data }, { on := 4, ground := Ground.data }, { on := 6, ground := Ground.data }], guard := none }) rfl (fun K hK => ?_) AllReadyH.nil
        refine take_if (by rfl) ?_
        go_simp
        (with_reducible refine (cpwstore_at Hd.out.s (UTb.h1 HTB (Lib.hid Hd.out.b)) coff csize cv y pn hy.out hpn.out o0 o1 z0 z1 v0 v1).mono ?_)
        rintro e' w1 ⟨rfl, m1, f1⟩
        have hS2 : At (b) [.int .i64 5, .int .i64 coff, .int .i64 csize, .int .u64 cv] w1 := hS.fram f1 (by omega) (fun x => by unfold Rg at x; omega)
        have hs1 := f1.size
        have H1 := Lib.hid (Hd.out.power m1 f1)
        clear m1 f1
        refine hK.out _ _ hS2 (fun hS => ?_)
        clear hK K hS2
        try simp only [Act.put, List.setIfInBounds_toArray, List.set_cons_zero, List.set_cons_succ]
        refine wpAnyH_ready (rs := [15]) (by kernel_rfl) (by simp) ?_
        refine AllReadyH.cons (o := { dst := some 158, op := Op.call { callee := Callee.value (Operand.func 24), args := #[Operand.tmp 151, Operand.tmp 153, Operand.tmp 155, Operand.tmp 157], argTypes := #[30, 3, 3, 32] }, type := 4, pos := "law.go:46", after := #[{ on := 8, ground := Ground.data }, { on := 10, ground := Ground.data }, { on := 12, ground := Ground.data }, { on := 14, ground := Ground.data }, { on := 7, ground := Ground.chain }], guard := none }) rfl (fun K hK => ?_) AllReadyH.nil
        refine take_if (by rfl) ?_
        go_simp
        (with_reducible refine (rwstore_at H1.out.y coff csize cv y pn hy.out hpn.out v0 v1).mono ?_)
        rintro e' w2 ⟨rfl, m2, f2⟩
        have hS2 : At (b) [.int .i64 5, .int .i64 coff, .int .i64 csize, .int .u64 cv] w2 := hS.fram f2 (by omega) (fun x => by omega)
        have hs2 := f2.size
        have H2 := Lib.hid (H1.out.rpower m2 f2)
        clear m2 f2
        refine hK.out _ _ hS2 (fun hS => ?_)
        clear hK K hS2
        try simp only [Act.put, List.setIfInBounds_toArray, List.set_cons_zero, List.set_cons_succ]
        (refine wpAnyH_take (i := 16) (oi := { dst := some 159, op := Op.binOp BinOp.eql 4 (Operand.tmp 150) (Operand.tmp 158) 4, type := 4, pos := "law.go:46", after := #[{ on := 7, ground := Ground.data }, { on := 15, ground := Ground.data }], guard := none }) (v := ?_) rfl (by kernel_rfl) (by kernel_rfl) (by kernel_rfl) (fun _ _ _ h => h) (Or.inl ⟨by rfl, ?_⟩) hS ?_; rotate_left; focus (intro w' s0; go_simp <;> try with_reducible rfl))
        try simp only [Act.put, List.setIfInBounds_toArray, List.set_cons_zero, List.set_cons_succ]
        (refine wpAnyH_take (i := 17) (oi := { dst := some 9, op := Op.assign (Operand.tmp 159), type := 4, pos := "law.go:46", after := #[{ on := 16, ground := Ground.data }, { on := 15, ground := Ground.chain }, { on := 0, ground := Ground.phase }, { on := 1, ground := Ground.phase }, { on := 2, ground := Ground.phase }, { on := 3, ground := Ground.phase }, { on := 4, ground := Ground.phase }, { on := 5, ground := Ground.phase }, { on := 6, ground := Ground.phase }, { on := 7, ground := Ground.phase }, { on := 8, ground := Ground.phase }, { on := 9, ground := Ground.phase }, { on := 10, ground := Ground.phase }, { on := 11, ground := Ground.phase }, { on := 12, ground := Ground.phase }, { on := 13, ground := Ground.phase }, { on := 14, ground := Ground.phase }, { on := 15, ground := Ground.phase }, { on := 16, ground := Ground.phase }], guard := none }) (v := ?_) rfl (by kernel_rfl) (by kernel_rfl) (by kernel_rfl) (fun _ _ _ h => h) (Or.inl ⟨by rfl, ?_⟩) hS ?_; rotate_left; focus (intro w' s0; go_simp <;> try with_reducible rfl))
        try simp only [Act.put, List.setIfInBounds_toArray, List.set_cons_zero, List.set_cons_succ]
        refine wpAnyH_done (by kernel_rfl) ?_ _
        clear hS
        obtain ⟨nn, hnn⟩ : ∃ nn, Hid (((S).l.length : Int) = nn) := ⟨_, Lib.hid rfl⟩
        have en : (nn != nn) = false := by simp
        have ep : (pn != pn) = false := by simp
        go_wp2_with (first | (go_at_call 25; (with_reducible refine (cuwaits_at H2.out.u OK.out (UTb.h1 HTB (Lib.hid H2.out.b)) nn hnn.out).mono ?_); rintro e' w90 ⟨rfl, m90, f90⟩; have hs90 := f90.size; have H90 := Lib.hid (H2.out.uart m90 f90); clear m90 f90) | (go_at_call 26; (with_reducible refine (ruwaits_at H90.out.r nn hnn.out).mono ?_); rintro e' w91 ⟨rfl, k91⟩; have hs91 := k91.1.size; have H91 := Lib.hid (H90.out.kp k91); clear k91) | (go_at_call 27; (with_reducible refine (cpwoff_w H91.out.s (UTb.h1 HTB (Lib.hid H91.out.b)) ).mono ?_); rintro e' w92 ⟨rfl, m92, f92⟩; have hs92 := f92.size; have H92 := Lib.hid (H91.out.power m92 f92); clear m92 f92) | (go_at_call 28; (with_reducible refine (rwoff_w H92.out.y ).mono ?_); rintro e' w93 ⟨rfl, k93⟩; have hs93 := k93.1.size; have H93 := Lib.hid (H92.out.kp k93); clear k93))
        go_roundw
        case rel => exact ⟨j + 1, S, pn, v, by omega, by go_num, OK.out, H93.out⟩
        case measure => simp [intOf]; omega
      · obtain ⟨nn, hnn⟩ : ∃ nn, Hid (((S).l.length : Int) = nn) := ⟨_, Lib.hid rfl⟩
        have en : (nn != nn) = false := by simp
        have ep : (p != p) = false := by simp
        go_wp2_with (first | (go_at_call 25; (with_reducible refine (cuwaits_at H5.out.u OK.out (UTb.h1 HTB (Lib.hid H5.out.b)) nn hnn.out).mono ?_); rintro e' w90 ⟨rfl, m90, f90⟩; have hs90 := f90.size; have H90 := Lib.hid (H5.out.uart m90 f90); clear m90 f90) | (go_at_call 26; (with_reducible refine (ruwaits_at H90.out.r nn hnn.out).mono ?_); rintro e' w91 ⟨rfl, k91⟩; have hs91 := k91.1.size; have H91 := Lib.hid (H90.out.kp k91); clear k91) | (go_at_call 27; (with_reducible refine (cpwoff_w H91.out.s (UTb.h1 HTB (Lib.hid H91.out.b)) ).mono ?_); rintro e' w92 ⟨rfl, m92, f92⟩; have hs92 := f92.size; have H92 := Lib.hid (H91.out.power m92 f92); clear m92 f92) | (go_at_call 28; (with_reducible refine (rwoff_w H92.out.y ).mono ?_); rintro e' w93 ⟨rfl, k93⟩; have hs93 := k93.1.size; have H93 := Lib.hid (H92.out.kp k93); clear k93))
        go_roundw
        case rel => exact ⟨j + 1, S, p, v, by omega, by go_num, OK.out, H93.out⟩
        case measure => simp [intOf]; omega
    · clear hL
      have d1 : decide ((j : Int) < (l.length : Int)) = false := by simp; omega
      go_wp2_with (go_at_call 8; (with_reducible refine (works14_w _ (UTb.h1 HTB (Lib.hid H.out.b))).mono ?_); rintro e' w1 ⟨rfl, b1⟩; have HZ := Lib.hid (H.out.b.trans (b1.mono H.out.b.size)); clear b1)
      go_ret
      exact ⟨rfl, HZ.out⟩
end Go.Proofs.Ytnimpgamiagedaa
