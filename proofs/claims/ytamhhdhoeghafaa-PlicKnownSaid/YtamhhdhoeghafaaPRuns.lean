/-
  PlicRuns of layer 12: whatever is called, both controllers answer alike. No condition but what the calls lean on.
-/
import Derived.Test.YtamhhdhoeghafaaPDone
namespace Go.Proofs.Ytamhhdhoeghafaa
open Go.ChangeShapes Go.WideShapes Go.ChangeAt Go.RowKit
set_option linter.unusedVariables false
set_option linter.unusedSimpArgs false
theorem rpend_at {w : World} {g : Nat} {S : PS} (m : RP w g S) (ok : S.Ok) (c : Int) (b : Bool) (hb : S.pend c = b) : Calls Try.prog 18 #[.pointer (some ⟨g, 0, none⟩), .int .i64 c] w fun e w' => e = .returned (.bool b) ∧ Kp w w' := by subst hb; exact rpend_w m ok c
theorem rload_at12 {w : World} {g : Nat} {S : PS} (m : RP w g S) (ok : S.Ok) (off size v : Int) (b : Bool) (S' : PS) (hv : S.ldV off size = v) (hb : rgO off size = b) (hS : S.ldS off size = S') : Calls Try.prog 14 #[.pointer (some ⟨g, 0, none⟩), .int .i64 off, .int .i64 size] w fun e w' => e = .returned (.tuple #[.int .u64 v, .bool b]) ∧ RP w' g S' ∧ Fr w w' (fun i => i = g) := by subst hv hb hS; exact rload_w m ok off size
theorem rstore_at12 {w : World} {g : Nat} {S : PS} (m : RP w g S) (ok : S.Ok) (off size v : Int) (b : Bool) (S' : PS) (hb : rgO off size = b) (hS : S.stS off size v = S') (v0 : 0 ≤ v) (v1 : v < 18446744073709551616) : Calls Try.prog 16 #[.pointer (some ⟨g, 0, none⟩), .int .i64 off, .int .i64 size, .int .u64 v] w fun e w' => e = .returned (.bool b) ∧ RP w' g S' ∧ Fr w w' (fun i => i = g) := by subst hb hS; exact rstore_w m ok off size v v0 v1
set_option maxRecDepth 100000 in
set_option maxHeartbeats 16000000 in
theorem runs12_w (l : List Po) (A : Option Addr) (cap : Nat) (W : World) (hrd : RdPo W W.heap.size A l) (hraw : ∀ c ∈ l, c.Raw) (hlen : l.length ≤ 9223372036854775807) (tb : PTb W) :
    Calls Try.prog 3 #[.slice A l.length cap] W fun e w' => e = .returned (.bool true) ∧ Below W.heap.size W w' := by
  have HRD := Lib.hid hrd
  have HRAW := Lib.hid hraw
  have HTB := Lib.hid tb
  clear hrd hraw tb
  by_cases h300 : 300 < l.length
  · have d0 : decide (300 < (l.length : Int)) = true := by simp; omega
    clear HRD HRAW
    go_enter Try.func3, Try.ntmps3
    go_wp2_with (go_at_call 8; (with_reducible refine (works12_w _ HTB.out).mono ?_); rintro e' w1 ⟨rfl, b1⟩; have HZ := Lib.hid b1; clear b1)
    go_ret
    exact ⟨rfl, HZ.out⟩
  have d0 : decide (300 < (l.length : Int)) = false := by simp; omega
  go_enter Try.func3, Try.ntmps3
  go_wp2_with (first | (go_at_call 9; (with_reducible refine (cpnew_w _ HTB.out).mono ?_); rintro e' w0 ⟨g, rfl, m0, b0⟩; have hs0 := b0.size; have HO0 := Lib.hid m0; have HB0 := Lib.hid b0; clear m0 b0) | (go_at_call 10; (with_reducible refine (rnew_w _).mono ?_); rintro e' w9 ⟨g1, rfl, r1, b1, hg1⟩; have hs9 := b1.size; have HS := Lib.hid (show RP w9 g1 PS.new ∧ Pl w9 W.heap.size w0.heap.size g PS.new ∧ Below W.heap.size W w9 from ⟨r1, HO0.out.below b1, HB0.out.trans (b1.mono hs0)⟩); clear r1 b1))
  generalize hhi : w0.heap.size = hi at *
  clear hhi HO0 HB0
  go_loopw [5] (fun i wr => ∃ (k : Nat) (S : PS), k ≤ l.length ∧ i = .int .i64 (k : Int) ∧ S.Ok ∧ Pl wr W.heap.size hi g S ∧ RP wr g1 S ∧ Below W.heap.size W wr) (fun i _ => l.length - (intOf i).toNat)
  case atStart => exact ⟨0, PS.new, Nat.zero_le _, rfl, PS.new_ok, HS.out.2.1, HS.out.1, HS.out.2.2⟩
  case round =>
    clear HS
    obtain ⟨j, S, hk, rfl, ok, o, r, bl⟩ := hrel
    have htop := o.top
    have hgr := r.lt
    have hWs := bl.size
    have OK := Lib.hid ok
    have HO := Lib.hid o
    have HR := Lib.hid r
    have HB := Lib.hid bl
    have hL := HRD.out.below bl
    clear ok o r bl
    by_cases hlt : j < l.length
    · obtain ⟨bb, oo, rfl, hbb, c, hc, hrow⟩ := hL.at_ hlt
      obtain ⟨q0, q1, q2, q3, q4⟩ := hrow.out
      have hraw := HRAW.out c (List.mem_of_getElem? hc)
      clear hrow hc hL
      obtain ⟨ck, coff, csize, cv, cm⟩ := c
      dsimp only [Po.Raw] at *
      obtain ⟨⟨k0, k1⟩, ⟨o0, o1⟩, ⟨z0, z1⟩, ⟨v0, v1⟩, ⟨m0, m1⟩⟩ := hraw
      go_upto_region 11 with fail
      have hA5 := At.new wr [.int .i64 ck, .int .i64 coff, .int .i64 csize, .int .u64 cv, .int .u32 cm] 31
      have HO5 := Lib.hid (HO.out.fr ((Fr.refl wr (fun _ => False)).alloc (.cells #[.int .i64 ck, .int .i64 coff, .int .i64 csize, .int .u64 cv, .int .u32 cm] 31)) (fun _ _ _ h => h))
      have HR5 := Lib.hid (HR.out.fr ((Fr.refl wr (fun _ => False)).alloc (.cells #[.int .i64 ck, .int .i64 coff, .int .i64 csize, .int .u64 cv, .int .u32 cm] 31)) id)
      have HB5 := Lib.hid (HB.out.alloc hWs (.cells #[.int .i64 ck, .int .i64 coff, .int .i64 csize, .int .u64 cv, .int .u32 cm] 31))
      have hs5 : (wr.alloc (.cells #[.int .i64 ck, .int .i64 coff, .int .i64 csize, .int .u64 cv, .int .u32 cm] 31)).heap.size = wr.heap.size + 1 := by simp
      have e5 : ([.int .i64 ck, .int .i64 coff, .int .i64 csize, .int .u64 cv, .int .u32 cm] : List Value).toArray = #[.int .i64 ck, .int .i64 coff, .int .i64 csize, .int .u64 cv, .int .u32 cm] := rfl
      rw [e5] at hA5
      clear e5
      generalize wr.alloc (.cells #[.int .i64 ck, .int .i64 coff, .int .i64 csize, .int .u64 cv, .int .u32 cm] 31) = w5 at hA5 HO5 HR5 HB5 hs5 ⊢
      obtain ⟨b, hb⟩ : ∃ b, wr.heap.size = b := ⟨_, rfl⟩
      rw [hb] at hA5 hs5 htop hgr hWs ⊢
      clear hb HO HR HB q0 q1 q2 q3 q4
      have x0 := hA5 0 _ rfl
      have x1 := hA5 1 _ rfl
      have x2 := hA5 2 _ rfl
      have x3 := hA5 3 _ rfl
      have x4 := hA5 4 _ rfl
      have HA5 := Lib.hid hA5
      clear hA5
      rcases (show ck = 0 ∨ ck = 1 ∨ ck = 2 ∨ (¬ ck = 0 ∧ ¬ ck = 1 ∧ ¬ ck = 2) by omega) with rfl | rfl | rfl | ⟨h0, h1, h2⟩
      · go_upto_region 22 with (first | (go_at_call 11; (with_reducible refine (cplines_w HO5.out OK.out (PTb.h1 HTB HB5) cm m0 m1).mono ?_); rintro e' w1 ⟨rfl, mm, ff⟩; have hs1 := ff.size; have HO1 := Lib.hid mm; have HR1 := Lib.hid (HR5.out.fr ff (fun x => by unfold Rg at x; omega)); have HB1 := Lib.hid (HB5.out.trans (ff.lows HB5.out.size (Nat.le_refl _))); have hA1 := HA5.out.fram ff (by omega) (fun x => by unfold Rg at x; omega); have y4 := hA1 4 _ rfl; have HA1 := Lib.hid hA1; clear mm ff hA1) | (go_at_call 12; (with_reducible refine (rlines_w HR1.out OK.out cm m0 m1).mono ?_); rintro e' w2 ⟨rfl, rr, ff⟩; have hs2 := ff.size; have HO2 := Lib.hid (HO1.out.fr ff (fun i h1 h2 x => by omega)); have HR2 := Lib.hid rr; have HB2 := Lib.hid (HB1.out.trans (ff.bl HB1.out.size (fun i x => by omega))); have HA2 := Lib.hid (HA1.out.fram ff (by omega) (fun x => by omega)); clear rr ff))
        obtain ⟨S6, hS6⟩ : ∃ S6, S6 = S.lines cm := ⟨_, rfl⟩
        rw [← hS6] at HO2 HR2
        have OK6 : Hid S6.Ok := Lib.hid (by rw [hS6]; exact OK.out.lines _)
        clear hS6
        obtain ⟨p0, hp0⟩ : ∃ p, Hid ((S6).pend 0 = p) := ⟨_, Lib.hid rfl⟩
        obtain ⟨p1, hp1⟩ : ∃ p, Hid ((S6).pend 1 = p) := ⟨_, Lib.hid rfl⟩
        obtain ⟨p2, hp2⟩ : ∃ p, Hid ((S6).pend coff = p) := ⟨_, Lib.hid rfl⟩
        have e0 : (p0 != p0) = false := by simp
        have e1 : (p1 != p1) = false := by simp
        have e2 : (p2 != p2) = false := by simp
        go_upto_region 22 with fail
        have hA := HA2.out
        refine wp_region_held_drew (S := fun w' => At (b) [.int .i64 0, .int .i64 coff, .int .i64 csize, .int .u64 cv, .int .u32 cm] w') (by kernel_rfl) (hA.drew) (fun hS => ?_)
        have HOd := Lib.hid (HO2.out.fr (Fr.drew (Fr.refl w2 (fun _ => False))) (fun _ _ _ h => h))
        have HRd := Lib.hid (HR2.out.fr (Fr.drew (Fr.refl w2 (fun _ => False))) id)
        have HBd := Lib.hid HB2.out.drew
        have hsd : w2.drew.heap.size = w2.heap.size := rfl
        generalize w2.drew = g0 at hS HOd HRd HBd hsd ⊢
        (refine wpAnyH_take (i := 0) (oi := { dst := some 93, op := Op.move (Operand.tmp 7), type := 4, pos := "law.go:40", after := #[], guard := none }) (v := ?_) rfl (by kernel_rfl) (by kernel_rfl) (by kernel_rfl) (fun _ _ _ h => h) (Or.inl ⟨by rfl, ?_⟩) hS ?_; rotate_left; focus (intro w' s0; go_simp <;> try with_reducible rfl))
        try simp only [Act.put, List.setIfInBounds_toArray, List.set_cons_zero, List.set_cons_succ]
        (refine wpAnyH_take (i := 1) (oi := { dst := some 94, op := Op.unOp UnOp.not 4 (Operand.tmp 93), type := 4, pos := "law.go:40", after := #[{ on := 0, ground := Ground.data }], guard := none }) (v := ?_) rfl (by kernel_rfl) (by kernel_rfl) (by kernel_rfl) (fun _ _ _ h => h) (Or.inl ⟨by rfl, ?_⟩) hS ?_; rotate_left; focus (intro w' s0; go_simp <;> try with_reducible rfl))
        try simp only [Act.put, List.setIfInBounds_toArray, List.set_cons_zero, List.set_cons_succ]
        (refine wpAnyH_take (i := 2) (oi := { dst := some 95, op := Op.move (Operand.tmp 94), type := 4, pos := "law.go:40", after := #[{ on := 1, ground := Ground.data }], guard := none }) (v := ?_) rfl (by kernel_rfl) (by kernel_rfl) (by kernel_rfl) (fun _ _ _ h => h) (Or.inl ⟨by rfl, ?_⟩) hS ?_; rotate_left; focus (intro w' s0; go_simp <;> try with_reducible rfl))
        try simp only [Act.put, List.setIfInBounds_toArray, List.set_cons_zero, List.set_cons_succ]
        (refine wpAnyH_take (i := 3) (oi := { dst := some 96, op := Op.move (Operand.tmp 3), type := 24, pos := "law.go:40", after := #[{ on := 2, ground := Ground.guard }], guard := some (2, false) }) (v := ?_) rfl (by kernel_rfl) (by kernel_rfl) (by kernel_rfl) (fun _ _ _ h => h) (Or.inl ⟨by rfl, ?_⟩) hS ?_; rotate_left; focus (intro w' s0; go_simp <;> try with_reducible rfl))
        try simp only [Act.put, List.setIfInBounds_toArray, List.set_cons_zero, List.set_cons_succ]
        (refine wpAnyH_take (i := 5) (oi := { dst := some 98, op := Op.move (Operand.tmp 4), type := 26, pos := "law.go:40", after := #[{ on := 2, ground := Ground.guard }], guard := some (2, false) }) (v := ?_) rfl (by kernel_rfl) (by kernel_rfl) (by kernel_rfl) (fun _ _ _ h => h) (Or.inl ⟨by rfl, ?_⟩) hS ?_; rotate_left; focus (intro w' s0; go_simp <;> try with_reducible rfl))
        try simp only [Act.put, List.setIfInBounds_toArray, List.set_cons_zero, List.set_cons_succ]
        refine wpAnyH_ready (rs := [4]) (by kernel_rfl) (by simp) ?_
        refine AllReadyH.cons (o := { dst := some 97, op := Op.call { callee := Callee.value (Operand.func 17), args := #[Operand.tmp 96, Operand.const (Value.int IntKind.i64 0)], argTypes := #[24, 3] }, type := 4, pos := "law.go:40", after := #[{ on := 3, ground := Ground.data }, { on := 2, ground := Ground.chain }, { on := 2, ground := Ground.guard }], guard := some (2, false) }) rfl (fun K hK => ?_) AllReadyH.nil
        refine take_if (by rfl) ?_
        go_simp
        (with_reducible refine (cppend_at HOd.out OK6.out (PTb.h1 HTB HBd) 0 p0 hp0.out (by decide) (by decide)).mono ?_)
        rintro e' w60 ⟨rfl, m60, f60⟩
        have hS2 : At (b) [.int .i64 0, .int .i64 coff, .int .i64 csize, .int .u64 cv, .int .u32 cm] w60 := hS.fram f60 (by omega) (fun x => by unfold Rg at x; omega)
        have hs60 := f60.size
        have HO60 := Lib.hid m60
        have HR60 := Lib.hid (HRd.out.fr f60 (fun x => by unfold Rg at x; omega))
        have HB60 := Lib.hid (HBd.out.trans (f60.lows HBd.out.size (Nat.le_refl _)))
        clear m60 f60
        refine hK.out _ _ hS2 (fun hS => ?_)
        clear hK K hS2
        try simp only [Act.put, List.setIfInBounds_toArray, List.set_cons_zero, List.set_cons_succ]
        refine wpAnyH_ready (rs := [6]) (by kernel_rfl) (by simp) ?_
        refine AllReadyH.cons (o := { dst := some 99, op := Op.call { callee := Callee.value (Operand.func 18), args := #[Operand.tmp 98, Operand.const (Value.int IntKind.i64 0)], argTypes := #[26, 3] }, type := 4, pos := "law.go:40", after := #[{ on := 5, ground := Ground.data }, { on := 4, ground := Ground.chain }, { on := 2, ground := Ground.guard }], guard := some (2, false) }) rfl (fun K hK => ?_) AllReadyH.nil
        refine take_if (by rfl) ?_
        go_simp
        (with_reducible refine (rpend_at HR60.out OK6.out 0 p0 hp0.out).mono ?_)
        rintro e' w61 ⟨rfl, k61⟩
        have hS2 : At (b) [.int .i64 0, .int .i64 coff, .int .i64 csize, .int .u64 cv, .int .u32 cm] w61 := hS.kp k61 (by omega)
        have hs61 := k61.1.size
        have HO61 := Lib.hid (HO60.out.below k61.1)
        have HR61 := Lib.hid (HR60.out.kp k61)
        have HB61 := Lib.hid (HB60.out.trans (k61.1.mono HB60.out.size))
        clear k61
        refine hK.out _ _ hS2 (fun hS => ?_)
        clear hK K hS2
        try simp only [Act.put, List.setIfInBounds_toArray, List.set_cons_zero, List.set_cons_succ]
        (refine wpAnyH_take (i := 7) (oi := { dst := some 100, op := Op.binOp BinOp.neq 4 (Operand.tmp 97) (Operand.tmp 99) 4, type := 4, pos := "law.go:40", after := #[{ on := 4, ground := Ground.data }, { on := 6, ground := Ground.data }, { on := 2, ground := Ground.guard }], guard := some (2, false) }) (v := ?_) rfl (by kernel_rfl) (by kernel_rfl) (by kernel_rfl) (fun _ _ _ h => h) (Or.inl ⟨by rfl, ?_⟩) hS ?_; rotate_left; focus (intro w' s0; go_simp <;> try with_reducible rfl))
        try simp only [Act.put, List.setIfInBounds_toArray, List.set_cons_zero, List.set_cons_succ]
        (refine wpAnyH_take (i := 8) (oi := { dst := some 101, op := Op.pick (Operand.tmp 95) (Operand.const (Value.bool true)) (Operand.tmp 100), type := 4, pos := "law.go:40", after := #[{ on := 2, ground := Ground.data }, { on := 7, ground := Ground.data }], guard := none }) (v := ?_) rfl (by kernel_rfl) (by kernel_rfl) (by kernel_rfl) (fun _ _ _ h => h) (Or.inl ⟨by rfl, ?_⟩) hS ?_; rotate_left; focus (intro w' s0; go_simp <;> try with_reducible rfl))
        try simp only [Act.put, List.setIfInBounds_toArray, List.set_cons_zero, List.set_cons_succ]
        (refine wpAnyH_take (i := 9) (oi := { dst := some 102, op := Op.move (Operand.tmp 101), type := 4, pos := "law.go:40", after := #[{ on := 8, ground := Ground.data }, { on := 6, ground := Ground.chain }], guard := none }) (v := ?_) rfl (by kernel_rfl) (by kernel_rfl) (by kernel_rfl) (fun _ _ _ h => h) (Or.inl ⟨by rfl, ?_⟩) hS ?_; rotate_left; focus (intro w' s0; go_simp <;> try with_reducible rfl))
        try simp only [Act.put, List.setIfInBounds_toArray, List.set_cons_zero, List.set_cons_succ]
        (refine wpAnyH_take (i := 10) (oi := { dst := some 103, op := Op.move (Operand.tmp 3), type := 24, pos := "law.go:40", after := #[{ on := 9, ground := Ground.guard }], guard := some (9, false) }) (v := ?_) rfl (by kernel_rfl) (by kernel_rfl) (by kernel_rfl) (fun _ _ _ h => h) (Or.inl ⟨by rfl, ?_⟩) hS ?_; rotate_left; focus (intro w' s0; go_simp <;> try with_reducible rfl))
        try simp only [Act.put, List.setIfInBounds_toArray, List.set_cons_zero, List.set_cons_succ]
        (refine wpAnyH_take (i := 12) (oi := { dst := some 105, op := Op.move (Operand.tmp 4), type := 26, pos := "law.go:40", after := #[{ on := 9, ground := Ground.guard }], guard := some (9, false) }) (v := ?_) rfl (by kernel_rfl) (by kernel_rfl) (by kernel_rfl) (fun _ _ _ h => h) (Or.inl ⟨by rfl, ?_⟩) hS ?_; rotate_left; focus (intro w' s0; go_simp <;> try with_reducible rfl))
        try simp only [Act.put, List.setIfInBounds_toArray, List.set_cons_zero, List.set_cons_succ]
        refine wpAnyH_ready (rs := [11]) (by kernel_rfl) (by simp) ?_
        refine AllReadyH.cons (o := { dst := some 104, op := Op.call { callee := Callee.value (Operand.func 17), args := #[Operand.tmp 103, Operand.const (Value.int IntKind.i64 1)], argTypes := #[24, 3] }, type := 4, pos := "law.go:40", after := #[{ on := 10, ground := Ground.data }, { on := 9, ground := Ground.chain }, { on := 9, ground := Ground.guard }], guard := some (9, false) }) rfl (fun K hK => ?_) AllReadyH.nil
        refine take_if (by rfl) ?_
        go_simp
        (with_reducible refine (cppend_at HO61.out OK6.out (PTb.h1 HTB HB61) 1 p1 hp1.out (by decide) (by decide)).mono ?_)
        rintro e' w62 ⟨rfl, m62, f62⟩
        have hS2 : At (b) [.int .i64 0, .int .i64 coff, .int .i64 csize, .int .u64 cv, .int .u32 cm] w62 := hS.fram f62 (by omega) (fun x => by unfold Rg at x; omega)
        have hs62 := f62.size
        have HO62 := Lib.hid m62
        have HR62 := Lib.hid (HR61.out.fr f62 (fun x => by unfold Rg at x; omega))
        have HB62 := Lib.hid (HB61.out.trans (f62.lows HB61.out.size (Nat.le_refl _)))
        clear m62 f62
        refine hK.out _ _ hS2 (fun hS => ?_)
        clear hK K hS2
        try simp only [Act.put, List.setIfInBounds_toArray, List.set_cons_zero, List.set_cons_succ]
        refine wpAnyH_ready (rs := [13]) (by kernel_rfl) (by simp) ?_
        refine AllReadyH.cons (o := { dst := some 106, op := Op.call { callee := Callee.value (Operand.func 18), args := #[Operand.tmp 105, Operand.const (Value.int IntKind.i64 1)], argTypes := #[26, 3] }, type := 4, pos := "law.go:40", after := #[{ on := 12, ground := Ground.data }, { on := 11, ground := Ground.chain }, { on := 9, ground := Ground.guard }], guard := some (9, false) }) rfl (fun K hK => ?_) AllReadyH.nil
        refine take_if (by rfl) ?_
        go_simp
        (with_reducible refine (rpend_at HR62.out OK6.out 1 p1 hp1.out).mono ?_)
        rintro e' w63 ⟨rfl, k63⟩
        have hS2 : At (b) [.int .i64 0, .int .i64 coff, .int .i64 csize, .int .u64 cv, .int .u32 cm] w63 := hS.kp k63 (by omega)
        have hs63 := k63.1.size
        have HO63 := Lib.hid (HO62.out.below k63.1)
        have HR63 := Lib.hid (HR62.out.kp k63)
        have HB63 := Lib.hid (HB62.out.trans (k63.1.mono HB62.out.size))
        clear k63
        refine hK.out _ _ hS2 (fun hS => ?_)
        clear hK K hS2
        try simp only [Act.put, List.setIfInBounds_toArray, List.set_cons_zero, List.set_cons_succ]
        (refine wpAnyH_take (i := 14) (oi := { dst := some 107, op := Op.binOp BinOp.neq 4 (Operand.tmp 104) (Operand.tmp 106) 4, type := 4, pos := "law.go:40", after := #[{ on := 11, ground := Ground.data }, { on := 13, ground := Ground.data }, { on := 9, ground := Ground.guard }], guard := some (9, false) }) (v := ?_) rfl (by kernel_rfl) (by kernel_rfl) (by kernel_rfl) (fun _ _ _ h => h) (Or.inl ⟨by rfl, ?_⟩) hS ?_; rotate_left; focus (intro w' s0; go_simp <;> try with_reducible rfl))
        try simp only [Act.put, List.setIfInBounds_toArray, List.set_cons_zero, List.set_cons_succ]
        (refine wpAnyH_take (i := 15) (oi := { dst := some 108, op := Op.pick (Operand.tmp 102) (Operand.const (Value.bool true)) (Operand.tmp 107), type := 4, pos := "law.go:40", after := #[{ on := 9, ground := Ground.data }, { on := 14, ground := Ground.data }], guard := none }) (v := ?_) rfl (by kernel_rfl) (by kernel_rfl) (by kernel_rfl) (fun _ _ _ h => h) (Or.inl ⟨by rfl, ?_⟩) hS ?_; rotate_left; focus (intro w' s0; go_simp <;> try with_reducible rfl))
        try simp only [Act.put, List.setIfInBounds_toArray, List.set_cons_zero, List.set_cons_succ]
        (refine wpAnyH_take (i := 16) (oi := { dst := some 109, op := Op.move (Operand.tmp 108), type := 4, pos := "law.go:40", after := #[{ on := 15, ground := Ground.data }, { on := 13, ground := Ground.chain }], guard := none }) (v := ?_) rfl (by kernel_rfl) (by kernel_rfl) (by kernel_rfl) (fun _ _ _ h => h) (Or.inl ⟨by rfl, ?_⟩) hS ?_; rotate_left; focus (intro w' s0; go_simp <;> try with_reducible rfl))
        try simp only [Act.put, List.setIfInBounds_toArray, List.set_cons_zero, List.set_cons_succ]
        (refine wpAnyH_take (i := 17) (oi := { dst := some 110, op := Op.move (Operand.tmp 3), type := 24, pos := "law.go:40", after := #[{ on := 16, ground := Ground.guard }], guard := some (16, false) }) (v := ?_) rfl (by kernel_rfl) (by kernel_rfl) (by kernel_rfl) (fun _ _ _ h => h) (Or.inl ⟨by rfl, ?_⟩) hS ?_; rotate_left; focus (intro w' s0; go_simp <;> try with_reducible rfl))
        try simp only [Act.put, List.setIfInBounds_toArray, List.set_cons_zero, List.set_cons_succ]
        (refine wpAnyH_take (i := 18) (oi := { dst := some 111, op := Op.fieldAddr 31 (Operand.tmp 6) 1, type := 0, pos := "law.go:40", after := #[{ on := 16, ground := Ground.guard }], guard := some (16, false) }) (v := ?_) rfl (by kernel_rfl) (by kernel_rfl) (by kernel_rfl) (fun _ _ _ h => h) (Or.inl ⟨by rfl, ?_⟩) hS ?_; rotate_left; focus (intro w' s0; go_simp <;> try with_reducible rfl))
        try simp only [Act.put, List.setIfInBounds_toArray, List.set_cons_zero, List.set_cons_succ]
        (refine wpAnyH_take (i := 19) (oi := { dst := some 112, op := Op.load 3 (Operand.tmp 111), type := 3, pos := "law.go:40", after := #[{ on := 18, ground := Ground.data }, { on := 16, ground := Ground.guard }], guard := some (16, false) }) (v := ?_) rfl (by kernel_rfl) (by kernel_rfl) (by kernel_rfl) (fun _ _ _ h => h) (Or.inl ⟨by rfl, ?_⟩) hS ?_; rotate_left; focus (intro w' s0; have c_0 := s0 0 _ rfl; have c_1 := s0 1 _ rfl; have c_2 := s0 2 _ rfl; have c_3 := s0 3 _ rfl; have c_4 := s0 4 _ rfl; go_simp <;> try with_reducible rfl))
        try simp only [Act.put, List.setIfInBounds_toArray, List.set_cons_zero, List.set_cons_succ]
        (refine wpAnyH_take (i := 21) (oi := { dst := some 114, op := Op.move (Operand.tmp 4), type := 26, pos := "law.go:40", after := #[{ on := 16, ground := Ground.guard }], guard := some (16, false) }) (v := ?_) rfl (by kernel_rfl) (by kernel_rfl) (by kernel_rfl) (fun _ _ _ h => h) (Or.inl ⟨by rfl, ?_⟩) hS ?_; rotate_left; focus (intro w' s0; go_simp <;> try with_reducible rfl))
        try simp only [Act.put, List.setIfInBounds_toArray, List.set_cons_zero, List.set_cons_succ]
        (refine wpAnyH_take (i := 22) (oi := { dst := some 115, op := Op.fieldAddr 31 (Operand.tmp 6) 1, type := 0, pos := "law.go:40", after := #[{ on := 16, ground := Ground.guard }], guard := some (16, false) }) (v := ?_) rfl (by kernel_rfl) (by kernel_rfl) (by kernel_rfl) (fun _ _ _ h => h) (Or.inl ⟨by rfl, ?_⟩) hS ?_; rotate_left; focus (intro w' s0; go_simp <;> try with_reducible rfl))
        try simp only [Act.put, List.setIfInBounds_toArray, List.set_cons_zero, List.set_cons_succ]
        (refine wpAnyH_take (i := 23) (oi := { dst := some 116, op := Op.load 3 (Operand.tmp 115), type := 3, pos := "law.go:40", after := #[{ on := 22, ground := Ground.data }, { on := 16, ground := Ground.guard }], guard := some (16, false) }) (v := ?_) rfl (by kernel_rfl) (by kernel_rfl) (by kernel_rfl) (fun _ _ _ h => h) (Or.inl ⟨by rfl, ?_⟩) hS ?_; rotate_left; focus (intro w' s0; have c_0 := s0 0 _ rfl; have c_1 := s0 1 _ rfl; have c_2 := s0 2 _ rfl; have c_3 := s0 3 _ rfl; have c_4 := s0 4 _ rfl; go_simp <;> try with_reducible rfl))
        try simp only [Act.put, List.setIfInBounds_toArray, List.set_cons_zero, List.set_cons_succ]
        refine wpAnyH_ready (rs := [20]) (by kernel_rfl) (by simp) ?_
        refine AllReadyH.cons (o := { dst := some 113, op := Op.call { callee := Callee.value (Operand.func 17), args := #[Operand.tmp 110, Operand.tmp 112], argTypes := #[24, 3] }, type := 4, pos := "law.go:40", after := #[{ on := 17, ground := Ground.data }, { on := 19, ground := Ground.data }, { on := 16, ground := Ground.chain }, { on := 16, ground := Ground.guard }], guard := some (16, false) }) rfl (fun K hK => ?_) AllReadyH.nil
        refine take_if (by rfl) ?_
        go_simp
        (with_reducible refine (cppend_at HO63.out OK6.out (PTb.h1 HTB HB63) coff p2 hp2.out o0 o1).mono ?_)
        rintro e' w64 ⟨rfl, m64, f64⟩
        have hS2 : At (b) [.int .i64 0, .int .i64 coff, .int .i64 csize, .int .u64 cv, .int .u32 cm] w64 := hS.fram f64 (by omega) (fun x => by unfold Rg at x; omega)
        have hs64 := f64.size
        have HO64 := Lib.hid m64
        have HR64 := Lib.hid (HR63.out.fr f64 (fun x => by unfold Rg at x; omega))
        have HB64 := Lib.hid (HB63.out.trans (f64.lows HB63.out.size (Nat.le_refl _)))
        clear m64 f64
        refine hK.out _ _ hS2 (fun hS => ?_)
        clear hK K hS2
        try simp only [Act.put, List.setIfInBounds_toArray, List.set_cons_zero, List.set_cons_succ]
        refine wpAnyH_ready (rs := [24]) (by kernel_rfl) (by simp) ?_
        refine AllReadyH.cons (o := { dst := some 117, op := Op.call { callee := Callee.value (Operand.func 18), args := #[Operand.tmp 114, Operand.tmp 116], argTypes := #[26, 3] }, type := 4, pos := "law.go:40", after := #[{ on := 21, ground := Ground.data }, { on := 23, ground := Ground.data }, { on := 20, ground := Ground.chain }, { on := 16, ground := Ground.guard }], guard := some (16, false) }) rfl (fun K hK => ?_) AllReadyH.nil
        refine take_if (by rfl) ?_
        go_simp
        (with_reducible refine (rpend_at HR64.out OK6.out coff p2 hp2.out).mono ?_)
        rintro e' w65 ⟨rfl, k65⟩
        have hS2 : At (b) [.int .i64 0, .int .i64 coff, .int .i64 csize, .int .u64 cv, .int .u32 cm] w65 := hS.kp k65 (by omega)
        have hs65 := k65.1.size
        have HO65 := Lib.hid (HO64.out.below k65.1)
        have HR65 := Lib.hid (HR64.out.kp k65)
        have HB65 := Lib.hid (HB64.out.trans (k65.1.mono HB64.out.size))
        clear k65
        refine hK.out _ _ hS2 (fun hS => ?_)
        clear hK K hS2
        try simp only [Act.put, List.setIfInBounds_toArray, List.set_cons_zero, List.set_cons_succ]
        (refine wpAnyH_take (i := 25) (oi := { dst := some 118, op := Op.binOp BinOp.neq 4 (Operand.tmp 113) (Operand.tmp 117) 4, type := 4, pos := "law.go:40", after := #[{ on := 20, ground := Ground.data }, { on := 24, ground := Ground.data }, { on := 16, ground := Ground.guard }], guard := some (16, false) }) (v := ?_) rfl (by kernel_rfl) (by kernel_rfl) (by kernel_rfl) (fun _ _ _ h => h) (Or.inl ⟨by rfl, ?_⟩) hS ?_; rotate_left; focus (intro w' s0; go_simp <;> try with_reducible rfl))
        try simp only [Act.put, List.setIfInBounds_toArray, List.set_cons_zero, List.set_cons_succ]
        (refine wpAnyH_take (i := 26) (oi := { dst := some 119, op := Op.pick (Operand.tmp 109) (Operand.const (Value.bool true)) (Operand.tmp 118), type := 4, pos := "law.go:40", after := #[{ on := 16, ground := Ground.data }, { on := 25, ground := Ground.data }], guard := none }) (v := ?_) rfl (by kernel_rfl) (by kernel_rfl) (by kernel_rfl) (fun _ _ _ h => h) (Or.inl ⟨by rfl, ?_⟩) hS ?_; rotate_left; focus (intro w' s0; go_simp <;> try with_reducible rfl))
        try simp only [Act.put, List.setIfInBounds_toArray, List.set_cons_zero, List.set_cons_succ]
        refine wpAnyH_done (by kernel_rfl) ?_ _
        obtain ⟨lv, hlv⟩ : ∃ lv, Hid ((S6).ldV 4096 4 = lv) := ⟨_, Lib.hid rfl⟩
        have e3 : (lv != lv) = false := by simp
        have hl4 : (S6).ldS 4096 4 = S6 := ldS_oth _ _ _ (by decide) (by decide)
        have HL4 := Lib.hid hl4
        clear hl4
        go_wp2_with (first | (go_at_call 13; (with_reducible refine (cpload_at HO65.out OK6.out (PTb.h1 HTB HB65) 4096 4 lv true (S6) hlv.out (by decide) HL4.out (by decide) (by decide) (by decide) (by decide)).mono ?_); rintro e' w80 ⟨rfl, m80, f80⟩; have hs80 := f80.size; have HO80 := Lib.hid m80; have HR80 := Lib.hid (HR65.out.fr f80 (fun x => by unfold Rg at x; omega)); have HB80 := Lib.hid (HB65.out.trans (f80.lows HB65.out.size (Nat.le_refl _))); clear m80 f80) | (go_at_call 14; (with_reducible refine (rload_at12 HR80.out OK6.out 4096 4 lv true (S6) hlv.out (by decide) HL4.out).mono ?_); rintro e' w81 ⟨rfl, r81, f81⟩; have hs81 := f81.size; have HO81 := Lib.hid (HO80.out.fr f81 (fun i h1 h2 x => by omega)); have HR81 := Lib.hid r81; have HB81 := Lib.hid (HB80.out.trans (f81.bl HB80.out.size (fun i x => by omega))); clear r81 f81))
        go_roundw
        case rel => exact ⟨j + 1, S6, by omega, by go_num, OK6.out, HO81.out, HR81.out, HB81.out⟩
        case measure => simp [intOf]; omega
      · obtain ⟨x, hx⟩ : ∃ x, Hid (S.ldV coff csize = x) := ⟨_, Lib.hid rfl⟩
        obtain ⟨y, hy⟩ : ∃ y, Hid (rgO coff csize = y) := ⟨_, Lib.hid rfl⟩
        have ex : (x == x) = true := by simp
        have ey : (y == y) = true := by simp
        go_upto_region 22 with (first | (go_at_call 13; (with_reducible refine (cpload_at HO5.out OK.out (PTb.h1 HTB HB5) coff csize x y _ hx.out hy.out rfl o0 o1 z0 z1).mono ?_); rintro e' w1 ⟨rfl, mm, ff⟩; have hs1 := ff.size; have HO1 := Lib.hid mm; have HR1 := Lib.hid (HR5.out.fr ff (fun x => by unfold Rg at x; omega)); have HB1 := Lib.hid (HB5.out.trans (ff.lows HB5.out.size (Nat.le_refl _))); have hA1 := HA5.out.fram ff (by omega) (fun x => by unfold Rg at x; omega); have y1 := hA1 1 _ rfl; have y2 := hA1 2 _ rfl; have HA1 := Lib.hid hA1; clear mm ff hA1) | (go_at_call 14; (with_reducible refine (rload_at12 HR1.out OK.out coff csize x y _ hx.out hy.out rfl).mono ?_); rintro e' w2 ⟨rfl, rr, ff⟩; have hs2 := ff.size; have HO2 := Lib.hid (HO1.out.fr ff (fun i h1 h2 x => by omega)); have HR2 := Lib.hid rr; have HB2 := Lib.hid (HB1.out.trans (ff.bl HB1.out.size (fun i x => by omega))); have HA2 := Lib.hid (HA1.out.fram ff (by omega) (fun x => by omega)); clear rr ff))
        obtain ⟨S6, hS6⟩ : ∃ S6, S6 = S.ldS coff csize := ⟨_, rfl⟩
        rw [← hS6] at HO2 HR2
        have OK6 : Hid S6.Ok := Lib.hid (by rw [hS6]; exact OK.out.ldS _ _)
        clear hS6
        obtain ⟨p0, hp0⟩ : ∃ p, Hid ((S6).pend 0 = p) := ⟨_, Lib.hid rfl⟩
        obtain ⟨p1, hp1⟩ : ∃ p, Hid ((S6).pend 1 = p) := ⟨_, Lib.hid rfl⟩
        obtain ⟨p2, hp2⟩ : ∃ p, Hid ((S6).pend coff = p) := ⟨_, Lib.hid rfl⟩
        have e0 : (p0 != p0) = false := by simp
        have e1 : (p1 != p1) = false := by simp
        have e2 : (p2 != p2) = false := by simp
        go_upto_region 22 with fail
        have hA := HA2.out
        refine wp_region_held_drew (S := fun w' => At (b) [.int .i64 1, .int .i64 coff, .int .i64 csize, .int .u64 cv, .int .u32 cm] w') (by kernel_rfl) (hA.drew) (fun hS => ?_)
        have HOd := Lib.hid (HO2.out.fr (Fr.drew (Fr.refl w2 (fun _ => False))) (fun _ _ _ h => h))
        have HRd := Lib.hid (HR2.out.fr (Fr.drew (Fr.refl w2 (fun _ => False))) id)
        have HBd := Lib.hid HB2.out.drew
        have hsd : w2.drew.heap.size = w2.heap.size := rfl
        generalize w2.drew = g0 at hS HOd HRd HBd hsd ⊢
        (refine wpAnyH_take (i := 0) (oi := { dst := some 93, op := Op.move (Operand.tmp 7), type := 4, pos := "law.go:40", after := #[], guard := none }) (v := ?_) rfl (by kernel_rfl) (by kernel_rfl) (by kernel_rfl) (fun _ _ _ h => h) (Or.inl ⟨by rfl, ?_⟩) hS ?_; rotate_left; focus (intro w' s0; go_simp <;> try with_reducible rfl))
        try simp only [Act.put, List.setIfInBounds_toArray, List.set_cons_zero, List.set_cons_succ]
        (refine wpAnyH_take (i := 1) (oi := { dst := some 94, op := Op.unOp UnOp.not 4 (Operand.tmp 93), type := 4, pos := "law.go:40", after := #[{ on := 0, ground := Ground.data }], guard := none }) (v := ?_) rfl (by kernel_rfl) (by kernel_rfl) (by kernel_rfl) (fun _ _ _ h => h) (Or.inl ⟨by rfl, ?_⟩) hS ?_; rotate_left; focus (intro w' s0; go_simp <;> try with_reducible rfl))
        try simp only [Act.put, List.setIfInBounds_toArray, List.set_cons_zero, List.set_cons_succ]
        (refine wpAnyH_take (i := 2) (oi := { dst := some 95, op := Op.move (Operand.tmp 94), type := 4, pos := "law.go:40", after := #[{ on := 1, ground := Ground.data }], guard := none }) (v := ?_) rfl (by kernel_rfl) (by kernel_rfl) (by kernel_rfl) (fun _ _ _ h => h) (Or.inl ⟨by rfl, ?_⟩) hS ?_; rotate_left; focus (intro w' s0; go_simp <;> try with_reducible rfl))
        try simp only [Act.put, List.setIfInBounds_toArray, List.set_cons_zero, List.set_cons_succ]
        (refine wpAnyH_take (i := 3) (oi := { dst := some 96, op := Op.move (Operand.tmp 3), type := 24, pos := "law.go:40", after := #[{ on := 2, ground := Ground.guard }], guard := some (2, false) }) (v := ?_) rfl (by kernel_rfl) (by kernel_rfl) (by kernel_rfl) (fun _ _ _ h => h) (Or.inl ⟨by rfl, ?_⟩) hS ?_; rotate_left; focus (intro w' s0; go_simp <;> try with_reducible rfl))
        try simp only [Act.put, List.setIfInBounds_toArray, List.set_cons_zero, List.set_cons_succ]
        (refine wpAnyH_take (i := 5) (oi := { dst := some 98, op := Op.move (Operand.tmp 4), type := 26, pos := "law.go:40", after := #[{ on := 2, ground := Ground.guard }], guard := some (2, false) }) (v := ?_) rfl (by kernel_rfl) (by kernel_rfl) (by kernel_rfl) (fun _ _ _ h => h) (Or.inl ⟨by rfl, ?_⟩) hS ?_; rotate_left; focus (intro w' s0; go_simp <;> try with_reducible rfl))
        try simp only [Act.put, List.setIfInBounds_toArray, List.set_cons_zero, List.set_cons_succ]
        refine wpAnyH_ready (rs := [4]) (by kernel_rfl) (by simp) ?_
        refine AllReadyH.cons (o := { dst := some 97, op := Op.call { callee := Callee.value (Operand.func 17), args := #[Operand.tmp 96, Operand.const (Value.int IntKind.i64 0)], argTypes := #[24, 3] }, type := 4, pos := "law.go:40", after := #[{ on := 3, ground := Ground.data }, { on := 2, ground := Ground.chain }, { on := 2, ground := Ground.guard }], guard := some (2, false) }) rfl (fun K hK => ?_) AllReadyH.nil
        refine take_if (by rfl) ?_
        go_simp
        (with_reducible refine (cppend_at HOd.out OK6.out (PTb.h1 HTB HBd) 0 p0 hp0.out (by decide) (by decide)).mono ?_)
        rintro e' w60 ⟨rfl, m60, f60⟩
        have hS2 : At (b) [.int .i64 1, .int .i64 coff, .int .i64 csize, .int .u64 cv, .int .u32 cm] w60 := hS.fram f60 (by omega) (fun x => by unfold Rg at x; omega)
        have hs60 := f60.size
        have HO60 := Lib.hid m60
        have HR60 := Lib.hid (HRd.out.fr f60 (fun x => by unfold Rg at x; omega))
        have HB60 := Lib.hid (HBd.out.trans (f60.lows HBd.out.size (Nat.le_refl _)))
        clear m60 f60
        refine hK.out _ _ hS2 (fun hS => ?_)
        clear hK K hS2
        try simp only [Act.put, List.setIfInBounds_toArray, List.set_cons_zero, List.set_cons_succ]
        refine wpAnyH_ready (rs := [6]) (by kernel_rfl) (by simp) ?_
        refine AllReadyH.cons (o := { dst := some 99, op := Op.call { callee := Callee.value (Operand.func 18), args := #[Operand.tmp 98, Operand.const (Value.int IntKind.i64 0)], argTypes := #[26, 3] }, type := 4, pos := "law.go:40", after := #[{ on := 5, ground := Ground.data }, { on := 4, ground := Ground.chain }, { on := 2, ground := Ground.guard }], guard := some (2, false) }) rfl (fun K hK => ?_) AllReadyH.nil
        refine take_if (by rfl) ?_
        go_simp
        (with_reducible refine (rpend_at HR60.out OK6.out 0 p0 hp0.out).mono ?_)
        rintro e' w61 ⟨rfl, k61⟩
        have hS2 : At (b) [.int .i64 1, .int .i64 coff, .int .i64 csize, .int .u64 cv, .int .u32 cm] w61 := hS.kp k61 (by omega)
        have hs61 := k61.1.size
        have HO61 := Lib.hid (HO60.out.below k61.1)
        have HR61 := Lib.hid (HR60.out.kp k61)
        have HB61 := Lib.hid (HB60.out.trans (k61.1.mono HB60.out.size))
        clear k61
        refine hK.out _ _ hS2 (fun hS => ?_)
        clear hK K hS2
        try simp only [Act.put, List.setIfInBounds_toArray, List.set_cons_zero, List.set_cons_succ]
        (refine wpAnyH_take (i := 7) (oi := { dst := some 100, op := Op.binOp BinOp.neq 4 (Operand.tmp 97) (Operand.tmp 99) 4, type := 4, pos := "law.go:40", after := #[{ on := 4, ground := Ground.data }, { on := 6, ground := Ground.data }, { on := 2, ground := Ground.guard }], guard := some (2, false) }) (v := ?_) rfl (by kernel_rfl) (by kernel_rfl) (by kernel_rfl) (fun _ _ _ h => h) (Or.inl ⟨by rfl, ?_⟩) hS ?_; rotate_left; focus (intro w' s0; go_simp <;> try with_reducible rfl))
        try simp only [Act.put, List.setIfInBounds_toArray, List.set_cons_zero, List.set_cons_succ]
        (refine wpAnyH_take (i := 8) (oi := { dst := some 101, op := Op.pick (Operand.tmp 95) (Operand.const (Value.bool true)) (Operand.tmp 100), type := 4, pos := "law.go:40", after := #[{ on := 2, ground := Ground.data }, { on := 7, ground := Ground.data }], guard := none }) (v := ?_) rfl (by kernel_rfl) (by kernel_rfl) (by kernel_rfl) (fun _ _ _ h => h) (Or.inl ⟨by rfl, ?_⟩) hS ?_; rotate_left; focus (intro w' s0; go_simp <;> try with_reducible rfl))
        try simp only [Act.put, List.setIfInBounds_toArray, List.set_cons_zero, List.set_cons_succ]
        (refine wpAnyH_take (i := 9) (oi := { dst := some 102, op := Op.move (Operand.tmp 101), type := 4, pos := "law.go:40", after := #[{ on := 8, ground := Ground.data }, { on := 6, ground := Ground.chain }], guard := none }) (v := ?_) rfl (by kernel_rfl) (by kernel_rfl) (by kernel_rfl) (fun _ _ _ h => h) (Or.inl ⟨by rfl, ?_⟩) hS ?_; rotate_left; focus (intro w' s0; go_simp <;> try with_reducible rfl))
        try simp only [Act.put, List.setIfInBounds_toArray, List.set_cons_zero, List.set_cons_succ]
        (refine wpAnyH_take (i := 10) (oi := { dst := some 103, op := Op.move (Operand.tmp 3), type := 24, pos := "law.go:40", after := #[{ on := 9, ground := Ground.guard }], guard := some (9, false) }) (v := ?_) rfl (by kernel_rfl) (by kernel_rfl) (by kernel_rfl) (fun _ _ _ h => h) (Or.inl ⟨by rfl, ?_⟩) hS ?_; rotate_left; focus (intro w' s0; go_simp <;> try with_reducible rfl))
        try simp only [Act.put, List.setIfInBounds_toArray, List.set_cons_zero, List.set_cons_succ]
        (refine wpAnyH_take (i := 12) (oi := { dst := some 105, op := Op.move (Operand.tmp 4), type := 26, pos := "law.go:40", after := #[{ on := 9, ground := Ground.guard }], guard := some (9, false) }) (v := ?_) rfl (by kernel_rfl) (by kernel_rfl) (by kernel_rfl) (fun _ _ _ h => h) (Or.inl ⟨by rfl, ?_⟩) hS ?_; rotate_left; focus (intro w' s0; go_simp <;> try with_reducible rfl))
        try simp only [Act.put, List.setIfInBounds_toArray, List.set_cons_zero, List.set_cons_succ]
        refine wpAnyH_ready (rs := [11]) (by kernel_rfl) (by simp) ?_
        refine AllReadyH.cons (o := { dst := some 104, op := Op.call { callee := Callee.value (Operand.func 17), args := #[Operand.tmp 103, Operand.const (Value.int IntKind.i64 1)], argTypes := #[24, 3] }, type := 4, pos := "law.go:40", after := #[{ on := 10, ground := Ground.data }, { on := 9, ground := Ground.chain }, { on := 9, ground := Ground.guard }], guard := some (9, false) }) rfl (fun K hK => ?_) AllReadyH.nil
        refine take_if (by rfl) ?_
        go_simp
        (with_reducible refine (cppend_at HO61.out OK6.out (PTb.h1 HTB HB61) 1 p1 hp1.out (by decide) (by decide)).mono ?_)
        rintro e' w62 ⟨rfl, m62, f62⟩
        have hS2 : At (b) [.int .i64 1, .int .i64 coff, .int .i64 csize, .int .u64 cv, .int .u32 cm] w62 := hS.fram f62 (by omega) (fun x => by unfold Rg at x; omega)
        have hs62 := f62.size
        have HO62 := Lib.hid m62
        have HR62 := Lib.hid (HR61.out.fr f62 (fun x => by unfold Rg at x; omega))
        have HB62 := Lib.hid (HB61.out.trans (f62.lows HB61.out.size (Nat.le_refl _)))
        clear m62 f62
        refine hK.out _ _ hS2 (fun hS => ?_)
        clear hK K hS2
        try simp only [Act.put, List.setIfInBounds_toArray, List.set_cons_zero, List.set_cons_succ]
        refine wpAnyH_ready (rs := [13]) (by kernel_rfl) (by simp) ?_
        refine AllReadyH.cons (o := { dst := some 106, op := Op.call { callee := Callee.value (Operand.func 18), args := #[Operand.tmp 105, Operand.const (Value.int IntKind.i64 1)], argTypes := #[26, 3] }, type := 4, pos := "law.go:40", after := #[{ on := 12, ground := Ground.data }, { on := 11, ground := Ground.chain }, { on := 9, ground := Ground.guard }], guard := some (9, false) }) rfl (fun K hK => ?_) AllReadyH.nil
        refine take_if (by rfl) ?_
        go_simp
        (with_reducible refine (rpend_at HR62.out OK6.out 1 p1 hp1.out).mono ?_)
        rintro e' w63 ⟨rfl, k63⟩
        have hS2 : At (b) [.int .i64 1, .int .i64 coff, .int .i64 csize, .int .u64 cv, .int .u32 cm] w63 := hS.kp k63 (by omega)
        have hs63 := k63.1.size
        have HO63 := Lib.hid (HO62.out.below k63.1)
        have HR63 := Lib.hid (HR62.out.kp k63)
        have HB63 := Lib.hid (HB62.out.trans (k63.1.mono HB62.out.size))
        clear k63
        refine hK.out _ _ hS2 (fun hS => ?_)
        clear hK K hS2
        try simp only [Act.put, List.setIfInBounds_toArray, List.set_cons_zero, List.set_cons_succ]
        (refine wpAnyH_take (i := 14) (oi := { dst := some 107, op := Op.binOp BinOp.neq 4 (Operand.tmp 104) (Operand.tmp 106) 4, type := 4, pos := "law.go:40", after := #[{ on := 11, ground := Ground.data }, { on := 13, ground := Ground.data }, { on := 9, ground := Ground.guard }], guard := some (9, false) }) (v := ?_) rfl (by kernel_rfl) (by kernel_rfl) (by kernel_rfl) (fun _ _ _ h => h) (Or.inl ⟨by rfl, ?_⟩) hS ?_; rotate_left; focus (intro w' s0; go_simp <;> try with_reducible rfl))
        try simp only [Act.put, List.setIfInBounds_toArray, List.set_cons_zero, List.set_cons_succ]
        (refine wpAnyH_take (i := 15) (oi := { dst := some 108, op := Op.pick (Operand.tmp 102) (Operand.const (Value.bool true)) (Operand.tmp 107), type := 4, pos := "law.go:40", after := #[{ on := 9, ground := Ground.data }, { on := 14, ground := Ground.data }], guard := none }) (v := ?_) rfl (by kernel_rfl) (by kernel_rfl) (by kernel_rfl) (fun _ _ _ h => h) (Or.inl ⟨by rfl, ?_⟩) hS ?_; rotate_left; focus (intro w' s0; go_simp <;> try with_reducible rfl))
        try simp only [Act.put, List.setIfInBounds_toArray, List.set_cons_zero, List.set_cons_succ]
        (refine wpAnyH_take (i := 16) (oi := { dst := some 109, op := Op.move (Operand.tmp 108), type := 4, pos := "law.go:40", after := #[{ on := 15, ground := Ground.data }, { on := 13, ground := Ground.chain }], guard := none }) (v := ?_) rfl (by kernel_rfl) (by kernel_rfl) (by kernel_rfl) (fun _ _ _ h => h) (Or.inl ⟨by rfl, ?_⟩) hS ?_; rotate_left; focus (intro w' s0; go_simp <;> try with_reducible rfl))
        try simp only [Act.put, List.setIfInBounds_toArray, List.set_cons_zero, List.set_cons_succ]
        (refine wpAnyH_take (i := 17) (oi := { dst := some 110, op := Op.move (Operand.tmp 3), type := 24, pos := "law.go:40", after := #[{ on := 16, ground := Ground.guard }], guard := some (16, false) }) (v := ?_) rfl (by kernel_rfl) (by kernel_rfl) (by kernel_rfl) (fun _ _ _ h => h) (Or.inl ⟨by rfl, ?_⟩) hS ?_; rotate_left; focus (intro w' s0; go_simp <;> try with_reducible rfl))
        try simp only [Act.put, List.setIfInBounds_toArray, List.set_cons_zero, List.set_cons_succ]
        (refine wpAnyH_take (i := 18) (oi := { dst := some 111, op := Op.fieldAddr 31 (Operand.tmp 6) 1, type := 0, pos := "law.go:40", after := #[{ on := 16, ground := Ground.guard }], guard := some (16, false) }) (v := ?_) rfl (by kernel_rfl) (by kernel_rfl) (by kernel_rfl) (fun _ _ _ h => h) (Or.inl ⟨by rfl, ?_⟩) hS ?_; rotate_left; focus (intro w' s0; go_simp <;> try with_reducible rfl))
        try simp only [Act.put, List.setIfInBounds_toArray, List.set_cons_zero, List.set_cons_succ]
        (refine wpAnyH_take (i := 19) (oi := { dst := some 112, op := Op.load 3 (Operand.tmp 111), type := 3, pos := "law.go:40", after := #[{ on := 18, ground := Ground.data }, { on := 16, ground := Ground.guard }], guard := some (16, false) }) (v := ?_) rfl (by kernel_rfl) (by kernel_rfl) (by kernel_rfl) (fun _ _ _ h => h) (Or.inl ⟨by rfl, ?_⟩) hS ?_; rotate_left; focus (intro w' s0; have c_0 := s0 0 _ rfl; have c_1 := s0 1 _ rfl; have c_2 := s0 2 _ rfl; have c_3 := s0 3 _ rfl; have c_4 := s0 4 _ rfl; go_simp <;> try with_reducible rfl))
        try simp only [Act.put, List.setIfInBounds_toArray, List.set_cons_zero, List.set_cons_succ]
        (refine wpAnyH_take (i := 21) (oi := { dst := some 114, op := Op.move (Operand.tmp 4), type := 26, pos := "law.go:40", after := #[{ on := 16, ground := Ground.guard }], guard := some (16, false) }) (v := ?_) rfl (by kernel_rfl) (by kernel_rfl) (by kernel_rfl) (fun _ _ _ h => h) (Or.inl ⟨by rfl, ?_⟩) hS ?_; rotate_left; focus (intro w' s0; go_simp <;> try with_reducible rfl))
        try simp only [Act.put, List.setIfInBounds_toArray, List.set_cons_zero, List.set_cons_succ]
        (refine wpAnyH_take (i := 22) (oi := { dst := some 115, op := Op.fieldAddr 31 (Operand.tmp 6) 1, type := 0, pos := "law.go:40", after := #[{ on := 16, ground := Ground.guard }], guard := some (16, false) }) (v := ?_) rfl (by kernel_rfl) (by kernel_rfl) (by kernel_rfl) (fun _ _ _ h => h) (Or.inl ⟨by rfl, ?_⟩) hS ?_; rotate_left; focus (intro w' s0; go_simp <;> try with_reducible rfl))
        try simp only [Act.put, List.setIfInBounds_toArray, List.set_cons_zero, List.set_cons_succ]
        (refine wpAnyH_take (i := 23) (oi := { dst := some 116, op := Op.load 3 (Operand.tmp 115), type := 3, pos := "law.go:40", after := #[{ on := 22, ground := Ground.data }, { on := 16, ground := Ground.guard }], guard := some (16, false) }) (v := ?_) rfl (by kernel_rfl) (by kernel_rfl) (by kernel_rfl) (fun _ _ _ h => h) (Or.inl ⟨by rfl, ?_⟩) hS ?_; rotate_left; focus (intro w' s0; have c_0 := s0 0 _ rfl; have c_1 := s0 1 _ rfl; have c_2 := s0 2 _ rfl; have c_3 := s0 3 _ rfl; have c_4 := s0 4 _ rfl; go_simp <;> try with_reducible rfl))
        try simp only [Act.put, List.setIfInBounds_toArray, List.set_cons_zero, List.set_cons_succ]
        refine wpAnyH_ready (rs := [20]) (by kernel_rfl) (by simp) ?_
        refine AllReadyH.cons (o := { dst := some 113, op := Op.call { callee := Callee.value (Operand.func 17), args := #[Operand.tmp 110, Operand.tmp 112], argTypes := #[24, 3] }, type := 4, pos := "law.go:40", after := #[{ on := 17, ground := Ground.data }, { on := 19, ground := Ground.data }, { on := 16, ground := Ground.chain }, { on := 16, ground := Ground.guard }], guard := some (16, false) }) rfl (fun K hK => ?_) AllReadyH.nil
        refine take_if (by rfl) ?_
        go_simp
        (with_reducible refine (cppend_at HO63.out OK6.out (PTb.h1 HTB HB63) coff p2 hp2.out o0 o1).mono ?_)
        rintro e' w64 ⟨rfl, m64, f64⟩
        have hS2 : At (b) [.int .i64 1, .int .i64 coff, .int .i64 csize, .int .u64 cv, .int .u32 cm] w64 := hS.fram f64 (by omega) (fun x => by unfold Rg at x; omega)
        have hs64 := f64.size
        have HO64 := Lib.hid m64
        have HR64 := Lib.hid (HR63.out.fr f64 (fun x => by unfold Rg at x; omega))
        have HB64 := Lib.hid (HB63.out.trans (f64.lows HB63.out.size (Nat.le_refl _)))
        clear m64 f64
        refine hK.out _ _ hS2 (fun hS => ?_)
        clear hK K hS2
        try simp only [Act.put, List.setIfInBounds_toArray, List.set_cons_zero, List.set_cons_succ]
        refine wpAnyH_ready (rs := [24]) (by kernel_rfl) (by simp) ?_
        refine AllReadyH.cons (o := { dst := some 117, op := Op.call { callee := Callee.value (Operand.func 18), args := #[Operand.tmp 114, Operand.tmp 116], argTypes := #[26, 3] }, type := 4, pos := "law.go:40", after := #[{ on := 21, ground := Ground.data }, { on := 23, ground := Ground.data }, { on := 20, ground := Ground.chain }, { on := 16, ground := Ground.guard }], guard := some (16, false) }) rfl (fun K hK => ?_) AllReadyH.nil
        refine take_if (by rfl) ?_
        go_simp
        (with_reducible refine (rpend_at HR64.out OK6.out coff p2 hp2.out).mono ?_)
        rintro e' w65 ⟨rfl, k65⟩
        have hS2 : At (b) [.int .i64 1, .int .i64 coff, .int .i64 csize, .int .u64 cv, .int .u32 cm] w65 := hS.kp k65 (by omega)
        have hs65 := k65.1.size
        have HO65 := Lib.hid (HO64.out.below k65.1)
        have HR65 := Lib.hid (HR64.out.kp k65)
        have HB65 := Lib.hid (HB64.out.trans (k65.1.mono HB64.out.size))
        clear k65
        refine hK.out _ _ hS2 (fun hS => ?_)
        clear hK K hS2
        try simp only [Act.put, List.setIfInBounds_toArray, List.set_cons_zero, List.set_cons_succ]
        (refine wpAnyH_take (i := 25) (oi := { dst := some 118, op := Op.binOp BinOp.neq 4 (Operand.tmp 113) (Operand.tmp 117) 4, type := 4, pos := "law.go:40", after := #[{ on := 20, ground := Ground.data }, { on := 24, ground := Ground.data }, { on := 16, ground := Ground.guard }], guard := some (16, false) }) (v := ?_) rfl (by kernel_rfl) (by kernel_rfl) (by kernel_rfl) (fun _ _ _ h => h) (Or.inl ⟨by rfl, ?_⟩) hS ?_; rotate_left; focus (intro w' s0; go_simp <;> try with_reducible rfl))
        try simp only [Act.put, List.setIfInBounds_toArray, List.set_cons_zero, List.set_cons_succ]
        (refine wpAnyH_take (i := 26) (oi := { dst := some 119, op := Op.pick (Operand.tmp 109) (Operand.const (Value.bool true)) (Operand.tmp 118), type := 4, pos := "law.go:40", after := #[{ on := 16, ground := Ground.data }, { on := 25, ground := Ground.data }], guard := none }) (v := ?_) rfl (by kernel_rfl) (by kernel_rfl) (by kernel_rfl) (fun _ _ _ h => h) (Or.inl ⟨by rfl, ?_⟩) hS ?_; rotate_left; focus (intro w' s0; go_simp <;> try with_reducible rfl))
        try simp only [Act.put, List.setIfInBounds_toArray, List.set_cons_zero, List.set_cons_succ]
        refine wpAnyH_done (by kernel_rfl) ?_ _
        obtain ⟨lv, hlv⟩ : ∃ lv, Hid ((S6).ldV 4096 4 = lv) := ⟨_, Lib.hid rfl⟩
        have e3 : (lv != lv) = false := by simp
        have hl4 : (S6).ldS 4096 4 = S6 := ldS_oth _ _ _ (by decide) (by decide)
        have HL4 := Lib.hid hl4
        clear hl4
        go_wp2_with (first | (go_at_call 13; (with_reducible refine (cpload_at HO65.out OK6.out (PTb.h1 HTB HB65) 4096 4 lv true (S6) hlv.out (by decide) HL4.out (by decide) (by decide) (by decide) (by decide)).mono ?_); rintro e' w80 ⟨rfl, m80, f80⟩; have hs80 := f80.size; have HO80 := Lib.hid m80; have HR80 := Lib.hid (HR65.out.fr f80 (fun x => by unfold Rg at x; omega)); have HB80 := Lib.hid (HB65.out.trans (f80.lows HB65.out.size (Nat.le_refl _))); clear m80 f80) | (go_at_call 14; (with_reducible refine (rload_at12 HR80.out OK6.out 4096 4 lv true (S6) hlv.out (by decide) HL4.out).mono ?_); rintro e' w81 ⟨rfl, r81, f81⟩; have hs81 := f81.size; have HO81 := Lib.hid (HO80.out.fr f81 (fun i h1 h2 x => by omega)); have HR81 := Lib.hid r81; have HB81 := Lib.hid (HB80.out.trans (f81.bl HB80.out.size (fun i x => by omega))); clear r81 f81))
        go_roundw
        case rel => exact ⟨j + 1, S6, by omega, by go_num, OK6.out, HO81.out, HR81.out, HB81.out⟩
        case measure => simp [intOf]; omega
      · obtain ⟨y, hy⟩ : ∃ y, Hid (rgO coff csize = y) := ⟨_, Lib.hid rfl⟩
        have ey : (y == y) = true := by simp
        go_upto_region 21 with fail
        have hA := HA5.out
        refine wp_region_held_drew (S := fun w' => At (b) [.int .i64 2, .int .i64 coff, .int .i64 csize, .int .u64 cv, .int .u32 cm] w') (by kernel_rfl) (hA.drew) (fun hS => ?_)
        have HOd := Lib.hid (HO5.out.fr (Fr.drew (Fr.refl w5 (fun _ => False))) (fun _ _ _ h => h))
        have HRd := Lib.hid (HR5.out.fr (Fr.drew (Fr.refl w5 (fun _ => False))) id)
        have HBd := Lib.hid HB5.out.drew
        have hsd : w5.drew.heap.size = w5.heap.size := rfl
        generalize w5.drew = g0 at hS HOd HRd HBd hsd ⊢
        (refine wpAnyH_take (i := 0) (oi := { dst := some 76, op := Op.move (Operand.tmp 3), type := 24, pos := "law.go:38", after := #[], guard := none }) (v := ?_) rfl (by kernel_rfl) (by kernel_rfl) (by kernel_rfl) (fun _ _ _ h => h) (Or.inl ⟨by rfl, ?_⟩) hS ?_; rotate_left; focus (intro w' s0; go_simp <;> try with_reducible rfl))
        try simp only [Act.put, List.setIfInBounds_toArray, List.set_cons_zero, List.set_cons_succ]
        (refine wpAnyH_take (i := 1) (oi := { dst := some 77, op := Op.fieldAddr 31 (Operand.tmp 6) 1, type := 0, pos := "law.go:38", after := #[], guard := none }) (v := ?_) rfl (by kernel_rfl) (by kernel_rfl) (by kernel_rfl) (fun _ _ _ h => h) (Or.inl ⟨by rfl, ?_⟩) hS ?_; rotate_left; focus (intro w' s0; go_simp <;> try with_reducible rfl))
        try simp only [Act.put, List.setIfInBounds_toArray, List.set_cons_zero, List.set_cons_succ]
        (refine wpAnyH_take (i := 2) (oi := { dst := some 78, op := Op.load 3 (Operand.tmp 77), type := 3, pos := "law.go:38", after := #[{ on := 1, ground := Ground.data }], guard := none }) (v := ?_) rfl (by kernel_rfl) (by kernel_rfl) (by kernel_rfl) (fun _ _ _ h => h) (Or.inl ⟨by rfl, ?_⟩) hS ?_; rotate_left; focus (intro w' s0; have c_0 := s0 0 _ rfl; have c_1 := s0 1 _ rfl; have c_2 := s0 2 _ rfl; have c_3 := s0 3 _ rfl; have c_4 := s0 4 _ rfl; go_simp <;> try with_reducible rfl))
        try simp only [Act.put, List.setIfInBounds_toArray, List.set_cons_zero, List.set_cons_succ]
        (refine wpAnyH_take (i := 3) (oi := { dst := some 79, op := Op.fieldAddr 31 (Operand.tmp 6) 2, type := 0, pos := "law.go:38", after := #[], guard := none }) (v := ?_) rfl (by kernel_rfl) (by kernel_rfl) (by kernel_rfl) (fun _ _ _ h => h) (Or.inl ⟨by rfl, ?_⟩) hS ?_; rotate_left; focus (intro w' s0; go_simp <;> try with_reducible rfl))
        try simp only [Act.put, List.setIfInBounds_toArray, List.set_cons_zero, List.set_cons_succ]
        (refine wpAnyH_take (i := 4) (oi := { dst := some 80, op := Op.load 3 (Operand.tmp 79), type := 3, pos := "law.go:38", after := #[{ on := 3, ground := Ground.data }], guard := none }) (v := ?_) rfl (by kernel_rfl) (by kernel_rfl) (by kernel_rfl) (fun _ _ _ h => h) (Or.inl ⟨by rfl, ?_⟩) hS ?_; rotate_left; focus (intro w' s0; have c_0 := s0 0 _ rfl; have c_1 := s0 1 _ rfl; have c_2 := s0 2 _ rfl; have c_3 := s0 3 _ rfl; have c_4 := s0 4 _ rfl; go_simp <;> try with_reducible rfl))
        try simp only [Act.put, List.setIfInBounds_toArray, List.set_cons_zero, List.set_cons_succ]
        (refine wpAnyH_take (i := 5) (oi := { dst := some 81, op := Op.fieldAddr 31 (Operand.tmp 6) 3, type := 0, pos := "law.go:38", after := #[], guard := none }) (v := ?_) rfl (by kernel_rfl) (by kernel_rfl) (by kernel_rfl) (fun _ _ _ h => h) (Or.inl ⟨by rfl, ?_⟩) hS ?_; rotate_left; focus (intro w' s0; go_simp <;> try with_reducible rfl))
        try simp only [Act.put, List.setIfInBounds_toArray, List.set_cons_zero, List.set_cons_succ]
        (refine wpAnyH_take (i := 6) (oi := { dst := some 82, op := Op.load 28 (Operand.tmp 81), type := 28, pos := "law.go:38", after := #[{ on := 5, ground := Ground.data }], guard := none }) (v := ?_) rfl (by kernel_rfl) (by kernel_rfl) (by kernel_rfl) (fun _ _ _ h => h) (Or.inl ⟨by rfl, ?_⟩) hS ?_; rotate_left; focus (intro w' s0; have c_0 := s0 0 _ rfl; have c_1 := s0 1 _ rfl; have c_2 := s0 2 _ rfl; have c_3 := s0 3 _ rfl; have c_4 := s0 4 _ rfl; go_simp <;> try with_reducible rfl))
        try simp only [Act.put, List.setIfInBounds_toArray, List.set_cons_zero, List.set_cons_succ]
        (refine wpAnyH_take (i := 8) (oi := { dst := some 84, op := Op.move (Operand.tmp 4), type := 26, pos := "law.go:38", after := #[], guard := none }) (v := ?_) rfl (by kernel_rfl) (by kernel_rfl) (by kernel_rfl) (fun _ _ _ h => h) (Or.inl ⟨by rfl, ?_⟩) hS ?_; rotate_left; focus (intro w' s0; go_simp <;> try with_reducible rfl))
        try simp only [Act.put, List.setIfInBounds_toArray, List.set_cons_zero, List.set_cons_succ]
        (refine wpAnyH_take (i := 9) (oi := { dst := some 85, op := Op.fieldAddr 31 (Operand.tmp 6) 1, type := 0, pos := "law.go:38", after := #[], guard := none }) (v := ?_) rfl (by kernel_rfl) (by kernel_rfl) (by kernel_rfl) (fun _ _ _ h => h) (Or.inl ⟨by rfl, ?_⟩) hS ?_; rotate_left; focus (intro w' s0; go_simp <;> try with_reducible rfl))
        try simp only [Act.put, List.setIfInBounds_toArray, List.set_cons_zero, List.set_cons_succ]
        (refine wpAnyH_take (i := 10) (oi := { dst := some 86, op := Op.load 3 (Operand.tmp 85), type := 3, pos := "law.go:38", after := #[{ on := 9, ground := Ground.data }], guard := none }) (v := ?_) rfl (by kernel_rfl) (by kernel_rfl) (by kernel_rfl) (fun _ _ _ h => h) (Or.inl ⟨by rfl, ?_⟩) hS ?_; rotate_left; focus (intro w' s0; have c_0 := s0 0 _ rfl; have c_1 := s0 1 _ rfl; have c_2 := s0 2 _ rfl; have c_3 := s0 3 _ rfl; have c_4 := s0 4 _ rfl; go_simp <;> try with_reducible rfl))
        try simp only [Act.put, List.setIfInBounds_toArray, List.set_cons_zero, List.set_cons_succ]
        (refine wpAnyH_take (i := 11) (oi := { dst := some 87, op := Op.fieldAddr 31 (Operand.tmp 6) 2, type := 0, pos := "law.go:38", after := #[], guard := none }) (v := ?_) rfl (by kernel_rfl) (by kernel_rfl) (by kernel_rfl) (fun _ _ _ h => h) (Or.inl ⟨by rfl, ?_⟩) hS ?_; rotate_left; focus (intro w' s0; go_simp <;> try with_reducible rfl))
        try simp only [Act.put, List.setIfInBounds_toArray, List.set_cons_zero, List.set_cons_succ]
        (refine wpAnyH_take (i := 12) (oi := { dst := some 88, op := Op.load 3 (Operand.tmp 87), type := 3, pos := "law.go:38", after := #[{ on := 11, ground := Ground.data }], guard := none }) (v := ?_) rfl (by kernel_rfl) (by kernel_rfl) (by kernel_rfl) (fun _ _ _ h => h) (Or.inl ⟨by rfl, ?_⟩) hS ?_; rotate_left; focus (intro w' s0; have c_0 := s0 0 _ rfl; have c_1 := s0 1 _ rfl; have c_2 := s0 2 _ rfl; have c_3 := s0 3 _ rfl; have c_4 := s0 4 _ rfl; go_simp <;> try with_reducible rfl))
        try simp only [Act.put, List.setIfInBounds_toArray, List.set_cons_zero, List.set_cons_succ]
        (refine wpAnyH_take (i := 13) (oi := { dst := some 89, op := Op.fieldAddr 31 (Operand.tmp 6) 3, type := 0, pos := "law.go:38", after := #[], guard := none }) (v := ?_) rfl (by kernel_rfl) (by kernel_rfl) (by kernel_rfl) (fun _ _ _ h => h) (Or.inl ⟨by rfl, ?_⟩) hS ?_; rotate_left; focus (intro w' s0; go_simp <;> try with_reducible rfl))
        try simp only [Act.put, List.setIfInBounds_toArray, List.set_cons_zero, List.set_cons_succ]
        (refine wpAnyH_take (i := 14) (oi := { dst := some 90, op := Op.load 28 (Operand.tmp 89), type := 28, pos := "law.go:38", after := #[{ on := 13, ground := Ground.data }], guard := none }) (v := ?_) rfl (by kernel_rfl) (by kernel_rfl) (by kernel_rfl) (fun _ _ _ h => h) (Or.inl ⟨by rfl, ?_⟩) hS ?_; rotate_left; focus (intro w' s0; have c_0 := s0 0 _ rfl; have c_1 := s0 1 _ rfl; have c_2 := s0 2 _ rfl; have c_3 := s0 3 _ rfl; have c_4 := s0 4 _ rfl; go_simp <;> try with_reducible rfl))
        try simp only [Act.put, List.setIfInBounds_toArray, List.set_cons_zero, List.set_cons_succ]
        refine wpAnyH_ready (rs := [7]) (by kernel_rfl) (by simp) ?_
        refine AllReadyH.cons (o := { dst := some 83, op := Op.call { callee := Callee.value (Operand.func 15), args := #[Operand.tmp 76, Operand.tmp 78, Operand.tmp 80, Operand.tmp 82], argTypes := #[24, 3, 3, 28] }, type := 4, pos := "law.go:38", after := #[{ on := 0, ground := Ground.data }, { on := 2, ground := Ground.data }, { on := 4, ground := Ground.data }, { on := 6, ground := Ground.data }], guard := none }) rfl (fun K hK => ?_) AllReadyH.nil
        refine take_if (by rfl) ?_
        go_simp
        (with_reducible refine (cpstore_at HOd.out OK.out (PTb.h1 HTB HBd) coff csize cv y _ hy.out rfl o0 o1 z0 z1 v0 v1).mono ?_)
        rintro e' w1 ⟨rfl, m1, f1⟩
        have hS2 : At (b) [.int .i64 2, .int .i64 coff, .int .i64 csize, .int .u64 cv, .int .u32 cm] w1 := hS.fram f1 (by omega) (fun x => by unfold Rg at x; omega)
        have hs1 := f1.size
        have HO1 := Lib.hid m1
        have HR1 := Lib.hid (HRd.out.fr f1 (fun x => by unfold Rg at x; omega))
        have HB1 := Lib.hid (HBd.out.trans (f1.lows HBd.out.size (Nat.le_refl _)))
        clear m1 f1
        refine hK.out _ _ hS2 (fun hS => ?_)
        clear hK K hS2
        try simp only [Act.put, List.setIfInBounds_toArray, List.set_cons_zero, List.set_cons_succ]
        refine wpAnyH_ready (rs := [15]) (by kernel_rfl) (by simp) ?_
        refine AllReadyH.cons (o := { dst := some 91, op := Op.call { callee := Callee.value (Operand.func 16), args := #[Operand.tmp 84, Operand.tmp 86, Operand.tmp 88, Operand.tmp 90], argTypes := #[26, 3, 3, 28] }, type := 4, pos := "law.go:38", after := #[{ on := 8, ground := Ground.data }, { on := 10, ground := Ground.data }, { on := 12, ground := Ground.data }, { on := 14, ground := Ground.data }, { on := 7, ground := Ground.chain }], guard := none }) rfl (fun K hK => ?_) AllReadyH.nil
        refine take_if (by rfl) ?_
        go_simp
        (with_reducible refine (rstore_at12 HR1.out OK.out coff csize cv y _ hy.out rfl v0 v1).mono ?_)
        rintro e' w2 ⟨rfl, r2, f2⟩
        have hS2 : At (b) [.int .i64 2, .int .i64 coff, .int .i64 csize, .int .u64 cv, .int .u32 cm] w2 := hS.fram f2 (by omega) (fun x => by omega)
        have hs2 := f2.size
        have HO2 := Lib.hid (HO1.out.fr f2 (fun i h1 h2 x => by omega))
        have HR2 := Lib.hid r2
        have HB2 := Lib.hid (HB1.out.trans (f2.bl HB1.out.size (fun i x => by omega)))
        clear r2 f2
        refine hK.out _ _ hS2 (fun hS => ?_)
        clear hK K hS2
        try simp only [Act.put, List.setIfInBounds_toArray, List.set_cons_zero, List.set_cons_succ]
        (refine wpAnyH_take (i := 16) (oi := { dst := some 92, op := Op.binOp BinOp.eql 4 (Operand.tmp 83) (Operand.tmp 91) 4, type := 4, pos := "law.go:38", after := #[{ on := 7, ground := Ground.data }, { on := 15, ground := Ground.data }], guard := none }) (v := ?_) rfl (by kernel_rfl) (by kernel_rfl) (by kernel_rfl) (fun _ _ _ h => h) (Or.inl ⟨by rfl, ?_⟩) hS ?_; rotate_left; focus (intro w' s0; go_simp <;> try with_reducible rfl))
        try simp only [Act.put, List.setIfInBounds_toArray, List.set_cons_zero, List.set_cons_succ]
        (refine wpAnyH_take (i := 17) (oi := { dst := some 7, op := Op.assign (Operand.tmp 92), type := 4, pos := "law.go:38", after := #[{ on := 16, ground := Ground.data }, { on := 15, ground := Ground.chain }, { on := 0, ground := Ground.phase }, { on := 1, ground := Ground.phase }, { on := 2, ground := Ground.phase }, { on := 3, ground := Ground.phase }, { on := 4, ground := Ground.phase }, { on := 5, ground := Ground.phase }, { on := 6, ground := Ground.phase }, { on := 7, ground := Ground.phase }, { on := 8, ground := Ground.phase }, { on := 9, ground := Ground.phase }, { on := 10, ground := Ground.phase }, { on := 11, ground := Ground.phase }, { on := 12, ground := Ground.phase }, { on := 13, ground := Ground.phase }, { on := 14, ground := Ground.phase }, { on := 15, ground := Ground.phase }, { on := 16, ground := Ground.phase }], guard := none }) (v := ?_) rfl (by kernel_rfl) (by kernel_rfl) (by kernel_rfl) (fun _ _ _ h => h) (Or.inl ⟨by rfl, ?_⟩) hS ?_; rotate_left; focus (intro w' s0; go_simp <;> try with_reducible rfl))
        try simp only [Act.put, List.setIfInBounds_toArray, List.set_cons_zero, List.set_cons_succ]
        refine wpAnyH_done (by kernel_rfl) ?_ _
        have HA2 := Lib.hid hS
        clear hS
        obtain ⟨S6, hS6⟩ : ∃ S6, S6 = S.stS coff csize cv := ⟨_, rfl⟩
        rw [← hS6] at HO2 HR2
        have OK6 : Hid S6.Ok := Lib.hid (by rw [hS6]; exact OK.out.stS _ _ _)
        clear hS6
        obtain ⟨p0, hp0⟩ : ∃ p, Hid ((S6).pend 0 = p) := ⟨_, Lib.hid rfl⟩
        obtain ⟨p1, hp1⟩ : ∃ p, Hid ((S6).pend 1 = p) := ⟨_, Lib.hid rfl⟩
        obtain ⟨p2, hp2⟩ : ∃ p, Hid ((S6).pend coff = p) := ⟨_, Lib.hid rfl⟩
        have e0 : (p0 != p0) = false := by simp
        have e1 : (p1 != p1) = false := by simp
        have e2 : (p2 != p2) = false := by simp
        go_upto_region 22 with fail
        have hA := HA2.out
        refine wp_region_held_drew (S := fun w' => At (b) [.int .i64 2, .int .i64 coff, .int .i64 csize, .int .u64 cv, .int .u32 cm] w') (by kernel_rfl) (hA.drew) (fun hS => ?_)
        have HOd := Lib.hid (HO2.out.fr (Fr.drew (Fr.refl w2 (fun _ => False))) (fun _ _ _ h => h))
        have HRd := Lib.hid (HR2.out.fr (Fr.drew (Fr.refl w2 (fun _ => False))) id)
        have HBd := Lib.hid HB2.out.drew
        have hsd : w2.drew.heap.size = w2.heap.size := rfl
        generalize w2.drew = g0 at hS HOd HRd HBd hsd ⊢
        (refine wpAnyH_take (i := 0) (oi := { dst := some 93, op := Op.move (Operand.tmp 7), type := 4, pos := "law.go:40", after := #[], guard := none }) (v := ?_) rfl (by kernel_rfl) (by kernel_rfl) (by kernel_rfl) (fun _ _ _ h => h) (Or.inl ⟨by rfl, ?_⟩) hS ?_; rotate_left; focus (intro w' s0; go_simp <;> try with_reducible rfl))
        try simp only [Act.put, List.setIfInBounds_toArray, List.set_cons_zero, List.set_cons_succ]
        (refine wpAnyH_take (i := 1) (oi := { dst := some 94, op := Op.unOp UnOp.not 4 (Operand.tmp 93), type := 4, pos := "law.go:40", after := #[{ on := 0, ground := Ground.data }], guard := none }) (v := ?_) rfl (by kernel_rfl) (by kernel_rfl) (by kernel_rfl) (fun _ _ _ h => h) (Or.inl ⟨by rfl, ?_⟩) hS ?_; rotate_left; focus (intro w' s0; go_simp <;> try with_reducible rfl))
        try simp only [Act.put, List.setIfInBounds_toArray, List.set_cons_zero, List.set_cons_succ]
        (refine wpAnyH_take (i := 2) (oi := { dst := some 95, op := Op.move (Operand.tmp 94), type := 4, pos := "law.go:40", after := #[{ on := 1, ground := Ground.data }], guard := none }) (v := ?_) rfl (by kernel_rfl) (by kernel_rfl) (by kernel_rfl) (fun _ _ _ h => h) (Or.inl ⟨by rfl, ?_⟩) hS ?_; rotate_left; focus (intro w' s0; go_simp <;> try with_reducible rfl))
        try simp only [Act.put, List.setIfInBounds_toArray, List.set_cons_zero, List.set_cons_succ]
        (refine wpAnyH_take (i := 3) (oi := { dst := some 96, op := Op.move (Operand.tmp 3), type := 24, pos := "law.go:40", after := #[{ on := 2, ground := Ground.guard }], guard := some (2, false) }) (v := ?_) rfl (by kernel_rfl) (by kernel_rfl) (by kernel_rfl) (fun _ _ _ h => h) (Or.inl ⟨by rfl, ?_⟩) hS ?_; rotate_left; focus (intro w' s0; go_simp <;> try with_reducible rfl))
        try simp only [Act.put, List.setIfInBounds_toArray, List.set_cons_zero, List.set_cons_succ]
        (refine wpAnyH_take (i := 5) (oi := { dst := some 98, op := Op.move (Operand.tmp 4), type := 26, pos := "law.go:40", after := #[{ on := 2, ground := Ground.guard }], guard := some (2, false) }) (v := ?_) rfl (by kernel_rfl) (by kernel_rfl) (by kernel_rfl) (fun _ _ _ h => h) (Or.inl ⟨by rfl, ?_⟩) hS ?_; rotate_left; focus (intro w' s0; go_simp <;> try with_reducible rfl))
        try simp only [Act.put, List.setIfInBounds_toArray, List.set_cons_zero, List.set_cons_succ]
        refine wpAnyH_ready (rs := [4]) (by kernel_rfl) (by simp) ?_
        refine AllReadyH.cons (o := { dst := some 97, op := Op.call { callee := Callee.value (Operand.func 17), args := #[Operand.tmp 96, Operand.const (Value.int IntKind.i64 0)], argTypes := #[24, 3] }, type := 4, pos := "law.go:40", after := #[{ on := 3, ground := Ground.data }, { on := 2, ground := Ground.chain }, { on := 2, ground := Ground.guard }], guard := some (2, false) }) rfl (fun K hK => ?_) AllReadyH.nil
        refine take_if (by rfl) ?_
        go_simp
        (with_reducible refine (cppend_at HOd.out OK6.out (PTb.h1 HTB HBd) 0 p0 hp0.out (by decide) (by decide)).mono ?_)
        rintro e' w60 ⟨rfl, m60, f60⟩
        have hS2 : At (b) [.int .i64 2, .int .i64 coff, .int .i64 csize, .int .u64 cv, .int .u32 cm] w60 := hS.fram f60 (by omega) (fun x => by unfold Rg at x; omega)
        have hs60 := f60.size
        have HO60 := Lib.hid m60
        have HR60 := Lib.hid (HRd.out.fr f60 (fun x => by unfold Rg at x; omega))
        have HB60 := Lib.hid (HBd.out.trans (f60.lows HBd.out.size (Nat.le_refl _)))
        clear m60 f60
        refine hK.out _ _ hS2 (fun hS => ?_)
        clear hK K hS2
        try simp only [Act.put, List.setIfInBounds_toArray, List.set_cons_zero, List.set_cons_succ]
        refine wpAnyH_ready (rs := [6]) (by kernel_rfl) (by simp) ?_
        refine AllReadyH.cons (o := { dst := some 99, op := Op.call { callee := Callee.value (Operand.func 18), args := #[Operand.tmp 98, Operand.const (Value.int IntKind.i64 0)], argTypes := #[26, 3] }, type := 4, pos := "law.go:40", after := #[{ on := 5, ground := Ground.data }, { on := 4, ground := Ground.chain }, { on := 2, ground := Ground.guard }], guard := some (2, false) }) rfl (fun K hK => ?_) AllReadyH.nil
        refine take_if (by rfl) ?_
        go_simp
        (with_reducible refine (rpend_at HR60.out OK6.out 0 p0 hp0.out).mono ?_)
        rintro e' w61 ⟨rfl, k61⟩
        have hS2 : At (b) [.int .i64 2, .int .i64 coff, .int .i64 csize, .int .u64 cv, .int .u32 cm] w61 := hS.kp k61 (by omega)
        have hs61 := k61.1.size
        have HO61 := Lib.hid (HO60.out.below k61.1)
        have HR61 := Lib.hid (HR60.out.kp k61)
        have HB61 := Lib.hid (HB60.out.trans (k61.1.mono HB60.out.size))
        clear k61
        refine hK.out _ _ hS2 (fun hS => ?_)
        clear hK K hS2
        try simp only [Act.put, List.setIfInBounds_toArray, List.set_cons_zero, List.set_cons_succ]
        (refine wpAnyH_take (i := 7) (oi := { dst := some 100, op := Op.binOp BinOp.neq 4 (Operand.tmp 97) (Operand.tmp 99) 4, type := 4, pos := "law.go:40", after := #[{ on := 4, ground := Ground.data }, { on := 6, ground := Ground.data }, { on := 2, ground := Ground.guard }], guard := some (2, false) }) (v := ?_) rfl (by kernel_rfl) (by kernel_rfl) (by kernel_rfl) (fun _ _ _ h => h) (Or.inl ⟨by rfl, ?_⟩) hS ?_; rotate_left; focus (intro w' s0; go_simp <;> try with_reducible rfl))
        try simp only [Act.put, List.setIfInBounds_toArray, List.set_cons_zero, List.set_cons_succ]
        (refine wpAnyH_take (i := 8) (oi := { dst := some 101, op := Op.pick (Operand.tmp 95) (Operand.const (Value.bool true)) (Operand.tmp 100), type := 4, pos := "law.go:40", after := #[{ on := 2, ground := Ground.data }, { on := 7, ground := Ground.data }], guard := none }) (v := ?_) rfl (by kernel_rfl) (by kernel_rfl) (by kernel_rfl) (fun _ _ _ h => h) (Or.inl ⟨by rfl, ?_⟩) hS ?_; rotate_left; focus (intro w' s0; go_simp <;> try with_reducible rfl))
        try simp only [Act.put, List.setIfInBounds_toArray, List.set_cons_zero, List.set_cons_succ]
        (refine wpAnyH_take (i := 9) (oi := { dst := some 102, op := Op.move (Operand.tmp 101), type := 4, pos := "law.go:40", after := #[{ on := 8, ground := Ground.data }, { on := 6, ground := Ground.chain }], guard := none }) (v := ?_) rfl (by kernel_rfl) (by kernel_rfl) (by kernel_rfl) (fun _ _ _ h => h) (Or.inl ⟨by rfl, ?_⟩) hS ?_; rotate_left; focus (intro w' s0; go_simp <;> try with_reducible rfl))
        try simp only [Act.put, List.setIfInBounds_toArray, List.set_cons_zero, List.set_cons_succ]
        (refine wpAnyH_take (i := 10) (oi := { dst := some 103, op := Op.move (Operand.tmp 3), type := 24, pos := "law.go:40", after := #[{ on := 9, ground := Ground.guard }], guard := some (9, false) }) (v := ?_) rfl (by kernel_rfl) (by kernel_rfl) (by kernel_rfl) (fun _ _ _ h => h) (Or.inl ⟨by rfl, ?_⟩) hS ?_; rotate_left; focus (intro w' s0; go_simp <;> try with_reducible rfl))
        try simp only [Act.put, List.setIfInBounds_toArray, List.set_cons_zero, List.set_cons_succ]
        (refine wpAnyH_take (i := 12) (oi := { dst := some 105, op := Op.move (Operand.tmp 4), type := 26, pos := "law.go:40", after := #[{ on := 9, ground := Ground.guard }], guard := some (9, false) }) (v := ?_) rfl (by kernel_rfl) (by kernel_rfl) (by kernel_rfl) (fun _ _ _ h => h) (Or.inl ⟨by rfl, ?_⟩) hS ?_; rotate_left; focus (intro w' s0; go_simp <;> try with_reducible rfl))
        try simp only [Act.put, List.setIfInBounds_toArray, List.set_cons_zero, List.set_cons_succ]
        refine wpAnyH_ready (rs := [11]) (by kernel_rfl) (by simp) ?_
        refine AllReadyH.cons (o := { dst := some 104, op := Op.call { callee := Callee.value (Operand.func 17), args := #[Operand.tmp 103, Operand.const (Value.int IntKind.i64 1)], argTypes := #[24, 3] }, type := 4, pos := "law.go:40", after := #[{ on := 10, ground := Ground.data }, { on := 9, ground := Ground.chain }, { on := 9, ground := Ground.guard }], guard := some (9, false) }) rfl (fun K hK => ?_) AllReadyH.nil
        refine take_if (by rfl) ?_
        go_simp
        (with_reducible refine (cppend_at HO61.out OK6.out (PTb.h1 HTB HB61) 1 p1 hp1.out (by decide) (by decide)).mono ?_)
        rintro e' w62 ⟨rfl, m62, f62⟩
        have hS2 : At (b) [.int .i64 2, .int .i64 coff, .int .i64 csize, .int .u64 cv, .int .u32 cm] w62 := hS.fram f62 (by omega) (fun x => by unfold Rg at x; omega)
        have hs62 := f62.size
        have HO62 := Lib.hid m62
        have HR62 := Lib.hid (HR61.out.fr f62 (fun x => by unfold Rg at x; omega))
        have HB62 := Lib.hid (HB61.out.trans (f62.lows HB61.out.size (Nat.le_refl _)))
        clear m62 f62
        refine hK.out _ _ hS2 (fun hS => ?_)
        clear hK K hS2
        try simp only [Act.put, List.setIfInBounds_toArray, List.set_cons_zero, List.set_cons_succ]
        refine wpAnyH_ready (rs := [13]) (by kernel_rfl) (by simp) ?_
        refine AllReadyH.cons (o := { dst := some 106, op := Op.call { callee := Callee.value (Operand.func 18), args := #[Operand.tmp 105, Operand.const (Value.int IntKind.i64 1)], argTypes := #[26, 3] }, type := 4, pos := "law.go:40", after := #[{ on := 12, ground := Ground.data }, { on := 11, ground := Ground.chain }, { on := 9, ground := Ground.guard }], guard := some (9, false) }) rfl (fun K hK => ?_) AllReadyH.nil
        refine take_if (by rfl) ?_
        go_simp
        (with_reducible refine (rpend_at HR62.out OK6.out 1 p1 hp1.out).mono ?_)
        rintro e' w63 ⟨rfl, k63⟩
        have hS2 : At (b) [.int .i64 2, .int .i64 coff, .int .i64 csize, .int .u64 cv, .int .u32 cm] w63 := hS.kp k63 (by omega)
        have hs63 := k63.1.size
        have HO63 := Lib.hid (HO62.out.below k63.1)
        have HR63 := Lib.hid (HR62.out.kp k63)
        have HB63 := Lib.hid (HB62.out.trans (k63.1.mono HB62.out.size))
        clear k63
        refine hK.out _ _ hS2 (fun hS => ?_)
        clear hK K hS2
        try simp only [Act.put, List.setIfInBounds_toArray, List.set_cons_zero, List.set_cons_succ]
        (refine wpAnyH_take (i := 14) (oi := { dst := some 107, op := Op.binOp BinOp.neq 4 (Operand.tmp 104) (Operand.tmp 106) 4, type := 4, pos := "law.go:40", after := #[{ on := 11, ground := Ground.data }, { on := 13, ground := Ground.data }, { on := 9, ground := Ground.guard }], guard := some (9, false) }) (v := ?_) rfl (by kernel_rfl) (by kernel_rfl) (by kernel_rfl) (fun _ _ _ h => h) (Or.inl ⟨by rfl, ?_⟩) hS ?_; rotate_left; focus (intro w' s0; go_simp <;> try with_reducible rfl))
        try simp only [Act.put, List.setIfInBounds_toArray, List.set_cons_zero, List.set_cons_succ]
        (refine wpAnyH_take (i := 15) (oi := { dst := some 108, op := Op.pick (Operand.tmp 102) (Operand.const (Value.bool true)) (Operand.tmp 107), type := 4, pos := "law.go:40", after := #[{ on := 9, ground := Ground.data }, { on := 14, ground := Ground.data }], guard := none }) (v := ?_) rfl (by kernel_rfl) (by kernel_rfl) (by kernel_rfl) (fun _ _ _ h => h) (Or.inl ⟨by rfl, ?_⟩) hS ?_; rotate_left; focus (intro w' s0; go_simp <;> try with_reducible rfl))
        try simp only [Act.put, List.setIfInBounds_toArray, List.set_cons_zero, List.set_cons_succ]
        (refine wpAnyH_take (i := 16) (oi := { dst := some 109, op := Op.move (Operand.tmp 108), type := 4, pos := "law.go:40", after := #[{ on := 15, ground := Ground.data }, { on := 13, ground := Ground.chain }], guard := none }) (v := ?_) rfl (by kernel_rfl) (by kernel_rfl) (by kernel_rfl) (fun _ _ _ h => h) (Or.inl ⟨by rfl, ?_⟩) hS ?_; rotate_left; focus (intro w' s0; go_simp <;> try with_reducible rfl))
        try simp only [Act.put, List.setIfInBounds_toArray, List.set_cons_zero, List.set_cons_succ]
        (refine wpAnyH_take (i := 17) (oi := { dst := some 110, op := Op.move (Operand.tmp 3), type := 24, pos := "law.go:40", after := #[{ on := 16, ground := Ground.guard }], guard := some (16, false) }) (v := ?_) rfl (by kernel_rfl) (by kernel_rfl) (by kernel_rfl) (fun _ _ _ h => h) (Or.inl ⟨by rfl, ?_⟩) hS ?_; rotate_left; focus (intro w' s0; go_simp <;> try with_reducible rfl))
        try simp only [Act.put, List.setIfInBounds_toArray, List.set_cons_zero, List.set_cons_succ]
        (refine wpAnyH_take (i := 18) (oi := { dst := some 111, op := Op.fieldAddr 31 (Operand.tmp 6) 1, type := 0, pos := "law.go:40", after := #[{ on := 16, ground := Ground.guard }], guard := some (16, false) }) (v := ?_) rfl (by kernel_rfl) (by kernel_rfl) (by kernel_rfl) (fun _ _ _ h => h) (Or.inl ⟨by rfl, ?_⟩) hS ?_; rotate_left; focus (intro w' s0; go_simp <;> try with_reducible rfl))
        try simp only [Act.put, List.setIfInBounds_toArray, List.set_cons_zero, List.set_cons_succ]
        (refine wpAnyH_take (i := 19) (oi := { dst := some 112, op := Op.load 3 (Operand.tmp 111), type := 3, pos := "law.go:40", after := #[{ on := 18, ground := Ground.data }, { on := 16, ground := Ground.guard }], guard := some (16, false) }) (v := ?_) rfl (by kernel_rfl) (by kernel_rfl) (by kernel_rfl) (fun _ _ _ h => h) (Or.inl ⟨by rfl, ?_⟩) hS ?_; rotate_left; focus (intro w' s0; have c_0 := s0 0 _ rfl; have c_1 := s0 1 _ rfl; have c_2 := s0 2 _ rfl; have c_3 := s0 3 _ rfl; have c_4 := s0 4 _ rfl; go_simp <;> try with_reducible rfl))
        try simp only [Act.put, List.setIfInBounds_toArray, List.set_cons_zero, List.set_cons_succ]
        (refine wpAnyH_take (i := 21) (oi := { dst := some 114, op := Op.move (Operand.tmp 4), type := 26, pos := "law.go:40", after := #[{ on := 16, ground := Ground.guard }], guard := some (16, false) }) (v := ?_) rfl (by kernel_rfl) (by kernel_rfl) (by kernel_rfl) (fun _ _ _ h => h) (Or.inl ⟨by rfl, ?_⟩) hS ?_; rotate_left; focus (intro w' s0; go_simp <;> try with_reducible rfl))
        try simp only [Act.put, List.setIfInBounds_toArray, List.set_cons_zero, List.set_cons_succ]
        (refine wpAnyH_take (i := 22) (oi := { dst := some 115, op := Op.fieldAddr 31 (Operand.tmp 6) 1, type := 0, pos := "law.go:40", after := #[{ on := 16, ground := Ground.guard }], guard := some (16, false) }) (v := ?_) rfl (by kernel_rfl) (by kernel_rfl) (by kernel_rfl) (fun _ _ _ h => h) (Or.inl ⟨by rfl, ?_⟩) hS ?_; rotate_left; focus (intro w' s0; go_simp <;> try with_reducible rfl))
        try simp only [Act.put, List.setIfInBounds_toArray, List.set_cons_zero, List.set_cons_succ]
        (refine wpAnyH_take (i := 23) (oi := { dst := some 116, op := Op.load 3 (Operand.tmp 115), type := 3, pos := "law.go:40", after := #[{ on := 22, ground := Ground.data }, { on := 16, ground := Ground.guard }], guard := some (16, false) }) (v := ?_) rfl (by kernel_rfl) (by kernel_rfl) (by kernel_rfl) (fun _ _ _ h => h) (Or.inl ⟨by rfl, ?_⟩) hS ?_; rotate_left; focus (intro w' s0; have c_0 := s0 0 _ rfl; have c_1 := s0 1 _ rfl; have c_2 := s0 2 _ rfl; have c_3 := s0 3 _ rfl; have c_4 := s0 4 _ rfl; go_simp <;> try with_reducible rfl))
        try simp only [Act.put, List.setIfInBounds_toArray, List.set_cons_zero, List.set_cons_succ]
        refine wpAnyH_ready (rs := [20]) (by kernel_rfl) (by simp) ?_
        refine AllReadyH.cons (o := { dst := some 113, op := Op.call { callee := Callee.value (Operand.func 17), args := #[Operand.tmp 110, Operand.tmp 112], argTypes := #[24, 3] }, type := 4, pos := "law.go:40", after := #[{ on := 17, ground := Ground.data }, { on := 19, ground := Ground.data }, { on := 16, ground := Ground.chain }, { on := 16, ground := Ground.guard }], guard := some (16, false) }) rfl (fun K hK => ?_) AllReadyH.nil
        refine take_if (by rfl) ?_
        go_simp
        (with_reducible refine (cppend_at HO63.out OK6.out (PTb.h1 HTB HB63) coff p2 hp2.out o0 o1).mono ?_)
        rintro e' w64 ⟨rfl, m64, f64⟩
        have hS2 : At (b) [.int .i64 2, .int .i64 coff, .int .i64 csize, .int .u64 cv, .int .u32 cm] w64 := hS.fram f64 (by omega) (fun x => by unfold Rg at x; omega)
        have hs64 := f64.size
        have HO64 := Lib.hid m64
        have HR64 := Lib.hid (HR63.out.fr f64 (fun x => by unfold Rg at x; omega))
        have HB64 := Lib.hid (HB63.out.trans (f64.lows HB63.out.size (Nat.le_refl _)))
        clear m64 f64
        refine hK.out _ _ hS2 (fun hS => ?_)
        clear hK K hS2
        try simp only [Act.put, List.setIfInBounds_toArray, List.set_cons_zero, List.set_cons_succ]
        refine wpAnyH_ready (rs := [24]) (by kernel_rfl) (by simp) ?_
        refine AllReadyH.cons (o := { dst := some 117, op := Op.call { callee := Callee.value (Operand.func 18), args := #[Operand.tmp 114, Operand.tmp 116], argTypes := #[26, 3] }, type := 4, pos := "law.go:40", after := #[{ on := 21, ground := Ground.data }, { on := 23, ground := Ground.data }, { on := 20, ground := Ground.chain }, { on := 16, ground := Ground.guard }], guard := some (16, false) }) rfl (fun K hK => ?_) AllReadyH.nil
        refine take_if (by rfl) ?_
        go_simp
        (with_reducible refine (rpend_at HR64.out OK6.out coff p2 hp2.out).mono ?_)
        rintro e' w65 ⟨rfl, k65⟩
        have hS2 : At (b) [.int .i64 2, .int .i64 coff, .int .i64 csize, .int .u64 cv, .int .u32 cm] w65 := hS.kp k65 (by omega)
        have hs65 := k65.1.size
        have HO65 := Lib.hid (HO64.out.below k65.1)
        have HR65 := Lib.hid (HR64.out.kp k65)
        have HB65 := Lib.hid (HB64.out.trans (k65.1.mono HB64.out.size))
        clear k65
        refine hK.out _ _ hS2 (fun hS => ?_)
        clear hK K hS2
        try simp only [Act.put, List.setIfInBounds_toArray, List.set_cons_zero, List.set_cons_succ]
        (refine wpAnyH_take (i := 25) (oi := { dst := some 118, op := Op.binOp BinOp.neq 4 (Operand.tmp 113) (Operand.tmp 117) 4, type := 4, pos := "law.go:40", after := #[{ on := 20, ground := Ground.data }, { on := 24, ground := Ground.data }, { on := 16, ground := Ground.guard }], guard := some (16, false) }) (v := ?_) rfl (by kernel_rfl) (by kernel_rfl) (by kernel_rfl) (fun _ _ _ h => h) (Or.inl ⟨by rfl, ?_⟩) hS ?_; rotate_left; focus (intro w' s0; go_simp <;> try with_reducible rfl))
        try simp only [Act.put, List.setIfInBounds_toArray, List.set_cons_zero, List.set_cons_succ]
        (refine wpAnyH_take (i := 26) (oi := { dst := some 119, op := Op.pick (Operand.tmp 109) (Operand.const (Value.bool true)) (Operand.tmp 118), type := 4, pos := "law.go:40", after := #[{ on := 16, ground := Ground.data }, { on := 25, ground := Ground.data }], guard := none }) (v := ?_) rfl (by kernel_rfl) (by kernel_rfl) (by kernel_rfl) (fun _ _ _ h => h) (Or.inl ⟨by rfl, ?_⟩) hS ?_; rotate_left; focus (intro w' s0; go_simp <;> try with_reducible rfl))
        try simp only [Act.put, List.setIfInBounds_toArray, List.set_cons_zero, List.set_cons_succ]
        refine wpAnyH_done (by kernel_rfl) ?_ _
        obtain ⟨lv, hlv⟩ : ∃ lv, Hid ((S6).ldV 4096 4 = lv) := ⟨_, Lib.hid rfl⟩
        have e3 : (lv != lv) = false := by simp
        have hl4 : (S6).ldS 4096 4 = S6 := ldS_oth _ _ _ (by decide) (by decide)
        have HL4 := Lib.hid hl4
        clear hl4
        go_wp2_with (first | (go_at_call 13; (with_reducible refine (cpload_at HO65.out OK6.out (PTb.h1 HTB HB65) 4096 4 lv true (S6) hlv.out (by decide) HL4.out (by decide) (by decide) (by decide) (by decide)).mono ?_); rintro e' w80 ⟨rfl, m80, f80⟩; have hs80 := f80.size; have HO80 := Lib.hid m80; have HR80 := Lib.hid (HR65.out.fr f80 (fun x => by unfold Rg at x; omega)); have HB80 := Lib.hid (HB65.out.trans (f80.lows HB65.out.size (Nat.le_refl _))); clear m80 f80) | (go_at_call 14; (with_reducible refine (rload_at12 HR80.out OK6.out 4096 4 lv true (S6) hlv.out (by decide) HL4.out).mono ?_); rintro e' w81 ⟨rfl, r81, f81⟩; have hs81 := f81.size; have HO81 := Lib.hid (HO80.out.fr f81 (fun i h1 h2 x => by omega)); have HR81 := Lib.hid r81; have HB81 := Lib.hid (HB80.out.trans (f81.bl HB80.out.size (fun i x => by omega))); clear r81 f81))
        go_roundw
        case rel => exact ⟨j + 1, S6, by omega, by go_num, OK6.out, HO81.out, HR81.out, HB81.out⟩
        case measure => simp [intOf]; omega
      · obtain ⟨S6, hS6⟩ : ∃ S6, S6 = S := ⟨_, rfl⟩
        rw [← hS6] at HO5 HR5
        have OK6 : Hid S6.Ok := Lib.hid (by rw [hS6]; exact OK.out)
        clear hS6
        obtain ⟨p0, hp0⟩ : ∃ p, Hid ((S6).pend 0 = p) := ⟨_, Lib.hid rfl⟩
        obtain ⟨p1, hp1⟩ : ∃ p, Hid ((S6).pend 1 = p) := ⟨_, Lib.hid rfl⟩
        obtain ⟨p2, hp2⟩ : ∃ p, Hid ((S6).pend coff = p) := ⟨_, Lib.hid rfl⟩
        have e0 : (p0 != p0) = false := by simp
        have e1 : (p1 != p1) = false := by simp
        have e2 : (p2 != p2) = false := by simp
        go_upto_region 22 with fail
        have hA := HA5.out
        refine wp_region_held_drew (S := fun w' => At (b) [.int .i64 ck, .int .i64 coff, .int .i64 csize, .int .u64 cv, .int .u32 cm] w') (by kernel_rfl) (hA.drew) (fun hS => ?_)
        have HOd := Lib.hid (HO5.out.fr (Fr.drew (Fr.refl w5 (fun _ => False))) (fun _ _ _ h => h))
        have HRd := Lib.hid (HR5.out.fr (Fr.drew (Fr.refl w5 (fun _ => False))) id)
        have HBd := Lib.hid HB5.out.drew
        have hsd : w5.drew.heap.size = w5.heap.size := rfl
        generalize w5.drew = g0 at hS HOd HRd HBd hsd ⊢
        (refine wpAnyH_take (i := 0) (oi := { dst := some 93, op := Op.move (Operand.tmp 7), type := 4, pos := "law.go:40", after := #[], guard := none }) (v := ?_) rfl (by kernel_rfl) (by kernel_rfl) (by kernel_rfl) (fun _ _ _ h => h) (Or.inl ⟨by rfl, ?_⟩) hS ?_; rotate_left; focus (intro w' s0; go_simp <;> try with_reducible rfl))
        try simp only [Act.put, List.setIfInBounds_toArray, List.set_cons_zero, List.set_cons_succ]
        (refine wpAnyH_take (i := 1) (oi := { dst := some 94, op := Op.unOp UnOp.not 4 (Operand.tmp 93), type := 4, pos := "law.go:40", after := #[{ on := 0, ground := Ground.data }], guard := none }) (v := ?_) rfl (by kernel_rfl) (by kernel_rfl) (by kernel_rfl) (fun _ _ _ h => h) (Or.inl ⟨by rfl, ?_⟩) hS ?_; rotate_left; focus (intro w' s0; go_simp <;> try with_reducible rfl))
        try simp only [Act.put, List.setIfInBounds_toArray, List.set_cons_zero, List.set_cons_succ]
        (refine wpAnyH_take (i := 2) (oi := { dst := some 95, op := Op.move (Operand.tmp 94), type := 4, pos := "law.go:40", after := #[{ on := 1, ground := Ground.data }], guard := none }) (v := ?_) rfl (by kernel_rfl) (by kernel_rfl) (by kernel_rfl) (fun _ _ _ h => h) (Or.inl ⟨by rfl, ?_⟩) hS ?_; rotate_left; focus (intro w' s0; go_simp <;> try with_reducible rfl))
        try simp only [Act.put, List.setIfInBounds_toArray, List.set_cons_zero, List.set_cons_succ]
        (refine wpAnyH_take (i := 3) (oi := { dst := some 96, op := Op.move (Operand.tmp 3), type := 24, pos := "law.go:40", after := #[{ on := 2, ground := Ground.guard }], guard := some (2, false) }) (v := ?_) rfl (by kernel_rfl) (by kernel_rfl) (by kernel_rfl) (fun _ _ _ h => h) (Or.inl ⟨by rfl, ?_⟩) hS ?_; rotate_left; focus (intro w' s0; go_simp <;> try with_reducible rfl))
        try simp only [Act.put, List.setIfInBounds_toArray, List.set_cons_zero, List.set_cons_succ]
        (refine wpAnyH_take (i := 5) (oi := { dst := some 98, op := Op.move (Operand.tmp 4), type := 26, pos := "law.go:40", after := #[{ on := 2, ground := Ground.guard }], guard := some (2, false) }) (v := ?_) rfl (by kernel_rfl) (by kernel_rfl) (by kernel_rfl) (fun _ _ _ h => h) (Or.inl ⟨by rfl, ?_⟩) hS ?_; rotate_left; focus (intro w' s0; go_simp <;> try with_reducible rfl))
        try simp only [Act.put, List.setIfInBounds_toArray, List.set_cons_zero, List.set_cons_succ]
        refine wpAnyH_ready (rs := [4]) (by kernel_rfl) (by simp) ?_
        refine AllReadyH.cons (o := { dst := some 97, op := Op.call { callee := Callee.value (Operand.func 17), args := #[Operand.tmp 96, Operand.const (Value.int IntKind.i64 0)], argTypes := #[24, 3] }, type := 4, pos := "law.go:40", after := #[{ on := 3, ground := Ground.data }, { on := 2, ground := Ground.chain }, { on := 2, ground := Ground.guard }], guard := some (2, false) }) rfl (fun K hK => ?_) AllReadyH.nil
        refine take_if (by rfl) ?_
        go_simp
        (with_reducible refine (cppend_at HOd.out OK6.out (PTb.h1 HTB HBd) 0 p0 hp0.out (by decide) (by decide)).mono ?_)
        rintro e' w60 ⟨rfl, m60, f60⟩
        have hS2 : At (b) [.int .i64 ck, .int .i64 coff, .int .i64 csize, .int .u64 cv, .int .u32 cm] w60 := hS.fram f60 (by omega) (fun x => by unfold Rg at x; omega)
        have hs60 := f60.size
        have HO60 := Lib.hid m60
        have HR60 := Lib.hid (HRd.out.fr f60 (fun x => by unfold Rg at x; omega))
        have HB60 := Lib.hid (HBd.out.trans (f60.lows HBd.out.size (Nat.le_refl _)))
        clear m60 f60
        refine hK.out _ _ hS2 (fun hS => ?_)
        clear hK K hS2
        try simp only [Act.put, List.setIfInBounds_toArray, List.set_cons_zero, List.set_cons_succ]
        refine wpAnyH_ready (rs := [6]) (by kernel_rfl) (by simp) ?_
        refine AllReadyH.cons (o := { dst := some 99, op := Op.call { callee := Callee.value (Operand.func 18), args := #[Operand.tmp 98, Operand.const (Value.int IntKind.i64 0)], argTypes := #[26, 3] }, type := 4, pos := "law.go:40", after := #[{ on := 5, ground := Ground.data }, { on := 4, ground := Ground.chain }, { on := 2, ground := Ground.guard }], guard := some (2, false) }) rfl (fun K hK => ?_) AllReadyH.nil
        refine take_if (by rfl) ?_
        go_simp
        (with_reducible refine (rpend_at HR60.out OK6.out 0 p0 hp0.out).mono ?_)
        rintro e' w61 ⟨rfl, k61⟩
        have hS2 : At (b) [.int .i64 ck, .int .i64 coff, .int .i64 csize, .int .u64 cv, .int .u32 cm] w61 := hS.kp k61 (by omega)
        have hs61 := k61.1.size
        have HO61 := Lib.hid (HO60.out.below k61.1)
        have HR61 := Lib.hid (HR60.out.kp k61)
        have HB61 := Lib.hid (HB60.out.trans (k61.1.mono HB60.out.size))
        clear k61
        refine hK.out _ _ hS2 (fun hS => ?_)
        clear hK K hS2
        try simp only [Act.put, List.setIfInBounds_toArray, List.set_cons_zero, List.set_cons_succ]
        (refine wpAnyH_take (i := 7) (oi := { dst := some 100, op := Op.binOp BinOp.neq 4 (Operand.tmp 97) (Operand.tmp 99) 4, type := 4, pos := "law.go:40", after := #[{ on := 4, ground := Ground.data }, { on := 6, ground := Ground.data }, { on := 2, ground := Ground.guard }], guard := some (2, false) }) (v := ?_) rfl (by kernel_rfl) (by kernel_rfl) (by kernel_rfl) (fun _ _ _ h => h) (Or.inl ⟨by rfl, ?_⟩) hS ?_; rotate_left; focus (intro w' s0; go_simp <;> try with_reducible rfl))
        try simp only [Act.put, List.setIfInBounds_toArray, List.set_cons_zero, List.set_cons_succ]
        (refine wpAnyH_take (i := 8) (oi := { dst := some 101, op := Op.pick (Operand.tmp 95) (Operand.const (Value.bool true)) (Operand.tmp 100), type := 4, pos := "law.go:40", after := #[{ on := 2, ground := Ground.data }, { on := 7, ground := Ground.data }], guard := none }) (v := ?_) rfl (by kernel_rfl) (by kernel_rfl) (by kernel_rfl) (fun _ _ _ h => h) (Or.inl ⟨by rfl, ?_⟩) hS ?_; rotate_left; focus (intro w' s0; go_simp <;> try with_reducible rfl))
        try simp only [Act.put, List.setIfInBounds_toArray, List.set_cons_zero, List.set_cons_succ]
        (refine wpAnyH_take (i := 9) (oi := { dst := some 102, op := Op.move (Operand.tmp 101), type := 4, pos := "law.go:40", after := #[{ on := 8, ground := Ground.data }, { on := 6, ground := Ground.chain }], guard := none }) (v := ?_) rfl (by kernel_rfl) (by kernel_rfl) (by kernel_rfl) (fun _ _ _ h => h) (Or.inl ⟨by rfl, ?_⟩) hS ?_; rotate_left; focus (intro w' s0; go_simp <;> try with_reducible rfl))
        try simp only [Act.put, List.setIfInBounds_toArray, List.set_cons_zero, List.set_cons_succ]
        (refine wpAnyH_take (i := 10) (oi := { dst := some 103, op := Op.move (Operand.tmp 3), type := 24, pos := "law.go:40", after := #[{ on := 9, ground := Ground.guard }], guard := some (9, false) }) (v := ?_) rfl (by kernel_rfl) (by kernel_rfl) (by kernel_rfl) (fun _ _ _ h => h) (Or.inl ⟨by rfl, ?_⟩) hS ?_; rotate_left; focus (intro w' s0; go_simp <;> try with_reducible rfl))
        try simp only [Act.put, List.setIfInBounds_toArray, List.set_cons_zero, List.set_cons_succ]
        (refine wpAnyH_take (i := 12) (oi := { dst := some 105, op := Op.move (Operand.tmp 4), type := 26, pos := "law.go:40", after := #[{ on := 9, ground := Ground.guard }], guard := some (9, false) }) (v := ?_) rfl (by kernel_rfl) (by kernel_rfl) (by kernel_rfl) (fun _ _ _ h => h) (Or.inl ⟨by rfl, ?_⟩) hS ?_; rotate_left; focus (intro w' s0; go_simp <;> try with_reducible rfl))
        try simp only [Act.put, List.setIfInBounds_toArray, List.set_cons_zero, List.set_cons_succ]
        refine wpAnyH_ready (rs := [11]) (by kernel_rfl) (by simp) ?_
        refine AllReadyH.cons (o := { dst := some 104, op := Op.call { callee := Callee.value (Operand.func 17), args := #[Operand.tmp 103, Operand.const (Value.int IntKind.i64 1)], argTypes := #[24, 3] }, type := 4, pos := "law.go:40", after := #[{ on := 10, ground := Ground.data }, { on := 9, ground := Ground.chain }, { on := 9, ground := Ground.guard }], guard := some (9, false) }) rfl (fun K hK => ?_) AllReadyH.nil
        refine take_if (by rfl) ?_
        go_simp
        (with_reducible refine (cppend_at HO61.out OK6.out (PTb.h1 HTB HB61) 1 p1 hp1.out (by decide) (by decide)).mono ?_)
        rintro e' w62 ⟨rfl, m62, f62⟩
        have hS2 : At (b) [.int .i64 ck, .int .i64 coff, .int .i64 csize, .int .u64 cv, .int .u32 cm] w62 := hS.fram f62 (by omega) (fun x => by unfold Rg at x; omega)
        have hs62 := f62.size
        have HO62 := Lib.hid m62
        have HR62 := Lib.hid (HR61.out.fr f62 (fun x => by unfold Rg at x; omega))
        have HB62 := Lib.hid (HB61.out.trans (f62.lows HB61.out.size (Nat.le_refl _)))
        clear m62 f62
        refine hK.out _ _ hS2 (fun hS => ?_)
        clear hK K hS2
        try simp only [Act.put, List.setIfInBounds_toArray, List.set_cons_zero, List.set_cons_succ]
        refine wpAnyH_ready (rs := [13]) (by kernel_rfl) (by simp) ?_
        refine AllReadyH.cons (o := { dst := some 106, op := Op.call { callee := Callee.value (Operand.func 18), args := #[Operand.tmp 105, Operand.const (Value.int IntKind.i64 1)], argTypes := #[26, 3] }, type := 4, pos := "law.go:40", after := #[{ on := 12, ground := Ground.data }, { on := 11, ground := Ground.chain }, { on := 9, ground := Ground.guard }], guard := some (9, false) }) rfl (fun K hK => ?_) AllReadyH.nil
        refine take_if (by rfl) ?_
        go_simp
        (with_reducible refine (rpend_at HR62.out OK6.out 1 p1 hp1.out).mono ?_)
        rintro e' w63 ⟨rfl, k63⟩
        have hS2 : At (b) [.int .i64 ck, .int .i64 coff, .int .i64 csize, .int .u64 cv, .int .u32 cm] w63 := hS.kp k63 (by omega)
        have hs63 := k63.1.size
        have HO63 := Lib.hid (HO62.out.below k63.1)
        have HR63 := Lib.hid (HR62.out.kp k63)
        have HB63 := Lib.hid (HB62.out.trans (k63.1.mono HB62.out.size))
        clear k63
        refine hK.out _ _ hS2 (fun hS => ?_)
        clear hK K hS2
        try simp only [Act.put, List.setIfInBounds_toArray, List.set_cons_zero, List.set_cons_succ]
        (refine wpAnyH_take (i := 14) (oi := { dst := some 107, op := Op.binOp BinOp.neq 4 (Operand.tmp 104) (Operand.tmp 106) 4, type := 4, pos := "law.go:40", after := #[{ on := 11, ground := Ground.data }, { on := 13, ground := Ground.data }, { on := 9, ground := Ground.guard }], guard := some (9, false) }) (v := ?_) rfl (by kernel_rfl) (by kernel_rfl) (by kernel_rfl) (fun _ _ _ h => h) (Or.inl ⟨by rfl, ?_⟩) hS ?_; rotate_left; focus (intro w' s0; go_simp <;> try with_reducible rfl))
        try simp only [Act.put, List.setIfInBounds_toArray, List.set_cons_zero, List.set_cons_succ]
        (refine wpAnyH_take (i := 15) (oi := { dst := some 108, op := Op.pick (Operand.tmp 102) (Operand.const (Value.bool true)) (Operand.tmp 107), type := 4, pos := "law.go:40", after := #[{ on := 9, ground := Ground.data }, { on := 14, ground := Ground.data }], guard := none }) (v := ?_) rfl (by kernel_rfl) (by kernel_rfl) (by kernel_rfl) (fun _ _ _ h => h) (Or.inl ⟨by rfl, ?_⟩) hS ?_; rotate_left; focus (intro w' s0; go_simp <;> try with_reducible rfl))
        try simp only [Act.put, List.setIfInBounds_toArray, List.set_cons_zero, List.set_cons_succ]
        (refine wpAnyH_take (i := 16) (oi := { dst := some 109, op := Op.move (Operand.tmp 108), type := 4, pos := "law.go:40", after := #[{ on := 15, ground := Ground.data }, { on := 13, ground := Ground.chain }], guard := none }) (v := ?_) rfl (by kernel_rfl) (by kernel_rfl) (by kernel_rfl) (fun _ _ _ h => h) (Or.inl ⟨by rfl, ?_⟩) hS ?_; rotate_left; focus (intro w' s0; go_simp <;> try with_reducible rfl))
        try simp only [Act.put, List.setIfInBounds_toArray, List.set_cons_zero, List.set_cons_succ]
        (refine wpAnyH_take (i := 17) (oi := { dst := some 110, op := Op.move (Operand.tmp 3), type := 24, pos := "law.go:40", after := #[{ on := 16, ground := Ground.guard }], guard := some (16, false) }) (v := ?_) rfl (by kernel_rfl) (by kernel_rfl) (by kernel_rfl) (fun _ _ _ h => h) (Or.inl ⟨by rfl, ?_⟩) hS ?_; rotate_left; focus (intro w' s0; go_simp <;> try with_reducible rfl))
        try simp only [Act.put, List.setIfInBounds_toArray, List.set_cons_zero, List.set_cons_succ]
        (refine wpAnyH_take (i := 18) (oi := { dst := some 111, op := Op.fieldAddr 31 (Operand.tmp 6) 1, type := 0, pos := "law.go:40", after := #[{ on := 16, ground := Ground.guard }], guard := some (16, false) }) (v := ?_) rfl (by kernel_rfl) (by kernel_rfl) (by kernel_rfl) (fun _ _ _ h => h) (Or.inl ⟨by rfl, ?_⟩) hS ?_; rotate_left; focus (intro w' s0; go_simp <;> try with_reducible rfl))
        try simp only [Act.put, List.setIfInBounds_toArray, List.set_cons_zero, List.set_cons_succ]
        (refine wpAnyH_take (i := 19) (oi := { dst := some 112, op := Op.load 3 (Operand.tmp 111), type := 3, pos := "law.go:40", after := #[{ on := 18, ground := Ground.data }, { on := 16, ground := Ground.guard }], guard := some (16, false) }) (v := ?_) rfl (by kernel_rfl) (by kernel_rfl) (by kernel_rfl) (fun _ _ _ h => h) (Or.inl ⟨by rfl, ?_⟩) hS ?_; rotate_left; focus (intro w' s0; have c_0 := s0 0 _ rfl; have c_1 := s0 1 _ rfl; have c_2 := s0 2 _ rfl; have c_3 := s0 3 _ rfl; have c_4 := s0 4 _ rfl; go_simp <;> try with_reducible rfl))
        try simp only [Act.put, List.setIfInBounds_toArray, List.set_cons_zero, List.set_cons_succ]
        (refine wpAnyH_take (i := 21) (oi := { dst := some 114, op := Op.move (Operand.tmp 4), type := 26, pos := "law.go:40", after := #[{ on := 16, ground := Ground.guard }], guard := some (16, false) }) (v := ?_) rfl (by kernel_rfl) (by kernel_rfl) (by kernel_rfl) (fun _ _ _ h => h) (Or.inl ⟨by rfl, ?_⟩) hS ?_; rotate_left; focus (intro w' s0; go_simp <;> try with_reducible rfl))
        try simp only [Act.put, List.setIfInBounds_toArray, List.set_cons_zero, List.set_cons_succ]
        (refine wpAnyH_take (i := 22) (oi := { dst := some 115, op := Op.fieldAddr 31 (Operand.tmp 6) 1, type := 0, pos := "law.go:40", after := #[{ on := 16, ground := Ground.guard }], guard := some (16, false) }) (v := ?_) rfl (by kernel_rfl) (by kernel_rfl) (by kernel_rfl) (fun _ _ _ h => h) (Or.inl ⟨by rfl, ?_⟩) hS ?_; rotate_left; focus (intro w' s0; go_simp <;> try with_reducible rfl))
        try simp only [Act.put, List.setIfInBounds_toArray, List.set_cons_zero, List.set_cons_succ]
        (refine wpAnyH_take (i := 23) (oi := { dst := some 116, op := Op.load 3 (Operand.tmp 115), type := 3, pos := "law.go:40", after := #[{ on := 22, ground := Ground.data }, { on := 16, ground := Ground.guard }], guard := some (16, false) }) (v := ?_) rfl (by kernel_rfl) (by kernel_rfl) (by kernel_rfl) (fun _ _ _ h => h) (Or.inl ⟨by rfl, ?_⟩) hS ?_; rotate_left; focus (intro w' s0; have c_0 := s0 0 _ rfl; have c_1 := s0 1 _ rfl; have c_2 := s0 2 _ rfl; have c_3 := s0 3 _ rfl; have c_4 := s0 4 _ rfl; go_simp <;> try with_reducible rfl))
        try simp only [Act.put, List.setIfInBounds_toArray, List.set_cons_zero, List.set_cons_succ]
        refine wpAnyH_ready (rs := [20]) (by kernel_rfl) (by simp) ?_
        refine AllReadyH.cons (o := { dst := some 113, op := Op.call { callee := Callee.value (Operand.func 17), args := #[Operand.tmp 110, Operand.tmp 112], argTypes := #[24, 3] }, type := 4, pos := "law.go:40", after := #[{ on := 17, ground := Ground.data }, { on := 19, ground := Ground.data }, { on := 16, ground := Ground.chain }, { on := 16, ground := Ground.guard }], guard := some (16, false) }) rfl (fun K hK => ?_) AllReadyH.nil
        refine take_if (by rfl) ?_
        go_simp
        (with_reducible refine (cppend_at HO63.out OK6.out (PTb.h1 HTB HB63) coff p2 hp2.out o0 o1).mono ?_)
        rintro e' w64 ⟨rfl, m64, f64⟩
        have hS2 : At (b) [.int .i64 ck, .int .i64 coff, .int .i64 csize, .int .u64 cv, .int .u32 cm] w64 := hS.fram f64 (by omega) (fun x => by unfold Rg at x; omega)
        have hs64 := f64.size
        have HO64 := Lib.hid m64
        have HR64 := Lib.hid (HR63.out.fr f64 (fun x => by unfold Rg at x; omega))
        have HB64 := Lib.hid (HB63.out.trans (f64.lows HB63.out.size (Nat.le_refl _)))
        clear m64 f64
        refine hK.out _ _ hS2 (fun hS => ?_)
        clear hK K hS2
        try simp only [Act.put, List.setIfInBounds_toArray, List.set_cons_zero, List.set_cons_succ]
        refine wpAnyH_ready (rs := [24]) (by kernel_rfl) (by simp) ?_
        refine AllReadyH.cons (o := { dst := some 117, op := Op.call { callee := Callee.value (Operand.func 18), args := #[Operand.tmp 114, Operand.tmp 116], argTypes := #[26, 3] }, type := 4, pos := "law.go:40", after := #[{ on := 21, ground := Ground.data }, { on := 23, ground := Ground.data }, { on := 20, ground := Ground.chain }, { on := 16, ground := Ground.guard }], guard := some (16, false) }) rfl (fun K hK => ?_) AllReadyH.nil
        refine take_if (by rfl) ?_
        go_simp
        (with_reducible refine (rpend_at HR64.out OK6.out coff p2 hp2.out).mono ?_)
        rintro e' w65 ⟨rfl, k65⟩
        have hS2 : At (b) [.int .i64 ck, .int .i64 coff, .int .i64 csize, .int .u64 cv, .int .u32 cm] w65 := hS.kp k65 (by omega)
        have hs65 := k65.1.size
        have HO65 := Lib.hid (HO64.out.below k65.1)
        have HR65 := Lib.hid (HR64.out.kp k65)
        have HB65 := Lib.hid (HB64.out.trans (k65.1.mono HB64.out.size))
        clear k65
        refine hK.out _ _ hS2 (fun hS => ?_)
        clear hK K hS2
        try simp only [Act.put, List.setIfInBounds_toArray, List.set_cons_zero, List.set_cons_succ]
        (refine wpAnyH_take (i := 25) (oi := { dst := some 118, op := Op.binOp BinOp.neq 4 (Operand.tmp 113) (Operand.tmp 117) 4, type := 4, pos := "law.go:40", after := #[{ on := 20, ground := Ground.data }, { on := 24, ground := Ground.data }, { on := 16, ground := Ground.guard }], guard := some (16, false) }) (v := ?_) rfl (by kernel_rfl) (by kernel_rfl) (by kernel_rfl) (fun _ _ _ h => h) (Or.inl ⟨by rfl, ?_⟩) hS ?_; rotate_left; focus (intro w' s0; go_simp <;> try with_reducible rfl))
        try simp only [Act.put, List.setIfInBounds_toArray, List.set_cons_zero, List.set_cons_succ]
        (refine wpAnyH_take (i := 26) (oi := { dst := some 119, op := Op.pick (Operand.tmp 109) (Operand.const (Value.bool true)) (Operand.tmp 118), type := 4, pos := "law.go:40", after := #[{ on := 16, ground := Ground.data }, { on := 25, ground := Ground.data }], guard := none }) (v := ?_) rfl (by kernel_rfl) (by kernel_rfl) (by kernel_rfl) (fun _ _ _ h => h) (Or.inl ⟨by rfl, ?_⟩) hS ?_; rotate_left; focus (intro w' s0; go_simp <;> try with_reducible rfl))
        try simp only [Act.put, List.setIfInBounds_toArray, List.set_cons_zero, List.set_cons_succ]
        refine wpAnyH_done (by kernel_rfl) ?_ _
        obtain ⟨lv, hlv⟩ : ∃ lv, Hid ((S6).ldV 4096 4 = lv) := ⟨_, Lib.hid rfl⟩
        have e3 : (lv != lv) = false := by simp
        have hl4 : (S6).ldS 4096 4 = S6 := ldS_oth _ _ _ (by decide) (by decide)
        have HL4 := Lib.hid hl4
        clear hl4
        go_wp2_with (first | (go_at_call 13; (with_reducible refine (cpload_at HO65.out OK6.out (PTb.h1 HTB HB65) 4096 4 lv true (S6) hlv.out (by decide) HL4.out (by decide) (by decide) (by decide) (by decide)).mono ?_); rintro e' w80 ⟨rfl, m80, f80⟩; have hs80 := f80.size; have HO80 := Lib.hid m80; have HR80 := Lib.hid (HR65.out.fr f80 (fun x => by unfold Rg at x; omega)); have HB80 := Lib.hid (HB65.out.trans (f80.lows HB65.out.size (Nat.le_refl _))); clear m80 f80) | (go_at_call 14; (with_reducible refine (rload_at12 HR80.out OK6.out 4096 4 lv true (S6) hlv.out (by decide) HL4.out).mono ?_); rintro e' w81 ⟨rfl, r81, f81⟩; have hs81 := f81.size; have HO81 := Lib.hid (HO80.out.fr f81 (fun i h1 h2 x => by omega)); have HR81 := Lib.hid r81; have HB81 := Lib.hid (HB80.out.trans (f81.bl HB80.out.size (fun i x => by omega))); clear r81 f81))
        go_roundw
        case rel => exact ⟨j + 1, S6, by omega, by go_num, OK6.out, HO81.out, HR81.out, HB81.out⟩
        case measure => simp [intOf]; omega
    · clear hL
      obtain rfl : j = l.length := by omega
      go_wp2_with (go_at_call 8; (with_reducible refine (works12_w _ (PTb.h1 HTB HB)).mono ?_); rintro e' w1 ⟨rfl, b1⟩; have HZ := Lib.hid (HB.out.trans (b1.mono hWs)); clear b1)
      go_ret
      exact ⟨rfl, HZ.out⟩
end Go.Proofs.Ytamhhdhoeghafaa
