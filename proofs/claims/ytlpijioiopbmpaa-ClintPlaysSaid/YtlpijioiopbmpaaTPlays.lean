/-
  ClintPlays of layer 13: whatever is done, both answer alike. No condition but what the calls lean on.
-/
import Derived.Test.YtlpijioiopbmpaaTSame
namespace Go.Proofs.Ytlpijioiopbmpaa
open Go.ChangeShapes Go.WideShapes Go.ChangeAt Go.RowKit
set_option linter.unusedVariables false
set_option linter.unusedSimpArgs false
theorem rtload_at13 {w : World} {g : Nat} {S : TS} (m : RT w g S) (ok : S.Ok) (off size v : Int) (b : Bool) (hv : S.ldV off size = v) (hb : rgT off size = b) : Calls Try.prog 13 #[.pointer (some ⟨g, 0, none⟩), .int .i64 off, .int .i64 size] w fun e w' => e = .returned (.tuple #[.int .u64 v, .bool b]) ∧ Kp w w' := by subst hv hb; exact rtload_w m ok off size
theorem rtstore_at13 {w : World} {g : Nat} {S : TS} (m : RT w g S) (ok : S.Ok) (off size v : Int) (b : Bool) (S' : TS) (hb : rgT off size = b) (hS : S.stS off size v = S') (v0 : 0 ≤ v) (v1 : v < 18446744073709551616) : Calls Try.prog 15 #[.pointer (some ⟨g, 0, none⟩), .int .i64 off, .int .i64 size, .int .u64 v] w fun e w' => e = .returned (.bool b) ∧ RT w' g S' ∧ Fr w w' (fun i => i = g) := by subst hb hS; exact rtstore_w m ok off size v v0 v1
set_option maxRecDepth 100000 in
set_option maxHeartbeats 16000000 in
theorem plays13_w (l : List Tc) (A : Option Addr) (cap : Nat) (W : World) (hrd : RdTc W W.heap.size A l) (hraw : ∀ c ∈ l, c.Raw) (hlen : l.length ≤ 9223372036854775807) (tb : TTb W) :
    Calls Try.prog 3 #[.slice A l.length cap] W fun e w' => e = .returned (.bool true) ∧ Below W.heap.size W w' := by
  have HRD := Lib.hid hrd
  have HRAW := Lib.hid hraw
  have HTB := Lib.hid tb
  have OKN := Lib.hid TS.new_ok
  clear hrd hraw tb
  go_enter Try.func3, Try.ntmps3
  go_wp2_with (first | (go_at_call 8; (with_reducible refine (ctnew_w _ HTB.out).mono ?_); rintro e' w0 ⟨g, rfl, m0, b0⟩; have hs0 := b0.size; have HO0 := Lib.hid m0; have HB0 := Lib.hid b0; clear m0 b0) | (go_at_call 9; (with_reducible refine (rtnew_w _).mono ?_); rintro e' w7 ⟨g1, rfl, r1, b1, hg1⟩; have H7 := Lib.hid (BothT.mk (HO0.out.below b1) r1 (HB0.out.trans (b1.mono hs0)) hg1); clear r1 b1) | (go_at_call 10; (with_reducible refine (same13_w H7.out OKN.out HTB.out).mono ?_); rintro e' w8 ⟨rfl, h8⟩; have H8 := Lib.hid h8; clear h8))
  generalize hhi : w0.heap.size = hi at *
  clear hhi HO0 HB0 H7
  go_loopw [5] (fun i wr => ∃ (k : Nat) (S : TS), k ≤ l.length ∧ i = .int .i64 (k : Int) ∧ S.Ok ∧ BothT W wr hi g g1 S) (fun i _ => l.length - (intOf i).toNat)
  case atStart => exact ⟨0, TS.new, Nat.zero_le _, rfl, TS.new_ok, H8.out⟩
  case round =>
    clear H8 OKN
    obtain ⟨j, S, hk, rfl, ok, h⟩ := hrel
    have htop := h.o.top
    have hgr := h.r.lt
    have hgh := h.h
    have hWs := h.b.size
    have OK := Lib.hid ok
    have H := Lib.hid h
    have hL := HRD.out.below h.b
    clear ok h
    by_cases hlt : j < l.length
    · by_cases h200 : j < 200
      · obtain ⟨bb, oo, rfl, hbb, c, hc, hrow⟩ := hL.at_ hlt
        obtain ⟨q0, q1, q2, q3⟩ := hrow.out
        have hraw := HRAW.out c (List.mem_of_getElem? hc)
        clear hrow hc hL
        obtain ⟨ck, coff, csize, cv⟩ := c
        dsimp only [Tc.Raw] at *
        obtain ⟨⟨k0, k1⟩, ⟨o0, o1⟩, ⟨z0, z1⟩, ⟨v0, v1⟩⟩ := hraw
        have hj : (j : Int) < 200 := by omega
        go_upto_region 9 with fail
        have hA5 := At.new wr [.int .i64 ck, .int .i64 coff, .int .i64 csize, .int .u64 cv] 30
        have H5 := Lib.hid (H.out.alloc (.cells #[.int .i64 ck, .int .i64 coff, .int .i64 csize, .int .u64 cv] 30))
        have hs5 : (wr.alloc (.cells #[.int .i64 ck, .int .i64 coff, .int .i64 csize, .int .u64 cv] 30)).heap.size = wr.heap.size + 1 := by simp
        have e5 : ([.int .i64 ck, .int .i64 coff, .int .i64 csize, .int .u64 cv] : List Value).toArray = #[.int .i64 ck, .int .i64 coff, .int .i64 csize, .int .u64 cv] := rfl
        rw [e5] at hA5
        clear e5
        generalize wr.alloc (.cells #[.int .i64 ck, .int .i64 coff, .int .i64 csize, .int .u64 cv] 30) = w5 at hA5 H5 hs5 ⊢
        obtain ⟨b, hb⟩ : ∃ b, wr.heap.size = b := ⟨_, rfl⟩
        rw [hb] at hA5 hs5 htop hgr hWs ⊢
        clear hb H q0 q1 q2 q3
        have x0 := hA5 0 _ rfl
        have x1 := hA5 1 _ rfl
        have x2 := hA5 2 _ rfl
        have x3 := hA5 3 _ rfl
        have HA5 := Lib.hid hA5
        clear hA5
        obtain ⟨pk, hpk⟩ : ∃ pk, ck % 4 = pk := ⟨_, rfl⟩
        have hp := pick_w ck 4 k0 k1 (by decide) (by decide) w5
        rw [hpk] at hp
        have hp4 : pk = 0 ∨ pk = 1 ∨ pk = 2 ∨ pk = 3 := by omega
        have HP := Lib.hid hp
        clear hp hpk
        rcases hp4 with rfl | rfl | rfl | rfl
        · obtain ⟨x, hx⟩ : ∃ x, Hid (S.ldV coff csize = x) := ⟨_, Lib.hid rfl⟩
          obtain ⟨y, hy⟩ : ∃ y, Hid (rgT coff csize = y) := ⟨_, Lib.hid rfl⟩
          have ex : (x == x) = true := by simp
          have ey : (y == y) = true := by simp
          go_upto_region 20 with (first | (go_at_call 11; (with_reducible refine HP.out.mono ?_); rintro e' w6 ⟨rfl, rfl⟩) | (go_at_call 12; (with_reducible refine (ctload_at H5.out.o OK.out (TTb.h1 HTB (Lib.hid H5.out.b)) coff csize x y hx.out hy.out o0 o1 z0 z1).mono ?_); rintro e' w1 ⟨rfl, m1, f1⟩; have hs1 := f1.size; have H1 := Lib.hid (H5.out.code m1 f1 rfl); have HA1 := Lib.hid (HA5.out.fram f1 (by omega) (fun x => by unfold Rg at x; omega)); have x1_1 := HA1.out 1 _ rfl; have x1_2 := HA1.out 2 _ rfl; have x1_3 := HA1.out 3 _ rfl; clear m1 f1) | (go_at_call 13; (with_reducible refine (rtload_at13 H1.out.r OK.out coff csize x y hx.out hy.out).mono ?_); rintro e' w2 ⟨rfl, k2⟩; have hs2 := k2.1.size; have H2 := Lib.hid (H1.out.kp k2); clear k2))
          go_wp2_with (go_at_call 10; (with_reducible refine (same13_w H2.out OK.out HTB.out).mono ?_); rintro e' w9 ⟨rfl, h9⟩; have H9 := Lib.hid h9; clear h9)
          go_roundw
          case rel => exact ⟨j + 1, S, by omega, by go_num, OK.out, H9.out⟩
          case measure => simp [intOf]; omega
        · obtain ⟨y, hy⟩ : ∃ y, Hid (rgT coff csize = y) := ⟨_, Lib.hid rfl⟩
          have ey : (y == y) = true := by simp
          go_upto_region 19 with (go_at_call 11; (with_reducible refine HP.out.mono ?_); rintro e' w6 ⟨rfl, rfl⟩)
          have hA := HA5.out
          refine wp_region_held_drew (S := fun w' => At (b) [.int .i64 ck, .int .i64 coff, .int .i64 csize, .int .u64 cv] w') (by kernel_rfl) (hA.drew) (fun hS => ?_)
          have Hd := Lib.hid H5.out.drew
          have hsd : w5.drew.heap.size = w5.heap.size := rfl
          generalize w5.drew = g0 at hS Hd hsd ⊢
          (refine wpAnyH_take (i := 0) (oi := { dst := some 78, op := Op.move (Operand.tmp 3), type := 23, pos := "law.go:37", after := #[], guard := none }) (v := ?_) rfl (by kernel_rfl) (by kernel_rfl) (by kernel_rfl) (fun _ _ _ h => h) (Or.inl ⟨by rfl, ?_⟩) hS ?_; rotate_left; focus (intro w' s0; go_simp <;> try with_reducible rfl))
          try simp only [Act.put, List.setIfInBounds_toArray, List.set_cons_zero, List.set_cons_succ]
          (refine wpAnyH_take (i := 1) (oi := { dst := some 79, op := Op.fieldAddr 30 (Operand.tmp 6) 1, type := 0, pos := "law.go:37", after := #[], guard := none }) (v := ?_) rfl (by kernel_rfl) (by kernel_rfl) (by kernel_rfl) (fun _ _ _ h => h) (Or.inl ⟨by rfl, ?_⟩) hS ?_; rotate_left; focus (intro w' s0; go_simp <;> try with_reducible rfl))
          try simp only [Act.put, List.setIfInBounds_toArray, List.set_cons_zero, List.set_cons_succ]
          (refine wpAnyH_take (i := 2) (oi := { dst := some 80, op := Op.load 3 (Operand.tmp 79), type := 3, pos := "law.go:37", after := #[{ on := 1, ground := Ground.data }], guard := none }) (v := ?_) rfl (by kernel_rfl) (by kernel_rfl) (by kernel_rfl) (fun _ _ _ h => h) (Or.inl ⟨by rfl, ?_⟩) hS ?_; rotate_left; focus (intro w' s0; have c_0 := s0 0 _ rfl; have c_1 := s0 1 _ rfl; have c_2 := s0 2 _ rfl; have c_3 := s0 3 _ rfl; go_simp <;> try with_reducible rfl))
          try simp only [Act.put, List.setIfInBounds_toArray, List.set_cons_zero, List.set_cons_succ]
          (refine wpAnyH_take (i := 3) (oi := { dst := some 81, op := Op.fieldAddr 30 (Operand.tmp 6) 2, type := 0, pos := "law.go:37", after := #[], guard := none }) (v := ?_) rfl (by kernel_rfl) (by kernel_rfl) (by kernel_rfl) (fun _ _ _ h => h) (Or.inl ⟨by rfl, ?_⟩) hS ?_; rotate_left; focus (intro w' s0; go_simp <;> try with_reducible rfl))
          try simp only [Act.put, List.setIfInBounds_toArray, List.set_cons_zero, List.set_cons_succ]
          (refine wpAnyH_take (i := 4) (oi := { dst := some 82, op := Op.load 3 (Operand.tmp 81), type := 3, pos := "law.go:37", after := #[{ on := 3, ground := Ground.data }], guard := none }) (v := ?_) rfl (by kernel_rfl) (by kernel_rfl) (by kernel_rfl) (fun _ _ _ h => h) (Or.inl ⟨by rfl, ?_⟩) hS ?_; rotate_left; focus (intro w' s0; have c_0 := s0 0 _ rfl; have c_1 := s0 1 _ rfl; have c_2 := s0 2 _ rfl; have c_3 := s0 3 _ rfl; go_simp <;> try with_reducible rfl))
          try simp only [Act.put, List.setIfInBounds_toArray, List.set_cons_zero, List.set_cons_succ]
          (refine wpAnyH_take (i := 5) (oi := { dst := some 83, op := Op.fieldAddr 30 (Operand.tmp 6) 3, type := 0, pos := "law.go:37", after := #[], guard := none }) (v := ?_) rfl (by kernel_rfl) (by kernel_rfl) (by kernel_rfl) (fun _ _ _ h => h) (Or.inl ⟨by rfl, ?_⟩) hS ?_; rotate_left; focus (intro w' s0; go_simp <;> try with_reducible rfl))
          try simp only [Act.put, List.setIfInBounds_toArray, List.set_cons_zero, List.set_cons_succ]
          (refine wpAnyH_take (i := 6) (oi := { dst := some 84, op := Op.load 28 (Operand.tmp 83), type := 28, pos := "law.go:37", after := #[{ on := 5, ground := Ground.data }], guard := none }) (v := ?_) rfl (by kernel_rfl) (by kernel_rfl) (by kernel_rfl) (fun _ _ _ h => h) (Or.inl ⟨by rfl, ?_⟩) hS ?_; rotate_left; focus (intro w' s0; have c_0 := s0 0 _ rfl; have c_1 := s0 1 _ rfl; have c_2 := s0 2 _ rfl; have c_3 := s0 3 _ rfl; go_simp <;> try with_reducible rfl))
          try simp only [Act.put, List.setIfInBounds_toArray, List.set_cons_zero, List.set_cons_succ]
          (refine wpAnyH_take (i := 8) (oi := { dst := some 86, op := Op.move (Operand.tmp 4), type := 25, pos := "law.go:37", after := #[], guard := none }) (v := ?_) rfl (by kernel_rfl) (by kernel_rfl) (by kernel_rfl) (fun _ _ _ h => h) (Or.inl ⟨by rfl, ?_⟩) hS ?_; rotate_left; focus (intro w' s0; go_simp <;> try with_reducible rfl))
          try simp only [Act.put, List.setIfInBounds_toArray, List.set_cons_zero, List.set_cons_succ]
          (refine wpAnyH_take (i := 9) (oi := { dst := some 87, op := Op.fieldAddr 30 (Operand.tmp 6) 1, type := 0, pos := "law.go:37", after := #[], guard := none }) (v := ?_) rfl (by kernel_rfl) (by kernel_rfl) (by kernel_rfl) (fun _ _ _ h => h) (Or.inl ⟨by rfl, ?_⟩) hS ?_; rotate_left; focus (intro w' s0; go_simp <;> try with_reducible rfl))
          try simp only [Act.put, List.setIfInBounds_toArray, List.set_cons_zero, List.set_cons_succ]
          (refine wpAnyH_take (i := 10) (oi := { dst := some 88, op := Op.load 3 (Operand.tmp 87), type := 3, pos := "law.go:37", after := #[{ on := 9, ground := Ground.data }], guard := none }) (v := ?_) rfl (by kernel_rfl) (by kernel_rfl) (by kernel_rfl) (fun _ _ _ h => h) (Or.inl ⟨by rfl, ?_⟩) hS ?_; rotate_left; focus (intro w' s0; have c_0 := s0 0 _ rfl; have c_1 := s0 1 _ rfl; have c_2 := s0 2 _ rfl; have c_3 := s0 3 _ rfl; go_simp <;> try with_reducible rfl))
          try simp only [Act.put, List.setIfInBounds_toArray, List.set_cons_zero, List.set_cons_succ]
          (refine wpAnyH_take (i := 11) (oi := { dst := some 89, op := Op.fieldAddr 30 (Operand.tmp 6) 2, type := 0, pos := "law.go:37", after := #[], guard := none }) (v := ?_) rfl (by kernel_rfl) (by kernel_rfl) (by kernel_rfl) (fun _ _ _ h => h) (Or.inl ⟨by rfl, ?_⟩) hS ?_; rotate_left; focus (intro w' s0; go_simp <;> try with_reducible rfl))
          try simp only [Act.put, List.setIfInBounds_toArray, List.set_cons_zero, List.set_cons_succ]
          (refine wpAnyH_take (i := 12) (oi := { dst := some 90, op := Op.load 3 (Operand.tmp 89), type := 3, pos := "law.go:37", after := #[{ on := 11, ground := Ground.data }], guard := none }) (v := ?_) rfl (by kernel_rfl) (by kernel_rfl) (by kernel_rfl) (fun _ _ _ h => h) (Or.inl ⟨by rfl, ?_⟩) hS ?_; rotate_left; focus (intro w' s0; have c_0 := s0 0 _ rfl; have c_1 := s0 1 _ rfl; have c_2 := s0 2 _ rfl; have c_3 := s0 3 _ rfl; go_simp <;> try with_reducible rfl))
          try simp only [Act.put, List.setIfInBounds_toArray, List.set_cons_zero, List.set_cons_succ]
          (refine wpAnyH_take (i := 13) (oi := { dst := some 91, op := Op.fieldAddr 30 (Operand.tmp 6) 3, type := 0, pos := "law.go:37", after := #[], guard := none }) (v := ?_) rfl (by kernel_rfl) (by kernel_rfl) (by kernel_rfl) (fun _ _ _ h => h) (Or.inl ⟨by rfl, ?_⟩) hS ?_; rotate_left; focus (intro w' s0; go_simp <;> try with_reducible rfl))
          try simp only [Act.put, List.setIfInBounds_toArray, List.set_cons_zero, List.set_cons_succ]
          (refine wpAnyH_take (i := 14) (oi := { dst := some 92, op := Op.load 28 (Operand.tmp 91), type := 28, pos := "law.go:37", after := #[{ on := 13, ground := Ground.data }], guard := none }) (v := ?_) rfl (by kernel_rfl) (by kernel_rfl) (by kernel_rfl) (fun _ _ _ h => h) (Or.inl ⟨by rfl, ?_⟩) hS ?_; rotate_left; focus (intro w' s0; have c_0 := s0 0 _ rfl; have c_1 := s0 1 _ rfl; have c_2 := s0 2 _ rfl; have c_3 := s0 3 _ rfl; go_simp <;> try with_reducible rfl))
          try simp only [Act.put, List.setIfInBounds_toArray, List.set_cons_zero, List.set_cons_succ]
          refine wpAnyH_ready (rs := [7]) (by kernel_rfl) (by simp) ?_
          refine AllReadyH.cons (o := { dst := some 85, op := Op.call { callee := Callee.value (Operand.func 14), args := #[Operand.tmp 78, Operand.tmp 80, Operand.tmp 82, Operand.tmp 84], argTypes := #[23, 3, 3, 28] }, type := 4, pos := "law.go:37", after := #[{ on := 0, ground := Ground.data }, { on := 2, ground := Ground.data }, { on := 4, ground := Ground.data }, { on := 6, ground := Ground.data }], guard := none }) rfl (fun K hK => ?_) AllReadyH.nil
          refine take_if (by rfl) ?_
          go_simp
          (with_reducible refine (ctstore_at Hd.out.o OK.out (TTb.h1 HTB (Lib.hid Hd.out.b)) coff csize cv y _ hy.out rfl o0 o1 z0 z1 v0 v1).mono ?_)
          rintro e' w1 ⟨rfl, m1, f1⟩
          have hS2 : At (b) [.int .i64 ck, .int .i64 coff, .int .i64 csize, .int .u64 cv] w1 := hS.fram f1 (by omega) (fun x => by unfold Rg at x; omega)
          have hs1 := f1.size
          have HM1 := Lib.hid m1
          have HF1 := Lib.hid f1
          have HR1 := Lib.hid (Hd.out.rt m1 f1)
          clear m1 f1
          refine hK.out _ _ hS2 (fun hS => ?_)
          clear hK K hS2
          try simp only [Act.put, List.setIfInBounds_toArray, List.set_cons_zero, List.set_cons_succ]
          refine wpAnyH_ready (rs := [15]) (by kernel_rfl) (by simp) ?_
          refine AllReadyH.cons (o := { dst := some 93, op := Op.call { callee := Callee.value (Operand.func 15), args := #[Operand.tmp 86, Operand.tmp 88, Operand.tmp 90, Operand.tmp 92], argTypes := #[25, 3, 3, 28] }, type := 4, pos := "law.go:37", after := #[{ on := 8, ground := Ground.data }, { on := 10, ground := Ground.data }, { on := 12, ground := Ground.data }, { on := 14, ground := Ground.data }, { on := 7, ground := Ground.chain }], guard := none }) rfl (fun K hK => ?_) AllReadyH.nil
          refine take_if (by rfl) ?_
          go_simp
          (with_reducible refine (rtstore_at13 HR1.out OK.out coff csize cv y _ hy.out rfl v0 v1).mono ?_)
          rintro e' w2 ⟨rfl, r2, f2⟩
          have hS2 : At (b) [.int .i64 ck, .int .i64 coff, .int .i64 csize, .int .u64 cv] w2 := hS.fram f2 (by omega) (fun x => by omega)
          have hs2 := f2.size
          have H2 := Lib.hid (Hd.out.both HM1.out HF1.out r2 f2)
          clear r2 f2
          refine hK.out _ _ hS2 (fun hS => ?_)
          clear hK K hS2
          try simp only [Act.put, List.setIfInBounds_toArray, List.set_cons_zero, List.set_cons_succ]
          (refine wpAnyH_take (i := 16) (oi := { dst := some 94, op := Op.binOp BinOp.eql 4 (Operand.tmp 85) (Operand.tmp 93) 4, type := 4, pos := "law.go:37", after := #[{ on := 7, ground := Ground.data }, { on := 15, ground := Ground.data }], guard := none }) (v := ?_) rfl (by kernel_rfl) (by kernel_rfl) (by kernel_rfl) (fun _ _ _ h => h) (Or.inl ⟨by rfl, ?_⟩) hS ?_; rotate_left; focus (intro w' s0; go_simp <;> try with_reducible rfl))
          try simp only [Act.put, List.setIfInBounds_toArray, List.set_cons_zero, List.set_cons_succ]
          (refine wpAnyH_take (i := 17) (oi := { dst := some 7, op := Op.assign (Operand.tmp 94), type := 4, pos := "law.go:37", after := #[{ on := 16, ground := Ground.data }, { on := 15, ground := Ground.chain }, { on := 0, ground := Ground.phase }, { on := 1, ground := Ground.phase }, { on := 2, ground := Ground.phase }, { on := 3, ground := Ground.phase }, { on := 4, ground := Ground.phase }, { on := 5, ground := Ground.phase }, { on := 6, ground := Ground.phase }, { on := 7, ground := Ground.phase }, { on := 8, ground := Ground.phase }, { on := 9, ground := Ground.phase }, { on := 10, ground := Ground.phase }, { on := 11, ground := Ground.phase }, { on := 12, ground := Ground.phase }, { on := 13, ground := Ground.phase }, { on := 14, ground := Ground.phase }, { on := 15, ground := Ground.phase }, { on := 16, ground := Ground.phase }], guard := none }) (v := ?_) rfl (by kernel_rfl) (by kernel_rfl) (by kernel_rfl) (fun _ _ _ h => h) (Or.inl ⟨by rfl, ?_⟩) hS ?_; rotate_left; focus (intro w' s0; go_simp <;> try with_reducible rfl))
          try simp only [Act.put, List.setIfInBounds_toArray, List.set_cons_zero, List.set_cons_succ]
          refine wpAnyH_done (by kernel_rfl) ?_ _
          clear hS
          obtain ⟨S6, hS6⟩ : ∃ S6, S6 = S.stS coff csize cv := ⟨_, rfl⟩
          rw [← hS6] at H2
          have OK6 : Hid S6.Ok := Lib.hid (by rw [hS6]; exact OK.out.stS _ _ _ v0 v1)
          clear hS6
          go_wp2_with (go_at_call 10; (with_reducible refine (same13_w H2.out OK6.out HTB.out).mono ?_); rintro e' w9 ⟨rfl, h9⟩; have H9 := Lib.hid h9; clear h9)
          go_roundw
          case rel => exact ⟨j + 1, S6, by omega, by go_num, OK6.out, H9.out⟩
          case measure => simp [intOf]; omega
        · obtain ⟨y, hy⟩ : ∃ y, Hid (rgT coff csize = y) := ⟨_, Lib.hid rfl⟩
          have ey : (y == y) = true := by simp
          go_upto_region 19 with (go_at_call 11; (with_reducible refine HP.out.mono ?_); rintro e' w6 ⟨rfl, rfl⟩)
          have hA := HA5.out
          refine wp_region_held_drew (S := fun w' => At (b) [.int .i64 ck, .int .i64 coff, .int .i64 csize, .int .u64 cv] w') (by kernel_rfl) (hA.drew) (fun hS => ?_)
          have Hd := Lib.hid H5.out.drew
          have hsd : w5.drew.heap.size = w5.heap.size := rfl
          generalize w5.drew = g0 at hS Hd hsd ⊢
          (refine wpAnyH_take (i := 0) (oi := { dst := some 78, op := Op.move (Operand.tmp 3), type := 23, pos := "law.go:37", after := #[], guard := none }) (v := ?_) rfl (by kernel_rfl) (by kernel_rfl) (by kernel_rfl) (fun _ _ _ h => h) (Or.inl ⟨by rfl, ?_⟩) hS ?_; rotate_left; focus (intro w' s0; go_simp <;> try with_reducible rfl))
          try simp only [Act.put, List.setIfInBounds_toArray, List.set_cons_zero, List.set_cons_succ]
          (refine wpAnyH_take (i := 1) (oi := { dst := some 79, op := Op.fieldAddr 30 (Operand.tmp 6) 1, type := 0, pos := "law.go:37", after := #[], guard := none }) (v := ?_) rfl (by kernel_rfl) (by kernel_rfl) (by kernel_rfl) (fun _ _ _ h => h) (Or.inl ⟨by rfl, ?_⟩) hS ?_; rotate_left; focus (intro w' s0; go_simp <;> try with_reducible rfl))
          try simp only [Act.put, List.setIfInBounds_toArray, List.set_cons_zero, List.set_cons_succ]
          (refine wpAnyH_take (i := 2) (oi := { dst := some 80, op := Op.load 3 (Operand.tmp 79), type := 3, pos := "law.go:37", after := #[{ on := 1, ground := Ground.data }], guard := none }) (v := ?_) rfl (by kernel_rfl) (by kernel_rfl) (by kernel_rfl) (fun _ _ _ h => h) (Or.inl ⟨by rfl, ?_⟩) hS ?_; rotate_left; focus (intro w' s0; have c_0 := s0 0 _ rfl; have c_1 := s0 1 _ rfl; have c_2 := s0 2 _ rfl; have c_3 := s0 3 _ rfl; go_simp <;> try with_reducible rfl))
          try simp only [Act.put, List.setIfInBounds_toArray, List.set_cons_zero, List.set_cons_succ]
          (refine wpAnyH_take (i := 3) (oi := { dst := some 81, op := Op.fieldAddr 30 (Operand.tmp 6) 2, type := 0, pos := "law.go:37", after := #[], guard := none }) (v := ?_) rfl (by kernel_rfl) (by kernel_rfl) (by kernel_rfl) (fun _ _ _ h => h) (Or.inl ⟨by rfl, ?_⟩) hS ?_; rotate_left; focus (intro w' s0; go_simp <;> try with_reducible rfl))
          try simp only [Act.put, List.setIfInBounds_toArray, List.set_cons_zero, List.set_cons_succ]
          (refine wpAnyH_take (i := 4) (oi := { dst := some 82, op := Op.load 3 (Operand.tmp 81), type := 3, pos := "law.go:37", after := #[{ on := 3, ground := Ground.data }], guard := none }) (v := ?_) rfl (by kernel_rfl) (by kernel_rfl) (by kernel_rfl) (fun _ _ _ h => h) (Or.inl ⟨by rfl, ?_⟩) hS ?_; rotate_left; focus (intro w' s0; have c_0 := s0 0 _ rfl; have c_1 := s0 1 _ rfl; have c_2 := s0 2 _ rfl; have c_3 := s0 3 _ rfl; go_simp <;> try with_reducible rfl))
          try simp only [Act.put, List.setIfInBounds_toArray, List.set_cons_zero, List.set_cons_succ]
          (refine wpAnyH_take (i := 5) (oi := { dst := some 83, op := Op.fieldAddr 30 (Operand.tmp 6) 3, type := 0, pos := "law.go:37", after := #[], guard := none }) (v := ?_) rfl (by kernel_rfl) (by kernel_rfl) (by kernel_rfl) (fun _ _ _ h => h) (Or.inl ⟨by rfl, ?_⟩) hS ?_; rotate_left; focus (intro w' s0; go_simp <;> try with_reducible rfl))
          try simp only [Act.put, List.setIfInBounds_toArray, List.set_cons_zero, List.set_cons_succ]
          (refine wpAnyH_take (i := 6) (oi := { dst := some 84, op := Op.load 28 (Operand.tmp 83), type := 28, pos := "law.go:37", after := #[{ on := 5, ground := Ground.data }], guard := none }) (v := ?_) rfl (by kernel_rfl) (by kernel_rfl) (by kernel_rfl) (fun _ _ _ h => h) (Or.inl ⟨by rfl, ?_⟩) hS ?_; rotate_left; focus (intro w' s0; have c_0 := s0 0 _ rfl; have c_1 := s0 1 _ rfl; have c_2 := s0 2 _ rfl; have c_3 := s0 3 _ rfl; go_simp <;> try with_reducible rfl))
          try simp only [Act.put, List.setIfInBounds_toArray, List.set_cons_zero, List.set_cons_succ]
          (refine wpAnyH_take (i := 8) (oi := { dst := some 86, op := Op.move (Operand.tmp 4), type := 25, pos := "law.go:37", after := #[], guard := none }) (v := ?_) rfl (by kernel_rfl) (by kernel_rfl) (by kernel_rfl) (fun _ _ _ h => h) (Or.inl ⟨by rfl, ?_⟩) hS ?_; rotate_left; focus (intro w' s0; go_simp <;> try with_reducible rfl))
          try simp only [Act.put, List.setIfInBounds_toArray, List.set_cons_zero, List.set_cons_succ]
          (refine wpAnyH_take (i := 9) (oi := { dst := some 87, op := Op.fieldAddr 30 (Operand.tmp 6) 1, type := 0, pos := "law.go:37", after := #[], guard := none }) (v := ?_) rfl (by kernel_rfl) (by kernel_rfl) (by kernel_rfl) (fun _ _ _ h => h) (Or.inl ⟨by rfl, ?_⟩) hS ?_; rotate_left; focus (intro w' s0; go_simp <;> try with_reducible rfl))
          try simp only [Act.put, List.setIfInBounds_toArray, List.set_cons_zero, List.set_cons_succ]
          (refine wpAnyH_take (i := 10) (oi := { dst := some 88, op := Op.load 3 (Operand.tmp 87), type := 3, pos := "law.go:37", after := #[{ on := 9, ground := Ground.data }], guard := none }) (v := ?_) rfl (by kernel_rfl) (by kernel_rfl) (by kernel_rfl) (fun _ _ _ h => h) (Or.inl ⟨by rfl, ?_⟩) hS ?_; rotate_left; focus (intro w' s0; have c_0 := s0 0 _ rfl; have c_1 := s0 1 _ rfl; have c_2 := s0 2 _ rfl; have c_3 := s0 3 _ rfl; go_simp <;> try with_reducible rfl))
          try simp only [Act.put, List.setIfInBounds_toArray, List.set_cons_zero, List.set_cons_succ]
          (refine wpAnyH_take (i := 11) (oi := { dst := some 89, op := Op.fieldAddr 30 (Operand.tmp 6) 2, type := 0, pos := "law.go:37", after := #[], guard := none }) (v := ?_) rfl (by kernel_rfl) (by kernel_rfl) (by kernel_rfl) (fun _ _ _ h => h) (Or.inl ⟨by rfl, ?_⟩) hS ?_; rotate_left; focus (intro w' s0; go_simp <;> try with_reducible rfl))
          try simp only [Act.put, List.setIfInBounds_toArray, List.set_cons_zero, List.set_cons_succ]
          (refine wpAnyH_take (i := 12) (oi := { dst := some 90, op := Op.load 3 (Operand.tmp 89), type := 3, pos := "law.go:37", after := #[{ on := 11, ground := Ground.data }], guard := none }) (v := ?_) rfl (by kernel_rfl) (by kernel_rfl) (by kernel_rfl) (fun _ _ _ h => h) (Or.inl ⟨by rfl, ?_⟩) hS ?_; rotate_left; focus (intro w' s0; have c_0 := s0 0 _ rfl; have c_1 := s0 1 _ rfl; have c_2 := s0 2 _ rfl; have c_3 := s0 3 _ rfl; go_simp <;> try with_reducible rfl))
          try simp only [Act.put, List.setIfInBounds_toArray, List.set_cons_zero, List.set_cons_succ]
          (refine wpAnyH_take (i := 13) (oi := { dst := some 91, op := Op.fieldAddr 30 (Operand.tmp 6) 3, type := 0, pos := "law.go:37", after := #[], guard := none }) (v := ?_) rfl (by kernel_rfl) (by kernel_rfl) (by kernel_rfl) (fun _ _ _ h => h) (Or.inl ⟨by rfl, ?_⟩) hS ?_; rotate_left; focus (intro w' s0; go_simp <;> try with_reducible rfl))
          try simp only [Act.put, List.setIfInBounds_toArray, List.set_cons_zero, List.set_cons_succ]
          (refine wpAnyH_take (i := 14) (oi := { dst := some 92, op := Op.load 28 (Operand.tmp 91), type := 28, pos := "law.go:37", after := #[{ on := 13, ground := Ground.data }], guard := none }) (v := ?_) rfl (by kernel_rfl) (by kernel_rfl) (by kernel_rfl) (fun _ _ _ h => h) (Or.inl ⟨by rfl, ?_⟩) hS ?_; rotate_left; focus (intro w' s0; have c_0 := s0 0 _ rfl; have c_1 := s0 1 _ rfl; have c_2 := s0 2 _ rfl; have c_3 := s0 3 _ rfl; go_simp <;> try with_reducible rfl))
          try simp only [Act.put, List.setIfInBounds_toArray, List.set_cons_zero, List.set_cons_succ]
          refine wpAnyH_ready (rs := [7]) (by kernel_rfl) (by simp) ?_
          refine AllReadyH.cons (o := { dst := some 85, op := Op.call { callee := Callee.value (Operand.func 14), args := #[Operand.tmp 78, Operand.tmp 80, Operand.tmp 82, Operand.tmp 84], argTypes := #[23, 3, 3, 28] }, type := 4, pos := "law.go:37", after := #[{ on := 0, ground := Ground.data }, { on := 2, ground := Ground.data }, { on := 4, ground := Ground.data }, { on := 6, ground := Ground.data }], guard := none }) rfl (fun K hK => ?_) AllReadyH.nil
          refine take_if (by rfl) ?_
          go_simp
          (with_reducible refine (ctstore_at Hd.out.o OK.out (TTb.h1 HTB (Lib.hid Hd.out.b)) coff csize cv y _ hy.out rfl o0 o1 z0 z1 v0 v1).mono ?_)
          rintro e' w1 ⟨rfl, m1, f1⟩
          have hS2 : At (b) [.int .i64 ck, .int .i64 coff, .int .i64 csize, .int .u64 cv] w1 := hS.fram f1 (by omega) (fun x => by unfold Rg at x; omega)
          have hs1 := f1.size
          have HM1 := Lib.hid m1
          have HF1 := Lib.hid f1
          have HR1 := Lib.hid (Hd.out.rt m1 f1)
          clear m1 f1
          refine hK.out _ _ hS2 (fun hS => ?_)
          clear hK K hS2
          try simp only [Act.put, List.setIfInBounds_toArray, List.set_cons_zero, List.set_cons_succ]
          refine wpAnyH_ready (rs := [15]) (by kernel_rfl) (by simp) ?_
          refine AllReadyH.cons (o := { dst := some 93, op := Op.call { callee := Callee.value (Operand.func 15), args := #[Operand.tmp 86, Operand.tmp 88, Operand.tmp 90, Operand.tmp 92], argTypes := #[25, 3, 3, 28] }, type := 4, pos := "law.go:37", after := #[{ on := 8, ground := Ground.data }, { on := 10, ground := Ground.data }, { on := 12, ground := Ground.data }, { on := 14, ground := Ground.data }, { on := 7, ground := Ground.chain }], guard := none }) rfl (fun K hK => ?_) AllReadyH.nil
          refine take_if (by rfl) ?_
          go_simp
          (with_reducible refine (rtstore_at13 HR1.out OK.out coff csize cv y _ hy.out rfl v0 v1).mono ?_)
          rintro e' w2 ⟨rfl, r2, f2⟩
          have hS2 : At (b) [.int .i64 ck, .int .i64 coff, .int .i64 csize, .int .u64 cv] w2 := hS.fram f2 (by omega) (fun x => by omega)
          have hs2 := f2.size
          have H2 := Lib.hid (Hd.out.both HM1.out HF1.out r2 f2)
          clear r2 f2
          refine hK.out _ _ hS2 (fun hS => ?_)
          clear hK K hS2
          try simp only [Act.put, List.setIfInBounds_toArray, List.set_cons_zero, List.set_cons_succ]
          (refine wpAnyH_take (i := 16) (oi := { dst := some 94, op := Op.binOp BinOp.eql 4 (Operand.tmp 85) (Operand.tmp 93) 4, type := 4, pos := "law.go:37", after := #[{ on := 7, ground := Ground.data }, { on := 15, ground := Ground.data }], guard := none }) (v := ?_) rfl (by kernel_rfl) (by kernel_rfl) (by kernel_rfl) (fun _ _ _ h => h) (Or.inl ⟨by rfl, ?_⟩) hS ?_; rotate_left; focus (intro w' s0; go_simp <;> try with_reducible rfl))
          try simp only [Act.put, List.setIfInBounds_toArray, List.set_cons_zero, List.set_cons_succ]
          (refine wpAnyH_take (i := 17) (oi := { dst := some 7, op := Op.assign (Operand.tmp 94), type := 4, pos := "law.go:37", after := #[{ on := 16, ground := Ground.data }, { on := 15, ground := Ground.chain }, { on := 0, ground := Ground.phase }, { on := 1, ground := Ground.phase }, { on := 2, ground := Ground.phase }, { on := 3, ground := Ground.phase }, { on := 4, ground := Ground.phase }, { on := 5, ground := Ground.phase }, { on := 6, ground := Ground.phase }, { on := 7, ground := Ground.phase }, { on := 8, ground := Ground.phase }, { on := 9, ground := Ground.phase }, { on := 10, ground := Ground.phase }, { on := 11, ground := Ground.phase }, { on := 12, ground := Ground.phase }, { on := 13, ground := Ground.phase }, { on := 14, ground := Ground.phase }, { on := 15, ground := Ground.phase }, { on := 16, ground := Ground.phase }], guard := none }) (v := ?_) rfl (by kernel_rfl) (by kernel_rfl) (by kernel_rfl) (fun _ _ _ h => h) (Or.inl ⟨by rfl, ?_⟩) hS ?_; rotate_left; focus (intro w' s0; go_simp <;> try with_reducible rfl))
          try simp only [Act.put, List.setIfInBounds_toArray, List.set_cons_zero, List.set_cons_succ]
          refine wpAnyH_done (by kernel_rfl) ?_ _
          clear hS
          obtain ⟨S6, hS6⟩ : ∃ S6, S6 = S.stS coff csize cv := ⟨_, rfl⟩
          rw [← hS6] at H2
          have OK6 : Hid S6.Ok := Lib.hid (by rw [hS6]; exact OK.out.stS _ _ _ v0 v1)
          clear hS6
          go_wp2_with (go_at_call 10; (with_reducible refine (same13_w H2.out OK6.out HTB.out).mono ?_); rintro e' w9 ⟨rfl, h9⟩; have H9 := Lib.hid h9; clear h9)
          go_roundw
          case rel => exact ⟨j + 1, S6, by omega, by go_num, OK6.out, H9.out⟩
          case measure => simp [intOf]; omega
        · go_upto_region 20 with (first | (go_at_call 11; (with_reducible refine HP.out.mono ?_); rintro e' w6 ⟨rfl, rfl⟩) | (go_at_call 16; (with_reducible refine (cttick_w H5.out.o OK.out (TTb.h1 HTB (Lib.hid H5.out.b)) coff o0 o1).mono ?_); rintro e' w1 ⟨rfl, m1, f1⟩; have hs1 := f1.size; have HM1 := Lib.hid m1; have HF1 := Lib.hid f1; have HR1 := Lib.hid (H5.out.rt m1 f1); have HA1 := Lib.hid (HA5.out.fram f1 (by omega) (fun x => by unfold Rg at x; omega)); have x1_1 := HA1.out 1 _ rfl; have x1_2 := HA1.out 2 _ rfl; have x1_3 := HA1.out 3 _ rfl; clear m1 f1) | (go_at_call 17; (with_reducible refine (rttick_w HR1.out OK.out coff o1).mono ?_); rintro e' w2 ⟨rfl, r2, f2⟩; have hs2 := f2.size; have H2 := Lib.hid (H5.out.both HM1.out HF1.out r2 f2); clear r2 f2))
          obtain ⟨S6, hS6⟩ : ∃ S6, S6 = S.tick coff := ⟨_, rfl⟩
          rw [← hS6] at H2
          have OK6 : Hid S6.Ok := Lib.hid (by rw [hS6]; exact OK.out.tick _)
          clear hS6
          go_wp2_with (go_at_call 10; (with_reducible refine (same13_w H2.out OK6.out HTB.out).mono ?_); rintro e' w9 ⟨rfl, h9⟩; have H9 := Lib.hid h9; clear h9)
          go_roundw
          case rel => exact ⟨j + 1, S6, by omega, by go_num, OK6.out, H9.out⟩
          case measure => simp [intOf]; omega
      · have d0 : decide ((j : Int) < 200) = false := by simp; omega
        clear hL
        go_wp2_with (go_at_call 18; (with_reducible refine (known13_w _ (TTb.h1 HTB (Lib.hid H.out.b))).mono ?_); rintro e' w1 ⟨rfl, b1⟩; have HZ := Lib.hid (H.out.b.trans (b1.mono H.out.b.size)); clear b1)
        go_ret
        exact ⟨rfl, HZ.out⟩
    · clear hL
      have d0 : decide ((j : Int) < (l.length : Int)) = false := by simp; omega
      go_wp2_with (go_at_call 18; (with_reducible refine (known13_w _ (TTb.h1 HTB (Lib.hid H.out.b))).mono ?_); rintro e' w1 ⟨rfl, b1⟩; have HZ := Lib.hid (H.out.b.trans (b1.mono H.out.b.size)); clear b1)
      go_ret
      exact ⟨rfl, HZ.out⟩
end Go.Proofs.Ytlpijioiopbmpaa
