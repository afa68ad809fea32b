/-
  RamKnown of layer 11: the chapter's examples; sizes and places at their ends. No condition.
-/
import Derived.Test.YteebmikjikjhmaaDoorQTags
namespace Go.Proofs.YteebmikjikjhmaaDoor
open Go.ChangeShapes Go.WideShapes Go.ChangeAt Go.RowKit
set_option linter.unusedVariables false
set_option linter.unusedSimpArgs false
def kSz : List Int := [-9223372036854775808, -4096, 0, 1, 4095, 4096, 4097, 8192, 65536, 69632, 9223372036854775807]
def kPl : List Int := [-9223372036854775808, -16, -1, 4096, 4095, 9223372036854775807]
def fnB (x : Int) : Bool := x == 4096 || x == 8192 || x == 65536
theorem sz_all : kSz.all (fun x => nwO x == fnB x && decide (-9223372036854775808 ≤ x) && decide (x < 9223372036854775808)) = true := by decide +kernel
theorem sz_at (k : Nat) (x : Int) (h : kSz[k]? = some x) : nwO x = fnB x ∧ -9223372036854775808 ≤ x ∧ x < 9223372036854775808 := by
  have := List.all_eq_true.1 sz_all x (List.mem_of_getElem? h)
  simpa [and_assoc] using this
theorem pl_all : kPl.all (fun x => !cpO 4096 x && !ldO 4096 x 2 && !ldO 4096 x 8 && decide (-9223372036854775808 ≤ x) && decide (x < 9223372036854775808)) = true := by decide +kernel
theorem pl_at (k : Nat) (x : Int) (h : kPl[k]? = some x) : cpO 4096 x = false ∧ ldO 4096 x 2 = false ∧ ldO 4096 x 8 = false ∧ -9223372036854775808 ≤ x ∧ x < 9223372036854775808 := by
  have := List.all_eq_true.1 pl_all x (List.mem_of_getElem? h)
  simpa [and_assoc] using this
theorem new_at (x : Int) (h : nwO x = true) (w : World) : Calls Tryd.prog 8 #[.int .i64 x] w fun e w' => ∃ g B T, e = .returned (.tuple #[.pointer (some ⟨g, 0, none⟩), .int .i64 0]) ∧ Ob w' w.heap.size w'.heap.size g B T ∧ (B.length : Int) = x ∧ Below w.heap.size w w' := by
  obtain ⟨n, rfl⟩ := Int.eq_ofNat_of_zero_le (show 0 ≤ x by simp only [nwO, Bool.and_eq_true, decide_eq_true_eq] at h; omega)
  exact (cnew_yes n h w).mono fun e w' ⟨g, he, o, b⟩ => ⟨g, _, _, he, o, by simp, b⟩
def qB1 : List Int := cB kB0 16 5 6
def qT1 : List Bool := cT 4096 kT0 16 true
def qB2 : List Int := sB qB1 31 1 0
def qT2 : List Bool := sT 4096 qT1 31 1
theorem ql1 : qB1.length = 4096 := by rw [qB1, cB_len, kl0]
theorem ql2 : qB2.length = 4096 := by rw [qB2, sB_len, ql1]
theorem qb_1 : cB kB0 16 5 6 = qB1 := rfl
theorem qt_1 : cT kB0.length kT0 16 true = qT1 := by rw [kl0]; rfl
theorem qo_1 : cpO kB0.length 16 = true := by rw [kl0]; decide +kernel
theorem qb_2 : sB qB1 31 1 0 = qB2 := rfl
theorem qt_2 : sT qB1.length qT1 31 1 = qT2 := by rw [ql1]; rfl
theorem qo_2 : ldO qB1.length 31 1 = true := by rw [ql1]; decide +kernel
theorem qn_1 : cpT qT2 qB2.length 16 = false := by rw [ql2]; decide +kernel
theorem qn_2 : cpA qB2 16 = 5 := by decide +kernel
theorem qn_3 : cpM qB2 16 = 6 := by decide +kernel
theorem qn_4 : cpO qB2.length 16 = true := by rw [ql2]; decide +kernel
theorem qn_5 : cpT qT2 qB2.length 8 = false := by rw [ql2]; decide +kernel
theorem qn_6 : cpA qB2 8 = 0 := by decide +kernel
theorem qn_7 : cpM qB2 8 = 0 := by decide +kernel
theorem qn_8 : cpO qB2.length 8 = false := by rw [ql2]; decide +kernel
theorem qn_9 : tgs 0 qT2 = [] := by decide +kernel
/-- The memory behind the chapter's calls. -/
def RkS (W : World) (lo hi g : Nat) (w : World) : Prop := Ob w lo hi g qB2 qT2 ∧ Below W.heap.size W w
theorem cload_no {w : World} {lo hi g : Nat} {B : List Int} {T : List Bool} (m : Ob w lo hi g B T) (off size : Int) (ho : ldO B.length off size = false) (o0 : -9223372036854775808 ≤ off) (o1 : off < 9223372036854775808) (s0 : -9223372036854775808 ≤ size) (s1 : size < 9223372036854775808) :
    Calls Tryd.prog 17 #[.pointer (some ⟨g, 0, none⟩), .int .i64 off, .int .i64 size] w fun e w' => e = .returned (.tuple #[.int .u64 0, .bool false]) ∧ Below w.heap.size w w' := cload_at m off size 0 false (ldN_no ho) ho o0 o1 s0 s1
theorem cloadcap_no {w : World} {lo hi g : Nat} {B : List Int} {T : List Bool} (m : Ob w lo hi g B T) (off : Int) (ho : cpO B.length off = false) (o0 : -9223372036854775808 ≤ off) (o1 : off < 9223372036854775808) :
    Calls Tryd.prog 22 #[.pointer (some ⟨g, 0, none⟩), .int .i64 off] w fun e w' => e = .returned (.tuple #[.bool false, .int .u64 0, .int .u64 0, .bool false]) ∧ Below w.heap.size w w' :=
  cloadcap_at m off 0 0 false false (by rw [cpT, ho]; simp) (by rw [cpA, ho]; simp) (by rw [cpM, ho]; simp) ho o0 o1
theorem cstore_no {w : World} {lo hi g : Nat} {B : List Int} {T : List Bool} (m : Ob w lo hi g B T) (off size v : Int) (ho : ldO B.length off size = false) (o0 : -9223372036854775808 ≤ off) (o1 : off < 9223372036854775808) (s0 : -9223372036854775808 ≤ size) (s1 : size < 9223372036854775808) (v0 : 0 ≤ v) (v1 : v < 18446744073709551616) :
    Calls Tryd.prog 21 #[.pointer (some ⟨g, 0, none⟩), .int .i64 off, .int .i64 size, .int .u64 v] w fun e w' => e = .returned (.bool false) ∧ Ob w' lo hi g B T ∧ Fr w w' (Rg lo hi) := cstore_at m off size v false B T (sB_no v ho) (sT_no T ho) ho o0 o1 s0 s1 v0 v1
theorem cstorecap_no {w : World} {lo hi g : Nat} {B : List Int} {T : List Bool} (m : Ob w lo hi g B T) (off : Int) (b : Bool) (a d : Int) (ho : cpO B.length off = false) (o0 : -9223372036854775808 ≤ off) (o1 : off < 9223372036854775808) (a0 : 0 ≤ a) (a1 : a < 18446744073709551616) (d0 : 0 ≤ d) (d1 : d < 18446744073709551616) :
    Calls Tryd.prog 20 #[.pointer (some ⟨g, 0, none⟩), .int .i64 off, .bool b, .int .u64 a, .int .u64 d] w fun e w' => e = .returned (.bool false) ∧ Ob w' lo hi g B T ∧ Fr w w' (Rg lo hi) := cstorecap_at m off b a d false B T (by rw [cB, if_neg (by rw [ho]; simp)]) (cT_no ho b) ho o0 o1 a0 a1 d0 d1
set_option maxRecDepth 100000 in
set_option maxHeartbeats 32000000 in
theorem rknown_w (W : World) (tb : Tb W) :
    Calls Tryd.prog 6 #[] W fun e w' => e = .returned (.bool true) ∧ Below W.heap.size W w' := by
  have HTB := Lib.hid tb
  clear tb
  have HN : Hid (∀ w, Calls Tryd.prog 8 #[.int .i64 4096] w fun e w' => ∃ g, e = .returned (.tuple #[.pointer (some ⟨g, 0, none⟩), .int .i64 0]) ∧ Ob w' w.heap.size w'.heap.size g kB0 kT0 ∧ Below w.heap.size w w') := Lib.hid (fun w => cnew_yes 4096 (by decide) w)
  have hA0 : At W.heap.size (kSz.map (Value.int .i64)) (W.alloc (.cells #[.int .i64 (-9223372036854775808), .int .i64 (-4096), .int .i64 0, .int .i64 1, .int .i64 4095, .int .i64 4096, .int .i64 4097, .int .i64 8192, .int .i64 65536, .int .i64 69632, .int .i64 9223372036854775807] 3)) := At.new W (kSz.map (Value.int .i64)) _
  have HA0 := Lib.hid hA0
  have HB0 := Lib.hid ((Below.refl W.heap.size W).alloc (Nat.le_refl _) (.cells #[.int .i64 (-9223372036854775808), .int .i64 (-4096), .int .i64 0, .int .i64 1, .int .i64 4095, .int .i64 4096, .int .i64 4097, .int .i64 8192, .int .i64 65536, .int .i64 69632, .int .i64 9223372036854775807] 3))
  have hb : W.heap.size < (W.alloc (.cells #[.int .i64 (-9223372036854775808), .int .i64 (-4096), .int .i64 0, .int .i64 1, .int .i64 4095, .int .i64 4096, .int .i64 4097, .int .i64 8192, .int .i64 65536, .int .i64 69632, .int .i64 9223372036854775807] 3)).heap.size := by simp
  clear hA0
  go_enter Tryd.func6, Tryd.ntmps6
  go_upto_region 3 with fail
  generalize W.alloc (.cells #[.int .i64 (-9223372036854775808), .int .i64 (-4096), .int .i64 0, .int .i64 1, .int .i64 4095, .int .i64 4096, .int .i64 4097, .int .i64 8192, .int .i64 65536, .int .i64 69632, .int .i64 9223372036854775807] 3) = w0 at HA0 HB0 hb ⊢
  obtain ⟨b, hbe⟩ : ∃ b, b = W.heap.size := ⟨_, rfl⟩
  have HBE := Lib.hid hbe
  rw [← hbe] at HA0 hb ⊢
  clear hbe
  go_loopw [2] (fun i wr => ∃ k : Nat, k ≤ 11 ∧ i = .int .i64 (k : Int) ∧ At b (kSz.map (Value.int .i64)) wr ∧ Below W.heap.size W wr) (fun i _ => 11 - (intOf i).toNat)
  case atStart => exact ⟨0, by omega, rfl, HA0.out, HB0.out⟩
  case round =>
    clear HA0 HB0 hb
    obtain ⟨k, hk, rfl, hat, hbl⟩ := hrel
    have hWs := hbl.size
    have hb : b < wr.heap.size := by
      have hc := hat 0 _ rfl
      rcases Nat.lt_or_ge b wr.heap.size with l | l
      · exact l
      · simp [World.cell?, Array.getElem?_eq_none l] at hc
    have HAT := Lib.hid hat
    have HBL := Lib.hid hbl
    clear hbl
    by_cases hlt : k < 11
    · obtain ⟨x, hx⟩ : ∃ x, kSz[k]? = some x := ⟨kSz[k]'(by simpa [kSz] using hlt), List.getElem?_eq_getElem _⟩
      have hxv : (kSz.map (Value.int .i64))[k]? = some (.int .i64 x) := by rw [List.getElem?_map, hx]; rfl
      have HXV := Lib.hid hxv
      have hxs := sz_at k x hx
      have HNW := Lib.hid hxs.1
      have HXB := Lib.hid hxs.2
      have c0 := hat k _ hxv
      obtain ⟨p1, e1⟩ : ∃ p, (x == 4096) = p := ⟨_, rfl⟩
      obtain ⟨p2, e2⟩ : ∃ p, (x == 8192) = p := ⟨_, rfl⟩
      obtain ⟨p3, e3⟩ : ∃ p, (x == 65536) = p := ⟨_, rfl⟩
      have HP1 := Lib.hid e1
      have HP2 := Lib.hid e2
      have HP3 := Lib.hid e3
      have e00 : (x != x) = false := by simp
      clear hxv hx hxs hat
      rcases (show (p1 = true) ∨ (p1 = false ∧ p2 = true) ∨ (p1 = false ∧ p2 = false ∧ p3 = true) ∨ (p1 = false ∧ p2 = false ∧ p3 = false) by cases p1 <;> cases p2 <;> cases p3 <;> simp) with rfl | ⟨rfl, rfl⟩ | ⟨rfl, rfl, rfl⟩ | ⟨rfl, rfl, rfl⟩
      · have HNX := Lib.hid (new_at x (by rw [HNW.out, fnB, HP1.out, HP2.out, HP3.out]; rfl))
        go_upto_region 7 with (go_at_call 8; (with_reducible refine (HNX.out _).mono ?_); rintro e' w1 ⟨g, B, T, rfl, o1, hBx, b1⟩; have hs1 := b1.size; have hA1 := HAT.out.bel b1 hb; have c1 := hA1 k _ HXV.out; have HA1 := Lib.hid hA1; have HO1 := Lib.hid o1; have HBx := Lib.hid hBx; have HB1 := Lib.hid b1; clear o1 hBx b1 hA1)
        have hA := HA1.out
        refine wp_region_held_drew (S := fun w' => At (b) (kSz.map (Value.int .i64)) w') (by kernel_rfl) (hA.drew) (fun hS => ?_)
        have HOd := Lib.hid (HO1.out.fr (Fr.drew (Fr.refl w1 (fun _ => False))) (fun _ _ _ h => h))
        have hbd : b < w1.drew.heap.size := Nat.lt_of_lt_of_le hb hs1
        have hd0 : w1.drew.heap.size = w1.heap.size := rfl
        have HBd := Lib.hid HB1.out.drew
        generalize w1.drew = g0 at hS HOd hbd hd0 HBd ⊢
        (refine wpAnyH_take (i := 0) (oi := { dst := some 58, op := Op.move (Operand.tmp 4), type := 24, pos := "outright.go:100", after := #[], guard := none }) (v := ?_) rfl (by kernel_rfl) (by kernel_rfl) (by kernel_rfl) (fun _ _ _ h => h) (Or.inl ⟨by rfl, ?_⟩) hS ?_; rotate_left; focus (intro w' s0; go_simp <;> try with_reducible rfl))
        try simp only [Act.put, List.setIfInBounds_toArray, List.set_cons_zero, List.set_cons_succ]
        (refine wpAnyH_take (i := 1) (oi := { dst := some 59, op := Op.binOp BinOp.eql 24 (Operand.tmp 58) (Operand.const (Value.int IntKind.i64 0)) 24, type := 4, pos := "outright.go:100", after := #[{ on := 0, ground := Ground.data }], guard := none }) (v := ?_) rfl (by kernel_rfl) (by kernel_rfl) (by kernel_rfl) (fun _ _ _ h => h) (Or.inl ⟨by rfl, ?_⟩) hS ?_; rotate_left; focus (intro w' s0; go_simp <;> try with_reducible rfl))
        try simp only [Act.put, List.setIfInBounds_toArray, List.set_cons_zero, List.set_cons_succ]
        (refine wpAnyH_take (i := 2) (oi := { dst := some 60, op := Op.move (Operand.tmp 5), type := 4, pos := "outright.go:100", after := #[], guard := none }) (v := ?_) rfl (by kernel_rfl) (by kernel_rfl) (by kernel_rfl) (fun _ _ _ h => h) (Or.inl ⟨by rfl, ?_⟩) hS ?_; rotate_left; focus (intro w' s0; go_simp <;> try with_reducible rfl))
        try simp only [Act.put, List.setIfInBounds_toArray, List.set_cons_zero, List.set_cons_succ]
        (refine wpAnyH_take (i := 3) (oi := { dst := some 61, op := Op.binOp BinOp.neq 4 (Operand.tmp 59) (Operand.tmp 60) 4, type := 4, pos := "outright.go:100", after := #[{ on := 1, ground := Ground.data }, { on := 2, ground := Ground.data }], guard := none }) (v := ?_) rfl (by kernel_rfl) (by kernel_rfl) (by kernel_rfl) (fun _ _ _ h => h) (Or.inl ⟨by rfl, ?_⟩) hS ?_; rotate_left; focus (intro w' s0; go_simp <;> try with_reducible rfl))
        try simp only [Act.put, List.setIfInBounds_toArray, List.set_cons_zero, List.set_cons_succ]
        (refine wpAnyH_take (i := 4) (oi := { dst := some 62, op := Op.move (Operand.tmp 61), type := 4, pos := "outright.go:100", after := #[{ on := 3, ground := Ground.data }], guard := none }) (v := ?_) rfl (by kernel_rfl) (by kernel_rfl) (by kernel_rfl) (fun _ _ _ h => h) (Or.inl ⟨by rfl, ?_⟩) hS ?_; rotate_left; focus (intro w' s0; go_simp <;> try with_reducible rfl))
        try simp only [Act.put, List.setIfInBounds_toArray, List.set_cons_zero, List.set_cons_succ]
        (refine wpAnyH_take (i := 5) (oi := { dst := some 63, op := Op.move (Operand.tmp 5), type := 4, pos := "outright.go:100", after := #[{ on := 4, ground := Ground.guard }], guard := some (4, false) }) (v := ?_) rfl (by kernel_rfl) (by kernel_rfl) (by kernel_rfl) (fun _ _ _ h => h) (Or.inl ⟨by rfl, ?_⟩) hS ?_; rotate_left; focus (intro w' s0; go_simp <;> try with_reducible rfl))
        try simp only [Act.put, List.setIfInBounds_toArray, List.set_cons_zero, List.set_cons_succ]
        (refine wpAnyH_take (i := 6) (oi := { dst := some 64, op := Op.unOp UnOp.not 4 (Operand.tmp 63), type := 4, pos := "outright.go:100", after := #[{ on := 5, ground := Ground.data }, { on := 4, ground := Ground.guard }], guard := some (4, false) }) (v := ?_) rfl (by kernel_rfl) (by kernel_rfl) (by kernel_rfl) (fun _ _ _ h => h) (Or.inl ⟨by rfl, ?_⟩) hS ?_; rotate_left; focus (intro w' s0; go_simp <;> try with_reducible rfl))
        try simp only [Act.put, List.setIfInBounds_toArray, List.set_cons_zero, List.set_cons_succ]
        (refine wpAnyH_take (i := 7) (oi := { dst := some 65, op := Op.move (Operand.tmp 64), type := 4, pos := "outright.go:100", after := #[{ on := 6, ground := Ground.data }, { on := 4, ground := Ground.chain }, { on := 4, ground := Ground.guard }], guard := some (4, false) }) (v := ?_) rfl (by kernel_rfl) (by kernel_rfl) (by kernel_rfl) (fun _ _ _ h => h) (Or.inl ⟨by rfl, ?_⟩) hS ?_; rotate_left; focus (intro w' s0; go_simp <;> try with_reducible rfl))
        try simp only [Act.put, List.setIfInBounds_toArray, List.set_cons_zero, List.set_cons_succ]
        (refine wpAnyH_take (i := 8) (oi := { dst := some 66, op := Op.move (Operand.tmp 4), type := 24, pos := "outright.go:100", after := #[{ on := 7, ground := Ground.guard }], guard := some (7, true) }) (v := undef) rfl (by kernel_rfl) (by kernel_rfl) (by kernel_rfl) (fun _ _ _ h => h) (Or.inr ⟨by rfl, rfl⟩) hS ?_)
        try simp only [Act.put, List.setIfInBounds_toArray, List.set_cons_zero, List.set_cons_succ]
        (refine wpAnyH_take (i := 9) (oi := { dst := some 67, op := Op.binOp BinOp.neq 24 (Operand.tmp 66) (Operand.const (Value.int IntKind.i64 3)) 24, type := 4, pos := "outright.go:100", after := #[{ on := 8, ground := Ground.data }, { on := 7, ground := Ground.guard }], guard := some (7, true) }) (v := undef) rfl (by kernel_rfl) (by kernel_rfl) (by kernel_rfl) (fun _ _ _ h => h) (Or.inr ⟨by rfl, rfl⟩) hS ?_)
        try simp only [Act.put, List.setIfInBounds_toArray, List.set_cons_zero, List.set_cons_succ]
        (refine wpAnyH_take (i := 10) (oi := { dst := some 68, op := Op.move (Operand.tmp 67), type := 4, pos := "outright.go:100", after := #[{ on := 9, ground := Ground.data }, { on := 7, ground := Ground.chain }, { on := 7, ground := Ground.guard }], guard := some (7, true) }) (v := undef) rfl (by kernel_rfl) (by kernel_rfl) (by kernel_rfl) (fun _ _ _ h => h) (Or.inr ⟨by rfl, rfl⟩) hS ?_)
        try simp only [Act.put, List.setIfInBounds_toArray, List.set_cons_zero, List.set_cons_succ]
        (refine wpAnyH_take (i := 11) (oi := { dst := some 69, op := Op.move (Operand.tmp 3), type := 23, pos := "outright.go:100", after := #[{ on := 10, ground := Ground.guard }], guard := some (10, false) }) (v := undef) rfl (by kernel_rfl) (by kernel_rfl) (by kernel_rfl) (fun _ _ _ h => h) (Or.inr ⟨by rfl, rfl⟩) hS ?_)
        try simp only [Act.put, List.setIfInBounds_toArray, List.set_cons_zero, List.set_cons_succ]
        (refine wpAnyH_take (i := 12) (oi := { dst := some 70, op := Op.binOp BinOp.neq 23 (Operand.tmp 69) (Operand.const (Value.pointer none)) 23, type := 4, pos := "outright.go:100", after := #[{ on := 11, ground := Ground.data }, { on := 10, ground := Ground.guard }], guard := some (10, false) }) (v := undef) rfl (by kernel_rfl) (by kernel_rfl) (by kernel_rfl) (fun _ _ _ h => h) (Or.inr ⟨by rfl, rfl⟩) hS ?_)
        try simp only [Act.put, List.setIfInBounds_toArray, List.set_cons_zero, List.set_cons_succ]
        (refine wpAnyH_take (i := 13) (oi := { dst := some 71, op := Op.pick (Operand.tmp 68) (Operand.const (Value.bool true)) (Operand.tmp 70), type := 4, pos := "outright.go:100", after := #[{ on := 10, ground := Ground.data }, { on := 12, ground := Ground.data }, { on := 7, ground := Ground.guard }], guard := some (7, true) }) (v := undef) rfl (by kernel_rfl) (by kernel_rfl) (by kernel_rfl) (fun _ _ _ h => h) (Or.inr ⟨by rfl, rfl⟩) hS ?_)
        try simp only [Act.put, List.setIfInBounds_toArray, List.set_cons_zero, List.set_cons_succ]
        (refine wpAnyH_take (i := 14) (oi := { dst := some 72, op := Op.pick (Operand.tmp 65) (Operand.tmp 71) (Operand.const (Value.bool false)), type := 4, pos := "outright.go:100", after := #[{ on := 7, ground := Ground.data }, { on := 13, ground := Ground.data }, { on := 4, ground := Ground.guard }], guard := some (4, false) }) (v := ?_) rfl (by kernel_rfl) (by kernel_rfl) (by kernel_rfl) (fun _ _ _ h => h) (Or.inl ⟨by rfl, ?_⟩) hS ?_; rotate_left; focus (intro w' s0; go_simp <;> try with_reducible rfl))
        try simp only [Act.put, List.setIfInBounds_toArray, List.set_cons_zero, List.set_cons_succ]
        (refine wpAnyH_take (i := 15) (oi := { dst := some 73, op := Op.pick (Operand.tmp 62) (Operand.const (Value.bool true)) (Operand.tmp 72), type := 4, pos := "outright.go:100", after := #[{ on := 4, ground := Ground.data }, { on := 14, ground := Ground.data }], guard := none }) (v := ?_) rfl (by kernel_rfl) (by kernel_rfl) (by kernel_rfl) (fun _ _ _ h => h) (Or.inl ⟨by rfl, ?_⟩) hS ?_; rotate_left; focus (intro w' s0; go_simp <;> try with_reducible rfl))
        try simp only [Act.put, List.setIfInBounds_toArray, List.set_cons_zero, List.set_cons_succ]
        (refine wpAnyH_take (i := 16) (oi := { dst := some 74, op := Op.move (Operand.tmp 73), type := 4, pos := "outright.go:100", after := #[{ on := 15, ground := Ground.data }, { on := 10, ground := Ground.chain }], guard := none }) (v := ?_) rfl (by kernel_rfl) (by kernel_rfl) (by kernel_rfl) (fun _ _ _ h => h) (Or.inl ⟨by rfl, ?_⟩) hS ?_; rotate_left; focus (intro w' s0; go_simp <;> try with_reducible rfl))
        try simp only [Act.put, List.setIfInBounds_toArray, List.set_cons_zero, List.set_cons_succ]
        (refine wpAnyH_take (i := 17) (oi := { dst := some 75, op := Op.move (Operand.tmp 5), type := 4, pos := "outright.go:100", after := #[{ on := 16, ground := Ground.guard }], guard := some (16, false) }) (v := ?_) rfl (by kernel_rfl) (by kernel_rfl) (by kernel_rfl) (fun _ _ _ h => h) (Or.inl ⟨by rfl, ?_⟩) hS ?_; rotate_left; focus (intro w' s0; go_simp <;> try with_reducible rfl))
        try simp only [Act.put, List.setIfInBounds_toArray, List.set_cons_zero, List.set_cons_succ]
        (refine wpAnyH_take (i := 18) (oi := { dst := some 76, op := Op.move (Operand.tmp 75), type := 4, pos := "outright.go:100", after := #[{ on := 17, ground := Ground.data }, { on := 16, ground := Ground.chain }, { on := 16, ground := Ground.guard }], guard := some (16, false) }) (v := ?_) rfl (by kernel_rfl) (by kernel_rfl) (by kernel_rfl) (fun _ _ _ h => h) (Or.inl ⟨by rfl, ?_⟩) hS ?_; rotate_left; focus (intro w' s0; go_simp <;> try with_reducible rfl))
        try simp only [Act.put, List.setIfInBounds_toArray, List.set_cons_zero, List.set_cons_succ]
        (refine wpAnyH_take (i := 19) (oi := { dst := some 77, op := Op.move (Operand.tmp 3), type := 23, pos := "outright.go:100", after := #[{ on := 18, ground := Ground.guard }], guard := some (18, true) }) (v := ?_) rfl (by kernel_rfl) (by kernel_rfl) (by kernel_rfl) (fun _ _ _ h => h) (Or.inl ⟨by rfl, ?_⟩) hS ?_; rotate_left; focus (intro w' s0; go_simp <;> try with_reducible rfl))
        try simp only [Act.put, List.setIfInBounds_toArray, List.set_cons_zero, List.set_cons_succ]
        (refine wpAnyH_take (i := 20) (oi := { dst := some 78, op := Op.binOp BinOp.eql 23 (Operand.tmp 77) (Operand.const (Value.pointer none)) 23, type := 4, pos := "outright.go:100", after := #[{ on := 19, ground := Ground.data }, { on := 18, ground := Ground.guard }], guard := some (18, true) }) (v := ?_) rfl (by kernel_rfl) (by kernel_rfl) (by kernel_rfl) (fun _ _ _ h => h) (Or.inl ⟨by rfl, ?_⟩) hS ?_; rotate_left; focus (intro w' s0; go_simp <;> try with_reducible rfl))
        try simp only [Act.put, List.setIfInBounds_toArray, List.set_cons_zero, List.set_cons_succ]
        (refine wpAnyH_take (i := 21) (oi := { dst := some 79, op := Op.move (Operand.tmp 78), type := 4, pos := "outright.go:100", after := #[{ on := 20, ground := Ground.data }, { on := 18, ground := Ground.chain }, { on := 18, ground := Ground.guard }], guard := some (18, true) }) (v := ?_) rfl (by kernel_rfl) (by kernel_rfl) (by kernel_rfl) (fun _ _ _ h => h) (Or.inl ⟨by rfl, ?_⟩) hS ?_; rotate_left; focus (intro w' s0; go_simp <;> try with_reducible rfl))
        try simp only [Act.put, List.setIfInBounds_toArray, List.set_cons_zero, List.set_cons_succ]
        (refine wpAnyH_take (i := 22) (oi := { dst := some 80, op := Op.move (Operand.tmp 3), type := 23, pos := "outright.go:100", after := #[{ on := 21, ground := Ground.guard }], guard := some (21, false) }) (v := ?_) rfl (by kernel_rfl) (by kernel_rfl) (by kernel_rfl) (fun _ _ _ h => h) (Or.inl ⟨by rfl, ?_⟩) hS ?_; rotate_left; focus (intro w' s0; go_simp <;> try with_reducible rfl))
        try simp only [Act.put, List.setIfInBounds_toArray, List.set_cons_zero, List.set_cons_succ]
        (refine wpAnyH_take (i := 24) (oi := { dst := some 82, op := Op.move (Operand.tmp 1), type := 37, pos := "outright.go:100", after := #[{ on := 21, ground := Ground.guard }], guard := some (21, false) }) (v := ?_) rfl (by kernel_rfl) (by kernel_rfl) (by kernel_rfl) (fun _ _ _ h => h) (Or.inl ⟨by rfl, ?_⟩) hS ?_; rotate_left; focus (intro w' s0; go_simp <;> try with_reducible rfl))
        try simp only [Act.put, List.setIfInBounds_toArray, List.set_cons_zero, List.set_cons_succ]
        (refine wpAnyH_take (i := 25) (oi := { dst := some 83, op := Op.move (Operand.tmp 2), type := 3, pos := "outright.go:100", after := #[{ on := 21, ground := Ground.guard }], guard := some (21, false) }) (v := ?_) rfl (by kernel_rfl) (by kernel_rfl) (by kernel_rfl) (fun _ _ _ h => h) (Or.inl ⟨by rfl, ?_⟩) hS ?_; rotate_left; focus (intro w' s0; go_simp <;> try with_reducible rfl))
        try simp only [Act.put, List.setIfInBounds_toArray, List.set_cons_zero, List.set_cons_succ]
        (refine wpAnyH_take (i := 26) (oi := { dst := some 84, op := Op.indexAddr 37 (Operand.tmp 82) (Operand.tmp 83), type := 0, pos := "outright.go:100", after := #[{ on := 24, ground := Ground.data }, { on := 25, ground := Ground.data }, { on := 21, ground := Ground.guard }], guard := some (21, false) }) (v := ?_) rfl (by kernel_rfl) (by kernel_rfl) (by kernel_rfl) (fun _ _ _ h => h) (Or.inl ⟨by rfl, ?_⟩) hS ?_; rotate_left; focus (intro w' s0; go_simp <;> try with_reducible rfl))
        try simp only [Act.put, List.setIfInBounds_toArray, List.set_cons_zero, List.set_cons_succ]
        (refine wpAnyH_take (i := 27) (oi := { dst := some 85, op := Op.load 3 (Operand.tmp 84), type := 3, pos := "outright.go:100", after := #[{ on := 26, ground := Ground.data }, { on := 21, ground := Ground.guard }], guard := some (21, false) }) (v := ?_) rfl (by kernel_rfl) (by kernel_rfl) (by kernel_rfl) (fun _ _ _ h => h) (Or.inl ⟨by rfl, ?_⟩) hS ?_; rotate_left; focus (intro w' s0; have c_k := s0 k _ HXV.out; go_simp <;> try with_reducible rfl))
        try simp only [Act.put, List.setIfInBounds_toArray, List.set_cons_zero, List.set_cons_succ]
        refine wpAnyH_ready (rs := [23]) (by kernel_rfl) (by simp) ?_
        refine AllReadyH.cons (o := { dst := some 81, op := Op.call { callee := Callee.value (Operand.func 12), args := #[Operand.tmp 80], argTypes := #[23] }, type := 3, pos := "outright.go:100", after := #[{ on := 22, ground := Ground.data }, { on := 21, ground := Ground.chain }, { on := 21, ground := Ground.guard }], guard := some (21, false) }) rfl (fun K hK => ?_) AllReadyH.nil
        refine take_if (by rfl) ?_
        go_simp
        (with_reducible refine (clen_at HOd.out x HBx.out).mono ?_)
        rintro e' w2 ⟨rfl, b2⟩
        have hS2 : At (b) (kSz.map (Value.int .i64)) w2 := hS.bel b2 hbd
        have HB2 := Lib.hid b2
        have hw2 := b2.size
        clear b2
        refine hK.out _ _ hS2 (fun hS => ?_)
        clear hK K hS2
        try simp only [Act.put, List.setIfInBounds_toArray, List.set_cons_zero, List.set_cons_succ]
        (refine wpAnyH_take (i := 28) (oi := { dst := some 86, op := Op.binOp BinOp.neq 3 (Operand.tmp 81) (Operand.tmp 85) 3, type := 4, pos := "outright.go:100", after := #[{ on := 23, ground := Ground.data }, { on := 27, ground := Ground.data }, { on := 21, ground := Ground.guard }], guard := some (21, false) }) (v := ?_) rfl (by kernel_rfl) (by kernel_rfl) (by kernel_rfl) (fun _ _ _ h => h) (Or.inl ⟨by rfl, ?_⟩) hS ?_; rotate_left; focus (intro w' s0; go_simp <;> try with_reducible rfl))
        try simp only [Act.put, List.setIfInBounds_toArray, List.set_cons_zero, List.set_cons_succ]
        (refine wpAnyH_take (i := 29) (oi := { dst := some 87, op := Op.pick (Operand.tmp 79) (Operand.const (Value.bool true)) (Operand.tmp 86), type := 4, pos := "outright.go:100", after := #[{ on := 21, ground := Ground.data }, { on := 28, ground := Ground.data }, { on := 18, ground := Ground.guard }], guard := some (18, true) }) (v := ?_) rfl (by kernel_rfl) (by kernel_rfl) (by kernel_rfl) (fun _ _ _ h => h) (Or.inl ⟨by rfl, ?_⟩) hS ?_; rotate_left; focus (intro w' s0; go_simp <;> try with_reducible rfl))
        try simp only [Act.put, List.setIfInBounds_toArray, List.set_cons_zero, List.set_cons_succ]
        (refine wpAnyH_take (i := 30) (oi := { dst := some 88, op := Op.pick (Operand.tmp 76) (Operand.tmp 87) (Operand.const (Value.bool false)), type := 4, pos := "outright.go:100", after := #[{ on := 18, ground := Ground.data }, { on := 29, ground := Ground.data }, { on := 16, ground := Ground.guard }], guard := some (16, false) }) (v := ?_) rfl (by kernel_rfl) (by kernel_rfl) (by kernel_rfl) (fun _ _ _ h => h) (Or.inl ⟨by rfl, ?_⟩) hS ?_; rotate_left; focus (intro w' s0; go_simp <;> try with_reducible rfl))
        try simp only [Act.put, List.setIfInBounds_toArray, List.set_cons_zero, List.set_cons_succ]
        (refine wpAnyH_take (i := 31) (oi := { dst := some 89, op := Op.pick (Operand.tmp 74) (Operand.const (Value.bool true)) (Operand.tmp 88), type := 4, pos := "outright.go:100", after := #[{ on := 16, ground := Ground.data }, { on := 30, ground := Ground.data }], guard := none }) (v := ?_) rfl (by kernel_rfl) (by kernel_rfl) (by kernel_rfl) (fun _ _ _ h => h) (Or.inl ⟨by rfl, ?_⟩) hS ?_; rotate_left; focus (intro w' s0; go_simp <;> try with_reducible rfl))
        try simp only [Act.put, List.setIfInBounds_toArray, List.set_cons_zero, List.set_cons_succ]
        refine wpAnyH_done (by kernel_rfl) ?_ _
        go_wp2
        go_roundw
        case rel => exact ⟨k + 1, by omega, by go_num, hS, HBL.out.trans ((HBd.out.trans (HB2.out.mono (by omega))).mono hWs)⟩
        case measure => simp [intOf]; omega
      · have HNX := Lib.hid (new_at x (by rw [HNW.out, fnB, HP1.out, HP2.out, HP3.out]; rfl))
        go_upto_region 7 with (go_at_call 8; (with_reducible refine (HNX.out _).mono ?_); rintro e' w1 ⟨g, B, T, rfl, o1, hBx, b1⟩; have hs1 := b1.size; have hA1 := HAT.out.bel b1 hb; have c1 := hA1 k _ HXV.out; have HA1 := Lib.hid hA1; have HO1 := Lib.hid o1; have HBx := Lib.hid hBx; have HB1 := Lib.hid b1; clear o1 hBx b1 hA1)
        have hA := HA1.out
        refine wp_region_held_drew (S := fun w' => At (b) (kSz.map (Value.int .i64)) w') (by kernel_rfl) (hA.drew) (fun hS => ?_)
        have HOd := Lib.hid (HO1.out.fr (Fr.drew (Fr.refl w1 (fun _ => False))) (fun _ _ _ h => h))
        have hbd : b < w1.drew.heap.size := Nat.lt_of_lt_of_le hb hs1
        have hd0 : w1.drew.heap.size = w1.heap.size := rfl
        have HBd := Lib.hid HB1.out.drew
        generalize w1.drew = g0 at hS HOd hbd hd0 HBd ⊢
        (refine wpAnyH_take (i := 0) (oi := { dst := some 58, op := Op.move (Operand.tmp 4), type := 24, pos := "outright.go:100", after := #[], guard := none }) (v := ?_) rfl (by kernel_rfl) (by kernel_rfl) (by kernel_rfl) (fun _ _ _ h => h) (Or.inl ⟨by rfl, ?_⟩) hS ?_; rotate_left; focus (intro w' s0; go_simp <;> try with_reducible rfl))
        try simp only [Act.put, List.setIfInBounds_toArray, List.set_cons_zero, List.set_cons_succ]
        (refine wpAnyH_take (i := 1) (oi := { dst := some 59, op := Op.binOp BinOp.eql 24 (Operand.tmp 58) (Operand.const (Value.int IntKind.i64 0)) 24, type := 4, pos := "outright.go:100", after := #[{ on := 0, ground := Ground.data }], guard := none }) (v := ?_) rfl (by kernel_rfl) (by kernel_rfl) (by kernel_rfl) (fun _ _ _ h => h) (Or.inl ⟨by rfl, ?_⟩) hS ?_; rotate_left; focus (intro w' s0; go_simp <;> try with_reducible rfl))
        try simp only [Act.put, List.setIfInBounds_toArray, List.set_cons_zero, List.set_cons_succ]
        (refine wpAnyH_take (i := 2) (oi := { dst := some 60, op := Op.move (Operand.tmp 5), type := 4, pos := "outright.go:100", after := #[], guard := none }) (v := ?_) rfl (by kernel_rfl) (by kernel_rfl) (by kernel_rfl) (fun _ _ _ h => h) (Or.inl ⟨by rfl, ?_⟩) hS ?_; rotate_left; focus (intro w' s0; go_simp <;> try with_reducible rfl))
        try simp only [Act.put, List.setIfInBounds_toArray, List.set_cons_zero, List.set_cons_succ]
        (refine wpAnyH_take (i := 3) (oi := { dst := some 61, op := Op.binOp BinOp.neq 4 (Operand.tmp 59) (Operand.tmp 60) 4, type := 4, pos := "outright.go:100", after := #[{ on := 1, ground := Ground.data }, { on := 2, ground := Ground.data }], guard := none }) (v := ?_) rfl (by kernel_rfl) (by kernel_rfl) (by kernel_rfl) (fun _ _ _ h => h) (Or.inl ⟨by rfl, ?_⟩) hS ?_; rotate_left; focus (intro w' s0; go_simp <;> try with_reducible rfl))
        try simp only [Act.put, List.setIfInBounds_toArray, List.set_cons_zero, List.set_cons_succ]
        (refine wpAnyH_take (i := 4) (oi := { dst := some 62, op := Op.move (Operand.tmp 61), type := 4, pos := "outright.go:100", after := #[{ on := 3, ground := Ground.data }], guard := none }) (v := ?_) rfl (by kernel_rfl) (by kernel_rfl) (by kernel_rfl) (fun _ _ _ h => h) (Or.inl ⟨by rfl, ?_⟩) hS ?_; rotate_left; focus (intro w' s0; go_simp <;> try with_reducible rfl))
        try simp only [Act.put, List.setIfInBounds_toArray, List.set_cons_zero, List.set_cons_succ]
        (refine wpAnyH_take (i := 5) (oi := { dst := some 63, op := Op.move (Operand.tmp 5), type := 4, pos := "outright.go:100", after := #[{ on := 4, ground := Ground.guard }], guard := some (4, false) }) (v := ?_) rfl (by kernel_rfl) (by kernel_rfl) (by kernel_rfl) (fun _ _ _ h => h) (Or.inl ⟨by rfl, ?_⟩) hS ?_; rotate_left; focus (intro w' s0; go_simp <;> try with_reducible rfl))
        try simp only [Act.put, List.setIfInBounds_toArray, List.set_cons_zero, List.set_cons_succ]
        (refine wpAnyH_take (i := 6) (oi := { dst := some 64, op := Op.unOp UnOp.not 4 (Operand.tmp 63), type := 4, pos := "outright.go:100", after := #[{ on := 5, ground := Ground.data }, { on := 4, ground := Ground.guard }], guard := some (4, false) }) (v := ?_) rfl (by kernel_rfl) (by kernel_rfl) (by kernel_rfl) (fun _ _ _ h => h) (Or.inl ⟨by rfl, ?_⟩) hS ?_; rotate_left; focus (intro w' s0; go_simp <;> try with_reducible rfl))
        try simp only [Act.put, List.setIfInBounds_toArray, List.set_cons_zero, List.set_cons_succ]
        (refine wpAnyH_take (i := 7) (oi := { dst := some 65, op := Op.move (Operand.tmp 64), type := 4, pos := "outright.go:100", after := #[{ on := 6, ground := Ground.data }, { on := 4, ground := Ground.chain }, { on := 4, ground := Ground.guard }], guard := some (4, false) }) (v := ?_) rfl (by kernel_rfl) (by kernel_rfl) (by kernel_rfl) (fun _ _ _ h => h) (Or.inl ⟨by rfl, ?_⟩) hS ?_; rotate_left; focus (intro w' s0; go_simp <;> try with_reducible rfl))
        try simp only [Act.put, List.setIfInBounds_toArray, List.set_cons_zero, List.set_cons_succ]
        (refine wpAnyH_take (i := 8) (oi := { dst := some 66, op := Op.move (Operand.tmp 4), type := 24, pos := "outright.go:100", after := #[{ on := 7, ground := Ground.guard }], guard := some (7, true) }) (v := undef) rfl (by kernel_rfl) (by kernel_rfl) (by kernel_rfl) (fun _ _ _ h => h) (Or.inr ⟨by rfl, rfl⟩) hS ?_)
        try simp only [Act.put, List.setIfInBounds_toArray, List.set_cons_zero, List.set_cons_succ]
        (refine wpAnyH_take (i := 9) (oi := { dst := some 67, op := Op.binOp BinOp.neq 24 (Operand.tmp 66) (Operand.const (Value.int IntKind.i64 3)) 24, type := 4, pos := "outright.go:100", after := #[{ on := 8, ground := Ground.data }, { on := 7, ground := Ground.guard }], guard := some (7, true) }) (v := undef) rfl (by kernel_rfl) (by kernel_rfl) (by kernel_rfl) (fun _ _ _ h => h) (Or.inr ⟨by rfl, rfl⟩) hS ?_)
        try simp only [Act.put, List.setIfInBounds_toArray, List.set_cons_zero, List.set_cons_succ]
        (refine wpAnyH_take (i := 10) (oi := { dst := some 68, op := Op.move (Operand.tmp 67), type := 4, pos := "outright.go:100", after := #[{ on := 9, ground := Ground.data }, { on := 7, ground := Ground.chain }, { on := 7, ground := Ground.guard }], guard := some (7, true) }) (v := undef) rfl (by kernel_rfl) (by kernel_rfl) (by kernel_rfl) (fun _ _ _ h => h) (Or.inr ⟨by rfl, rfl⟩) hS ?_)
        try simp only [Act.put, List.setIfInBounds_toArray, List.set_cons_zero, List.set_cons_succ]
        (refine wpAnyH_take (i := 11) (oi := { dst := some 69, op := Op.move (Operand.tmp 3), type := 23, pos := "outright.go:100", after := #[{ on := 10, ground := Ground.guard }], guard := some (10, false) }) (v := undef) rfl (by kernel_rfl) (by kernel_rfl) (by kernel_rfl) (fun _ _ _ h => h) (Or.inr ⟨by rfl, rfl⟩) hS ?_)
        try simp only [Act.put, List.setIfInBounds_toArray, List.set_cons_zero, List.set_cons_succ]
        (refine wpAnyH_take (i := 12) (oi := { dst := some 70, op := Op.binOp BinOp.neq 23 (Operand.tmp 69) (Operand.const (Value.pointer none)) 23, type := 4, pos := "outright.go:100", after := #[{ on := 11, ground := Ground.data }, { on := 10, ground := Ground.guard }], guard := some (10, false) }) (v := undef) rfl (by kernel_rfl) (by kernel_rfl) (by kernel_rfl) (fun _ _ _ h => h) (Or.inr ⟨by rfl, rfl⟩) hS ?_)
        try simp only [Act.put, List.setIfInBounds_toArray, List.set_cons_zero, List.set_cons_succ]
        (refine wpAnyH_take (i := 13) (oi := { dst := some 71, op := Op.pick (Operand.tmp 68) (Operand.const (Value.bool true)) (Operand.tmp 70), type := 4, pos := "outright.go:100", after := #[{ on := 10, ground := Ground.data }, { on := 12, ground := Ground.data }, { on := 7, ground := Ground.guard }], guard := some (7, true) }) (v := undef) rfl (by kernel_rfl) (by kernel_rfl) (by kernel_rfl) (fun _ _ _ h => h) (Or.inr ⟨by rfl, rfl⟩) hS ?_)
        try simp only [Act.put, List.setIfInBounds_toArray, List.set_cons_zero, List.set_cons_succ]
        (refine wpAnyH_take (i := 14) (oi := { dst := some 72, op := Op.pick (Operand.tmp 65) (Operand.tmp 71) (Operand.const (Value.bool false)), type := 4, pos := "outright.go:100", after := #[{ on := 7, ground := Ground.data }, { on := 13, ground := Ground.data }, { on := 4, ground := Ground.guard }], guard := some (4, false) }) (v := ?_) rfl (by kernel_rfl) (by kernel_rfl) (by kernel_rfl) (fun _ _ _ h => h) (Or.inl ⟨by rfl, ?_⟩) hS ?_; rotate_left; focus (intro w' s0; go_simp <;> try with_reducible rfl))
        try simp only [Act.put, List.setIfInBounds_toArray, List.set_cons_zero, List.set_cons_succ]
        (refine wpAnyH_take (i := 15) (oi := { dst := some 73, op := Op.pick (Operand.tmp 62) (Operand.const (Value.bool true)) (Operand.tmp 72), type := 4, pos := "outright.go:100", after := #[{ on := 4, ground := Ground.data }, { on := 14, ground := Ground.data }], guard := none }) (v := ?_) rfl (by kernel_rfl) (by kernel_rfl) (by kernel_rfl) (fun _ _ _ h => h) (Or.inl ⟨by rfl, ?_⟩) hS ?_; rotate_left; focus (intro w' s0; go_simp <;> try with_reducible rfl))
        try simp only [Act.put, List.setIfInBounds_toArray, List.set_cons_zero, List.set_cons_succ]
        (refine wpAnyH_take (i := 16) (oi := { dst := some 74, op := Op.move (Operand.tmp 73), type := 4, pos := "outright.go:100", after := #[{ on := 15, ground := Ground.data }, { on := 10, ground := Ground.chain }], guard := none }) (v := ?_) rfl (by kernel_rfl) (by kernel_rfl) (by kernel_rfl) (fun _ _ _ h => h) (Or.inl ⟨by rfl, ?_⟩) hS ?_; rotate_left; focus (intro w' s0; go_simp <;> try with_reducible rfl))
        try simp only [Act.put, List.setIfInBounds_toArray, List.set_cons_zero, List.set_cons_succ]
        (refine wpAnyH_take (i := 17) (oi := { dst := some 75, op := Op.move (Operand.tmp 5), type := 4, pos := "outright.go:100", after := #[{ on := 16, ground := Ground.guard }], guard := some (16, false) }) (v := ?_) rfl (by kernel_rfl) (by kernel_rfl) (by kernel_rfl) (fun _ _ _ h => h) (Or.inl ⟨by rfl, ?_⟩) hS ?_; rotate_left; focus (intro w' s0; go_simp <;> try with_reducible rfl))
        try simp only [Act.put, List.setIfInBounds_toArray, List.set_cons_zero, List.set_cons_succ]
        (refine wpAnyH_take (i := 18) (oi := { dst := some 76, op := Op.move (Operand.tmp 75), type := 4, pos := "outright.go:100", after := #[{ on := 17, ground := Ground.data }, { on := 16, ground := Ground.chain }, { on := 16, ground := Ground.guard }], guard := some (16, false) }) (v := ?_) rfl (by kernel_rfl) (by kernel_rfl) (by kernel_rfl) (fun _ _ _ h => h) (Or.inl ⟨by rfl, ?_⟩) hS ?_; rotate_left; focus (intro w' s0; go_simp <;> try with_reducible rfl))
        try simp only [Act.put, List.setIfInBounds_toArray, List.set_cons_zero, List.set_cons_succ]
        (refine wpAnyH_take (i := 19) (oi := { dst := some 77, op := Op.move (Operand.tmp 3), type := 23, pos := "outright.go:100", after := #[{ on := 18, ground := Ground.guard }], guard := some (18, true) }) (v := ?_) rfl (by kernel_rfl) (by kernel_rfl) (by kernel_rfl) (fun _ _ _ h => h) (Or.inl ⟨by rfl, ?_⟩) hS ?_; rotate_left; focus (intro w' s0; go_simp <;> try with_reducible rfl))
        try simp only [Act.put, List.setIfInBounds_toArray, List.set_cons_zero, List.set_cons_succ]
        (refine wpAnyH_take (i := 20) (oi := { dst := some 78, op := Op.binOp BinOp.eql 23 (Operand.tmp 77) (Operand.const (Value.pointer none)) 23, type := 4, pos := "outright.go:100", after := #[{ on := 19, ground := Ground.data }, { on := 18, ground := Ground.guard }], guard := some (18, true) }) (v := ?_) rfl (by kernel_rfl) (by kernel_rfl) (by kernel_rfl) (fun _ _ _ h => h) (Or.inl ⟨by rfl, ?_⟩) hS ?_; rotate_left; focus (intro w' s0; go_simp <;> try with_reducible rfl))
        try simp only [Act.put, List.setIfInBounds_toArray, List.set_cons_zero, List.set_cons_succ]
        (refine wpAnyH_take (i := 21) (oi := { dst := some 79, op := Op.move (Operand.tmp 78), type := 4, pos := "outright.go:100", after := #[{ on := 20, ground := Ground.data }, { on := 18, ground := Ground.chain }, { on := 18, ground := Ground.guard }], guard := some (18, true) }) (v := ?_) rfl (by kernel_rfl) (by kernel_rfl) (by kernel_rfl) (fun _ _ _ h => h) (Or.inl ⟨by rfl, ?_⟩) hS ?_; rotate_left; focus (intro w' s0; go_simp <;> try with_reducible rfl))
        try simp only [Act.put, List.setIfInBounds_toArray, List.set_cons_zero, List.set_cons_succ]
        (refine wpAnyH_take (i := 22) (oi := { dst := some 80, op := Op.move (Operand.tmp 3), type := 23, pos := "outright.go:100", after := #[{ on := 21, ground := Ground.guard }], guard := some (21, false) }) (v := ?_) rfl (by kernel_rfl) (by kernel_rfl) (by kernel_rfl) (fun _ _ _ h => h) (Or.inl ⟨by rfl, ?_⟩) hS ?_; rotate_left; focus (intro w' s0; go_simp <;> try with_reducible rfl))
        try simp only [Act.put, List.setIfInBounds_toArray, List.set_cons_zero, List.set_cons_succ]
        (refine wpAnyH_take (i := 24) (oi := { dst := some 82, op := Op.move (Operand.tmp 1), type := 37, pos := "outright.go:100", after := #[{ on := 21, ground := Ground.guard }], guard := some (21, false) }) (v := ?_) rfl (by kernel_rfl) (by kernel_rfl) (by kernel_rfl) (fun _ _ _ h => h) (Or.inl ⟨by rfl, ?_⟩) hS ?_; rotate_left; focus (intro w' s0; go_simp <;> try with_reducible rfl))
        try simp only [Act.put, List.setIfInBounds_toArray, List.set_cons_zero, List.set_cons_succ]
        (refine wpAnyH_take (i := 25) (oi := { dst := some 83, op := Op.move (Operand.tmp 2), type := 3, pos := "outright.go:100", after := #[{ on := 21, ground := Ground.guard }], guard := some (21, false) }) (v := ?_) rfl (by kernel_rfl) (by kernel_rfl) (by kernel_rfl) (fun _ _ _ h => h) (Or.inl ⟨by rfl, ?_⟩) hS ?_; rotate_left; focus (intro w' s0; go_simp <;> try with_reducible rfl))
        try simp only [Act.put, List.setIfInBounds_toArray, List.set_cons_zero, List.set_cons_succ]
        (refine wpAnyH_take (i := 26) (oi := { dst := some 84, op := Op.indexAddr 37 (Operand.tmp 82) (Operand.tmp 83), type := 0, pos := "outright.go:100", after := #[{ on := 24, ground := Ground.data }, { on := 25, ground := Ground.data }, { on := 21, ground := Ground.guard }], guard := some (21, false) }) (v := ?_) rfl (by kernel_rfl) (by kernel_rfl) (by kernel_rfl) (fun _ _ _ h => h) (Or.inl ⟨by rfl, ?_⟩) hS ?_; rotate_left; focus (intro w' s0; go_simp <;> try with_reducible rfl))
        try simp only [Act.put, List.setIfInBounds_toArray, List.set_cons_zero, List.set_cons_succ]
        (refine wpAnyH_take (i := 27) (oi := { dst := some 85, op := Op.load 3 (Operand.tmp 84), type := 3, pos := "outright.go:100", after := #[{ on := 26, ground := Ground.data }, { on := 21, ground := Ground.guard }], guard := some (21, false) }) (v := ?_) rfl (by kernel_rfl) (by kernel_rfl) (by kernel_rfl) (fun _ _ _ h => h) (Or.inl ⟨by rfl, ?_⟩) hS ?_; rotate_left; focus (intro w' s0; have c_k := s0 k _ HXV.out; go_simp <;> try with_reducible rfl))
        try simp only [Act.put, List.setIfInBounds_toArray, List.set_cons_zero, List.set_cons_succ]
        refine wpAnyH_ready (rs := [23]) (by kernel_rfl) (by simp) ?_
        refine AllReadyH.cons (o := { dst := some 81, op := Op.call { callee := Callee.value (Operand.func 12), args := #[Operand.tmp 80], argTypes := #[23] }, type := 3, pos := "outright.go:100", after := #[{ on := 22, ground := Ground.data }, { on := 21, ground := Ground.chain }, { on := 21, ground := Ground.guard }], guard := some (21, false) }) rfl (fun K hK => ?_) AllReadyH.nil
        refine take_if (by rfl) ?_
        go_simp
        (with_reducible refine (clen_at HOd.out x HBx.out).mono ?_)
        rintro e' w2 ⟨rfl, b2⟩
        have hS2 : At (b) (kSz.map (Value.int .i64)) w2 := hS.bel b2 hbd
        have HB2 := Lib.hid b2
        have hw2 := b2.size
        clear b2
        refine hK.out _ _ hS2 (fun hS => ?_)
        clear hK K hS2
        try simp only [Act.put, List.setIfInBounds_toArray, List.set_cons_zero, List.set_cons_succ]
        (refine wpAnyH_take (i := 28) (oi := { dst := some 86, op := Op.binOp BinOp.neq 3 (Operand.tmp 81) (Operand.tmp 85) 3, type := 4, pos := "outright.go:100", after := #[{ on := 23, ground := Ground.data }, { on := 27, ground := Ground.data }, { on := 21, ground := Ground.guard }], guard := some (21, false) }) (v := ?_) rfl (by kernel_rfl) (by kernel_rfl) (by kernel_rfl) (fun _ _ _ h => h) (Or.inl ⟨by rfl, ?_⟩) hS ?_; rotate_left; focus (intro w' s0; go_simp <;> try with_reducible rfl))
        try simp only [Act.put, List.setIfInBounds_toArray, List.set_cons_zero, List.set_cons_succ]
        (refine wpAnyH_take (i := 29) (oi := { dst := some 87, op := Op.pick (Operand.tmp 79) (Operand.const (Value.bool true)) (Operand.tmp 86), type := 4, pos := "outright.go:100", after := #[{ on := 21, ground := Ground.data }, { on := 28, ground := Ground.data }, { on := 18, ground := Ground.guard }], guard := some (18, true) }) (v := ?_) rfl (by kernel_rfl) (by kernel_rfl) (by kernel_rfl) (fun _ _ _ h => h) (Or.inl ⟨by rfl, ?_⟩) hS ?_; rotate_left; focus (intro w' s0; go_simp <;> try with_reducible rfl))
        try simp only [Act.put, List.setIfInBounds_toArray, List.set_cons_zero, List.set_cons_succ]
        (refine wpAnyH_take (i := 30) (oi := { dst := some 88, op := Op.pick (Operand.tmp 76) (Operand.tmp 87) (Operand.const (Value.bool false)), type := 4, pos := "outright.go:100", after := #[{ on := 18, ground := Ground.data }, { on := 29, ground := Ground.data }, { on := 16, ground := Ground.guard }], guard := some (16, false) }) (v := ?_) rfl (by kernel_rfl) (by kernel_rfl) (by kernel_rfl) (fun _ _ _ h => h) (Or.inl ⟨by rfl, ?_⟩) hS ?_; rotate_left; focus (intro w' s0; go_simp <;> try with_reducible rfl))
        try simp only [Act.put, List.setIfInBounds_toArray, List.set_cons_zero, List.set_cons_succ]
        (refine wpAnyH_take (i := 31) (oi := { dst := some 89, op := Op.pick (Operand.tmp 74) (Operand.const (Value.bool true)) (Operand.tmp 88), type := 4, pos := "outright.go:100", after := #[{ on := 16, ground := Ground.data }, { on := 30, ground := Ground.data }], guard := none }) (v := ?_) rfl (by kernel_rfl) (by kernel_rfl) (by kernel_rfl) (fun _ _ _ h => h) (Or.inl ⟨by rfl, ?_⟩) hS ?_; rotate_left; focus (intro w' s0; go_simp <;> try with_reducible rfl))
        try simp only [Act.put, List.setIfInBounds_toArray, List.set_cons_zero, List.set_cons_succ]
        refine wpAnyH_done (by kernel_rfl) ?_ _
        go_wp2
        go_roundw
        case rel => exact ⟨k + 1, by omega, by go_num, hS, HBL.out.trans ((HBd.out.trans (HB2.out.mono (by omega))).mono hWs)⟩
        case measure => simp [intOf]; omega
      · have HNX := Lib.hid (new_at x (by rw [HNW.out, fnB, HP1.out, HP2.out, HP3.out]; rfl))
        go_upto_region 7 with (go_at_call 8; (with_reducible refine (HNX.out _).mono ?_); rintro e' w1 ⟨g, B, T, rfl, o1, hBx, b1⟩; have hs1 := b1.size; have hA1 := HAT.out.bel b1 hb; have c1 := hA1 k _ HXV.out; have HA1 := Lib.hid hA1; have HO1 := Lib.hid o1; have HBx := Lib.hid hBx; have HB1 := Lib.hid b1; clear o1 hBx b1 hA1)
        have hA := HA1.out
        refine wp_region_held_drew (S := fun w' => At (b) (kSz.map (Value.int .i64)) w') (by kernel_rfl) (hA.drew) (fun hS => ?_)
        have HOd := Lib.hid (HO1.out.fr (Fr.drew (Fr.refl w1 (fun _ => False))) (fun _ _ _ h => h))
        have hbd : b < w1.drew.heap.size := Nat.lt_of_lt_of_le hb hs1
        have hd0 : w1.drew.heap.size = w1.heap.size := rfl
        have HBd := Lib.hid HB1.out.drew
        generalize w1.drew = g0 at hS HOd hbd hd0 HBd ⊢
        (refine wpAnyH_take (i := 0) (oi := { dst := some 58, op := Op.move (Operand.tmp 4), type := 24, pos := "outright.go:100", after := #[], guard := none }) (v := ?_) rfl (by kernel_rfl) (by kernel_rfl) (by kernel_rfl) (fun _ _ _ h => h) (Or.inl ⟨by rfl, ?_⟩) hS ?_; rotate_left; focus (intro w' s0; go_simp <;> try with_reducible rfl))
        try simp only [Act.put, List.setIfInBounds_toArray, List.set_cons_zero, List.set_cons_succ]
        (refine wpAnyH_take (i := 1) (oi := { dst := some 59, op := Op.binOp BinOp.eql 24 (Operand.tmp 58) (Operand.const (Value.int IntKind.i64 0)) 24, type := 4, pos := "outright.go:100", after := #[{ on := 0, ground := Ground.data }], guard := none }) (v := ?_) rfl (by kernel_rfl) (by kernel_rfl) (by kernel_rfl) (fun _ _ _ h => h) (Or.inl ⟨by rfl, ?_⟩) hS ?_; rotate_left; focus (intro w' s0; go_simp <;> try with_reducible rfl))
        try simp only [Act.put, List.setIfInBounds_toArray, List.set_cons_zero, List.set_cons_succ]
        (refine wpAnyH_take (i := 2) (oi := { dst := some 60, op := Op.move (Operand.tmp 5), type := 4, pos := "outright.go:100", after := #[], guard := none }) (v := ?_) rfl (by kernel_rfl) (by kernel_rfl) (by kernel_rfl) (fun _ _ _ h => h) (Or.inl ⟨by rfl, ?_⟩) hS ?_; rotate_left; focus (intro w' s0; go_simp <;> try with_reducible rfl))
        try simp only [Act.put, List.setIfInBounds_toArray, List.set_cons_zero, List.set_cons_succ]
        (refine wpAnyH_take (i := 3) (oi := { dst := some 61, op := Op.binOp BinOp.neq 4 (Operand.tmp 59) (Operand.tmp 60) 4, type := 4, pos := "outright.go:100", after := #[{ on := 1, ground := Ground.data }, { on := 2, ground := Ground.data }], guard := none }) (v := ?_) rfl (by kernel_rfl) (by kernel_rfl) (by kernel_rfl) (fun _ _ _ h => h) (Or.inl ⟨by rfl, ?_⟩) hS ?_; rotate_left; focus (intro w' s0; go_simp <;> try with_reducible rfl))
        try simp only [Act.put, List.setIfInBounds_toArray, List.set_cons_zero, List.set_cons_succ]
        (refine wpAnyH_take (i := 4) (oi := { dst := some 62, op := Op.move (Operand.tmp 61), type := 4, pos := "outright.go:100", after := #[{ on := 3, ground := Ground.data }], guard := none }) (v := ?_) rfl (by kernel_rfl) (by kernel_rfl) (by kernel_rfl) (fun _ _ _ h => h) (Or.inl ⟨by rfl, ?_⟩) hS ?_; rotate_left; focus (intro w' s0; go_simp <;> try with_reducible rfl))
        try simp only [Act.put, List.setIfInBounds_toArray, List.set_cons_zero, List.set_cons_succ]
        (refine wpAnyH_take (i := 5) (oi := { dst := some 63, op := Op.move (Operand.tmp 5), type := 4, pos := "outright.go:100", after := #[{ on := 4, ground := Ground.guard }], guard := some (4, false) }) (v := ?_) rfl (by kernel_rfl) (by kernel_rfl) (by kernel_rfl) (fun _ _ _ h => h) (Or.inl ⟨by rfl, ?_⟩) hS ?_; rotate_left; focus (intro w' s0; go_simp <;> try with_reducible rfl))
        try simp only [Act.put, List.setIfInBounds_toArray, List.set_cons_zero, List.set_cons_succ]
        (refine wpAnyH_take (i := 6) (oi := { dst := some 64, op := Op.unOp UnOp.not 4 (Operand.tmp 63), type := 4, pos := "outright.go:100", after := #[{ on := 5, ground := Ground.data }, { on := 4, ground := Ground.guard }], guard := some (4, false) }) (v := ?_) rfl (by kernel_rfl) (by kernel_rfl) (by kernel_rfl) (fun _ _ _ h => h) (Or.inl ⟨by rfl, ?_⟩) hS ?_; rotate_left; focus (intro w' s0; go_simp <;> try with_reducible rfl))
        try simp only [Act.put, List.setIfInBounds_toArray, List.set_cons_zero, List.set_cons_succ]
        (refine wpAnyH_take (i := 7) (oi := { dst := some 65, op := Op.move (Operand.tmp 64), type := 4, pos := "outright.go:100", after := #[{ on := 6, ground := Ground.data }, { on := 4, ground := Ground.chain }, { on := 4, ground := Ground.guard }], guard := some (4, false) }) (v := ?_) rfl (by kernel_rfl) (by kernel_rfl) (by kernel_rfl) (fun _ _ _ h => h) (Or.inl ⟨by rfl, ?_⟩) hS ?_; rotate_left; focus (intro w' s0; go_simp <;> try with_reducible rfl))
        try simp only [Act.put, List.setIfInBounds_toArray, List.set_cons_zero, List.set_cons_succ]
        (refine wpAnyH_take (i := 8) (oi := { dst := some 66, op := Op.move (Operand.tmp 4), type := 24, pos := "outright.go:100", after := #[{ on := 7, ground := Ground.guard }], guard := some (7, true) }) (v := undef) rfl (by kernel_rfl) (by kernel_rfl) (by kernel_rfl) (fun _ _ _ h => h) (Or.inr ⟨by rfl, rfl⟩) hS ?_)
        try simp only [Act.put, List.setIfInBounds_toArray, List.set_cons_zero, List.set_cons_succ]
        (refine wpAnyH_take (i := 9) (oi := { dst := some 67, op := Op.binOp BinOp.neq 24 (Operand.tmp 66) (Operand.const (Value.int IntKind.i64 3)) 24, type := 4, pos := "outright.go:100", after := #[{ on := 8, ground := Ground.data }, { on := 7, ground := Ground.guard }], guard := some (7, true) }) (v := undef) rfl (by kernel_rfl) (by kernel_rfl) (by kernel_rfl) (fun _ _ _ h => h) (Or.inr ⟨by rfl, rfl⟩) hS ?_)
        try simp only [Act.put, List.setIfInBounds_toArray, List.set_cons_zero, List.set_cons_succ]
        (refine wpAnyH_take (i := 10) (oi := { dst := some 68, op := Op.move (Operand.tmp 67), type := 4, pos := "outright.go:100", after := #[{ on := 9, ground := Ground.data }, { on := 7, ground := Ground.chain }, { on := 7, ground := Ground.guard }], guard := some (7, true) }) (v := undef) rfl (by kernel_rfl) (by kernel_rfl) (by kernel_rfl) (fun _ _ _ h => h) (Or.inr ⟨by rfl, rfl⟩) hS ?_)
        try simp only [Act.put, List.setIfInBounds_toArray, List.set_cons_zero, List.set_cons_succ]
        (refine wpAnyH_take (i := 11) (oi := { dst := some 69, op := Op.move (Operand.tmp 3), type := 23, pos := "outright.go:100", after := #[{ on := 10, ground := Ground.guard }], guard := some (10, false) }) (v := undef) rfl (by kernel_rfl) (by kernel_rfl) (by kernel_rfl) (fun _ _ _ h => h) (Or.inr ⟨by rfl, rfl⟩) hS ?_)
        try simp only [Act.put, List.setIfInBounds_toArray, List.set_cons_zero, List.set_cons_succ]
        (refine wpAnyH_take (i := 12) (oi := { dst := some 70, op := Op.binOp BinOp.neq 23 (Operand.tmp 69) (Operand.const (Value.pointer none)) 23, type := 4, pos := "outright.go:100", after := #[{ on := 11, ground := Ground.data }, { on := 10, ground := Ground.guard }], guard := some (10, false) }) (v := undef) rfl (by kernel_rfl) (by kernel_rfl) (by kernel_rfl) (fun _ _ _ h => h) (Or.inr ⟨by rfl, rfl⟩) hS ?_)
        try simp only [Act.put, List.setIfInBounds_toArray, List.set_cons_zero, List.set_cons_succ]
        (refine wpAnyH_take (i := 13) (oi := { dst := some 71, op := Op.pick (Operand.tmp 68) (Operand.const (Value.bool true)) (Operand.tmp 70), type := 4, pos := "outright.go:100", after := #[{ on := 10, ground := Ground.data }, { on := 12, ground := Ground.data }, { on := 7, ground := Ground.guard }], guard := some (7, true) }) (v := undef) rfl (by kernel_rfl) (by kernel_rfl) (by kernel_rfl) (fun _ _ _ h => h) (Or.inr ⟨by rfl, rfl⟩) hS ?_)
        try simp only [Act.put, List.setIfInBounds_toArray, List.set_cons_zero, List.set_cons_succ]
        (refine wpAnyH_take (i := 14) (oi := { dst := some 72, op := Op.pick (Operand.tmp 65) (Operand.tmp 71) (Operand.const (Value.bool false)), type := 4, pos := "outright.go:100", after := #[{ on := 7, ground := Ground.data }, { on := 13, ground := Ground.data }, { on := 4, ground := Ground.guard }], guard := some (4, false) }) (v := ?_) rfl (by kernel_rfl) (by kernel_rfl) (by kernel_rfl) (fun _ _ _ h => h) (Or.inl ⟨by rfl, ?_⟩) hS ?_; rotate_left; focus (intro w' s0; go_simp <;> try with_reducible rfl))
        try simp only [Act.put, List.setIfInBounds_toArray, List.set_cons_zero, List.set_cons_succ]
        (refine wpAnyH_take (i := 15) (oi := { dst := some 73, op := Op.pick (Operand.tmp 62) (Operand.const (Value.bool true)) (Operand.tmp 72), type := 4, pos := "outright.go:100", after := #[{ on := 4, ground := Ground.data }, { on := 14, ground := Ground.data }], guard := none }) (v := ?_) rfl (by kernel_rfl) (by kernel_rfl) (by kernel_rfl) (fun _ _ _ h => h) (Or.inl ⟨by rfl, ?_⟩) hS ?_; rotate_left; focus (intro w' s0; go_simp <;> try with_reducible rfl))
        try simp only [Act.put, List.setIfInBounds_toArray, List.set_cons_zero, List.set_cons_succ]
        (refine wpAnyH_take (i := 16) (oi := { dst := some 74, op := Op.move (Operand.tmp 73), type := 4, pos := "outright.go:100", after := #[{ on := 15, ground := Ground.data }, { on := 10, ground := Ground.chain }], guard := none }) (v := ?_) rfl (by kernel_rfl) (by kernel_rfl) (by kernel_rfl) (fun _ _ _ h => h) (Or.inl ⟨by rfl, ?_⟩) hS ?_; rotate_left; focus (intro w' s0; go_simp <;> try with_reducible rfl))
        try simp only [Act.put, List.setIfInBounds_toArray, List.set_cons_zero, List.set_cons_succ]
        (refine wpAnyH_take (i := 17) (oi := { dst := some 75, op := Op.move (Operand.tmp 5), type := 4, pos := "outright.go:100", after := #[{ on := 16, ground := Ground.guard }], guard := some (16, false) }) (v := ?_) rfl (by kernel_rfl) (by kernel_rfl) (by kernel_rfl) (fun _ _ _ h => h) (Or.inl ⟨by rfl, ?_⟩) hS ?_; rotate_left; focus (intro w' s0; go_simp <;> try with_reducible rfl))
        try simp only [Act.put, List.setIfInBounds_toArray, List.set_cons_zero, List.set_cons_succ]
        (refine wpAnyH_take (i := 18) (oi := { dst := some 76, op := Op.move (Operand.tmp 75), type := 4, pos := "outright.go:100", after := #[{ on := 17, ground := Ground.data }, { on := 16, ground := Ground.chain }, { on := 16, ground := Ground.guard }], guard := some (16, false) }) (v := ?_) rfl (by kernel_rfl) (by kernel_rfl) (by kernel_rfl) (fun _ _ _ h => h) (Or.inl ⟨by rfl, ?_⟩) hS ?_; rotate_left; focus (intro w' s0; go_simp <;> try with_reducible rfl))
        try simp only [Act.put, List.setIfInBounds_toArray, List.set_cons_zero, List.set_cons_succ]
        (refine wpAnyH_take (i := 19) (oi := { dst := some 77, op := Op.move (Operand.tmp 3), type := 23, pos := "outright.go:100", after := #[{ on := 18, ground := Ground.guard }], guard := some (18, true) }) (v := ?_) rfl (by kernel_rfl) (by kernel_rfl) (by kernel_rfl) (fun _ _ _ h => h) (Or.inl ⟨by rfl, ?_⟩) hS ?_; rotate_left; focus (intro w' s0; go_simp <;> try with_reducible rfl))
        try simp only [Act.put, List.setIfInBounds_toArray, List.set_cons_zero, List.set_cons_succ]
        (refine wpAnyH_take (i := 20) (oi := { dst := some 78, op := Op.binOp BinOp.eql 23 (Operand.tmp 77) (Operand.const (Value.pointer none)) 23, type := 4, pos := "outright.go:100", after := #[{ on := 19, ground := Ground.data }, { on := 18, ground := Ground.guard }], guard := some (18, true) }) (v := ?_) rfl (by kernel_rfl) (by kernel_rfl) (by kernel_rfl) (fun _ _ _ h => h) (Or.inl ⟨by rfl, ?_⟩) hS ?_; rotate_left; focus (intro w' s0; go_simp <;> try with_reducible rfl))
        try simp only [Act.put, List.setIfInBounds_toArray, List.set_cons_zero, List.set_cons_succ]
        (refine wpAnyH_take (i := 21) (oi := { dst := some 79, op := Op.move (Operand.tmp 78), type := 4, pos := "outright.go:100", after := #[{ on := 20, ground := Ground.data }, { on := 18, ground := Ground.chain }, { on := 18, ground := Ground.guard }], guard := some (18, true) }) (v := ?_) rfl (by kernel_rfl) (by kernel_rfl) (by kernel_rfl) (fun _ _ _ h => h) (Or.inl ⟨by rfl, ?_⟩) hS ?_; rotate_left; focus (intro w' s0; go_simp <;> try with_reducible rfl))
        try simp only [Act.put, List.setIfInBounds_toArray, List.set_cons_zero, List.set_cons_succ]
        (refine wpAnyH_take (i := 22) (oi := { dst := some 80, op := Op.move (Operand.tmp 3), type := 23, pos := "outright.go:100", after := #[{ on := 21, ground := Ground.guard }], guard := some (21, false) }) (v := ?_) rfl (by kernel_rfl) (by kernel_rfl) (by kernel_rfl) (fun _ _ _ h => h) (Or.inl ⟨by rfl, ?_⟩) hS ?_; rotate_left; focus (intro w' s0; go_simp <;> try with_reducible rfl))
        try simp only [Act.put, List.setIfInBounds_toArray, List.set_cons_zero, List.set_cons_succ]
        (refine wpAnyH_take (i := 24) (oi := { dst := some 82, op := Op.move (Operand.tmp 1), type := 37, pos := "outright.go:100", after := #[{ on := 21, ground := Ground.guard }], guard := some (21, false) }) (v := ?_) rfl (by kernel_rfl) (by kernel_rfl) (by kernel_rfl) (fun _ _ _ h => h) (Or.inl ⟨by rfl, ?_⟩) hS ?_; rotate_left; focus (intro w' s0; go_simp <;> try with_reducible rfl))
        try simp only [Act.put, List.setIfInBounds_toArray, List.set_cons_zero, List.set_cons_succ]
        (refine wpAnyH_take (i := 25) (oi := { dst := some 83, op := Op.move (Operand.tmp 2), type := 3, pos := "outright.go:100", after := #[{ on := 21, ground := Ground.guard }], guard := some (21, false) }) (v := ?_) rfl (by kernel_rfl) (by kernel_rfl) (by kernel_rfl) (fun _ _ _ h => h) (Or.inl ⟨by rfl, ?_⟩) hS ?_; rotate_left; focus (intro w' s0; go_simp <;> try with_reducible rfl))
        try simp only [Act.put, List.setIfInBounds_toArray, List.set_cons_zero, List.set_cons_succ]
        (refine wpAnyH_take (i := 26) (oi := { dst := some 84, op := Op.indexAddr 37 (Operand.tmp 82) (Operand.tmp 83), type := 0, pos := "outright.go:100", after := #[{ on := 24, ground := Ground.data }, { on := 25, ground := Ground.data }, { on := 21, ground := Ground.guard }], guard := some (21, false) }) (v := ?_) rfl (by kernel_rfl) (by kernel_rfl) (by kernel_rfl) (fun _ _ _ h => h) (Or.inl ⟨by rfl, ?_⟩) hS ?_; rotate_left; focus (intro w' s0; go_simp <;> try with_reducible rfl))
        try simp only [Act.put, List.setIfInBounds_toArray, List.set_cons_zero, List.set_cons_succ]
        (refine wpAnyH_take (i := 27) (oi := { dst := some 85, op := Op.load 3 (Operand.tmp 84), type := 3, pos := "outright.go:100", after := #[{ on := 26, ground := Ground.data }, { on := 21, ground := Ground.guard }], guard := some (21, false) }) (v := ?_) rfl (by kernel_rfl) (by kernel_rfl) (by kernel_rfl) (fun _ _ _ h => h) (Or.inl ⟨by rfl, ?_⟩) hS ?_; rotate_left; focus (intro w' s0; have c_k := s0 k _ HXV.out; go_simp <;> try with_reducible rfl))
        try simp only [Act.put, List.setIfInBounds_toArray, List.set_cons_zero, List.set_cons_succ]
        refine wpAnyH_ready (rs := [23]) (by kernel_rfl) (by simp) ?_
        refine AllReadyH.cons (o := { dst := some 81, op := Op.call { callee := Callee.value (Operand.func 12), args := #[Operand.tmp 80], argTypes := #[23] }, type := 3, pos := "outright.go:100", after := #[{ on := 22, ground := Ground.data }, { on := 21, ground := Ground.chain }, { on := 21, ground := Ground.guard }], guard := some (21, false) }) rfl (fun K hK => ?_) AllReadyH.nil
        refine take_if (by rfl) ?_
        go_simp
        (with_reducible refine (clen_at HOd.out x HBx.out).mono ?_)
        rintro e' w2 ⟨rfl, b2⟩
        have hS2 : At (b) (kSz.map (Value.int .i64)) w2 := hS.bel b2 hbd
        have HB2 := Lib.hid b2
        have hw2 := b2.size
        clear b2
        refine hK.out _ _ hS2 (fun hS => ?_)
        clear hK K hS2
        try simp only [Act.put, List.setIfInBounds_toArray, List.set_cons_zero, List.set_cons_succ]
        (refine wpAnyH_take (i := 28) (oi := { dst := some 86, op := Op.binOp BinOp.neq 3 (Operand.tmp 81) (Operand.tmp 85) 3, type := 4, pos := "outright.go:100", after := #[{ on := 23, ground := Ground.data }, { on := 27, ground := Ground.data }, { on := 21, ground := Ground.guard }], guard := some (21, false) }) (v := ?_) rfl (by kernel_rfl) (by kernel_rfl) (by kernel_rfl) (fun _ _ _ h => h) (Or.inl ⟨by rfl, ?_⟩) hS ?_; rotate_left; focus (intro w' s0; go_simp <;> try with_reducible rfl))
        try simp only [Act.put, List.setIfInBounds_toArray, List.set_cons_zero, List.set_cons_succ]
        (refine wpAnyH_take (i := 29) (oi := { dst := some 87, op := Op.pick (Operand.tmp 79) (Operand.const (Value.bool true)) (Operand.tmp 86), type := 4, pos := "outright.go:100", after := #[{ on := 21, ground := Ground.data }, { on := 28, ground := Ground.data }, { on := 18, ground := Ground.guard }], guard := some (18, true) }) (v := ?_) rfl (by kernel_rfl) (by kernel_rfl) (by kernel_rfl) (fun _ _ _ h => h) (Or.inl ⟨by rfl, ?_⟩) hS ?_; rotate_left; focus (intro w' s0; go_simp <;> try with_reducible rfl))
        try simp only [Act.put, List.setIfInBounds_toArray, List.set_cons_zero, List.set_cons_succ]
        (refine wpAnyH_take (i := 30) (oi := { dst := some 88, op := Op.pick (Operand.tmp 76) (Operand.tmp 87) (Operand.const (Value.bool false)), type := 4, pos := "outright.go:100", after := #[{ on := 18, ground := Ground.data }, { on := 29, ground := Ground.data }, { on := 16, ground := Ground.guard }], guard := some (16, false) }) (v := ?_) rfl (by kernel_rfl) (by kernel_rfl) (by kernel_rfl) (fun _ _ _ h => h) (Or.inl ⟨by rfl, ?_⟩) hS ?_; rotate_left; focus (intro w' s0; go_simp <;> try with_reducible rfl))
        try simp only [Act.put, List.setIfInBounds_toArray, List.set_cons_zero, List.set_cons_succ]
        (refine wpAnyH_take (i := 31) (oi := { dst := some 89, op := Op.pick (Operand.tmp 74) (Operand.const (Value.bool true)) (Operand.tmp 88), type := 4, pos := "outright.go:100", after := #[{ on := 16, ground := Ground.data }, { on := 30, ground := Ground.data }], guard := none }) (v := ?_) rfl (by kernel_rfl) (by kernel_rfl) (by kernel_rfl) (fun _ _ _ h => h) (Or.inl ⟨by rfl, ?_⟩) hS ?_; rotate_left; focus (intro w' s0; go_simp <;> try with_reducible rfl))
        try simp only [Act.put, List.setIfInBounds_toArray, List.set_cons_zero, List.set_cons_succ]
        refine wpAnyH_done (by kernel_rfl) ?_ _
        go_wp2
        go_roundw
        case rel => exact ⟨k + 1, by omega, by go_num, hS, HBL.out.trans ((HBd.out.trans (HB2.out.mono (by omega))).mono hWs)⟩
        case measure => simp [intOf]; omega
      · have HNX := Lib.hid (fun w => cnew_no x HXB.out.1 HXB.out.2 (by rw [HNW.out, fnB, HP1.out, HP2.out, HP3.out]; rfl) w)
        go_upto_region 7 with (go_at_call 8; (with_reducible refine (HNX.out _).mono ?_); rintro e' w1 ⟨rfl, b1⟩; have hs1 := b1.size; have hA1 := HAT.out.bel b1 hb; have c1 := hA1 k _ HXV.out; have HA1 := Lib.hid hA1; have HB1 := Lib.hid b1; clear b1 hA1)
        have hA := HA1.out
        refine wp_region_held_drew (S := fun w' => At (b) (kSz.map (Value.int .i64)) w') (by kernel_rfl) (hA.drew) (fun hS => ?_)
        (refine wpAnyH_take (i := 0) (oi := { dst := some 58, op := Op.move (Operand.tmp 4), type := 24, pos := "outright.go:100", after := #[], guard := none }) (v := ?_) rfl (by kernel_rfl) (by kernel_rfl) (by kernel_rfl) (fun _ _ _ h => h) (Or.inl ⟨by rfl, ?_⟩) hS ?_; rotate_left; focus (intro w' s0; go_simp <;> try with_reducible rfl))
        try simp only [Act.put, List.setIfInBounds_toArray, List.set_cons_zero, List.set_cons_succ]
        (refine wpAnyH_take (i := 1) (oi := { dst := some 59, op := Op.binOp BinOp.eql 24 (Operand.tmp 58) (Operand.const (Value.int IntKind.i64 0)) 24, type := 4, pos := "outright.go:100", after := #[{ on := 0, ground := Ground.data }], guard := none }) (v := ?_) rfl (by kernel_rfl) (by kernel_rfl) (by kernel_rfl) (fun _ _ _ h => h) (Or.inl ⟨by rfl, ?_⟩) hS ?_; rotate_left; focus (intro w' s0; go_simp <;> try with_reducible rfl))
        try simp only [Act.put, List.setIfInBounds_toArray, List.set_cons_zero, List.set_cons_succ]
        (refine wpAnyH_take (i := 2) (oi := { dst := some 60, op := Op.move (Operand.tmp 5), type := 4, pos := "outright.go:100", after := #[], guard := none }) (v := ?_) rfl (by kernel_rfl) (by kernel_rfl) (by kernel_rfl) (fun _ _ _ h => h) (Or.inl ⟨by rfl, ?_⟩) hS ?_; rotate_left; focus (intro w' s0; go_simp <;> try with_reducible rfl))
        try simp only [Act.put, List.setIfInBounds_toArray, List.set_cons_zero, List.set_cons_succ]
        (refine wpAnyH_take (i := 3) (oi := { dst := some 61, op := Op.binOp BinOp.neq 4 (Operand.tmp 59) (Operand.tmp 60) 4, type := 4, pos := "outright.go:100", after := #[{ on := 1, ground := Ground.data }, { on := 2, ground := Ground.data }], guard := none }) (v := ?_) rfl (by kernel_rfl) (by kernel_rfl) (by kernel_rfl) (fun _ _ _ h => h) (Or.inl ⟨by rfl, ?_⟩) hS ?_; rotate_left; focus (intro w' s0; go_simp <;> try with_reducible rfl))
        try simp only [Act.put, List.setIfInBounds_toArray, List.set_cons_zero, List.set_cons_succ]
        (refine wpAnyH_take (i := 4) (oi := { dst := some 62, op := Op.move (Operand.tmp 61), type := 4, pos := "outright.go:100", after := #[{ on := 3, ground := Ground.data }], guard := none }) (v := ?_) rfl (by kernel_rfl) (by kernel_rfl) (by kernel_rfl) (fun _ _ _ h => h) (Or.inl ⟨by rfl, ?_⟩) hS ?_; rotate_left; focus (intro w' s0; go_simp <;> try with_reducible rfl))
        try simp only [Act.put, List.setIfInBounds_toArray, List.set_cons_zero, List.set_cons_succ]
        (refine wpAnyH_take (i := 5) (oi := { dst := some 63, op := Op.move (Operand.tmp 5), type := 4, pos := "outright.go:100", after := #[{ on := 4, ground := Ground.guard }], guard := some (4, false) }) (v := ?_) rfl (by kernel_rfl) (by kernel_rfl) (by kernel_rfl) (fun _ _ _ h => h) (Or.inl ⟨by rfl, ?_⟩) hS ?_; rotate_left; focus (intro w' s0; go_simp <;> try with_reducible rfl))
        try simp only [Act.put, List.setIfInBounds_toArray, List.set_cons_zero, List.set_cons_succ]
        (refine wpAnyH_take (i := 6) (oi := { dst := some 64, op := Op.unOp UnOp.not 4 (Operand.tmp 63), type := 4, pos := "outright.go:100", after := #[{ on := 5, ground := Ground.data }, { on := 4, ground := Ground.guard }], guard := some (4, false) }) (v := ?_) rfl (by kernel_rfl) (by kernel_rfl) (by kernel_rfl) (fun _ _ _ h => h) (Or.inl ⟨by rfl, ?_⟩) hS ?_; rotate_left; focus (intro w' s0; go_simp <;> try with_reducible rfl))
        try simp only [Act.put, List.setIfInBounds_toArray, List.set_cons_zero, List.set_cons_succ]
        (refine wpAnyH_take (i := 7) (oi := { dst := some 65, op := Op.move (Operand.tmp 64), type := 4, pos := "outright.go:100", after := #[{ on := 6, ground := Ground.data }, { on := 4, ground := Ground.chain }, { on := 4, ground := Ground.guard }], guard := some (4, false) }) (v := ?_) rfl (by kernel_rfl) (by kernel_rfl) (by kernel_rfl) (fun _ _ _ h => h) (Or.inl ⟨by rfl, ?_⟩) hS ?_; rotate_left; focus (intro w' s0; go_simp <;> try with_reducible rfl))
        try simp only [Act.put, List.setIfInBounds_toArray, List.set_cons_zero, List.set_cons_succ]
        (refine wpAnyH_take (i := 8) (oi := { dst := some 66, op := Op.move (Operand.tmp 4), type := 24, pos := "outright.go:100", after := #[{ on := 7, ground := Ground.guard }], guard := some (7, true) }) (v := ?_) rfl (by kernel_rfl) (by kernel_rfl) (by kernel_rfl) (fun _ _ _ h => h) (Or.inl ⟨by rfl, ?_⟩) hS ?_; rotate_left; focus (intro w' s0; go_simp <;> try with_reducible rfl))
        try simp only [Act.put, List.setIfInBounds_toArray, List.set_cons_zero, List.set_cons_succ]
        (refine wpAnyH_take (i := 9) (oi := { dst := some 67, op := Op.binOp BinOp.neq 24 (Operand.tmp 66) (Operand.const (Value.int IntKind.i64 3)) 24, type := 4, pos := "outright.go:100", after := #[{ on := 8, ground := Ground.data }, { on := 7, ground := Ground.guard }], guard := some (7, true) }) (v := ?_) rfl (by kernel_rfl) (by kernel_rfl) (by kernel_rfl) (fun _ _ _ h => h) (Or.inl ⟨by rfl, ?_⟩) hS ?_; rotate_left; focus (intro w' s0; go_simp <;> try with_reducible rfl))
        try simp only [Act.put, List.setIfInBounds_toArray, List.set_cons_zero, List.set_cons_succ]
        (refine wpAnyH_take (i := 10) (oi := { dst := some 68, op := Op.move (Operand.tmp 67), type := 4, pos := "outright.go:100", after := #[{ on := 9, ground := Ground.data }, { on := 7, ground := Ground.chain }, { on := 7, ground := Ground.guard }], guard := some (7, true) }) (v := ?_) rfl (by kernel_rfl) (by kernel_rfl) (by kernel_rfl) (fun _ _ _ h => h) (Or.inl ⟨by rfl, ?_⟩) hS ?_; rotate_left; focus (intro w' s0; go_simp <;> try with_reducible rfl))
        try simp only [Act.put, List.setIfInBounds_toArray, List.set_cons_zero, List.set_cons_succ]
        (refine wpAnyH_take (i := 11) (oi := { dst := some 69, op := Op.move (Operand.tmp 3), type := 23, pos := "outright.go:100", after := #[{ on := 10, ground := Ground.guard }], guard := some (10, false) }) (v := ?_) rfl (by kernel_rfl) (by kernel_rfl) (by kernel_rfl) (fun _ _ _ h => h) (Or.inl ⟨by rfl, ?_⟩) hS ?_; rotate_left; focus (intro w' s0; go_simp <;> try with_reducible rfl))
        try simp only [Act.put, List.setIfInBounds_toArray, List.set_cons_zero, List.set_cons_succ]
        (refine wpAnyH_take (i := 12) (oi := { dst := some 70, op := Op.binOp BinOp.neq 23 (Operand.tmp 69) (Operand.const (Value.pointer none)) 23, type := 4, pos := "outright.go:100", after := #[{ on := 11, ground := Ground.data }, { on := 10, ground := Ground.guard }], guard := some (10, false) }) (v := ?_) rfl (by kernel_rfl) (by kernel_rfl) (by kernel_rfl) (fun _ _ _ h => h) (Or.inl ⟨by rfl, ?_⟩) hS ?_; rotate_left; focus (intro w' s0; go_simp <;> try with_reducible rfl))
        try simp only [Act.put, List.setIfInBounds_toArray, List.set_cons_zero, List.set_cons_succ]
        (refine wpAnyH_take (i := 13) (oi := { dst := some 71, op := Op.pick (Operand.tmp 68) (Operand.const (Value.bool true)) (Operand.tmp 70), type := 4, pos := "outright.go:100", after := #[{ on := 10, ground := Ground.data }, { on := 12, ground := Ground.data }, { on := 7, ground := Ground.guard }], guard := some (7, true) }) (v := ?_) rfl (by kernel_rfl) (by kernel_rfl) (by kernel_rfl) (fun _ _ _ h => h) (Or.inl ⟨by rfl, ?_⟩) hS ?_; rotate_left; focus (intro w' s0; go_simp <;> try with_reducible rfl))
        try simp only [Act.put, List.setIfInBounds_toArray, List.set_cons_zero, List.set_cons_succ]
        (refine wpAnyH_take (i := 14) (oi := { dst := some 72, op := Op.pick (Operand.tmp 65) (Operand.tmp 71) (Operand.const (Value.bool false)), type := 4, pos := "outright.go:100", after := #[{ on := 7, ground := Ground.data }, { on := 13, ground := Ground.data }, { on := 4, ground := Ground.guard }], guard := some (4, false) }) (v := ?_) rfl (by kernel_rfl) (by kernel_rfl) (by kernel_rfl) (fun _ _ _ h => h) (Or.inl ⟨by rfl, ?_⟩) hS ?_; rotate_left; focus (intro w' s0; go_simp <;> try with_reducible rfl))
        try simp only [Act.put, List.setIfInBounds_toArray, List.set_cons_zero, List.set_cons_succ]
        (refine wpAnyH_take (i := 15) (oi := { dst := some 73, op := Op.pick (Operand.tmp 62) (Operand.const (Value.bool true)) (Operand.tmp 72), type := 4, pos := "outright.go:100", after := #[{ on := 4, ground := Ground.data }, { on := 14, ground := Ground.data }], guard := none }) (v := ?_) rfl (by kernel_rfl) (by kernel_rfl) (by kernel_rfl) (fun _ _ _ h => h) (Or.inl ⟨by rfl, ?_⟩) hS ?_; rotate_left; focus (intro w' s0; go_simp <;> try with_reducible rfl))
        try simp only [Act.put, List.setIfInBounds_toArray, List.set_cons_zero, List.set_cons_succ]
        (refine wpAnyH_take (i := 16) (oi := { dst := some 74, op := Op.move (Operand.tmp 73), type := 4, pos := "outright.go:100", after := #[{ on := 15, ground := Ground.data }, { on := 10, ground := Ground.chain }], guard := none }) (v := ?_) rfl (by kernel_rfl) (by kernel_rfl) (by kernel_rfl) (fun _ _ _ h => h) (Or.inl ⟨by rfl, ?_⟩) hS ?_; rotate_left; focus (intro w' s0; go_simp <;> try with_reducible rfl))
        try simp only [Act.put, List.setIfInBounds_toArray, List.set_cons_zero, List.set_cons_succ]
        (refine wpAnyH_take (i := 17) (oi := { dst := some 75, op := Op.move (Operand.tmp 5), type := 4, pos := "outright.go:100", after := #[{ on := 16, ground := Ground.guard }], guard := some (16, false) }) (v := ?_) rfl (by kernel_rfl) (by kernel_rfl) (by kernel_rfl) (fun _ _ _ h => h) (Or.inl ⟨by rfl, ?_⟩) hS ?_; rotate_left; focus (intro w' s0; go_simp <;> try with_reducible rfl))
        try simp only [Act.put, List.setIfInBounds_toArray, List.set_cons_zero, List.set_cons_succ]
        (refine wpAnyH_take (i := 18) (oi := { dst := some 76, op := Op.move (Operand.tmp 75), type := 4, pos := "outright.go:100", after := #[{ on := 17, ground := Ground.data }, { on := 16, ground := Ground.chain }, { on := 16, ground := Ground.guard }], guard := some (16, false) }) (v := ?_) rfl (by kernel_rfl) (by kernel_rfl) (by kernel_rfl) (fun _ _ _ h => h) (Or.inl ⟨by rfl, ?_⟩) hS ?_; rotate_left; focus (intro w' s0; go_simp <;> try with_reducible rfl))
        try simp only [Act.put, List.setIfInBounds_toArray, List.set_cons_zero, List.set_cons_succ]
        (refine wpAnyH_take (i := 19) (oi := { dst := some 77, op := Op.move (Operand.tmp 3), type := 23, pos := "outright.go:100", after := #[{ on := 18, ground := Ground.guard }], guard := some (18, true) }) (v := undef) rfl (by kernel_rfl) (by kernel_rfl) (by kernel_rfl) (fun _ _ _ h => h) (Or.inr ⟨by rfl, rfl⟩) hS ?_)
        try simp only [Act.put, List.setIfInBounds_toArray, List.set_cons_zero, List.set_cons_succ]
        (refine wpAnyH_take (i := 20) (oi := { dst := some 78, op := Op.binOp BinOp.eql 23 (Operand.tmp 77) (Operand.const (Value.pointer none)) 23, type := 4, pos := "outright.go:100", after := #[{ on := 19, ground := Ground.data }, { on := 18, ground := Ground.guard }], guard := some (18, true) }) (v := undef) rfl (by kernel_rfl) (by kernel_rfl) (by kernel_rfl) (fun _ _ _ h => h) (Or.inr ⟨by rfl, rfl⟩) hS ?_)
        try simp only [Act.put, List.setIfInBounds_toArray, List.set_cons_zero, List.set_cons_succ]
        (refine wpAnyH_take (i := 21) (oi := { dst := some 79, op := Op.move (Operand.tmp 78), type := 4, pos := "outright.go:100", after := #[{ on := 20, ground := Ground.data }, { on := 18, ground := Ground.chain }, { on := 18, ground := Ground.guard }], guard := some (18, true) }) (v := undef) rfl (by kernel_rfl) (by kernel_rfl) (by kernel_rfl) (fun _ _ _ h => h) (Or.inr ⟨by rfl, rfl⟩) hS ?_)
        try simp only [Act.put, List.setIfInBounds_toArray, List.set_cons_zero, List.set_cons_succ]
        (refine wpAnyH_take (i := 22) (oi := { dst := some 80, op := Op.move (Operand.tmp 3), type := 23, pos := "outright.go:100", after := #[{ on := 21, ground := Ground.guard }], guard := some (21, false) }) (v := undef) rfl (by kernel_rfl) (by kernel_rfl) (by kernel_rfl) (fun _ _ _ h => h) (Or.inr ⟨by rfl, rfl⟩) hS ?_)
        try simp only [Act.put, List.setIfInBounds_toArray, List.set_cons_zero, List.set_cons_succ]
        (refine wpAnyH_take (i := 24) (oi := { dst := some 82, op := Op.move (Operand.tmp 1), type := 37, pos := "outright.go:100", after := #[{ on := 21, ground := Ground.guard }], guard := some (21, false) }) (v := undef) rfl (by kernel_rfl) (by kernel_rfl) (by kernel_rfl) (fun _ _ _ h => h) (Or.inr ⟨by rfl, rfl⟩) hS ?_)
        try simp only [Act.put, List.setIfInBounds_toArray, List.set_cons_zero, List.set_cons_succ]
        (refine wpAnyH_take (i := 25) (oi := { dst := some 83, op := Op.move (Operand.tmp 2), type := 3, pos := "outright.go:100", after := #[{ on := 21, ground := Ground.guard }], guard := some (21, false) }) (v := undef) rfl (by kernel_rfl) (by kernel_rfl) (by kernel_rfl) (fun _ _ _ h => h) (Or.inr ⟨by rfl, rfl⟩) hS ?_)
        try simp only [Act.put, List.setIfInBounds_toArray, List.set_cons_zero, List.set_cons_succ]
        (refine wpAnyH_take (i := 26) (oi := { dst := some 84, op := Op.indexAddr 37 (Operand.tmp 82) (Operand.tmp 83), type := 0, pos := "outright.go:100", after := #[{ on := 24, ground := Ground.data }, { on := 25, ground := Ground.data }, { on := 21, ground := Ground.guard }], guard := some (21, false) }) (v := undef) rfl (by kernel_rfl) (by kernel_rfl) (by kernel_rfl) (fun _ _ _ h => h) (Or.inr ⟨by rfl, rfl⟩) hS ?_)
        try simp only [Act.put, List.setIfInBounds_toArray, List.set_cons_zero, List.set_cons_succ]
        (refine wpAnyH_take (i := 27) (oi := { dst := some 85, op := Op.load 3 (Operand.tmp 84), type := 3, pos := "outright.go:100", after := #[{ on := 26, ground := Ground.data }, { on := 21, ground := Ground.guard }], guard := some (21, false) }) (v := undef) rfl (by kernel_rfl) (by kernel_rfl) (by kernel_rfl) (fun _ _ _ h => h) (Or.inr ⟨by rfl, rfl⟩) hS ?_)
        try simp only [Act.put, List.setIfInBounds_toArray, List.set_cons_zero, List.set_cons_succ]
        refine wpAnyH_ready (rs := [23]) (by kernel_rfl) (by simp) ?_
        refine AllReadyH.cons (o := { dst := some 81, op := Op.call { callee := Callee.value (Operand.func 12), args := #[Operand.tmp 80], argTypes := #[23] }, type := 3, pos := "outright.go:100", after := #[{ on := 22, ground := Ground.data }, { on := 21, ground := Ground.chain }, { on := 21, ground := Ground.guard }], guard := some (21, false) }) rfl (fun K hK => ?_) AllReadyH.nil
        refine skip_if (by rfl) ?_
        refine hK.out _ _ hS (fun hS => ?_)
        clear hK K
        try simp only [Act.put, List.setIfInBounds_toArray, List.set_cons_zero, List.set_cons_succ]
        (refine wpAnyH_take (i := 28) (oi := { dst := some 86, op := Op.binOp BinOp.neq 3 (Operand.tmp 81) (Operand.tmp 85) 3, type := 4, pos := "outright.go:100", after := #[{ on := 23, ground := Ground.data }, { on := 27, ground := Ground.data }, { on := 21, ground := Ground.guard }], guard := some (21, false) }) (v := undef) rfl (by kernel_rfl) (by kernel_rfl) (by kernel_rfl) (fun _ _ _ h => h) (Or.inr ⟨by rfl, rfl⟩) hS ?_)
        try simp only [Act.put, List.setIfInBounds_toArray, List.set_cons_zero, List.set_cons_succ]
        (refine wpAnyH_take (i := 29) (oi := { dst := some 87, op := Op.pick (Operand.tmp 79) (Operand.const (Value.bool true)) (Operand.tmp 86), type := 4, pos := "outright.go:100", after := #[{ on := 21, ground := Ground.data }, { on := 28, ground := Ground.data }, { on := 18, ground := Ground.guard }], guard := some (18, true) }) (v := undef) rfl (by kernel_rfl) (by kernel_rfl) (by kernel_rfl) (fun _ _ _ h => h) (Or.inr ⟨by rfl, rfl⟩) hS ?_)
        try simp only [Act.put, List.setIfInBounds_toArray, List.set_cons_zero, List.set_cons_succ]
        (refine wpAnyH_take (i := 30) (oi := { dst := some 88, op := Op.pick (Operand.tmp 76) (Operand.tmp 87) (Operand.const (Value.bool false)), type := 4, pos := "outright.go:100", after := #[{ on := 18, ground := Ground.data }, { on := 29, ground := Ground.data }, { on := 16, ground := Ground.guard }], guard := some (16, false) }) (v := ?_) rfl (by kernel_rfl) (by kernel_rfl) (by kernel_rfl) (fun _ _ _ h => h) (Or.inl ⟨by rfl, ?_⟩) hS ?_; rotate_left; focus (intro w' s0; go_simp <;> try with_reducible rfl))
        try simp only [Act.put, List.setIfInBounds_toArray, List.set_cons_zero, List.set_cons_succ]
        (refine wpAnyH_take (i := 31) (oi := { dst := some 89, op := Op.pick (Operand.tmp 74) (Operand.const (Value.bool true)) (Operand.tmp 88), type := 4, pos := "outright.go:100", after := #[{ on := 16, ground := Ground.data }, { on := 30, ground := Ground.data }], guard := none }) (v := ?_) rfl (by kernel_rfl) (by kernel_rfl) (by kernel_rfl) (fun _ _ _ h => h) (Or.inl ⟨by rfl, ?_⟩) hS ?_; rotate_left; focus (intro w' s0; go_simp <;> try with_reducible rfl))
        try simp only [Act.put, List.setIfInBounds_toArray, List.set_cons_zero, List.set_cons_succ]
        refine wpAnyH_done (by kernel_rfl) ?_ _
        go_wp2
        go_roundw
        case rel => exact ⟨k + 1, by omega, by go_num, hS, HBL.out.trans (HB1.out.drew.mono hWs)⟩
        case measure => simp [intOf]; omega
    · clear hat
      go_upto_region 17 with (first | (go_at_call 8; (with_reducible refine (HN.out _).mono ?_); rintro e' w5 ⟨g, rfl, o5, b5⟩; have hbot := o5.bot; have hgh := o5.gh; have hWlo : W.heap.size ≤ wr.heap.size := hWs; have HO5 := Lib.hid o5; have HB5 := Lib.hid (HBL.out.trans (b5.mono hWs)); clear o5 b5) | (go_at_call 20; (with_reducible refine (cstorecap_at HO5.out 16 true 5 6 true qB1 qT1 qb_1 qt_1 qo_1 (by decide) (by decide) (by decide) (by decide) (by decide) (by decide)).mono ?_); rintro e' w6 ⟨rfl, o6, f6⟩; have hs6 := f6.size; have HO6 := Lib.hid o6; have HB6 := Lib.hid (HB5.out.trans (f6.bl HB5.out.size (fun i x => Nat.le_trans hWlo x.1))); clear o6 f6) | (go_at_call 21; (with_reducible refine (cstore_at HO6.out 31 1 0 true qB2 qT2 qb_2 qt_2 qo_2 (by decide) (by decide) (by decide) (by decide) (by decide) (by decide)).mono ?_); rintro e' w7 ⟨rfl, o7, f7⟩; have hs7 := f7.size; have HO7 := Lib.hid o7; have HB7 := Lib.hid (HB6.out.trans (f7.bl HB6.out.size (fun i x => Nat.le_trans hWlo x.1))); clear o7 f7) | (go_at_call 22; (with_reducible refine (cloadcap_at HO7.out 16 5 6 false true qn_1 qn_2 qn_3 qn_4 (by decide) (by decide)).mono ?_); rintro e' w8 ⟨rfl, b8⟩; have hs8 := b8.size; have HO8 := Lib.hid (HO7.out.below b8); have HB8 := Lib.hid (HB7.out.trans (b8.mono HB7.out.size)); clear b8))
      have hlo : W.heap.size ≤ wr.heap.size := hWs
      generalize wr.heap.size = lo at *
      generalize w5.heap.size = hi at *
      have hA2 : At w8.heap.size (kPl.map (Value.int .i64)) (w8.alloc (.cells #[.int .i64 (-9223372036854775808), .int .i64 (-16), .int .i64 (-1), .int .i64 4096, .int .i64 4095, .int .i64 9223372036854775807] 3)) := At.new w8 (kPl.map (Value.int .i64)) _
      have HA2 := Lib.hid hA2
      have HO9 := Lib.hid (HO8.out.fr ((Fr.refl w8 (fun _ => False)).alloc (.cells #[.int .i64 (-9223372036854775808), .int .i64 (-16), .int .i64 (-1), .int .i64 4096, .int .i64 4095, .int .i64 9223372036854775807] 3)) (fun _ _ _ h => h))
      have HB9 := Lib.hid (HB8.out.alloc HB8.out.size (.cells #[.int .i64 (-9223372036854775808), .int .i64 (-16), .int .i64 (-1), .int .i64 4096, .int .i64 4095, .int .i64 9223372036854775807] 3))
      have hb2 : w8.heap.size < (w8.alloc (.cells #[.int .i64 (-9223372036854775808), .int .i64 (-16), .int .i64 (-1), .int .i64 4096, .int .i64 4095, .int .i64 9223372036854775807] 3)).heap.size := by simp
      have htop : hi ≤ w8.heap.size := HO8.out.top
      clear hA2
      generalize w8.alloc (.cells #[.int .i64 (-9223372036854775808), .int .i64 (-16), .int .i64 (-1), .int .i64 4096, .int .i64 4095, .int .i64 9223372036854775807] 3) = w9 at HA2 HO9 HB9 hb2 ⊢
      generalize w8.heap.size = b2 at HA2 hb2 htop ⊢
      go_loopw [13] (fun i wq => ∃ k : Nat, k ≤ 6 ∧ i = .int .i64 (k : Int) ∧ At b2 (kPl.map (Value.int .i64)) wq ∧ b2 < wq.heap.size ∧ Ob wq lo hi g qB2 qT2 ∧ Below W.heap.size W wq) (fun i _ => 6 - (intOf i).toNat)
      case atStart => exact ⟨0, by omega, rfl, HA2.out, hb2, HO9.out, HB9.out⟩
      case round =>
        clear HA2 HO9 HB9 hb2
        obtain ⟨k, hk, rfl, hA, hb2, ho, hbl⟩ := hrel
        have HA0 := Lib.hid hA
        have HO0 := Lib.hid ho
        have HB0 := Lib.hid hbl
        clear ho hbl
        by_cases hlt2 : k < 6
        · obtain ⟨x, hx⟩ : ∃ x, kPl[k]? = some x := ⟨kPl[k]'(by simpa [kPl] using hlt2), List.getElem?_eq_getElem _⟩
          have hxv : (kPl.map (Value.int .i64))[k]? = some (.int .i64 x) := by rw [List.getElem?_map, hx]; rfl
          have HXV := Lib.hid hxv
          obtain ⟨y1, y2, y3, y4, y5⟩ := pl_at k x hx
          rw [← ql2] at y1 y2 y3
          have HY1 := Lib.hid y1
          have HY2 := Lib.hid y2
          have HY3 := Lib.hid y3
          have HY4 := Lib.hid y4
          have HY5 := Lib.hid y5
          have c0 := hA k _ hxv
          clear hxv hx y1 y2 y3 y4 y5 hA
          go_wp2_with (first | (go_at_call 22; (with_reducible refine (cloadcap_no HO0.out x HY1.out HY4.out HY5.out).mono ?_); rintro e' w1 ⟨rfl, b1⟩; have hs1 := b1.size; have hA1 := HA0.out.bel b1 (by omega); have c1 := hA1 k _ HXV.out; have HA1 := Lib.hid hA1; clear hA1; have HO1 := Lib.hid (HO0.out.below b1); have HB1 := Lib.hid (HB0.out.trans (b1.mono HB0.out.size)); clear b1) | (go_at_call 17; (with_reducible refine (cload_no HO1.out x 2 HY2.out HY4.out HY5.out (by decide) (by decide)).mono ?_); rintro e' w2 ⟨rfl, b2⟩; have hs2 := b2.size; have hA2 := HA1.out.bel b2 (by omega); have c2 := hA2 k _ HXV.out; have HA2 := Lib.hid hA2; clear hA2; have HO2 := Lib.hid (HO1.out.below b2); have HB2 := Lib.hid (HB1.out.trans (b2.mono HB1.out.size)); clear b2) | (go_at_call 21; (with_reducible refine (cstore_no HO2.out x 8 1 HY3.out HY4.out HY5.out (by decide) (by decide) (by decide) (by decide)).mono ?_); rintro e' w3 ⟨rfl, o3, f3⟩; have hs3 := f3.size; have hA3 := HA2.out.frm f3 (by omega) (fun x => by unfold Rg at x; omega); have c3 := hA3 k _ HXV.out; have HA3 := Lib.hid hA3; clear hA3; have HO3 := Lib.hid o3; have HB3 := Lib.hid (HB2.out.trans (f3.bl HB2.out.size (fun i x => Nat.le_trans hlo x.1))); clear o3 f3) | (go_at_call 20; (with_reducible refine (cstorecap_no HO3.out x true 1 1 HY1.out HY4.out HY5.out (by decide) (by decide) (by decide) (by decide)).mono ?_); rintro e' w4 ⟨rfl, o4, f4⟩; have hs4 := f4.size; have hA4 := HA3.out.frm f4 (by omega) (fun x => by unfold Rg at x; omega); have c4 := hA4 k _ HXV.out; have HA4 := Lib.hid hA4; clear hA4; have HO4 := Lib.hid o4; have HB4 := Lib.hid (HB3.out.trans (f4.bl HB3.out.size (fun i x => Nat.le_trans hlo x.1))); clear o4 f4))
          go_roundw
          case rel => exact ⟨k + 1, by omega, by go_num, HA4.out, by omega, HO4.out, HB4.out⟩
          case measure => simp [intOf]; omega
        · clear hA
          go_wp2_with (first | (go_at_call 22; (with_reducible refine (cloadcap_at HO0.out 8 0 0 false false qn_5 qn_6 qn_7 qn_8 (by decide) (by decide)).mono ?_); rintro e' w1 ⟨rfl, b1⟩; have hs1 := b1.size; have HO1 := Lib.hid (HO0.out.below b1); have HB1 := Lib.hid (HB0.out.trans (b1.mono HB0.out.size)); clear b1) | (go_at_call 20; (with_reducible refine (cstorecap_no HO1.out 8 true 1 1 qn_8 (by decide) (by decide) (by decide) (by decide) (by decide) (by decide)).mono ?_); rintro e' w2 ⟨rfl, o2, f2⟩; have hs2 := f2.size; have HO2 := Lib.hid o2; have HB2 := Lib.hid (HB1.out.trans (f2.bl HB1.out.size (fun i x => Nat.le_trans hlo x.1))); clear o2 f2) | (go_at_call 15; (with_reducible refine (ctagged_at HO2.out [] qn_9 (Tb.h1 HTB HB2)).mono ?_); rintro e' w3 ⟨v3, rfl, ⟨A3, cap3, rfl, hc3, hr3⟩, b3⟩; have HB3 := Lib.hid (HB2.out.trans (b3.mono HB2.out.size)); clear hc3 hr3 b3) | (go_at_call 10; (with_reducible refine Calls.mono (known11_w _ (Tb.h1 HTB HB3)) ?_); rintro e' w4 ⟨rfl, b4⟩; have HZ := Lib.hid (HB3.out.trans (b4.mono HB3.out.size)); clear b4))
          go_ret
          exact ⟨rfl, HZ.out⟩
end Go.Proofs.YteebmikjikjhmaaDoor
