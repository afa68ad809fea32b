/-
  The program's bus: its calls, by what they answer and leave, in the words of the bus's state. No condition.
-/
import Derived.Test.YtikibfpfieoabaaJLay
namespace Go.Proofs.Ytikibfpfieoabaa
open Go.ChangeShapes Go.WideShapes Go.ChangeAt Go.RowKit
set_option linter.unusedVariables false
set_option linter.unusedSimpArgs false
set_option maxRecDepth 4000
/-- What the calls lean on in a world: no table. -/
structure JTb (w : World) : Prop where
  any : w.heap.size = w.heap.size
theorem JTb.below {w w' : World} (h : JTb w) (k : Below w.heap.size w w') : JTb w' := ⟨rfl⟩
theorem JTb.h1 {w w' : World} (h : Hid (JTb w)) (k : Hid (Below w.heap.size w w')) : JTb w' := h.out.below k.out
theorem jtb_any (w : World) : JTb w := ⟨rfl⟩
/-- A bus of the program's: its blocks stand from lo on, below hi. -/
structure Bu (w : World) (lo hi g : Nat) (S : BS) : Prop where
  top : hi ≤ w.heap.size
  bot : lo ≤ g
  gh : g < hi
  x : ∃ a1 a2 a3 a4 a5 b1 b2 b3 b4 b5, BI w lo hi g a1 a2 a3 a4 a5 b1 b2 b3 b4 b5 S
theorem BI.bu {w : World} {lo hi g a1 a2 a3 a4 a5 b1 b2 b3 b4 b5 : Nat} {S : BS} (m : BI w lo hi g a1 a2 a3 a4 a5 b1 b2 b3 b4 b5 S) : Bu w lo hi g S :=
  ⟨m.top, by have := m.l0; have := m.l1; have := m.l2; have := m.l3; have := m.l4; have := m.l5; omega, m.gh, a1, a2, a3, a4, a5, b1, b2, b3, b4, b5, m⟩
theorem Bu.fr {w w' : World} {lo hi g : Nat} {S : BS} {R : Nat → Prop} (m : Bu w lo hi g S) (k : Fr w w' R) (h : ∀ i, lo ≤ i → i < hi → ¬ R i) : Bu w' lo hi g S := by
  obtain ⟨a1, a2, a3, a4, a5, b1, b2, b3, b4, b5, x⟩ := m.x
  exact (x.fr k h).bu
theorem Fr.bel_ {a b c : World} {S : Nat → Prop} (h : Fr a b S) (k : Below b.heap.size b c) : Fr a c S := h.below k (fun i hi _ => Nat.lt_of_lt_of_le hi h.size)
set_option maxHeartbeats 4000000 in
theorem cjnew_no (n : Int) (n0 : -9223372036854775808 ≤ n) (n1 : n < 9223372036854775808) (h : nwO n = false) (w : World) (tb : JTb w) : Calls Try.prog 7 #[.int .i64 n] w fun e w' => e = .returned (.tuple #[.pointer none, .int .i64 3]) ∧ Below w.heap.size w w' := by
  have HN := Lib.hid (cnew_no n n0 n1 h w)
  clear h tb
  go_enter Try.func7, Try.ntmps7
  go_wp2_with (go_at_call 19; (with_reducible refine HN.out.mono ?_); rintro e' w1 ⟨rfl, qk⟩; have K1 := Lib.hid qk; clear qk)
  go_ret2
  exact ⟨rfl, K1.out⟩
set_option maxHeartbeats 4000000 in
theorem cjnew_yes (n : Nat) (h : nwO n = true) (w : World) (tb : JTb w) : Calls Try.prog 7 #[.int .i64 (n : Int)] w fun e w' => ∃ g, e = .returned (.tuple #[.pointer (some ⟨g, 0, none⟩), .int .i64 0]) ∧ Bu w' w.heap.size w'.heap.size g (BS.new n) ∧ Below w.heap.size w w' := by
  obtain ⟨k, hk⟩ : ∃ k, (n : Int) = k := ⟨_, rfl⟩
  have HN := Lib.hid (cnew_yes n h w)
  rw [hk] at HN ⊢
  clear h tb hk
  go_enter Try.func7, Try.ntmps7
  go_wp2_with (first
    | (go_at_call 19; (with_reducible refine HN.out.mono ?_); rintro e' w1 ⟨b1, rfl, q, k⟩; have O1 := Lib.hid q; have K1 := Lib.hid k; clear q k)
    | (go_at_call 20; (with_reducible refine (ctnew_w _ (ttb_any _)).mono ?_); rintro e' w2 ⟨b2, rfl, q, k⟩; have O2 := Lib.hid q; have K2 := Lib.hid k; clear q k)
    | (go_at_call 21; (with_reducible refine (cpnew_w _ (ptb_any _)).mono ?_); rintro e' w3 ⟨b3, rfl, q, k⟩; have O3 := Lib.hid q; have K3 := Lib.hid k; clear q k)
    | (go_at_call 22; (with_reducible refine (cunew_w _ (utb_any _)).mono ?_); rintro e' w4 ⟨b4, rfl, q, k⟩; have O4 := Lib.hid q; have K4 := Lib.hid k; clear q k)
    | (go_at_call 23; (with_reducible refine (cpwnew_w _ (utb_any _)).mono ?_); rintro e' w5 ⟨b5, rfl, q, k⟩; have O5 := Lib.hid q; have K5 := Lib.hid k; clear q k))
  have b := Blk.new w5 48 [.pointer (some ⟨b1, 0, none⟩), .pointer (some ⟨b2, 0, none⟩), .pointer (some ⟨b3, 0, none⟩), .pointer (some ⟨b4, 0, none⟩), .pointer (some ⟨b5, 0, none⟩)]
  have k6 : Kp w5 (w5.alloc (.cells #[.pointer (some ⟨b1, 0, none⟩), .pointer (some ⟨b2, 0, none⟩), .pointer (some ⟨b3, 0, none⟩), .pointer (some ⟨b4, 0, none⟩), .pointer (some ⟨b5, 0, none⟩)] 48)) := (Kp.refl w5).allocs _ _
  have f5 := Fr.of_kp k6 (fun _ => False)
  have f4 := ((Fr.refl w4 (fun _ => False)).bel_ K5.out).bel_ k6.1
  have f3 := (((Fr.refl w3 (fun _ => False)).bel_ K4.out).bel_ K5.out).bel_ k6.1
  have f2 := ((((Fr.refl w2 (fun _ => False)).bel_ K3.out).bel_ K4.out).bel_ K5.out).bel_ k6.1
  have f1 := (((((Fr.refl w1 (fun _ => False)).bel_ K2.out).bel_ K3.out).bel_ K4.out).bel_ K5.out).bel_ k6.1
  have f0 := ((((((Fr.refl w (fun _ => False)).bel_ K1.out).bel_ K2.out).bel_ K3.out).bel_ K4.out).bel_ K5.out).bel_ k6.1
  have m : BI (w5.alloc (.cells #[.pointer (some ⟨b1, 0, none⟩), .pointer (some ⟨b2, 0, none⟩), .pointer (some ⟨b3, 0, none⟩), .pointer (some ⟨b4, 0, none⟩), .pointer (some ⟨b5, 0, none⟩)] 48)) w.heap.size (w5.alloc (.cells #[.pointer (some ⟨b1, 0, none⟩), .pointer (some ⟨b2, 0, none⟩), .pointer (some ⟨b3, 0, none⟩), .pointer (some ⟨b4, 0, none⟩), .pointer (some ⟨b5, 0, none⟩)] 48)).heap.size w5.heap.size w1.heap.size w2.heap.size w3.heap.size w4.heap.size w5.heap.size b1 b2 b3 b4 b5 (BS.new n) :=
    ⟨Nat.le_refl _, K1.out.size, K2.out.size, K3.out.size, K4.out.size, K5.out.size, Nat.le_refl _, b.lt, b, O1.out.fr f1 (fun _ _ _ h => h), O2.out.fr f2 (fun _ _ _ h => h), O3.out.fr f3 (fun _ _ _ h => h), O4.out.fr f4 (fun _ _ _ h => h), O5.out.fr f5 (fun _ _ _ h => h)⟩
  refine bodyPost_ret (v := .tuple #[.pointer (some ⟨w5.heap.size, 0, none⟩), .int .i64 0]) ?_ rfl ⟨_, rfl, m.bu, f0.bl (Nat.le_refl _) (fun _ h => h.elim)⟩
  simp [results, Try.results7, go_sem]
theorem jline_3 (h : Bool) (x : Int) (hx : (if h = true then (8 : Int) else 0) = x) (w : World) : Calls Try.prog 30 #[.bool h, .int .u64 3] w fun e w' => e = .returned (.int .u64 x) ∧ w = w' := by
  cases h
  · subst hx
    go_enter Try.func30, Try.ntmps30
    go_wp2
    go_ret
    exact ⟨rfl, rfl⟩
  · subst hx
    go_enter Try.func30, Try.ntmps30
    go_wp2
    go_ret
    exact ⟨rfl, rfl⟩
theorem jline_7 (h : Bool) (x : Int) (hx : (if h = true then (128 : Int) else 0) = x) (w : World) : Calls Try.prog 30 #[.bool h, .int .u64 7] w fun e w' => e = .returned (.int .u64 x) ∧ w = w' := by
  cases h
  · subst hx
    go_enter Try.func30, Try.ntmps30
    go_wp2
    go_ret
    exact ⟨rfl, rfl⟩
  · subst hx
    go_enter Try.func30, Try.ntmps30
    go_wp2
    go_ret
    exact ⟨rfl, rfl⟩
theorem jline_9 (h : Bool) (x : Int) (hx : (if h = true then (512 : Int) else 0) = x) (w : World) : Calls Try.prog 30 #[.bool h, .int .u64 9] w fun e w' => e = .returned (.int .u64 x) ∧ w = w' := by
  cases h
  · subst hx
    go_enter Try.func30, Try.ntmps30
    go_wp2
    go_ret
    exact ⟨rfl, rfl⟩
  · subst hx
    go_enter Try.func30, Try.ntmps30
    go_wp2
    go_ret
    exact ⟨rfl, rfl⟩
theorem jline_11 (h : Bool) (x : Int) (hx : (if h = true then (2048 : Int) else 0) = x) (w : World) : Calls Try.prog 30 #[.bool h, .int .u64 11] w fun e w' => e = .returned (.int .u64 x) ∧ w = w' := by
  cases h
  · subst hx
    go_enter Try.func30, Try.ntmps30
    go_wp2
    go_ret
    exact ⟨rfl, rfl⟩
  · subst hx
    go_enter Try.func30, Try.ntmps30
    go_wp2
    go_ret
    exact ⟨rfl, rfl⟩
theorem lines_or (p q r s : Bool) : bits .or .u64 (bits .or .u64 (bits .or .u64 (if p = true then 8 else 0) (if q = true then 128 else 0)) (if r = true then 512 else 0)) (if s = true then 2048 else 0) = (if p = true then 8 else 0) + (if q = true then 128 else 0) + (if r = true then 512 else 0) + (if s = true then 2048 else 0) := by
  cases p <;> cases q <;> cases r <;> cases s <;> decide +kernel
set_option maxHeartbeats 8000000 in
theorem jlines_i {w : World} {lo hi g a1 a2 a3 a4 a5 b1 b2 b3 b4 b5 : Nat} {S : BS} (m : BI w lo hi g a1 a2 a3 a4 a5 b1 b2 b3 b4 b5 S) (ok : S.Ok) : Calls Try.prog 13 #[.pointer (some ⟨g, 0, none⟩)] w fun e w' => e = .returned (.int .u64 S.lines) ∧ BI w' lo hi g a1 a2 a3 a4 a5 b1 b2 b3 b4 b5 S ∧ Fr w w' (Rg lo hi) := by
  have HG := Lib.hid (show (¬ Rg a1 a2 g) ∧ ¬ Rg a2 a3 g from ⟨fun x => by have := x.2; have := m.l2; have := m.l3; have := m.l4; have := m.l5; omega, fun x => by have := x.2; have := m.l3; have := m.l4; have := m.l5; omega⟩)
  have hor : bits .or .u64 (bits .or .u64 (bits .or .u64 (if S.t.be = true then 8 else 0) (if S.t.timer = true then 128 else 0)) (if S.p.pend 1 = true then 512 else 0)) (if S.p.pend 0 = true then 2048 else 0) = S.lines := lines_or S.t.be S.t.timer (S.p.pend 1) (S.p.pend 0)
  obtain ⟨L, hL⟩ : ∃ L, S.lines = L := ⟨_, rfl⟩
  obtain ⟨x3, hx3⟩ : ∃ x, (if S.t.be = true then (8 : Int) else 0) = x := ⟨_, rfl⟩
  obtain ⟨x7, hx7⟩ : ∃ x, (if S.t.timer = true then (128 : Int) else 0) = x := ⟨_, rfl⟩
  obtain ⟨x9, hx9⟩ : ∃ x, (if S.p.pend 1 = true then (512 : Int) else 0) = x := ⟨_, rfl⟩
  obtain ⟨x11, hx11⟩ : ∃ x, (if S.p.pend 0 = true then (2048 : Int) else 0) = x := ⟨_, rfl⟩
  rw [hL, hx3, hx7, hx9, hx11] at hor
  rw [hL]
  have HX3 := Lib.hid hx3
  have HX7 := Lib.hid hx7
  have HX9 := Lib.hid hx9
  have HX11 := Lib.hid hx11
  have HR := Lib.hid hor
  have HM := Lib.hid m
  have HO := Lib.hid ok
  clear m ok hor hL hx3 hx7 hx9 hx11
  go_enter Try.func13, Try.ntmps13
  go_upto_region 1 with fail
  refine wp_region_held_drew (S := fun w' => Blk w' g 48 [.pointer (some ⟨b1, 0, none⟩), .pointer (some ⟨b2, 0, none⟩), .pointer (some ⟨b3, 0, none⟩), .pointer (some ⟨b4, 0, none⟩), .pointer (some ⟨b5, 0, none⟩)]) (by kernel_rfl) (HM.out.blk) (fun hS => ?_)
  have I0 := Lib.hid (HM.out.kp (Kp.refl w).drew)
  have F0 := Lib.hid (Fr.drew_ w (Rg lo hi))
  generalize w.drew = g0 at hS I0 F0 ⊢
  (refine wpAnyH_take (i := 0) (oi := { dst := some 3, op := Op.move (Operand.tmp 0), type := 26, pos := "bus.go:78", after := #[], guard := none }) (v := ?_) rfl (by kernel_rfl) (by kernel_rfl) (by kernel_rfl) (fun _ _ _ h => h) (Or.inl ⟨by rfl, ?_⟩) hS ?_; rotate_left; focus (intro w' s0; go_simp <;> try with_reducible rfl))
  try simp only [Act.put, List.setIfInBounds_toArray, List.set_cons_zero, List.set_cons_succ]
  (refine wpAnyH_take (i := 1) (oi := { dst := some 4, op := Op.nilCheck (Operand.tmp 3), type := 0, pos := "bus.go:78", after := #[{ on := 0, ground := Ground.data }], guard := none }) (v := ?_) rfl (by kernel_rfl) (by kernel_rfl) (by kernel_rfl) (fun _ _ _ h => h) (Or.inl ⟨by rfl, ?_⟩) hS ?_; rotate_left; focus (intro w' s0; go_simp <;> try with_reducible rfl))
  try simp only [Act.put, List.setIfInBounds_toArray, List.set_cons_zero, List.set_cons_succ]
  (refine wpAnyH_take (i := 2) (oi := { dst := some 5, op := Op.fieldAddr 48 (Operand.tmp 4) 1, type := 0, pos := "bus.go:78", after := #[{ on := 1, ground := Ground.data }], guard := none }) (v := ?_) rfl (by kernel_rfl) (by kernel_rfl) (by kernel_rfl) (fun _ _ _ h => h) (Or.inl ⟨by rfl, ?_⟩) hS ?_; rotate_left; focus (intro w' s0; go_simp <;> try with_reducible rfl))
  try simp only [Act.put, List.setIfInBounds_toArray, List.set_cons_zero, List.set_cons_succ]
  (refine wpAnyH_take (i := 3) (oi := { dst := some 6, op := Op.load 43 (Operand.tmp 5), type := 43, pos := "bus.go:78", after := #[{ on := 2, ground := Ground.data }], guard := none }) (v := ?_) rfl (by kernel_rfl) (by kernel_rfl) (by kernel_rfl) (fun _ _ _ h => h) (Or.inl ⟨by rfl, ?_⟩) hS ?_; rotate_left; focus (intro w' s0; have c1 := s0.at_ 1 _ rfl; have c2 := s0.at_ 2 _ rfl; go_simp <;> try with_reducible rfl))
  try simp only [Act.put, List.setIfInBounds_toArray, List.set_cons_zero, List.set_cons_succ]
  (refine wpAnyH_take (i := 6) (oi := { dst := some 9, op := Op.move (Operand.tmp 0), type := 26, pos := "bus.go:78", after := #[], guard := none }) (v := ?_) rfl (by kernel_rfl) (by kernel_rfl) (by kernel_rfl) (fun _ _ _ h => h) (Or.inl ⟨by rfl, ?_⟩) hS ?_; rotate_left; focus (intro w' s0; go_simp <;> try with_reducible rfl))
  try simp only [Act.put, List.setIfInBounds_toArray, List.set_cons_zero, List.set_cons_succ]
  (refine wpAnyH_take (i := 7) (oi := { dst := some 10, op := Op.nilCheck (Operand.tmp 9), type := 0, pos := "bus.go:78", after := #[{ on := 6, ground := Ground.data }], guard := none }) (v := ?_) rfl (by kernel_rfl) (by kernel_rfl) (by kernel_rfl) (fun _ _ _ h => h) (Or.inl ⟨by rfl, ?_⟩) hS ?_; rotate_left; focus (intro w' s0; go_simp <;> try with_reducible rfl))
  try simp only [Act.put, List.setIfInBounds_toArray, List.set_cons_zero, List.set_cons_succ]
  (refine wpAnyH_take (i := 8) (oi := { dst := some 11, op := Op.fieldAddr 48 (Operand.tmp 10) 1, type := 0, pos := "bus.go:78", after := #[{ on := 7, ground := Ground.data }], guard := none }) (v := ?_) rfl (by kernel_rfl) (by kernel_rfl) (by kernel_rfl) (fun _ _ _ h => h) (Or.inl ⟨by rfl, ?_⟩) hS ?_; rotate_left; focus (intro w' s0; go_simp <;> try with_reducible rfl))
  try simp only [Act.put, List.setIfInBounds_toArray, List.set_cons_zero, List.set_cons_succ]
  (refine wpAnyH_take (i := 9) (oi := { dst := some 12, op := Op.load 43 (Operand.tmp 11), type := 43, pos := "bus.go:78", after := #[{ on := 8, ground := Ground.data }], guard := none }) (v := ?_) rfl (by kernel_rfl) (by kernel_rfl) (by kernel_rfl) (fun _ _ _ h => h) (Or.inl ⟨by rfl, ?_⟩) hS ?_; rotate_left; focus (intro w' s0; have c1 := s0.at_ 1 _ rfl; have c2 := s0.at_ 2 _ rfl; go_simp <;> try with_reducible rfl))
  try simp only [Act.put, List.setIfInBounds_toArray, List.set_cons_zero, List.set_cons_succ]
  (refine wpAnyH_take (i := 13) (oi := { dst := some 16, op := Op.move (Operand.tmp 0), type := 26, pos := "bus.go:78", after := #[], guard := none }) (v := ?_) rfl (by kernel_rfl) (by kernel_rfl) (by kernel_rfl) (fun _ _ _ h => h) (Or.inl ⟨by rfl, ?_⟩) hS ?_; rotate_left; focus (intro w' s0; go_simp <;> try with_reducible rfl))
  try simp only [Act.put, List.setIfInBounds_toArray, List.set_cons_zero, List.set_cons_succ]
  (refine wpAnyH_take (i := 14) (oi := { dst := some 17, op := Op.nilCheck (Operand.tmp 16), type := 0, pos := "bus.go:78", after := #[{ on := 13, ground := Ground.data }], guard := none }) (v := ?_) rfl (by kernel_rfl) (by kernel_rfl) (by kernel_rfl) (fun _ _ _ h => h) (Or.inl ⟨by rfl, ?_⟩) hS ?_; rotate_left; focus (intro w' s0; go_simp <;> try with_reducible rfl))
  try simp only [Act.put, List.setIfInBounds_toArray, List.set_cons_zero, List.set_cons_succ]
  (refine wpAnyH_take (i := 15) (oi := { dst := some 18, op := Op.fieldAddr 48 (Operand.tmp 17) 2, type := 0, pos := "bus.go:78", after := #[{ on := 14, ground := Ground.data }], guard := none }) (v := ?_) rfl (by kernel_rfl) (by kernel_rfl) (by kernel_rfl) (fun _ _ _ h => h) (Or.inl ⟨by rfl, ?_⟩) hS ?_; rotate_left; focus (intro w' s0; go_simp <;> try with_reducible rfl))
  try simp only [Act.put, List.setIfInBounds_toArray, List.set_cons_zero, List.set_cons_succ]
  (refine wpAnyH_take (i := 16) (oi := { dst := some 19, op := Op.load 44 (Operand.tmp 18), type := 44, pos := "bus.go:78", after := #[{ on := 15, ground := Ground.data }], guard := none }) (v := ?_) rfl (by kernel_rfl) (by kernel_rfl) (by kernel_rfl) (fun _ _ _ h => h) (Or.inl ⟨by rfl, ?_⟩) hS ?_; rotate_left; focus (intro w' s0; have c1 := s0.at_ 1 _ rfl; have c2 := s0.at_ 2 _ rfl; go_simp <;> try with_reducible rfl))
  try simp only [Act.put, List.setIfInBounds_toArray, List.set_cons_zero, List.set_cons_succ]
  (refine wpAnyH_take (i := 20) (oi := { dst := some 23, op := Op.move (Operand.tmp 0), type := 26, pos := "bus.go:78", after := #[], guard := none }) (v := ?_) rfl (by kernel_rfl) (by kernel_rfl) (by kernel_rfl) (fun _ _ _ h => h) (Or.inl ⟨by rfl, ?_⟩) hS ?_; rotate_left; focus (intro w' s0; go_simp <;> try with_reducible rfl))
  try simp only [Act.put, List.setIfInBounds_toArray, List.set_cons_zero, List.set_cons_succ]
  (refine wpAnyH_take (i := 21) (oi := { dst := some 24, op := Op.nilCheck (Operand.tmp 23), type := 0, pos := "bus.go:78", after := #[{ on := 20, ground := Ground.data }], guard := none }) (v := ?_) rfl (by kernel_rfl) (by kernel_rfl) (by kernel_rfl) (fun _ _ _ h => h) (Or.inl ⟨by rfl, ?_⟩) hS ?_; rotate_left; focus (intro w' s0; go_simp <;> try with_reducible rfl))
  try simp only [Act.put, List.setIfInBounds_toArray, List.set_cons_zero, List.set_cons_succ]
  (refine wpAnyH_take (i := 22) (oi := { dst := some 25, op := Op.fieldAddr 48 (Operand.tmp 24) 2, type := 0, pos := "bus.go:78", after := #[{ on := 21, ground := Ground.data }], guard := none }) (v := ?_) rfl (by kernel_rfl) (by kernel_rfl) (by kernel_rfl) (fun _ _ _ h => h) (Or.inl ⟨by rfl, ?_⟩) hS ?_; rotate_left; focus (intro w' s0; go_simp <;> try with_reducible rfl))
  try simp only [Act.put, List.setIfInBounds_toArray, List.set_cons_zero, List.set_cons_succ]
  (refine wpAnyH_take (i := 23) (oi := { dst := some 26, op := Op.load 44 (Operand.tmp 25), type := 44, pos := "bus.go:78", after := #[{ on := 22, ground := Ground.data }], guard := none }) (v := ?_) rfl (by kernel_rfl) (by kernel_rfl) (by kernel_rfl) (fun _ _ _ h => h) (Or.inl ⟨by rfl, ?_⟩) hS ?_; rotate_left; focus (intro w' s0; have c1 := s0.at_ 1 _ rfl; have c2 := s0.at_ 2 _ rfl; go_simp <;> try with_reducible rfl))
  try simp only [Act.put, List.setIfInBounds_toArray, List.set_cons_zero, List.set_cons_succ]
  refine wpAnyH_ready (rs := [4]) (by kernel_rfl) (by simp) ?_
  refine AllReadyH.cons (o := { dst := some 7, op := Op.call { callee := Callee.value (Operand.func 31), args := #[Operand.tmp 6], argTypes := #[43] }, type := 4, pos := "bus.go:78", after := #[{ on := 3, ground := Ground.data }], guard := none }) rfl (fun K hK => ?_) AllReadyH.nil
  refine take_if (by rfl) ?_
  go_simp
  (with_reducible refine (ctsoft_w I0.out.cl HO.out.t (ttb_any _)).mono ?_)
  rintro e' y1 ⟨rfl, q, f⟩
  have hS2 : Blk y1 g 48 [.pointer (some ⟨b1, 0, none⟩), .pointer (some ⟨b2, 0, none⟩), .pointer (some ⟨b3, 0, none⟩), .pointer (some ⟨b4, 0, none⟩), .pointer (some ⟨b5, 0, none⟩)] := hS.fr f HG.out.1
  have I1 := Lib.hid ((show BI y1 lo hi g a1 a2 a3 a4 a5 b1 b2 b3 b4 b5 S ∧ Fr g0 y1 (Rg lo hi) from I0.out.up_cl q f).1)
  have F1 := Lib.hid ((show BI y1 lo hi g a1 a2 a3 a4 a5 b1 b2 b3 b4 b5 S ∧ Fr g0 y1 (Rg lo hi) from I0.out.up_cl q f).2)
  clear q f
  refine hK.out _ _ hS2 (fun hS => ?_)
  clear hK K hS2
  try simp only [Act.put, List.setIfInBounds_toArray, List.set_cons_zero, List.set_cons_succ]
  refine wpAnyH_ready (rs := [5]) (by kernel_rfl) (by simp) ?_
  refine AllReadyH.cons (o := { dst := some 8, op := Op.call { callee := Callee.value (Operand.func 30), args := #[Operand.tmp 7, Operand.const (Value.int IntKind.u64 3)], argTypes := #[4, 49] }, type := 22, pos := "bus.go:78", after := #[{ on := 4, ground := Ground.data }, { on := 4, ground := Ground.chain }], guard := none }) rfl (fun K hK => ?_) AllReadyH.nil
  refine take_if (by rfl) ?_
  go_simp
  (with_reducible refine (jline_3 _ x3 HX3.out _).mono ?_)
  rintro e' y1 ⟨rfl, rfl⟩
  have hS2 : Blk y1 g 48 [.pointer (some ⟨b1, 0, none⟩), .pointer (some ⟨b2, 0, none⟩), .pointer (some ⟨b3, 0, none⟩), .pointer (some ⟨b4, 0, none⟩), .pointer (some ⟨b5, 0, none⟩)] := hS
  refine hK.out _ _ hS2 (fun hS => ?_)
  clear hK K hS2
  try simp only [Act.put, List.setIfInBounds_toArray, List.set_cons_zero, List.set_cons_succ]
  refine wpAnyH_ready (rs := [10]) (by kernel_rfl) (by simp) ?_
  refine AllReadyH.cons (o := { dst := some 13, op := Op.call { callee := Callee.value (Operand.func 32), args := #[Operand.tmp 12], argTypes := #[43] }, type := 4, pos := "bus.go:79", after := #[{ on := 9, ground := Ground.data }, { on := 5, ground := Ground.chain }], guard := none }) rfl (fun K hK => ?_) AllReadyH.nil
  refine take_if (by rfl) ?_
  go_simp
  (with_reducible refine (cttimer_w I1.out.cl HO.out.t (ttb_any _)).mono ?_)
  rintro e' y2 ⟨rfl, q, f⟩
  have hS2 : Blk y2 g 48 [.pointer (some ⟨b1, 0, none⟩), .pointer (some ⟨b2, 0, none⟩), .pointer (some ⟨b3, 0, none⟩), .pointer (some ⟨b4, 0, none⟩), .pointer (some ⟨b5, 0, none⟩)] := hS.fr f HG.out.1
  have I2 := Lib.hid ((show BI y2 lo hi g a1 a2 a3 a4 a5 b1 b2 b3 b4 b5 S ∧ Fr y1 y2 (Rg lo hi) from I1.out.up_cl q f).1)
  have F2 := Lib.hid ((show BI y2 lo hi g a1 a2 a3 a4 a5 b1 b2 b3 b4 b5 S ∧ Fr y1 y2 (Rg lo hi) from I1.out.up_cl q f).2)
  clear q f
  refine hK.out _ _ hS2 (fun hS => ?_)
  clear hK K hS2
  try simp only [Act.put, List.setIfInBounds_toArray, List.set_cons_zero, List.set_cons_succ]
  refine wpAnyH_ready (rs := [11]) (by kernel_rfl) (by simp) ?_
  refine AllReadyH.cons (o := { dst := some 14, op := Op.call { callee := Callee.value (Operand.func 30), args := #[Operand.tmp 13, Operand.const (Value.int IntKind.u64 7)], argTypes := #[4, 49] }, type := 22, pos := "bus.go:79", after := #[{ on := 10, ground := Ground.data }, { on := 10, ground := Ground.chain }], guard := none }) rfl (fun K hK => ?_) AllReadyH.nil
  refine take_if (by rfl) ?_
  go_simp
  (with_reducible refine (jline_7 _ x7 HX7.out _).mono ?_)
  rintro e' y2 ⟨rfl, rfl⟩
  have hS2 : Blk y2 g 48 [.pointer (some ⟨b1, 0, none⟩), .pointer (some ⟨b2, 0, none⟩), .pointer (some ⟨b3, 0, none⟩), .pointer (some ⟨b4, 0, none⟩), .pointer (some ⟨b5, 0, none⟩)] := hS
  refine hK.out _ _ hS2 (fun hS => ?_)
  clear hK K hS2
  try simp only [Act.put, List.setIfInBounds_toArray, List.set_cons_zero, List.set_cons_succ]
  (refine wpAnyH_take (i := 12) (oi := { dst := some 15, op := Op.binOp BinOp.or 22 (Operand.tmp 8) (Operand.tmp 14) 22, type := 22, pos := "bus.go:78", after := #[{ on := 5, ground := Ground.data }, { on := 11, ground := Ground.data }], guard := none }) (v := ?_) rfl (by kernel_rfl) (by kernel_rfl) (by kernel_rfl) (fun _ _ _ h => h) (Or.inl ⟨by rfl, ?_⟩) hS ?_; rotate_left; focus (intro w' s0; go_simp <;> try with_reducible rfl))
  try simp only [Act.put, List.setIfInBounds_toArray, List.set_cons_zero, List.set_cons_succ]
  refine wpAnyH_ready (rs := [17]) (by kernel_rfl) (by simp) ?_
  refine AllReadyH.cons (o := { dst := some 20, op := Op.call { callee := Callee.value (Operand.func 33), args := #[Operand.tmp 19, Operand.const (Value.int IntKind.i64 1)], argTypes := #[44, 3] }, type := 4, pos := "bus.go:80", after := #[{ on := 16, ground := Ground.data }, { on := 11, ground := Ground.chain }], guard := none }) rfl (fun K hK => ?_) AllReadyH.nil
  refine take_if (by rfl) ?_
  go_simp
  (with_reducible refine (cppend_w I2.out.pl HO.out.p (ptb_any _) 1 (by decide) (by decide)).mono ?_)
  rintro e' y3 ⟨rfl, q, f⟩
  have hS2 : Blk y3 g 48 [.pointer (some ⟨b1, 0, none⟩), .pointer (some ⟨b2, 0, none⟩), .pointer (some ⟨b3, 0, none⟩), .pointer (some ⟨b4, 0, none⟩), .pointer (some ⟨b5, 0, none⟩)] := hS.fr f HG.out.2
  have I3 := Lib.hid ((show BI y3 lo hi g a1 a2 a3 a4 a5 b1 b2 b3 b4 b5 S ∧ Fr y2 y3 (Rg lo hi) from I2.out.up_pl q f).1)
  have F3 := Lib.hid ((show BI y3 lo hi g a1 a2 a3 a4 a5 b1 b2 b3 b4 b5 S ∧ Fr y2 y3 (Rg lo hi) from I2.out.up_pl q f).2)
  clear q f
  refine hK.out _ _ hS2 (fun hS => ?_)
  clear hK K hS2
  try simp only [Act.put, List.setIfInBounds_toArray, List.set_cons_zero, List.set_cons_succ]
  refine wpAnyH_ready (rs := [18]) (by kernel_rfl) (by simp) ?_
  refine AllReadyH.cons (o := { dst := some 21, op := Op.call { callee := Callee.value (Operand.func 30), args := #[Operand.tmp 20, Operand.const (Value.int IntKind.u64 9)], argTypes := #[4, 49] }, type := 22, pos := "bus.go:80", after := #[{ on := 17, ground := Ground.data }, { on := 17, ground := Ground.chain }], guard := none }) rfl (fun K hK => ?_) AllReadyH.nil
  refine take_if (by rfl) ?_
  go_simp
  (with_reducible refine (jline_9 _ x9 HX9.out _).mono ?_)
  rintro e' y3 ⟨rfl, rfl⟩
  have hS2 : Blk y3 g 48 [.pointer (some ⟨b1, 0, none⟩), .pointer (some ⟨b2, 0, none⟩), .pointer (some ⟨b3, 0, none⟩), .pointer (some ⟨b4, 0, none⟩), .pointer (some ⟨b5, 0, none⟩)] := hS
  refine hK.out _ _ hS2 (fun hS => ?_)
  clear hK K hS2
  try simp only [Act.put, List.setIfInBounds_toArray, List.set_cons_zero, List.set_cons_succ]
  (refine wpAnyH_take (i := 19) (oi := { dst := some 22, op := Op.binOp BinOp.or 22 (Operand.tmp 15) (Operand.tmp 21) 22, type := 22, pos := "bus.go:78", after := #[{ on := 12, ground := Ground.data }, { on := 18, ground := Ground.data }], guard := none }) (v := ?_) rfl (by kernel_rfl) (by kernel_rfl) (by kernel_rfl) (fun _ _ _ h => h) (Or.inl ⟨by rfl, ?_⟩) hS ?_; rotate_left; focus (intro w' s0; go_simp <;> try with_reducible rfl))
  try simp only [Act.put, List.setIfInBounds_toArray, List.set_cons_zero, List.set_cons_succ]
  refine wpAnyH_ready (rs := [24]) (by kernel_rfl) (by simp) ?_
  refine AllReadyH.cons (o := { dst := some 27, op := Op.call { callee := Callee.value (Operand.func 33), args := #[Operand.tmp 26, Operand.const (Value.int IntKind.i64 0)], argTypes := #[44, 3] }, type := 4, pos := "bus.go:81", after := #[{ on := 23, ground := Ground.data }, { on := 18, ground := Ground.chain }], guard := none }) rfl (fun K hK => ?_) AllReadyH.nil
  refine take_if (by rfl) ?_
  go_simp
  (with_reducible refine (cppend_w I3.out.pl HO.out.p (ptb_any _) 0 (by decide) (by decide)).mono ?_)
  rintro e' y4 ⟨rfl, q, f⟩
  have hS2 : Blk y4 g 48 [.pointer (some ⟨b1, 0, none⟩), .pointer (some ⟨b2, 0, none⟩), .pointer (some ⟨b3, 0, none⟩), .pointer (some ⟨b4, 0, none⟩), .pointer (some ⟨b5, 0, none⟩)] := hS.fr f HG.out.2
  have I4 := Lib.hid ((show BI y4 lo hi g a1 a2 a3 a4 a5 b1 b2 b3 b4 b5 S ∧ Fr y3 y4 (Rg lo hi) from I3.out.up_pl q f).1)
  have F4 := Lib.hid ((show BI y4 lo hi g a1 a2 a3 a4 a5 b1 b2 b3 b4 b5 S ∧ Fr y3 y4 (Rg lo hi) from I3.out.up_pl q f).2)
  clear q f
  refine hK.out _ _ hS2 (fun hS => ?_)
  clear hK K hS2
  try simp only [Act.put, List.setIfInBounds_toArray, List.set_cons_zero, List.set_cons_succ]
  refine wpAnyH_ready (rs := [25]) (by kernel_rfl) (by simp) ?_
  refine AllReadyH.cons (o := { dst := some 28, op := Op.call { callee := Callee.value (Operand.func 30), args := #[Operand.tmp 27, Operand.const (Value.int IntKind.u64 11)], argTypes := #[4, 49] }, type := 22, pos := "bus.go:81", after := #[{ on := 24, ground := Ground.data }, { on := 24, ground := Ground.chain }], guard := none }) rfl (fun K hK => ?_) AllReadyH.nil
  refine take_if (by rfl) ?_
  go_simp
  (with_reducible refine (jline_11 _ x11 HX11.out _).mono ?_)
  rintro e' y4 ⟨rfl, rfl⟩
  have hS2 : Blk y4 g 48 [.pointer (some ⟨b1, 0, none⟩), .pointer (some ⟨b2, 0, none⟩), .pointer (some ⟨b3, 0, none⟩), .pointer (some ⟨b4, 0, none⟩), .pointer (some ⟨b5, 0, none⟩)] := hS
  refine hK.out _ _ hS2 (fun hS => ?_)
  clear hK K hS2
  try simp only [Act.put, List.setIfInBounds_toArray, List.set_cons_zero, List.set_cons_succ]
  (refine wpAnyH_take (i := 26) (oi := { dst := some 29, op := Op.binOp BinOp.or 22 (Operand.tmp 22) (Operand.tmp 28) 22, type := 22, pos := "bus.go:78", after := #[{ on := 19, ground := Ground.data }, { on := 25, ground := Ground.data }], guard := none }) (v := ?_) rfl (by kernel_rfl) (by kernel_rfl) (by kernel_rfl) (fun _ _ _ h => h) (Or.inl ⟨by rfl, ?_⟩) hS ?_; rotate_left; focus (intro w' s0; go_simp <;> try with_reducible rfl))
  try simp only [Act.put, List.setIfInBounds_toArray, List.set_cons_zero, List.set_cons_succ]
  (refine wpAnyH_take (i := 27) (oi := { dst := some 2, op := Op.assign (Operand.tmp 29), type := 22, pos := "bus.go:78", after := #[{ on := 26, ground := Ground.data }, { on := 25, ground := Ground.chain }, { on := 0, ground := Ground.phase }, { on := 1, ground := Ground.phase }, { on := 2, ground := Ground.phase }, { on := 3, ground := Ground.phase }, { on := 4, ground := Ground.phase }, { on := 5, ground := Ground.phase }, { on := 6, ground := Ground.phase }, { on := 7, ground := Ground.phase }, { on := 8, ground := Ground.phase }, { on := 9, ground := Ground.phase }, { on := 10, ground := Ground.phase }, { on := 11, ground := Ground.phase }, { on := 12, ground := Ground.phase }, { on := 13, ground := Ground.phase }, { on := 14, ground := Ground.phase }, { on := 15, ground := Ground.phase }, { on := 16, ground := Ground.phase }, { on := 17, ground := Ground.phase }, { on := 18, ground := Ground.phase }, { on := 19, ground := Ground.phase }, { on := 20, ground := Ground.phase }, { on := 21, ground := Ground.phase }, { on := 22, ground := Ground.phase }, { on := 23, ground := Ground.phase }, { on := 24, ground := Ground.phase }, { on := 25, ground := Ground.phase }, { on := 26, ground := Ground.phase }], guard := none }) (v := ?_) rfl (by kernel_rfl) (by kernel_rfl) (by kernel_rfl) (fun _ _ _ h => h) (Or.inl ⟨by rfl, ?_⟩) hS ?_; rotate_left; focus (intro w' s0; go_simp <;> try with_reducible rfl))
  try simp only [Act.put, List.setIfInBounds_toArray, List.set_cons_zero, List.set_cons_succ]
  refine wpAnyH_done (by kernel_rfl) ?_ _
  go_wp2
  go_ret
  exact ⟨by rw [HR.out]; rfl, I4.out, (((F0.out.trans F1.out (fun _ _ x => x)).trans F2.out (fun _ _ x => x)).trans F3.out (fun _ _ x => x)).trans F4.out (fun _ _ x => x)⟩
theorem Bu.pw {w : World} {lo hi g : Nat} {S : BS} (m : Bu w lo hi g S) (tb : JTb w) : ∃ gp, w.cell? ⟨g, 4, none⟩ = some (.pointer (some ⟨gp, 0, none⟩)) ∧ Calls Try.prog 15 #[.pointer (some ⟨gp, 0, none⟩)] w fun e w' => e = .returned (.bool S.w) ∧ Bu w' lo hi g S ∧ Fr w w' (Rg lo hi) := by
  obtain ⟨a1, a2, a3, a4, a5, b1, b2, b3, b4, b5, x⟩ := m.x
  exact ⟨b5, x.blk.at_ 4 _ rfl, (cpwoff_w x.pw (utb_any _)).mono fun e w' y => by
    obtain ⟨rfl, q, f⟩ := y
    have z : BI w' lo hi g a1 a2 a3 a4 a5 b1 b2 b3 b4 b5 S ∧ Fr w w' (Rg lo hi) := x.up_pw q f
    exact ⟨rfl, z.1.bu, z.2⟩⟩
theorem cjload_w {w : World} {lo hi g : Nat} {S : BS} (m : Bu w lo hi g S) (ok : S.Ok) (tb : JTb w) (pa size : Int) (p0 : 0 ≤ pa) (p1 : pa < 18446744073709551616) (s0 : -9223372036854775808 ≤ size) (s1 : size < 9223372036854775808) : Calls Try.prog 10 #[.pointer (some ⟨g, 0, none⟩), .int .u64 pa, .int .i64 size] w fun e w' => e = .returned (.tuple #[.int .u64 (S.ldV pa size), .bool (S.ldO pa size)]) ∧ Bu w' lo hi g (S.ldS pa size) ∧ Fr w w' (Rg lo hi) := by
  obtain ⟨a1, a2, a3, a4, a5, b1, b2, b3, b4, b5, x⟩ := m.x
  exact (jload_i x ok pa size p0 p1 s0 s1).mono fun e w' y => ⟨y.1, y.2.1.bu, y.2.2⟩
theorem cjstore_w {w : World} {lo hi g : Nat} {S : BS} (m : Bu w lo hi g S) (ok : S.Ok) (tb : JTb w) (pa size v : Int) (p0 : 0 ≤ pa) (p1 : pa < 18446744073709551616) (s0 : -9223372036854775808 ≤ size) (s1 : size < 9223372036854775808) (v0 : 0 ≤ v) (v1 : v < 18446744073709551616) : Calls Try.prog 11 #[.pointer (some ⟨g, 0, none⟩), .int .u64 pa, .int .i64 size, .int .u64 v] w fun e w' => e = .returned (.bool (S.ldO pa size)) ∧ Bu w' lo hi g (S.stS pa size v) ∧ Fr w w' (Rg lo hi) := by
  obtain ⟨a1, a2, a3, a4, a5, b1, b2, b3, b4, b5, x⟩ := m.x
  exact (jstore_i x ok pa size p0 p1 s0 s1 v v0 v1).mono fun e w' y => ⟨y.1, y.2.1.bu, y.2.2⟩
theorem cjlines_w {w : World} {lo hi g : Nat} {S : BS} (m : Bu w lo hi g S) (ok : S.Ok) (tb : JTb w) : Calls Try.prog 13 #[.pointer (some ⟨g, 0, none⟩)] w fun e w' => e = .returned (.int .u64 S.lines) ∧ Bu w' lo hi g S ∧ Fr w w' (Rg lo hi) := by
  obtain ⟨a1, a2, a3, a4, a5, b1, b2, b3, b4, b5, x⟩ := m.x
  exact (jlines_i x ok).mono fun e w' y => ⟨y.1, y.2.1.bu, y.2.2⟩
theorem cjinram_w {w : World} {lo hi g : Nat} {S : BS} (m : Bu w lo hi g S) (ok : S.Ok) (tb : JTb w) (pa n : Int) (p0 : 0 ≤ pa) (p1 : pa < 18446744073709551616) (s0 : -9223372036854775808 ≤ n) (s1 : n < 9223372036854775808) : Calls Try.prog 14 #[.pointer (some ⟨g, 0, none⟩), .int .u64 pa, .int .i64 n] w fun e w' => e = .returned (.bool (inJ pa n 2147483648 S.B.length)) ∧ Bu w' lo hi g S ∧ Fr w w' (Rg lo hi) := by
  obtain ⟨a1, a2, a3, a4, a5, b1, b2, b3, b4, b5, x⟩ := m.x
  exact (jinram_i x pa n _ rfl p0 p1 s0 s1).mono fun e w' y => ⟨y.1, (x.kp y.2).bu, Fr.of_kp y.2 _⟩
theorem cjloadcap_w {w : World} {lo hi g : Nat} {S : BS} (m : Bu w lo hi g S) (ok : S.Ok) (tb : JTb w) (pa : Int) (p0 : 0 ≤ pa) (p1 : pa < 18446744073709551616) : Calls Try.prog 9 #[.pointer (some ⟨g, 0, none⟩), .int .u64 pa] w fun e w' => e = .returned (.tuple #[S.lcV pa, .bool (S.lcO pa)]) ∧ Bu w' lo hi g S ∧ Fr w w' (Rg lo hi) := by
  obtain ⟨a1, a2, a3, a4, a5, b1, b2, b3, b4, b5, x⟩ := m.x
  have mb : 0 ≤ cpM S.B (pa - 2147483648) ∧ cpM S.B (pa - 2147483648) < 18446744073709551616 := by
    unfold cpM
    split
    · exact numB_bd ok.byb _ 8
    · decide
  cases hi16 : inJ pa 16 2147483648 S.B.length with
  | false =>
    have e1 : S.lcO pa = false := by simp only [BS.lcO, hi16, Bool.false_and]
    rw [show S.lcV pa = zeV by simp [BS.lcV, e1], e1]
    exact (jlc_out x pa p0 p1 hi16).mono fun e w' y => ⟨y.1, y.2.1.bu, y.2.2⟩
  | true =>
    cases hk : cpO S.B.length (pa - 2147483648) with
    | false =>
      have e1 : S.lcO pa = false := by simp only [BS.lcO, hi16, hk, Bool.and_false]
      rw [show S.lcV pa = zeV by simp [BS.lcV, e1], e1]
      exact (jlc_no x pa p0 p1 hi16 hk).mono fun e w' y => ⟨y.1, y.2.1.bu, y.2.2⟩
    | true =>
      have e1 : S.lcO pa = true := by simp only [BS.lcO, hi16, hk, Bool.and_self]
      rw [show S.lcV pa = unV (cpT S.T S.B.length (pa - 2147483648)) (cpA S.B (pa - 2147483648)) (cpM S.B (pa - 2147483648)) by simp [BS.lcV, e1], e1]
      exact (jlc_yes x pa p0 p1 hi16 hk _ _ _ rfl rfl rfl mb.1 mb.2).mono fun e w' y => ⟨y.1, y.2.1.bu, y.2.2⟩
theorem cjstorecap_w {w : World} {lo hi g : Nat} {S : BS} (m : Bu w lo hi g S) (ok : S.Ok) (tb : JTb w) (pa : Int) (p0 : 0 ≤ pa) (p1 : pa < 18446744073709551616) (tg : Bool) (pe ty mo ex b t : Int) (bg : Bool) (a : Int) (hR : RightP pe ty mo ex b t bg) (a0 : 0 ≤ a) (a1 : a < 18446744073709551616) : Calls Try.prog 8 #[.pointer (some ⟨g, 0, none⟩), .int .u64 pa, .agg #[.bool tg, .int .i64 pe, .int .i64 ty, .int .i64 mo, .int .i64 ex, .int .i64 b, .int .i64 t, .bool bg, .int .u64 a]] w fun e w' => e = .returned (.bool (S.lcO pa)) ∧ Bu w' lo hi g (S.scS pa tg a (xk (bitsV pe ty mo ex b t bg))) ∧ Fr w w' (Rg lo hi) := by
  have ha1 := a1
  obtain ⟨a1, a2, a3, a4, a5, b1, b2, b3, b4, b5, x⟩ := m.x
  cases hi16 : inJ pa 16 2147483648 S.B.length with
  | false =>
    have e1 : S.lcO pa = false := by simp only [BS.lcO, hi16, Bool.false_and]
    rw [show ∀ d, S.scS pa tg a d = S from fun d => by simp [BS.scS, e1], e1]
    exact (jsc_out x pa p0 p1 hi16 tg pe ty mo ex b t bg a hR a0 ha1).mono fun e w' y => ⟨y.1, y.2.1.bu, y.2.2⟩
  | true =>
    have e1 : S.lcO pa = cpO S.B.length (pa - 2147483648) := by simp only [BS.lcO, hi16, Bool.true_and]
    have e2 : ∀ d, S.scS pa tg a d = { S with B := cB S.B (pa - 2147483648) a d, T := cT S.B.length S.T (pa - 2147483648) tg } := fun d => by
      cases hk : cpO S.B.length (pa - 2147483648) with
      | true => simp [BS.scS, e1, hk]
      | false => simp [BS.scS, e1, hk, cB, cT]
    rw [e1, e2]
    exact (jsc_in x pa p0 p1 hi16 tg pe ty mo ex b t bg a hR a0 ha1).mono fun e w' y => ⟨y.1, y.2.1.bu, y.2.2⟩
end Go.Proofs.Ytikibfpfieoabaa
