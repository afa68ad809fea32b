/-
  Contracts of capenc's mix and split, and of toBits: a right capability's fields as bits.
  Contracts of capenc's fits, rightBounds and Right: whether a capability's fields are in their places. No condition but that fields are numbers of 64 bits.
  Which capabilities are right; the contract of layer 6's own Right: are all of some right, and at most 40? Numbers are within their types.
  Contracts of the lists that laws lend: their marks, a list that is written over, one that is looked at again. Lists of a thousand at most.
  Contracts of the law's own 'less': has a capability no more bounds and permissions than another one? And what Move, Bound, Less leave is a subset. Bounds' fields are in their places.
  Less is an order: what is not sealed is no more than itself; what is no more than what is no more is no more; moved it is no more. Plain mathematics.
  The contracts of the document's answer for bounds, with the plain mathematics put in: Of, Fits. Bounds' fields are in their places.
  The contracts of the document's Less and 'with': is a capability no more than another one; is there one that may open, or seal with, a type? Capabilities' numbers are in their places.
  The contract of the document's 'with': is there one with a tag, not sealed, with a permission, and a type in its bounds? Capabilities' numbers are in their places, the type is one that can be sealed with.
  The contract of the document's Close: it tells the closure, in memory of its own. Capabilities' numbers are in their places, at most a thousand of them.
-/
import Derived.Test.YtmehbildddlgaaaECode
import Derived.Test.YtmehbildddlgaaaOSame
import Derived.Test.YtmehbildddlgaaaODef
import Derived.Test.YtmehbildddlgaaaOFr
import Derived.LoopN
import Derived.Test.YtmehbildddlgaaaCSub
import Derived.Test.YtmehbildddlgaaaCPerm
import Derived.Test.YtmehbildddlgaaaCMove
import Derived.Test.YtmehbildddlgaaaCBound
import Derived.Test.YtmehbildddlgaaaCRefOf
import Derived.Test.YtmehbildddlgaaaOClo
import Derived.Test.YtmehbildddlgaaaOSmall
import Derived.Test.YtmehbildddlgaaaOThere
import Derived.Test.YtmehbildddlgaaaOPost
namespace Go.Proofs.Ytmehbildddlgaaa
open Go.ChangeShapes Go.WideShapes Go.ChangeAt Go.RowKit
set_option linter.unusedVariables false
set_option linter.unusedSimpArgs false

/-- A capability's fields as bits. -/
def bitsV (pe ty mo e b t : Int) (g : Bool) : Int := (b + b01 g * (e % 8)) + 16384 * (t + b01 g * (e / 8)) + 67108864 * b01 g + 134217728 * ty + 35184372088832 * mo + 70368744177664 * pe
end Go.Proofs.Ytmehbildddlgaaa
namespace Go.Proofs.Ytmehbildddlgaaa
open Go.ChangeShapes Go.WideShapes Go.ChangeAt Go.RowKit
set_option linter.unusedVariables false
set_option linter.unusedSimpArgs false

/-- From 0 up to ahead of m. -/
def fitB (m f : Int) : Bool := decide (0 ≤ f) && decide (f < m)
theorem fitB_div (f : Int) (k : Nat) : (f / 2 ^ k == 0) = fitB (2 ^ k) f := by
  have hk := pow_pos2 k
  rw [Bool.eq_iff_iff]
  simp only [fitB, beq_iff_eq, Bool.and_eq_true, decide_eq_true_eq]
  constructor
  · intro h
    have h1 := Int.emod_add_mul_ediv f (2 ^ k)
    have h2 := Int.emod_nonneg f (Int.ne_of_gt hk)
    have h3 := Int.emod_lt_of_pos f hk
    rw [h, Int.mul_zero] at h1
    omega
  · rintro ⟨h1, h2⟩
    exact Int.ediv_eq_zero_of_lt h1 h2
/-- Bounds' fields are in their places. -/
def rbB (e b t : Int) (g : Bool) : Bool := fitB 16384 b && fitB 4096 t && (if g then decide (0 ≤ e) && decide (e ≤ 52) && decide (b % 8 = 0) && decide (t % 8 = 0) else decide (e = 0))
def rightB (pe ty mo e b t : Int) (g : Bool) : Bool := fitB 65536 pe && fitB 262144 ty && fitB 2 mo && rbB e b t g
theorem efits_w (f k m : Int) (hm : (2 : Int) ^ k.toNat = m) (k0 : 0 ≤ k) (k1 : k ≤ 30) (f0 : -9223372036854775808 ≤ f) (f1 : f < 9223372036854775808) (w : World) :
    Calls Try.prog 30 #[.int .i64 f, .int .u64 k] w fun e w' => e = .returned (.bool (fitB m f)) ∧ w = w' := by
  have H := Lib.hid hm
  clear hm
  go_enter Try.func30, Try.ntmps30
  go_wp2
  go_ret
  refine ⟨ret_bool ?_, rfl⟩
  rw [← H.out]; exact fitB_div f k.toNat
theorem low_both (b t : Int) (b0 : 0 ≤ b) (b1 : b < 16384) (t0 : 0 ≤ t) (t1 : t < 4096) : (bits .and .i64 (bits .or .i64 b t) 7 == 0) = (decide (b % 8 = 0) && decide (t % 8 = 0)) := by
  have h := or_bd b t b0 (by omega) t0 (by omega)
  have h2 := or_low b t b0 (by omega) t0 (by omega)
  rw [and_i7 _ h.1 (by omega), Bool.eq_iff_iff]
  simpa using h2
theorem rb_w (tg : Bool) (pe ty mo e b t : Int) (g : Bool) (a : Int) (e0 : -9223372036854775808 ≤ e) (e1 : e < 9223372036854775808) (b0 : -9223372036854775808 ≤ b) (b1 : b < 9223372036854775808) (t0 : -9223372036854775808 ≤ t) (t1 : t < 9223372036854775808) (w : World) :
    Calls Try.prog 31 #[.agg #[.bool tg, .int .i64 pe, .int .i64 ty, .int .i64 mo, .int .i64 e, .int .i64 b, .int .i64 t, .bool g, .int .u64 a]] w fun e' w' => e' = .returned (.bool (rbB e b t g)) ∧ Kp w w' := by
  have K := (Kp.refl w).allocs #[.bool tg, .int .i64 pe, .int .i64 ty, .int .i64 mo, .int .i64 e, .int .i64 b, .int .i64 t, .bool g, .int .u64 a] 25
  have H1 : fitB 16384 b = true → 0 ≤ b ∧ b < 16384 := by simp [fitB]
  have H2 : fitB 4096 t = true → 0 ≤ t ∧ t < 4096 := by simp [fitB]
  have HH := Lib.hid (And.intro H1 H2)
  clear H1 H2
  cases h1 : fitB 16384 b <;> cases h2 : fitB 4096 t <;> cases g
  all_goals
    go_enter Try.func31, Try.ntmps31
    go_wp2_with (first
      | (go_at_call 30; (with_reducible refine (efits_w b 14 16384 (by decide) (by omega) (by omega) b0 b1 _).mono ?_); rintro e' w1 ⟨rfl, rfl⟩)
      | (go_at_call 30; (with_reducible refine (efits_w t 12 4096 (by decide) (by omega) (by omega) t0 t1 _).mono ?_); rintro e' w1 ⟨rfl, rfl⟩))
  all_goals
    go_ret
    refine ⟨ret_bool ?_, K⟩
    first
      | (simp [rbB, h1, h2]; done)
      | (rw [low_both b t (HH.out.1 h1).1 (HH.out.1 h1).2 (HH.out.2 h2).1 (HH.out.2 h2).2]; simp [rbB, h1, h2, *]; done)
      | (have e2 : decide (0 ≤ e) && decide (e ≤ 52) = false := by simp; omega
         simp only [rbB, e2, if_true, Bool.false_and, Bool.and_false]; done)
      | (rw [Bool.eq_iff_iff]; simp [rbB, h1, h2]; done)
      | (simp [rbB, h1, h2]; omega)
theorem right_w (tg : Bool) (pe ty mo e b t : Int) (g : Bool) (a : Int) (p0 : -9223372036854775808 ≤ pe) (p1 : pe < 9223372036854775808) (y0 : -9223372036854775808 ≤ ty) (y1 : ty < 9223372036854775808) (o0 : -9223372036854775808 ≤ mo) (o1 : mo < 9223372036854775808)
    (e0 : -9223372036854775808 ≤ e) (e1 : e < 9223372036854775808) (b0 : -9223372036854775808 ≤ b) (b1 : b < 9223372036854775808) (t0 : -9223372036854775808 ≤ t) (t1 : t < 9223372036854775808) (w : World) :
    Calls Try.prog 10 #[.agg #[.bool tg, .int .i64 pe, .int .i64 ty, .int .i64 mo, .int .i64 e, .int .i64 b, .int .i64 t, .bool g, .int .u64 a]] w fun e' w' => e' = .returned (.bool (rightB pe ty mo e b t g)) ∧ Kp w w' := by
  cases h1 : fitB 65536 pe <;> cases h2 : fitB 262144 ty <;> cases h3 : fitB 2 mo
  all_goals
    go_enter Try.func10, Try.ntmps10
    go_wp2_with (first
      | (go_at_call 30; (with_reducible refine (efits_w pe 16 65536 (by decide) (by omega) (by omega) p0 p1 _).mono ?_); rintro e' w1 ⟨rfl, rfl⟩)
      | (go_at_call 30; (with_reducible refine (efits_w ty 18 262144 (by decide) (by omega) (by omega) y0 y1 _).mono ?_); rintro e' w1 ⟨rfl, rfl⟩)
      | (go_at_call 30; (with_reducible refine (efits_w mo 1 2 (by decide) (by omega) (by omega) o0 o1 _).mono ?_); rintro e' w1 ⟨rfl, rfl⟩)
      | (go_at_call 31; (with_reducible refine (rb_w tg pe ty mo e b t g a e0 e1 b0 b1 t0 t1 _).mono ?_); rintro e' w1 ⟨rfl, q⟩; have KW := Lib.hid (Kp.trans ((Kp.refl w).allocs _ _) q); clear q))
  all_goals
    go_ret
    refine ⟨ret_bool ?_, ?_⟩
  all_goals first
    | (simp [rightB, h1, h2, h3]; done)
    | exact (Kp.refl w).allocs _ _
    | exact KW.out
end Go.Proofs.Ytmehbildddlgaaa
namespace Go.Proofs.Ytmehbildddlgaaa
open Go.ChangeShapes Go.WideShapes Go.ChangeAt Go.RowKit
set_option linter.unusedVariables false
set_option linter.unusedSimpArgs false

/-- A capability's numbers are within their types. -/
structure Raw (c : Cp) : Prop where
  p0 : -9223372036854775808 ≤ c.pe
  p1 : c.pe < 9223372036854775808
  y0 : -9223372036854775808 ≤ c.ty
  y1 : c.ty < 9223372036854775808
  o0 : -9223372036854775808 ≤ c.mo
  o1 : c.mo < 9223372036854775808
  e0 : -9223372036854775808 ≤ c.e
  e1 : c.e < 9223372036854775808
  b0 : -9223372036854775808 ≤ c.b
  b1 : c.b < 9223372036854775808
  t0 : -9223372036854775808 ≤ c.t
  t1 : c.t < 9223372036854775808
  a0 : 0 ≤ c.a
  a1 : c.a < 18446744073709551616
def rightC (c : Cp) : Bool := rightB c.pe c.ty c.mo c.e c.b c.t c.g
theorem RC.of_right {c : Cp} (h : Raw c) (r : rightC c = true) : RC c := by
  have a0 := h.a0
  have a1 := h.a1
  simp only [rightC, rightB, rbB, fitB, Bool.and_eq_true, decide_eq_true_eq] at r
  obtain ⟨⟨⟨⟨p0, p1⟩, y0, y1⟩, o0, o1⟩, ⟨⟨b0, b1⟩, t0, t1⟩, he⟩ := r
  have e : 0 ≤ c.e ∧ c.e ≤ 52 := by
    split at he
    · simp only [Bool.and_eq_true, decide_eq_true_eq] at he; omega
    · simp only [decide_eq_true_eq] at he; omega
  exact ⟨p0, p1, y0, y1, o0, o1, ⟨e.1, e.2, b0, b1, t0, t1, a0, a1⟩⟩
def rightL (L : List Cp) : Bool := L.all rightC && decide (L.length ≤ 40)
theorem right_c (c : Cp) (h : Raw c) (v : Bool) (hv : rightC c = v) (w : World) : Calls Try.prog 10 #[.agg #[.bool c.tg, .int .i64 c.pe, .int .i64 c.ty, .int .i64 c.mo, .int .i64 c.e, .int .i64 c.b, .int .i64 c.t, .bool c.g, .int .u64 c.a]] w fun e' w' => e' = .returned (.bool v) ∧ Kp w w' := hv ▸ right_w c.tg c.pe c.ty c.mo c.e c.b c.t c.g c.a h.p0 h.p1 h.y0 h.y1 h.o0 h.o1 h.e0 h.e1 h.b0 h.b1 h.t0 h.t1 w
set_option maxHeartbeats 2000000 in
set_option maxRecDepth 100000 in
theorem rightl_w (L : List Cp) (A : Option Addr) (n : Nat) (w : World) (h : Rd w w.heap.size A L) (hl : L.length ≤ 4611686018427387904) (hr : ∀ c ∈ L, Raw c) (v : Bool) (hv : rightL L = v) :
    Calls Try.prog 9 #[.slice A L.length n] w fun e' w' => e' = .returned (.bool v) ∧ Kp w w' := by
  have HR := Lib.hid h
  have HW := Lib.hid hr
  clear h hr
  go_enter Try.func9, Try.ntmps9
  go_wp2
  go_loopw [3] (fun i wr => ∃ k : Nat, k ≤ L.length ∧ i = .int .i64 k ∧ (∀ c ∈ L.take k, rightC c = true) ∧ Kp w wr) (fun i _ => L.length - (intOf i).toNat)
  case atStart => exact ⟨0, Nat.zero_le _, rfl, by simp, Kp.refl w⟩
  case round =>
    obtain ⟨k, hk, rfl, hx, hkp⟩ := hrel
    have HX := Lib.hid hx
    have HKP := Lib.hid hkp
    clear hx hkp
    by_cases hlt : k < L.length
    · obtain ⟨b, o, rfl, hb, c, hc, hr⟩ := (HR.out.kp HKP.out (Nat.le_refl _)).at_ hlt
      obtain ⟨r0, r1, r2, r3, r4, r5, r6, r7, r8⟩ := hr.out
      have HC := Lib.hid hc
      have HCW := Lib.hid (HW.out c (List.mem_of_getElem? hc))
      clear hc hr
      cases ev : rightC c
      all_goals
        have HV := Lib.hid ev
        clear ev
        go_wp2_with (first | (go_at_call 10; (with_reducible refine (right_c c HCW.out _ HV.out _).mono ?_); rintro e' w1 ⟨rfl, qk⟩; have HQ := Lib.hid (HKP.out.trans qk); clear qk))
      · go_ret
        exact ⟨ret_bool (by rw [← hv, eq_comm, rightL, Bool.and_eq_false_iff, List.all_eq_false]; exact .inl ⟨c, List.mem_of_getElem? HC.out, by rw [HV.out]; decide⟩), HQ.out⟩
      · go_roundw
        case rel => exact ⟨k + 1, by omega, by go_num, by
          rw [List.take_add_one, HC.out]; intro d hd; rcases List.mem_append.1 hd with hd | hd
          · exact HX.out d hd
          · have : d = c := by simpa using hd
            subst this; exact HV.out, HQ.out⟩
        case measure => simp [intOf]; omega
    · go_wp2
      go_ret
      exact ⟨ret_bool (by
        have e : L.take k = L := List.take_of_length_le (by omega)
        rw [e] at HX
        rw [← hv, rightL, List.all_eq_true.2 HX.out, Bool.true_and, Bool.eq_iff_iff]
        simp
        omega), HKP.out⟩
end Go.Proofs.Ytmehbildddlgaaa
namespace Go.Proofs.Ytmehbildddlgaaa
open Go.ChangeShapes Go.WideShapes Go.ChangeAt Go.RowKit
set_option linter.unusedVariables false
set_option linter.unusedSimpArgs false

def markP (p : Int) : Cp := ⟨false, p, 0, 0, 0, 0, 0, false, 5⟩
def marks : List Cp := [markP 777, markP 778, markP 779, markP 780, markP 781]
theorem mark_w (i p : Int) (hp : 777 + i = p) (i0 : 0 ≤ i) (i1 : i < 10000) (w : World) :
    Calls Try.prog 34 #[.int .i64 i] w fun e w' => e = .returned (.agg #[.bool false, .int .i64 p, .int .i64 0, .int .i64 0, .int .i64 0, .int .i64 0, .int .i64 0, .bool false, .int .u64 5]) ∧ Kp w w' := by
  subst hp
  go_enter Try.func34, Try.ntmps34
  go_wp2
  refine bodyPost_ret ?_ rfl ⟨rfl, by (repeat' (first | with_reducible refine Kp.setCell ?_ ?_ _ | with_reducible refine Kp.allocs ?_ _ _)); all_goals first | exact Kp.refl w | (dsimp only; omega)⟩
  simp [results, Try.results34, go_sem]
theorem Fr.nine {a b : World} {S : Nat → Prop} (h : Fr a b S) (g p : Nat) (hS : S g) (u0 u1 u2 u3 u4 u5 u6 u7 u8 : Value) :
    Fr a (((((((((b.setCell ⟨g, p, none⟩ u0).setCell ⟨g, p + 1, none⟩ u1).setCell ⟨g, p + 2, none⟩ u2).setCell ⟨g, p + 3, none⟩ u3).setCell ⟨g, p + 4, none⟩ u4).setCell ⟨g, p + 5, none⟩ u5).setCell ⟨g, p + 6, none⟩ u6).setCell ⟨g, p + 7, none⟩ u7).setCell ⟨g, p + 8, none⟩ u8) S :=
  ((((((((h.setCell (.inr hS) _).setCell (.inr hS) _).setCell (.inr hS) _).setCell (.inr hS) _).setCell (.inr hS) _).setCell (.inr hS) _).setCell (.inr hS) _).setCell (.inr hS) _).setCell (.inr hS) _
theorem row_nine {w : World} {B n g cap : Nat} {xs : List Value} (h : w.ownsRow B 25 9 (.slice (some ⟨g, 0, none⟩) n cap) n xs) (p : Nat) (u0 u1 u2 u3 u4 u5 u6 u7 u8 : Value) :
    ∃ ys, World.ownsRow (((((((((w.setCell ⟨g, p, none⟩ u0).setCell ⟨g, p + 1, none⟩ u1).setCell ⟨g, p + 2, none⟩ u2).setCell ⟨g, p + 3, none⟩ u3).setCell ⟨g, p + 4, none⟩ u4).setCell ⟨g, p + 5, none⟩ u5).setCell ⟨g, p + 6, none⟩ u6).setCell ⟨g, p + 7, none⟩ u7).setCell ⟨g, p + 8, none⟩ u8) B 25 9 (.slice (some ⟨g, 0, none⟩) n cap) n ys :=
  ⟨_, ((((((((((((((((h.stored p u0).1.stored (p + 1) u1).1).stored (p + 2) u2).1).stored (p + 3) u3).1).stored (p + 4) u4).1).stored (p + 5) u5).1).stored (p + 6) u6).1).stored (p + 7) u7).1).stored (p + 8) u8).1⟩
set_option maxHeartbeats 4000000 in
set_option maxRecDepth 100000 in
theorem spoil_w (L : List Cp) (g cap B : Nat) (hl : L.length ≤ 1000) (w : World) (h : OwnC w B (.slice (some ⟨g, 0, none⟩) L.length cap) L) :
    Calls Try.prog 20 #[.slice (some ⟨g, 0, none⟩) L.length cap] w fun e w' => e = .returned (.tuple #[]) ∧ Fr w w' (fun k => k = g) := by
  have HH := Lib.hid h
  clear h
  go_enter Try.func20, Try.ntmps20
  go_wp2
  go_loopw [2] (fun i wr => ∃ (k : Nat) (xs : List Value), k ≤ L.length ∧ i = .int .i64 k ∧ wr.ownsRow B 25 9 (.slice (some ⟨g, 0, none⟩) L.length cap) L.length xs ∧ Fr w wr (fun k => k = g)) (fun i _ => L.length - (intOf i).toNat)
  case atStart => exact ⟨0, _, Nat.zero_le _, rfl, HH.out, Fr.refl _ _⟩
  case round =>
    obtain ⟨k, xs, hk, rfl, hown, hfr⟩ := hrel
    have HO := Lib.hid hown
    have HF := Lib.hid hfr
    clear hown hfr
    by_cases hlt : k < L.length
    · go_wp2_with (first | (go_at_call 34; (with_reducible refine (mark_w _ _ rfl (by omega) (by omega) _).mono ?_); rintro e' w1 ⟨rfl, qk⟩; have HO1 := Lib.hid (own_fr HO.out (Fr.of_kp qk (fun _ => False)) (fun _ _ h => h)); have HF1 := Lib.hid (HF.out.kp qk); clear qk; obtain ⟨u0, c0⟩ : ∃ u, w1.cell? ⟨g, k * 9, none⟩ = some u := (by rw [HO1.out.cellAt _ (by omega)]; exact ⟨_, List.getElem?_eq_getElem (by rw [HO1.out.1]; omega)⟩); have z0 := HO1.out.frozenAt (k * 9); obtain ⟨u1, c1⟩ : ∃ u, w1.cell? ⟨g, k * 9 + 1, none⟩ = some u := (by rw [HO1.out.cellAt _ (by omega)]; exact ⟨_, List.getElem?_eq_getElem (by rw [HO1.out.1]; omega)⟩); have z1 := HO1.out.frozenAt (k * 9 + 1); obtain ⟨u2, c2⟩ : ∃ u, w1.cell? ⟨g, k * 9 + 2, none⟩ = some u := (by rw [HO1.out.cellAt _ (by omega)]; exact ⟨_, List.getElem?_eq_getElem (by rw [HO1.out.1]; omega)⟩); have z2 := HO1.out.frozenAt (k * 9 + 2); obtain ⟨u3, c3⟩ : ∃ u, w1.cell? ⟨g, k * 9 + 3, none⟩ = some u := (by rw [HO1.out.cellAt _ (by omega)]; exact ⟨_, List.getElem?_eq_getElem (by rw [HO1.out.1]; omega)⟩); have z3 := HO1.out.frozenAt (k * 9 + 3); obtain ⟨u4, c4⟩ : ∃ u, w1.cell? ⟨g, k * 9 + 4, none⟩ = some u := (by rw [HO1.out.cellAt _ (by omega)]; exact ⟨_, List.getElem?_eq_getElem (by rw [HO1.out.1]; omega)⟩); have z4 := HO1.out.frozenAt (k * 9 + 4); obtain ⟨u5, c5⟩ : ∃ u, w1.cell? ⟨g, k * 9 + 5, none⟩ = some u := (by rw [HO1.out.cellAt _ (by omega)]; exact ⟨_, List.getElem?_eq_getElem (by rw [HO1.out.1]; omega)⟩); have z5 := HO1.out.frozenAt (k * 9 + 5); obtain ⟨u6, c6⟩ : ∃ u, w1.cell? ⟨g, k * 9 + 6, none⟩ = some u := (by rw [HO1.out.cellAt _ (by omega)]; exact ⟨_, List.getElem?_eq_getElem (by rw [HO1.out.1]; omega)⟩); have z6 := HO1.out.frozenAt (k * 9 + 6); obtain ⟨u7, c7⟩ : ∃ u, w1.cell? ⟨g, k * 9 + 7, none⟩ = some u := (by rw [HO1.out.cellAt _ (by omega)]; exact ⟨_, List.getElem?_eq_getElem (by rw [HO1.out.1]; omega)⟩); have z7 := HO1.out.frozenAt (k * 9 + 7); obtain ⟨u8, c8⟩ : ∃ u, w1.cell? ⟨g, k * 9 + 8, none⟩ = some u := (by rw [HO1.out.cellAt _ (by omega)]; exact ⟨_, List.getElem?_eq_getElem (by rw [HO1.out.1]; omega)⟩); have z8 := HO1.out.frozenAt (k * 9 + 8)))
      go_roundw
      case rel =>
        obtain ⟨ys, hys⟩ := row_nine HO1.out (k * 9) (.bool false) (.int .i64 (777 + ((k : Int) + 7))) (.int .i64 0) (.int .i64 0) (.int .i64 0) (.int .i64 0) (.int .i64 0) (.bool false) (.int .u64 5)
        exact ⟨k + 1, ys, by omega, by go_num, hys, HF1.out.nine g (k * 9) rfl _ _ _ _ _ _ _ _ _⟩
      case measure => simp [intOf]; omega
    · go_wp2
      refine bodyPost_end (v := .tuple #[]) (by simp [results, Try.results20, go_sem]) rfl ⟨rfl, HF.out⟩
set_option maxHeartbeats 4000000 in
set_option maxRecDepth 100000 in
theorem kept_w (L : List Cp) (A : Option Addr) (n g cap : Nat) (hl : L.length ≤ 1000) (hcap : L.length + 5 ≤ cap) (w : World) (h : Rd w w.heap.size A L) (hx : Rd w w.heap.size (some ⟨g, 0, none⟩) (L ++ marks)) :
    Calls Try.prog 21 #[.slice (some ⟨g, 0, none⟩) (L.length + 5) cap, .slice A L.length n] w fun e w' => e = .returned (.bool true) ∧ Kp w w' := by
  have hT : (L ++ marks).take L.length = L := by simp
  have hX := hx.take L.length
  rw [hT] at hX
  have HS := Lib.hid (same_w L L (some ⟨g, 0, none⟩) A cap n w hX h (by omega) (by omega) true (by simp))
  have hgl : g < w.heap.size := by
    obtain ⟨b, o, e, hb, _⟩ := hx (by simp [marks])
    cases e; exact hb
  have row : ∀ (k : Nat), k < 5 → Row w g ((L.length + k) * 9) (markP (777 + (k : Int))) := fun k hk => by
    obtain ⟨b, o, e, hb, hr⟩ := hx (by simp [marks])
    cases e
    have hm : marks[k]? = some (markP (777 + (k : Int))) := by
      match k, hk with
      | 0, _ => rfl
      | 1, _ => rfl
      | 2, _ => rfl
      | 3, _ => rfl
      | 4, _ => rfl
    have := hr (L.length + k) _ (by rw [List.getElem?_append_right (by omega)]; simpa using hm)
    simpa using this
  have HROW := Lib.hid row
  have e1 : ((((L.length + 5 : Nat) : Int)) != ((L.length : Int) + 5)) = false := by simp
  have e2 : (0 : Int) ≤ (L.length : Int) := by omega
  have e3 : (L.length : Int) ≤ (cap : Int) := by omega
  clear h hx hX hT row
  go_enter Try.func21, Try.ntmps21
  go_wp2_with (first | (go_at_call 15; (with_reducible refine HS.out.mono ?_); rintro e' w1 ⟨rfl, qk⟩; have HK1 := Lib.hid qk; clear qk))
  clear e1 e2 e3
  go_loopw [5] (fun i wr => ∃ k : Nat, k ≤ 5 ∧ i = .int .i64 k ∧ Kp w wr) (fun i _ => 5 - (intOf i).toNat)
  case atStart => exact ⟨0, by omega, rfl, HK1.out⟩
  case round =>
    obtain ⟨k, hk, rfl, hkp⟩ := hrel
    have HB : Bh w w.heap.size wr := ⟨hkp, Nat.le_refl _, hkp.size⟩
    have HKP := Lib.hid hkp
    clear hkp
    by_cases hlt : k < 5
    · have hi : (k : Int) < 5 := by omega
      obtain ⟨m, hm⟩ : ∃ m, L.length + k = m := ⟨_, rfl⟩
      have r := HROW.out k hlt
      rw [hm] at r
      obtain ⟨c0, c1, c2, c3, c4, c5, c6, c7, c8⟩ := (r.keep (w' := wr) fun p hp => HKP.out.cell (by rw [hp]; exact hgl)).out
      simp only [markP] at c0 c1 c2 c3 c4 c5 c6 c7 c8
      have E := cap_neq_cp (markP (777 + (k : Int))) (markP (777 + (k : Int))) true (Cp.eqB_self _)
      dsimp only [markP, Bool.not_true] at E
      have s1 : IntKind.i64.wrap ((L.length : Int) + (k : Int)) = (m : Int) := by rw [IntKind.wrap_i64]; omega
      have s2 : wrap64 ((L.length : Int) + (k : Int)) = (m : Int) := by unfold wrap64; omega
      have i0 : (0 : Int) ≤ (m : Int) := by omega
      have i1 : (m : Int) < (L.length : Int) + 5 := by omega
      have i2 : (m : Int) < ((L.length + 5 : Nat) : Int) := by omega
      have i3 : m < L.length + 5 := by omega
      clear hm r
      go_wp2
      go_region_held3 (fun v1 => v1.cell? ⟨g, m * 9, none⟩ = some (.bool false) ∧ v1.cell? ⟨g, m * 9 + 1, none⟩ = some (.int .i64 (777 + (k : Int))) ∧ v1.cell? ⟨g, m * 9 + 2, none⟩ = some (.int .i64 0) ∧ v1.cell? ⟨g, m * 9 + 3, none⟩ = some (.int .i64 0) ∧ v1.cell? ⟨g, m * 9 + 4, none⟩ = some (.int .i64 0) ∧ v1.cell? ⟨g, m * 9 + 5, none⟩ = some (.int .i64 0) ∧ v1.cell? ⟨g, m * 9 + 6, none⟩ = some (.int .i64 0) ∧ v1.cell? ⟨g, m * 9 + 7, none⟩ = some (.bool false) ∧ v1.cell? ⟨g, m * 9 + 8, none⟩ = some (.int .u64 5) ∧ Bh w (w.heap.size) v1)
        (first | (refine ⟨?_, ?_, ?_, ?_, ?_, ?_, ?_, ?_, ?_, ?_⟩ <;> first | with_reducible assumption | ((repeat' (first | with_reducible assumption | with_reducible apply Bh.drew | with_reducible apply Bh.alloc | with_reducible apply Bh.set | with_reducible refine Bh.cell_set (n := w.heap.size) (p := ⟨_, _, none⟩) ?_ ?_ ?_ | with_reducible refine Bh.cell_alloc (W := w) (n := w.heap.size) (p := ⟨_, _, none⟩) ?_ ?_ ?_ | (dsimp only; omega))); done) | (with_reducible apply Bh.drew; assumption) | (simp [go_sem, *]; done)))
        (first
          | (go_at_call 34; go_split_ands; refine (mark_w _ _ rfl (by omega) (by omega) _).mono ?_; rintro e v1 ⟨rfl, qk⟩; have q0 : v1.cell? ⟨g, m * 9, none⟩ = some (.bool false) := Bh.cell (n := w.heap.size) (W := w) (by with_reducible assumption) qk (by dsimp only; omega) (by with_reducible assumption); have q1 : v1.cell? ⟨g, m * 9 + 1, none⟩ = some (.int .i64 (777 + (k : Int))) := Bh.cell (n := w.heap.size) (W := w) (by with_reducible assumption) qk (by dsimp only; omega) (by with_reducible assumption); have q2 : v1.cell? ⟨g, m * 9 + 2, none⟩ = some (.int .i64 0) := Bh.cell (n := w.heap.size) (W := w) (by with_reducible assumption) qk (by dsimp only; omega) (by with_reducible assumption); have q3 : v1.cell? ⟨g, m * 9 + 3, none⟩ = some (.int .i64 0) := Bh.cell (n := w.heap.size) (W := w) (by with_reducible assumption) qk (by dsimp only; omega) (by with_reducible assumption); have q4 : v1.cell? ⟨g, m * 9 + 4, none⟩ = some (.int .i64 0) := Bh.cell (n := w.heap.size) (W := w) (by with_reducible assumption) qk (by dsimp only; omega) (by with_reducible assumption); have q5 : v1.cell? ⟨g, m * 9 + 5, none⟩ = some (.int .i64 0) := Bh.cell (n := w.heap.size) (W := w) (by with_reducible assumption) qk (by dsimp only; omega) (by with_reducible assumption); have q6 : v1.cell? ⟨g, m * 9 + 6, none⟩ = some (.int .i64 0) := Bh.cell (n := w.heap.size) (W := w) (by with_reducible assumption) qk (by dsimp only; omega) (by with_reducible assumption); have q7 : v1.cell? ⟨g, m * 9 + 7, none⟩ = some (.bool false) := Bh.cell (n := w.heap.size) (W := w) (by with_reducible assumption) qk (by dsimp only; omega) (by with_reducible assumption); have q8 : v1.cell? ⟨g, m * 9 + 8, none⟩ = some (.int .u64 5) := Bh.cell (n := w.heap.size) (W := w) (by with_reducible assumption) qk (by dsimp only; omega) (by with_reducible assumption); have qb : Bh w (w.heap.size) v1 := Bh.step (by with_reducible assumption) qk; have ql := qb.le; have KB1 := Lib.hid qb; clear qk))
      go_wp2
      go_roundw
      case rel => exact ⟨k + 1, by omega, by go_num, by first | exact KB1.out.kp | exact KB1.out.kp.drewN _⟩
      case measure => simp [intOf]; omega
    · go_wp2
      go_ret
      exact ⟨rfl, HKP.out⟩
theorem spoil_0 (A : Option Addr) (n : Nat) (w : World) :
    Calls Try.prog 20 #[.slice A 0 n] w fun e w' => e = .returned (.tuple #[]) ∧ w = w' := by
  go_enter Try.func20, Try.ntmps20
  go_wp2
  refine wp_loop_rounds 1 ?_
  rw [rounds_succ]
  go_wp2
  refine bodyPost_end (v := .tuple #[]) (by simp [results, Try.results20, go_sem]) rfl ⟨rfl, rfl⟩
/-- Whatever list of the call's own is written over: nothing but its block has turned. -/
theorem spoil_any (L : List Cp) (A : Option Addr) (cap B : Nat) (hl : L.length ≤ 1000) (w : World) (h : OwnC w B (.slice A L.length cap) L) :
    Calls Try.prog 20 #[.slice A L.length cap] w fun e w' => e = .returned (.tuple #[]) ∧ Fr w w' (fun k => (Value.slice A L.length cap).ownBlock = some k) := by
  rcases h.2 with ⟨hv, h0⟩ | ⟨g, cap', cur, hv, _⟩
  · rw [h0]
    exact (spoil_0 A cap w).mono fun e w' hh => ⟨hh.1, by rw [← hh.2]; exact Fr.refl _ _⟩
  · simp only [Value.slice.injEq, true_and] at hv
    obtain ⟨rfl, rfl⟩ := hv
    exact (spoil_w L g cap B hl w h).mono fun e w' hh => ⟨hh.1, hh.2.mono fun i _ hi => by rw [hi]; rfl⟩
end Go.Proofs.Ytmehbildddlgaaa
namespace Go.Proofs.Ytmehbildddlgaaa
open Go.ChangeShapes Go.WideShapes Go.ChangeAt Go.RowKit
set_option linter.unusedVariables false
set_option linter.unusedSimpArgs false

theorem range_iff (b t : Int) (o : Bool) (c u : Int) (p : Bool) : rangeB b t o c u p = true ↔ b = c ∧ t = u ∧ o = p := by unfold rangeB; simp
theorem within_refl (b t : Int) (o : Bool) : withinB b t o b t o = true := by
  simp only [withinB, ltB, Bool.and_eq_true, Bool.not_eq_true', decide_eq_true_eq, decide_eq_false_iff_not]; omega
theorem within_trans (b t : Int) (o : Bool) (c u : Int) (p : Bool) (d v : Int) (q : Bool) (h : withinB b t o c u p = true) (k : withinB c u p d v q = true) : withinB b t o d v q = true := by
  simp only [withinB, ltB, Bool.and_eq_true, Bool.not_eq_true', decide_eq_true_eq, decide_eq_false_iff_not] at *; omega
theorem wi_refl (e b t : Int) (g : Bool) (a : Int) : wiB e b t g a e b t g a = true := within_refl _ _ _
theorem wi_trans (e b t : Int) (g : Bool) (a : Int) (e1 b1 t1 : Int) (g1 : Bool) (a1 : Int) (e2 b2 t2 : Int) (g2 : Bool) (a2 : Int) (h : wiB e b t g a e1 b1 t1 g1 a1 = true) (k : wiB e1 b1 t1 g1 a1 e2 b2 t2 g2 a2 = true) : wiB e b t g a e2 b2 t2 g2 a2 = true :=
  within_trans _ _ _ _ _ _ _ _ _ k h
theorem fits_eq (e b t : Int) (g : Bool) (a x : Int) (h : fitsV e b t g a x = true) : ofB e b x = ofB e b a ∧ ofT e b t g x = ofT e b t g a ∧ ofO e b t g x = ofO e b t g a := by
  unfold fitsV at h; exact (range_iff _ _ _ _ _ _).1 h
theorem fits_wi (e b t : Int) (g : Bool) (a x : Int) (h : fitsV e b t g a x = true) : wiB e b t g a e b t g x = true := by
  obtain ⟨h1, h2, h3⟩ := fits_eq e b t g a x h
  unfold wiB; rw [h1, h2, h3]; exact within_refl _ _ _
end Go.Proofs.Ytmehbildddlgaaa
namespace Go.Proofs.Ytmehbildddlgaaa
open Go.ChangeShapes Go.WideShapes Go.ChangeAt Go.RowKit
set_option linter.unusedVariables false
set_option linter.unusedSimpArgs false

theorem kb {f : FuncId} {args : Array Value} {w : World} {v : Ending} (h : Calls Try.prog f args w fun e' w' => e' = v ∧ Kp w w') : Calls Try.prog f args w fun e' w' => e' = v ∧ Below w.heap.size w w' :=
  h.mono fun _ _ h => ⟨h.1, h.2.1⟩
theorem less_iff (x y : Cp) : lessB x y = true ↔ x.tg = true ∧ x.sealed = false ∧ y.sealed = false ∧ y.tg = true ∧ wiB y.e y.b y.t y.g y.a x.e x.b x.t x.g x.a = true ∧ perB y.pe x.pe = true := by
  unfold lessB subB
  cases x.tg <;> cases y.tg <;> simp [and_assoc]
theorem less_refl (x : Cp) : lessB x x = (x.tg && !x.sealed) := by
  unfold lessB subB
  rw [wi_refl, per_refl]
  cases x.tg <;> cases x.sealed <;> rfl
theorem less_trans {x y z : Cp} (h : lessB x y = true) (k : lessB y z = true) : lessB x z = true := by
  rw [less_iff] at *
  obtain ⟨h1, h2, h3, h4, h5, h6⟩ := h
  obtain ⟨k1, k2, k3, k4, k5, k6⟩ := k
  exact ⟨h1, h2, k3, k4, wi_trans _ _ _ _ _ _ _ _ _ _ _ _ _ _ _ k5 h5, per_trans _ _ _ k6 h6⟩
theorem less_per {x y : Cp} (h : lessB x y = true) : (bits .andNot .i64 x.pe y.pe != 0) = false := by
  have := ((less_iff x y).1 h).2.2.2.2.2
  unfold perB at this
  simpa using this
theorem less_no (x y : Cp) (h : x.tg = false ∨ x.sealed = true) : lessB x y = false := by
  cases e : lessB x y
  · rfl
  · rw [less_iff] at e
    rcases h with h | h
    · rw [h] at e; exact absurd e.1 (by decide)
    · rw [h] at e; exact absurd e.2.1 (by decide)
/-- Moved, with a tag or without. -/
def mvC (x : Cp) (n : Int) (v : Bool) : Cp := { x with tg := v, a := n }
theorem less_move {x y : Cp} {n : Int} (h : lessB x y = true) (hm : moveT x.tg x.ty x.e x.b x.t x.g x.a n = true) : lessB (mvC x n true) y = true := by
  rw [less_iff] at *
  obtain ⟨h1, h2, h3, h4, h5, h6⟩ := h
  unfold moveT at hm
  rw [Bool.and_eq_true] at hm
  obtain ⟨e1, e2, e3⟩ := fits_eq _ _ _ _ _ _ hm.2
  refine ⟨rfl, h2, h3, h4, ?_, h6⟩
  show wiB y.e y.b y.t y.g y.a x.e x.b x.t x.g n = true
  unfold wiB at *
  rw [e1, e2, e3]; exact h5
theorem RC.mv {x : Cp} (h : RC x) {n : Int} (n0 : 0 ≤ n) (n1 : n < 18446744073709551616) (v : Bool) : RC (mvC x n v) :=
  ⟨h.p0, h.p1, h.y0, h.y1, h.o0, h.o1, ⟨h.f.e0, h.f.e1, h.f.b0, h.f.b1, h.f.t0, h.f.t1, n0, n1⟩⟩
end Go.Proofs.Ytmehbildddlgaaa
namespace Go.Proofs.Ytmehbildddlgaaa
open Go.ChangeShapes Go.WideShapes Go.ChangeAt Go.RowKit
set_option linter.unusedVariables false
set_option linter.unusedSimpArgs false

theorem step_eq (b e a x : Int) : b01 (decide (x < corV b)) - b01 (decide (midV e a < corV b)) = stepV b e a x := by
  unfold stepV b01
  by_cases h1 : x < corV b <;> by_cases h2 : midV e a < corV b <;> simp [h1, h2] <;> omega
theorem stepV_bd (b e a x : Int) : -1 ≤ stepV b e a x ∧ stepV b e a x ≤ 1 := by unfold stepV; split <;> (try split) <;> omega
theorem uppV_small (e a : Int) (e0 : 0 ≤ e) (a0 : 0 ≤ a) (a1 : a < 18446744073709551616) : 0 ≤ uppV e a ∧ uppV e a < 1125899906842624 := by
  unfold uppV
  have h2 : 2 ^ 14 ≤ 2 ^ (e + 14).toNat := Nat.pow_le_pow_right (by omega) (by omega)
  have h3 : (16384 : Int) ≤ 2 ^ (e + 14).toNat := by
    have h4 : ((2 ^ 14 : Nat) : Int) ≤ ((2 ^ (e + 14).toNat : Nat) : Int) := Int.ofNat_le.2 h2
    simpa using h4
  generalize (2 : Int) ^ (e + 14).toNat = m at *
  have h5 : 0 ≤ a / m := Int.ediv_nonneg a0 (by omega)
  have h6 := Int.ediv_mul_le a (show m ≠ 0 by omega)
  have h7 := Int.mul_le_mul_of_nonneg_left h3 h5
  omega
theorem plc_put (b e a x : Int) (e0 : 0 ≤ e) (a0 : 0 ≤ a) (a1 : a < 18446744073709551616) :
    wH (wN (wH (wN (b01 (decide (uppV e a + stepV b e a x < 0))) (IntKind.u64.wrap (uppV e a + stepV b e a x)) * 2 ^ (e + 14).toNat)) (wL (wN (b01 (decide (uppV e a + stepV b e a x < 0))) (IntKind.u64.wrap (uppV e a + stepV b e a x)) * 2 ^ (e + 14).toNat)) + wN (wH (wN (b01 false) x * 2 ^ e.toNat)) (wL (wN (b01 false) x * 2 ^ e.toNat))) = wH (plcV b e a x) ∧
    wL (wN (wH (wN (b01 (decide (uppV e a + stepV b e a x < 0))) (IntKind.u64.wrap (uppV e a + stepV b e a x)) * 2 ^ (e + 14).toNat)) (wL (wN (b01 (decide (uppV e a + stepV b e a x < 0))) (IntKind.u64.wrap (uppV e a + stepV b e a x)) * 2 ^ (e + 14).toNat)) + wN (wH (wN (b01 false) x * 2 ^ e.toNat)) (wL (wN (b01 false) x * 2 ^ e.toNat))) = wL (plcV b e a x) := by
  have h1 := uppV_small e a e0 a0 a1
  have h2 := stepV_bd b e a x
  exact put_eq (uppV e a + stepV b e a x) x e (by omega) (by omega) _ _ rfl (by rw [wN_zero])
theorem add_at {h l i m : Int} (A B : Int) (h0 : 0 ≤ h) (h1 : h < 2) (l0 : 0 ≤ l) (l1 : l < 18446744073709551616) (i0 : 0 ≤ i) (i1 : i < 2) (m0 : 0 ≤ m) (m1 : m < 18446744073709551616) (e1 : wH (wN h l + wN i m) = A) (e2 : wL (wN h l + wN i m) = B) (w : World) :
    Calls Try.prog 73 #[.agg #[.int .u64 h, .int .u64 l], .agg #[.int .u64 i, .int .u64 m]] w fun e' w' => e' = .returned (.agg #[.int .u64 A, .int .u64 B]) ∧ Kp w w' := by
  subst e1 e2; exact radd_w h l i m h0 h1 l0 l1 i0 i1 m0 m1 w
theorem refOf_w (tg : Bool) (pe ty mo e b t : Int) (g : Bool) (a : Int) (h : Fld e b t a) (w : World) :
    Calls Try.prog 45 #[.agg #[.bool tg, .int .i64 pe, .int .i64 ty, .int .i64 mo, .int .i64 e, .int .i64 b, .int .i64 t, .bool g, .int .u64 a]] w fun e' w' => e' = .returned (.agg #[.int .u64 (ofB e b a), .int .u64 (ofT e b t g a), .bool (ofO e b t g a)]) ∧ Kp w w' := by
  have hU := uppV_small e a h.e0 h.a0 h.a1
  have hT := t14_bd b t g h.b0 h.t0 h.t1
  have hs1 := stepV_bd b e a b
  have hs2 := stepV_bd b e a (t14 b t g)
  have p1 := plc_put b e a b h.e0 h.a0 h.a1
  have p2 := plc_put b e a (t14 b t g) h.e0 h.a0 h.a1
  have tH := ofH_bd e b t g a
  have bL := ofB_bd e b a
  have tL := ofT_bd e b t g a
  have e0 := h.e0
  have e1 := h.e1
  have b0 := h.b0
  have b1 := h.b1
  refine refOf_core tg pe ty mo e b t g a h (t14 b t g) (corV b) (midV e a) (uppV e a) (stepV b e a b) (stepV b e a (t14 b t g)) _ _ _ _ _ _ (wH (plcV b e a b)) (ofB e b a) _ _ _ _ (ofH e b t g a) (ofT e b t g a) _ _ _ 0 _ _ (farB (ofH e b t g a) (ofT e b t g a) (ofB e b a))
    rfl rfl rfl rfl (step_eq _ _ _ _) (step_eq _ _ _ _)
    (Lib.hid (fun w => rpart_w (uppV e a) (stepV b e a b) hU.1 (by omega) hs1.1 hs1.2 w)) (Lib.hid (fun w => rpart_w (uppV e a) (stepV b e a (t14 b t g)) hU.1 (by omega) hs2.1 hs2.2 w))
    (Lib.hid (fun w => rup_w _ _ (e + 14) (wrap_bd _).1 (wrap_bd _).2 (by omega) (by omega) w)) (Lib.hid (fun w => rup_w b false e b0 (by omega) e0 (by omega) w))
    (Lib.hid (fun w => add_at _ _ (wH_lo _) (wH_hi _) (wL_lo _) (wL_hi _) (wH_lo _) (wH_hi _) (wL_lo _) (wL_hi _) p1.1 p1.2 w))
    (Lib.hid (fun w => rup_w _ _ (e + 14) (wrap_bd _).1 (wrap_bd _).2 (by omega) (by omega) w)) (Lib.hid (fun w => rup_w (t14 b t g) false e hT.1 (by omega) e0 (by omega) w))
    (Lib.hid (fun w => add_at _ _ (wH_lo _) (wH_hi _) (wL_lo _) (wL_hi _) (wH_lo _) (wH_hi _) (wL_lo _) (wL_hi _) p2.1 p2.2 w))
    tH bL tL rfl rfl rfl ?_ (ofO e b t g a) ?_ w
  · unfold farB wN
    congr 1
    have hq : (ofH e b t g a * 18446744073709551616 + ofT e b t g a) / 9223372036854775808 = 2 * ofH e b t g a + ofT e b t g a / 9223372036854775808 := by omega
    rw [hq]
    generalize ofT e b t g a / 9223372036854775808 = x
    generalize ofB e b a / 9223372036854775808 = y
    rw [show (2 * ofH e b t g a + x + 4 - y) % 4 = (2 * ofH e b t g a + x - y) % 4 by omega]
  · unfold ofO ofF; rfl
end Go.Proofs.Ytmehbildddlgaaa
namespace Go.Proofs.Ytmehbildddlgaaa
open Go.ChangeShapes Go.WideShapes Go.ChangeAt Go.RowKit
set_option linter.unusedVariables false
set_option linter.unusedSimpArgs false

theorem hasP_two (pe : Int) (j : Nat) (hj : j < 62) (p0 : 0 ≤ pe) (p1 : pe < 65536) (p : Int) (hp : ((2 ^ j : Nat) : Int) = p) : hasP pe p = (pe / p % 2 == 1) := by
  have hq : 2 ^ j ≤ 2 ^ 61 := Nat.pow_le_pow_right (by omega) (by omega)
  have hpos : 0 < 2 ^ j := Nat.two_pow_pos j
  have hv : ∀ i, i < 64 → (bv p).getLsbD i = decide (i = j) := by rw [← hp]; exact fun i hi => bv_one j (by omega) i hi
  obtain ⟨m, hm⟩ : ∃ m : Nat, 2 ^ j = m := ⟨_, rfl⟩
  rw [hm] at hp hq hpos
  have hb : (bv pe).getLsbD j = (pe / p % 2 == 1) := by
    obtain ⟨n, rfl⟩ := Int.eq_ofNat_of_zero_le p0
    unfold bv
    rw [BitVec.ofInt_natCast, BitVec.getLsbD_ofNat, Nat.testBit_eq_decide_div_mod_eq, Bool.eq_iff_iff, hm, ← hp]
    have h64 : j < 64 := by omega
    simp only [h64, decide_true, Bool.true_and, decide_eq_true_eq, beq_iff_eq]
    have e : ((n : Int) / (m : Int) % 2) = ((n / m % 2 : Nat) : Int) := by simp
    rw [e]; omega
  rw [← hb]
  unfold hasP
  rw [and_ub]
  cases h : (bv pe).getLsbD j
  · have e : bv pe &&& bv p = 0#64 := by
      rw [bit_iff]; intro k hk
      rw [BitVec.getLsbD_and, hv k hk]
      by_cases e : k = j
      · subst e; rw [h]; rfl
      · simp [e]
    rw [e]
    have e0 : ub 0#64 = 0 := (ub_0 _).2 rfl
    rw [e0]; simp; omega
  · have e : bv pe &&& bv p = bv p := by
      apply BitVec.eq_of_getLsbD_eq; intro k hk
      rw [BitVec.getLsbD_and, hv k hk]
      by_cases e : k = j
      · subst e; rw [h]; rfl
      · simp [e]
    rw [e, ub_bv _ (by omega) (by omega)]; simp
theorem or_per (x y : Int) (x0 : 0 ≤ x) (x1 : x < 65536) (y0 : 0 ≤ y) (y1 : y < 65536) : (bits .or .i64 x y == y) = perB y x := by
  rw [Bool.eq_iff_iff, per_bits, beq_iff_eq]
  have hy : ub (bv y) = y := ub_bv y (by omega) (by omega)
  constructor
  · intro h i hi hx
    rw [or_ub] at h
    have h2 : bv x ||| bv y = bv y := by rw [← bv_ub (bv x ||| bv y), h]
    have h3 : (bv x ||| bv y).getLsbD i = true := by rw [BitVec.getLsbD_or, hx]; rfl
    rw [h2] at h3; exact h3
  · intro h
    rw [or_ub]
    have h2 : bv x ||| bv y = bv y := by
      apply BitVec.eq_of_getLsbD_eq
      intro i hi
      rw [BitVec.getLsbD_or]
      cases hx : (bv x).getLsbD i
      · simp
      · rw [h i hi hx]; rfl
    rw [h2, hy]
theorem rwi_c (e b t : Int) (g : Bool) (a de db dt : Int) (dg : Bool) (da : Int) (x : Bool) (h : wiB e b t g a de db dt dg da = x) (w : World) :
    Calls Try.prog 44 #[.agg #[.int .u64 (ofB de db da), .int .u64 (ofT de db dt dg da), .bool (ofO de db dt dg da)], .agg #[.int .u64 (ofB e b a), .int .u64 (ofT e b t g a), .bool (ofO e b t g a)]] w fun e' w' => e' = .returned (.bool x) ∧ Kp w w' := by
  rw [← h]
  exact rwithin_w _ _ _ _ _ _ (ofT_bd de db dt dg da).1 (ofT_bd de db dt dg da).2 (ofT_bd e b t g a).1 (ofT_bd e b t g a).2 w
theorem rsealed9 (tg : Bool) (pe ty mo e b t : Int) (g : Bool) (a : Int) (v : Bool) (hv : sealedB ty = v) (w : World) : Calls Try.prog 43 #[.agg #[.bool tg, .int .i64 pe, .int .i64 ty, .int .i64 mo, .int .i64 e, .int .i64 b, .int .i64 t, .bool g, .int .u64 a]] w fun e' w' => e' = .returned (.bool v) ∧ Kp w w' := rsealed_w ⟨tg, pe, ty, mo, e, b, t, g, a⟩ v hv w
theorem less_sym (x y : Cp) (hx : RC x) (hy : RC y) : lessB x y = (x.tg && y.tg && !x.sealed && !y.sealed && (bits .or .i64 x.pe y.pe == y.pe) && wiB y.e y.b y.t y.g y.a x.e x.b x.t x.g x.a) := by
  rw [or_per _ _ hx.p0 hx.p1 hy.p0 hy.p1]
  unfold lessB subB
  cases x.tg <;> cases y.tg <;> cases x.sealed <;> cases y.sealed <;> cases perB y.pe x.pe <;> simp
set_option maxHeartbeats 2000000 in
set_option maxRecDepth 100000 in
theorem rless_w (x y : Cp) (hx : RC x) (hy : RC y) (v : Bool) (hv : lessB x y = v) (w : World) : Calls Try.prog 17 #[.agg #[.bool x.tg, .int .i64 x.pe, .int .i64 x.ty, .int .i64 x.mo, .int .i64 x.e, .int .i64 x.b, .int .i64 x.t, .bool x.g, .int .u64 x.a], .agg #[.bool y.tg, .int .i64 y.pe, .int .i64 y.ty, .int .i64 y.mo, .int .i64 y.e, .int .i64 y.b, .int .i64 y.t, .bool y.g, .int .u64 y.a]] w fun e' w' => e' = .returned (.bool v) ∧ Kp w w' := by
  rw [less_sym x y hx hy] at hv
  have HX := Lib.hid hx.f
  have HY := Lib.hid hy.f
  clear hx hy
  obtain ⟨ctg, cpe, cty, cmo, ce, cb, ct, cg, ca⟩ := x
  obtain ⟨dtg, dpe, dty, dmo, de, db, dt, dg, da⟩ := y
  dsimp only at HX HY
  simp only [Cp.sealed] at hv
  obtain ⟨sb, hsb⟩ : ∃ sb, wiB de db dt dg da ce cb ct cg ca = sb := ⟨_, rfl⟩
  obtain ⟨po, hpo⟩ : ∃ po, (bits .or .i64 cpe dpe == dpe) = po := ⟨_, rfl⟩
  rw [hsb, hpo] at hv
  have HSB := Lib.hid hsb
  have hpo' : (bits .or .i64 cpe dpe != dpe) = !po := by rw [← hpo]; rfl
  clear hsb
  cases ctg
  · obtain rfl : false = v := by simpa using hv
    clear hv hpo hpo'
    go_enter Try.func17, Try.ntmps17
    go_wp2
    go_ret
    exact ⟨rfl, ((Kp.refl w).allocs _ _).allocs _ _⟩
  · cases dtg
    · obtain rfl : false = v := by simpa using hv
      clear hv hpo hpo'
      go_enter Try.func17, Try.ntmps17
      go_wp2
      go_ret
      exact ⟨rfl, ((Kp.refl w).allocs _ _).allocs _ _⟩
    · cases hc : sealedB cty <;> cases hd : sealedB dty <;> cases po
      all_goals
        rw [hc, hd] at hv
        have HC := Lib.hid hc
        have HD := Lib.hid hd
        clear hc hd
        simp only [Bool.not_true, Bool.not_false, Bool.and_false, Bool.false_and, Bool.true_and, Bool.and_true] at hv hpo'
        subst hv
        have HPO := Lib.hid hpo
        clear hpo
        go_enter Try.func17, Try.ntmps17
        go_wp2_with (first
          | (go_at_call 43; (with_reducible refine (rsealed9 true cpe cty cmo ce cb ct cg ca _ HC.out _).mono ?_); rintro e' w1 ⟨rfl, qk⟩; have HKw1 := Lib.hid qk; have qw10 : w1.cell? ⟨w.heap.size, 0, none⟩ = some (.bool true) := (qk.cell (p := ⟨w.heap.size, 0, none⟩) (by first | (simp; done) | (simp; omega) | omega)).trans (by simp [go_sem, *]); have qw11 : w1.cell? ⟨w.heap.size, 1, none⟩ = some (.int .i64 cpe) := (qk.cell (p := ⟨w.heap.size, 1, none⟩) (by first | (simp; done) | (simp; omega) | omega)).trans (by simp [go_sem, *]); have qw12 : w1.cell? ⟨w.heap.size, 2, none⟩ = some (.int .i64 cty) := (qk.cell (p := ⟨w.heap.size, 2, none⟩) (by first | (simp; done) | (simp; omega) | omega)).trans (by simp [go_sem, *]); have qw13 : w1.cell? ⟨w.heap.size, 3, none⟩ = some (.int .i64 cmo) := (qk.cell (p := ⟨w.heap.size, 3, none⟩) (by first | (simp; done) | (simp; omega) | omega)).trans (by simp [go_sem, *]); have qw14 : w1.cell? ⟨w.heap.size, 4, none⟩ = some (.int .i64 ce) := (qk.cell (p := ⟨w.heap.size, 4, none⟩) (by first | (simp; done) | (simp; omega) | omega)).trans (by simp [go_sem, *]); have qw15 : w1.cell? ⟨w.heap.size, 5, none⟩ = some (.int .i64 cb) := (qk.cell (p := ⟨w.heap.size, 5, none⟩) (by first | (simp; done) | (simp; omega) | omega)).trans (by simp [go_sem, *]); have qw16 : w1.cell? ⟨w.heap.size, 6, none⟩ = some (.int .i64 ct) := (qk.cell (p := ⟨w.heap.size, 6, none⟩) (by first | (simp; done) | (simp; omega) | omega)).trans (by simp [go_sem, *]); have qw17 : w1.cell? ⟨w.heap.size, 7, none⟩ = some (.bool cg) := (qk.cell (p := ⟨w.heap.size, 7, none⟩) (by first | (simp; done) | (simp; omega) | omega)).trans (by simp [go_sem, *]); have qw18 : w1.cell? ⟨w.heap.size, 8, none⟩ = some (.int .u64 ca) := (qk.cell (p := ⟨w.heap.size, 8, none⟩) (by first | (simp; done) | (simp; omega) | omega)).trans (by simp [go_sem, *]); have qw19 : w1.cell? ⟨w.heap.size + 1, 0, none⟩ = some (.bool true) := (qk.cell (p := ⟨w.heap.size + 1, 0, none⟩) (by first | (simp; done) | (simp; omega) | omega)).trans (by simp [go_sem, *]); have qw110 : w1.cell? ⟨w.heap.size + 1, 1, none⟩ = some (.int .i64 dpe) := (qk.cell (p := ⟨w.heap.size + 1, 1, none⟩) (by first | (simp; done) | (simp; omega) | omega)).trans (by simp [go_sem, *]); have qw111 : w1.cell? ⟨w.heap.size + 1, 2, none⟩ = some (.int .i64 dty) := (qk.cell (p := ⟨w.heap.size + 1, 2, none⟩) (by first | (simp; done) | (simp; omega) | omega)).trans (by simp [go_sem, *]); have qw112 : w1.cell? ⟨w.heap.size + 1, 3, none⟩ = some (.int .i64 dmo) := (qk.cell (p := ⟨w.heap.size + 1, 3, none⟩) (by first | (simp; done) | (simp; omega) | omega)).trans (by simp [go_sem, *]); have qw113 : w1.cell? ⟨w.heap.size + 1, 4, none⟩ = some (.int .i64 de) := (qk.cell (p := ⟨w.heap.size + 1, 4, none⟩) (by first | (simp; done) | (simp; omega) | omega)).trans (by simp [go_sem, *]); have qw114 : w1.cell? ⟨w.heap.size + 1, 5, none⟩ = some (.int .i64 db) := (qk.cell (p := ⟨w.heap.size + 1, 5, none⟩) (by first | (simp; done) | (simp; omega) | omega)).trans (by simp [go_sem, *]); have qw115 : w1.cell? ⟨w.heap.size + 1, 6, none⟩ = some (.int .i64 dt) := (qk.cell (p := ⟨w.heap.size + 1, 6, none⟩) (by first | (simp; done) | (simp; omega) | omega)).trans (by simp [go_sem, *]); have qw116 : w1.cell? ⟨w.heap.size + 1, 7, none⟩ = some (.bool dg) := (qk.cell (p := ⟨w.heap.size + 1, 7, none⟩) (by first | (simp; done) | (simp; omega) | omega)).trans (by simp [go_sem, *]); have qw117 : w1.cell? ⟨w.heap.size + 1, 8, none⟩ = some (.int .u64 da) := (qk.cell (p := ⟨w.heap.size + 1, 8, none⟩) (by first | (simp; done) | (simp; omega) | omega)).trans (by simp [go_sem, *]); have K1 := Lib.hid (Kp.trans (((Kp.refl w).allocs _ _).allocs _ _) qk); have s1 := qk.size; (try simp at s1); clear qk)
          | (go_at_call 43; (with_reducible refine (rsealed9 true dpe dty dmo de db dt dg da _ HD.out _).mono ?_); rintro e' w2 ⟨rfl, qk⟩; have HKw2 := Lib.hid qk; have qw20 : w2.cell? ⟨w.heap.size, 0, none⟩ = some (.bool true) := (qk.cell (p := ⟨w.heap.size, 0, none⟩) (by first | (simp; done) | (simp; omega) | omega)).trans (by simp [go_sem, *]); have qw21 : w2.cell? ⟨w.heap.size, 1, none⟩ = some (.int .i64 cpe) := (qk.cell (p := ⟨w.heap.size, 1, none⟩) (by first | (simp; done) | (simp; omega) | omega)).trans (by simp [go_sem, *]); have qw22 : w2.cell? ⟨w.heap.size, 2, none⟩ = some (.int .i64 cty) := (qk.cell (p := ⟨w.heap.size, 2, none⟩) (by first | (simp; done) | (simp; omega) | omega)).trans (by simp [go_sem, *]); have qw23 : w2.cell? ⟨w.heap.size, 3, none⟩ = some (.int .i64 cmo) := (qk.cell (p := ⟨w.heap.size, 3, none⟩) (by first | (simp; done) | (simp; omega) | omega)).trans (by simp [go_sem, *]); have qw24 : w2.cell? ⟨w.heap.size, 4, none⟩ = some (.int .i64 ce) := (qk.cell (p := ⟨w.heap.size, 4, none⟩) (by first | (simp; done) | (simp; omega) | omega)).trans (by simp [go_sem, *]); have qw25 : w2.cell? ⟨w.heap.size, 5, none⟩ = some (.int .i64 cb) := (qk.cell (p := ⟨w.heap.size, 5, none⟩) (by first | (simp; done) | (simp; omega) | omega)).trans (by simp [go_sem, *]); have qw26 : w2.cell? ⟨w.heap.size, 6, none⟩ = some (.int .i64 ct) := (qk.cell (p := ⟨w.heap.size, 6, none⟩) (by first | (simp; done) | (simp; omega) | omega)).trans (by simp [go_sem, *]); have qw27 : w2.cell? ⟨w.heap.size, 7, none⟩ = some (.bool cg) := (qk.cell (p := ⟨w.heap.size, 7, none⟩) (by first | (simp; done) | (simp; omega) | omega)).trans (by simp [go_sem, *]); have qw28 : w2.cell? ⟨w.heap.size, 8, none⟩ = some (.int .u64 ca) := (qk.cell (p := ⟨w.heap.size, 8, none⟩) (by first | (simp; done) | (simp; omega) | omega)).trans (by simp [go_sem, *]); have qw29 : w2.cell? ⟨w.heap.size + 1, 0, none⟩ = some (.bool true) := (qk.cell (p := ⟨w.heap.size + 1, 0, none⟩) (by first | (simp; done) | (simp; omega) | omega)).trans (by simp [go_sem, *]); have qw210 : w2.cell? ⟨w.heap.size + 1, 1, none⟩ = some (.int .i64 dpe) := (qk.cell (p := ⟨w.heap.size + 1, 1, none⟩) (by first | (simp; done) | (simp; omega) | omega)).trans (by simp [go_sem, *]); have qw211 : w2.cell? ⟨w.heap.size + 1, 2, none⟩ = some (.int .i64 dty) := (qk.cell (p := ⟨w.heap.size + 1, 2, none⟩) (by first | (simp; done) | (simp; omega) | omega)).trans (by simp [go_sem, *]); have qw212 : w2.cell? ⟨w.heap.size + 1, 3, none⟩ = some (.int .i64 dmo) := (qk.cell (p := ⟨w.heap.size + 1, 3, none⟩) (by first | (simp; done) | (simp; omega) | omega)).trans (by simp [go_sem, *]); have qw213 : w2.cell? ⟨w.heap.size + 1, 4, none⟩ = some (.int .i64 de) := (qk.cell (p := ⟨w.heap.size + 1, 4, none⟩) (by first | (simp; done) | (simp; omega) | omega)).trans (by simp [go_sem, *]); have qw214 : w2.cell? ⟨w.heap.size + 1, 5, none⟩ = some (.int .i64 db) := (qk.cell (p := ⟨w.heap.size + 1, 5, none⟩) (by first | (simp; done) | (simp; omega) | omega)).trans (by simp [go_sem, *]); have qw215 : w2.cell? ⟨w.heap.size + 1, 6, none⟩ = some (.int .i64 dt) := (qk.cell (p := ⟨w.heap.size + 1, 6, none⟩) (by first | (simp; done) | (simp; omega) | omega)).trans (by simp [go_sem, *]); have qw216 : w2.cell? ⟨w.heap.size + 1, 7, none⟩ = some (.bool dg) := (qk.cell (p := ⟨w.heap.size + 1, 7, none⟩) (by first | (simp; done) | (simp; omega) | omega)).trans (by simp [go_sem, *]); have qw217 : w2.cell? ⟨w.heap.size + 1, 8, none⟩ = some (.int .u64 da) := (qk.cell (p := ⟨w.heap.size + 1, 8, none⟩) (by first | (simp; done) | (simp; omega) | omega)).trans (by simp [go_sem, *]); have K2 := Lib.hid (Kp.trans K1.out qk); have s2 := qk.size; clear qk))
        first
          | (go_ret; first | exact ⟨rfl, K2.out⟩ | exact ⟨rfl, K1.out⟩)
          | skip
      have k0 : Bh w (w.heap.size + 2) w2 := ⟨K2.out, by omega, by omega⟩
      have A0 : At w.heap.size [.bool true, .int .i64 cpe, .int .i64 cty, .int .i64 cmo, .int .i64 ce, .int .i64 cb, .int .i64 ct, .bool cg, .int .u64 ca] w2 := At.of9 (by assumption) (by assumption) (by assumption) (by assumption) (by assumption) (by assumption) (by assumption) (by assumption) (by assumption)
      have A1 : At (w.heap.size + 1) [.bool true, .int .i64 dpe, .int .i64 dty, .int .i64 dmo, .int .i64 de, .int .i64 db, .int .i64 dt, .bool dg, .int .u64 da] w2 := At.of9 (by assumption) (by assumption) (by assumption) (by assumption) (by assumption) (by assumption) (by assumption) (by assumption) (by assumption)
      refine wp_region_held_drew (S := (fun w' => At (w.heap.size) [.bool true, .int .i64 cpe, .int .i64 cty, .int .i64 cmo, .int .i64 ce, .int .i64 cb, .int .i64 ct, .bool cg, .int .u64 ca] w' ∧ At (w.heap.size + 1) [.bool true, .int .i64 dpe, .int .i64 dty, .int .i64 dmo, .int .i64 de, .int .i64 db, .int .i64 dt, .bool dg, .int .u64 da] w' ∧ Bh w (w.heap.size + 2) w')) (by kernel_rfl) ⟨At.drew (by with_reducible assumption), At.drew (by with_reducible assumption), Bh.drew (by with_reducible assumption)⟩ (fun hS => ?_)
      (refine wpAnyH_take (i := 0) (oi := { dst := some 31, op := Op.load 25 (Operand.tmp 2), type := 25, pos := "ref.go:17", after := #[], guard := none }) (v := ?_) rfl (by kernel_rfl) (by kernel_rfl) (by kernel_rfl) (fun _ _ _ h => h) (Or.inl ⟨by rfl, ?_⟩) hS ?_; rotate_left; focus (intro w' hSw; obtain ⟨s0, s1, sb⟩ := hSw; obtain ⟨_, _, _, _, _, _, _, _, _⟩ := s0.out9; obtain ⟨_, _, _, _, _, _, _, _, _⟩ := s1.out9; go_simp <;> try with_reducible rfl))
      try simp only [Act.put, List.setIfInBounds_toArray, List.set_cons_zero, List.set_cons_succ]
      (refine wpAnyH_take (i := 2) (oi := { dst := some 33, op := Op.load 25 (Operand.tmp 3), type := 25, pos := "ref.go:17", after := #[], guard := none }) (v := ?_) rfl (by kernel_rfl) (by kernel_rfl) (by kernel_rfl) (fun _ _ _ h => h) (Or.inl ⟨by rfl, ?_⟩) hS ?_; rotate_left; focus (intro w' hSw; obtain ⟨s0, s1, sb⟩ := hSw; obtain ⟨_, _, _, _, _, _, _, _, _⟩ := s0.out9; obtain ⟨_, _, _, _, _, _, _, _, _⟩ := s1.out9; go_simp <;> try with_reducible rfl))
      try simp only [Act.put, List.setIfInBounds_toArray, List.set_cons_zero, List.set_cons_succ]
      refine wpAnyH_ready (rs := [1]) (by kernel_rfl) (by simp) ?_
      refine AllReadyH.cons (o := { dst := some 32, op := Op.call { callee := Callee.value (Operand.func 45), args := #[Operand.tmp 31], argTypes := #[25] }, type := 66, pos := "ref.go:17", after := #[{ on := 0, ground := Ground.data }], guard := none }) rfl (fun K hK => ?_) AllReadyH.nil
      (first | (refine take_if (by rfl) ?_; obtain ⟨s0, s1, sb⟩ := hS; go_simp; (with_reducible refine (refOf_w true cpe cty cmo ce cb ct cg ca HX.out _).mono ?_); rintro e' w' ⟨rfl, qk⟩; have t0 := At.kp s0 qk (Nat.lt_of_lt_of_le (show w.heap.size < w.heap.size + 2 by omega) sb.le); have t1 := At.kp s1 qk (Nat.lt_of_lt_of_le (show w.heap.size + 1 < w.heap.size + 2 by omega) sb.le); have tb := Bh.step sb qk; clear qk; refine hK.out _ _ ⟨t0, t1, tb⟩ (fun hS => ?_)) | (refine take_if (by rfl) ?_; obtain ⟨s0, s1, sb⟩ := hS; go_simp; (with_reducible refine (refOf_w true dpe dty dmo de db dt dg da HY.out _).mono ?_); rintro e' w' ⟨rfl, qk⟩; have t0 := At.kp s0 qk (Nat.lt_of_lt_of_le (show w.heap.size < w.heap.size + 2 by omega) sb.le); have t1 := At.kp s1 qk (Nat.lt_of_lt_of_le (show w.heap.size + 1 < w.heap.size + 2 by omega) sb.le); have tb := Bh.step sb qk; clear qk; refine hK.out _ _ ⟨t0, t1, tb⟩ (fun hS => ?_)))
      clear hK K
      try simp only [Act.put, List.setIfInBounds_toArray, List.set_cons_zero, List.set_cons_succ]
      refine wpAnyH_ready (rs := [3]) (by kernel_rfl) (by simp) ?_
      refine AllReadyH.cons (o := { dst := some 34, op := Op.call { callee := Callee.value (Operand.func 45), args := #[Operand.tmp 33], argTypes := #[25] }, type := 66, pos := "ref.go:17", after := #[{ on := 2, ground := Ground.data }, { on := 1, ground := Ground.chain }], guard := none }) rfl (fun K hK => ?_) AllReadyH.nil
      (first | (refine take_if (by rfl) ?_; obtain ⟨s0, s1, sb⟩ := hS; go_simp; (with_reducible refine (refOf_w true cpe cty cmo ce cb ct cg ca HX.out _).mono ?_); rintro e' w' ⟨rfl, qk⟩; have t0 := At.kp s0 qk (Nat.lt_of_lt_of_le (show w.heap.size < w.heap.size + 2 by omega) sb.le); have t1 := At.kp s1 qk (Nat.lt_of_lt_of_le (show w.heap.size + 1 < w.heap.size + 2 by omega) sb.le); have tb := Bh.step sb qk; clear qk; refine hK.out _ _ ⟨t0, t1, tb⟩ (fun hS => ?_)) | (refine take_if (by rfl) ?_; obtain ⟨s0, s1, sb⟩ := hS; go_simp; (with_reducible refine (refOf_w true dpe dty dmo de db dt dg da HY.out _).mono ?_); rintro e' w' ⟨rfl, qk⟩; have t0 := At.kp s0 qk (Nat.lt_of_lt_of_le (show w.heap.size < w.heap.size + 2 by omega) sb.le); have t1 := At.kp s1 qk (Nat.lt_of_lt_of_le (show w.heap.size + 1 < w.heap.size + 2 by omega) sb.le); have tb := Bh.step sb qk; clear qk; refine hK.out _ _ ⟨t0, t1, tb⟩ (fun hS => ?_)))
      clear hK K
      try simp only [Act.put, List.setIfInBounds_toArray, List.set_cons_zero, List.set_cons_succ]
      refine wpAnyH_ready (rs := [4]) (by kernel_rfl) (by simp) ?_
      refine AllReadyH.cons (o := { dst := some 35, op := Op.call { callee := Callee.value (Operand.func 44), args := #[Operand.tmp 32, Operand.tmp 34], argTypes := #[66, 66] }, type := 4, pos := "ref.go:17", after := #[{ on := 1, ground := Ground.data }, { on := 3, ground := Ground.data }, { on := 3, ground := Ground.chain }], guard := none }) rfl (fun K hK => ?_) AllReadyH.nil
      (refine take_if (by rfl) ?_; obtain ⟨s0, s1, sb⟩ := hS; go_simp; (with_reducible refine (rwi_c _ _ _ _ _ _ _ _ _ _ _ HSB.out _).mono ?_); rintro e' w' ⟨rfl, qk⟩; have t0 := At.kp s0 qk (Nat.lt_of_lt_of_le (show w.heap.size < w.heap.size + 2 by omega) sb.le); have t1 := At.kp s1 qk (Nat.lt_of_lt_of_le (show w.heap.size + 1 < w.heap.size + 2 by omega) sb.le); have tb := Bh.step sb qk; clear qk; refine hK.out _ _ ⟨t0, t1, tb⟩ (fun hS => ?_))
      clear hK K
      try simp only [Act.put, List.setIfInBounds_toArray, List.set_cons_zero, List.set_cons_succ]
      (refine wpAnyH_take (i := 5) (oi := { dst := some 4, op := Op.assign (Operand.tmp 35), type := 4, pos := "ref.go:17", after := #[{ on := 4, ground := Ground.data }, { on := 4, ground := Ground.chain }, { on := 0, ground := Ground.phase }, { on := 1, ground := Ground.phase }, { on := 2, ground := Ground.phase }, { on := 3, ground := Ground.phase }, { on := 4, ground := Ground.phase }], guard := none }) (v := ?_) rfl (by kernel_rfl) (by kernel_rfl) (by kernel_rfl) (fun _ _ _ h => h) (Or.inl ⟨by rfl, ?_⟩) hS ?_; rotate_left; focus (intro w' hSw; obtain ⟨s0, s1, sb⟩ := hSw; go_simp <;> try with_reducible rfl))
      try simp only [Act.put, List.setIfInBounds_toArray, List.set_cons_zero, List.set_cons_succ]
      refine wpAnyH_done (by kernel_rfl) ?_ _
      obtain ⟨s0, s1, sb⟩ := hS
      obtain ⟨_, _, _, _, _, _, _, _, _⟩ := s0.out9; obtain ⟨_, _, _, _, _, _, _, _, _⟩ := s1.out9
      go_wp2
      go_ret
      exact ⟨rfl, sb.kp⟩
end Go.Proofs.Ytmehbildddlgaaa
namespace Go.Proofs.Ytmehbildddlgaaa
open Go.ChangeShapes Go.WideShapes Go.ChangeAt Go.RowKit
set_option linter.unusedVariables false
set_option linter.unusedSimpArgs false
set_option maxHeartbeats 2000000 in
set_option maxRecDepth 100000 in
theorem with256_w (L : List Cp) (A : Option Addr) (n : Nat) (kd : Int) (hL : ∀ c ∈ L, RC c) (k0 : 0 ≤ kd) (k1 : kd ≤ 262135) (w : World) (h : Rd w w.heap.size A L) (hl : L.length ≤ 1000000) :
    Calls Try.prog 41 #[.slice A L.length n, .int .i64 256, .int .i64 kd] w fun e' w' => e' = .returned (.bool (L.any (fun x => x.tg && canD x 256 kd))) ∧ Kp w w' := by
  have HR := Lib.hid h
  have HL := Lib.hid hL
  clear h hL
  go_enter Try.func41, Try.ntmps41
  go_wp2
  go_loopw [7] (fun i wr => ∃ k : Nat, k ≤ L.length ∧ i = .int .i64 k ∧ (∀ c ∈ L.take k, (c.tg && canD c 256 kd) = false) ∧ Kp w wr) (fun i _ => L.length - (intOf i).toNat)
  case atStart => exact ⟨0, Nat.zero_le _, rfl, by simp, Kp.refl w⟩
  case round =>
    obtain ⟨k, hk, rfl, hx, hkp⟩ := hrel
    have HX := Lib.hid hx
    have HKP := Lib.hid hkp
    have hws : w.heap.size ≤ wr.heap.size := hkp.size
    clear hx hkp
    by_cases hlt : k < L.length
    · obtain ⟨b, o, rfl, hb, c, hc, hr⟩ := (HR.out.kp HKP.out (Nat.le_refl _)).at_ hlt
      obtain ⟨r0, r1, r2, r3, r4, r5, r6, r7, r8⟩ := hr.out
      have hcm := List.mem_of_getElem? hc
      have RCc := HL.out c hcm
      have hb' : b < wr.heap.size := by omega
      have HC := Lib.hid hc
      have hP := hasP_two c.pe 8 (by omega) RCc.p0 RCc.p1 256 (by decide)
      have hfin : ∀ d ∈ L.take (k + 1), d ∈ L.take k ∨ d = c := by
        intro d hd
        rw [List.take_add_one, HC.out] at hd
        rcases List.mem_append.1 hd with hd | hd
        · exact Or.inl hd
        · exact Or.inr (by simpa using hd)
      have HFN := Lib.hid hfin
      have HCM := Lib.hid hcm
      have p0 := RCc.p0
      have p1 := RCc.p1
      have HF := Lib.hid RCc.f
      obtain ⟨v, hv⟩ : ∃ v, (c.tg && canD c 256 kd) = v := ⟨_, rfl⟩
      have HV := Lib.hid hv
      simp only [canD, Cp.sealed, hP, rngIn, namesB, k1, decide_true, Bool.true_and] at hv
      clear hc hr hcm RCc hfin hP
      have fin_no : v = false → ∀ d ∈ L.take (k + 1), (d.tg && canD d 256 kd) = false := fun e d hd => by
        rcases HFN.out d hd with h | h
        · exact HX.out d h
        · subst h; rw [HV.out, e]
      have fin_yes : v = true → L.any (fun x => x.tg && canD x 256 kd) = true := fun e => List.any_eq_true.2 ⟨c, HCM.out, by rw [HV.out, e]⟩
      have HNO := Lib.hid fin_no
      have HYES := Lib.hid fin_yes
      clear fin_no fin_yes HFN HCM HV HC HX
      obtain ⟨ctg, cpe, cty, cmo, ce, cb, ct, cg, ca⟩ := c
      dsimp only at r0 r1 r2 r3 r4 r5 r6 r7 r8 hv p0 p1 HF
      obtain ⟨pb, hpb⟩ : ∃ pb, (cpe / 256 % 2 == 1) = pb := ⟨_, rfl⟩
      obtain ⟨RB, hRB⟩ : ∃ RB, ofB ce cb ca = RB := ⟨_, rfl⟩
      obtain ⟨RT, hRT⟩ : ∃ RT, ofT ce cb ct cg ca = RT := ⟨_, rfl⟩
      obtain ⟨RO, hRO⟩ : ∃ RO, ofO ce cb ct cg ca = RO := ⟨_, rfl⟩
      have HOF : ∀ w, Calls Try.prog 45 #[.agg #[.bool ctg, .int .i64 cpe, .int .i64 cty, .int .i64 cmo, .int .i64 ce, .int .i64 cb, .int .i64 ct, .bool cg, .int .u64 ca]] w fun e' w' => e' = .returned (.agg #[.int .u64 RB, .int .u64 RT, .bool RO]) ∧ Kp w w' := fun w => hRB ▸ hRT ▸ hRO ▸ refOf_w ctg cpe cty cmo ce cb ct cg ca HF.out w
      have T := ofs_bd ce cb ct cg ca
      rw [hRT] at T
      obtain ⟨t0, t1⟩ := T
      rw [hRB, hRT, hRO, hpb] at hv
      obtain ⟨ib, hib⟩ : ∃ ib, inB RB RT RO kd 1 = ib := ⟨_, rfl⟩
      rw [hib] at hv
      have HIN : ∀ w, Calls Try.prog 68 #[.agg #[.int .u64 RB, .int .u64 RT, .bool RO], .int .u64 kd, .int .i64 1] w fun e' w' => e' = .returned (.bool ib) ∧ Kp w w' := fun w => hib ▸ rin_w RB RT RO kd 1 t0 t1 k0 (by omega) (by omega) (by omega) w
      have hkw : IntKind.u64.wrap kd = kd := by rw [IntKind.wrap_u64]; omega
      have HO := Lib.hid HOF
      have HI := Lib.hid HIN
      clear hRB hRT hRO hib HOF HIN
      cases ctg
      · obtain rfl : false = v := by simpa using hv
        clear hv hpb
        go_wp2
        go_roundw
        case rel => exact ⟨k + 1, by omega, by go_num, HNO.out (by first | rfl | trivial), HKP.out⟩
        case measure => simp [intOf]; omega
      · cases hs : sealedB cty <;> cases pb <;> cases ib
        all_goals
          rw [hs] at hv
          simp only [Bool.not_true, Bool.not_false, Bool.and_false, Bool.false_and, Bool.true_and, Bool.and_true] at hv
          have HS := Lib.hid hs
          subst hv
          clear hs
          go_wp2_with (first
            | (go_at_call 43; (with_reducible refine (rsealed9 true cpe cty cmo ce cb ct cg ca _ HS.out _).mono ?_); rintro e' w1 ⟨rfl, qk⟩; have HKw1 := Lib.hid qk; have qw10 : w1.cell? ⟨b, o + k * 9, none⟩ = some (.bool true) := (qk.cell (p := ⟨b, o + k * 9, none⟩) (by first | (simp; done) | (simp; omega) | omega)).trans (by simp [go_sem, *]); have qw11 : w1.cell? ⟨b, o + k * 9 + 1, none⟩ = some (.int .i64 cpe) := (qk.cell (p := ⟨b, o + k * 9 + 1, none⟩) (by first | (simp; done) | (simp; omega) | omega)).trans (by simp [go_sem, *]); have qw12 : w1.cell? ⟨b, o + k * 9 + 2, none⟩ = some (.int .i64 cty) := (qk.cell (p := ⟨b, o + k * 9 + 2, none⟩) (by first | (simp; done) | (simp; omega) | omega)).trans (by simp [go_sem, *]); have qw13 : w1.cell? ⟨b, o + k * 9 + 3, none⟩ = some (.int .i64 cmo) := (qk.cell (p := ⟨b, o + k * 9 + 3, none⟩) (by first | (simp; done) | (simp; omega) | omega)).trans (by simp [go_sem, *]); have qw14 : w1.cell? ⟨b, o + k * 9 + 4, none⟩ = some (.int .i64 ce) := (qk.cell (p := ⟨b, o + k * 9 + 4, none⟩) (by first | (simp; done) | (simp; omega) | omega)).trans (by simp [go_sem, *]); have qw15 : w1.cell? ⟨b, o + k * 9 + 5, none⟩ = some (.int .i64 cb) := (qk.cell (p := ⟨b, o + k * 9 + 5, none⟩) (by first | (simp; done) | (simp; omega) | omega)).trans (by simp [go_sem, *]); have qw16 : w1.cell? ⟨b, o + k * 9 + 6, none⟩ = some (.int .i64 ct) := (qk.cell (p := ⟨b, o + k * 9 + 6, none⟩) (by first | (simp; done) | (simp; omega) | omega)).trans (by simp [go_sem, *]); have qw17 : w1.cell? ⟨b, o + k * 9 + 7, none⟩ = some (.bool cg) := (qk.cell (p := ⟨b, o + k * 9 + 7, none⟩) (by first | (simp; done) | (simp; omega) | omega)).trans (by simp [go_sem, *]); have qw18 : w1.cell? ⟨b, o + k * 9 + 8, none⟩ = some (.int .u64 ca) := (qk.cell (p := ⟨b, o + k * 9 + 8, none⟩) (by first | (simp; done) | (simp; omega) | omega)).trans (by simp [go_sem, *]); have K1 := Lib.hid (Kp.trans HKP.out qk); have s1 := qk.size; clear qk)
            | (go_at_call 45; (with_reducible refine (HO.out _).mono ?_); rintro e' w2 ⟨rfl, qk⟩; have HKw2 := Lib.hid qk; have K2 := Lib.hid (Kp.trans K1.out qk); clear qk)
            | (go_at_call 68; (with_reducible refine (HI.out _).mono ?_); rintro e' w3 ⟨rfl, qk⟩; have HKw3 := Lib.hid qk; have K3 := Lib.hid (Kp.trans K2.out qk); clear qk))
        all_goals first
          | (go_roundw
             case rel => exact ⟨k + 1, by omega, by go_num, HNO.out (by first | rfl | trivial), by first | exact K3.out | exact K1.out⟩
             case measure => simp [intOf]; omega)
          | (go_ret
             exact ⟨ret_bool (HYES.out (by first | rfl | trivial)).symm, K3.out⟩)
    · go_wp2
      go_ret
      exact ⟨ret_bool (by rw [eq_comm, List.any_eq_false]; have e : L.take k = L := List.take_of_length_le (by omega); rw [e] at HX; exact fun x hx => by simp [HX.out x hx]), HKP.out⟩
set_option maxHeartbeats 2000000 in
set_option maxRecDepth 100000 in
theorem with128_w (L : List Cp) (A : Option Addr) (n : Nat) (kd : Int) (hL : ∀ c ∈ L, RC c) (k0 : 0 ≤ kd) (k1 : kd ≤ 262135) (w : World) (h : Rd w w.heap.size A L) (hl : L.length ≤ 1000000) :
    Calls Try.prog 41 #[.slice A L.length n, .int .i64 128, .int .i64 kd] w fun e' w' => e' = .returned (.bool (L.any (fun x => x.tg && canD x 128 kd))) ∧ Kp w w' := by
  have HR := Lib.hid h
  have HL := Lib.hid hL
  clear h hL
  go_enter Try.func41, Try.ntmps41
  go_wp2
  go_loopw [7] (fun i wr => ∃ k : Nat, k ≤ L.length ∧ i = .int .i64 k ∧ (∀ c ∈ L.take k, (c.tg && canD c 128 kd) = false) ∧ Kp w wr) (fun i _ => L.length - (intOf i).toNat)
  case atStart => exact ⟨0, Nat.zero_le _, rfl, by simp, Kp.refl w⟩
  case round =>
    obtain ⟨k, hk, rfl, hx, hkp⟩ := hrel
    have HX := Lib.hid hx
    have HKP := Lib.hid hkp
    have hws : w.heap.size ≤ wr.heap.size := hkp.size
    clear hx hkp
    by_cases hlt : k < L.length
    · obtain ⟨b, o, rfl, hb, c, hc, hr⟩ := (HR.out.kp HKP.out (Nat.le_refl _)).at_ hlt
      obtain ⟨r0, r1, r2, r3, r4, r5, r6, r7, r8⟩ := hr.out
      have hcm := List.mem_of_getElem? hc
      have RCc := HL.out c hcm
      have hb' : b < wr.heap.size := by omega
      have HC := Lib.hid hc
      have hP := hasP_two c.pe 7 (by omega) RCc.p0 RCc.p1 128 (by decide)
      have hfin : ∀ d ∈ L.take (k + 1), d ∈ L.take k ∨ d = c := by
        intro d hd
        rw [List.take_add_one, HC.out] at hd
        rcases List.mem_append.1 hd with hd | hd
        · exact Or.inl hd
        · exact Or.inr (by simpa using hd)
      have HFN := Lib.hid hfin
      have HCM := Lib.hid hcm
      have p0 := RCc.p0
      have p1 := RCc.p1
      have HF := Lib.hid RCc.f
      obtain ⟨v, hv⟩ : ∃ v, (c.tg && canD c 128 kd) = v := ⟨_, rfl⟩
      have HV := Lib.hid hv
      simp only [canD, Cp.sealed, hP, rngIn, namesB, k1, decide_true, Bool.true_and] at hv
      clear hc hr hcm RCc hfin hP
      have fin_no : v = false → ∀ d ∈ L.take (k + 1), (d.tg && canD d 128 kd) = false := fun e d hd => by
        rcases HFN.out d hd with h | h
        · exact HX.out d h
        · subst h; rw [HV.out, e]
      have fin_yes : v = true → L.any (fun x => x.tg && canD x 128 kd) = true := fun e => List.any_eq_true.2 ⟨c, HCM.out, by rw [HV.out, e]⟩
      have HNO := Lib.hid fin_no
      have HYES := Lib.hid fin_yes
      clear fin_no fin_yes HFN HCM HV HC HX
      obtain ⟨ctg, cpe, cty, cmo, ce, cb, ct, cg, ca⟩ := c
      dsimp only at r0 r1 r2 r3 r4 r5 r6 r7 r8 hv p0 p1 HF
      obtain ⟨pb, hpb⟩ : ∃ pb, (cpe / 128 % 2 == 1) = pb := ⟨_, rfl⟩
      obtain ⟨RB, hRB⟩ : ∃ RB, ofB ce cb ca = RB := ⟨_, rfl⟩
      obtain ⟨RT, hRT⟩ : ∃ RT, ofT ce cb ct cg ca = RT := ⟨_, rfl⟩
      obtain ⟨RO, hRO⟩ : ∃ RO, ofO ce cb ct cg ca = RO := ⟨_, rfl⟩
      have HOF : ∀ w, Calls Try.prog 45 #[.agg #[.bool ctg, .int .i64 cpe, .int .i64 cty, .int .i64 cmo, .int .i64 ce, .int .i64 cb, .int .i64 ct, .bool cg, .int .u64 ca]] w fun e' w' => e' = .returned (.agg #[.int .u64 RB, .int .u64 RT, .bool RO]) ∧ Kp w w' := fun w => hRB ▸ hRT ▸ hRO ▸ refOf_w ctg cpe cty cmo ce cb ct cg ca HF.out w
      have T := ofs_bd ce cb ct cg ca
      rw [hRT] at T
      obtain ⟨t0, t1⟩ := T
      rw [hRB, hRT, hRO, hpb] at hv
      obtain ⟨ib, hib⟩ : ∃ ib, inB RB RT RO kd 1 = ib := ⟨_, rfl⟩
      rw [hib] at hv
      have HIN : ∀ w, Calls Try.prog 68 #[.agg #[.int .u64 RB, .int .u64 RT, .bool RO], .int .u64 kd, .int .i64 1] w fun e' w' => e' = .returned (.bool ib) ∧ Kp w w' := fun w => hib ▸ rin_w RB RT RO kd 1 t0 t1 k0 (by omega) (by omega) (by omega) w
      have hkw : IntKind.u64.wrap kd = kd := by rw [IntKind.wrap_u64]; omega
      have HO := Lib.hid HOF
      have HI := Lib.hid HIN
      clear hRB hRT hRO hib HOF HIN
      cases ctg
      · obtain rfl : false = v := by simpa using hv
        clear hv hpb
        go_wp2
        go_roundw
        case rel => exact ⟨k + 1, by omega, by go_num, HNO.out (by first | rfl | trivial), HKP.out⟩
        case measure => simp [intOf]; omega
      · cases hs : sealedB cty <;> cases pb <;> cases ib
        all_goals
          rw [hs] at hv
          simp only [Bool.not_true, Bool.not_false, Bool.and_false, Bool.false_and, Bool.true_and, Bool.and_true] at hv
          have HS := Lib.hid hs
          subst hv
          clear hs
          go_wp2_with (first
            | (go_at_call 43; (with_reducible refine (rsealed9 true cpe cty cmo ce cb ct cg ca _ HS.out _).mono ?_); rintro e' w1 ⟨rfl, qk⟩; have HKw1 := Lib.hid qk; have qw10 : w1.cell? ⟨b, o + k * 9, none⟩ = some (.bool true) := (qk.cell (p := ⟨b, o + k * 9, none⟩) (by first | (simp; done) | (simp; omega) | omega)).trans (by simp [go_sem, *]); have qw11 : w1.cell? ⟨b, o + k * 9 + 1, none⟩ = some (.int .i64 cpe) := (qk.cell (p := ⟨b, o + k * 9 + 1, none⟩) (by first | (simp; done) | (simp; omega) | omega)).trans (by simp [go_sem, *]); have qw12 : w1.cell? ⟨b, o + k * 9 + 2, none⟩ = some (.int .i64 cty) := (qk.cell (p := ⟨b, o + k * 9 + 2, none⟩) (by first | (simp; done) | (simp; omega) | omega)).trans (by simp [go_sem, *]); have qw13 : w1.cell? ⟨b, o + k * 9 + 3, none⟩ = some (.int .i64 cmo) := (qk.cell (p := ⟨b, o + k * 9 + 3, none⟩) (by first | (simp; done) | (simp; omega) | omega)).trans (by simp [go_sem, *]); have qw14 : w1.cell? ⟨b, o + k * 9 + 4, none⟩ = some (.int .i64 ce) := (qk.cell (p := ⟨b, o + k * 9 + 4, none⟩) (by first | (simp; done) | (simp; omega) | omega)).trans (by simp [go_sem, *]); have qw15 : w1.cell? ⟨b, o + k * 9 + 5, none⟩ = some (.int .i64 cb) := (qk.cell (p := ⟨b, o + k * 9 + 5, none⟩) (by first | (simp; done) | (simp; omega) | omega)).trans (by simp [go_sem, *]); have qw16 : w1.cell? ⟨b, o + k * 9 + 6, none⟩ = some (.int .i64 ct) := (qk.cell (p := ⟨b, o + k * 9 + 6, none⟩) (by first | (simp; done) | (simp; omega) | omega)).trans (by simp [go_sem, *]); have qw17 : w1.cell? ⟨b, o + k * 9 + 7, none⟩ = some (.bool cg) := (qk.cell (p := ⟨b, o + k * 9 + 7, none⟩) (by first | (simp; done) | (simp; omega) | omega)).trans (by simp [go_sem, *]); have qw18 : w1.cell? ⟨b, o + k * 9 + 8, none⟩ = some (.int .u64 ca) := (qk.cell (p := ⟨b, o + k * 9 + 8, none⟩) (by first | (simp; done) | (simp; omega) | omega)).trans (by simp [go_sem, *]); have K1 := Lib.hid (Kp.trans HKP.out qk); have s1 := qk.size; clear qk)
            | (go_at_call 45; (with_reducible refine (HO.out _).mono ?_); rintro e' w2 ⟨rfl, qk⟩; have HKw2 := Lib.hid qk; have K2 := Lib.hid (Kp.trans K1.out qk); clear qk)
            | (go_at_call 68; (with_reducible refine (HI.out _).mono ?_); rintro e' w3 ⟨rfl, qk⟩; have HKw3 := Lib.hid qk; have K3 := Lib.hid (Kp.trans K2.out qk); clear qk))
        all_goals first
          | (go_roundw
             case rel => exact ⟨k + 1, by omega, by go_num, HNO.out (by first | rfl | trivial), by first | exact K3.out | exact K1.out⟩
             case measure => simp [intOf]; omega)
          | (go_ret
             exact ⟨ret_bool (HYES.out (by first | rfl | trivial)).symm, K3.out⟩)
    · go_wp2
      go_ret
      exact ⟨ret_bool (by rw [eq_comm, List.any_eq_false]; have e : L.take k = L := List.take_of_length_le (by omega); rw [e] at HX; exact fun x hx => by simp [HX.out x hx]), HKP.out⟩
end Go.Proofs.Ytmehbildddlgaaa
namespace Go.Proofs.Ytmehbildddlgaaa
open Go.ChangeShapes Go.WideShapes Go.ChangeAt Go.RowKit
set_option linter.unusedVariables false
set_option linter.unusedSimpArgs false

theorem there_v (L : List Cp) (A : Option Addr) (n : Nat) (x : Cp) (w : World) (h : Rd w w.heap.size A L) (hl : L.length ≤ 1000000) (v : Bool) (hv : decide (x ∈ L) = v) :
    Calls Try.prog 40 #[.slice A L.length n, .agg #[.bool x.tg, .int .i64 x.pe, .int .i64 x.ty, .int .i64 x.mo, .int .i64 x.e, .int .i64 x.b, .int .i64 x.t, .bool x.g, .int .u64 x.a]] w fun e' w' => e' = .returned (.bool v) ∧ Kp w w' := hv ▸ there_w L A n x w h hl
set_option maxHeartbeats 8000000 in
set_option maxRecDepth 100000 in
theorem rclose_w (l : List Cp) (A : Option Addr) (n : Nat) (hL : ∀ c ∈ l, RC c) (hl : l.length ≤ 1000) (w : World) (h : Rd w w.heap.size A l) :
    Calls Try.prog 14 #[.slice A l.length n] w (CloPost l w) := by
  have HR := Lib.hid h
  have HL := Lib.hid hL
  clear h hL
  go_enter Try.func14, Try.ntmps14
  go_wp2
  go_loopw [3, 4] (fun s i wr => ∃ (k : Nat) (v : Value), k ≤ l.length ∧ i = .int .i64 k ∧ v = s ∧ OwnC wr w.heap.size v (baseL (l.take k)) ∧ Below w.heap.size w wr) (fun _ i _ => l.length - (intOf i).toNat)
  case atStart => exact ⟨0, _, Nat.zero_le _, rfl, rfl, OwnC.nil _ _, Below.refl _ _⟩
  case round =>
    obtain ⟨k, v, hk, rfl, rfl, hown, hbl⟩ := hrel
    have hws : w.heap.size ≤ wr.heap.size := hbl.size
    have HOWN := Lib.hid hown
    have HBL := Lib.hid hbl
    clear hown hbl
    by_cases hlt : k < l.length
    · obtain ⟨b, o, rfl, hb, c, hc, hr⟩ := (HR.out.keep (w' := wr) (fun p hp => HBL.out.cell hp)).at_ hlt
      obtain ⟨r0, r1, r2, r3, r4, r5, r6, r7, r8⟩ := hr.out
      have hb' : b < wr.heap.size := by omega
      obtain ⟨out, hout⟩ : ∃ out, baseL (l.take k) = out := ⟨_, rfl⟩
      have hstep := base_step l k c hc
      rw [hout] at hstep
      have HST := Lib.hid hstep
      have hlen : out.length ≤ k := by rw [← hout]; have := base_len (l.take k); rw [List.length_take] at this; omega
      have HO : Hid (OwnC wr w.heap.size v out) := Lib.hid (hout ▸ HOWN.out)
      clear hc hr hstep hout HOWN
      obtain ⟨A', cap, e, hcap, hrd, -⟩ := HO.out.rd
      subst e
      have HRD := Lib.hid hrd
      clear hrd
      obtain ⟨m, hm⟩ : ∃ m, decide (c ∈ out) = m := ⟨_, rfl⟩
      have C := fun w1 h1 => there_v out A' cap c w1 h1 (by omega) m hm
      have HM := Lib.hid hm
      clear hm
      cases htg : c.tg
      · rw [htg] at r0
        have HT := Lib.hid htg
        clear htg C
        go_wp2
        go_roundw
        case rel => exact ⟨k + 1, _, by omega, by go_num, rfl, by rw [HST.out, HT.out]; exact HO.out, HBL.out⟩
        case measure => simp [intOf]; omega
      · rw [htg] at r0 C
        have HC := Lib.hid C
        have HVS : Hid (c.vs = [.bool true, .int .i64 c.pe, .int .i64 c.ty, .int .i64 c.mo, .int .i64 c.e, .int .i64 c.b, .int .i64 c.t, .bool c.g, .int .u64 c.a]) := Lib.hid (by simp [Cp.vs, htg])
        have HT := Lib.hid htg
        clear C htg
        cases m
        · go_wp2_with (first
            | (go_at_call 40; (with_reducible refine (HC.out _ HRD.out).mono ?_); rintro e' w1 ⟨rfl, qk⟩; have HKw1 := Lib.hid qk; have qw10 : w1.cell? ⟨b, o + k * 9, none⟩ = some (.bool true) := (qk.cell (p := ⟨b, o + k * 9, none⟩) (by first | (simp; done) | (simp; omega) | omega)).trans (by simp [go_sem, *]); have qw11 : w1.cell? ⟨b, o + k * 9 + 1, none⟩ = some (.int .i64 c.pe) := (qk.cell (p := ⟨b, o + k * 9 + 1, none⟩) (by first | (simp; done) | (simp; omega) | omega)).trans (by simp [go_sem, *]); have qw12 : w1.cell? ⟨b, o + k * 9 + 2, none⟩ = some (.int .i64 c.ty) := (qk.cell (p := ⟨b, o + k * 9 + 2, none⟩) (by first | (simp; done) | (simp; omega) | omega)).trans (by simp [go_sem, *]); have qw13 : w1.cell? ⟨b, o + k * 9 + 3, none⟩ = some (.int .i64 c.mo) := (qk.cell (p := ⟨b, o + k * 9 + 3, none⟩) (by first | (simp; done) | (simp; omega) | omega)).trans (by simp [go_sem, *]); have qw14 : w1.cell? ⟨b, o + k * 9 + 4, none⟩ = some (.int .i64 c.e) := (qk.cell (p := ⟨b, o + k * 9 + 4, none⟩) (by first | (simp; done) | (simp; omega) | omega)).trans (by simp [go_sem, *]); have qw15 : w1.cell? ⟨b, o + k * 9 + 5, none⟩ = some (.int .i64 c.b) := (qk.cell (p := ⟨b, o + k * 9 + 5, none⟩) (by first | (simp; done) | (simp; omega) | omega)).trans (by simp [go_sem, *]); have qw16 : w1.cell? ⟨b, o + k * 9 + 6, none⟩ = some (.int .i64 c.t) := (qk.cell (p := ⟨b, o + k * 9 + 6, none⟩) (by first | (simp; done) | (simp; omega) | omega)).trans (by simp [go_sem, *]); have qw17 : w1.cell? ⟨b, o + k * 9 + 7, none⟩ = some (.bool c.g) := (qk.cell (p := ⟨b, o + k * 9 + 7, none⟩) (by first | (simp; done) | (simp; omega) | omega)).trans (by simp [go_sem, *]); have qw18 : w1.cell? ⟨b, o + k * 9 + 8, none⟩ = some (.int .u64 c.a) := (qk.cell (p := ⟨b, o + k * 9 + 8, none⟩) (by first | (simp; done) | (simp; omega) | omega)).trans (by simp [go_sem, *]); have hw1 : w.heap.size ≤ w1.heap.size := Nat.le_trans hws qk.size; have HO1 := Lib.hid (HO.out.kp qk); have HB1 := Lib.hid (HBL.out.trans (qk.1.mono hws)); clear qk)            | (at_builtin; refine app_c rfl (.tmp 29) (.tmp 34) rfl w.heap.size _ out rfl (HO1.out.alloc _) ⟨w1.heap.size, 0, none⟩ 1 c rfl (fun j u hu => World.news_of_block (heap_alloc_new w1 _) j u (by rw [HVS.out] at hu; exact hu)) (by omega) (by simp; omega) (w1.heap.size + 1) (by simp) ?_; intro g cap' w2 hown2 hg2 hat2 hlt2; have HO2 := Lib.hid hown2; have HB2 := Lib.hid (below_grown (HB1.out.alloc hw1 _) hg2 (by simp; omega) (HO1.out.alloc _)); clear hown2 hg2 hat2))
          go_roundw
          case rel => exact ⟨k + 1, _, by omega, by go_num, rfl, by rw [HST.out, HT.out, if_pos rfl, addC, if_neg (of_decide_eq_false HM.out)]; exact HO2.out, HB2.out⟩
          case measure => simp [intOf]; omega
        · go_wp2_with (first
            | (go_at_call 40; (with_reducible refine (HC.out _ HRD.out).mono ?_); rintro e' w1 ⟨rfl, qk⟩; have HKw1 := Lib.hid qk; have HO1 := Lib.hid (HO.out.kp qk); have HB1 := Lib.hid (HBL.out.trans (qk.1.mono hws)); clear qk)            )
          go_roundw
          case rel => exact ⟨k + 1, _, by omega, by go_num, rfl, by rw [HST.out, HT.out, if_pos rfl, addC, if_pos (of_decide_eq_true HM.out)]; exact HO1.out, HB1.out⟩
          case measure => simp [intOf]; omega
    · have e0 : l.take k = l := List.take_of_length_le (by omega)
      rw [e0] at HOWN
      obtain ⟨bs, hbs⟩ : ∃ bs, baseL l = bs := ⟨_, rfl⟩
      rw [hbs] at HOWN
      have hAll : AllT bs := hbs ▸ base_all l HL.out
      have hbl : bs.length ≤ 1000 := by have := base_len l; rw [hbs] at this; omega
      have HBS := Lib.hid hbs
      have HALL := Lib.hid hAll
      clear e0 hbs hAll
      go_wp2
      obtain ⟨wo, hwo⟩ : ∃ wo : World, wo = wr := ⟨_, rfl⟩
      subst hwo
      go_loopw [3, 5] (fun s n wx => ∃ (v : Value) (out : List Cp) (N : Int), v = s ∧ n = .int .i64 N ∧ OwnC wx w.heap.size v out ∧ (∃ m, out = rounds bs m) ∧ Grown6 bs out ∧ Below w.heap.size w wx ∧ -1 ≤ N ∧ N ≤ 2000 ∧ (N = out.length → IsClo l out)) (fun s n _ => 2 * (2000 - sliceLen s) + (if intOf n = sliceLen s then 0 else 1))
      case atStart => exact ⟨_, bs, -1, rfl, rfl, HOWN.out, ⟨0, rfl⟩, Grown6.refl bs, HBL.out, by omega, by omega, fun h => by omega⟩
      case round =>
        clear HOWN HBL hws
        obtain ⟨v, out, N, rfl, rfl, hown, hm, hg, hbl, N0, N1, hN⟩ := hrel
        have hws : w.heap.size ≤ wr.heap.size := hbl.size
        have hol : out.length ≤ 2000 := by have := hg.len; omega
        obtain ⟨A', cap, e, hcap, hrd, -⟩ := hown.rd
        subst e
        have HO := Lib.hid hown
        have HB := Lib.hid hbl
        have HG := Lib.hid hg
        have HMM := Lib.hid hm
        have HNN := Lib.hid hN
        clear hown hbl hg hm hN hrd
        by_cases hNe : N = out.length
        · have HI := Lib.hid (HNN.out hNe)
          subst hNe
          clear HNN
          go_wp2
          go_ret
          exact ⟨_, out, rfl, HI.out, HO.out, HB.out⟩
        · have e1 : (N == (out.length : Int)) = false := by simpa using hNe
          have e2 : (N != (out.length : Int)) = true := by simpa using hNe
          have HNN2 := Lib.hid hNe
          clear HNN hNe
          go_wp2
          obtain ⟨wo, hwo⟩ : ∃ wo : World, wo = wr := ⟨_, rfl⟩
          subst hwo
          go_loopw [3, 6] (fun s i wx => ∃ (k : Nat) (v : Value) (cur : List Cp), i = .int .i64 k ∧ v = s ∧ cur = roundC (out.take k) out ∧ k ≤ cur.length ∧ OwnC wx w.heap.size v cur ∧ Below w.heap.size w wx) (fun _ i _ => 2000 - (intOf i).toNat)
          case atStart => exact ⟨0, _, out, rfl, rfl, rfl, Nat.zero_le _, HO.out, HB.out⟩
          case round =>
            clear HO HB hws e1 e2 hcap
            obtain ⟨k, v, cur, rfl, rfl, hcur, hk, hown, hbl⟩ := hrel
            have hws : w.heap.size ≤ wr.heap.size := hbl.size
            have hgc : Grown6 bs cur := by rw [hcur]; exact HG.out.part k
            have hcl : cur.length ≤ 2000 := by have := hgc.len; omega
            have hca : AllT cur := hgc.all_ HALL.out
            obtain ⟨A1, cap1, e, hcap, hrd, -⟩ := hown.rd
            subst e
            have HO := Lib.hid hown
            have HBL := Lib.hid hbl
            have hwo : w.heap.size ≤ wr.heap.size := hws
            by_cases hlt : k < cur.length
            · obtain ⟨b, o, rfl, hb, c, hc, hr⟩ := hrd.at_ hlt
              obtain ⟨r0, r1, r2, r3, r4, r5, r6, r7, r8⟩ := hr.out
              have HIN := Lib.hid (inner_step HG.out k c hcur hc)
              have HLE : Hid (cur.length ≤ (stepC cur c).length) := by
                obtain ⟨u, e, _⟩ := step_pre cur c
                exact Lib.hid (by rw [e, List.length_append]; omega)
              have RCc := (hca c (List.mem_of_getElem? hc)).1
              obtain ⟨m, hm⟩ : ∃ m, decide (uns c ∈ cur) = m := ⟨_, rfl⟩
              obtain ⟨kb, hkb⟩ : ∃ kb, keyB cur c.ty = kb := ⟨_, rfl⟩
              have C : ∀ w1, OwnC w1 w.heap.size (.slice (some ⟨b, o, none⟩) cur.length cap1) cur → Calls Try.prog 40 #[.slice (some ⟨b, o, none⟩) cur.length cap1, .agg #[.bool c.tg, .int .i64 c.pe, .int .i64 262143, .int .i64 c.mo, .int .i64 c.e, .int .i64 c.b, .int .i64 c.t, .bool c.g, .int .u64 c.a]] w1 fun e' w' => e' = .returned (.bool m) ∧ Kp w1 w' := fun w1 h1 => by
                obtain ⟨A2, cap2, e, _, hr2, -⟩ := h1.rd
                cases e
                exact there_v cur _ cap1 (uns c) w1 hr2 (by omega) m hm
              have CW : ∀ w1, OwnC w1 w.heap.size (.slice (some ⟨b, o, none⟩) cur.length cap1) cur → c.ty ≤ 262135 → Calls Try.prog 41 #[.slice (some ⟨b, o, none⟩) cur.length cap1, .int .i64 256, .int .i64 c.ty] w1 fun e' w' => e' = .returned (.bool kb) ∧ Kp w1 w' := fun w1 h1 ht => by
                obtain ⟨A2, cap2, e, _, hr2, -⟩ := h1.rd
                cases e
                have := with256_w cur _ cap1 c.ty (fun d hd => (hca d hd).1) RCc.y0 ht w1 hr2 (by omega)
                rw [key_with cur hca] at this
                exact hkb ▸ this
              have HNE : Hid (∀ g, Value.ownBlock (.slice (some ⟨b, o, none⟩) cur.length cap1) = some g → g ≠ wr.heap.size) := Lib.hid (fun g hg => Nat.ne_of_lt (hown.lt g hg).2)
              have HC := Lib.hid C
              have HM := Lib.hid hm
              have HKB := Lib.hid hkb
              have ty0 := RCc.y0
              have ty1 := RCc.y1
              have hb' : b < wr.heap.size := hb
              clear C hm hkb hc hr hca hcur hgc hown hbl hrd RCc hb
              by_cases hA : c.ty = 262142
              · have eA : (c.ty == 262142) = true := by simpa using hA
                have HOP : Hid (opensB cur c = true) := Lib.hid (by simp [opensB, hA])
                clear hA CW
                cases m
                · go_wp2_with (first
                    | (go_at_call 40; (with_reducible refine (HC.out _ (own_fr HO.out ((Fr.refl wr (fun _ => False)).alloc _) (fun _ _ h => h))).mono ?_); rintro e' w2 ⟨rfl, qk⟩; have BKw2 : Blk w2 wr.heap.size 25 [.bool c.tg, .int .i64 c.pe, .int .i64 262143, .int .i64 c.mo, .int .i64 c.e, .int .i64 c.b, .int .i64 c.t, .bool c.g, .int .u64 c.a] := ((Blk.new wr 25 [.bool c.tg, .int .i64 c.pe, .int .i64 262143, .int .i64 c.mo, .int .i64 c.e, .int .i64 c.b, .int .i64 c.t, .bool c.g, .int .u64 c.a])).fr (Fr.of_kp qk (fun _ => False)) id; obtain ⟨_, _, _, _, _, _, _, _, _⟩ := BKw2.at_.out9; have hw2 : w.heap.size ≤ w2.heap.size := (by have := qk.size; (try simp at this); omega); have HOw2 := Lib.hid (OwnC.kp (own_fr HO.out ((Fr.refl wr (fun _ => False)).alloc _) (fun _ _ h => h)) qk); have HBw2 := Lib.hid ((HBL.out.alloc hwo _).trans (qk.1.mono (by first | (simp; done) | (simp; omega) | omega))); clear qk)
                    | (at_builtin; refine app_c rfl (.tmp 74) (.tmp 76) rfl w.heap.size _ cur rfl (own_fr HOw2.out ((Fr.refl w2 (fun _ => False)).alloc _) (fun _ _ h => h)) ⟨w2.heap.size, 0, none⟩ 1 (uns c) rfl (fun j u hu => World.news_of_block (heap_alloc_new w2 _) j u hu) (by omega) (by simp; omega) (w2.heap.size + 1) (by simp) ?_; intro g cap' w3 hown2 hg2 hat2 hlt2; have HOw3 := Lib.hid hown2; have HBw3 := Lib.hid (below_grown (HBw2.out.alloc hw2 _) hg2 (by simp; omega) (own_fr HOw2.out ((Fr.refl w2 (fun _ => False)).alloc _) (fun _ _ h => h))); clear hown2 hg2 hat2))
                  go_roundw
                  case rel => exact ⟨k + 1, _, stepC cur c, by go_num, rfl, HIN.out.symm, by have := HLE.out; omega, by rw [stepC, HOP.out, if_pos rfl, addC, if_neg (of_decide_eq_false HM.out)]; exact HOw3.out, HBw3.out⟩
                  case measure => simp [intOf]; omega
                · go_wp2_with (first
                    | (go_at_call 40; (with_reducible refine (HC.out _ (own_fr HO.out ((Fr.refl wr (fun _ => False)).alloc _) (fun _ _ h => h))).mono ?_); rintro e' w2 ⟨rfl, qk⟩; have BKw2 : Blk w2 wr.heap.size 25 [.bool c.tg, .int .i64 c.pe, .int .i64 262143, .int .i64 c.mo, .int .i64 c.e, .int .i64 c.b, .int .i64 c.t, .bool c.g, .int .u64 c.a] := ((Blk.new wr 25 [.bool c.tg, .int .i64 c.pe, .int .i64 262143, .int .i64 c.mo, .int .i64 c.e, .int .i64 c.b, .int .i64 c.t, .bool c.g, .int .u64 c.a])).fr (Fr.of_kp qk (fun _ => False)) id; obtain ⟨_, _, _, _, _, _, _, _, _⟩ := BKw2.at_.out9; have hw2 : w.heap.size ≤ w2.heap.size := (by have := qk.size; (try simp at this); omega); have HOw2 := Lib.hid (OwnC.kp (own_fr HO.out ((Fr.refl wr (fun _ => False)).alloc _) (fun _ _ h => h)) qk); have HBw2 := Lib.hid ((HBL.out.alloc hwo _).trans (qk.1.mono (by first | (simp; done) | (simp; omega) | omega))); clear qk))
                  go_roundw
                  case rel => exact ⟨k + 1, _, stepC cur c, by go_num, rfl, HIN.out.symm, by have := HLE.out; omega, by rw [stepC, HOP.out, if_pos rfl, addC, if_pos (of_decide_eq_true HM.out)]; exact HOw2.out, HBw2.out⟩
                  case measure => simp [intOf]; omega
              · have eA : (c.ty == 262142) = false := by simpa using hA
                by_cases hB : c.ty ≤ 262135
                · have HOP : Hid (opensB cur c = kb) := Lib.hid (by rw [opensB, eA, HKB.out]; rfl)
                  have HCW := Lib.hid (fun w1 h1 => CW w1 h1 hB)
                  clear CW hA
                  cases kb
                  · go_wp2_with (first
                      | (go_at_call 41; (with_reducible refine (HCW.out _ (own_fr HO.out ((Fr.refl wr (fun _ => False)).alloc _) (fun _ _ h => h))).mono ?_); rintro e' w1 ⟨rfl, qk⟩; have BK1 : Blk w1 wr.heap.size 25 [.bool c.tg, .int .i64 c.pe, .int .i64 c.ty, .int .i64 c.mo, .int .i64 c.e, .int .i64 c.b, .int .i64 c.t, .bool c.g, .int .u64 c.a] := ((Blk.new wr 25 [.bool c.tg, .int .i64 c.pe, .int .i64 c.ty, .int .i64 c.mo, .int .i64 c.e, .int .i64 c.b, .int .i64 c.t, .bool c.g, .int .u64 c.a])).fr (Fr.of_kp qk (fun _ => False)) id; obtain ⟨_, _, _, _, _, _, _, _, _⟩ := BK1.at_.out9; have zf1 := BK1.frozen 2; have hw1 : w.heap.size ≤ w1.heap.size := (by have := qk.size; (try simp at this); omega); have hwr1 : wr.heap.size < w1.heap.size := (by have := qk.size; (try simp at this); omega); have HO1 := Lib.hid (OwnC.kp (own_fr HO.out ((Fr.refl wr (fun _ => False)).alloc _) (fun _ _ h => h)) qk); have HOX := Lib.hid (OwnC.set HO1.out ⟨wr.heap.size, 2, none⟩ (.int .i64 262143) HNE.out); have HB1 := Lib.hid ((HBL.out.alloc hwo _).trans (qk.1.mono (by first | (simp; done) | (simp; omega) | omega))); clear qk))
                    go_roundw
                    case rel => exact ⟨k + 1, _, stepC cur c, by go_num, rfl, HIN.out.symm, by have := HLE.out; omega, by rw [stepC, HOP.out, if_neg (by simp)]; exact HOX.out, HB1.out.setCell hwo _⟩
                    case measure => simp [intOf]; omega
                  · cases m
                    · go_wp2_with (first
                        | (go_at_call 41; (with_reducible refine (HCW.out _ (own_fr HO.out ((Fr.refl wr (fun _ => False)).alloc _) (fun _ _ h => h))).mono ?_); rintro e' w1 ⟨rfl, qk⟩; have BK1 : Blk w1 wr.heap.size 25 [.bool c.tg, .int .i64 c.pe, .int .i64 c.ty, .int .i64 c.mo, .int .i64 c.e, .int .i64 c.b, .int .i64 c.t, .bool c.g, .int .u64 c.a] := ((Blk.new wr 25 [.bool c.tg, .int .i64 c.pe, .int .i64 c.ty, .int .i64 c.mo, .int .i64 c.e, .int .i64 c.b, .int .i64 c.t, .bool c.g, .int .u64 c.a])).fr (Fr.of_kp qk (fun _ => False)) id; obtain ⟨_, _, _, _, _, _, _, _, _⟩ := BK1.at_.out9; have zf1 := BK1.frozen 2; have hw1 : w.heap.size ≤ w1.heap.size := (by have := qk.size; (try simp at this); omega); have hwr1 : wr.heap.size < w1.heap.size := (by have := qk.size; (try simp at this); omega); have HO1 := Lib.hid (OwnC.kp (own_fr HO.out ((Fr.refl wr (fun _ => False)).alloc _) (fun _ _ h => h)) qk); have HOX := Lib.hid (OwnC.set HO1.out ⟨wr.heap.size, 2, none⟩ (.int .i64 262143) HNE.out); have HB1 := Lib.hid ((HBL.out.alloc hwo _).trans (qk.1.mono (by first | (simp; done) | (simp; omega) | omega))); clear qk)
                        | (go_at_call 40; (with_reducible refine (HC.out _ (HOX.out)).mono ?_); rintro e' w2 ⟨rfl, qk⟩; have BKw2 : Blk w2 wr.heap.size 25 [.bool c.tg, .int .i64 c.pe, .int .i64 262143, .int .i64 c.mo, .int .i64 c.e, .int .i64 c.b, .int .i64 c.t, .bool c.g, .int .u64 c.a] := (BK1.set_ 2 _).fr (Fr.of_kp qk (fun _ => False)) id; obtain ⟨_, _, _, _, _, _, _, _, _⟩ := BKw2.at_.out9; have hw2 : w.heap.size ≤ w2.heap.size := (by have := qk.size; (try simp at this); omega); have HOw2 := Lib.hid (OwnC.kp (HOX.out) qk); have HBw2 := Lib.hid ((HB1.out.setCell hwo _).trans (qk.1.mono (by first | (simp; done) | (simp; omega) | omega))); clear qk)
                        | (at_builtin; refine app_c rfl (.tmp 74) (.tmp 76) rfl w.heap.size _ cur rfl (own_fr HOw2.out ((Fr.refl w2 (fun _ => False)).alloc _) (fun _ _ h => h)) ⟨w2.heap.size, 0, none⟩ 1 (uns c) rfl (fun j u hu => World.news_of_block (heap_alloc_new w2 _) j u hu) (by omega) (by simp; omega) (w2.heap.size + 1) (by simp) ?_; intro g cap' w3 hown2 hg2 hat2 hlt2; have HOw3 := Lib.hid hown2; have HBw3 := Lib.hid (below_grown (HBw2.out.alloc hw2 _) hg2 (by simp; omega) (own_fr HOw2.out ((Fr.refl w2 (fun _ => False)).alloc _) (fun _ _ h => h))); clear hown2 hg2 hat2))
                      go_roundw
                      case rel => exact ⟨k + 1, _, stepC cur c, by go_num, rfl, HIN.out.symm, by have := HLE.out; omega, by rw [stepC, HOP.out, if_pos rfl, addC, if_neg (of_decide_eq_false HM.out)]; exact HOw3.out, HBw3.out⟩
                      case measure => simp [intOf]; omega
                    · go_wp2_with (first
                        | (go_at_call 41; (with_reducible refine (HCW.out _ (own_fr HO.out ((Fr.refl wr (fun _ => False)).alloc _) (fun _ _ h => h))).mono ?_); rintro e' w1 ⟨rfl, qk⟩; have BK1 : Blk w1 wr.heap.size 25 [.bool c.tg, .int .i64 c.pe, .int .i64 c.ty, .int .i64 c.mo, .int .i64 c.e, .int .i64 c.b, .int .i64 c.t, .bool c.g, .int .u64 c.a] := ((Blk.new wr 25 [.bool c.tg, .int .i64 c.pe, .int .i64 c.ty, .int .i64 c.mo, .int .i64 c.e, .int .i64 c.b, .int .i64 c.t, .bool c.g, .int .u64 c.a])).fr (Fr.of_kp qk (fun _ => False)) id; obtain ⟨_, _, _, _, _, _, _, _, _⟩ := BK1.at_.out9; have zf1 := BK1.frozen 2; have hw1 : w.heap.size ≤ w1.heap.size := (by have := qk.size; (try simp at this); omega); have hwr1 : wr.heap.size < w1.heap.size := (by have := qk.size; (try simp at this); omega); have HO1 := Lib.hid (OwnC.kp (own_fr HO.out ((Fr.refl wr (fun _ => False)).alloc _) (fun _ _ h => h)) qk); have HOX := Lib.hid (OwnC.set HO1.out ⟨wr.heap.size, 2, none⟩ (.int .i64 262143) HNE.out); have HB1 := Lib.hid ((HBL.out.alloc hwo _).trans (qk.1.mono (by first | (simp; done) | (simp; omega) | omega))); clear qk)
                        | (go_at_call 40; (with_reducible refine (HC.out _ (HOX.out)).mono ?_); rintro e' w2 ⟨rfl, qk⟩; have BKw2 : Blk w2 wr.heap.size 25 [.bool c.tg, .int .i64 c.pe, .int .i64 262143, .int .i64 c.mo, .int .i64 c.e, .int .i64 c.b, .int .i64 c.t, .bool c.g, .int .u64 c.a] := (BK1.set_ 2 _).fr (Fr.of_kp qk (fun _ => False)) id; obtain ⟨_, _, _, _, _, _, _, _, _⟩ := BKw2.at_.out9; have hw2 : w.heap.size ≤ w2.heap.size := (by have := qk.size; (try simp at this); omega); have HOw2 := Lib.hid (OwnC.kp (HOX.out) qk); have HBw2 := Lib.hid ((HB1.out.setCell hwo _).trans (qk.1.mono (by first | (simp; done) | (simp; omega) | omega))); clear qk))
                      go_roundw
                      case rel => exact ⟨k + 1, _, stepC cur c, by go_num, rfl, HIN.out.symm, by have := HLE.out; omega, by rw [stepC, HOP.out, if_pos rfl, addC, if_pos (of_decide_eq_true HM.out)]; exact HOw2.out, HBw2.out⟩
                      case measure => simp [intOf]; omega
                · have HOP : Hid (opensB cur c = false) := Lib.hid (by rw [opensB, eA, keyB]; simp only [Bool.false_or]; rw [List.any_eq_false]; intro x _; simp [canD, rngIn, namesB]; omega)
                  clear CW hA
                  go_wp2
                  go_roundw
                  case rel => exact ⟨k + 1, _, stepC cur c, by go_num, rfl, HIN.out.symm, by have := HLE.out; omega, by rw [stepC, HOP.out, if_neg (by simp)]; exact (own_fr HO.out ((Fr.refl wr (fun _ => False)).alloc _) (fun _ _ h => h)), HBL.out.alloc hwo _⟩
                  case measure => simp [intOf]; omega
            · have hkc : k = cur.length := by omega
              have hlast : out.take k = out := List.take_of_length_le (by
                obtain ⟨u, eu, _⟩ := fold_pre (out.take k) out
                rw [← hcur] at eu
                rw [hkc, eu, List.length_append]; omega)
              have e1 : cur = roundC out out := by rw [hlast] at hcur; exact hcur
              have HE := Lib.hid e1
              have HGC := Lib.hid hgc
              clear hcur hown hbl hca hgc hrd e1
              go_wp2
              go_roundw
              case rel =>
                obtain ⟨mm, hmm⟩ := HMM.out
                have e2 : cur = roundC bs out := by rw [HE.out]; exact HG.out.all out
                have hm2 : ∃ m, cur = rounds bs m := ⟨mm + 1, by rw [e2, hmm]; rfl⟩
                exact ⟨_, cur, (out.length : Int), rfl, rfl, HO.out, hm2, HGC.out, HBL.out, by omega, by omega, fun h => rclose_last (prev := out) (by rw [HBS.out]; exact e2) (by omega) (by rw [HBS.out]; exact hm2)⟩
              case measure =>
                obtain ⟨u, eu, _⟩ := fold_pre out out
                have hle : out.length ≤ cur.length := by rw [HE.out, eu, List.length_append]; omega
                have hn2 := HNN2.out
                simp only [sliceLen, intOf]
                rcases Nat.lt_or_ge out.length cur.length with h | h
                · have h' : ¬ ((out.length : Int) = (cur.length : Int)) := by omega
                  simp [h', hn2]; omega
                · have h' : out.length = cur.length := by omega
                  simp [h', hn2] at hn2 ⊢
                  simp [hn2]
end Go.Proofs.Ytmehbildddlgaaa
