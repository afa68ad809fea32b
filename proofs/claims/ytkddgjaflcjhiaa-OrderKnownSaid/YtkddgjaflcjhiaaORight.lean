/-
  Which capabilities are right; the contract of layer 6's own Right: are all of some right, and at most 40? Numbers are within their types.
-/
import Derived.Test.YtkddgjaflcjhiaaOSame
import Derived.Test.YtkddgjaflcjhiaaODef
import Derived.Test.YtkddgjaflcjhiaaME
namespace Go.Proofs.Ytkddgjaflcjhiaa
open Go.ChangeShapes Go.WideShapes Go.ChangeAt Go.RowKit
set_option linter.unusedVariables false
set_option linter.unusedSimpArgs false

/-- A capability's numbers are within their types. -/
structure Raw (c : Cp) : Prop where
  p0 : -9223372036854775808 ≤ c.pe
  p1 : c.pe < 9223372036854775808
  y0 : -9223372036854775808 ≤ c.ty
  y1 : c.ty < 9223372036854775808
  o0 : -9223372036854775808 ≤ c.mo
  o1 : c.mo < 9223372036854775808
  e0 : -9223372036854775808 ≤ c.e
  e1 : c.e < 9223372036854775808
  b0 : -9223372036854775808 ≤ c.b
  b1 : c.b < 9223372036854775808
  t0 : -9223372036854775808 ≤ c.t
  t1 : c.t < 9223372036854775808
  a0 : 0 ≤ c.a
  a1 : c.a < 18446744073709551616
def rightC (c : Cp) : Bool := rightB c.pe c.ty c.mo c.e c.b c.t c.g
theorem RC.of_right {c : Cp} (h : Raw c) (r : rightC c = true) : RC c := by
  have a0 := h.a0
  have a1 := h.a1
  simp only [rightC, rightB, rbB, fitB, Bool.and_eq_true, decide_eq_true_eq] at r
  obtain ⟨⟨⟨⟨p0, p1⟩, y0, y1⟩, o0, o1⟩, ⟨⟨b0, b1⟩, t0, t1⟩, he⟩ := r
  have e : 0 ≤ c.e ∧ c.e ≤ 52 := by
    split at he
    · simp only [Bool.and_eq_true, decide_eq_true_eq] at he; omega
    · simp only [decide_eq_true_eq] at he; omega
  exact ⟨p0, p1, y0, y1, o0, o1, ⟨e.1, e.2, b0, b1, t0, t1, a0, a1⟩⟩
def rightL (L : List Cp) : Bool := L.all rightC && decide (L.length ≤ 40)
theorem right_c (c : Cp) (h : Raw c) (v : Bool) (hv : rightC c = v) (w : World) : Calls Try.prog 21 #[.agg #[c.tg, c.pe, c.ty, c.mo, c.e, c.b, c.t, c.g, .int .u64 c.a]] w fun e' w' => e' = .returned (.bool v) ∧ Kp w w' := hv ▸ right_w c.tg c.pe c.ty c.mo c.e c.b c.t c.g c.a h.p0 h.p1 h.y0 h.y1 h.o0 h.o1 h.e0 h.e1 h.b0 h.b1 h.t0 h.t1 w
set_option maxHeartbeats 2000000 in
set_option maxRecDepth 100000 in
theorem rightl_w (L : List Cp) (A : Option Addr) (n : Nat) (w : World) (h : Rd w w.heap.size A L) (hl : L.length ≤ 4611686018427387904) (hr : ∀ c ∈ L, Raw c) (v : Bool) (hv : rightL L = v) :
    Calls Try.prog 20 #[.slice A L.length n] w fun e' w' => e' = .returned (.bool v) ∧ Kp w w' := by
  have HR := Lib.hid h
  have HW := Lib.hid hr
  clear h hr
  go_enter Try.func20, Try.ntmps20
  go_wp2
  go_loopw [3] (fun i wr => ∃ k : Nat, k ≤ L.length ∧ i = .int .i64 k ∧ (∀ c ∈ L.take k, rightC c = true) ∧ Kp w wr) (fun i _ => L.length - (intOf i).toNat)
  case atStart => exact ⟨0, Nat.zero_le _, rfl, by simp, Kp.refl w⟩
  case round =>
    obtain ⟨k, hk, rfl, hx, hkp⟩ := hrel
    have HX := Lib.hid hx
    have HKP := Lib.hid hkp
    clear hx hkp
    by_cases hlt : k < L.length
    · obtain ⟨b, o, rfl, hb, c, hc, hr⟩ := (HR.out.kp HKP.out (Nat.le_refl _)).at_ hlt
      obtain ⟨r0, r1, r2, r3, r4, r5, r6, r7, r8⟩ := hr.out
      have HC := Lib.hid hc
      have HCW := Lib.hid (HW.out c (List.mem_of_getElem? hc))
      clear hc hr
      cases ev : rightC c
      all_goals
        have HV := Lib.hid ev
        clear ev
        go_wp2_with (first | (go_at_call 21; (with_reducible refine (right_c c HCW.out _ HV.out _).mono ?_); rintro e' w1 ⟨rfl, qk⟩; have HQ := Lib.hid (HKP.out.trans qk); clear qk))
      · go_ret
        exact ⟨ret_bool (by rw [← hv, eq_comm, rightL, Bool.and_eq_false_iff, List.all_eq_false]; exact .inl ⟨c, List.mem_of_getElem? HC.out, by rw [HV.out]; decide⟩), HQ.out⟩
      · go_roundw
        case rel => exact ⟨k + 1, by omega, by go_num, by
          rw [List.take_add_one, HC.out]; intro d hd; rcases List.mem_append.1 hd with hd | hd
          · exact HX.out d hd
          · have : d = c := by simpa using hd
            subst this; exact HV.out, HQ.out⟩
        case measure => simp [intOf]; omega
    · go_wp2
      go_ret
      exact ⟨ret_bool (by
        have e : L.take k = L := List.take_of_length_le (by omega)
        rw [e] at HX
        rw [← hv, rightL, List.all_eq_true.2 HX.out, Bool.true_and, Bool.eq_iff_iff]
        simp
        omega), HKP.out⟩
end Go.Proofs.Ytkddgjaflcjhiaa
