/-
  The contract of the document's 'there': is a capability one of a list? And of slices.Index, slices.Contains. Lists of a right length.
-/
import Derived.Test.YtkddgjaflcjhiaaOCap
namespace Go.Proofs.Ytkddgjaflcjhiaa
open Go.ChangeShapes Go.WideShapes Go.ChangeAt Go.RowKit
set_option linter.unusedVariables false
set_option linter.unusedSimpArgs false

theorem cap_eql_cp (x y : Cp) (v : Bool) (hv : x.eqB y = v) (w : World) : (binOp .eql 25 (.agg #[x.tg, x.pe, x.ty, x.mo, x.e, x.b, x.t, x.g, .int .u64 x.a]) (.agg #[y.tg, y.pe, y.ty, y.mo, y.e, y.b, y.t, y.g, .int .u64 y.a])).run Try.prog w = .ok (.bool v) w := by
  subst hv; exact cap_eql _ _ _ _ _ _ _ _ _ _ _ _ _ _ _ _ _ _ w
set_option maxHeartbeats 2000000 in
set_option maxRecDepth 100000 in
theorem there_w (L : List Cp) (A : Option Addr) (n : Nat) (x : Cp) (w : World) (h : Rd w w.heap.size A L) (hl : L.length ≤ 1000000) :
    Calls Try.prog 55 #[.slice A L.length n, .agg #[x.tg, x.pe, x.ty, x.mo, x.e, x.b, x.t, x.g, .int .u64 x.a]] w fun e' w' => e' = .returned (.bool (decide (x ∈ L))) ∧ Kp w w' := by
  have HR := Lib.hid h
  clear h
  go_enter Try.func55, Try.ntmps55
  go_wp2
  go_loopw [5] (fun i wr => ∃ k : Nat, k ≤ L.length ∧ i = .int .i64 k ∧ x ∉ L.take k ∧ At w.heap.size x.vs wr ∧ Kp w wr ∧ w.heap.size < wr.heap.size) (fun i _ => L.length - (intOf i).toNat)
  case atStart => exact ⟨0, Nat.zero_le _, rfl, by simp, At.new w x.vs _, (Kp.refl w).allocs _ _, by simp⟩
  case round =>
    obtain ⟨k, hk, rfl, hx, hat, hkp, hs⟩ := hrel
    have HX := Lib.hid hx
    have HAT := Lib.hid hat
    have HKP := Lib.hid hkp
    clear hx hat hkp
    by_cases hlt : k < L.length
    · obtain ⟨b, o, rfl, hb, c, hc, hr⟩ := (HR.out.kp HKP.out (Nat.le_refl _)).at_ hlt
      obtain ⟨r0, r1, r2, r3, r4, r5, r6, r7, r8⟩ := hr.out
      obtain ⟨x0, x1, x2, x3, x4, x5, x6, x7, x8⟩ := HAT.out.out9
      have HC := Lib.hid hc
      clear hc hr
      cases ev : c.eqB x
      · have E := cap_eql_cp c x false ev
        have hne : c ≠ x := fun e => by rw [(Cp.eqB_iff _ _).2 e] at ev; cases ev
        have HN := Lib.hid hne
        clear ev hne
        go_wp2
        go_quiet (fail)
        go_wp2
        go_roundw
        case rel => exact ⟨k + 1, by omega, by go_num, by
          rw [List.take_add_one, HC.out]; simp only [List.mem_append, not_or]; exact ⟨HX.out, by simpa using fun e => HN.out e.symm⟩, HAT.out, HKP.out.drewN _, by simpa using hs⟩
        case measure => simp [intOf]; omega
      · have E := cap_eql_cp c x true ev
        have HV := Lib.hid ((Cp.eqB_iff _ _).1 ev)
        clear ev
        go_wp2
        go_quiet (fail)
        go_wp2
        go_ret
        exact ⟨ret_bool (by rw [eq_comm, decide_eq_true_eq, ← HV.out]; exact List.mem_of_getElem? HC.out), HKP.out.drewN _⟩
    · go_wp2
      go_ret
      exact ⟨ret_bool (by rw [eq_comm, decide_eq_false_iff_not]; have e : L.take k = L := List.take_of_length_le (by omega); rw [e] at HX; exact HX.out), HKP.out⟩
end Go.Proofs.Ytkddgjaflcjhiaa
