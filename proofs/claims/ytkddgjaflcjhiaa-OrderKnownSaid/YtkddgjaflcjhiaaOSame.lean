/-
  The contracts of what laws share: are two lists of capabilities the same? Are all of some right, and at most 40? Lists of a right length.
-/
import Derived.Test.YtkddgjaflcjhiaaOThere
namespace Go.Proofs.Ytkddgjaflcjhiaa
open Go.ChangeShapes Go.WideShapes Go.ChangeAt Go.RowKit
set_option linter.unusedVariables false
set_option linter.unusedSimpArgs false

set_option maxHeartbeats 4000000 in
theorem cap_neq (ctg : Bool) (cpe cty cmo ce cb ct : Int) (cg : Bool) (ca : Int) (dtg : Bool) (dpe dty dmo de db dt : Int) (dg : Bool) (da : Int) (w : World) :
    (binOp .neq 25 (.agg #[ctg, cpe, cty, cmo, ce, cb, ct, cg, .int .u64 ca]) (.agg #[dtg, dpe, dty, dmo, de, db, dt, dg, .int .u64 da])).run Try.prog w = .ok (.bool (!capB ctg cpe cty cmo ce cb ct cg ca dtg dpe dty dmo de db dt dg da)) w := by
  by_cases htg : ctg = dtg
  rotate_left
  · simp [go_sem, capB, htg]
  subst htg
  by_cases hpe : cpe = dpe
  rotate_left
  · simp [go_sem, capB, hpe]
  subst hpe
  by_cases hty : cty = dty
  rotate_left
  · simp [go_sem, capB, hty]
  subst hty
  by_cases hmo : cmo = dmo
  rotate_left
  · simp [go_sem, capB, hmo]
  subst hmo
  by_cases he : ce = de
  rotate_left
  · simp [go_sem, capB, he]
  subst he
  by_cases hb : cb = db
  rotate_left
  · simp [go_sem, capB, hb]
  subst hb
  by_cases ht : ct = dt
  rotate_left
  · simp [go_sem, capB, ht]
  subst ht
  by_cases hg : cg = dg
  rotate_left
  · simp [go_sem, capB, hg]
  subst hg
  by_cases ha : ca = da
  rotate_left
  · simp [go_sem, capB, ha]
  subst ha
  simp [go_sem, capB]
theorem cap_neq_cp (x y : Cp) (v : Bool) (hv : x.eqB y = v) (w : World) : (binOp .neq 25 (.agg #[x.tg, x.pe, x.ty, x.mo, x.e, x.b, x.t, x.g, .int .u64 x.a]) (.agg #[y.tg, y.pe, y.ty, y.mo, y.e, y.b, y.t, y.g, .int .u64 y.a])).run Try.prog w = .ok (.bool (!v)) w := by
  subst hv
  exact cap_neq _ _ _ _ _ _ _ _ _ _ _ _ _ _ _ _ _ _ w
set_option maxHeartbeats 2000000 in
set_option maxRecDepth 100000 in
theorem same_w (L M : List Cp) (A A' : Option Addr) (n n' : Nat) (w : World) (h : Rd w w.heap.size A L) (h' : Rd w w.heap.size A' M) (hl : L.length ≤ 1000000) (hm : M.length ≤ 1000000) (v : Bool) (hv : decide (L = M) = v) :
    Calls Try.prog 24 #[.slice A L.length n, .slice A' M.length n'] w fun e' w' => e' = .returned (.bool v) ∧ Kp w w' := by
  have HR := Lib.hid h
  have HR' := Lib.hid h'
  clear h h'
  by_cases hlen : L.length = M.length
  · have e1 : ((L.length : Int) == (M.length : Int)) = true := by rw [hlen]; simp
    have e2 : ((L.length : Int) != (M.length : Int)) = false := by rw [hlen]; simp
    go_enter Try.func24, Try.ntmps24
    go_wp2
    clear e1 e2
    go_loopw [5] (fun i wr => ∃ k : Nat, k ≤ L.length ∧ i = .int .i64 k ∧ L.take k = M.take k ∧ Kp w wr) (fun i _ => L.length - (intOf i).toNat)
    case atStart => exact ⟨0, Nat.zero_le _, rfl, by simp, Kp.refl w⟩
    case round =>
      obtain ⟨k, hk, rfl, hx, hkp⟩ := hrel
      have HX := Lib.hid hx
      have HKP := Lib.hid hkp
      clear hx hkp
      by_cases hlt : k < L.length
      · obtain ⟨b, o, rfl, hb, c, hc, hr⟩ := (HR.out.kp HKP.out (Nat.le_refl _)).at_ hlt
        obtain ⟨b', o', rfl, hb', d, hd, hr'⟩ := (HR'.out.kp HKP.out (Nat.le_refl _)).at_ (k := k) (by omega)
        obtain ⟨r0, r1, r2, r3, r4, r5, r6, r7, r8⟩ := hr.out
        obtain ⟨t0, t1, t2, t3, t4, t5, t6, t7, t8⟩ := hr'.out
        have hlt' : k < M.length := by omega
        have HC := Lib.hid hc
        have HD := Lib.hid hd
        clear hc hr hd hr'
        cases ev : c.eqB d
        · have E := cap_neq_cp c d false ev
          have HV := Lib.hid ev
          clear ev
          go_wp2
          go_quiet (fail)
          go_wp2
          go_ret
          exact ⟨ret_bool (by
            rw [← hv, eq_comm, decide_eq_false_iff_not]
            rintro rfl
            have e := HC.out.symm.trans HD.out
            have : c = d := Option.some.inj e
            subst this
            have := HV.out
            rw [Cp.eqB_self] at this; cases this), HKP.out.drewN _⟩
        · have E := cap_neq_cp c d true ev
          have HV := Lib.hid ev
          clear ev
          go_wp2
          go_quiet (fail)
          go_wp2
          go_roundw
          case rel => exact ⟨k + 1, by omega, by go_num, by rw [List.take_add_one, List.take_add_one, HC.out, HD.out, HX.out, (Cp.eqB_iff _ _).1 HV.out], HKP.out.drewN _⟩
          case measure => simp [intOf]; omega
      · go_wp2
        go_ret
        exact ⟨ret_bool (by
          rw [← hv, eq_comm, decide_eq_true_eq]
          have e := HX.out
          rwa [List.take_of_length_le (by omega), List.take_of_length_le (by omega)] at e), HKP.out⟩
  · have e1 : ((L.length : Int) == (M.length : Int)) = false := by simp; omega
    have e2 : ((L.length : Int) != (M.length : Int)) = true := by simp; omega
    go_enter Try.func24, Try.ntmps24
    go_wp2
    go_ret
    exact ⟨ret_bool (by rw [← hv, eq_comm, decide_eq_false_iff_not]; rintro rfl; exact hlen rfl), Kp.refl w⟩
end Go.Proofs.Ytkddgjaflcjhiaa
