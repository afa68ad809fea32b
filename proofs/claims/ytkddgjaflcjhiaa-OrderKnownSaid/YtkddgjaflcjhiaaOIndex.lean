/-
  The contracts of slices.Index, slices.Contains, slices.IndexFunc, slices.ContainsFunc over capabilities.
-/
import Derived.Test.YtkddgjaflcjhiaaOThere
namespace Go.Proofs.Ytkddgjaflcjhiaa
open Go.ChangeShapes Go.WideShapes Go.ChangeAt Go.RowKit
set_option linter.unusedVariables false
set_option linter.unusedSimpArgs false

/-- Where the first of a list is of which p is true; -1, if there is none. -/
def fstV (p : Cp → Bool) (L : List Cp) : Int := match L.findIdx? p with
  | some k => k
  | none => -1
theorem fstV_at (p : Cp → Bool) (L : List Cp) (k : Nat) (c : Cp) (h : ∀ x ∈ L.take k, p x = false) (hc : L[k]? = some c) (hp : p c = true) : fstV p L = k := by
  have e : L.findIdx? p = some k := by
    rw [List.findIdx?_eq_some_iff_getElem]
    obtain ⟨hk, he⟩ := List.getElem?_eq_some_iff.1 hc
    refine ⟨hk, by rw [he]; exact hp, fun j hj => ?_⟩
    rw [h]
    · simp
    · rw [List.mem_take_iff_getElem]; exact ⟨j, by omega, rfl⟩
  simp [fstV, e]
theorem fstV_none (p : Cp → Bool) (L : List Cp) (h : ∀ x ∈ L, p x = false) : fstV p L = -1 := by
  have e : L.findIdx? p = none := by rw [List.findIdx?_eq_none_iff]; exact h
  simp [fstV, e]
theorem fstV_any (p : Cp → Bool) (L : List Cp) : (L.any p = true ∧ 0 ≤ fstV p L) ∨ (L.any p = false ∧ fstV p L = -1) := by
  cases h : L.any p
  · exact Or.inr ⟨rfl, fstV_none p L (by simpa using h)⟩
  · refine Or.inl ⟨rfl, ?_⟩
    unfold fstV
    cases e : L.findIdx? p
    · rw [List.findIdx?_eq_none_iff] at e
      rw [List.any_eq_true] at h
      obtain ⟨x, hx, hp⟩ := h
      rw [e x hx] at hp; cases hp
    · simp
theorem fstV_bd (p : Cp → Bool) (L : List Cp) : -1 ≤ fstV p L := by
  rcases fstV_any p L with ⟨_, h⟩ | ⟨_, h⟩ <;> omega
set_option maxHeartbeats 2000000 in
set_option maxRecDepth 100000 in
theorem index_w (L : List Cp) (A : Option Addr) (n : Nat) (x : Cp) (w : World) (h : Rd w w.heap.size A L) (hl : L.length ≤ 1000000) :
    Calls Try.prog 88 #[.slice A L.length n, .agg #[x.tg, x.pe, x.ty, x.mo, x.e, x.b, x.t, x.g, .int .u64 x.a]] w fun e' w' => e' = .returned (.int .i64 (fstV (fun c => x.eqB c) L)) ∧ Kp w w' := by
  have HR := Lib.hid h
  clear h
  go_enter Try.func88, Try.ntmps88
  go_wp2
  go_loopw [8] (fun i wr => ∃ k : Nat, k ≤ L.length ∧ i = .int .i64 k ∧ (∀ c ∈ L.take k, x.eqB c = false) ∧ At w.heap.size x.vs wr ∧ Kp w wr ∧ w.heap.size < wr.heap.size) (fun i _ => L.length - (intOf i).toNat)
  case atStart => exact ⟨0, Nat.zero_le _, rfl, by simp, At.new w x.vs _, (Kp.refl w).allocs _ _, by simp⟩
  case round =>
    obtain ⟨k, hk, rfl, hx, hat, hkp, hs⟩ := hrel
    have HX := Lib.hid hx
    have HAT := Lib.hid hat
    have HKP := Lib.hid hkp
    clear hx hat hkp
    by_cases hlt : k < L.length
    · obtain ⟨b, o, rfl, hb, c, hc, hr⟩ := (HR.out.kp HKP.out (Nat.le_refl _)).at_ hlt
      obtain ⟨r0, r1, r2, r3, r4, r5, r6, r7, r8⟩ := hr.out
      obtain ⟨x0, x1, x2, x3, x4, x5, x6, x7, x8⟩ := HAT.out.out9
      have HC := Lib.hid hc
      clear hc hr
      cases ev : x.eqB c
      · have E := cap_eql_cp x c false ev
        have HV := Lib.hid ev
        clear ev
        go_wp2
        go_quiet (fail)
        go_wp2
        go_roundw
        case rel => exact ⟨k + 1, by omega, by go_num, by
          rw [List.take_add_one, HC.out]; intro d hd; rcases List.mem_append.1 hd with hd | hd
          · exact HX.out d hd
          · have : d = c := by simpa using hd
            subst this; exact HV.out, HAT.out, HKP.out.drewN _, by simpa using hs⟩
        case measure => simp [intOf]; omega
      · have E := cap_eql_cp x c true ev
        have HV := Lib.hid ev
        clear ev
        go_wp2
        go_quiet (fail)
        go_wp2
        go_ret
        exact ⟨ret_int (fstV_at _ L k c HX.out HC.out HV.out).symm, HKP.out.drewN _⟩
    · go_wp2
      go_ret
      exact ⟨ret_int (fstV_none _ L (by have e : L.take k = L := List.take_of_length_le (by omega); rw [e] at HX; exact HX.out)).symm, HKP.out⟩
theorem any_mem (x : Cp) (L : List Cp) : L.any (fun c => x.eqB c) = decide (x ∈ L) := by
  rw [Bool.eq_iff_iff]
  simp only [List.any_eq_true, decide_eq_true_eq, Cp.eqB_iff]
  exact ⟨fun ⟨c, hc, e⟩ => e ▸ hc, fun h => ⟨x, h, rfl⟩⟩
set_option maxHeartbeats 2000000 in
set_option maxRecDepth 100000 in
theorem contains_w (L : List Cp) (A : Option Addr) (n : Nat) (x : Cp) (w : World) (h : Rd w w.heap.size A L) (hl : L.length ≤ 1000000) (v : Bool) (hv : decide (x ∈ L) = v) :
    Calls Try.prog 61 #[.slice A L.length n, .agg #[x.tg, x.pe, x.ty, x.mo, x.e, x.b, x.t, x.g, .int .u64 x.a]] w fun e' w' => e' = .returned (.bool v) ∧ Kp w w' := by
  have HR := Lib.hid (h.alloc (Nat.le_refl _) (.cells #[x.tg, x.pe, x.ty, x.mo, x.e, x.b, x.t, x.g, .int .u64 x.a] 25))
  have H2 := Lib.hid (HR.out.more (B' := (w.alloc (.cells #[x.tg, x.pe, x.ty, x.mo, x.e, x.b, x.t, x.g, .int .u64 x.a] 25)).heap.size) (by simp))
  have HK := Lib.hid ((Kp.refl w).allocs #[x.tg, x.pe, x.ty, x.mo, x.e, x.b, x.t, x.g, .int .u64 x.a] 25)
  rw [← any_mem] at hv
  have B := fstV_bd (fun c => x.eqB c) L
  have T := fstV_any (fun c => x.eqB c) L
  rw [hv] at T
  have HT := Lib.hid T
  clear h T hv
  obtain ⟨r, hr⟩ : ∃ r, fstV (fun c => x.eqB c) L = r := ⟨_, rfl⟩
  have HT2 : Hid ((v = true ∧ 0 ≤ r) ∨ (v = false ∧ r = -1)) := by rw [← hr]; exact HT
  rw [hr] at B
  have C : ∀ w1 : World, Rd w1 w1.heap.size A L → Calls Try.prog 88 #[.slice A L.length n, .agg #[x.tg, x.pe, x.ty, x.mo, x.e, x.b, x.t, x.g, .int .u64 x.a]] w1 fun e' w' => e' = .returned (.int .i64 r) ∧ Kp w1 w' := fun w1 h1 => hr ▸ index_w L A n x w1 h1 hl
  have HC := Lib.hid C
  clear hr C HT
  rcases HT2.out with ⟨e, h0⟩ | ⟨e, h0⟩
  · subst e
    clear HT2
    go_enter Try.func61, Try.ntmps61
    go_wp2_with (first | (go_at_call 88; (with_reducible refine (HC.out _ H2.out).mono ?_); rintro e' w1 ⟨rfl, qk⟩; have HQ := Lib.hid (HK.out.trans qk); clear qk))
    go_ret
    exact ⟨rfl, HQ.out⟩
  · subst e
    clear HT2
    subst h0
    go_enter Try.func61, Try.ntmps61
    go_wp2_with (first | (go_at_call 88; (with_reducible refine (HC.out _ H2.out).mono ?_); rintro e' w1 ⟨rfl, qk⟩; have HQ := Lib.hid (HK.out.trans qk); clear qk))
    go_ret
    exact ⟨rfl, HQ.out⟩
end Go.Proofs.Ytkddgjaflcjhiaa
