/-
  The contracts of slices.IndexFunc, slices.ContainsFunc at the two functions that order.Has hands to them.
-/
import Derived.Test.YtkddgjaflcjhiaaOIndex
namespace Go.Proofs.Ytkddgjaflcjhiaa
open Go.ChangeShapes Go.WideShapes Go.ChangeAt Go.RowKit
set_option linter.unusedVariables false
set_option linter.unusedSimpArgs false
set_option maxHeartbeats 2000000 in
set_option maxRecDepth 100000 in
theorem indexFunc_less (L : List Cp) (A : Option Addr) (n q : Nat) (p : Cp → Bool) (I : World → Prop) (w : World) (h : Rd w w.heap.size A L) (hl : L.length ≤ 1000000)
    (hI : ∀ w1, Kp w w1 → I w1) (HF : ∀ c ∈ L, ∀ w1 : World, I w1 → Calls Try.prog 63 #[.agg #[c.tg, c.pe, c.ty, c.mo, c.e, c.b, c.t, c.g, .int .u64 c.a], .pointer (some ⟨q, 0, none⟩)] w1 fun e' w' => e' = .returned (.bool (p c)) ∧ Kp w1 w') :
    Calls Try.prog 89 #[.slice A L.length n, .func (.func 63) #[] #[.pointer (some ⟨q, 0, none⟩)]] w fun e' w' => e' = .returned (.int .i64 (fstV p L)) ∧ Kp w w' := by
  have HR := Lib.hid h
  have HH := Lib.hid HF
  have HI := Lib.hid hI
  clear h HF hI
  go_enter Try.func89, Try.ntmps89
  go_wp2
  go_loopw [8] (fun i wr => ∃ k : Nat, k ≤ L.length ∧ i = .int .i64 k ∧ (∀ c ∈ L.take k, p c = false) ∧ Kp w wr) (fun i _ => L.length - (intOf i).toNat)
  case atStart => exact ⟨0, Nat.zero_le _, rfl, by simp, Kp.refl w⟩
  case round =>
    obtain ⟨k, hk, rfl, hx, hkp⟩ := hrel
    have HX := Lib.hid hx
    have HKP := Lib.hid hkp
    clear hx hkp
    by_cases hlt : k < L.length
    · obtain ⟨b, o, rfl, hb, c, hc, hr⟩ := (HR.out.kp HKP.out (Nat.le_refl _)).at_ hlt
      obtain ⟨r0, r1, r2, r3, r4, r5, r6, r7, r8⟩ := hr.out
      have HC := Lib.hid hc
      clear hc hr
      obtain ⟨v, ev⟩ : ∃ v, p c = v := ⟨_, rfl⟩
      have C := HH.out c (List.mem_of_getElem? HC.out) wr (HI.out _ HKP.out)
      rw [ev] at C
      have HCC := Lib.hid C
      have HV := Lib.hid ev
      clear C ev
      cases v
      · go_wp2_with (first | (go_at_call 63; (with_reducible refine (HCC.out).mono ?_); rintro e' w1 ⟨rfl, qk⟩; have HQ := Lib.hid (HKP.out.trans qk); clear qk))
        go_roundw
        case rel => exact ⟨k + 1, by omega, by go_num, by
          rw [List.take_add_one, HC.out]; intro d hd; rcases List.mem_append.1 hd with hd | hd
          · exact HX.out d hd
          · have : d = c := by simpa using hd
            subst this; exact HV.out, HQ.out⟩
        case measure => simp [intOf]; omega
      · go_wp2_with (first | (go_at_call 63; (with_reducible refine (HCC.out).mono ?_); rintro e' w1 ⟨rfl, qk⟩; have HQ := Lib.hid (HKP.out.trans qk); clear qk))
        go_ret
        exact ⟨ret_int (fstV_at _ L k c HX.out HC.out HV.out).symm, HQ.out⟩
    · go_wp2
      go_ret
      exact ⟨ret_int (fstV_none _ L (by have e : L.take k = L := List.take_of_length_le (by omega); rw [e] at HX; exact HX.out)).symm, HKP.out⟩
set_option maxHeartbeats 2000000 in
set_option maxRecDepth 100000 in
theorem containsFunc_less (L : List Cp) (A : Option Addr) (n q : Nat) (p : Cp → Bool) (I : World → Prop) (w : World) (h : Rd w w.heap.size A L) (hl : L.length ≤ 1000000)
    (hI : ∀ w1, Kp w w1 → I w1) (HF : ∀ c ∈ L, ∀ w1 : World, I w1 → Calls Try.prog 63 #[.agg #[c.tg, c.pe, c.ty, c.mo, c.e, c.b, c.t, c.g, .int .u64 c.a], .pointer (some ⟨q, 0, none⟩)] w1 fun e' w' => e' = .returned (.bool (p c)) ∧ Kp w1 w') (v : Bool) (hv : L.any p = v) :
    Calls Try.prog 62 #[.slice A L.length n, .func (.func 63) #[] #[.pointer (some ⟨q, 0, none⟩)]] w fun e' w' => e' = .returned (.bool v) ∧ Kp w w' := by
  have B := fstV_bd p L
  have T := fstV_any p L
  rw [hv] at T
  have HT := Lib.hid T
  clear T hv
  obtain ⟨r, hr⟩ : ∃ r, fstV p L = r := ⟨_, rfl⟩
  have HT2 : Hid ((v = true ∧ 0 ≤ r) ∨ (v = false ∧ r = -1)) := by rw [← hr]; exact HT
  rw [hr] at B
  have C := indexFunc_less L A n q p I w h hl hI HF
  rw [hr] at C
  have HC := Lib.hid C
  clear hr C HT h hI HF
  rcases HT2.out with ⟨e, h0⟩ | ⟨e, h0⟩
  all_goals
    subst e
    clear HT2
    try subst h0
    go_enter Try.func62, Try.ntmps62
    go_wp2_with (first | (go_at_call 89; (with_reducible refine (HC.out).mono ?_); rintro e' w1 ⟨rfl, qk⟩; have HQ := Lib.hid qk; clear qk))
    go_ret
    exact ⟨rfl, HQ.out⟩
set_option maxHeartbeats 2000000 in
set_option maxRecDepth 100000 in
theorem indexFunc_seals (L : List Cp) (A : Option Addr) (n q : Nat) (p : Cp → Bool) (I : World → Prop) (w : World) (h : Rd w w.heap.size A L) (hl : L.length ≤ 1000000)
    (hI : ∀ w1, Kp w w1 → I w1) (HF : ∀ c ∈ L, ∀ w1 : World, I w1 → Calls Try.prog 65 #[.agg #[c.tg, c.pe, c.ty, c.mo, c.e, c.b, c.t, c.g, .int .u64 c.a], .pointer (some ⟨q, 0, none⟩)] w1 fun e' w' => e' = .returned (.bool (p c)) ∧ Kp w1 w') :
    Calls Try.prog 89 #[.slice A L.length n, .func (.func 65) #[] #[.pointer (some ⟨q, 0, none⟩)]] w fun e' w' => e' = .returned (.int .i64 (fstV p L)) ∧ Kp w w' := by
  have HR := Lib.hid h
  have HH := Lib.hid HF
  have HI := Lib.hid hI
  clear h HF hI
  go_enter Try.func89, Try.ntmps89
  go_wp2
  go_loopw [8] (fun i wr => ∃ k : Nat, k ≤ L.length ∧ i = .int .i64 k ∧ (∀ c ∈ L.take k, p c = false) ∧ Kp w wr) (fun i _ => L.length - (intOf i).toNat)
  case atStart => exact ⟨0, Nat.zero_le _, rfl, by simp, Kp.refl w⟩
  case round =>
    obtain ⟨k, hk, rfl, hx, hkp⟩ := hrel
    have HX := Lib.hid hx
    have HKP := Lib.hid hkp
    clear hx hkp
    by_cases hlt : k < L.length
    · obtain ⟨b, o, rfl, hb, c, hc, hr⟩ := (HR.out.kp HKP.out (Nat.le_refl _)).at_ hlt
      obtain ⟨r0, r1, r2, r3, r4, r5, r6, r7, r8⟩ := hr.out
      have HC := Lib.hid hc
      clear hc hr
      obtain ⟨v, ev⟩ : ∃ v, p c = v := ⟨_, rfl⟩
      have C := HH.out c (List.mem_of_getElem? HC.out) wr (HI.out _ HKP.out)
      rw [ev] at C
      have HCC := Lib.hid C
      have HV := Lib.hid ev
      clear C ev
      cases v
      · go_wp2_with (first | (go_at_call 65; (with_reducible refine (HCC.out).mono ?_); rintro e' w1 ⟨rfl, qk⟩; have HQ := Lib.hid (HKP.out.trans qk); clear qk))
        go_roundw
        case rel => exact ⟨k + 1, by omega, by go_num, by
          rw [List.take_add_one, HC.out]; intro d hd; rcases List.mem_append.1 hd with hd | hd
          · exact HX.out d hd
          · have : d = c := by simpa using hd
            subst this; exact HV.out, HQ.out⟩
        case measure => simp [intOf]; omega
      · go_wp2_with (first | (go_at_call 65; (with_reducible refine (HCC.out).mono ?_); rintro e' w1 ⟨rfl, qk⟩; have HQ := Lib.hid (HKP.out.trans qk); clear qk))
        go_ret
        exact ⟨ret_int (fstV_at _ L k c HX.out HC.out HV.out).symm, HQ.out⟩
    · go_wp2
      go_ret
      exact ⟨ret_int (fstV_none _ L (by have e : L.take k = L := List.take_of_length_le (by omega); rw [e] at HX; exact HX.out)).symm, HKP.out⟩
set_option maxHeartbeats 2000000 in
set_option maxRecDepth 100000 in
theorem containsFunc_seals (L : List Cp) (A : Option Addr) (n q : Nat) (p : Cp → Bool) (I : World → Prop) (w : World) (h : Rd w w.heap.size A L) (hl : L.length ≤ 1000000)
    (hI : ∀ w1, Kp w w1 → I w1) (HF : ∀ c ∈ L, ∀ w1 : World, I w1 → Calls Try.prog 65 #[.agg #[c.tg, c.pe, c.ty, c.mo, c.e, c.b, c.t, c.g, .int .u64 c.a], .pointer (some ⟨q, 0, none⟩)] w1 fun e' w' => e' = .returned (.bool (p c)) ∧ Kp w1 w') (v : Bool) (hv : L.any p = v) :
    Calls Try.prog 62 #[.slice A L.length n, .func (.func 65) #[] #[.pointer (some ⟨q, 0, none⟩)]] w fun e' w' => e' = .returned (.bool v) ∧ Kp w w' := by
  have B := fstV_bd p L
  have T := fstV_any p L
  rw [hv] at T
  have HT := Lib.hid T
  clear T hv
  obtain ⟨r, hr⟩ : ∃ r, fstV p L = r := ⟨_, rfl⟩
  have HT2 : Hid ((v = true ∧ 0 ≤ r) ∨ (v = false ∧ r = -1)) := by rw [← hr]; exact HT
  rw [hr] at B
  have C := indexFunc_seals L A n q p I w h hl hI HF
  rw [hr] at C
  have HC := Lib.hid C
  clear hr C HT h hI HF
  rcases HT2.out with ⟨e, h0⟩ | ⟨e, h0⟩
  all_goals
    subst e
    clear HT2
    try subst h0
    go_enter Try.func62, Try.ntmps62
    go_wp2_with (first | (go_at_call 89; (with_reducible refine (HC.out).mono ?_); rintro e' w1 ⟨rfl, qk⟩; have HQ := Lib.hid qk; clear qk))
    go_ret
    exact ⟨rfl, HQ.out⟩
end Go.Proofs.Ytkddgjaflcjhiaa
