/-
  The closure as a function of the list; the contract of order's Has. Capabilities' numbers are in their places, at most a thousand of them.
-/
import Derived.Test.YtkddgjaflcjhiaaMG
import Derived.Test.YtkddgjaflcjhiaaOFunc
namespace Go.Proofs.Ytkddgjaflcjhiaa
open Go.ChangeShapes Go.WideShapes Go.ChangeAt Go.RowKit Go.Maps
set_option linter.unusedVariables false
set_option linter.unusedSimpArgs false

def clo (l : List Cp) : List Cp := rounds (baseL l) (baseL l).length
theorem round_or (bs : List Cp) (n : Nat) : roundC bs (rounds bs n) = rounds bs n ∨ cntU bs (rounds bs n) + n ≤ bs.length := by
  induction n with
  | zero => right; have := cnt_le bs bs; simpa [rounds] using this
  | succ n ih =>
    rcases ih with e | e
    · left
      show roundC bs (roundC bs (rounds bs n)) = roundC bs (rounds bs n)
      rw [e, e]
    · rcases round_cnt bs bs (rounds bs n) (fun _ h => h) with e2 | ⟨_, _, h⟩
      · left
        show roundC bs (roundC bs (rounds bs n)) = roundC bs (rounds bs n)
        rw [e2, e2]
      · right
        have : cntU bs (rounds bs (n + 1)) < cntU bs (rounds bs n) := h
        omega
theorem isClo_clo (l : List Cp) : IsClo l (clo l) := by
  refine ⟨⟨_, rfl⟩, ?_⟩
  rcases round_or (baseL l) (baseL l).length with e | e
  · exact e
  · rcases round_cnt (baseL l) (baseL l) (rounds (baseL l) (baseL l).length) (fun _ h => h) with e2 | ⟨_, _, h⟩
    · exact e2
    · omega
theorem IsClo.eq {l out : List Cp} (h : IsClo l out) : out = clo l := h.one (isClo_clo l)
theorem clo_grown (l : List Cp) : Grown6 (baseL l) (clo l) := Grown6.rounds _ _
theorem clo_len (l : List Cp) : (clo l).length ≤ 2 * l.length := by
  have := (clo_grown l).len; have := base_len l; omega
theorem clo_all (l : List Cp) (h : ∀ c ∈ l, RC c) : AllT (clo l) := (clo_grown l).all_ (base_all l h)
/-- Whether a capability can come of some. -/
def hasB (l : List Cp) (c : Cp) : Bool := !c.tg || decide (c ∈ l) || ((clo l).any (fun b => lessB (uns c) b) && (!c.sealed || (if c.ty = 262142 then hasP c.pe 2 else (clo l).any (fun b => canD b 128 c.ty))))
theorem clo_w (l : List Cp) (A : Option Addr) (n : Nat) (hL : ∀ c ∈ l, RC c) (hl : l.length ≤ 1000) (w : World) (h : Rd w w.heap.size A l) :
    Calls Try.prog 12 #[.slice A l.length n] w (fun e w' => ∃ A' cap, e = .returned (.slice A' (clo l).length cap) ∧ OwnC w' w.heap.size (.slice A' (clo l).length cap) (clo l) ∧ Rd w' w'.heap.size A' (clo l) ∧ Below w.heap.size w w') :=
  (close_w l A n hL hl w h).mono (by
    rintro e w' ⟨v, out, rfl, hc, ho, hb⟩
    obtain rfl := hc.eq
    obtain ⟨A', cap, rfl, _, hr, _⟩ := ho.rd
    exact ⟨A', cap, rfl, ho, hr, hb⟩)
set_option maxHeartbeats 2000000 in
set_option maxRecDepth 100000 in
theorem has_w (l : List Cp) (A : Option Addr) (n : Nat) (c : Cp) (hL : ∀ c ∈ l, RC c) (hl : l.length ≤ 1000) (hc : RC c) (v : Bool) (hv : hasB l c = v) (w : World) (h : Rd w w.heap.size A l) :
    Calls Try.prog 27 #[.slice A l.length n, .agg #[c.tg, c.pe, c.ty, c.mo, c.e, c.b, c.t, c.g, .int .u64 c.a]] w (fun e w' => e = .returned (.bool v) ∧ Below w.heap.size w w') := by
  obtain ⟨mm, hmm⟩ : ∃ mm, decide (c ∈ l) = mm := ⟨_, rfl⟩
  obtain ⟨al, hal⟩ : ∃ al, (clo l).any (fun b => lessB (uns c) b) = al := ⟨_, rfl⟩
  obtain ⟨sl, hsl⟩ : ∃ sl, c.sealed = sl := ⟨_, rfl⟩
  obtain ⟨px, hpx⟩ : ∃ px, hasP c.pe 2 = px := ⟨_, rfl⟩
  obtain ⟨an, han⟩ : ∃ an, (clo l).any (fun b => canD b 128 c.ty) = an := ⟨_, rfl⟩
  have hv' := hv
  rw [hasB, hmm, hal, hsl, hpx, han] at hv'
  have hcl : (clo l).length ≤ 1000000 := by have := clo_len l; omega
  have hca := clo_all l hL
  have HCON : Hid (∀ w1 : World, Rd w1 w1.heap.size A l → Calls Try.prog 61 #[.slice A l.length n, .agg #[c.tg, c.pe, c.ty, c.mo, c.e, c.b, c.t, c.g, .int .u64 c.a]] w1 fun e' w' => e' = .returned (.bool mm) ∧ Kp w1 w') := Lib.hid (fun w1 h1 => contains_w l A n c w1 h1 (by omega) mm hmm)
  have HSE : Hid (∀ w1 : World, Calls Try.prog 34 #[.agg #[c.tg, c.pe, c.ty, c.mo, c.e, c.b, c.t, c.g, .int .u64 c.a]] w1 fun e' w' => e' = .returned (.bool sl) ∧ Kp w1 w') := Lib.hid (fun w1 => sealed_w c.tg c.pe c.ty c.mo c.e c.b c.t c.g c.a sl hsl w1)
  have HPE : Hid (∀ w1 : World, Calls Try.prog 64 #[.agg #[c.tg, c.pe, c.ty, c.mo, c.e, c.b, c.t, c.g, .int .u64 c.a], .int .i64 2] w1 fun e' w' => e' = .returned (.bool px) ∧ Kp w1 w') := Lib.hid (fun w1 => permits_o c 2 px hpx w1)
  have HCLO : Hid (∀ w1 : World, Rd w1 w1.heap.size A l → Calls Try.prog 12 #[.slice A l.length n] w1 (fun e w' => ∃ A' cap, e = .returned (.slice A' (clo l).length cap) ∧ OwnC w' w1.heap.size (.slice A' (clo l).length cap) (clo l) ∧ Rd w' w'.heap.size A' (clo l) ∧ Below w1.heap.size w1 w')) := Lib.hid (fun w1 h1 => clo_w l A n hL hl w1 h1)
  have HF1 : Hid (∀ (Q : Nat) (A' : Option Addr) (cap : Nat) (w1 : World), Rd w1 w1.heap.size A' (clo l) → Q < w1.heap.size → At Q c.vs w1 → Calls Try.prog 62 #[.slice A' (clo l).length cap, .func (.func 63) #[] #[.pointer (some ⟨Q, 0, none⟩)]] w1 fun e' w' => e' = .returned (.bool al) ∧ Kp w1 w') := Lib.hid (fun Q A' cap w1 h1 hq ha => containsFunc_less (clo l) A' cap Q (fun b => lessB (uns c) b) (fun wx => Q < wx.heap.size ∧ At Q c.vs wx) w1 h1 hcl (fun wx k => ⟨Nat.lt_of_lt_of_le hq k.size, ha.kp k hq⟩) (fun d hd wx hi => has1_w d c Q hc (hca d hd).1 _ rfl wx hi.1 hi.2) al hal)
  have HF2 : Hid (∀ (Q : Nat) (A' : Option Addr) (cap : Nat) (w1 : World), Rd w1 w1.heap.size A' (clo l) → Q < w1.heap.size → At Q c.vs w1 → Calls Try.prog 62 #[.slice A' (clo l).length cap, .func (.func 65) #[] #[.pointer (some ⟨Q, 0, none⟩)]] w1 fun e' w' => e' = .returned (.bool an) ∧ Kp w1 w') := Lib.hid (fun Q A' cap w1 h1 hq ha => containsFunc_seals (clo l) A' cap Q (fun b => canD b 128 c.ty) (fun wx => Q < wx.heap.size ∧ At Q c.vs wx) w1 h1 hcl (fun wx k => ⟨Nat.lt_of_lt_of_le hq k.size, ha.kp k hq⟩) (fun d hd wx hi => has2_w d c Q hc (hca d hd).1 _ rfl wx hi.1 hi.2) an han)
  have HAT : Hid (At w.heap.size c.vs (w.alloc (.cells #[c.tg, c.pe, c.ty, c.mo, c.e, c.b, c.t, c.g, .int .u64 c.a] 25))) := Lib.hid (At.new w c.vs _)
  have HRD : Hid (Rd (w.alloc (.cells #[c.tg, c.pe, c.ty, c.mo, c.e, c.b, c.t, c.g, .int .u64 c.a] 25)) (w.alloc (.cells #[c.tg, c.pe, c.ty, c.mo, c.e, c.b, c.t, c.g, .int .u64 c.a] 25)).heap.size A l) := Lib.hid ((h.alloc (Nat.le_refl _) _).more (by simp))
  have HB0 : Hid (Below w.heap.size w (w.alloc (.cells #[c.tg, c.pe, c.ty, c.mo, c.e, c.b, c.t, c.g, .int .u64 c.a] 25))) := Lib.hid ((Below.refl _ _).alloc (Nat.le_refl _) _)
  clear h hL hmm hal hsl hpx han hv hca
  generalize hco : (Obj.cells #[c.tg, c.pe, c.ty, c.mo, c.e, c.b, c.t, c.g, .int .u64 c.a] 25) = co at HAT HRD HB0
  obtain ⟨c0, c1, c2, c3, c4, c5, c6, c7, c8⟩ := HAT.out.out9
  subst hco
  obtain ⟨ctg, hctg⟩ : ∃ ctg, c.tg = ctg := ⟨_, rfl⟩
  rw [hctg] at hv' c0 HCON HSE HPE HAT HRD HB0
  cases ctg
  · obtain rfl : v = true := by simpa using hv'.symm
    clear HCON HSE HPE HF1 HF2 hv'
    go_enter Try.func27, Try.ntmps27
    go_wp2
    go_ret
    exact ⟨rfl, HB0.out⟩
  · have HV : Hid (c.vs = [.bool true, .int .i64 c.pe, .int .i64 c.ty, .int .i64 c.mo, .int .i64 c.e, .int .i64 c.b, .int .i64 c.t, .bool c.g, .int .u64 c.a]) := Lib.hid (by simp [Cp.vs, hctg])
    cases mm
    · cases al
      · obtain rfl : v = false := by simpa using hv'.symm
        clear hv'
        go_enter Try.func27, Try.ntmps27
        go_wp2_with (first
        | (go_at_call 61; (with_reducible refine (HCON.out _ HRD.out).mono ?_); rintro e' w1 ⟨rfl, qk⟩; have hs1 : w.heap.size < w1.heap.size := (by have := qk.size; (try simp at this); omega); have AT1 := Lib.hid (HAT.out.kp qk (by simp)); have RD1 := Lib.hid ((HRD.out.kp qk (Nat.le_refl _)).more qk.size); have BL1 := Lib.hid (HB0.out.trans (qk.1.mono (by simp))); clear qk)
        | (go_at_call 12; (with_reducible refine (HCLO.out _ RD1.out).mono ?_); rintro e' w2 ⟨A', cap, rfl, _, hr2, hb2⟩; have hs2 : w.heap.size < w2.heap.size := Nat.lt_of_lt_of_le hs1 hb2.size; have AT2 : Hid (At w.heap.size c.vs w2) := Lib.hid (fun i v hi => (hb2.cell (p := ⟨w.heap.size, i, none⟩) hs1).trans (AT1.out i v hi)); have RD2 := Lib.hid hr2; have BL2 := Lib.hid (BL1.out.trans (hb2.mono (Nat.le_of_lt hs1))); clear hr2 hb2)
        | (go_at_call 62; (with_reducible refine (HF1.out w.heap.size A' cap _ RD2.out hs2 AT2.out).mono ?_); rintro e' w3 ⟨rfl, qk⟩; have hs3 : w.heap.size < w3.heap.size := Nat.lt_of_lt_of_le hs2 qk.size; have AT3 := Lib.hid (AT2.out.kp qk hs2); have RD3 := Lib.hid ((RD2.out.kp qk (Nat.le_refl _)).more qk.size); have BL3 := Lib.hid (BL2.out.trans (qk.1.mono (Nat.le_of_lt hs2))); have AX3 : At w.heap.size [true, c.pe, c.ty, c.mo, c.e, c.b, c.t, c.g, .int .u64 c.a] w3 := HV.out ▸ AT3.out; obtain ⟨_, _, _, _, _, _, _, _, _⟩ := AX3.out9; clear qk)
        | (go_at_call 34; (with_reducible refine (HSE.out _).mono ?_); rintro e' w4 ⟨rfl, qk⟩; have hs4 : w.heap.size < w4.heap.size := Nat.lt_of_lt_of_le hs3 qk.size; have AT4 := Lib.hid (AT3.out.kp qk hs3); have RD4 := Lib.hid ((RD3.out.kp qk (Nat.le_refl _)).more qk.size); have BL4 := Lib.hid (BL3.out.trans (qk.1.mono (Nat.le_of_lt hs3))); have AX4 : At w.heap.size [true, c.pe, c.ty, c.mo, c.e, c.b, c.t, c.g, .int .u64 c.a] w4 := HV.out ▸ AT4.out; obtain ⟨_, _, _, _, _, _, _, _, _⟩ := AX4.out9; clear qk)
        | (go_at_call 64; (with_reducible refine (HPE.out _).mono ?_); rintro e' w5 ⟨rfl, qk⟩; have BL5 := Lib.hid (BL4.out.trans (qk.1.mono (Nat.le_of_lt hs4))); clear qk)
        | (go_at_call 62; (with_reducible refine (HF2.out w.heap.size A' cap _ RD4.out hs4 AT4.out).mono ?_); rintro e' w5 ⟨rfl, qk⟩; have BL5 := Lib.hid (BL4.out.trans (qk.1.mono (Nat.le_of_lt hs4))); clear qk))
        go_ret
        exact ⟨rfl, BL3.out⟩
      · cases sl
        · obtain rfl : v = true := by simpa using hv'.symm
          clear hv'
          go_enter Try.func27, Try.ntmps27
          go_wp2_with (first
        | (go_at_call 61; (with_reducible refine (HCON.out _ HRD.out).mono ?_); rintro e' w1 ⟨rfl, qk⟩; have hs1 : w.heap.size < w1.heap.size := (by have := qk.size; (try simp at this); omega); have AT1 := Lib.hid (HAT.out.kp qk (by simp)); have RD1 := Lib.hid ((HRD.out.kp qk (Nat.le_refl _)).more qk.size); have BL1 := Lib.hid (HB0.out.trans (qk.1.mono (by simp))); clear qk)
        | (go_at_call 12; (with_reducible refine (HCLO.out _ RD1.out).mono ?_); rintro e' w2 ⟨A', cap, rfl, _, hr2, hb2⟩; have hs2 : w.heap.size < w2.heap.size := Nat.lt_of_lt_of_le hs1 hb2.size; have AT2 : Hid (At w.heap.size c.vs w2) := Lib.hid (fun i v hi => (hb2.cell (p := ⟨w.heap.size, i, none⟩) hs1).trans (AT1.out i v hi)); have RD2 := Lib.hid hr2; have BL2 := Lib.hid (BL1.out.trans (hb2.mono (Nat.le_of_lt hs1))); clear hr2 hb2)
        | (go_at_call 62; (with_reducible refine (HF1.out w.heap.size A' cap _ RD2.out hs2 AT2.out).mono ?_); rintro e' w3 ⟨rfl, qk⟩; have hs3 : w.heap.size < w3.heap.size := Nat.lt_of_lt_of_le hs2 qk.size; have AT3 := Lib.hid (AT2.out.kp qk hs2); have RD3 := Lib.hid ((RD2.out.kp qk (Nat.le_refl _)).more qk.size); have BL3 := Lib.hid (BL2.out.trans (qk.1.mono (Nat.le_of_lt hs2))); have AX3 : At w.heap.size [true, c.pe, c.ty, c.mo, c.e, c.b, c.t, c.g, .int .u64 c.a] w3 := HV.out ▸ AT3.out; obtain ⟨_, _, _, _, _, _, _, _, _⟩ := AX3.out9; clear qk)
        | (go_at_call 34; (with_reducible refine (HSE.out _).mono ?_); rintro e' w4 ⟨rfl, qk⟩; have hs4 : w.heap.size < w4.heap.size := Nat.lt_of_lt_of_le hs3 qk.size; have AT4 := Lib.hid (AT3.out.kp qk hs3); have RD4 := Lib.hid ((RD3.out.kp qk (Nat.le_refl _)).more qk.size); have BL4 := Lib.hid (BL3.out.trans (qk.1.mono (Nat.le_of_lt hs3))); have AX4 : At w.heap.size [true, c.pe, c.ty, c.mo, c.e, c.b, c.t, c.g, .int .u64 c.a] w4 := HV.out ▸ AT4.out; obtain ⟨_, _, _, _, _, _, _, _, _⟩ := AX4.out9; clear qk)
        | (go_at_call 64; (with_reducible refine (HPE.out _).mono ?_); rintro e' w5 ⟨rfl, qk⟩; have BL5 := Lib.hid (BL4.out.trans (qk.1.mono (Nat.le_of_lt hs4))); clear qk)
        | (go_at_call 62; (with_reducible refine (HF2.out w.heap.size A' cap _ RD4.out hs4 AT4.out).mono ?_); rintro e' w5 ⟨rfl, qk⟩; have BL5 := Lib.hid (BL4.out.trans (qk.1.mono (Nat.le_of_lt hs4))); clear qk))
          go_ret
          exact ⟨rfl, BL4.out⟩
        · by_cases hse : c.ty = 262142
          · obtain rfl : v = px := by simpa [hse] using hv'.symm
            have hse2 : (c.ty == 262142) = true := by simpa using hse
            clear hv' hse
            go_enter Try.func27, Try.ntmps27
            go_wp2_with (first
        | (go_at_call 61; (with_reducible refine (HCON.out _ HRD.out).mono ?_); rintro e' w1 ⟨rfl, qk⟩; have hs1 : w.heap.size < w1.heap.size := (by have := qk.size; (try simp at this); omega); have AT1 := Lib.hid (HAT.out.kp qk (by simp)); have RD1 := Lib.hid ((HRD.out.kp qk (Nat.le_refl _)).more qk.size); have BL1 := Lib.hid (HB0.out.trans (qk.1.mono (by simp))); clear qk)
        | (go_at_call 12; (with_reducible refine (HCLO.out _ RD1.out).mono ?_); rintro e' w2 ⟨A', cap, rfl, _, hr2, hb2⟩; have hs2 : w.heap.size < w2.heap.size := Nat.lt_of_lt_of_le hs1 hb2.size; have AT2 : Hid (At w.heap.size c.vs w2) := Lib.hid (fun i v hi => (hb2.cell (p := ⟨w.heap.size, i, none⟩) hs1).trans (AT1.out i v hi)); have RD2 := Lib.hid hr2; have BL2 := Lib.hid (BL1.out.trans (hb2.mono (Nat.le_of_lt hs1))); clear hr2 hb2)
        | (go_at_call 62; (with_reducible refine (HF1.out w.heap.size A' cap _ RD2.out hs2 AT2.out).mono ?_); rintro e' w3 ⟨rfl, qk⟩; have hs3 : w.heap.size < w3.heap.size := Nat.lt_of_lt_of_le hs2 qk.size; have AT3 := Lib.hid (AT2.out.kp qk hs2); have RD3 := Lib.hid ((RD2.out.kp qk (Nat.le_refl _)).more qk.size); have BL3 := Lib.hid (BL2.out.trans (qk.1.mono (Nat.le_of_lt hs2))); have AX3 : At w.heap.size [true, c.pe, c.ty, c.mo, c.e, c.b, c.t, c.g, .int .u64 c.a] w3 := HV.out ▸ AT3.out; obtain ⟨_, _, _, _, _, _, _, _, _⟩ := AX3.out9; clear qk)
        | (go_at_call 34; (with_reducible refine (HSE.out _).mono ?_); rintro e' w4 ⟨rfl, qk⟩; have hs4 : w.heap.size < w4.heap.size := Nat.lt_of_lt_of_le hs3 qk.size; have AT4 := Lib.hid (AT3.out.kp qk hs3); have RD4 := Lib.hid ((RD3.out.kp qk (Nat.le_refl _)).more qk.size); have BL4 := Lib.hid (BL3.out.trans (qk.1.mono (Nat.le_of_lt hs3))); have AX4 : At w.heap.size [true, c.pe, c.ty, c.mo, c.e, c.b, c.t, c.g, .int .u64 c.a] w4 := HV.out ▸ AT4.out; obtain ⟨_, _, _, _, _, _, _, _, _⟩ := AX4.out9; clear qk)
        | (go_at_call 64; (with_reducible refine (HPE.out _).mono ?_); rintro e' w5 ⟨rfl, qk⟩; have BL5 := Lib.hid (BL4.out.trans (qk.1.mono (Nat.le_of_lt hs4))); clear qk)
        | (go_at_call 62; (with_reducible refine (HF2.out w.heap.size A' cap _ RD4.out hs4 AT4.out).mono ?_); rintro e' w5 ⟨rfl, qk⟩; have BL5 := Lib.hid (BL4.out.trans (qk.1.mono (Nat.le_of_lt hs4))); clear qk))
            go_ret
            exact ⟨rfl, BL5.out⟩
          · obtain rfl : v = an := by simpa [hse] using hv'.symm
            have hse2 : (c.ty == 262142) = false := by simpa using hse
            clear hv'
            go_enter Try.func27, Try.ntmps27
            go_wp2_with (first
        | (go_at_call 61; (with_reducible refine (HCON.out _ HRD.out).mono ?_); rintro e' w1 ⟨rfl, qk⟩; have hs1 : w.heap.size < w1.heap.size := (by have := qk.size; (try simp at this); omega); have AT1 := Lib.hid (HAT.out.kp qk (by simp)); have RD1 := Lib.hid ((HRD.out.kp qk (Nat.le_refl _)).more qk.size); have BL1 := Lib.hid (HB0.out.trans (qk.1.mono (by simp))); clear qk)
        | (go_at_call 12; (with_reducible refine (HCLO.out _ RD1.out).mono ?_); rintro e' w2 ⟨A', cap, rfl, _, hr2, hb2⟩; have hs2 : w.heap.size < w2.heap.size := Nat.lt_of_lt_of_le hs1 hb2.size; have AT2 : Hid (At w.heap.size c.vs w2) := Lib.hid (fun i v hi => (hb2.cell (p := ⟨w.heap.size, i, none⟩) hs1).trans (AT1.out i v hi)); have RD2 := Lib.hid hr2; have BL2 := Lib.hid (BL1.out.trans (hb2.mono (Nat.le_of_lt hs1))); clear hr2 hb2)
        | (go_at_call 62; (with_reducible refine (HF1.out w.heap.size A' cap _ RD2.out hs2 AT2.out).mono ?_); rintro e' w3 ⟨rfl, qk⟩; have hs3 : w.heap.size < w3.heap.size := Nat.lt_of_lt_of_le hs2 qk.size; have AT3 := Lib.hid (AT2.out.kp qk hs2); have RD3 := Lib.hid ((RD2.out.kp qk (Nat.le_refl _)).more qk.size); have BL3 := Lib.hid (BL2.out.trans (qk.1.mono (Nat.le_of_lt hs2))); have AX3 : At w.heap.size [true, c.pe, c.ty, c.mo, c.e, c.b, c.t, c.g, .int .u64 c.a] w3 := HV.out ▸ AT3.out; obtain ⟨_, _, _, _, _, _, _, _, _⟩ := AX3.out9; clear qk)
        | (go_at_call 34; (with_reducible refine (HSE.out _).mono ?_); rintro e' w4 ⟨rfl, qk⟩; have hs4 : w.heap.size < w4.heap.size := Nat.lt_of_lt_of_le hs3 qk.size; have AT4 := Lib.hid (AT3.out.kp qk hs3); have RD4 := Lib.hid ((RD3.out.kp qk (Nat.le_refl _)).more qk.size); have BL4 := Lib.hid (BL3.out.trans (qk.1.mono (Nat.le_of_lt hs3))); have AX4 : At w.heap.size [true, c.pe, c.ty, c.mo, c.e, c.b, c.t, c.g, .int .u64 c.a] w4 := HV.out ▸ AT4.out; obtain ⟨_, _, _, _, _, _, _, _, _⟩ := AX4.out9; clear qk)
        | (go_at_call 64; (with_reducible refine (HPE.out _).mono ?_); rintro e' w5 ⟨rfl, qk⟩; have BL5 := Lib.hid (BL4.out.trans (qk.1.mono (Nat.le_of_lt hs4))); clear qk)
        | (go_at_call 62; (with_reducible refine (HF2.out w.heap.size A' cap _ RD4.out hs4 AT4.out).mono ?_); rintro e' w5 ⟨rfl, qk⟩; have BL5 := Lib.hid (BL4.out.trans (qk.1.mono (Nat.le_of_lt hs4))); clear qk))
            go_ret
            exact ⟨rfl, BL5.out⟩
    · obtain rfl : v = true := by simpa using hv'.symm
      clear HSE HPE HF1 HF2 hv'
      go_enter Try.func27, Try.ntmps27
      go_wp2_with (first | (go_at_call 61; (with_reducible refine (HCON.out _ HRD.out).mono ?_); rintro e' w1 ⟨rfl, qk⟩; have HB1 := Lib.hid (HB0.out.trans (qk.1.mono (by simp))); clear qk))
      go_ret
      exact ⟨rfl, HB1.out⟩
end Go.Proofs.Ytkddgjaflcjhiaa
