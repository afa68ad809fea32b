/-
  The contract of the document's Has: it tells what order's Has tells. Capabilities' numbers are in their places, at most a thousand of them.
  What the laws over lists share: a list that comes in, opened; the end of a law that leaves all that was there; what comes of some, and of something that comes of them; the contract of CopyCaps. Numbers are within their types.
  The contract of LentCaps: the list, and five marks behind it, in new memory. Lists of a thousand at most.
  OrderTells: what comes of some is told in new memory, and whether another one does; what is handed in stays: the walk of the law. No condition.
  OrderTells: what comes of some is told in new memory, and whether another one does; what is handed in stays, as the law asks. No condition.
-/
import Derived.Test.YtmehbildddlgaaaTA
import Derived.Test.YtmehbildddlgaaaOHas
import Derived.StillTailTactics
import Derived.Test.YtmehbildddlgaaaAgg9
import Derived.ChangeSame
import Derived.Deep.Slices
import Derived.Carry
import Derived.Test.YtmehbildddlgaaaOWorks
namespace Go.Proofs.Ytmehbildddlgaaa
open Go.ChangeShapes Go.WideShapes Go.ChangeAt Go.RowKit Go.Maps
set_option linter.unusedVariables false
set_option linter.unusedSimpArgs false

theorem rclo_w (l : List Cp) (A : Option Addr) (n : Nat) (hL : ∀ c ∈ l, RC c) (hl : l.length ≤ 1000) (w : World) (h : Rd w w.heap.size A l) :
    Calls Try.prog 14 #[.slice A l.length n] w (fun e w' => ∃ A' cap, e = .returned (.slice A' (clo l).length cap) ∧ OwnC w' w.heap.size (.slice A' (clo l).length cap) (clo l) ∧ Rd w' w'.heap.size A' (clo l) ∧ Below w.heap.size w w') :=
  (rclose_w l A n hL hl w h).mono (by
    rintro e w' ⟨v, out, rfl, hc, ho, hb⟩
    obtain rfl := hc.eq
    obtain ⟨A', cap, rfl, _, hr, -⟩ := ho.rd
    exact ⟨A', cap, rfl, ho, hr, hb⟩)
/-- What Has tells, way by way, as the document asks it. -/
theorem has_ways (l : List Cp) (c : Cp) (hL : ∀ c ∈ l, RC c) (hc : RC c) (v : Bool) (hv : hasB l c = v) (al an px m2 : Bool) (e1 : (clo l).any (fun b => lessB (uns c) b) = al) (e2 : (clo l).any (fun b => canD b 128 c.ty) = an) (e3 : hasP c.pe 2 = px) (e4 : decide (uns c ∈ l) = m2) (ht : c.tg = true) (hm : decide (c ∈ l) = false) :
    (c.sealed = false ∧ v = al) ∨ (c.sealed = true ∧ c.ty = 262142 ∧ px = false ∧ v = false) ∨ (c.sealed = true ∧ 262135 < c.ty ∧ c.ty ≠ 262142 ∧ v = false) ∨
    (c.sealed = true ∧ c.ty = 262142 ∧ px = true ∧ m2 = true ∧ v = true) ∨ (c.sealed = true ∧ c.ty = 262142 ∧ px = true ∧ m2 = false ∧ v = al) ∨
    (c.sealed = true ∧ c.ty ≤ 262135 ∧ an = false ∧ v = false) ∨ (c.sealed = true ∧ c.ty ≤ 262135 ∧ an = true ∧ m2 = true ∧ v = true) ∨ (c.sealed = true ∧ c.ty ≤ 262135 ∧ an = true ∧ m2 = false ∧ v = al) := by
  have hv' := hv
  rw [hasB, hm, e1, e2, e3, ht] at hv'
  have hal : m2 = true → al = true := by
    intro h
    rw [h, decide_eq_true_eq] at e4
    rw [← e1, List.any_eq_true]
    refine ⟨uns c, ?_, ?_⟩
    · obtain ⟨⟨u, e, _⟩, _⟩ := clo_grown l
      rw [e]; exact List.mem_append.2 (.inl ((base_mem l _).2 ⟨e4, ht⟩))
    · have t : (uns c).tg = true := ht
      unfold lessB subB
      rw [wi_refl, per_refl, t, uns_unsealed c]; rfl
  cases hs : c.sealed
  · left
    rw [hs] at hv'
    exact ⟨rfl, by rw [← hv']; simp⟩
  · right
    rw [hs] at hv'
    by_cases h2 : c.ty = 262142
    · rw [if_pos h2] at hv'
      cases px
      · left; exact ⟨rfl, h2, rfl, by rw [← hv']; simp⟩
      · right; right
        cases m2
        · right; left; exact ⟨rfl, h2, rfl, rfl, by rw [← hv']; simp⟩
        · left; exact ⟨rfl, h2, rfl, rfl, by rw [← hv', hal rfl]; simp⟩
    · rw [if_neg h2] at hv'
      by_cases h3 : c.ty ≤ 262135
      · right; right; right; right
        cases an
        · left; exact ⟨rfl, h3, rfl, by rw [← hv']; simp⟩
        · right
          cases m2
          · right; exact ⟨rfl, h3, rfl, rfl, by rw [← hv']; simp⟩
          · left; exact ⟨rfl, h3, rfl, rfl, by rw [← hv', hal rfl]; simp⟩
      · right; left
        have : an = false := by
          rw [← e2, List.any_eq_false]; intro x _; simp [canD, rngIn, namesB]; omega
        exact ⟨rfl, by omega, h2, by rw [← hv', this]; simp⟩
theorem Blk.below {w w' : World} {g n : Nat} {t : TypeId} {cs : List Value} (h : Blk w g t cs) (k : Below n w w') (hg : g < n) : Blk w' g t cs := h.block (k.block g hg)
set_option maxHeartbeats 2000000 in
set_option maxRecDepth 100000 in
theorem rhas_0 (l : List Cp) (A : Option Addr) (n : Nat) (c : Cp) (hL : ∀ c ∈ l, RC c) (hl : l.length ≤ 1000) (hc : RC c) (al an px m2 : Bool) (e1 : (clo l).any (fun b => lessB (uns c) b) = al) (e2 : (clo l).any (fun b => canD b 128 c.ty) = an) (e3 : hasP c.pe 2 = px) (e4 : decide (uns c ∈ l) = m2) (ht : c.tg = true) (hm : decide (c ∈ l) = false) (hw : c.sealed = false) (w : World) (h : Rd w w.heap.size A l) :
    Calls Try.prog 19 #[.slice A l.length n, .agg #[.bool true, .int .i64 c.pe, .int .i64 c.ty, .int .i64 c.mo, .int .i64 c.e, .int .i64 c.b, .int .i64 c.t, .bool c.g, .int .u64 c.a]] w fun e w' => e = .returned (.bool al) ∧ Below w.heap.size w w' := by
  have hcl : (clo l).length ≤ 2000 := by have := clo_len l; omega
  have hca := clo_all l hL
  have hpx := hasP_two c.pe 1 (by omega) hc.p0 hc.p1 2 (by decide)
  have p0 := hc.p0
  have p1 := hc.p1
  have HT1 : Hid (∀ w1 : World, Rd w1 w1.heap.size A l → Calls Try.prog 40 #[.slice A l.length n, .agg #[.bool true, .int .i64 c.pe, .int .i64 c.ty, .int .i64 c.mo, .int .i64 c.e, .int .i64 c.b, .int .i64 c.t, .bool c.g, .int .u64 c.a]] w1 fun e' w' => e' = .returned (.bool false) ∧ Kp w1 w') := Lib.hid (fun w1 h1 => by have := there_v l A n c w1 h1 (by omega) false hm; rw [ht] at this; exact this)
  have HT2 : Hid (∀ w1 : World, Rd w1 w1.heap.size A l → Calls Try.prog 40 #[.slice A l.length n, .agg #[.bool true, .int .i64 c.pe, .int .i64 262143, .int .i64 c.mo, .int .i64 c.e, .int .i64 c.b, .int .i64 c.t, .bool c.g, .int .u64 c.a]] w1 fun e' w' => e' = .returned (.bool m2) ∧ Kp w1 w') := Lib.hid (fun w1 h1 => by have := there_v l A n (uns c) w1 h1 (by omega) m2 e4; rw [show (uns c).tg = true from ht] at this; exact this)
  have HCL := Lib.hid (fun w1 h1 => rclo_w l A n hL hl w1 h1)
  have HSE : Hid (∀ w1 : World, Calls Try.prog 43 #[.agg #[.bool true, .int .i64 c.pe, .int .i64 c.ty, .int .i64 c.mo, .int .i64 c.e, .int .i64 c.b, .int .i64 c.t, .bool c.g, .int .u64 c.a]] w1 fun e' w' => e' = .returned (.bool false) ∧ Kp w1 w') := Lib.hid (fun w1 => by have := rsealed_w c false hw w1; rw [ht] at this; exact this)
  have HWI : Hid (c.ty ≤ 262135 → ∀ (A' : Option Addr) (cap : Nat) (w1 : World), Rd w1 w1.heap.size A' (clo l) → Calls Try.prog 41 #[.slice A' (clo l).length cap, .int .i64 128, .int .i64 c.ty] w1 fun e' w' => e' = .returned (.bool an) ∧ Kp w1 w') := Lib.hid (fun hy A' cap w1 h1 => by
    have := with128_w (clo l) A' cap c.ty (fun d hd => (hca d hd).1) hc.y0 hy w1 h1 (by omega)
    rw [key_with (clo l) hca, e2] at this; exact this)
  have HLE : Hid (∀ b ∈ clo l, ∀ w1 : World, Calls Try.prog 17 #[.agg #[.bool true, .int .i64 c.pe, .int .i64 262143, .int .i64 c.mo, .int .i64 c.e, .int .i64 c.b, .int .i64 c.t, .bool c.g, .int .u64 c.a], .agg #[.bool b.tg, .int .i64 b.pe, .int .i64 b.ty, .int .i64 b.mo, .int .i64 b.e, .int .i64 b.b, .int .i64 b.t, .bool b.g, .int .u64 b.a]] w1 fun e' w' => e' = .returned (.bool (lessB (uns c) b)) ∧ Kp w1 w') := Lib.hid (fun b hb w1 => by have := rless_w (uns c) b hc.uns (hca b hb).1 _ rfl w1; rw [show (uns c).tg = true from ht] at this; exact this)
  have HE1 := Lib.hid e1
  have HH := Lib.hid h
  have BK0 : Hid (Blk (w.alloc (.cells #[.bool true, .int .i64 c.pe, .int .i64 c.ty, .int .i64 c.mo, .int .i64 c.e, .int .i64 c.b, .int .i64 c.t, .bool c.g, .int .u64 c.a] 25)) (w.heap.size) 25 [.bool true, .int .i64 c.pe, .int .i64 c.ty, .int .i64 c.mo, .int .i64 c.e, .int .i64 c.b, .int .i64 c.t, .bool c.g, .int .u64 c.a]) := Lib.hid (Blk.new w 25 [.bool true, .int .i64 c.pe, .int .i64 c.ty, .int .i64 c.mo, .int .i64 c.e, .int .i64 c.b, .int .i64 c.t, .bool c.g, .int .u64 c.a])
  have RD0 : Hid (Rd (w.alloc (.cells #[.bool true, .int .i64 c.pe, .int .i64 c.ty, .int .i64 c.mo, .int .i64 c.e, .int .i64 c.b, .int .i64 c.t, .bool c.g, .int .u64 c.a] 25)) (w.alloc (.cells #[.bool true, .int .i64 c.pe, .int .i64 c.ty, .int .i64 c.mo, .int .i64 c.e, .int .i64 c.b, .int .i64 c.t, .bool c.g, .int .u64 c.a] 25)).heap.size A l) := Lib.hid ((h.alloc (Nat.le_refl _) _).more (by simp))
  have BL0 : Hid (Below (w.heap.size) w (w.alloc (.cells #[.bool true, .int .i64 c.pe, .int .i64 c.ty, .int .i64 c.mo, .int .i64 c.e, .int .i64 c.b, .int .i64 c.t, .bool c.g, .int .u64 c.a] 25))) := Lib.hid ((Below.refl _ _).alloc (Nat.le_refl _) _)
  have hty : c.ty = 262143 := by simpa [Cp.sealed, sealedB] using hw
  have hU : Hid (([.bool true, .int .i64 c.pe, .int .i64 c.ty, .int .i64 c.mo, .int .i64 c.e, .int .i64 c.b, .int .i64 c.t, .bool c.g, .int .u64 c.a] : List Value) = [.bool true, .int .i64 c.pe, .int .i64 262143, .int .i64 c.mo, .int .i64 c.e, .int .i64 c.b, .int .i64 c.t, .bool c.g, .int .u64 c.a]) := Lib.hid (by rw [hty])
  clear hty
  clear h hL hc e1 e2 e3 e4 ht hm hw hpx hca HWI
  go_enter Try.func19, Try.ntmps19
  go_wp2_with (first
    | (go_at_call 40; (with_reducible refine (HT1.out _ RD0.out).mono ?_); rintro e' w1 ⟨rfl, qk⟩; have BK1 := Lib.hid (BK0.out.fr (Fr.of_kp qk (fun _ => False)) id); obtain ⟨_, _, _, _, _, _, _, _, _⟩ := BK1.out.at_.out9; have hs1 := BK1.out.lt; have RD1 := Lib.hid ((RD0.out.kp qk (Nat.le_refl _)).more qk.size); have BL1 := Lib.hid (BL0.out.trans (qk.1.mono (by simp))); clear qk)
    | (go_at_call 14; (with_reducible refine (HCL.out _ RD1.out).mono ?_); rintro e' w2 ⟨A', cap, rfl, ho2, hr2, hb2⟩; have OC2 := Lib.hid ho2; have BK2 := Lib.hid (BK1.out.below hb2 hs1); obtain ⟨_, _, _, _, _, _, _, _, _⟩ := BK2.out.at_.out9; have hs2 := BK2.out.lt; have RC2 := Lib.hid hr2; have RD2 := Lib.hid ((RD1.out.keep fun p hp => hb2.cell hp).more hb2.size); have BL2 := Lib.hid (BL1.out.trans (hb2.mono (Nat.le_of_lt hs1))); clear ho2 hr2 hb2)
    | (go_at_call 43; (with_reducible refine (HSE.out _).mono ?_); rintro e' w3 ⟨rfl, qk⟩; have BK3 := Lib.hid (BK2.out.fr (Fr.of_kp qk (fun _ => False)) id); obtain ⟨_, _, _, _, _, _, _, _, _⟩ := BK3.out.at_.out9; have zf3 := BK3.out.frozen 2; have hs3 := BK3.out.lt; have RC3 := Lib.hid ((RC2.out.kp qk (Nat.le_refl _)).more qk.size); have OC3 := Lib.hid (own_fr OC2.out (Fr.of_kp qk (fun _ => False)) (fun _ _ h => h)); have RD3 := Lib.hid ((RD2.out.kp qk (Nat.le_refl _)).more qk.size); have BL3 := Lib.hid (BL2.out.trans (qk.1.mono (Nat.le_of_lt hs2))); clear qk))
  have BK5 : Hid (Blk w3 (w.heap.size) 25 [.bool true, .int .i64 c.pe, .int .i64 262143, .int .i64 c.mo, .int .i64 c.e, .int .i64 c.b, .int .i64 c.t, .bool c.g, .int .u64 c.a]) := Lib.hid (by have := BK3.out; rw [hU.out] at this; exact this)
  go_loopw [6] (fun i wr => ∃ k : Nat, k ≤ (clo l).length ∧ i = .int .i64 k ∧ (∀ b ∈ (clo l).take k, lessB (uns c) b = false) ∧ Blk wr (w.heap.size) 25 [.bool true, .int .i64 c.pe, .int .i64 262143, .int .i64 c.mo, .int .i64 c.e, .int .i64 c.b, .int .i64 c.t, .bool c.g, .int .u64 c.a] ∧ OwnC wr w1.heap.size (.slice A' (clo l).length cap) (clo l) ∧ Below (w.heap.size) w wr) (fun i _ => (clo l).length - (intOf i).toNat)
  case atStart => exact ⟨0, Nat.zero_le _, rfl, by simp, BK5.out, OC3.out, BL3.out⟩
  case round =>
    obtain ⟨k, hk, rfl, hx, hbk, hoc, hbl⟩ := hrel
    have HX := Lib.hid hx
    have HB := Lib.hid hbk
    have HO := Lib.hid hoc
    have HL2 := Lib.hid hbl
    clear hx hbk hoc hbl
    obtain ⟨_, _, _, _, _, _, _, _, _⟩ := HB.out.at_.out9
    by_cases hlt : k < (clo l).length
    · obtain ⟨A2, cap2, ev, _, hr2, -⟩ := HO.out.rd
      cases ev
      obtain ⟨bb, oo, rfl, hbb, b, hb, hr⟩ := hr2.at_ hlt
      obtain ⟨r0, r1, r2, r3, r4, r5, r6, r7, r8⟩ := hr.out
      have HBM := Lib.hid hb
      have HC := Lib.hid (HLE.out b (List.mem_of_getElem? hb))
      obtain ⟨lv, hlv⟩ : ∃ lv, lessB (uns c) b = lv := ⟨_, rfl⟩
      rw [hlv] at HC
      have HLV := Lib.hid hlv
      clear hlv hb hr hr2
      cases lv
      all_goals
        go_upto_region 15 with fail
        refine wp_region_still_tail 5 (by kernel_rfl) (by kernel_rfl) ?_
        simp only [List.take_succ_cons, List.take_zero, List.drop_succ_cons, List.drop_zero]
        repeat still_step
        refine wpStill_nil ?_
        change wpList _ _ _ _ _ wr.drew
        go_wp2_with (go_at_call 17; (with_reducible refine (HC.out _).mono ?_); rintro e' w6 ⟨rfl, qk⟩; have K6 := Lib.hid (((Kp.refl wr).drew).trans qk); clear qk)
      · go_roundw
        case rel => exact ⟨k + 1, by omega, by go_num, by
          rw [List.take_add_one, HBM.out]; intro d hd; rcases List.mem_append.1 hd with hd | hd
          · exact HX.out d hd
          · have : d = b := by simpa using hd
            subst this; exact HLV.out, HB.out.fr (Fr.of_kp K6.out (fun _ => False)) id, own_fr HO.out (Fr.of_kp K6.out (fun _ => False)) (fun _ _ h => h), HL2.out.trans (K6.out.1.mono HL2.out.size)⟩
        case measure => simp [intOf]; omega
      · go_ret
        exact ⟨ret_bool (by rw [← HE1.out, eq_comm, List.any_eq_true]; exact ⟨b, List.mem_of_getElem? HBM.out, HLV.out⟩), HL2.out.trans (K6.out.1.mono HL2.out.size)⟩
    · go_wp2
      go_ret
      exact ⟨ret_bool (by
        have e : (clo l).take k = clo l := List.take_of_length_le (by omega)
        rw [e] at HX
        rw [← HE1.out, eq_comm, List.any_eq_false]; intro x hx; rw [HX.out x hx]; decide), HL2.out⟩
set_option maxHeartbeats 2000000 in
set_option maxRecDepth 100000 in
theorem rhas_1 (l : List Cp) (A : Option Addr) (n : Nat) (c : Cp) (hL : ∀ c ∈ l, RC c) (hl : l.length ≤ 1000) (hc : RC c) (al an px m2 : Bool) (e1 : (clo l).any (fun b => lessB (uns c) b) = al) (e2 : (clo l).any (fun b => canD b 128 c.ty) = an) (e3 : hasP c.pe 2 = px) (e4 : decide (uns c ∈ l) = m2) (ht : c.tg = true) (hm : decide (c ∈ l) = false) (hw : c.sealed = true ∧ c.ty = 262142 ∧ px = false) (w : World) (h : Rd w w.heap.size A l) :
    Calls Try.prog 19 #[.slice A l.length n, .agg #[.bool true, .int .i64 c.pe, .int .i64 c.ty, .int .i64 c.mo, .int .i64 c.e, .int .i64 c.b, .int .i64 c.t, .bool c.g, .int .u64 c.a]] w fun e w' => e = .returned (.bool false) ∧ Below w.heap.size w w' := by
  have hcl : (clo l).length ≤ 2000 := by have := clo_len l; omega
  have hca := clo_all l hL
  have hpx := hasP_two c.pe 1 (by omega) hc.p0 hc.p1 2 (by decide)
  have p0 := hc.p0
  have p1 := hc.p1
  have HT1 : Hid (∀ w1 : World, Rd w1 w1.heap.size A l → Calls Try.prog 40 #[.slice A l.length n, .agg #[.bool true, .int .i64 c.pe, .int .i64 c.ty, .int .i64 c.mo, .int .i64 c.e, .int .i64 c.b, .int .i64 c.t, .bool c.g, .int .u64 c.a]] w1 fun e' w' => e' = .returned (.bool false) ∧ Kp w1 w') := Lib.hid (fun w1 h1 => by have := there_v l A n c w1 h1 (by omega) false hm; rw [ht] at this; exact this)
  have HT2 : Hid (∀ w1 : World, Rd w1 w1.heap.size A l → Calls Try.prog 40 #[.slice A l.length n, .agg #[.bool true, .int .i64 c.pe, .int .i64 262143, .int .i64 c.mo, .int .i64 c.e, .int .i64 c.b, .int .i64 c.t, .bool c.g, .int .u64 c.a]] w1 fun e' w' => e' = .returned (.bool m2) ∧ Kp w1 w') := Lib.hid (fun w1 h1 => by have := there_v l A n (uns c) w1 h1 (by omega) m2 e4; rw [show (uns c).tg = true from ht] at this; exact this)
  have HCL := Lib.hid (fun w1 h1 => rclo_w l A n hL hl w1 h1)
  have HSE : Hid (∀ w1 : World, Calls Try.prog 43 #[.agg #[.bool true, .int .i64 c.pe, .int .i64 c.ty, .int .i64 c.mo, .int .i64 c.e, .int .i64 c.b, .int .i64 c.t, .bool c.g, .int .u64 c.a]] w1 fun e' w' => e' = .returned (.bool true) ∧ Kp w1 w') := Lib.hid (fun w1 => by have := rsealed_w c true hw.1 w1; rw [ht] at this; exact this)
  have HWI : Hid (c.ty ≤ 262135 → ∀ (A' : Option Addr) (cap : Nat) (w1 : World), Rd w1 w1.heap.size A' (clo l) → Calls Try.prog 41 #[.slice A' (clo l).length cap, .int .i64 128, .int .i64 c.ty] w1 fun e' w' => e' = .returned (.bool an) ∧ Kp w1 w') := Lib.hid (fun hy A' cap w1 h1 => by
    have := with128_w (clo l) A' cap c.ty (fun d hd => (hca d hd).1) hc.y0 hy w1 h1 (by omega)
    rw [key_with (clo l) hca, e2] at this; exact this)
  have HLE : Hid (∀ b ∈ clo l, ∀ w1 : World, Calls Try.prog 17 #[.agg #[.bool true, .int .i64 c.pe, .int .i64 262143, .int .i64 c.mo, .int .i64 c.e, .int .i64 c.b, .int .i64 c.t, .bool c.g, .int .u64 c.a], .agg #[.bool b.tg, .int .i64 b.pe, .int .i64 b.ty, .int .i64 b.mo, .int .i64 b.e, .int .i64 b.b, .int .i64 b.t, .bool b.g, .int .u64 b.a]] w1 fun e' w' => e' = .returned (.bool (lessB (uns c) b)) ∧ Kp w1 w') := Lib.hid (fun b hb w1 => by have := rless_w (uns c) b hc.uns (hca b hb).1 _ rfl w1; rw [show (uns c).tg = true from ht] at this; exact this)
  have HE1 := Lib.hid e1
  have HH := Lib.hid h
  have BK0 : Hid (Blk (w.alloc (.cells #[.bool true, .int .i64 c.pe, .int .i64 c.ty, .int .i64 c.mo, .int .i64 c.e, .int .i64 c.b, .int .i64 c.t, .bool c.g, .int .u64 c.a] 25)) (w.heap.size) 25 [.bool true, .int .i64 c.pe, .int .i64 c.ty, .int .i64 c.mo, .int .i64 c.e, .int .i64 c.b, .int .i64 c.t, .bool c.g, .int .u64 c.a]) := Lib.hid (Blk.new w 25 [.bool true, .int .i64 c.pe, .int .i64 c.ty, .int .i64 c.mo, .int .i64 c.e, .int .i64 c.b, .int .i64 c.t, .bool c.g, .int .u64 c.a])
  have RD0 : Hid (Rd (w.alloc (.cells #[.bool true, .int .i64 c.pe, .int .i64 c.ty, .int .i64 c.mo, .int .i64 c.e, .int .i64 c.b, .int .i64 c.t, .bool c.g, .int .u64 c.a] 25)) (w.alloc (.cells #[.bool true, .int .i64 c.pe, .int .i64 c.ty, .int .i64 c.mo, .int .i64 c.e, .int .i64 c.b, .int .i64 c.t, .bool c.g, .int .u64 c.a] 25)).heap.size A l) := Lib.hid ((h.alloc (Nat.le_refl _) _).more (by simp))
  have BL0 : Hid (Below (w.heap.size) w (w.alloc (.cells #[.bool true, .int .i64 c.pe, .int .i64 c.ty, .int .i64 c.mo, .int .i64 c.e, .int .i64 c.b, .int .i64 c.t, .bool c.g, .int .u64 c.a] 25))) := Lib.hid ((Below.refl _ _).alloc (Nat.le_refl _) _)
  have f1 : (c.ty == 262142) = true := by simpa using hw.2.1
  have f2 : (c.pe / 2 % 2 == 0) = true := by have := hw.2.2; rw [← e3, hpx] at this; simp at this ⊢; omega
  clear h hL hc e1 e2 e3 e4 ht hm hw hpx hca HWI
  go_enter Try.func19, Try.ntmps19
  go_wp2_with (first
    | (go_at_call 40; (with_reducible refine (HT1.out _ RD0.out).mono ?_); rintro e' w1 ⟨rfl, qk⟩; have BK1 := Lib.hid (BK0.out.fr (Fr.of_kp qk (fun _ => False)) id); obtain ⟨_, _, _, _, _, _, _, _, _⟩ := BK1.out.at_.out9; have hs1 := BK1.out.lt; have RD1 := Lib.hid ((RD0.out.kp qk (Nat.le_refl _)).more qk.size); have BL1 := Lib.hid (BL0.out.trans (qk.1.mono (by simp))); clear qk)
    | (go_at_call 14; (with_reducible refine (HCL.out _ RD1.out).mono ?_); rintro e' w2 ⟨A', cap, rfl, ho2, hr2, hb2⟩; have OC2 := Lib.hid ho2; have BK2 := Lib.hid (BK1.out.below hb2 hs1); obtain ⟨_, _, _, _, _, _, _, _, _⟩ := BK2.out.at_.out9; have hs2 := BK2.out.lt; have RC2 := Lib.hid hr2; have RD2 := Lib.hid ((RD1.out.keep fun p hp => hb2.cell hp).more hb2.size); have BL2 := Lib.hid (BL1.out.trans (hb2.mono (Nat.le_of_lt hs1))); clear ho2 hr2 hb2)
    | (go_at_call 43; (with_reducible refine (HSE.out _).mono ?_); rintro e' w3 ⟨rfl, qk⟩; have BK3 := Lib.hid (BK2.out.fr (Fr.of_kp qk (fun _ => False)) id); obtain ⟨_, _, _, _, _, _, _, _, _⟩ := BK3.out.at_.out9; have zf3 := BK3.out.frozen 2; have hs3 := BK3.out.lt; have RC3 := Lib.hid ((RC2.out.kp qk (Nat.le_refl _)).more qk.size); have OC3 := Lib.hid (own_fr OC2.out (Fr.of_kp qk (fun _ => False)) (fun _ _ h => h)); have RD3 := Lib.hid ((RD2.out.kp qk (Nat.le_refl _)).more qk.size); have BL3 := Lib.hid (BL2.out.trans (qk.1.mono (Nat.le_of_lt hs2))); clear qk))
  go_ret
  exact ⟨rfl, BL3.out⟩
set_option maxHeartbeats 2000000 in
set_option maxRecDepth 100000 in
theorem rhas_2 (l : List Cp) (A : Option Addr) (n : Nat) (c : Cp) (hL : ∀ c ∈ l, RC c) (hl : l.length ≤ 1000) (hc : RC c) (al an px m2 : Bool) (e1 : (clo l).any (fun b => lessB (uns c) b) = al) (e2 : (clo l).any (fun b => canD b 128 c.ty) = an) (e3 : hasP c.pe 2 = px) (e4 : decide (uns c ∈ l) = m2) (ht : c.tg = true) (hm : decide (c ∈ l) = false) (hw : c.sealed = true ∧ 262135 < c.ty ∧ c.ty ≠ 262142) (w : World) (h : Rd w w.heap.size A l) :
    Calls Try.prog 19 #[.slice A l.length n, .agg #[.bool true, .int .i64 c.pe, .int .i64 c.ty, .int .i64 c.mo, .int .i64 c.e, .int .i64 c.b, .int .i64 c.t, .bool c.g, .int .u64 c.a]] w fun e w' => e = .returned (.bool false) ∧ Below w.heap.size w w' := by
  have hcl : (clo l).length ≤ 2000 := by have := clo_len l; omega
  have hca := clo_all l hL
  have hpx := hasP_two c.pe 1 (by omega) hc.p0 hc.p1 2 (by decide)
  have p0 := hc.p0
  have p1 := hc.p1
  have HT1 : Hid (∀ w1 : World, Rd w1 w1.heap.size A l → Calls Try.prog 40 #[.slice A l.length n, .agg #[.bool true, .int .i64 c.pe, .int .i64 c.ty, .int .i64 c.mo, .int .i64 c.e, .int .i64 c.b, .int .i64 c.t, .bool c.g, .int .u64 c.a]] w1 fun e' w' => e' = .returned (.bool false) ∧ Kp w1 w') := Lib.hid (fun w1 h1 => by have := there_v l A n c w1 h1 (by omega) false hm; rw [ht] at this; exact this)
  have HT2 : Hid (∀ w1 : World, Rd w1 w1.heap.size A l → Calls Try.prog 40 #[.slice A l.length n, .agg #[.bool true, .int .i64 c.pe, .int .i64 262143, .int .i64 c.mo, .int .i64 c.e, .int .i64 c.b, .int .i64 c.t, .bool c.g, .int .u64 c.a]] w1 fun e' w' => e' = .returned (.bool m2) ∧ Kp w1 w') := Lib.hid (fun w1 h1 => by have := there_v l A n (uns c) w1 h1 (by omega) m2 e4; rw [show (uns c).tg = true from ht] at this; exact this)
  have HCL := Lib.hid (fun w1 h1 => rclo_w l A n hL hl w1 h1)
  have HSE : Hid (∀ w1 : World, Calls Try.prog 43 #[.agg #[.bool true, .int .i64 c.pe, .int .i64 c.ty, .int .i64 c.mo, .int .i64 c.e, .int .i64 c.b, .int .i64 c.t, .bool c.g, .int .u64 c.a]] w1 fun e' w' => e' = .returned (.bool true) ∧ Kp w1 w') := Lib.hid (fun w1 => by have := rsealed_w c true hw.1 w1; rw [ht] at this; exact this)
  have HWI : Hid (c.ty ≤ 262135 → ∀ (A' : Option Addr) (cap : Nat) (w1 : World), Rd w1 w1.heap.size A' (clo l) → Calls Try.prog 41 #[.slice A' (clo l).length cap, .int .i64 128, .int .i64 c.ty] w1 fun e' w' => e' = .returned (.bool an) ∧ Kp w1 w') := Lib.hid (fun hy A' cap w1 h1 => by
    have := with128_w (clo l) A' cap c.ty (fun d hd => (hca d hd).1) hc.y0 hy w1 h1 (by omega)
    rw [key_with (clo l) hca, e2] at this; exact this)
  have HLE : Hid (∀ b ∈ clo l, ∀ w1 : World, Calls Try.prog 17 #[.agg #[.bool true, .int .i64 c.pe, .int .i64 262143, .int .i64 c.mo, .int .i64 c.e, .int .i64 c.b, .int .i64 c.t, .bool c.g, .int .u64 c.a], .agg #[.bool b.tg, .int .i64 b.pe, .int .i64 b.ty, .int .i64 b.mo, .int .i64 b.e, .int .i64 b.b, .int .i64 b.t, .bool b.g, .int .u64 b.a]] w1 fun e' w' => e' = .returned (.bool (lessB (uns c) b)) ∧ Kp w1 w') := Lib.hid (fun b hb w1 => by have := rless_w (uns c) b hc.uns (hca b hb).1 _ rfl w1; rw [show (uns c).tg = true from ht] at this; exact this)
  have HE1 := Lib.hid e1
  have HH := Lib.hid h
  have BK0 : Hid (Blk (w.alloc (.cells #[.bool true, .int .i64 c.pe, .int .i64 c.ty, .int .i64 c.mo, .int .i64 c.e, .int .i64 c.b, .int .i64 c.t, .bool c.g, .int .u64 c.a] 25)) (w.heap.size) 25 [.bool true, .int .i64 c.pe, .int .i64 c.ty, .int .i64 c.mo, .int .i64 c.e, .int .i64 c.b, .int .i64 c.t, .bool c.g, .int .u64 c.a]) := Lib.hid (Blk.new w 25 [.bool true, .int .i64 c.pe, .int .i64 c.ty, .int .i64 c.mo, .int .i64 c.e, .int .i64 c.b, .int .i64 c.t, .bool c.g, .int .u64 c.a])
  have RD0 : Hid (Rd (w.alloc (.cells #[.bool true, .int .i64 c.pe, .int .i64 c.ty, .int .i64 c.mo, .int .i64 c.e, .int .i64 c.b, .int .i64 c.t, .bool c.g, .int .u64 c.a] 25)) (w.alloc (.cells #[.bool true, .int .i64 c.pe, .int .i64 c.ty, .int .i64 c.mo, .int .i64 c.e, .int .i64 c.b, .int .i64 c.t, .bool c.g, .int .u64 c.a] 25)).heap.size A l) := Lib.hid ((h.alloc (Nat.le_refl _) _).more (by simp))
  have BL0 : Hid (Below (w.heap.size) w (w.alloc (.cells #[.bool true, .int .i64 c.pe, .int .i64 c.ty, .int .i64 c.mo, .int .i64 c.e, .int .i64 c.b, .int .i64 c.t, .bool c.g, .int .u64 c.a] 25))) := Lib.hid ((Below.refl _ _).alloc (Nat.le_refl _) _)
  have f1 : (c.ty == 262142) = false := by simpa using hw.2.2
  have f3 : (c.ty != 262142) = true := by simpa using hw.2.2
  have f4 := hw.2.1
  clear h hL hc e1 e2 e3 e4 ht hm hw hpx hca HWI
  go_enter Try.func19, Try.ntmps19
  go_wp2_with (first
    | (go_at_call 40; (with_reducible refine (HT1.out _ RD0.out).mono ?_); rintro e' w1 ⟨rfl, qk⟩; have BK1 := Lib.hid (BK0.out.fr (Fr.of_kp qk (fun _ => False)) id); obtain ⟨_, _, _, _, _, _, _, _, _⟩ := BK1.out.at_.out9; have hs1 := BK1.out.lt; have RD1 := Lib.hid ((RD0.out.kp qk (Nat.le_refl _)).more qk.size); have BL1 := Lib.hid (BL0.out.trans (qk.1.mono (by simp))); clear qk)
    | (go_at_call 14; (with_reducible refine (HCL.out _ RD1.out).mono ?_); rintro e' w2 ⟨A', cap, rfl, ho2, hr2, hb2⟩; have OC2 := Lib.hid ho2; have BK2 := Lib.hid (BK1.out.below hb2 hs1); obtain ⟨_, _, _, _, _, _, _, _, _⟩ := BK2.out.at_.out9; have hs2 := BK2.out.lt; have RC2 := Lib.hid hr2; have RD2 := Lib.hid ((RD1.out.keep fun p hp => hb2.cell hp).more hb2.size); have BL2 := Lib.hid (BL1.out.trans (hb2.mono (Nat.le_of_lt hs1))); clear ho2 hr2 hb2)
    | (go_at_call 43; (with_reducible refine (HSE.out _).mono ?_); rintro e' w3 ⟨rfl, qk⟩; have BK3 := Lib.hid (BK2.out.fr (Fr.of_kp qk (fun _ => False)) id); obtain ⟨_, _, _, _, _, _, _, _, _⟩ := BK3.out.at_.out9; have zf3 := BK3.out.frozen 2; have hs3 := BK3.out.lt; have RC3 := Lib.hid ((RC2.out.kp qk (Nat.le_refl _)).more qk.size); have OC3 := Lib.hid (own_fr OC2.out (Fr.of_kp qk (fun _ => False)) (fun _ _ h => h)); have RD3 := Lib.hid ((RD2.out.kp qk (Nat.le_refl _)).more qk.size); have BL3 := Lib.hid (BL2.out.trans (qk.1.mono (Nat.le_of_lt hs2))); clear qk))
  go_ret
  exact ⟨rfl, BL3.out⟩
set_option maxHeartbeats 2000000 in
set_option maxRecDepth 100000 in
theorem rhas_3 (l : List Cp) (A : Option Addr) (n : Nat) (c : Cp) (hL : ∀ c ∈ l, RC c) (hl : l.length ≤ 1000) (hc : RC c) (al an px m2 : Bool) (e1 : (clo l).any (fun b => lessB (uns c) b) = al) (e2 : (clo l).any (fun b => canD b 128 c.ty) = an) (e3 : hasP c.pe 2 = px) (e4 : decide (uns c ∈ l) = m2) (ht : c.tg = true) (hm : decide (c ∈ l) = false) (hw : c.sealed = true ∧ c.ty = 262142 ∧ px = true ∧ m2 = true) (w : World) (h : Rd w w.heap.size A l) :
    Calls Try.prog 19 #[.slice A l.length n, .agg #[.bool true, .int .i64 c.pe, .int .i64 c.ty, .int .i64 c.mo, .int .i64 c.e, .int .i64 c.b, .int .i64 c.t, .bool c.g, .int .u64 c.a]] w fun e w' => e = .returned (.bool true) ∧ Below w.heap.size w w' := by
  have hcl : (clo l).length ≤ 2000 := by have := clo_len l; omega
  have hca := clo_all l hL
  have hpx := hasP_two c.pe 1 (by omega) hc.p0 hc.p1 2 (by decide)
  have p0 := hc.p0
  have p1 := hc.p1
  have HT1 : Hid (∀ w1 : World, Rd w1 w1.heap.size A l → Calls Try.prog 40 #[.slice A l.length n, .agg #[.bool true, .int .i64 c.pe, .int .i64 c.ty, .int .i64 c.mo, .int .i64 c.e, .int .i64 c.b, .int .i64 c.t, .bool c.g, .int .u64 c.a]] w1 fun e' w' => e' = .returned (.bool false) ∧ Kp w1 w') := Lib.hid (fun w1 h1 => by have := there_v l A n c w1 h1 (by omega) false hm; rw [ht] at this; exact this)
  have HT2 : Hid (∀ w1 : World, Rd w1 w1.heap.size A l → Calls Try.prog 40 #[.slice A l.length n, .agg #[.bool true, .int .i64 c.pe, .int .i64 262143, .int .i64 c.mo, .int .i64 c.e, .int .i64 c.b, .int .i64 c.t, .bool c.g, .int .u64 c.a]] w1 fun e' w' => e' = .returned (.bool m2) ∧ Kp w1 w') := Lib.hid (fun w1 h1 => by have := there_v l A n (uns c) w1 h1 (by omega) m2 e4; rw [show (uns c).tg = true from ht] at this; exact this)
  have HCL := Lib.hid (fun w1 h1 => rclo_w l A n hL hl w1 h1)
  have HSE : Hid (∀ w1 : World, Calls Try.prog 43 #[.agg #[.bool true, .int .i64 c.pe, .int .i64 c.ty, .int .i64 c.mo, .int .i64 c.e, .int .i64 c.b, .int .i64 c.t, .bool c.g, .int .u64 c.a]] w1 fun e' w' => e' = .returned (.bool true) ∧ Kp w1 w') := Lib.hid (fun w1 => by have := rsealed_w c true hw.1 w1; rw [ht] at this; exact this)
  have HWI : Hid (c.ty ≤ 262135 → ∀ (A' : Option Addr) (cap : Nat) (w1 : World), Rd w1 w1.heap.size A' (clo l) → Calls Try.prog 41 #[.slice A' (clo l).length cap, .int .i64 128, .int .i64 c.ty] w1 fun e' w' => e' = .returned (.bool an) ∧ Kp w1 w') := Lib.hid (fun hy A' cap w1 h1 => by
    have := with128_w (clo l) A' cap c.ty (fun d hd => (hca d hd).1) hc.y0 hy w1 h1 (by omega)
    rw [key_with (clo l) hca, e2] at this; exact this)
  have HLE : Hid (∀ b ∈ clo l, ∀ w1 : World, Calls Try.prog 17 #[.agg #[.bool true, .int .i64 c.pe, .int .i64 262143, .int .i64 c.mo, .int .i64 c.e, .int .i64 c.b, .int .i64 c.t, .bool c.g, .int .u64 c.a], .agg #[.bool b.tg, .int .i64 b.pe, .int .i64 b.ty, .int .i64 b.mo, .int .i64 b.e, .int .i64 b.b, .int .i64 b.t, .bool b.g, .int .u64 b.a]] w1 fun e' w' => e' = .returned (.bool (lessB (uns c) b)) ∧ Kp w1 w') := Lib.hid (fun b hb w1 => by have := rless_w (uns c) b hc.uns (hca b hb).1 _ rfl w1; rw [show (uns c).tg = true from ht] at this; exact this)
  have HE1 := Lib.hid e1
  have HH := Lib.hid h
  have BK0 : Hid (Blk (w.alloc (.cells #[.bool true, .int .i64 c.pe, .int .i64 c.ty, .int .i64 c.mo, .int .i64 c.e, .int .i64 c.b, .int .i64 c.t, .bool c.g, .int .u64 c.a] 25)) (w.heap.size) 25 [.bool true, .int .i64 c.pe, .int .i64 c.ty, .int .i64 c.mo, .int .i64 c.e, .int .i64 c.b, .int .i64 c.t, .bool c.g, .int .u64 c.a]) := Lib.hid (Blk.new w 25 [.bool true, .int .i64 c.pe, .int .i64 c.ty, .int .i64 c.mo, .int .i64 c.e, .int .i64 c.b, .int .i64 c.t, .bool c.g, .int .u64 c.a])
  have RD0 : Hid (Rd (w.alloc (.cells #[.bool true, .int .i64 c.pe, .int .i64 c.ty, .int .i64 c.mo, .int .i64 c.e, .int .i64 c.b, .int .i64 c.t, .bool c.g, .int .u64 c.a] 25)) (w.alloc (.cells #[.bool true, .int .i64 c.pe, .int .i64 c.ty, .int .i64 c.mo, .int .i64 c.e, .int .i64 c.b, .int .i64 c.t, .bool c.g, .int .u64 c.a] 25)).heap.size A l) := Lib.hid ((h.alloc (Nat.le_refl _) _).more (by simp))
  have BL0 : Hid (Below (w.heap.size) w (w.alloc (.cells #[.bool true, .int .i64 c.pe, .int .i64 c.ty, .int .i64 c.mo, .int .i64 c.e, .int .i64 c.b, .int .i64 c.t, .bool c.g, .int .u64 c.a] 25))) := Lib.hid ((Below.refl _ _).alloc (Nat.le_refl _) _)
  have f1 : (c.ty == 262142) = true := by simpa using hw.2.1
  have f2 : (c.pe / 2 % 2 == 0) = false := by have := hw.2.2.1; rw [← e3, hpx] at this; simp at this ⊢; omega
  have f3 : (c.ty != 262142) = false := by simpa using hw.2.1
  have f4 : 262135 < c.ty := by have := hw.2.1; omega
  obtain rfl := hw.2.2.2
  clear h hL hc e1 e2 e3 e4 ht hm hw hpx hca HWI
  go_enter Try.func19, Try.ntmps19
  go_upto_region 10 with (first
    | (go_at_call 40; (with_reducible refine (HT1.out _ RD0.out).mono ?_); rintro e' w1 ⟨rfl, qk⟩; have BK1 := Lib.hid (BK0.out.fr (Fr.of_kp qk (fun _ => False)) id); obtain ⟨_, _, _, _, _, _, _, _, _⟩ := BK1.out.at_.out9; have hs1 := BK1.out.lt; have RD1 := Lib.hid ((RD0.out.kp qk (Nat.le_refl _)).more qk.size); have BL1 := Lib.hid (BL0.out.trans (qk.1.mono (by simp))); clear qk)
    | (go_at_call 14; (with_reducible refine (HCL.out _ RD1.out).mono ?_); rintro e' w2 ⟨A', cap, rfl, ho2, hr2, hb2⟩; have OC2 := Lib.hid ho2; have BK2 := Lib.hid (BK1.out.below hb2 hs1); obtain ⟨_, _, _, _, _, _, _, _, _⟩ := BK2.out.at_.out9; have hs2 := BK2.out.lt; have RC2 := Lib.hid hr2; have RD2 := Lib.hid ((RD1.out.keep fun p hp => hb2.cell hp).more hb2.size); have BL2 := Lib.hid (BL1.out.trans (hb2.mono (Nat.le_of_lt hs1))); clear ho2 hr2 hb2)
    | (go_at_call 43; (with_reducible refine (HSE.out _).mono ?_); rintro e' w3 ⟨rfl, qk⟩; have BK3 := Lib.hid (BK2.out.fr (Fr.of_kp qk (fun _ => False)) id); obtain ⟨_, _, _, _, _, _, _, _, _⟩ := BK3.out.at_.out9; have zf3 := BK3.out.frozen 2; have hs3 := BK3.out.lt; have RC3 := Lib.hid ((RC2.out.kp qk (Nat.le_refl _)).more qk.size); have OC3 := Lib.hid (own_fr OC2.out (Fr.of_kp qk (fun _ => False)) (fun _ _ h => h)); have RD3 := Lib.hid ((RD2.out.kp qk (Nat.le_refl _)).more qk.size); have BL3 := Lib.hid (BL2.out.trans (qk.1.mono (Nat.le_of_lt hs2))); clear qk))
  have FS : Fr w3 (w3.setCell ⟨w.heap.size, 2, none⟩ (.int .i64 262143)) (fun k => k = w.heap.size) := (Fr.refl w3 (fun k => k = w.heap.size)).setCell (p := ⟨w.heap.size, 2, none⟩) (.inr rfl) _
  have BKS : Hid (Blk (w3.setCell ⟨w.heap.size, 2, none⟩ (.int .i64 262143)) (w.heap.size) 25 [.bool true, .int .i64 c.pe, .int .i64 262143, .int .i64 c.mo, .int .i64 c.e, .int .i64 c.b, .int .i64 c.t, .bool c.g, .int .u64 c.a]) := Lib.hid (BK3.out.set_ 2 (.int .i64 262143))
  have hsS : w.heap.size < (w3.setCell ⟨w.heap.size, 2, none⟩ (.int .i64 262143)).heap.size := BKS.out.lt
  have BLS : Hid (Below (w.heap.size) w (w3.setCell ⟨w.heap.size, 2, none⟩ (.int .i64 262143))) := Lib.hid (BL3.out.setCell (Nat.le_refl _) _)
  have RDS : Hid (Rd (w3.setCell ⟨w.heap.size, 2, none⟩ (.int .i64 262143)) (w3.setCell ⟨w.heap.size, 2, none⟩ (.int .i64 262143)).heap.size A l) := Lib.hid ((HH.out.keep fun p hp => BLS.out.cell hp).more BLS.out.size)
  have OCS := Lib.hid (own_fr OC3.out FS (fun g hg e => by have := (OC3.out.lt g hg).1; omega))
  clear FS
  obtain ⟨_, _, _, _, _, _, _, _, _⟩ := BKS.out.at_.out9
  go_wp2_with (go_at_call 40; (with_reducible refine (HT2.out _ RDS.out).mono ?_); rintro e' w5 ⟨rfl, qk⟩; have BK5 := Lib.hid (BKS.out.fr (Fr.of_kp qk (fun _ => False)) id); obtain ⟨_, _, _, _, _, _, _, _, _⟩ := BK5.out.at_.out9; have hs5 := BK5.out.lt; have OC5 := Lib.hid (own_fr OCS.out (Fr.of_kp qk (fun _ => False)) (fun _ _ h => h)); have BL5 := Lib.hid (BLS.out.trans (qk.1.mono (by first | exact Nat.le_of_lt hsS | simp))); clear qk)
  go_ret
  exact ⟨rfl, BL5.out⟩
set_option maxHeartbeats 2000000 in
set_option maxRecDepth 100000 in
theorem rhas_4 (l : List Cp) (A : Option Addr) (n : Nat) (c : Cp) (hL : ∀ c ∈ l, RC c) (hl : l.length ≤ 1000) (hc : RC c) (al an px m2 : Bool) (e1 : (clo l).any (fun b => lessB (uns c) b) = al) (e2 : (clo l).any (fun b => canD b 128 c.ty) = an) (e3 : hasP c.pe 2 = px) (e4 : decide (uns c ∈ l) = m2) (ht : c.tg = true) (hm : decide (c ∈ l) = false) (hw : c.sealed = true ∧ c.ty = 262142 ∧ px = true ∧ m2 = false) (w : World) (h : Rd w w.heap.size A l) :
    Calls Try.prog 19 #[.slice A l.length n, .agg #[.bool true, .int .i64 c.pe, .int .i64 c.ty, .int .i64 c.mo, .int .i64 c.e, .int .i64 c.b, .int .i64 c.t, .bool c.g, .int .u64 c.a]] w fun e w' => e = .returned (.bool al) ∧ Below w.heap.size w w' := by
  have hcl : (clo l).length ≤ 2000 := by have := clo_len l; omega
  have hca := clo_all l hL
  have hpx := hasP_two c.pe 1 (by omega) hc.p0 hc.p1 2 (by decide)
  have p0 := hc.p0
  have p1 := hc.p1
  have HT1 : Hid (∀ w1 : World, Rd w1 w1.heap.size A l → Calls Try.prog 40 #[.slice A l.length n, .agg #[.bool true, .int .i64 c.pe, .int .i64 c.ty, .int .i64 c.mo, .int .i64 c.e, .int .i64 c.b, .int .i64 c.t, .bool c.g, .int .u64 c.a]] w1 fun e' w' => e' = .returned (.bool false) ∧ Kp w1 w') := Lib.hid (fun w1 h1 => by have := there_v l A n c w1 h1 (by omega) false hm; rw [ht] at this; exact this)
  have HT2 : Hid (∀ w1 : World, Rd w1 w1.heap.size A l → Calls Try.prog 40 #[.slice A l.length n, .agg #[.bool true, .int .i64 c.pe, .int .i64 262143, .int .i64 c.mo, .int .i64 c.e, .int .i64 c.b, .int .i64 c.t, .bool c.g, .int .u64 c.a]] w1 fun e' w' => e' = .returned (.bool m2) ∧ Kp w1 w') := Lib.hid (fun w1 h1 => by have := there_v l A n (uns c) w1 h1 (by omega) m2 e4; rw [show (uns c).tg = true from ht] at this; exact this)
  have HCL := Lib.hid (fun w1 h1 => rclo_w l A n hL hl w1 h1)
  have HSE : Hid (∀ w1 : World, Calls Try.prog 43 #[.agg #[.bool true, .int .i64 c.pe, .int .i64 c.ty, .int .i64 c.mo, .int .i64 c.e, .int .i64 c.b, .int .i64 c.t, .bool c.g, .int .u64 c.a]] w1 fun e' w' => e' = .returned (.bool true) ∧ Kp w1 w') := Lib.hid (fun w1 => by have := rsealed_w c true hw.1 w1; rw [ht] at this; exact this)
  have HWI : Hid (c.ty ≤ 262135 → ∀ (A' : Option Addr) (cap : Nat) (w1 : World), Rd w1 w1.heap.size A' (clo l) → Calls Try.prog 41 #[.slice A' (clo l).length cap, .int .i64 128, .int .i64 c.ty] w1 fun e' w' => e' = .returned (.bool an) ∧ Kp w1 w') := Lib.hid (fun hy A' cap w1 h1 => by
    have := with128_w (clo l) A' cap c.ty (fun d hd => (hca d hd).1) hc.y0 hy w1 h1 (by omega)
    rw [key_with (clo l) hca, e2] at this; exact this)
  have HLE : Hid (∀ b ∈ clo l, ∀ w1 : World, Calls Try.prog 17 #[.agg #[.bool true, .int .i64 c.pe, .int .i64 262143, .int .i64 c.mo, .int .i64 c.e, .int .i64 c.b, .int .i64 c.t, .bool c.g, .int .u64 c.a], .agg #[.bool b.tg, .int .i64 b.pe, .int .i64 b.ty, .int .i64 b.mo, .int .i64 b.e, .int .i64 b.b, .int .i64 b.t, .bool b.g, .int .u64 b.a]] w1 fun e' w' => e' = .returned (.bool (lessB (uns c) b)) ∧ Kp w1 w') := Lib.hid (fun b hb w1 => by have := rless_w (uns c) b hc.uns (hca b hb).1 _ rfl w1; rw [show (uns c).tg = true from ht] at this; exact this)
  have HE1 := Lib.hid e1
  have HH := Lib.hid h
  have BK0 : Hid (Blk (w.alloc (.cells #[.bool true, .int .i64 c.pe, .int .i64 c.ty, .int .i64 c.mo, .int .i64 c.e, .int .i64 c.b, .int .i64 c.t, .bool c.g, .int .u64 c.a] 25)) (w.heap.size) 25 [.bool true, .int .i64 c.pe, .int .i64 c.ty, .int .i64 c.mo, .int .i64 c.e, .int .i64 c.b, .int .i64 c.t, .bool c.g, .int .u64 c.a]) := Lib.hid (Blk.new w 25 [.bool true, .int .i64 c.pe, .int .i64 c.ty, .int .i64 c.mo, .int .i64 c.e, .int .i64 c.b, .int .i64 c.t, .bool c.g, .int .u64 c.a])
  have RD0 : Hid (Rd (w.alloc (.cells #[.bool true, .int .i64 c.pe, .int .i64 c.ty, .int .i64 c.mo, .int .i64 c.e, .int .i64 c.b, .int .i64 c.t, .bool c.g, .int .u64 c.a] 25)) (w.alloc (.cells #[.bool true, .int .i64 c.pe, .int .i64 c.ty, .int .i64 c.mo, .int .i64 c.e, .int .i64 c.b, .int .i64 c.t, .bool c.g, .int .u64 c.a] 25)).heap.size A l) := Lib.hid ((h.alloc (Nat.le_refl _) _).more (by simp))
  have BL0 : Hid (Below (w.heap.size) w (w.alloc (.cells #[.bool true, .int .i64 c.pe, .int .i64 c.ty, .int .i64 c.mo, .int .i64 c.e, .int .i64 c.b, .int .i64 c.t, .bool c.g, .int .u64 c.a] 25))) := Lib.hid ((Below.refl _ _).alloc (Nat.le_refl _) _)
  have f1 : (c.ty == 262142) = true := by simpa using hw.2.1
  have f2 : (c.pe / 2 % 2 == 0) = false := by have := hw.2.2.1; rw [← e3, hpx] at this; simp at this ⊢; omega
  have f3 : (c.ty != 262142) = false := by simpa using hw.2.1
  have f4 : 262135 < c.ty := by have := hw.2.1; omega
  obtain rfl := hw.2.2.2
  clear h hL hc e1 e2 e3 e4 ht hm hw hpx hca HWI
  go_enter Try.func19, Try.ntmps19
  go_upto_region 10 with (first
    | (go_at_call 40; (with_reducible refine (HT1.out _ RD0.out).mono ?_); rintro e' w1 ⟨rfl, qk⟩; have BK1 := Lib.hid (BK0.out.fr (Fr.of_kp qk (fun _ => False)) id); obtain ⟨_, _, _, _, _, _, _, _, _⟩ := BK1.out.at_.out9; have hs1 := BK1.out.lt; have RD1 := Lib.hid ((RD0.out.kp qk (Nat.le_refl _)).more qk.size); have BL1 := Lib.hid (BL0.out.trans (qk.1.mono (by simp))); clear qk)
    | (go_at_call 14; (with_reducible refine (HCL.out _ RD1.out).mono ?_); rintro e' w2 ⟨A', cap, rfl, ho2, hr2, hb2⟩; have OC2 := Lib.hid ho2; have BK2 := Lib.hid (BK1.out.below hb2 hs1); obtain ⟨_, _, _, _, _, _, _, _, _⟩ := BK2.out.at_.out9; have hs2 := BK2.out.lt; have RC2 := Lib.hid hr2; have RD2 := Lib.hid ((RD1.out.keep fun p hp => hb2.cell hp).more hb2.size); have BL2 := Lib.hid (BL1.out.trans (hb2.mono (Nat.le_of_lt hs1))); clear ho2 hr2 hb2)
    | (go_at_call 43; (with_reducible refine (HSE.out _).mono ?_); rintro e' w3 ⟨rfl, qk⟩; have BK3 := Lib.hid (BK2.out.fr (Fr.of_kp qk (fun _ => False)) id); obtain ⟨_, _, _, _, _, _, _, _, _⟩ := BK3.out.at_.out9; have zf3 := BK3.out.frozen 2; have hs3 := BK3.out.lt; have RC3 := Lib.hid ((RC2.out.kp qk (Nat.le_refl _)).more qk.size); have OC3 := Lib.hid (own_fr OC2.out (Fr.of_kp qk (fun _ => False)) (fun _ _ h => h)); have RD3 := Lib.hid ((RD2.out.kp qk (Nat.le_refl _)).more qk.size); have BL3 := Lib.hid (BL2.out.trans (qk.1.mono (Nat.le_of_lt hs2))); clear qk))
  have FS : Fr w3 (w3.setCell ⟨w.heap.size, 2, none⟩ (.int .i64 262143)) (fun k => k = w.heap.size) := (Fr.refl w3 (fun k => k = w.heap.size)).setCell (p := ⟨w.heap.size, 2, none⟩) (.inr rfl) _
  have BKS : Hid (Blk (w3.setCell ⟨w.heap.size, 2, none⟩ (.int .i64 262143)) (w.heap.size) 25 [.bool true, .int .i64 c.pe, .int .i64 262143, .int .i64 c.mo, .int .i64 c.e, .int .i64 c.b, .int .i64 c.t, .bool c.g, .int .u64 c.a]) := Lib.hid (BK3.out.set_ 2 (.int .i64 262143))
  have hsS : w.heap.size < (w3.setCell ⟨w.heap.size, 2, none⟩ (.int .i64 262143)).heap.size := BKS.out.lt
  have BLS : Hid (Below (w.heap.size) w (w3.setCell ⟨w.heap.size, 2, none⟩ (.int .i64 262143))) := Lib.hid (BL3.out.setCell (Nat.le_refl _) _)
  have RDS : Hid (Rd (w3.setCell ⟨w.heap.size, 2, none⟩ (.int .i64 262143)) (w3.setCell ⟨w.heap.size, 2, none⟩ (.int .i64 262143)).heap.size A l) := Lib.hid ((HH.out.keep fun p hp => BLS.out.cell hp).more BLS.out.size)
  have OCS := Lib.hid (own_fr OC3.out FS (fun g hg e => by have := (OC3.out.lt g hg).1; omega))
  clear FS
  obtain ⟨_, _, _, _, _, _, _, _, _⟩ := BKS.out.at_.out9
  go_wp2_with (go_at_call 40; (with_reducible refine (HT2.out _ RDS.out).mono ?_); rintro e' w5 ⟨rfl, qk⟩; have BK5 := Lib.hid (BKS.out.fr (Fr.of_kp qk (fun _ => False)) id); obtain ⟨_, _, _, _, _, _, _, _, _⟩ := BK5.out.at_.out9; have hs5 := BK5.out.lt; have OC5 := Lib.hid (own_fr OCS.out (Fr.of_kp qk (fun _ => False)) (fun _ _ h => h)); have BL5 := Lib.hid (BLS.out.trans (qk.1.mono (by first | exact Nat.le_of_lt hsS | simp))); clear qk)
  go_loopw [6] (fun i wr => ∃ k : Nat, k ≤ (clo l).length ∧ i = .int .i64 k ∧ (∀ b ∈ (clo l).take k, lessB (uns c) b = false) ∧ Blk wr (w.heap.size) 25 [.bool true, .int .i64 c.pe, .int .i64 262143, .int .i64 c.mo, .int .i64 c.e, .int .i64 c.b, .int .i64 c.t, .bool c.g, .int .u64 c.a] ∧ OwnC wr w1.heap.size (.slice A' (clo l).length cap) (clo l) ∧ Below (w.heap.size) w wr) (fun i _ => (clo l).length - (intOf i).toNat)
  case atStart => exact ⟨0, Nat.zero_le _, rfl, by simp, BK5.out, OC5.out, BL5.out⟩
  case round =>
    obtain ⟨k, hk, rfl, hx, hbk, hoc, hbl⟩ := hrel
    have HX := Lib.hid hx
    have HB := Lib.hid hbk
    have HO := Lib.hid hoc
    have HL2 := Lib.hid hbl
    clear hx hbk hoc hbl
    obtain ⟨_, _, _, _, _, _, _, _, _⟩ := HB.out.at_.out9
    by_cases hlt : k < (clo l).length
    · obtain ⟨A2, cap2, ev, _, hr2, -⟩ := HO.out.rd
      cases ev
      obtain ⟨bb, oo, rfl, hbb, b, hb, hr⟩ := hr2.at_ hlt
      obtain ⟨r0, r1, r2, r3, r4, r5, r6, r7, r8⟩ := hr.out
      have HBM := Lib.hid hb
      have HC := Lib.hid (HLE.out b (List.mem_of_getElem? hb))
      obtain ⟨lv, hlv⟩ : ∃ lv, lessB (uns c) b = lv := ⟨_, rfl⟩
      rw [hlv] at HC
      have HLV := Lib.hid hlv
      clear hlv hb hr hr2
      cases lv
      all_goals
        go_upto_region 15 with fail
        refine wp_region_still_tail 5 (by kernel_rfl) (by kernel_rfl) ?_
        simp only [List.take_succ_cons, List.take_zero, List.drop_succ_cons, List.drop_zero]
        repeat still_step
        refine wpStill_nil ?_
        change wpList _ _ _ _ _ wr.drew
        go_wp2_with (go_at_call 17; (with_reducible refine (HC.out _).mono ?_); rintro e' w6 ⟨rfl, qk⟩; have K6 := Lib.hid (((Kp.refl wr).drew).trans qk); clear qk)
      · go_roundw
        case rel => exact ⟨k + 1, by omega, by go_num, by
          rw [List.take_add_one, HBM.out]; intro d hd; rcases List.mem_append.1 hd with hd | hd
          · exact HX.out d hd
          · have : d = b := by simpa using hd
            subst this; exact HLV.out, HB.out.fr (Fr.of_kp K6.out (fun _ => False)) id, own_fr HO.out (Fr.of_kp K6.out (fun _ => False)) (fun _ _ h => h), HL2.out.trans (K6.out.1.mono HL2.out.size)⟩
        case measure => simp [intOf]; omega
      · go_ret
        exact ⟨ret_bool (by rw [← HE1.out, eq_comm, List.any_eq_true]; exact ⟨b, List.mem_of_getElem? HBM.out, HLV.out⟩), HL2.out.trans (K6.out.1.mono HL2.out.size)⟩
    · go_wp2
      go_ret
      exact ⟨ret_bool (by
        have e : (clo l).take k = clo l := List.take_of_length_le (by omega)
        rw [e] at HX
        rw [← HE1.out, eq_comm, List.any_eq_false]; intro x hx; rw [HX.out x hx]; decide), HL2.out⟩
set_option maxHeartbeats 2000000 in
set_option maxRecDepth 100000 in
theorem rhas_5 (l : List Cp) (A : Option Addr) (n : Nat) (c : Cp) (hL : ∀ c ∈ l, RC c) (hl : l.length ≤ 1000) (hc : RC c) (al an px m2 : Bool) (e1 : (clo l).any (fun b => lessB (uns c) b) = al) (e2 : (clo l).any (fun b => canD b 128 c.ty) = an) (e3 : hasP c.pe 2 = px) (e4 : decide (uns c ∈ l) = m2) (ht : c.tg = true) (hm : decide (c ∈ l) = false) (hw : c.sealed = true ∧ c.ty ≤ 262135 ∧ an = false) (w : World) (h : Rd w w.heap.size A l) :
    Calls Try.prog 19 #[.slice A l.length n, .agg #[.bool true, .int .i64 c.pe, .int .i64 c.ty, .int .i64 c.mo, .int .i64 c.e, .int .i64 c.b, .int .i64 c.t, .bool c.g, .int .u64 c.a]] w fun e w' => e = .returned (.bool false) ∧ Below w.heap.size w w' := by
  have hcl : (clo l).length ≤ 2000 := by have := clo_len l; omega
  have hca := clo_all l hL
  have hpx := hasP_two c.pe 1 (by omega) hc.p0 hc.p1 2 (by decide)
  have p0 := hc.p0
  have p1 := hc.p1
  have HT1 : Hid (∀ w1 : World, Rd w1 w1.heap.size A l → Calls Try.prog 40 #[.slice A l.length n, .agg #[.bool true, .int .i64 c.pe, .int .i64 c.ty, .int .i64 c.mo, .int .i64 c.e, .int .i64 c.b, .int .i64 c.t, .bool c.g, .int .u64 c.a]] w1 fun e' w' => e' = .returned (.bool false) ∧ Kp w1 w') := Lib.hid (fun w1 h1 => by have := there_v l A n c w1 h1 (by omega) false hm; rw [ht] at this; exact this)
  have HT2 : Hid (∀ w1 : World, Rd w1 w1.heap.size A l → Calls Try.prog 40 #[.slice A l.length n, .agg #[.bool true, .int .i64 c.pe, .int .i64 262143, .int .i64 c.mo, .int .i64 c.e, .int .i64 c.b, .int .i64 c.t, .bool c.g, .int .u64 c.a]] w1 fun e' w' => e' = .returned (.bool m2) ∧ Kp w1 w') := Lib.hid (fun w1 h1 => by have := there_v l A n (uns c) w1 h1 (by omega) m2 e4; rw [show (uns c).tg = true from ht] at this; exact this)
  have HCL := Lib.hid (fun w1 h1 => rclo_w l A n hL hl w1 h1)
  have HSE : Hid (∀ w1 : World, Calls Try.prog 43 #[.agg #[.bool true, .int .i64 c.pe, .int .i64 c.ty, .int .i64 c.mo, .int .i64 c.e, .int .i64 c.b, .int .i64 c.t, .bool c.g, .int .u64 c.a]] w1 fun e' w' => e' = .returned (.bool true) ∧ Kp w1 w') := Lib.hid (fun w1 => by have := rsealed_w c true hw.1 w1; rw [ht] at this; exact this)
  have HWI : Hid (c.ty ≤ 262135 → ∀ (A' : Option Addr) (cap : Nat) (w1 : World), Rd w1 w1.heap.size A' (clo l) → Calls Try.prog 41 #[.slice A' (clo l).length cap, .int .i64 128, .int .i64 c.ty] w1 fun e' w' => e' = .returned (.bool an) ∧ Kp w1 w') := Lib.hid (fun hy A' cap w1 h1 => by
    have := with128_w (clo l) A' cap c.ty (fun d hd => (hca d hd).1) hc.y0 hy w1 h1 (by omega)
    rw [key_with (clo l) hca, e2] at this; exact this)
  have HLE : Hid (∀ b ∈ clo l, ∀ w1 : World, Calls Try.prog 17 #[.agg #[.bool true, .int .i64 c.pe, .int .i64 262143, .int .i64 c.mo, .int .i64 c.e, .int .i64 c.b, .int .i64 c.t, .bool c.g, .int .u64 c.a], .agg #[.bool b.tg, .int .i64 b.pe, .int .i64 b.ty, .int .i64 b.mo, .int .i64 b.e, .int .i64 b.b, .int .i64 b.t, .bool b.g, .int .u64 b.a]] w1 fun e' w' => e' = .returned (.bool (lessB (uns c) b)) ∧ Kp w1 w') := Lib.hid (fun b hb w1 => by have := rless_w (uns c) b hc.uns (hca b hb).1 _ rfl w1; rw [show (uns c).tg = true from ht] at this; exact this)
  have HE1 := Lib.hid e1
  have HH := Lib.hid h
  have BK0 : Hid (Blk (w.alloc (.cells #[.bool true, .int .i64 c.pe, .int .i64 c.ty, .int .i64 c.mo, .int .i64 c.e, .int .i64 c.b, .int .i64 c.t, .bool c.g, .int .u64 c.a] 25)) (w.heap.size) 25 [.bool true, .int .i64 c.pe, .int .i64 c.ty, .int .i64 c.mo, .int .i64 c.e, .int .i64 c.b, .int .i64 c.t, .bool c.g, .int .u64 c.a]) := Lib.hid (Blk.new w 25 [.bool true, .int .i64 c.pe, .int .i64 c.ty, .int .i64 c.mo, .int .i64 c.e, .int .i64 c.b, .int .i64 c.t, .bool c.g, .int .u64 c.a])
  have RD0 : Hid (Rd (w.alloc (.cells #[.bool true, .int .i64 c.pe, .int .i64 c.ty, .int .i64 c.mo, .int .i64 c.e, .int .i64 c.b, .int .i64 c.t, .bool c.g, .int .u64 c.a] 25)) (w.alloc (.cells #[.bool true, .int .i64 c.pe, .int .i64 c.ty, .int .i64 c.mo, .int .i64 c.e, .int .i64 c.b, .int .i64 c.t, .bool c.g, .int .u64 c.a] 25)).heap.size A l) := Lib.hid ((h.alloc (Nat.le_refl _) _).more (by simp))
  have BL0 : Hid (Below (w.heap.size) w (w.alloc (.cells #[.bool true, .int .i64 c.pe, .int .i64 c.ty, .int .i64 c.mo, .int .i64 c.e, .int .i64 c.b, .int .i64 c.t, .bool c.g, .int .u64 c.a] 25))) := Lib.hid ((Below.refl _ _).alloc (Nat.le_refl _) _)
  have f4 : c.ty ≤ 262135 := hw.2.1
  have f1 : (c.ty == 262142) = false := by simp; omega
  obtain rfl := hw.2.2
  have HWJ := Lib.hid (HWI.out f4)
  clear h hL hc e1 e2 e3 e4 ht hm hw hpx hca HWI
  go_enter Try.func19, Try.ntmps19
  go_wp2_with (first
    | (go_at_call 40; (with_reducible refine (HT1.out _ RD0.out).mono ?_); rintro e' w1 ⟨rfl, qk⟩; have BK1 := Lib.hid (BK0.out.fr (Fr.of_kp qk (fun _ => False)) id); obtain ⟨_, _, _, _, _, _, _, _, _⟩ := BK1.out.at_.out9; have hs1 := BK1.out.lt; have RD1 := Lib.hid ((RD0.out.kp qk (Nat.le_refl _)).more qk.size); have BL1 := Lib.hid (BL0.out.trans (qk.1.mono (by simp))); clear qk)
    | (go_at_call 14; (with_reducible refine (HCL.out _ RD1.out).mono ?_); rintro e' w2 ⟨A', cap, rfl, ho2, hr2, hb2⟩; have OC2 := Lib.hid ho2; have BK2 := Lib.hid (BK1.out.below hb2 hs1); obtain ⟨_, _, _, _, _, _, _, _, _⟩ := BK2.out.at_.out9; have hs2 := BK2.out.lt; have RC2 := Lib.hid hr2; have RD2 := Lib.hid ((RD1.out.keep fun p hp => hb2.cell hp).more hb2.size); have BL2 := Lib.hid (BL1.out.trans (hb2.mono (Nat.le_of_lt hs1))); clear ho2 hr2 hb2)
    | (go_at_call 43; (with_reducible refine (HSE.out _).mono ?_); rintro e' w3 ⟨rfl, qk⟩; have BK3 := Lib.hid (BK2.out.fr (Fr.of_kp qk (fun _ => False)) id); obtain ⟨_, _, _, _, _, _, _, _, _⟩ := BK3.out.at_.out9; have zf3 := BK3.out.frozen 2; have hs3 := BK3.out.lt; have RC3 := Lib.hid ((RC2.out.kp qk (Nat.le_refl _)).more qk.size); have OC3 := Lib.hid (own_fr OC2.out (Fr.of_kp qk (fun _ => False)) (fun _ _ h => h)); have RD3 := Lib.hid ((RD2.out.kp qk (Nat.le_refl _)).more qk.size); have BL3 := Lib.hid (BL2.out.trans (qk.1.mono (Nat.le_of_lt hs2))); clear qk)
    | (go_at_call 41; (with_reducible refine (HWJ.out _ _ _ RC3.out).mono ?_); rintro e' w4 ⟨rfl, qk⟩; have BK4 := Lib.hid (BK3.out.fr (Fr.of_kp qk (fun _ => False)) id); obtain ⟨_, _, _, _, _, _, _, _, _⟩ := BK4.out.at_.out9; have zf4 := BK4.out.frozen 2; have hs4 := BK4.out.lt; have RC4 := Lib.hid ((RC3.out.kp qk (Nat.le_refl _)).more qk.size); have OC4 := Lib.hid (own_fr OC3.out (Fr.of_kp qk (fun _ => False)) (fun _ _ h => h)); have RD4 := Lib.hid ((RD3.out.kp qk (Nat.le_refl _)).more qk.size); have BL4 := Lib.hid (BL3.out.trans (qk.1.mono (Nat.le_of_lt hs3))); clear qk))
  go_ret
  exact ⟨rfl, BL4.out⟩
set_option maxHeartbeats 2000000 in
set_option maxRecDepth 100000 in
theorem rhas_6 (l : List Cp) (A : Option Addr) (n : Nat) (c : Cp) (hL : ∀ c ∈ l, RC c) (hl : l.length ≤ 1000) (hc : RC c) (al an px m2 : Bool) (e1 : (clo l).any (fun b => lessB (uns c) b) = al) (e2 : (clo l).any (fun b => canD b 128 c.ty) = an) (e3 : hasP c.pe 2 = px) (e4 : decide (uns c ∈ l) = m2) (ht : c.tg = true) (hm : decide (c ∈ l) = false) (hw : c.sealed = true ∧ c.ty ≤ 262135 ∧ an = true ∧ m2 = true) (w : World) (h : Rd w w.heap.size A l) :
    Calls Try.prog 19 #[.slice A l.length n, .agg #[.bool true, .int .i64 c.pe, .int .i64 c.ty, .int .i64 c.mo, .int .i64 c.e, .int .i64 c.b, .int .i64 c.t, .bool c.g, .int .u64 c.a]] w fun e w' => e = .returned (.bool true) ∧ Below w.heap.size w w' := by
  have hcl : (clo l).length ≤ 2000 := by have := clo_len l; omega
  have hca := clo_all l hL
  have hpx := hasP_two c.pe 1 (by omega) hc.p0 hc.p1 2 (by decide)
  have p0 := hc.p0
  have p1 := hc.p1
  have HT1 : Hid (∀ w1 : World, Rd w1 w1.heap.size A l → Calls Try.prog 40 #[.slice A l.length n, .agg #[.bool true, .int .i64 c.pe, .int .i64 c.ty, .int .i64 c.mo, .int .i64 c.e, .int .i64 c.b, .int .i64 c.t, .bool c.g, .int .u64 c.a]] w1 fun e' w' => e' = .returned (.bool false) ∧ Kp w1 w') := Lib.hid (fun w1 h1 => by have := there_v l A n c w1 h1 (by omega) false hm; rw [ht] at this; exact this)
  have HT2 : Hid (∀ w1 : World, Rd w1 w1.heap.size A l → Calls Try.prog 40 #[.slice A l.length n, .agg #[.bool true, .int .i64 c.pe, .int .i64 262143, .int .i64 c.mo, .int .i64 c.e, .int .i64 c.b, .int .i64 c.t, .bool c.g, .int .u64 c.a]] w1 fun e' w' => e' = .returned (.bool m2) ∧ Kp w1 w') := Lib.hid (fun w1 h1 => by have := there_v l A n (uns c) w1 h1 (by omega) m2 e4; rw [show (uns c).tg = true from ht] at this; exact this)
  have HCL := Lib.hid (fun w1 h1 => rclo_w l A n hL hl w1 h1)
  have HSE : Hid (∀ w1 : World, Calls Try.prog 43 #[.agg #[.bool true, .int .i64 c.pe, .int .i64 c.ty, .int .i64 c.mo, .int .i64 c.e, .int .i64 c.b, .int .i64 c.t, .bool c.g, .int .u64 c.a]] w1 fun e' w' => e' = .returned (.bool true) ∧ Kp w1 w') := Lib.hid (fun w1 => by have := rsealed_w c true hw.1 w1; rw [ht] at this; exact this)
  have HWI : Hid (c.ty ≤ 262135 → ∀ (A' : Option Addr) (cap : Nat) (w1 : World), Rd w1 w1.heap.size A' (clo l) → Calls Try.prog 41 #[.slice A' (clo l).length cap, .int .i64 128, .int .i64 c.ty] w1 fun e' w' => e' = .returned (.bool an) ∧ Kp w1 w') := Lib.hid (fun hy A' cap w1 h1 => by
    have := with128_w (clo l) A' cap c.ty (fun d hd => (hca d hd).1) hc.y0 hy w1 h1 (by omega)
    rw [key_with (clo l) hca, e2] at this; exact this)
  have HLE : Hid (∀ b ∈ clo l, ∀ w1 : World, Calls Try.prog 17 #[.agg #[.bool true, .int .i64 c.pe, .int .i64 262143, .int .i64 c.mo, .int .i64 c.e, .int .i64 c.b, .int .i64 c.t, .bool c.g, .int .u64 c.a], .agg #[.bool b.tg, .int .i64 b.pe, .int .i64 b.ty, .int .i64 b.mo, .int .i64 b.e, .int .i64 b.b, .int .i64 b.t, .bool b.g, .int .u64 b.a]] w1 fun e' w' => e' = .returned (.bool (lessB (uns c) b)) ∧ Kp w1 w') := Lib.hid (fun b hb w1 => by have := rless_w (uns c) b hc.uns (hca b hb).1 _ rfl w1; rw [show (uns c).tg = true from ht] at this; exact this)
  have HE1 := Lib.hid e1
  have HH := Lib.hid h
  have BK0 : Hid (Blk (w.alloc (.cells #[.bool true, .int .i64 c.pe, .int .i64 c.ty, .int .i64 c.mo, .int .i64 c.e, .int .i64 c.b, .int .i64 c.t, .bool c.g, .int .u64 c.a] 25)) (w.heap.size) 25 [.bool true, .int .i64 c.pe, .int .i64 c.ty, .int .i64 c.mo, .int .i64 c.e, .int .i64 c.b, .int .i64 c.t, .bool c.g, .int .u64 c.a]) := Lib.hid (Blk.new w 25 [.bool true, .int .i64 c.pe, .int .i64 c.ty, .int .i64 c.mo, .int .i64 c.e, .int .i64 c.b, .int .i64 c.t, .bool c.g, .int .u64 c.a])
  have RD0 : Hid (Rd (w.alloc (.cells #[.bool true, .int .i64 c.pe, .int .i64 c.ty, .int .i64 c.mo, .int .i64 c.e, .int .i64 c.b, .int .i64 c.t, .bool c.g, .int .u64 c.a] 25)) (w.alloc (.cells #[.bool true, .int .i64 c.pe, .int .i64 c.ty, .int .i64 c.mo, .int .i64 c.e, .int .i64 c.b, .int .i64 c.t, .bool c.g, .int .u64 c.a] 25)).heap.size A l) := Lib.hid ((h.alloc (Nat.le_refl _) _).more (by simp))
  have BL0 : Hid (Below (w.heap.size) w (w.alloc (.cells #[.bool true, .int .i64 c.pe, .int .i64 c.ty, .int .i64 c.mo, .int .i64 c.e, .int .i64 c.b, .int .i64 c.t, .bool c.g, .int .u64 c.a] 25))) := Lib.hid ((Below.refl _ _).alloc (Nat.le_refl _) _)
  have f4 : c.ty ≤ 262135 := hw.2.1
  have f1 : (c.ty == 262142) = false := by simp; omega
  obtain rfl := hw.2.2.1
  obtain rfl := hw.2.2.2
  have HWJ := Lib.hid (HWI.out f4)
  clear h hL hc e1 e2 e3 e4 ht hm hw hpx hca HWI
  go_enter Try.func19, Try.ntmps19
  go_upto_region 10 with (first
    | (go_at_call 40; (with_reducible refine (HT1.out _ RD0.out).mono ?_); rintro e' w1 ⟨rfl, qk⟩; have BK1 := Lib.hid (BK0.out.fr (Fr.of_kp qk (fun _ => False)) id); obtain ⟨_, _, _, _, _, _, _, _, _⟩ := BK1.out.at_.out9; have hs1 := BK1.out.lt; have RD1 := Lib.hid ((RD0.out.kp qk (Nat.le_refl _)).more qk.size); have BL1 := Lib.hid (BL0.out.trans (qk.1.mono (by simp))); clear qk)
    | (go_at_call 14; (with_reducible refine (HCL.out _ RD1.out).mono ?_); rintro e' w2 ⟨A', cap, rfl, ho2, hr2, hb2⟩; have OC2 := Lib.hid ho2; have BK2 := Lib.hid (BK1.out.below hb2 hs1); obtain ⟨_, _, _, _, _, _, _, _, _⟩ := BK2.out.at_.out9; have hs2 := BK2.out.lt; have RC2 := Lib.hid hr2; have RD2 := Lib.hid ((RD1.out.keep fun p hp => hb2.cell hp).more hb2.size); have BL2 := Lib.hid (BL1.out.trans (hb2.mono (Nat.le_of_lt hs1))); clear ho2 hr2 hb2)
    | (go_at_call 43; (with_reducible refine (HSE.out _).mono ?_); rintro e' w3 ⟨rfl, qk⟩; have BK3 := Lib.hid (BK2.out.fr (Fr.of_kp qk (fun _ => False)) id); obtain ⟨_, _, _, _, _, _, _, _, _⟩ := BK3.out.at_.out9; have zf3 := BK3.out.frozen 2; have hs3 := BK3.out.lt; have RC3 := Lib.hid ((RC2.out.kp qk (Nat.le_refl _)).more qk.size); have OC3 := Lib.hid (own_fr OC2.out (Fr.of_kp qk (fun _ => False)) (fun _ _ h => h)); have RD3 := Lib.hid ((RD2.out.kp qk (Nat.le_refl _)).more qk.size); have BL3 := Lib.hid (BL2.out.trans (qk.1.mono (Nat.le_of_lt hs2))); clear qk)
    | (go_at_call 41; (with_reducible refine (HWJ.out _ _ _ RC3.out).mono ?_); rintro e' w4 ⟨rfl, qk⟩; have BK4 := Lib.hid (BK3.out.fr (Fr.of_kp qk (fun _ => False)) id); obtain ⟨_, _, _, _, _, _, _, _, _⟩ := BK4.out.at_.out9; have zf4 := BK4.out.frozen 2; have hs4 := BK4.out.lt; have RC4 := Lib.hid ((RC3.out.kp qk (Nat.le_refl _)).more qk.size); have OC4 := Lib.hid (own_fr OC3.out (Fr.of_kp qk (fun _ => False)) (fun _ _ h => h)); have RD4 := Lib.hid ((RD3.out.kp qk (Nat.le_refl _)).more qk.size); have BL4 := Lib.hid (BL3.out.trans (qk.1.mono (Nat.le_of_lt hs3))); clear qk))
  have FS : Fr w4 (w4.setCell ⟨w.heap.size, 2, none⟩ (.int .i64 262143)) (fun k => k = w.heap.size) := (Fr.refl w4 (fun k => k = w.heap.size)).setCell (p := ⟨w.heap.size, 2, none⟩) (.inr rfl) _
  have BKS : Hid (Blk (w4.setCell ⟨w.heap.size, 2, none⟩ (.int .i64 262143)) (w.heap.size) 25 [.bool true, .int .i64 c.pe, .int .i64 262143, .int .i64 c.mo, .int .i64 c.e, .int .i64 c.b, .int .i64 c.t, .bool c.g, .int .u64 c.a]) := Lib.hid (BK4.out.set_ 2 (.int .i64 262143))
  have hsS : w.heap.size < (w4.setCell ⟨w.heap.size, 2, none⟩ (.int .i64 262143)).heap.size := BKS.out.lt
  have BLS : Hid (Below (w.heap.size) w (w4.setCell ⟨w.heap.size, 2, none⟩ (.int .i64 262143))) := Lib.hid (BL4.out.setCell (Nat.le_refl _) _)
  have RDS : Hid (Rd (w4.setCell ⟨w.heap.size, 2, none⟩ (.int .i64 262143)) (w4.setCell ⟨w.heap.size, 2, none⟩ (.int .i64 262143)).heap.size A l) := Lib.hid ((HH.out.keep fun p hp => BLS.out.cell hp).more BLS.out.size)
  have OCS := Lib.hid (own_fr OC4.out FS (fun g hg e => by have := (OC4.out.lt g hg).1; omega))
  clear FS
  obtain ⟨_, _, _, _, _, _, _, _, _⟩ := BKS.out.at_.out9
  go_wp2_with (go_at_call 40; (with_reducible refine (HT2.out _ RDS.out).mono ?_); rintro e' w5 ⟨rfl, qk⟩; have BK5 := Lib.hid (BKS.out.fr (Fr.of_kp qk (fun _ => False)) id); obtain ⟨_, _, _, _, _, _, _, _, _⟩ := BK5.out.at_.out9; have hs5 := BK5.out.lt; have OC5 := Lib.hid (own_fr OCS.out (Fr.of_kp qk (fun _ => False)) (fun _ _ h => h)); have BL5 := Lib.hid (BLS.out.trans (qk.1.mono (by first | exact Nat.le_of_lt hsS | simp))); clear qk)
  go_ret
  exact ⟨rfl, BL5.out⟩
set_option maxHeartbeats 2000000 in
set_option maxRecDepth 100000 in
theorem rhas_7 (l : List Cp) (A : Option Addr) (n : Nat) (c : Cp) (hL : ∀ c ∈ l, RC c) (hl : l.length ≤ 1000) (hc : RC c) (al an px m2 : Bool) (e1 : (clo l).any (fun b => lessB (uns c) b) = al) (e2 : (clo l).any (fun b => canD b 128 c.ty) = an) (e3 : hasP c.pe 2 = px) (e4 : decide (uns c ∈ l) = m2) (ht : c.tg = true) (hm : decide (c ∈ l) = false) (hw : c.sealed = true ∧ c.ty ≤ 262135 ∧ an = true ∧ m2 = false) (w : World) (h : Rd w w.heap.size A l) :
    Calls Try.prog 19 #[.slice A l.length n, .agg #[.bool true, .int .i64 c.pe, .int .i64 c.ty, .int .i64 c.mo, .int .i64 c.e, .int .i64 c.b, .int .i64 c.t, .bool c.g, .int .u64 c.a]] w fun e w' => e = .returned (.bool al) ∧ Below w.heap.size w w' := by
  have hcl : (clo l).length ≤ 2000 := by have := clo_len l; omega
  have hca := clo_all l hL
  have hpx := hasP_two c.pe 1 (by omega) hc.p0 hc.p1 2 (by decide)
  have p0 := hc.p0
  have p1 := hc.p1
  have HT1 : Hid (∀ w1 : World, Rd w1 w1.heap.size A l → Calls Try.prog 40 #[.slice A l.length n, .agg #[.bool true, .int .i64 c.pe, .int .i64 c.ty, .int .i64 c.mo, .int .i64 c.e, .int .i64 c.b, .int .i64 c.t, .bool c.g, .int .u64 c.a]] w1 fun e' w' => e' = .returned (.bool false) ∧ Kp w1 w') := Lib.hid (fun w1 h1 => by have := there_v l A n c w1 h1 (by omega) false hm; rw [ht] at this; exact this)
  have HT2 : Hid (∀ w1 : World, Rd w1 w1.heap.size A l → Calls Try.prog 40 #[.slice A l.length n, .agg #[.bool true, .int .i64 c.pe, .int .i64 262143, .int .i64 c.mo, .int .i64 c.e, .int .i64 c.b, .int .i64 c.t, .bool c.g, .int .u64 c.a]] w1 fun e' w' => e' = .returned (.bool m2) ∧ Kp w1 w') := Lib.hid (fun w1 h1 => by have := there_v l A n (uns c) w1 h1 (by omega) m2 e4; rw [show (uns c).tg = true from ht] at this; exact this)
  have HCL := Lib.hid (fun w1 h1 => rclo_w l A n hL hl w1 h1)
  have HSE : Hid (∀ w1 : World, Calls Try.prog 43 #[.agg #[.bool true, .int .i64 c.pe, .int .i64 c.ty, .int .i64 c.mo, .int .i64 c.e, .int .i64 c.b, .int .i64 c.t, .bool c.g, .int .u64 c.a]] w1 fun e' w' => e' = .returned (.bool true) ∧ Kp w1 w') := Lib.hid (fun w1 => by have := rsealed_w c true hw.1 w1; rw [ht] at this; exact this)
  have HWI : Hid (c.ty ≤ 262135 → ∀ (A' : Option Addr) (cap : Nat) (w1 : World), Rd w1 w1.heap.size A' (clo l) → Calls Try.prog 41 #[.slice A' (clo l).length cap, .int .i64 128, .int .i64 c.ty] w1 fun e' w' => e' = .returned (.bool an) ∧ Kp w1 w') := Lib.hid (fun hy A' cap w1 h1 => by
    have := with128_w (clo l) A' cap c.ty (fun d hd => (hca d hd).1) hc.y0 hy w1 h1 (by omega)
    rw [key_with (clo l) hca, e2] at this; exact this)
  have HLE : Hid (∀ b ∈ clo l, ∀ w1 : World, Calls Try.prog 17 #[.agg #[.bool true, .int .i64 c.pe, .int .i64 262143, .int .i64 c.mo, .int .i64 c.e, .int .i64 c.b, .int .i64 c.t, .bool c.g, .int .u64 c.a], .agg #[.bool b.tg, .int .i64 b.pe, .int .i64 b.ty, .int .i64 b.mo, .int .i64 b.e, .int .i64 b.b, .int .i64 b.t, .bool b.g, .int .u64 b.a]] w1 fun e' w' => e' = .returned (.bool (lessB (uns c) b)) ∧ Kp w1 w') := Lib.hid (fun b hb w1 => by have := rless_w (uns c) b hc.uns (hca b hb).1 _ rfl w1; rw [show (uns c).tg = true from ht] at this; exact this)
  have HE1 := Lib.hid e1
  have HH := Lib.hid h
  have BK0 : Hid (Blk (w.alloc (.cells #[.bool true, .int .i64 c.pe, .int .i64 c.ty, .int .i64 c.mo, .int .i64 c.e, .int .i64 c.b, .int .i64 c.t, .bool c.g, .int .u64 c.a] 25)) (w.heap.size) 25 [.bool true, .int .i64 c.pe, .int .i64 c.ty, .int .i64 c.mo, .int .i64 c.e, .int .i64 c.b, .int .i64 c.t, .bool c.g, .int .u64 c.a]) := Lib.hid (Blk.new w 25 [.bool true, .int .i64 c.pe, .int .i64 c.ty, .int .i64 c.mo, .int .i64 c.e, .int .i64 c.b, .int .i64 c.t, .bool c.g, .int .u64 c.a])
  have RD0 : Hid (Rd (w.alloc (.cells #[.bool true, .int .i64 c.pe, .int .i64 c.ty, .int .i64 c.mo, .int .i64 c.e, .int .i64 c.b, .int .i64 c.t, .bool c.g, .int .u64 c.a] 25)) (w.alloc (.cells #[.bool true, .int .i64 c.pe, .int .i64 c.ty, .int .i64 c.mo, .int .i64 c.e, .int .i64 c.b, .int .i64 c.t, .bool c.g, .int .u64 c.a] 25)).heap.size A l) := Lib.hid ((h.alloc (Nat.le_refl _) _).more (by simp))
  have BL0 : Hid (Below (w.heap.size) w (w.alloc (.cells #[.bool true, .int .i64 c.pe, .int .i64 c.ty, .int .i64 c.mo, .int .i64 c.e, .int .i64 c.b, .int .i64 c.t, .bool c.g, .int .u64 c.a] 25))) := Lib.hid ((Below.refl _ _).alloc (Nat.le_refl _) _)
  have f4 : c.ty ≤ 262135 := hw.2.1
  have f1 : (c.ty == 262142) = false := by simp; omega
  obtain rfl := hw.2.2.1
  obtain rfl := hw.2.2.2
  have HWJ := Lib.hid (HWI.out f4)
  clear h hL hc e1 e2 e3 e4 ht hm hw hpx hca HWI
  go_enter Try.func19, Try.ntmps19
  go_upto_region 10 with (first
    | (go_at_call 40; (with_reducible refine (HT1.out _ RD0.out).mono ?_); rintro e' w1 ⟨rfl, qk⟩; have BK1 := Lib.hid (BK0.out.fr (Fr.of_kp qk (fun _ => False)) id); obtain ⟨_, _, _, _, _, _, _, _, _⟩ := BK1.out.at_.out9; have hs1 := BK1.out.lt; have RD1 := Lib.hid ((RD0.out.kp qk (Nat.le_refl _)).more qk.size); have BL1 := Lib.hid (BL0.out.trans (qk.1.mono (by simp))); clear qk)
    | (go_at_call 14; (with_reducible refine (HCL.out _ RD1.out).mono ?_); rintro e' w2 ⟨A', cap, rfl, ho2, hr2, hb2⟩; have OC2 := Lib.hid ho2; have BK2 := Lib.hid (BK1.out.below hb2 hs1); obtain ⟨_, _, _, _, _, _, _, _, _⟩ := BK2.out.at_.out9; have hs2 := BK2.out.lt; have RC2 := Lib.hid hr2; have RD2 := Lib.hid ((RD1.out.keep fun p hp => hb2.cell hp).more hb2.size); have BL2 := Lib.hid (BL1.out.trans (hb2.mono (Nat.le_of_lt hs1))); clear ho2 hr2 hb2)
    | (go_at_call 43; (with_reducible refine (HSE.out _).mono ?_); rintro e' w3 ⟨rfl, qk⟩; have BK3 := Lib.hid (BK2.out.fr (Fr.of_kp qk (fun _ => False)) id); obtain ⟨_, _, _, _, _, _, _, _, _⟩ := BK3.out.at_.out9; have zf3 := BK3.out.frozen 2; have hs3 := BK3.out.lt; have RC3 := Lib.hid ((RC2.out.kp qk (Nat.le_refl _)).more qk.size); have OC3 := Lib.hid (own_fr OC2.out (Fr.of_kp qk (fun _ => False)) (fun _ _ h => h)); have RD3 := Lib.hid ((RD2.out.kp qk (Nat.le_refl _)).more qk.size); have BL3 := Lib.hid (BL2.out.trans (qk.1.mono (Nat.le_of_lt hs2))); clear qk)
    | (go_at_call 41; (with_reducible refine (HWJ.out _ _ _ RC3.out).mono ?_); rintro e' w4 ⟨rfl, qk⟩; have BK4 := Lib.hid (BK3.out.fr (Fr.of_kp qk (fun _ => False)) id); obtain ⟨_, _, _, _, _, _, _, _, _⟩ := BK4.out.at_.out9; have zf4 := BK4.out.frozen 2; have hs4 := BK4.out.lt; have RC4 := Lib.hid ((RC3.out.kp qk (Nat.le_refl _)).more qk.size); have OC4 := Lib.hid (own_fr OC3.out (Fr.of_kp qk (fun _ => False)) (fun _ _ h => h)); have RD4 := Lib.hid ((RD3.out.kp qk (Nat.le_refl _)).more qk.size); have BL4 := Lib.hid (BL3.out.trans (qk.1.mono (Nat.le_of_lt hs3))); clear qk))
  have FS : Fr w4 (w4.setCell ⟨w.heap.size, 2, none⟩ (.int .i64 262143)) (fun k => k = w.heap.size) := (Fr.refl w4 (fun k => k = w.heap.size)).setCell (p := ⟨w.heap.size, 2, none⟩) (.inr rfl) _
  have BKS : Hid (Blk (w4.setCell ⟨w.heap.size, 2, none⟩ (.int .i64 262143)) (w.heap.size) 25 [.bool true, .int .i64 c.pe, .int .i64 262143, .int .i64 c.mo, .int .i64 c.e, .int .i64 c.b, .int .i64 c.t, .bool c.g, .int .u64 c.a]) := Lib.hid (BK4.out.set_ 2 (.int .i64 262143))
  have hsS : w.heap.size < (w4.setCell ⟨w.heap.size, 2, none⟩ (.int .i64 262143)).heap.size := BKS.out.lt
  have BLS : Hid (Below (w.heap.size) w (w4.setCell ⟨w.heap.size, 2, none⟩ (.int .i64 262143))) := Lib.hid (BL4.out.setCell (Nat.le_refl _) _)
  have RDS : Hid (Rd (w4.setCell ⟨w.heap.size, 2, none⟩ (.int .i64 262143)) (w4.setCell ⟨w.heap.size, 2, none⟩ (.int .i64 262143)).heap.size A l) := Lib.hid ((HH.out.keep fun p hp => BLS.out.cell hp).more BLS.out.size)
  have OCS := Lib.hid (own_fr OC4.out FS (fun g hg e => by have := (OC4.out.lt g hg).1; omega))
  clear FS
  obtain ⟨_, _, _, _, _, _, _, _, _⟩ := BKS.out.at_.out9
  go_wp2_with (go_at_call 40; (with_reducible refine (HT2.out _ RDS.out).mono ?_); rintro e' w5 ⟨rfl, qk⟩; have BK5 := Lib.hid (BKS.out.fr (Fr.of_kp qk (fun _ => False)) id); obtain ⟨_, _, _, _, _, _, _, _, _⟩ := BK5.out.at_.out9; have hs5 := BK5.out.lt; have OC5 := Lib.hid (own_fr OCS.out (Fr.of_kp qk (fun _ => False)) (fun _ _ h => h)); have BL5 := Lib.hid (BLS.out.trans (qk.1.mono (by first | exact Nat.le_of_lt hsS | simp))); clear qk)
  go_loopw [6] (fun i wr => ∃ k : Nat, k ≤ (clo l).length ∧ i = .int .i64 k ∧ (∀ b ∈ (clo l).take k, lessB (uns c) b = false) ∧ Blk wr (w.heap.size) 25 [.bool true, .int .i64 c.pe, .int .i64 262143, .int .i64 c.mo, .int .i64 c.e, .int .i64 c.b, .int .i64 c.t, .bool c.g, .int .u64 c.a] ∧ OwnC wr w1.heap.size (.slice A' (clo l).length cap) (clo l) ∧ Below (w.heap.size) w wr) (fun i _ => (clo l).length - (intOf i).toNat)
  case atStart => exact ⟨0, Nat.zero_le _, rfl, by simp, BK5.out, OC5.out, BL5.out⟩
  case round =>
    obtain ⟨k, hk, rfl, hx, hbk, hoc, hbl⟩ := hrel
    have HX := Lib.hid hx
    have HB := Lib.hid hbk
    have HO := Lib.hid hoc
    have HL2 := Lib.hid hbl
    clear hx hbk hoc hbl
    obtain ⟨_, _, _, _, _, _, _, _, _⟩ := HB.out.at_.out9
    by_cases hlt : k < (clo l).length
    · obtain ⟨A2, cap2, ev, _, hr2, -⟩ := HO.out.rd
      cases ev
      obtain ⟨bb, oo, rfl, hbb, b, hb, hr⟩ := hr2.at_ hlt
      obtain ⟨r0, r1, r2, r3, r4, r5, r6, r7, r8⟩ := hr.out
      have HBM := Lib.hid hb
      have HC := Lib.hid (HLE.out b (List.mem_of_getElem? hb))
      obtain ⟨lv, hlv⟩ : ∃ lv, lessB (uns c) b = lv := ⟨_, rfl⟩
      rw [hlv] at HC
      have HLV := Lib.hid hlv
      clear hlv hb hr hr2
      cases lv
      all_goals
        go_upto_region 15 with fail
        refine wp_region_still_tail 5 (by kernel_rfl) (by kernel_rfl) ?_
        simp only [List.take_succ_cons, List.take_zero, List.drop_succ_cons, List.drop_zero]
        repeat still_step
        refine wpStill_nil ?_
        change wpList _ _ _ _ _ wr.drew
        go_wp2_with (go_at_call 17; (with_reducible refine (HC.out _).mono ?_); rintro e' w6 ⟨rfl, qk⟩; have K6 := Lib.hid (((Kp.refl wr).drew).trans qk); clear qk)
      · go_roundw
        case rel => exact ⟨k + 1, by omega, by go_num, by
          rw [List.take_add_one, HBM.out]; intro d hd; rcases List.mem_append.1 hd with hd | hd
          · exact HX.out d hd
          · have : d = b := by simpa using hd
            subst this; exact HLV.out, HB.out.fr (Fr.of_kp K6.out (fun _ => False)) id, own_fr HO.out (Fr.of_kp K6.out (fun _ => False)) (fun _ _ h => h), HL2.out.trans (K6.out.1.mono HL2.out.size)⟩
        case measure => simp [intOf]; omega
      · go_ret
        exact ⟨ret_bool (by rw [← HE1.out, eq_comm, List.any_eq_true]; exact ⟨b, List.mem_of_getElem? HBM.out, HLV.out⟩), HL2.out.trans (K6.out.1.mono HL2.out.size)⟩
    · go_wp2
      go_ret
      exact ⟨ret_bool (by
        have e : (clo l).take k = clo l := List.take_of_length_le (by omega)
        rw [e] at HX
        rw [← HE1.out, eq_comm, List.any_eq_false]; intro x hx; rw [HX.out x hx]; decide), HL2.out⟩
set_option maxHeartbeats 2000000 in
set_option maxRecDepth 100000 in
theorem rhas_f (l : List Cp) (A : Option Addr) (n : Nat) (c : Cp) (w : World) :
    Calls Try.prog 19 #[.slice A l.length n, .agg #[.bool false, .int .i64 c.pe, .int .i64 c.ty, .int .i64 c.mo, .int .i64 c.e, .int .i64 c.b, .int .i64 c.t, .bool c.g, .int .u64 c.a]] w fun e w' => e = .returned (.bool true) ∧ Below w.heap.size w w' := by
  go_enter Try.func19, Try.ntmps19
  go_wp2
  go_ret
  exact ⟨rfl, (Below.refl _ _).alloc (Nat.le_refl _) _⟩
set_option maxHeartbeats 2000000 in
set_option maxRecDepth 100000 in
theorem rhas_m (l : List Cp) (A : Option Addr) (n : Nat) (c : Cp) (hl : l.length ≤ 1000) (ht : c.tg = true) (hm : decide (c ∈ l) = true) (w : World) (h : Rd w w.heap.size A l) :
    Calls Try.prog 19 #[.slice A l.length n, .agg #[.bool true, .int .i64 c.pe, .int .i64 c.ty, .int .i64 c.mo, .int .i64 c.e, .int .i64 c.b, .int .i64 c.t, .bool c.g, .int .u64 c.a]] w fun e w' => e = .returned (.bool true) ∧ Below w.heap.size w w' := by
  have HT1 : Hid (∀ w1 : World, Rd w1 w1.heap.size A l → Calls Try.prog 40 #[.slice A l.length n, .agg #[.bool true, .int .i64 c.pe, .int .i64 c.ty, .int .i64 c.mo, .int .i64 c.e, .int .i64 c.b, .int .i64 c.t, .bool c.g, .int .u64 c.a]] w1 fun e' w' => e' = .returned (.bool true) ∧ Kp w1 w') := Lib.hid (fun w1 h1 => by have := there_v l A n c w1 h1 (by omega) true hm; rw [ht] at this; exact this)
  have RD0 : Hid (Rd (w.alloc (.cells #[.bool true, .int .i64 c.pe, .int .i64 c.ty, .int .i64 c.mo, .int .i64 c.e, .int .i64 c.b, .int .i64 c.t, .bool c.g, .int .u64 c.a] 25)) (w.alloc (.cells #[.bool true, .int .i64 c.pe, .int .i64 c.ty, .int .i64 c.mo, .int .i64 c.e, .int .i64 c.b, .int .i64 c.t, .bool c.g, .int .u64 c.a] 25)).heap.size A l) := Lib.hid ((h.alloc (Nat.le_refl _) _).more (by simp))
  have BL0 : Hid (Below (w.heap.size) w (w.alloc (.cells #[.bool true, .int .i64 c.pe, .int .i64 c.ty, .int .i64 c.mo, .int .i64 c.e, .int .i64 c.b, .int .i64 c.t, .bool c.g, .int .u64 c.a] 25))) := Lib.hid ((Below.refl _ _).alloc (Nat.le_refl _) _)
  clear h hm ht
  go_enter Try.func19, Try.ntmps19
  go_wp2_with (go_at_call 40; (with_reducible refine (HT1.out _ RD0.out).mono ?_); rintro e' w1 ⟨rfl, qk⟩; have BL1 := Lib.hid (BL0.out.trans (qk.1.mono (by simp))); clear qk)
  go_ret
  exact ⟨rfl, BL1.out⟩
theorem rhas_w (l : List Cp) (A : Option Addr) (n : Nat) (c : Cp) (hL : ∀ c ∈ l, RC c) (hl : l.length ≤ 1000) (hc : RC c) (v : Bool) (hv : hasB l c = v) (w : World) (h : Rd w w.heap.size A l) :
    Calls Try.prog 19 #[.slice A l.length n, .agg #[.bool c.tg, .int .i64 c.pe, .int .i64 c.ty, .int .i64 c.mo, .int .i64 c.e, .int .i64 c.b, .int .i64 c.t, .bool c.g, .int .u64 c.a]] w fun e w' => e = .returned (.bool v) ∧ Below w.heap.size w w' := by
  cases ht : c.tg
  · have e : v = true := by rw [← hv, hasB, ht]; rfl
    subst e; exact rhas_f l A n c w
  · cases hm : decide (c ∈ l)
    · rcases has_ways l c hL hc v hv _ _ _ _ rfl rfl rfl rfl ht hm with ⟨h1, e⟩ | ⟨h1, h2, h3, e⟩ | ⟨h1, h2, h3, e⟩ | ⟨h1, h2, h3, h4, e⟩ | ⟨h1, h2, h3, h4, e⟩ | ⟨h1, h2, h3, e⟩ | ⟨h1, h2, h3, h4, e⟩ | ⟨h1, h2, h3, h4, e⟩
      · rw [e]; exact rhas_0 l A n c hL hl hc _ _ _ _ rfl rfl rfl rfl ht hm h1 w h
      · rw [e]; exact rhas_1 l A n c hL hl hc _ _ _ _ rfl rfl rfl rfl ht hm ⟨h1, h2, h3⟩ w h
      · rw [e]; exact rhas_2 l A n c hL hl hc _ _ _ _ rfl rfl rfl rfl ht hm ⟨h1, h2, h3⟩ w h
      · rw [e]; exact rhas_3 l A n c hL hl hc _ _ _ _ rfl rfl rfl rfl ht hm ⟨h1, h2, h3, h4⟩ w h
      · rw [e]; exact rhas_4 l A n c hL hl hc _ _ _ _ rfl rfl rfl rfl ht hm ⟨h1, h2, h3, h4⟩ w h
      · rw [e]; exact rhas_5 l A n c hL hl hc _ _ _ _ rfl rfl rfl rfl ht hm ⟨h1, h2, h3⟩ w h
      · rw [e]; exact rhas_6 l A n c hL hl hc _ _ _ _ rfl rfl rfl rfl ht hm ⟨h1, h2, h3, h4⟩ w h
      · rw [e]; exact rhas_7 l A n c hL hl hc _ _ _ _ rfl rfl rfl rfl ht hm ⟨h1, h2, h3, h4⟩ w h
    · have e : v = true := by rw [← hv, hasB, hm]; simp
      subst e; exact rhas_m l A n c hl ht hm w h
end Go.Proofs.Ytmehbildddlgaaa
namespace Go.Proofs.Ytmehbildddlgaaa
open Go.ChangeShapes Go.WideShapes Go.ChangeAt Go.RowKit Go.Joins Go.Deep
set_option linter.unusedVariables false
set_option linter.unusedSimpArgs false
section
variable {H : Type} {enc : TypeId × Value → H} {w : World} {base : Nat} {spare : Nat → Bool} {held : Bool}
theorem open_flat9 {P : Program} {t : TypeId} {f0 f1 f2 f3 f4 f5 f6 f7 f8 : Field} (hs : P.underlying t = some (.struct #[f0, f1, f2, f3, f4, f5, f6, f7, f8])) (hone : oneCellFields P #[f0, f1, f2, f3, f4, f5, f6, f7, f8] = true) {fuel : Nat} {c0 c1 c2 c3 c4 c5 c6 c7 c8 : Value} {x : DataW H × List MemPlace} (h : DataW.trod enc P w base spare held fuel t [c0, c1, c2, c3, c4, c5, c6, c7, c8] = some x) :
    ∃ (n : Nat) (y0 y1 y2 y3 y4 y5 y6 y7 y8 : DataW H × List MemPlace), DataW.trod enc P w base spare held n f0.type [c0] = some y0 ∧ DataW.trod enc P w base spare held n f1.type [c1] = some y1 ∧ DataW.trod enc P w base spare held n f2.type [c2] = some y2 ∧ DataW.trod enc P w base spare held n f3.type [c3] = some y3 ∧ DataW.trod enc P w base spare held n f4.type [c4] = some y4 ∧ DataW.trod enc P w base spare held n f5.type [c5] = some y5 ∧ DataW.trod enc P w base spare held n f6.type [c6] = some y6 ∧ DataW.trod enc P w base spare held n f7.type [c7] = some y7 ∧ DataW.trod enc P w base spare held n f8.type [c8] = some y8 := by
  obtain ⟨xs, n, _, hx, _, hlen, hg⟩ := DataW.trod_struct hs h
  obtain ⟨o0, k0⟩ := hone_of hone 0 f0 rfl
  obtain ⟨o1, k1⟩ := hone_of hone 1 f1 rfl
  obtain ⟨o2, k2⟩ := hone_of hone 2 f2 rfl
  obtain ⟨o3, k3⟩ := hone_of hone 3 f3 rfl
  obtain ⟨o4, k4⟩ := hone_of hone 4 f4 rfl
  obtain ⟨o5, k5⟩ := hone_of hone 5 f5 rfl
  obtain ⟨o6, k6⟩ := hone_of hone 6 f6 rfl
  obtain ⟨o7, k7⟩ := hone_of hone 7 f7 rfl
  obtain ⟨o8, k8⟩ := hone_of hone 8 f8 rfl
  match xs, hlen with
  | [y0, y1, y2, y3, y4, y5, y6, y7, y8], _ =>
    exact ⟨n, y0, y1, y2, y3, y4, y5, y6, y7, y8, by simpa [o0, k0] using hg 0 f0 rfl, by simpa [o1, k1] using hg 1 f1 rfl, by simpa [o2, k2] using hg 2 f2 rfl, by simpa [o3, k3] using hg 3 f3 rfl, by simpa [o4, k4] using hg 4 f4 rfl, by simpa [o5, k5] using hg 5 f5 rfl, by simpa [o6, k6] using hg 6 f6 rfl, by simpa [o7, k7] using hg 7 f7 rfl, by simpa [o8, k8] using hg 8 f8 rfl⟩
theorem open_cells9 {fuel : Nat} {cs : List Value} {x : DataW H × List MemPlace} (hl : cs.length = 9) (h : DataW.trod enc Try.prog w base spare held fuel 25 cs = some x) :
    ∃ c : Cp, cs = c.vs ∧ Raw c := by
  match cs, hl with
  | [c0, c1, c2, c3, c4, c5, c6, c7, c8], _ =>
    obtain ⟨n, y0, y1, y2, y3, y4, y5, y6, y7, y8, h0, h1, h2, h3, h4, h5, h6, h7, h8⟩ := open_flat9 Try.underlying25 (by kernel_rfl) h
    obtain ⟨a0, e0, _⟩ := DataW.trod_bool Try.underlying4 h0
    obtain ⟨a1, e1, _, w1⟩ := DataW.trod_int Try.underlying3 h1
    obtain ⟨a2, e2, _, w2⟩ := DataW.trod_int Try.underlying3 h2
    obtain ⟨a3, e3, _, w3⟩ := DataW.trod_int Try.underlying3 h3
    obtain ⟨a4, e4, _, w4⟩ := DataW.trod_int Try.underlying3 h4
    obtain ⟨a5, e5, _, w5⟩ := DataW.trod_int Try.underlying3 h5
    obtain ⟨a6, e6, _, w6⟩ := DataW.trod_int Try.underlying3 h6
    obtain ⟨a7, e7, _⟩ := DataW.trod_bool Try.underlying4 h7
    obtain ⟨a8, e8, _, w8⟩ := DataW.trod_int Try.underlying23 h8
    simp at e0 e1 e2 e3 e4 e5 e6 e7 e8
    subst e0 e1 e2 e3 e4 e5 e6 e7 e8
    exact ⟨⟨a0, a1, a2, a3, a4, a5, a6, a7, a8⟩, rfl, ⟨(i64_bd w1).1, (i64_bd w1).2, (i64_bd w2).1, (i64_bd w2).2, (i64_bd w3).1, (i64_bd w3).2, (i64_bd w4).1, (i64_bd w4).2, (i64_bd w5).1, (i64_bd w5).2, (i64_bd w6).1, (i64_bd w6).2, (u64_bd w8).1, (u64_bd w8).2⟩⟩
end
instance : Inhabited Cp := ⟨⟨false, 0, 0, 0, 0, 0, 0, false, 0⟩⟩
set_option maxHeartbeats 2000000 in
set_option maxRecDepth 100000 in
theorem rightl_b (L : List Cp) (A : Option Addr) (n : Nat) (w : World) (h : Rd w w.heap.size A L) (hl : L.length ≤ 9223372036854775807) (hr : ∀ c ∈ L, Raw c) (v : Bool) (hv : rightL L = v) :
    Calls Try.prog 9 #[.slice A L.length n] w fun e' w' => e' = .returned (.bool v) ∧ Kp w w' := by
  have HR := Lib.hid h
  have HW := Lib.hid hr
  clear h hr
  go_enter Try.func9, Try.ntmps9
  go_wp2
  go_loopw [3] (fun i wr => ∃ k : Nat, k ≤ L.length ∧ i = .int .i64 k ∧ (∀ c ∈ L.take k, rightC c = true) ∧ Kp w wr) (fun i _ => L.length - (intOf i).toNat)
  case atStart => exact ⟨0, Nat.zero_le _, rfl, by simp, Kp.refl w⟩
  case round =>
    obtain ⟨k, hk, rfl, hx, hkp⟩ := hrel
    have HX := Lib.hid hx
    have HKP := Lib.hid hkp
    clear hx hkp
    by_cases hlt : k < L.length
    · obtain ⟨b, o, rfl, hb, c, hc, hr⟩ := (HR.out.kp HKP.out (Nat.le_refl _)).at_ hlt
      obtain ⟨r0, r1, r2, r3, r4, r5, r6, r7, r8⟩ := hr.out
      have HC := Lib.hid hc
      have HCW := Lib.hid (HW.out c (List.mem_of_getElem? hc))
      clear hc hr
      cases ev : rightC c
      all_goals
        have HV := Lib.hid ev
        clear ev
        go_wp2_with (first | (go_at_call 10; (with_reducible refine (right_c c HCW.out _ HV.out _).mono ?_); rintro e' w1 ⟨rfl, qk⟩; have HQ := Lib.hid (HKP.out.trans qk); clear qk))
      · go_ret
        exact ⟨ret_bool (by rw [← hv, eq_comm, rightL, Bool.and_eq_false_iff, List.all_eq_false]; exact .inl ⟨c, List.mem_of_getElem? HC.out, by rw [HV.out]; decide⟩), HQ.out⟩
      · go_roundw
        case rel => exact ⟨k + 1, by omega, by go_num, by
          rw [List.take_add_one, HC.out]; intro d hd; rcases List.mem_append.1 hd with hd | hd
          · exact HX.out d hd
          · have : d = c := by simpa using hd
            subst this; exact HV.out, HQ.out⟩
        case measure => simp [intOf]; omega
    · go_wp2
      go_ret
      exact ⟨ret_bool (by
        have e : L.take k = L := List.take_of_length_le (by omega)
        rw [e] at HX
        rw [← hv, rightL, List.all_eq_true.2 HX.out, Bool.true_and, Bool.eq_iff_iff]
        simp
        omega), HKP.out⟩
set_option maxRecDepth 100000 in
theorem open_caps {H : Type} {enc : TypeId × Value → H} {W : World} {base : Nat} {v : Value} {d : DataW H} {p : List MemPlace} (hv : Value.okWide Try.prog W .any base 22 v) (h : DataW.Trod enc Try.prog W 0 (fun _ => true) true 22 v d p) :
    ∃ (L : List Cp) (A : Option Addr) (n : Nat), v = .slice A L.length n ∧ Rd W W.heap.size A L ∧ (∀ c ∈ L, Raw c) ∧ L.length ≤ 9223372036854775807 := by
  obtain ⟨A, len, cap, rfl⟩ := okWide_slice Try.underlying22 hv
  obtain ⟨fuel, hf⟩ := h
  have hf' : DataW.trod enc Try.prog W 0 (fun _ => true) true fuel 22 [.slice A len cap] = some (d, p) := by simpa [Value.cells] using hf
  have hC : Try.prog.cellsOf 25 = 9 := by kernel_rfl
  rcases open_slice Try.underlying22 hf' with ⟨e, _⟩ | ⟨a, len', cap', m, n, D, Pl, e, _, hl, hm, hmm, _, hx⟩
  · simp at e
    obtain ⟨rfl, rfl, rfl⟩ := e
    exact ⟨[], none, 0, rfl, Rd.nil _ _ _, by simp, by simp⟩
  · simp at e
    obtain ⟨rfl, rfl, rfl⟩ := e
    have hmc : m = cap := by simpa using hmm
    subst hmc
    rw [hC] at hx
    have each : ∀ i, i < len → ∃ c : Cp, Raw c ∧ ∀ (j : Nat) (u : Value), c.vs[j]? = some u → W.cell? (a.add (i * 9 + j)) = some u := by
      intro i hi
      obtain ⟨cs, h1, h2⟩ := hx i (by omega)
      obtain ⟨_, hlen, hcell⟩ := World.cells?_some h1
      obtain ⟨c, rfl, hr⟩ := open_cells9 hlen h2
      refine ⟨c, hr, fun j u hj => ?_⟩
      have hj9 : j < 9 := by have := (List.getElem?_eq_some_iff.1 hj).1; rwa [Cp.vs_len] at this
      have := hcell j hj9
      rw [add_add] at this
      rw [this, hj]
    obtain ⟨q, hq⟩ := choose_lt each
    have hat : ∀ (i : Nat) (c : Cp), ((List.range len).map q)[i]? = some c → i < len ∧ c = q i := by
      intro i c hi
      rw [List.getElem?_map] at hi
      by_cases h : i < len
      · rw [List.getElem?_range h] at hi
        simp at hi
        exact ⟨h, hi.symm⟩
      · rw [List.getElem?_eq_none (by simp; omega)] at hi; cases hi
    refine ⟨(List.range len).map q, some a, m, by simp, fun hn => ?_, ?_, ?_⟩
    · have h0 : 0 < len := by simpa using hn
      obtain ⟨b, off, spot⟩ := a
      have g0 := (hq 0 h0).2 0 _ rfl
      have hspot : spot = none := by simpa [Addr.add] using World.cell?_spot g0
      subst hspot
      refine ⟨b, off, rfl, ?_, fun i c hi j u hj => ?_⟩
      · have := World.block_lt_of_cell? W _ g0
        rw [Addr.add_lit] at this
        exact this
      · obtain ⟨hi', rfl⟩ := hat i c hi
        have := (hq i hi').2 j u hj
        rw [Addr.add_lit] at this
        rw [← this]; congr 2; omega
    · intro c hc
      obtain ⟨i, hi, rfl⟩ := List.mem_map.1 hc
      exact (hq i (List.mem_range.1 hi)).1
    · simp
      have : maxLen = 9223372036854775807 := rfl
      omega
section
variable {H : Type} {enc : TypeId × Value → H} {P : Program}
theorem post_below {f : Func} {s : ChangeSpec} {apart fresh handsOn again : Bool} {W W' : World} {args : Array Value} {v : Value} {ds gs : List (DataW H)} {before pa pv : List MemPlace}
    (hW : DataW.Whole enc P f.params.toList s.vars apart W args.toList ds gs before)
    (hres : ∀ (b : Nat) (sp : Nat → Bool) (hd : Bool), DataW.TrodAll enc P W' b sp hd f.resultTypes.toList (v.resultList f.resultTypes.size) (s.fn H (ds ++ gs)).results [])
    (hargs : ∀ sp : Nat → Bool, (∀ p ∈ before, sp p.block = true) → DataW.TrodAll enc P W' 0 sp true f.params.toList args.toList (s.fn H (ds ++ gs)).args pa)
    (hvars : ∀ sp : Nat → Bool, (∀ p ∈ before, sp p.block = true) → DataW.TrodVars enc P W' sp s.vars (s.fn H (ds ++ gs)).vars pv)
    (hps : before = pa ++ pv) (hb : Below W.heap.size W W')
    (hok : ∀ (j : Nat) (t : TypeId) (r : Value), f.resultTypes[j]? = some t → (v.resultList f.resultTypes.size)[j]? = some r → Value.okWide P W' .any 0 t r) :
    s.post enc P f apart fresh handsOn again W args v W' := by
  have hlt : ∀ p ∈ before, p.block < W.heap.size := fun p hp => hW.lt p hp
  have hold : ∀ p ∈ before, (fun b => decide (b < W.heap.size)) p.block = true := fun p hp => by simpa using hlt p hp
  have hfz : ∀ b off, b < W.heap.size → W'.frozen? ⟨b, off, none⟩ = W.frozen? ⟨b, off, none⟩ := fun b off h => World.frozen?_of_block (a := ⟨b, off, none⟩) (hb.block b h)
  refine ⟨ds, gs, before, [], pa, pv, hW, hres _ _ _, hargs _ hold, hvars _ hold, World.keptBut_mono (fun p hp => ⟨hp, ?_⟩) (hb.frame _), fun _ => ?_⟩
  · rw [hps, List.mem_append] at hp
    exact Or.inr hp
  · obtain ⟨_, _, _, _, _, hz, hn⟩ := hW
    refine ⟨hok, _, _, ([] ++ pa) ++ pv, ⟨[] ++ pa, pv, trodAll_append (hargs _ (fun _ _ => rfl)) (hres _ _ _), hvars _ (fun _ _ => rfl), rfl, ?_, ?_⟩, ?_⟩
    · intro b off hp
      have hm : MemPlace.cell b off ∈ before := by rw [hps]; simpa using hp
      exact (hfz b off (hlt _ hm)).trans (hz b off hm)
    · intro ha
      have := hn ha
      rw [hps] at this
      simpa using this
    · intro p hp _
      rw [hps]
      simpa using hp
end

/-- What the closure has, one by one. -/
inductive Der (l : List Cp) : Cp → Prop
  | base (x : Cp) : x ∈ l → x.tg = true → Der l x
  | sentry (y : Cp) : Der l y → y.ty = 262142 → Der l (uns y)
  | open_ (y k : Cp) : Der l y → Der l k → canD k 256 y.ty = true → Der l (uns y)
theorem Der.tg {l : List Cp} {x : Cp} (h : Der l x) : x.tg = true := by
  induction h with
  | base x _ h => exact h
  | sentry y _ _ ih => exact ih
  | open_ y k _ _ _ ih _ => exact ih
theorem Der.mono {l l' : List Cp} (hs : ∀ x ∈ l, x ∈ l') {x : Cp} (h : Der l x) : Der l' x := by
  induction h with
  | base x h1 h2 => exact .base x (hs x h1) h2
  | sentry y _ e ih => exact .sentry y ih e
  | open_ y k _ _ e ih1 ih2 => exact .open_ y k ih1 ih2 e
theorem opens_iff (out : List Cp) (c : Cp) : opensB out c = true ↔ c.ty = 262142 ∨ ∃ k ∈ out, canD k 256 c.ty = true := by
  unfold opensB keyB
  rw [Bool.or_eq_true, beq_iff_eq, List.any_eq_true]
theorem round_der (l bs out : List Cp) (hb : ∀ c ∈ bs, Der l c) (ho : ∀ x ∈ out, Der l x) : ∀ x ∈ roundC bs out, Der l x := by
  refine fold_inv stepC (fun out => ∀ x ∈ out, Der l x) bs out ho (fun o c hc hP => ?_)
  intro x hx
  unfold stepC at hx
  split at hx
  · rename_i hop
    rcases (mem_addC _ _ _).1 hx with hx | rfl
    · exact hP x hx
    · rcases (opens_iff o c).1 hop with e | ⟨k, hk, e⟩
      · exact .sentry c (hb c hc) e
      · exact .open_ c k (hb c hc) (hP k hk) e
  · exact hP x hx
theorem der_of_clo {l : List Cp} {x : Cp} (h : x ∈ clo l) : Der l x := by
  have hb : ∀ c ∈ baseL l, Der l c := fun c hc => by obtain ⟨h1, h2⟩ := (base_mem l c).1 hc; exact .base c h1 h2
  have key : ∀ n, ∀ x ∈ rounds (baseL l) n, Der l x := by
    intro n
    induction n with
    | zero => exact hb
    | succ n ih => exact round_der l _ _ hb ih
  exact key _ x h
theorem round_fix (bs out : List Cp) (h : roundC bs out = out) : ∀ c ∈ bs, stepC out c = out := by
  induction bs with
  | nil => simp
  | cons c bs ih =>
    have h' : roundC bs (stepC out c) = out := h
    obtain ⟨u, e, _⟩ := step_pre out c
    obtain ⟨u', e', _⟩ := fold_pre bs (stepC out c)
    have hu : u = [] := by
      rw [h', e, List.append_assoc] at e'
      have := congrArg List.length e'
      simp at this
      exact this.1
    rw [hu, List.append_nil] at e
    rw [e] at h'
    intro d hd
    rcases List.mem_cons.1 hd with rfl | hd
    · exact e
    · exact ih h' d hd
theorem clo_closed {l : List Cp} {y : Cp} (hy : y ∈ clo l) (ho : opensB (clo l) y = true) : uns y ∈ clo l := by
  rcases (clo_grown l).mem y hy with hb | ⟨hu, _⟩
  · have := round_fix _ _ (isClo_clo l).2 y hb
    unfold stepC at this
    rw [if_pos ho] at this
    unfold addC at this
    split at this
    · assumption
    · have := congrArg List.length this; simp at this
  · rw [opens_unsealed _ _ hu] at ho; cases ho
theorem clo_of_der {l : List Cp} {x : Cp} (h : Der l x) : x ∈ clo l := by
  induction h with
  | base x h1 h2 =>
    obtain ⟨⟨u, e, _⟩, _⟩ := clo_grown l
    rw [e]; exact List.mem_append.2 (.inl ((base_mem l x).2 ⟨h1, h2⟩))
  | sentry y _ e ih => exact clo_closed ih ((opens_iff _ _).2 (.inl e))
  | open_ y k _ _ e ih1 ih2 => exact clo_closed ih1 ((opens_iff _ _).2 (.inr ⟨k, ih2, e⟩))
theorem has_iff (l : List Cp) (c : Cp) : hasB l c = true ↔ c.tg = false ∨ c ∈ l ∨ ((∃ b ∈ clo l, lessB (uns c) b = true) ∧ (c.sealed = false ∨ (c.ty = 262142 ∧ hasP c.pe 2 = true) ∨ (c.ty ≠ 262142 ∧ ∃ b ∈ clo l, canD b 128 c.ty = true))) := by
  rw [hasB, Bool.or_eq_true, Bool.or_eq_true, Bool.and_eq_true, Bool.or_eq_true, List.any_eq_true, decide_eq_true_eq, Bool.not_eq_true', Bool.not_eq_true', or_assoc]
  have e : (if c.ty = 262142 then hasP c.pe 2 else (clo l).any (fun b => canD b 128 c.ty)) = true ↔ (c.ty = 262142 ∧ hasP c.pe 2 = true) ∨ (c.ty ≠ 262142 ∧ ∃ b ∈ clo l, canD b 128 c.ty = true) := by
    split
    · rename_i h; simp [h]
    · rename_i h; simp [h]
  rw [e]
theorem uns_self {c : Cp} (h : c.sealed = false) : uns c = c := by
  have e : c.ty = 262143 := by simpa [Cp.sealed, sealedB] using h
  unfold uns; rw [← e]
theorem uns_uns (c : Cp) : uns (uns c) = uns c := uns_self (uns_unsealed c)
theorem and_per (x p : Int) (p0 : 0 ≤ p) (p1 : p < 65536) : hasP x p = perB x p := by
  rw [hasP, Bool.eq_iff_iff, per_bits, beq_iff_eq, and_ub]
  have hp : ub (bv p) = p := ub_bv p (by omega) (by omega)
  constructor
  · intro h i hi hx
    have h2 : bv x &&& bv p = bv p := by rw [← bv_ub (bv x &&& bv p), h]
    have h3 : (bv x &&& bv p).getLsbD i = true := by rw [h2]; exact hx
    rw [BitVec.getLsbD_and, Bool.and_eq_true] at h3
    exact h3.1
  · intro h
    have h2 : bv x &&& bv p = bv p := by
      apply BitVec.eq_of_getLsbD_eq
      intro i hi
      rw [BitVec.getLsbD_and]
      cases hx : (bv p).getLsbD i
      · simp
      · rw [h i hi hx]; rfl
    rw [h2, hp]
theorem names_wi {b t : Int} {o : Bool} {c u : Int} {q : Bool} {k : Int} (h : withinB b t o c u q = true) (k1 : namesB b t o k = true) : namesB c u q k = true := by
  simp only [namesB, withinB, inB, ltB, Bool.and_eq_true, Bool.not_eq_true', decide_eq_true_eq, decide_eq_false_iff_not] at *
  omega
/-- What can be done by one can be done by a greater one. -/
theorem can_less {k b : Cp} {p t : Int} (p0 : 0 ≤ p) (p1 : p < 65536) (h : lessB k b = true) (c : canD k p t = true) : canD b p t = true := by
  obtain ⟨h1, h2, h3, h4, h5, h6⟩ := (less_iff k b).1 h
  simp only [canD, Bool.and_eq_true, Bool.not_eq_true'] at c ⊢
  obtain ⟨⟨_, c2⟩, c3⟩ := c
  rw [and_per _ _ p0 p1] at c2 ⊢
  exact ⟨⟨h3, per_trans _ _ _ h6 c2⟩, names_wi h5 c3⟩
/-- An unsealed one that comes of some is no more than one of the closure. -/
theorem has_cov {l : List Cp} {x : Cp} (ht : x.tg = true) (hs : x.sealed = false) (h : hasB l x = true) : ∃ b ∈ clo l, lessB x b = true := by
  rcases (has_iff l x).1 h with h | h | ⟨⟨b, hb, h⟩, _⟩
  · rw [ht] at h; cases h
  · exact ⟨x, clo_of_der (.base x h ht), by rw [less_refl, ht, hs]; rfl⟩
  · rw [uns_self hs] at h; exact ⟨b, hb, h⟩
theorem can_cov {l : List Cp} {x : Cp} {p t : Int} (p0 : 0 ≤ p) (p1 : p < 65536) (ht : x.tg = true) (h : hasB l x = true) (c : canD x p t = true) : ∃ b ∈ clo l, canD b p t = true := by
  have hs : x.sealed = false := by
    simp only [canD, Bool.and_eq_true, Bool.not_eq_true'] at c; exact c.1.1
  obtain ⟨b, hb, h⟩ := has_cov ht hs h
  exact ⟨b, hb, can_less p0 p1 h c⟩
theorem has_more {l l' : List Cp} (hs : ∀ x ∈ l, x ∈ l') {c : Cp} (h : hasB l c = true) : hasB l' c = true := by
  have sub : ∀ x ∈ clo l, x ∈ clo l' := fun x hx => clo_of_der ((der_of_clo hx).mono hs)
  rw [has_iff] at h ⊢
  rcases h with h | h | ⟨⟨b, hb, h1⟩, h2⟩
  · exact .inl h
  · exact .inr (.inl (hs c h))
  · refine .inr (.inr ⟨⟨b, sub b hb, h1⟩, ?_⟩)
    rcases h2 with h2 | h2 | ⟨h2, k, hk, h3⟩
    · exact .inl h2
    · exact .inr (.inl h2)
    · exact .inr (.inr ⟨h2, k, sub k hk, h3⟩)
/-- Opened: of one that comes of some, what it is without its seal, if something that comes of them opens it. -/
theorem has_open {l : List Cp} {y : Cp} (ht : y.tg = true) (h : hasB l y = true) (ho : y.ty = 262142 ∨ ∃ b ∈ clo l, canD b 256 y.ty = true) : hasB l (uns y) = true := by
  have tu : (uns y).tg = true := ht
  have su := uns_unsealed y
  rw [has_iff]
  right; right
  refine ⟨?_, .inl su⟩
  rw [uns_uns]
  rcases (has_iff l y).1 h with h | h | ⟨h, _⟩
  · rw [ht] at h; cases h
  · refine ⟨uns y, ?_, by rw [less_refl, tu, su]; rfl⟩
    exact clo_closed (clo_of_der (.base y h ht)) ((opens_iff _ _).2 ho)
  · exact h
theorem der_has {l m : List Cp} (hm : ∀ x ∈ m, x.tg = true → hasB l x = true) {x : Cp} (h : Der m x) : hasB l x = true := by
  induction h with
  | base x h1 h2 => exact hm x h1 h2
  | sentry y hy e ih => exact has_open hy.tg ih (.inl e)
  | open_ y k hy hk e ih1 ih2 =>
    exact has_open hy.tg ih1 (.inr (can_cov (by omega) (by omega) hk.tg ih2 e))
/-- What comes of some that all come of others comes of these. -/
theorem has_trans {l m : List Cp} (hm : ∀ x ∈ m, x.tg = true → hasB l x = true) {c : Cp} (h : hasB m c = true) : hasB l c = true := by
  cases ht : c.tg
  · rw [has_iff]; exact .inl ht
  · rcases (has_iff m c).1 h with h | h | ⟨⟨b, hb, h1⟩, h2⟩
    · rw [ht] at h; cases h
    · exact hm c h ht
    · have hbl := (less_iff _ _).1 h1
      obtain ⟨b', hb', h3⟩ := has_cov hbl.2.2.2.1 hbl.2.2.1 (der_has hm (der_of_clo hb))
      rw [has_iff]
      refine .inr (.inr ⟨⟨b', hb', less_trans h1 h3⟩, ?_⟩)
      rcases h2 with h2 | h2 | ⟨h2, k, hk, h4⟩
      · exact .inl h2
      · exact .inr (.inl h2)
      · obtain ⟨k', hk', h5⟩ := can_cov (by omega) (by omega) (der_of_clo hk).tg (der_has hm (der_of_clo hk)) h4
        exact .inr (.inr ⟨h2, k', hk', h5⟩)
theorem has_mem {l : List Cp} {c : Cp} (h : c ∈ l) : hasB l c = true := by rw [has_iff]; exact .inr (.inl h)
theorem has_again {l : List Cp} {d c : Cp} (hd : hasB l d = true) : hasB (l ++ [d]) c = hasB l c := by
  rw [Bool.eq_iff_iff]
  constructor
  · refine has_trans (fun x hx _ => ?_)
    rcases List.mem_append.1 hx with hx | hx
    · exact has_mem hx
    · have : x = d := by simpa using hx
      subst this; exact hd
  · exact has_more (fun x hx => List.mem_append.2 (.inl hx))
set_option maxHeartbeats 2000000 in
set_option maxRecDepth 100000 in
theorem copy_w (L : List Cp) (A : Option Addr) (n : Nat) (hl : L.length ≤ 1000) (w : World) (h : Rd w w.heap.size A L) :
    Calls Try.prog 24 #[.slice A L.length n] w fun e w' => ∃ v, e = .returned v ∧ OwnC w' w.heap.size v L ∧ Below w.heap.size w w' := by
  have HR := Lib.hid h
  clear h
  go_enter Try.func24, Try.ntmps24
  go_wp2
  go_loopw [3, 4] (fun s i wr => ∃ (k : Nat) (v : Value), k ≤ L.length ∧ i = .int .i64 k ∧ v = s ∧ OwnC wr w.heap.size v (L.take k) ∧ Below w.heap.size w wr) (fun _ i _ => L.length - (intOf i).toNat)
  case atStart => exact ⟨0, _, Nat.zero_le _, rfl, rfl, OwnC.nil _ _, Below.refl _ _⟩
  case round =>
    obtain ⟨k, v, hk, rfl, rfl, hown, hbl⟩ := hrel
    have hws : w.heap.size ≤ wr.heap.size := hbl.size
    have HO := Lib.hid hown
    have HB := Lib.hid hbl
    clear hown hbl
    by_cases hlt : k < L.length
    · obtain ⟨b, o, rfl, hb, c, hc, hr⟩ := (HR.out.keep (w' := wr) (fun p hp => HB.out.cell hp)).at_ hlt
      obtain ⟨r0, r1, r2, r3, r4, r5, r6, r7, r8⟩ := hr.out
      have hb' : b < wr.heap.size := by omega
      have hlen : (L.take k).length = k := by rw [List.length_take]; omega
      have HST : Hid (L.take (k + 1) = L.take k ++ [c]) := Lib.hid (by rw [List.take_add_one, hc]; rfl)
      clear hc hr
      go_wp2_with (first | (at_builtin; refine app_c rfl (.tmp 11) (.tmp 16) rfl w.heap.size _ (L.take k) rfl (own_fr HO.out ((Fr.refl wr (fun _ => False)).alloc _) (fun _ _ h => h)) ⟨wr.heap.size, 0, none⟩ 1 c rfl (World.news_of_block (heap_alloc_new wr _)) (by omega) (by simp; omega) (wr.heap.size + 1) (by simp) ?_; intro g cap' w2 hown2 hg2 hat2 hlt2; have HO2 := Lib.hid hown2; have HB2 := Lib.hid (below_grown (HB.out.alloc hws _) hg2 (by simp; omega) (own_fr HO.out ((Fr.refl wr (fun _ => False)).alloc _) (fun _ _ h => h))); clear hown2 hg2 hat2))
      go_roundw
      case rel => exact ⟨k + 1, _, by omega, by go_num, rfl, by have := HO2.out; rw [hlen] at this; rw [HST.out]; exact this, HB2.out⟩
      case measure => simp [intOf]; omega
    · go_wp2
      go_ret
      exact ⟨_, rfl, by have e0 : L.take k = L := List.take_of_length_le (by omega); rw [e0] at HO; exact HO.out, HB.out⟩
end Go.Proofs.Ytmehbildddlgaaa
namespace Go.Proofs.Ytmehbildddlgaaa
open Go.ChangeShapes Go.WideShapes Go.ChangeAt Go.RowKit Go.Maps
set_option linter.unusedVariables false
set_option linter.unusedSimpArgs false

theorem marks_take (k : Nat) (hk : k < 5) : marks.take (k + 1) = marks.take k ++ [markP (777 + (k : Int))] := by
  match k, hk with
  | 0, _ => rfl
  | 1, _ => rfl
  | 2, _ => rfl
  | 3, _ => rfl
  | 4, _ => rfl
set_option maxHeartbeats 4000000 in
set_option maxRecDepth 100000 in
theorem lent_w (L : List Cp) (A : Option Addr) (n : Nat) (hl : L.length ≤ 1000) (w : World) (h : Rd w w.heap.size A L) :
    Calls Try.prog 12 #[.slice A L.length n] w fun e w' => ∃ g cap, e = .returned (.slice (some ⟨g, 0, none⟩) (L.length + 5) cap) ∧ L.length + 5 ≤ cap ∧ OwnC w' w.heap.size (.slice (some ⟨g, 0, none⟩) (L.length + 5) cap) (L ++ marks) ∧ Rd w' w'.heap.size (some ⟨g, 0, none⟩) (L ++ marks) ∧ Below w.heap.size w w' := by
  have HC := Lib.hid (copy_w L A n hl w h)
  clear h
  go_enter Try.func12, Try.ntmps12
  go_wp2_with (first | (go_at_call 24; (with_reducible refine HC.out.mono ?_); rintro e' w1 ⟨v, rfl, ho, hb⟩; have HO1 := Lib.hid ho; have HB1 := Lib.hid hb; clear ho hb))
  go_loopw [3, 4] (fun s i wr => ∃ (k : Nat) (u : Value), k ≤ 5 ∧ i = .int .i64 k ∧ u = s ∧ OwnC wr w.heap.size u (L ++ marks.take k) ∧ Below w.heap.size w wr) (fun _ i _ => 5 - (intOf i).toNat)
  case atStart => exact ⟨0, _, by omega, rfl, rfl, by simpa using HO1.out, HB1.out⟩
  case round =>
    obtain ⟨k, u, hk, rfl, rfl, hown, hbl⟩ := hrel
    have hws : w.heap.size ≤ wr.heap.size := hbl.size
    have HO := Lib.hid hown
    have HB := Lib.hid hbl
    clear hown hbl
    by_cases hlt : k < 5
    · have hi : (k : Int) < 5 := by omega
      have hlen : (L ++ marks.take k).length = L.length + k := by simp [marks]; omega
      have HST := Lib.hid (marks_take k hlt)
      go_wp2_with (first
        | (go_at_call 34; (with_reducible refine (mark_w _ _ rfl (by omega) (by omega) _).mono ?_); rintro e' m1 ⟨rfl, qk⟩; have HOM := Lib.hid (own_fr HO.out (Fr.of_kp qk (fun _ => False)) (fun _ _ h => h)); have HBM := Lib.hid (HB.out.trans (qk.1.mono hws)); have hwm : w.heap.size ≤ m1.heap.size := (Nat.le_trans hws qk.size); clear qk)
        | (at_builtin; refine app_c rfl (.tmp 11) (.tmp 14) rfl w.heap.size _ (L ++ marks.take k) rfl (own_fr HOM.out ((Fr.refl m1 (fun _ => False)).alloc _) (fun _ _ h => h)) ⟨m1.heap.size, 0, none⟩ 1 (markP (777 + (k : Int))) rfl (World.news_of_block (heap_alloc_new m1 _)) (by omega) (by simp; omega) (m1.heap.size + 1) (by simp) ?_; intro g cap' w2 hown2 hg2 hat2 hlt2; have HO2 := Lib.hid hown2; have HB2 := Lib.hid (below_grown (HBM.out.alloc hwm _) hg2 (by simp; omega) (own_fr HOM.out ((Fr.refl m1 (fun _ => False)).alloc _) (fun _ _ h => h))); clear hown2 hg2 hat2))
      go_roundw
      case rel => exact ⟨k + 1, _, by omega, by go_num, rfl, by have := HO2.out; rw [hlen] at this; rw [HST.out, ← List.append_assoc]; exact this, HB2.out⟩
      case measure => simp [intOf]; omega
    · go_wp2
      go_ret
      have e5 : k = 5 := by omega
      subst e5
      have ho := HO.out
      have e : L ++ marks.take 5 = L ++ marks := rfl
      rw [e] at ho
      obtain ⟨A', cap, rfl, hc, hr, -⟩ := ho.rd
      obtain ⟨b, o, rfl, -, -⟩ := hr (by simp [marks])
      obtain ⟨-, ho0, -⟩ : _ ∧ o = 0 ∧ _ := by
        rcases ho.2 with ⟨hn, _⟩ | ⟨g, cap', cur, hv, _⟩
        · cases hn
        · simp only [Value.slice.injEq, Option.some.injEq, Addr.mk.injEq] at hv
          exact ⟨trivial, hv.1.2.1, trivial⟩
      subst ho0
      have hlen : (L ++ marks).length = L.length + 5 := by simp [marks]
      rw [hlen] at ho hc ⊢
      exact ⟨b, cap, rfl, hc, ho, hr, HB.out⟩
end Go.Proofs.Ytmehbildddlgaaa
namespace Go.Proofs.Ytmehbildddlgaaa
open Go.ChangeShapes Go.WideShapes Go.ChangeAt Go.RowKit Go.Maps
set_option linter.unusedVariables false
set_option linter.unusedSimpArgs false

theorem own_rd {w : World} {B : Nat} {A : Option Addr} {cap : Nat} {L : List Cp} (h : OwnC w B (.slice A L.length cap) L) : Rd w w.heap.size A L := by
  obtain ⟨A', cap', e, _, hr, -⟩ := h.rd
  cases e; exact hr
/-- A row of the call's own. -/
structure OwnA (w : World) (B : Nat) (v : Value) (L : List Cp) : Prop where
  own : OwnC w B v L
theorem OwnA.below {w w' : World} {B n : Nat} {v : Value} {L : List Cp} (h : OwnA w B v L) (k : Below n w w') (hn : w.heap.size ≤ n) : OwnA w' B v L :=
  ⟨own_fr h.own ((Fr.refl w (fun _ => False)).below k (fun i hi _ => Nat.lt_of_lt_of_le hi hn)) (fun _ _ h => h)⟩
theorem OwnA.drew {w : World} {B : Nat} {v : Value} {L : List Cp} (h : OwnA w B v L) : OwnA w.drew B v L := ⟨own_fr h.own ((Fr.refl w (fun _ => False)).drew) (fun _ _ h => h)⟩
/-- A world has so many blocks. -/
structure Sz (w : World) (k : Nat) : Prop where
  le : k ≤ w.heap.size
theorem Sz.below {w w' : World} {k n : Nat} (h : Sz w k) (q : Below n w w') (hn : w.heap.size ≤ n) : Sz w' k := ⟨Nat.le_trans h.le q.size⟩
theorem Rd.blk {w w' : World} {B B' g : Nat} {L : List Cp} (h : Rd w B (some ⟨g, 0, none⟩) L) (k : ∀ p : Addr, p.block = g → w'.cell? p = w.cell? p) (hg : g < B') : Rd w' B' (some ⟨g, 0, none⟩) L := fun hn => by
  obtain ⟨b, o, e, hb, hr⟩ := h hn
  cases e
  exact ⟨g, 0, rfl, hg, fun i c hi => (hr i c hi).keep k⟩
set_option maxHeartbeats 2000000 in
set_option maxRecDepth 100000 in
theorem tells_r1 (l : List Cp) (A : Option Addr) (n : Nat) (c d : Cp) (w : World) (h : Rd w w.heap.size A l) (hraw : ∀ x ∈ l, Raw x) (hlen : l.length ≤ 9223372036854775807) (rc : Raw c) (rd : Raw d) (hr1 : rightL l = false) :
    Calls Try.prog 3 #[.slice A l.length n, .agg #[.bool c.tg, .int .i64 c.pe, .int .i64 c.ty, .int .i64 c.mo, .int .i64 c.e, .int .i64 c.b, .int .i64 c.t, .bool c.g, .int .u64 c.a], .agg #[.bool d.tg, .int .i64 d.pe, .int .i64 d.ty, .int .i64 d.mo, .int .i64 d.e, .int .i64 d.b, .int .i64 d.t, .bool d.g, .int .u64 d.a]] w fun e' w' => e' = .returned (.bool true) ∧ Below w.heap.size w w' := by
  have HRL : Hid (∀ wx : World, Below w.heap.size w wx → Calls Try.prog 9 #[.slice A l.length n] wx fun e' w' => e' = .returned (.bool false) ∧ Kp wx w') := Lib.hid (fun wx hb => rightl_b l A n wx ((h.keep (w' := wx) fun p hp => hb.cell hp).more hb.size) hlen hraw false hr1)
  have C2 : At (w.heap.size) [.bool c.tg, .int .i64 c.pe, .int .i64 c.ty, .int .i64 c.mo, .int .i64 c.e, .int .i64 c.b, .int .i64 c.t, .bool c.g, .int .u64 c.a] ((w.alloc (.cells #[.bool c.tg, .int .i64 c.pe, .int .i64 c.ty, .int .i64 c.mo, .int .i64 c.e, .int .i64 c.b, .int .i64 c.t, .bool c.g, .int .u64 c.a] 25)).alloc (.cells #[.bool d.tg, .int .i64 d.pe, .int .i64 d.ty, .int .i64 d.mo, .int .i64 d.e, .int .i64 d.b, .int .i64 d.t, .bool d.g, .int .u64 d.a] 25)) := (At.new w [.bool c.tg, .int .i64 c.pe, .int .i64 c.ty, .int .i64 c.mo, .int .i64 c.e, .int .i64 c.b, .int .i64 c.t, .bool c.g, .int .u64 c.a] 25).alloc _
  have D2 : At (w.heap.size + 1) [.bool d.tg, .int .i64 d.pe, .int .i64 d.ty, .int .i64 d.mo, .int .i64 d.e, .int .i64 d.b, .int .i64 d.t, .bool d.g, .int .u64 d.a] ((w.alloc (.cells #[.bool c.tg, .int .i64 c.pe, .int .i64 c.ty, .int .i64 c.mo, .int .i64 c.e, .int .i64 c.b, .int .i64 c.t, .bool c.g, .int .u64 c.a] 25)).alloc (.cells #[.bool d.tg, .int .i64 d.pe, .int .i64 d.ty, .int .i64 d.mo, .int .i64 d.e, .int .i64 d.b, .int .i64 d.t, .bool d.g, .int .u64 d.a] 25)) := At.new' (w.alloc (.cells #[.bool c.tg, .int .i64 c.pe, .int .i64 c.ty, .int .i64 c.mo, .int .i64 c.e, .int .i64 c.b, .int .i64 c.t, .bool c.g, .int .u64 c.a] 25)) [.bool d.tg, .int .i64 d.pe, .int .i64 d.ty, .int .i64 d.mo, .int .i64 d.e, .int .i64 d.b, .int .i64 d.t, .bool d.g, .int .u64 d.a] 25 (by simp)
  have L2 : Bl w (w.heap.size + 1 + 1) ((w.alloc (.cells #[.bool c.tg, .int .i64 c.pe, .int .i64 c.ty, .int .i64 c.mo, .int .i64 c.e, .int .i64 c.b, .int .i64 c.t, .bool c.g, .int .u64 c.a] 25)).alloc (.cells #[.bool d.tg, .int .i64 d.pe, .int .i64 d.ty, .int .i64 d.mo, .int .i64 d.e, .int .i64 d.b, .int .i64 d.t, .bool d.g, .int .u64 d.a] 25)) := ⟨((Below.refl _ _).alloc (Nat.le_refl _) _).alloc (by simp) _, by omega, by simp⟩
  clear hraw rc rd
  go_enter Try.func3, Try.ntmps3
  go_upto_region 1 with fail
  generalize hw0 : ((w.alloc (.cells #[.bool c.tg, .int .i64 c.pe, .int .i64 c.ty, .int .i64 c.mo, .int .i64 c.e, .int .i64 c.b, .int .i64 c.t, .bool c.g, .int .u64 c.a] 25)).alloc (.cells #[.bool d.tg, .int .i64 d.pe, .int .i64 d.ty, .int .i64 d.mo, .int .i64 d.e, .int .i64 d.b, .int .i64 d.t, .bool d.g, .int .u64 d.a] 25)) = w0 at C2 D2 L2 ⊢
  clear hw0
  have le0 := L2.le
  obtain ⟨_, _, _, _, _, _, _, _, _⟩ := C2.out9
  obtain ⟨_, _, _, _, _, _, _, _, _⟩ := D2.out9
  have HC2 := Lib.hid C2
  have HD2 := Lib.hid D2
  have HL2 := Lib.hid L2
  clear C2 D2 L2
  go_wp2_with (first | (go_at_call 9; (with_reducible refine (HRL.out _ HL2.out.bl).mono ?_); rintro e' w1 ⟨rfl, qk⟩; have C3 := HC2.out.kp qk (by omega); have D3 := HD2.out.kp qk (by omega); have L3 := HL2.out.step qk.1; obtain ⟨_, _, _, _, _, _, _, _, _⟩ := C3.out9; obtain ⟨_, _, _, _, _, _, _, _, _⟩ := D3.out9; have le1 := L3.le; have HC3 := Lib.hid C3; have HD3 := Lib.hid D3; have HL3 := Lib.hid L3; clear qk C3 D3 L3) | (go_at_call 11; (with_reducible refine (works_w _).mono ?_); rintro e' wz ⟨rfl, hbz⟩; have BZ := Lib.hid (HL3.out.step hbz).bl; clear hbz))
  go_ret
  exact ⟨rfl, BZ.out⟩
set_option maxHeartbeats 2000000 in
set_option maxRecDepth 100000 in
theorem tells_r2 (l : List Cp) (A : Option Addr) (n : Nat) (c d : Cp) (w : World) (h : Rd w w.heap.size A l) (hraw : ∀ x ∈ l, Raw x) (hlen : l.length ≤ 9223372036854775807) (rc : Raw c) (rd : Raw d) (hr1 : rightL l = true) (hr2 : rightC c = false) :
    Calls Try.prog 3 #[.slice A l.length n, .agg #[.bool c.tg, .int .i64 c.pe, .int .i64 c.ty, .int .i64 c.mo, .int .i64 c.e, .int .i64 c.b, .int .i64 c.t, .bool c.g, .int .u64 c.a], .agg #[.bool d.tg, .int .i64 d.pe, .int .i64 d.ty, .int .i64 d.mo, .int .i64 d.e, .int .i64 d.b, .int .i64 d.t, .bool d.g, .int .u64 d.a]] w fun e' w' => e' = .returned (.bool true) ∧ Below w.heap.size w w' := by
  have HRL : Hid (∀ wx : World, Below w.heap.size w wx → Calls Try.prog 9 #[.slice A l.length n] wx fun e' w' => e' = .returned (.bool true) ∧ Kp wx w') := Lib.hid (fun wx hb => rightl_b l A n wx ((h.keep (w' := wx) fun p hp => hb.cell hp).more hb.size) hlen hraw true hr1)
  have HRC : Hid (∀ wx : World, Calls Try.prog 10 #[.agg #[.bool c.tg, .int .i64 c.pe, .int .i64 c.ty, .int .i64 c.mo, .int .i64 c.e, .int .i64 c.b, .int .i64 c.t, .bool c.g, .int .u64 c.a]] wx fun e' w' => e' = .returned (.bool false) ∧ Kp wx w') := Lib.hid (fun wx => right_c c rc false hr2 wx)
  have C2 : At (w.heap.size) [.bool c.tg, .int .i64 c.pe, .int .i64 c.ty, .int .i64 c.mo, .int .i64 c.e, .int .i64 c.b, .int .i64 c.t, .bool c.g, .int .u64 c.a] ((w.alloc (.cells #[.bool c.tg, .int .i64 c.pe, .int .i64 c.ty, .int .i64 c.mo, .int .i64 c.e, .int .i64 c.b, .int .i64 c.t, .bool c.g, .int .u64 c.a] 25)).alloc (.cells #[.bool d.tg, .int .i64 d.pe, .int .i64 d.ty, .int .i64 d.mo, .int .i64 d.e, .int .i64 d.b, .int .i64 d.t, .bool d.g, .int .u64 d.a] 25)) := (At.new w [.bool c.tg, .int .i64 c.pe, .int .i64 c.ty, .int .i64 c.mo, .int .i64 c.e, .int .i64 c.b, .int .i64 c.t, .bool c.g, .int .u64 c.a] 25).alloc _
  have D2 : At (w.heap.size + 1) [.bool d.tg, .int .i64 d.pe, .int .i64 d.ty, .int .i64 d.mo, .int .i64 d.e, .int .i64 d.b, .int .i64 d.t, .bool d.g, .int .u64 d.a] ((w.alloc (.cells #[.bool c.tg, .int .i64 c.pe, .int .i64 c.ty, .int .i64 c.mo, .int .i64 c.e, .int .i64 c.b, .int .i64 c.t, .bool c.g, .int .u64 c.a] 25)).alloc (.cells #[.bool d.tg, .int .i64 d.pe, .int .i64 d.ty, .int .i64 d.mo, .int .i64 d.e, .int .i64 d.b, .int .i64 d.t, .bool d.g, .int .u64 d.a] 25)) := At.new' (w.alloc (.cells #[.bool c.tg, .int .i64 c.pe, .int .i64 c.ty, .int .i64 c.mo, .int .i64 c.e, .int .i64 c.b, .int .i64 c.t, .bool c.g, .int .u64 c.a] 25)) [.bool d.tg, .int .i64 d.pe, .int .i64 d.ty, .int .i64 d.mo, .int .i64 d.e, .int .i64 d.b, .int .i64 d.t, .bool d.g, .int .u64 d.a] 25 (by simp)
  have L2 : Bl w (w.heap.size + 1 + 1) ((w.alloc (.cells #[.bool c.tg, .int .i64 c.pe, .int .i64 c.ty, .int .i64 c.mo, .int .i64 c.e, .int .i64 c.b, .int .i64 c.t, .bool c.g, .int .u64 c.a] 25)).alloc (.cells #[.bool d.tg, .int .i64 d.pe, .int .i64 d.ty, .int .i64 d.mo, .int .i64 d.e, .int .i64 d.b, .int .i64 d.t, .bool d.g, .int .u64 d.a] 25)) := ⟨((Below.refl _ _).alloc (Nat.le_refl _) _).alloc (by simp) _, by omega, by simp⟩
  clear hraw rc rd
  go_enter Try.func3, Try.ntmps3
  go_upto_region 1 with fail
  generalize hw0 : ((w.alloc (.cells #[.bool c.tg, .int .i64 c.pe, .int .i64 c.ty, .int .i64 c.mo, .int .i64 c.e, .int .i64 c.b, .int .i64 c.t, .bool c.g, .int .u64 c.a] 25)).alloc (.cells #[.bool d.tg, .int .i64 d.pe, .int .i64 d.ty, .int .i64 d.mo, .int .i64 d.e, .int .i64 d.b, .int .i64 d.t, .bool d.g, .int .u64 d.a] 25)) = w0 at C2 D2 L2 ⊢
  clear hw0
  have le0 := L2.le
  obtain ⟨_, _, _, _, _, _, _, _, _⟩ := C2.out9
  obtain ⟨_, _, _, _, _, _, _, _, _⟩ := D2.out9
  have HC2 := Lib.hid C2
  have HD2 := Lib.hid D2
  have HL2 := Lib.hid L2
  clear C2 D2 L2
  go_wp2_with (first | (go_at_call 9; (with_reducible refine (HRL.out _ HL2.out.bl).mono ?_); rintro e' w1 ⟨rfl, qk⟩; have C3 := HC2.out.kp qk (by omega); have D3 := HD2.out.kp qk (by omega); have L3 := HL2.out.step qk.1; obtain ⟨_, _, _, _, _, _, _, _, _⟩ := C3.out9; obtain ⟨_, _, _, _, _, _, _, _, _⟩ := D3.out9; have le1 := L3.le; have HC3 := Lib.hid C3; have HD3 := Lib.hid D3; have HL3 := Lib.hid L3; clear qk C3 D3 L3) | (go_at_call 10; (with_reducible refine (HRC.out w1).mono ?_); rintro e' w2 ⟨rfl, qk⟩; have C4 := HC3.out.kp qk (by omega); have D4 := HD3.out.kp qk (by omega); have L4 := HL3.out.step qk.1; obtain ⟨_, _, _, _, _, _, _, _, _⟩ := C4.out9; obtain ⟨_, _, _, _, _, _, _, _, _⟩ := D4.out9; have le2 := L4.le; have HC4 := Lib.hid C4; have HD4 := Lib.hid D4; have HL4 := Lib.hid L4; clear qk C4 D4 L4) | (go_at_call 11; (with_reducible refine (works_w _).mono ?_); rintro e' wz ⟨rfl, hbz⟩; have BZ := Lib.hid (HL4.out.step hbz).bl; clear hbz))
  go_ret
  exact ⟨rfl, BZ.out⟩
set_option maxHeartbeats 2000000 in
set_option maxRecDepth 100000 in
theorem tells_r3 (l : List Cp) (A : Option Addr) (n : Nat) (c d : Cp) (w : World) (h : Rd w w.heap.size A l) (hraw : ∀ x ∈ l, Raw x) (hlen : l.length ≤ 9223372036854775807) (rc : Raw c) (rd : Raw d) (hr1 : rightL l = true) (hr2 : rightC c = true) (hr3 : rightC d = false) :
    Calls Try.prog 3 #[.slice A l.length n, .agg #[.bool c.tg, .int .i64 c.pe, .int .i64 c.ty, .int .i64 c.mo, .int .i64 c.e, .int .i64 c.b, .int .i64 c.t, .bool c.g, .int .u64 c.a], .agg #[.bool d.tg, .int .i64 d.pe, .int .i64 d.ty, .int .i64 d.mo, .int .i64 d.e, .int .i64 d.b, .int .i64 d.t, .bool d.g, .int .u64 d.a]] w fun e' w' => e' = .returned (.bool true) ∧ Below w.heap.size w w' := by
  have HRL : Hid (∀ wx : World, Below w.heap.size w wx → Calls Try.prog 9 #[.slice A l.length n] wx fun e' w' => e' = .returned (.bool true) ∧ Kp wx w') := Lib.hid (fun wx hb => rightl_b l A n wx ((h.keep (w' := wx) fun p hp => hb.cell hp).more hb.size) hlen hraw true hr1)
  have HRC : Hid (∀ wx : World, Calls Try.prog 10 #[.agg #[.bool c.tg, .int .i64 c.pe, .int .i64 c.ty, .int .i64 c.mo, .int .i64 c.e, .int .i64 c.b, .int .i64 c.t, .bool c.g, .int .u64 c.a]] wx fun e' w' => e' = .returned (.bool true) ∧ Kp wx w') := Lib.hid (fun wx => right_c c rc true hr2 wx)
  have HRD : Hid (∀ wx : World, Calls Try.prog 10 #[.agg #[.bool d.tg, .int .i64 d.pe, .int .i64 d.ty, .int .i64 d.mo, .int .i64 d.e, .int .i64 d.b, .int .i64 d.t, .bool d.g, .int .u64 d.a]] wx fun e' w' => e' = .returned (.bool false) ∧ Kp wx w') := Lib.hid (fun wx => right_c d rd false hr3 wx)
  have C2 : At (w.heap.size) [.bool c.tg, .int .i64 c.pe, .int .i64 c.ty, .int .i64 c.mo, .int .i64 c.e, .int .i64 c.b, .int .i64 c.t, .bool c.g, .int .u64 c.a] ((w.alloc (.cells #[.bool c.tg, .int .i64 c.pe, .int .i64 c.ty, .int .i64 c.mo, .int .i64 c.e, .int .i64 c.b, .int .i64 c.t, .bool c.g, .int .u64 c.a] 25)).alloc (.cells #[.bool d.tg, .int .i64 d.pe, .int .i64 d.ty, .int .i64 d.mo, .int .i64 d.e, .int .i64 d.b, .int .i64 d.t, .bool d.g, .int .u64 d.a] 25)) := (At.new w [.bool c.tg, .int .i64 c.pe, .int .i64 c.ty, .int .i64 c.mo, .int .i64 c.e, .int .i64 c.b, .int .i64 c.t, .bool c.g, .int .u64 c.a] 25).alloc _
  have D2 : At (w.heap.size + 1) [.bool d.tg, .int .i64 d.pe, .int .i64 d.ty, .int .i64 d.mo, .int .i64 d.e, .int .i64 d.b, .int .i64 d.t, .bool d.g, .int .u64 d.a] ((w.alloc (.cells #[.bool c.tg, .int .i64 c.pe, .int .i64 c.ty, .int .i64 c.mo, .int .i64 c.e, .int .i64 c.b, .int .i64 c.t, .bool c.g, .int .u64 c.a] 25)).alloc (.cells #[.bool d.tg, .int .i64 d.pe, .int .i64 d.ty, .int .i64 d.mo, .int .i64 d.e, .int .i64 d.b, .int .i64 d.t, .bool d.g, .int .u64 d.a] 25)) := At.new' (w.alloc (.cells #[.bool c.tg, .int .i64 c.pe, .int .i64 c.ty, .int .i64 c.mo, .int .i64 c.e, .int .i64 c.b, .int .i64 c.t, .bool c.g, .int .u64 c.a] 25)) [.bool d.tg, .int .i64 d.pe, .int .i64 d.ty, .int .i64 d.mo, .int .i64 d.e, .int .i64 d.b, .int .i64 d.t, .bool d.g, .int .u64 d.a] 25 (by simp)
  have L2 : Bl w (w.heap.size + 1 + 1) ((w.alloc (.cells #[.bool c.tg, .int .i64 c.pe, .int .i64 c.ty, .int .i64 c.mo, .int .i64 c.e, .int .i64 c.b, .int .i64 c.t, .bool c.g, .int .u64 c.a] 25)).alloc (.cells #[.bool d.tg, .int .i64 d.pe, .int .i64 d.ty, .int .i64 d.mo, .int .i64 d.e, .int .i64 d.b, .int .i64 d.t, .bool d.g, .int .u64 d.a] 25)) := ⟨((Below.refl _ _).alloc (Nat.le_refl _) _).alloc (by simp) _, by omega, by simp⟩
  clear hraw rc rd
  go_enter Try.func3, Try.ntmps3
  go_upto_region 1 with fail
  generalize hw0 : ((w.alloc (.cells #[.bool c.tg, .int .i64 c.pe, .int .i64 c.ty, .int .i64 c.mo, .int .i64 c.e, .int .i64 c.b, .int .i64 c.t, .bool c.g, .int .u64 c.a] 25)).alloc (.cells #[.bool d.tg, .int .i64 d.pe, .int .i64 d.ty, .int .i64 d.mo, .int .i64 d.e, .int .i64 d.b, .int .i64 d.t, .bool d.g, .int .u64 d.a] 25)) = w0 at C2 D2 L2 ⊢
  clear hw0
  have le0 := L2.le
  obtain ⟨_, _, _, _, _, _, _, _, _⟩ := C2.out9
  obtain ⟨_, _, _, _, _, _, _, _, _⟩ := D2.out9
  have HC2 := Lib.hid C2
  have HD2 := Lib.hid D2
  have HL2 := Lib.hid L2
  clear C2 D2 L2
  go_wp2_with (first | (go_at_call 9; (with_reducible refine (HRL.out _ HL2.out.bl).mono ?_); rintro e' w1 ⟨rfl, qk⟩; have C3 := HC2.out.kp qk (by omega); have D3 := HD2.out.kp qk (by omega); have L3 := HL2.out.step qk.1; obtain ⟨_, _, _, _, _, _, _, _, _⟩ := C3.out9; obtain ⟨_, _, _, _, _, _, _, _, _⟩ := D3.out9; have le1 := L3.le; have HC3 := Lib.hid C3; have HD3 := Lib.hid D3; have HL3 := Lib.hid L3; clear qk C3 D3 L3) | (go_at_call 10; (with_reducible refine (HRC.out w1).mono ?_); rintro e' w2 ⟨rfl, qk⟩; have C4 := HC3.out.kp qk (by omega); have D4 := HD3.out.kp qk (by omega); have L4 := HL3.out.step qk.1; obtain ⟨_, _, _, _, _, _, _, _, _⟩ := C4.out9; obtain ⟨_, _, _, _, _, _, _, _, _⟩ := D4.out9; have le2 := L4.le; have HC4 := Lib.hid C4; have HD4 := Lib.hid D4; have HL4 := Lib.hid L4; clear qk C4 D4 L4) | (go_at_call 10; (with_reducible refine (HRD.out w2).mono ?_); rintro e' w3 ⟨rfl, qk⟩; have C5 := HC4.out.kp qk (by omega); have D5 := HD4.out.kp qk (by omega); have L5 := HL4.out.step qk.1; obtain ⟨_, _, _, _, _, _, _, _, _⟩ := C5.out9; obtain ⟨_, _, _, _, _, _, _, _, _⟩ := D5.out9; have le3 := L5.le; have HC5 := Lib.hid C5; have HD5 := Lib.hid D5; have HL5 := Lib.hid L5; clear qk C5 D5 L5) | (go_at_call 11; (with_reducible refine (works_w _).mono ?_); rintro e' wz ⟨rfl, hbz⟩; have BZ := Lib.hid (HL5.out.step hbz).bl; clear hbz))
  go_ret
  exact ⟨rfl, BZ.out⟩
set_option maxHeartbeats 16000000 in
set_option maxRecDepth 100000 in
theorem tells_core (l : List Cp) (A : Option Addr) (n : Nat) (c d : Cp) (w : World) (h : Rd w w.heap.size A l) (hraw : ∀ x ∈ l, Raw x) (hlen : l.length ≤ 9223372036854775807) (rc : Raw c) (rd : Raw d) (hr1 : rightL l = true) (hr2 : rightC c = true) (hr3 : rightC d = true) :
    Calls Try.prog 3 #[.slice A l.length n, .agg #[.bool c.tg, .int .i64 c.pe, .int .i64 c.ty, .int .i64 c.mo, .int .i64 c.e, .int .i64 c.b, .int .i64 c.t, .bool c.g, .int .u64 c.a], .agg #[.bool d.tg, .int .i64 d.pe, .int .i64 d.ty, .int .i64 d.mo, .int .i64 d.e, .int .i64 d.b, .int .i64 d.t, .bool d.g, .int .u64 d.a]] w fun e' w' => e' = .returned (.bool true) ∧ Below w.heap.size w w' := by
  have hr1' := hr1
  rw [rightL, Bool.and_eq_true, List.all_eq_true] at hr1'
  have hlen40 : l.length ≤ 40 := by simpa using hr1'.2
  have hL : ∀ x ∈ l, RC x := fun x hx => RC.of_right (hraw x hx) (hr1'.1 x hx)
  have hc := RC.of_right rc hr2
  have hd := RC.of_right rd hr3
  have hcl : (clo l).length ≤ 1000 := by have := clo_len l; omega
  have hT : (l ++ marks).take l.length = l := by simp
  obtain ⟨ls, els⟩ : ∃ v, lessB c d = v := ⟨_, rfl⟩
  obtain ⟨hs, ehs⟩ : ∃ v, hasB l c = v := ⟨_, rfl⟩
  have HRDL : Hid (∀ wx : World, Below w.heap.size w wx → Rd wx wx.heap.size A l) := Lib.hid (fun wx hb => (h.keep (w' := wx) fun p hp => hb.cell hp).more hb.size)
  have HLT : Hid (∀ wx : World, Rd wx wx.heap.size A l → Calls Try.prog 12 #[.slice A l.length n] wx fun e w' => ∃ g cap, e = .returned (.slice (some ⟨g, 0, none⟩) (l.length + 5) cap) ∧ l.length + 5 ≤ cap ∧ OwnC w' wx.heap.size (.slice (some ⟨g, 0, none⟩) (l.length + 5) cap) (l ++ marks) ∧ Rd w' w'.heap.size (some ⟨g, 0, none⟩) (l ++ marks) ∧ Below wx.heap.size wx w') := Lib.hid (fun wx hx => lent_w l A n (by omega) wx hx)
  have HCL : Hid (∀ (A' : Option Addr) (cap : Nat) (wx : World), Rd wx wx.heap.size A' l → Calls Try.prog 13 #[.slice A' l.length cap] wx (fun e w' => ∃ A2 cap2, e = .returned (.slice A2 (clo l).length cap2) ∧ OwnC w' wx.heap.size (.slice A2 (clo l).length cap2) (clo l) ∧ Rd w' w'.heap.size A2 (clo l) ∧ Below wx.heap.size wx w')) := Lib.hid (fun A' cap wx hx => clo_w l A' cap hL (by omega) wx hx)
  have HRC2 : Hid (∀ (A' : Option Addr) (cap : Nat) (wx : World), Rd wx wx.heap.size A' l → Calls Try.prog 14 #[.slice A' l.length cap] wx (fun e w' => ∃ A2 cap2, e = .returned (.slice A2 (clo l).length cap2) ∧ OwnC w' wx.heap.size (.slice A2 (clo l).length cap2) (clo l) ∧ Rd w' w'.heap.size A2 (clo l) ∧ Below wx.heap.size wx w')) := Lib.hid (fun A' cap wx hx => rclo_w l A' cap hL (by omega) wx hx)
  have HSM : Hid (∀ (A1 A2 : Option Addr) (n1 n2 : Nat) (wx : World), Rd wx wx.heap.size A1 (clo l) → Rd wx wx.heap.size A2 (clo l) → Calls Try.prog 15 #[.slice A1 (clo l).length n1, .slice A2 (clo l).length n2] wx (fun e w' => e = .returned (.bool true) ∧ Below wx.heap.size wx w')) := Lib.hid (fun A1 A2 n1 n2 wx h1 h2 => (same_w (clo l) (clo l) A1 A2 n1 n2 wx h1 h2 (by omega) (by omega) true (by simp)).mono (fun _ _ h => ⟨h.1, h.2.1⟩))
  have HLE : Hid (∀ wx : World, Calls Try.prog 16 #[.agg #[.bool c.tg, .int .i64 c.pe, .int .i64 c.ty, .int .i64 c.mo, .int .i64 c.e, .int .i64 c.b, .int .i64 c.t, .bool c.g, .int .u64 c.a], .agg #[.bool d.tg, .int .i64 d.pe, .int .i64 d.ty, .int .i64 d.mo, .int .i64 d.e, .int .i64 d.b, .int .i64 d.t, .bool d.g, .int .u64 d.a]] wx (fun e w' => e = .returned (.bool ls) ∧ Below wx.heap.size wx w')) := Lib.hid (fun wx => (less_o c d hc hd ls els wx).mono (fun _ _ h => ⟨h.1, h.2.1⟩))
  have HRLE : Hid (∀ wx : World, Calls Try.prog 17 #[.agg #[.bool c.tg, .int .i64 c.pe, .int .i64 c.ty, .int .i64 c.mo, .int .i64 c.e, .int .i64 c.b, .int .i64 c.t, .bool c.g, .int .u64 c.a], .agg #[.bool d.tg, .int .i64 d.pe, .int .i64 d.ty, .int .i64 d.mo, .int .i64 d.e, .int .i64 d.b, .int .i64 d.t, .bool d.g, .int .u64 d.a]] wx (fun e w' => e = .returned (.bool ls) ∧ Below wx.heap.size wx w')) := Lib.hid (fun wx => (rless_w c d hc hd ls els wx).mono (fun _ _ h => ⟨h.1, h.2.1⟩))
  have HHA : Hid (∀ (A' : Option Addr) (cap : Nat) (wx : World), Rd wx wx.heap.size A' l → Calls Try.prog 18 #[.slice A' l.length cap, .agg #[.bool c.tg, .int .i64 c.pe, .int .i64 c.ty, .int .i64 c.mo, .int .i64 c.e, .int .i64 c.b, .int .i64 c.t, .bool c.g, .int .u64 c.a]] wx (fun e w' => e = .returned (.bool hs) ∧ Below wx.heap.size wx w')) := Lib.hid (fun A' cap wx hx => has_w l A' cap c hL (by omega) hc hs ehs wx hx)
  have HRHA : Hid (∀ (A' : Option Addr) (cap : Nat) (wx : World), Rd wx wx.heap.size A' l → Calls Try.prog 19 #[.slice A' l.length cap, .agg #[.bool c.tg, .int .i64 c.pe, .int .i64 c.ty, .int .i64 c.mo, .int .i64 c.e, .int .i64 c.b, .int .i64 c.t, .bool c.g, .int .u64 c.a]] wx (fun e w' => e = .returned (.bool hs) ∧ Below wx.heap.size wx w')) := Lib.hid (fun A' cap wx hx => rhas_w l A' cap c hL (by omega) hc hs ehs wx hx)
  have HKE : Hid (∀ (g cap : Nat) (wx : World), l.length + 5 ≤ cap → Rd wx wx.heap.size A l → Rd wx wx.heap.size (some ⟨g, 0, none⟩) (l ++ marks) → Calls Try.prog 21 #[.slice (some ⟨g, 0, none⟩) (l.length + 5) cap, .slice A l.length n] wx (fun e w' => e = .returned (.bool true) ∧ Below wx.heap.size wx w')) := Lib.hid (fun g cap wx h1 h2 h3 => (kept_w l A n g cap (by omega) h1 wx h2 h3).mono (fun _ _ h => ⟨h.1, h.2.1⟩))
  have HSP : Hid (∀ (A' : Option Addr) (cap B : Nat) (wx : World), OwnC wx B (.slice A' (clo l).length cap) (clo l) → Calls Try.prog 20 #[.slice A' (clo l).length cap] wx fun e w' => e = .returned (.tuple #[]) ∧ Fr wx w' (fun k => (Value.slice A' (clo l).length cap).ownBlock = some k)) := Lib.hid (fun A' cap B wx ho => spoil_any (clo l) A' cap B hcl wx ho)
  have HRL : Hid (∀ wx : World, Below w.heap.size w wx → Calls Try.prog 9 #[.slice A l.length n] wx fun e' w' => e' = .returned (.bool true) ∧ Kp wx w') := Lib.hid (fun wx hb => rightl_b l A n wx ((h.keep (w' := wx) fun p hp => hb.cell hp).more hb.size) hlen hraw true hr1)
  have HRC : Hid (∀ wx : World, Calls Try.prog 10 #[.agg #[.bool c.tg, .int .i64 c.pe, .int .i64 c.ty, .int .i64 c.mo, .int .i64 c.e, .int .i64 c.b, .int .i64 c.t, .bool c.g, .int .u64 c.a]] wx fun e' w' => e' = .returned (.bool true) ∧ Kp wx w') := Lib.hid (fun wx => right_c c rc true hr2 wx)
  have HRD : Hid (∀ wx : World, Calls Try.prog 10 #[.agg #[.bool d.tg, .int .i64 d.pe, .int .i64 d.ty, .int .i64 d.mo, .int .i64 d.e, .int .i64 d.b, .int .i64 d.t, .bool d.g, .int .u64 d.a]] wx fun e' w' => e' = .returned (.bool true) ∧ Kp wx w') := Lib.hid (fun wx => right_c d rd true hr3 wx)
  have C2 : At (w.heap.size) [.bool c.tg, .int .i64 c.pe, .int .i64 c.ty, .int .i64 c.mo, .int .i64 c.e, .int .i64 c.b, .int .i64 c.t, .bool c.g, .int .u64 c.a] ((w.alloc (.cells #[.bool c.tg, .int .i64 c.pe, .int .i64 c.ty, .int .i64 c.mo, .int .i64 c.e, .int .i64 c.b, .int .i64 c.t, .bool c.g, .int .u64 c.a] 25)).alloc (.cells #[.bool d.tg, .int .i64 d.pe, .int .i64 d.ty, .int .i64 d.mo, .int .i64 d.e, .int .i64 d.b, .int .i64 d.t, .bool d.g, .int .u64 d.a] 25)) := (At.new w [.bool c.tg, .int .i64 c.pe, .int .i64 c.ty, .int .i64 c.mo, .int .i64 c.e, .int .i64 c.b, .int .i64 c.t, .bool c.g, .int .u64 c.a] 25).alloc _
  have D2 : At (w.heap.size + 1) [.bool d.tg, .int .i64 d.pe, .int .i64 d.ty, .int .i64 d.mo, .int .i64 d.e, .int .i64 d.b, .int .i64 d.t, .bool d.g, .int .u64 d.a] ((w.alloc (.cells #[.bool c.tg, .int .i64 c.pe, .int .i64 c.ty, .int .i64 c.mo, .int .i64 c.e, .int .i64 c.b, .int .i64 c.t, .bool c.g, .int .u64 c.a] 25)).alloc (.cells #[.bool d.tg, .int .i64 d.pe, .int .i64 d.ty, .int .i64 d.mo, .int .i64 d.e, .int .i64 d.b, .int .i64 d.t, .bool d.g, .int .u64 d.a] 25)) := At.new' (w.alloc (.cells #[.bool c.tg, .int .i64 c.pe, .int .i64 c.ty, .int .i64 c.mo, .int .i64 c.e, .int .i64 c.b, .int .i64 c.t, .bool c.g, .int .u64 c.a] 25)) [.bool d.tg, .int .i64 d.pe, .int .i64 d.ty, .int .i64 d.mo, .int .i64 d.e, .int .i64 d.b, .int .i64 d.t, .bool d.g, .int .u64 d.a] 25 (by simp)
  have L2 : Bl w (w.heap.size + 1 + 1) ((w.alloc (.cells #[.bool c.tg, .int .i64 c.pe, .int .i64 c.ty, .int .i64 c.mo, .int .i64 c.e, .int .i64 c.b, .int .i64 c.t, .bool c.g, .int .u64 c.a] 25)).alloc (.cells #[.bool d.tg, .int .i64 d.pe, .int .i64 d.ty, .int .i64 d.mo, .int .i64 d.e, .int .i64 d.b, .int .i64 d.t, .bool d.g, .int .u64 d.a] 25)) := ⟨((Below.refl _ _).alloc (Nat.le_refl _) _).alloc (by simp) _, by omega, by simp⟩
  have HT := Lib.hid hT
  have HX2 : Hid (marks.length = 5) := Lib.hid rfl
  clear h hr1 hr1' hr2 hr3 hraw hL hc hd rc rd els ehs hT hcl
  go_enter Try.func3, Try.ntmps3
  go_upto_region 1 with fail
  generalize hw0 : ((w.alloc (.cells #[.bool c.tg, .int .i64 c.pe, .int .i64 c.ty, .int .i64 c.mo, .int .i64 c.e, .int .i64 c.b, .int .i64 c.t, .bool c.g, .int .u64 c.a] 25)).alloc (.cells #[.bool d.tg, .int .i64 d.pe, .int .i64 d.ty, .int .i64 d.mo, .int .i64 d.e, .int .i64 d.b, .int .i64 d.t, .bool d.g, .int .u64 d.a] 25)) = w0 at C2 D2 L2 ⊢
  clear hw0
  have le0 := L2.le
  obtain ⟨_, _, _, _, _, _, _, _, _⟩ := C2.out9
  obtain ⟨_, _, _, _, _, _, _, _, _⟩ := D2.out9
  have HC2 := Lib.hid C2
  have HD2 := Lib.hid D2
  have HL2 := Lib.hid L2
  clear C2 D2 L2
  go_upto_region 6 with (first
    | (go_at_call 9; (with_reducible refine (HRL.out _ HL2.out.bl).mono ?_); rintro e' w1 ⟨rfl, qk⟩; have C3 := HC2.out.kp qk (by omega); have D3 := HD2.out.kp qk (by omega); have L3 := HL2.out.step qk.1; obtain ⟨_, _, _, _, _, _, _, _, _⟩ := C3.out9; obtain ⟨_, _, _, _, _, _, _, _, _⟩ := D3.out9; have le1 := L3.le; have HC3 := Lib.hid C3; have HD3 := Lib.hid D3; have HL3 := Lib.hid L3; clear qk C3 D3 L3)
    | (go_at_call 10; (with_reducible refine (HRC.out w1).mono ?_); rintro e' w2 ⟨rfl, qk⟩; have C4 := HC3.out.kp qk (by omega); have D4 := HD3.out.kp qk (by omega); have L4 := HL3.out.step qk.1; obtain ⟨_, _, _, _, _, _, _, _, _⟩ := C4.out9; obtain ⟨_, _, _, _, _, _, _, _, _⟩ := D4.out9; have le2 := L4.le; have HC4 := Lib.hid C4; have HD4 := Lib.hid D4; have HL4 := Lib.hid L4; clear qk C4 D4 L4)
    | (go_at_call 10; (with_reducible refine (HRD.out w2).mono ?_); rintro e' w3 ⟨rfl, qk⟩; have C5 := HC4.out.kp qk (by omega); have D5 := HD4.out.kp qk (by omega); have L5 := HL4.out.step qk.1; obtain ⟨_, _, _, _, _, _, _, _, _⟩ := C5.out9; obtain ⟨_, _, _, _, _, _, _, _, _⟩ := D5.out9; have le3 := L5.le; have HC5 := Lib.hid C5; have HD5 := Lib.hid D5; have HL5 := Lib.hid L5; clear qk C5 D5 L5)
    | (go_at_call 12; (with_reducible refine (HLT.out w3 (HRDL.out w3 HL5.out.bl)).mono ?_); rintro e' w4 ⟨g, cap, rfl, hcap, hox, hrx, hb⟩; have C6 := HL5.out.at_ hb HC5.out (show w.heap.size < _ by omega); have D6 := HL5.out.at_ hb HD5.out (show w.heap.size + 1 < _ by omega); have L6 := HL5.out.step hb; obtain ⟨_, _, _, _, _, _, _, _, _⟩ := C6.out9; obtain ⟨_, _, _, _, _, _, _, _, _⟩ := D6.out9; have le4 := L6.le; have HC6 := Lib.hid C6; have HD6 := Lib.hid D6; have HL6 := Lib.hid L6; have i0 : (0 : Int) ≤ (l.length : Int) := (by omega); have i1 : (l.length : Int) ≤ (cap : Int) := (by omega); have HCAP := Lib.hid hcap; have HX4 := Lib.hid hrx; have HXT4 : Hid (Rd w4 w4.heap.size (some ⟨g, 0, none⟩) l) := Lib.hid (by have e := hrx.take l.length; rw [HT.out] at e; exact e); have HGX : Hid (g < w4.heap.size) := Lib.hid (by obtain ⟨b, o, e, hb2, -⟩ := hrx (by simp [marks]); cases e; exact hb2); clear hcap hox hrx; clear hb C6 D6 L6)
    | (go_at_call 13; (with_reducible refine (HCL.out _ _ w4 HXT4.out).mono ?_); rintro e' w5 ⟨A5, cap5, rfl, hoa, hra, hb⟩; have C7 := HL6.out.at_ hb HC6.out (show w.heap.size < _ by omega); have D7 := HL6.out.at_ hb HD6.out (show w.heap.size + 1 < _ by omega); have L7 := HL6.out.step hb; obtain ⟨_, _, _, _, _, _, _, _, _⟩ := C7.out9; obtain ⟨_, _, _, _, _, _, _, _, _⟩ := D7.out9; have le5 := L7.le; have HC7 := Lib.hid C7; have HD7 := Lib.hid D7; have HL7 := Lib.hid L7; have HOA5 : Hid (OwnA w5 w4.heap.size (.slice A5 (clo l).length cap5) (clo l)) := Lib.hid ⟨hoa⟩; have HRA5 := Lib.hid hra; have HX5 := Lib.hid (HX4.out.below hb (Nat.le_refl _)); have HXT5 := Lib.hid (HXT4.out.below hb (Nat.le_refl _)); have HB45 : Hid (w4.heap.size ≤ w5.heap.size) := Lib.hid hb.size; clear hoa hra; clear hb C7 D7 L7)
    | (go_at_call 14; (with_reducible refine (HRC2.out _ _ w5 (HRDL.out w5 HL7.out.bl)).mono ?_); rintro e' w6 ⟨A6, cap6, rfl, hob, hrb, hb⟩; have C8 := HL7.out.at_ hb HC7.out (show w.heap.size < _ by omega); have D8 := HL7.out.at_ hb HD7.out (show w.heap.size + 1 < _ by omega); have L8 := HL7.out.step hb; obtain ⟨_, _, _, _, _, _, _, _, _⟩ := C8.out9; obtain ⟨_, _, _, _, _, _, _, _, _⟩ := D8.out9; have le6 := L8.le; have HC8 := Lib.hid C8; have HD8 := Lib.hid D8; have HL8 := Lib.hid L8; have HOB6 : Hid (OwnA w6 w5.heap.size (.slice A6 (clo l).length cap6) (clo l)) := Lib.hid ⟨hob⟩; have HRB6 := Lib.hid hrb; have HOA6 := Lib.hid (HOA5.out.below hb (Nat.le_refl _)); have HRA6 := Lib.hid (HRA5.out.below hb (Nat.le_refl _)); have HX6 := Lib.hid (HX5.out.below hb (Nat.le_refl _)); have HXT6 := Lib.hid (HXT5.out.below hb (Nat.le_refl _)); have HB56 : Hid (w5.heap.size ≤ w6.heap.size) := Lib.hid hb.size; have HRL6 := Lib.hid (HRDL.out w6 (HL7.out.step hb).bl); clear hob hrb; clear hb C8 D8 L8))
  have C9 := HC8.out
  have D9 := HD8.out
  have L9 := HL8.out
  refine wp_region_held_drew (S := (fun w' => At (w.heap.size) [.bool c.tg, .int .i64 c.pe, .int .i64 c.ty, .int .i64 c.mo, .int .i64 c.e, .int .i64 c.b, .int .i64 c.t, .bool c.g, .int .u64 c.a] w' ∧ At (w.heap.size + 1) [.bool d.tg, .int .i64 d.pe, .int .i64 d.ty, .int .i64 d.mo, .int .i64 d.e, .int .i64 d.b, .int .i64 d.t, .bool d.g, .int .u64 d.a] w' ∧ Bl w (w.heap.size + 1 + 1) w')) (by kernel_rfl) ⟨At.drew (by with_reducible assumption), At.drew (by with_reducible assumption), Bl.drew (by with_reducible assumption)⟩ (fun hS => ?_)
  have rl := HRL6.out.drew
  have rt := HXT6.out.drew
  have rx := HX6.out.drew
  have ra := HRA6.out.drew
  have rb := HRB6.out.drew
  have oa := HOA6.out.drew
  have ob := HOB6.out.drew
  have sz : Sz w6.drew w6.heap.size := ⟨Nat.le_refl _⟩
  change Rd w6.drew w6.drew.heap.size _ _ at rl
  change Rd w6.drew w6.drew.heap.size _ _ at rt
  change Rd w6.drew w6.drew.heap.size _ _ at rx
  change Rd w6.drew w6.drew.heap.size _ _ at ra
  change Rd w6.drew w6.drew.heap.size _ _ at rb
  generalize hgw : w6.drew = g0 at hS rl rt rx ra rb oa ob sz ⊢
  clear hgw C9 D9 L9
  try simp only [Act.put, List.setIfInBounds_toArray, List.set_cons_zero, List.set_cons_succ]
  (refine wpAnyH_take (i := 0) (oi := { dst := some 33, op := Op.move (Operand.tmp 8), type := 22, pos := "law.go:30", after := #[], guard := none }) (v := ?_) rfl (by kernel_rfl) (by kernel_rfl) (by kernel_rfl) (fun _ _ _ h => h) (Or.inl ⟨by rfl, ?_⟩) hS ?_; rotate_left; focus (intro w' hSw; obtain ⟨s0, s1, sb⟩ := hSw; go_simp <;> try with_reducible rfl))
  try simp only [Act.put, List.setIfInBounds_toArray, List.set_cons_zero, List.set_cons_succ]
  (refine wpAnyH_take (i := 1) (oi := { dst := some 34, op := Op.move (Operand.tmp 9), type := 22, pos := "law.go:30", after := #[], guard := none }) (v := ?_) rfl (by kernel_rfl) (by kernel_rfl) (by kernel_rfl) (fun _ _ _ h => h) (Or.inl ⟨by rfl, ?_⟩) hS ?_; rotate_left; focus (intro w' hSw; obtain ⟨s0, s1, sb⟩ := hSw; go_simp <;> try with_reducible rfl))
  try simp only [Act.put, List.setIfInBounds_toArray, List.set_cons_zero, List.set_cons_succ]
  refine wpAnyH_ready (rs := [2]) (by kernel_rfl) (by simp) ?_
  refine AllReadyH.cons (o := { dst := some 35, op := Op.call { callee := Callee.value (Operand.func 15), args := #[Operand.tmp 33, Operand.tmp 34], argTypes := #[22, 22] }, type := 4, pos := "law.go:30", after := #[{ on := 0, ground := Ground.data }, { on := 1, ground := Ground.data }], guard := none }) rfl (fun K hK => ?_) AllReadyH.nil
  refine take_if (by rfl) ?_
  obtain ⟨s0, s1, sb⟩ := hS
  go_simp
  (with_reducible refine (HSM.out _ _ _ _ g0 ra rb).mono ?_)
  rintro e' g2 ⟨rfl, hb⟩
  have t0 := sb.at_ hb s0 (show w.heap.size < w.heap.size + 1 + 1 by omega)
  have t1 := sb.at_ hb s1 (show w.heap.size + 1 < w.heap.size + 1 + 1 by omega)
  have rl := rl.below hb (Nat.le_refl _)
  have rt := rt.below hb (Nat.le_refl _)
  have rx := rx.below hb (Nat.le_refl _)
  have ra := ra.below hb (Nat.le_refl _)
  have rb := rb.below hb (Nat.le_refl _)
  have oa := oa.below hb (Nat.le_refl _)
  have ob := ob.below hb (Nat.le_refl _)
  have sz := sz.below hb (Nat.le_refl _)
  refine hK.out _ _ ⟨t0, t1, (sb.step hb)⟩ (fun hS => ?_)
  clear hK K hb s0 t0 s1 t1 sb
  try simp only [Act.put, List.setIfInBounds_toArray, List.set_cons_zero, List.set_cons_succ]
  (refine wpAnyH_take (i := 3) (oi := { dst := some 36, op := Op.unOp UnOp.not 4 (Operand.tmp 35), type := 4, pos := "law.go:30", after := #[{ on := 2, ground := Ground.data }], guard := none }) (v := ?_) rfl (by kernel_rfl) (by kernel_rfl) (by kernel_rfl) (fun _ _ _ h => h) (Or.inl ⟨by rfl, ?_⟩) hS ?_; rotate_left; focus (intro w' hSw; obtain ⟨s0, s1, sb⟩ := hSw; go_simp <;> try with_reducible rfl))
  try simp only [Act.put, List.setIfInBounds_toArray, List.set_cons_zero, List.set_cons_succ]
  (refine wpAnyH_take (i := 4) (oi := { dst := some 37, op := Op.move (Operand.tmp 36), type := 4, pos := "law.go:30", after := #[{ on := 3, ground := Ground.data }, { on := 2, ground := Ground.chain }], guard := none }) (v := ?_) rfl (by kernel_rfl) (by kernel_rfl) (by kernel_rfl) (fun _ _ _ h => h) (Or.inl ⟨by rfl, ?_⟩) hS ?_; rotate_left; focus (intro w' hSw; obtain ⟨s0, s1, sb⟩ := hSw; go_simp <;> try with_reducible rfl))
  try simp only [Act.put, List.setIfInBounds_toArray, List.set_cons_zero, List.set_cons_succ]
  (refine wpAnyH_take (i := 5) (oi := { dst := some 38, op := Op.load 25 (Operand.tmp 4), type := 25, pos := "law.go:30", after := #[{ on := 4, ground := Ground.guard }], guard := some (4, false) }) (v := ?_) rfl (by kernel_rfl) (by kernel_rfl) (by kernel_rfl) (fun _ _ _ h => h) (Or.inl ⟨by rfl, ?_⟩) hS ?_; rotate_left; focus (intro w' hSw; obtain ⟨s0, s1, sb⟩ := hSw; obtain ⟨_, _, _, _, _, _, _, _, _⟩ := s0.out9; obtain ⟨_, _, _, _, _, _, _, _, _⟩ := s1.out9; go_simp <;> try with_reducible rfl))
  try simp only [Act.put, List.setIfInBounds_toArray, List.set_cons_zero, List.set_cons_succ]
  (refine wpAnyH_take (i := 6) (oi := { dst := some 39, op := Op.load 25 (Operand.tmp 5), type := 25, pos := "law.go:30", after := #[{ on := 4, ground := Ground.guard }], guard := some (4, false) }) (v := ?_) rfl (by kernel_rfl) (by kernel_rfl) (by kernel_rfl) (fun _ _ _ h => h) (Or.inl ⟨by rfl, ?_⟩) hS ?_; rotate_left; focus (intro w' hSw; obtain ⟨s0, s1, sb⟩ := hSw; obtain ⟨_, _, _, _, _, _, _, _, _⟩ := s0.out9; obtain ⟨_, _, _, _, _, _, _, _, _⟩ := s1.out9; go_simp <;> try with_reducible rfl))
  try simp only [Act.put, List.setIfInBounds_toArray, List.set_cons_zero, List.set_cons_succ]
  (refine wpAnyH_take (i := 8) (oi := { dst := some 41, op := Op.load 25 (Operand.tmp 4), type := 25, pos := "law.go:30", after := #[{ on := 4, ground := Ground.guard }], guard := some (4, false) }) (v := ?_) rfl (by kernel_rfl) (by kernel_rfl) (by kernel_rfl) (fun _ _ _ h => h) (Or.inl ⟨by rfl, ?_⟩) hS ?_; rotate_left; focus (intro w' hSw; obtain ⟨s0, s1, sb⟩ := hSw; obtain ⟨_, _, _, _, _, _, _, _, _⟩ := s0.out9; obtain ⟨_, _, _, _, _, _, _, _, _⟩ := s1.out9; go_simp <;> try with_reducible rfl))
  try simp only [Act.put, List.setIfInBounds_toArray, List.set_cons_zero, List.set_cons_succ]
  (refine wpAnyH_take (i := 9) (oi := { dst := some 42, op := Op.load 25 (Operand.tmp 5), type := 25, pos := "law.go:30", after := #[{ on := 4, ground := Ground.guard }], guard := some (4, false) }) (v := ?_) rfl (by kernel_rfl) (by kernel_rfl) (by kernel_rfl) (fun _ _ _ h => h) (Or.inl ⟨by rfl, ?_⟩) hS ?_; rotate_left; focus (intro w' hSw; obtain ⟨s0, s1, sb⟩ := hSw; obtain ⟨_, _, _, _, _, _, _, _, _⟩ := s0.out9; obtain ⟨_, _, _, _, _, _, _, _, _⟩ := s1.out9; go_simp <;> try with_reducible rfl))
  try simp only [Act.put, List.setIfInBounds_toArray, List.set_cons_zero, List.set_cons_succ]
  refine wpAnyH_ready (rs := [7]) (by kernel_rfl) (by simp) ?_
  refine AllReadyH.cons (o := { dst := some 40, op := Op.call { callee := Callee.value (Operand.func 16), args := #[Operand.tmp 38, Operand.tmp 39], argTypes := #[25, 25] }, type := 4, pos := "law.go:30", after := #[{ on := 5, ground := Ground.data }, { on := 6, ground := Ground.data }, { on := 4, ground := Ground.chain }, { on := 4, ground := Ground.guard }], guard := some (4, false) }) rfl (fun K hK => ?_) AllReadyH.nil
  refine take_if (by rfl) ?_
  obtain ⟨s0, s1, sb⟩ := hS
  go_simp
  (with_reducible refine (HLE.out g2).mono ?_)
  rintro e' g7 ⟨rfl, hb⟩
  have t0 := sb.at_ hb s0 (show w.heap.size < w.heap.size + 1 + 1 by omega)
  have t1 := sb.at_ hb s1 (show w.heap.size + 1 < w.heap.size + 1 + 1 by omega)
  have rl := rl.below hb (Nat.le_refl _)
  have rt := rt.below hb (Nat.le_refl _)
  have rx := rx.below hb (Nat.le_refl _)
  have ra := ra.below hb (Nat.le_refl _)
  have rb := rb.below hb (Nat.le_refl _)
  have oa := oa.below hb (Nat.le_refl _)
  have ob := ob.below hb (Nat.le_refl _)
  have sz := sz.below hb (Nat.le_refl _)
  refine hK.out _ _ ⟨t0, t1, (sb.step hb)⟩ (fun hS => ?_)
  clear hK K hb s0 t0 s1 t1 sb
  try simp only [Act.put, List.setIfInBounds_toArray, List.set_cons_zero, List.set_cons_succ]
  refine wpAnyH_ready (rs := [10]) (by kernel_rfl) (by simp) ?_
  refine AllReadyH.cons (o := { dst := some 43, op := Op.call { callee := Callee.value (Operand.func 17), args := #[Operand.tmp 41, Operand.tmp 42], argTypes := #[25, 25] }, type := 4, pos := "law.go:30", after := #[{ on := 8, ground := Ground.data }, { on := 9, ground := Ground.data }, { on := 7, ground := Ground.chain }, { on := 4, ground := Ground.guard }], guard := some (4, false) }) rfl (fun K hK => ?_) AllReadyH.nil
  refine take_if (by rfl) ?_
  obtain ⟨s0, s1, sb⟩ := hS
  go_simp
  (with_reducible refine (HRLE.out g7).mono ?_)
  rintro e' g10 ⟨rfl, hb⟩
  have t0 := sb.at_ hb s0 (show w.heap.size < w.heap.size + 1 + 1 by omega)
  have t1 := sb.at_ hb s1 (show w.heap.size + 1 < w.heap.size + 1 + 1 by omega)
  have rl := rl.below hb (Nat.le_refl _)
  have rt := rt.below hb (Nat.le_refl _)
  have rx := rx.below hb (Nat.le_refl _)
  have ra := ra.below hb (Nat.le_refl _)
  have rb := rb.below hb (Nat.le_refl _)
  have oa := oa.below hb (Nat.le_refl _)
  have ob := ob.below hb (Nat.le_refl _)
  have sz := sz.below hb (Nat.le_refl _)
  refine hK.out _ _ ⟨t0, t1, (sb.step hb)⟩ (fun hS => ?_)
  clear hK K hb s0 t0 s1 t1 sb
  try simp only [Act.put, List.setIfInBounds_toArray, List.set_cons_zero, List.set_cons_succ]
  (refine wpAnyH_take (i := 11) (oi := { dst := some 44, op := Op.binOp BinOp.neq 4 (Operand.tmp 40) (Operand.tmp 43) 4, type := 4, pos := "law.go:30", after := #[{ on := 7, ground := Ground.data }, { on := 10, ground := Ground.data }, { on := 4, ground := Ground.guard }], guard := some (4, false) }) (v := ?_) rfl (by kernel_rfl) (by kernel_rfl) (by kernel_rfl) (fun _ _ _ h => h) (Or.inl ⟨by rfl, ?_⟩) hS ?_; rotate_left; focus (intro w' hSw; obtain ⟨s0, s1, sb⟩ := hSw; go_simp <;> try with_reducible rfl))
  try simp only [Act.put, List.setIfInBounds_toArray, List.set_cons_zero, List.set_cons_succ]
  (refine wpAnyH_take (i := 12) (oi := { dst := some 45, op := Op.pick (Operand.tmp 37) (Operand.const (Value.bool true)) (Operand.tmp 44), type := 4, pos := "law.go:30", after := #[{ on := 4, ground := Ground.data }, { on := 11, ground := Ground.data }], guard := none }) (v := ?_) rfl (by kernel_rfl) (by kernel_rfl) (by kernel_rfl) (fun _ _ _ h => h) (Or.inl ⟨by rfl, ?_⟩) hS ?_; rotate_left; focus (intro w' hSw; obtain ⟨s0, s1, sb⟩ := hSw; go_simp <;> try with_reducible rfl))
  try simp only [Act.put, List.setIfInBounds_toArray, List.set_cons_zero, List.set_cons_succ]
  (refine wpAnyH_take (i := 13) (oi := { dst := some 46, op := Op.move (Operand.tmp 45), type := 4, pos := "law.go:30", after := #[{ on := 12, ground := Ground.data }, { on := 10, ground := Ground.chain }], guard := none }) (v := ?_) rfl (by kernel_rfl) (by kernel_rfl) (by kernel_rfl) (fun _ _ _ h => h) (Or.inl ⟨by rfl, ?_⟩) hS ?_; rotate_left; focus (intro w' hSw; obtain ⟨s0, s1, sb⟩ := hSw; go_simp <;> try with_reducible rfl))
  try simp only [Act.put, List.setIfInBounds_toArray, List.set_cons_zero, List.set_cons_succ]
  (refine wpAnyH_take (i := 14) (oi := { dst := some 47, op := Op.move (Operand.tmp 7), type := 22, pos := "law.go:30", after := #[{ on := 13, ground := Ground.guard }], guard := some (13, false) }) (v := ?_) rfl (by kernel_rfl) (by kernel_rfl) (by kernel_rfl) (fun _ _ _ h => h) (Or.inl ⟨by rfl, ?_⟩) hS ?_; rotate_left; focus (intro w' hSw; obtain ⟨s0, s1, sb⟩ := hSw; go_simp <;> try with_reducible rfl))
  try simp only [Act.put, List.setIfInBounds_toArray, List.set_cons_zero, List.set_cons_succ]
  (refine wpAnyH_take (i := 15) (oi := { dst := some 48, op := Op.move (Operand.tmp 0), type := 22, pos := "law.go:30", after := #[{ on := 13, ground := Ground.guard }], guard := some (13, false) }) (v := ?_) rfl (by kernel_rfl) (by kernel_rfl) (by kernel_rfl) (fun _ _ _ h => h) (Or.inl ⟨by rfl, ?_⟩) hS ?_; rotate_left; focus (intro w' hSw; obtain ⟨s0, s1, sb⟩ := hSw; go_simp <;> try with_reducible rfl))
  try simp only [Act.put, List.setIfInBounds_toArray, List.set_cons_zero, List.set_cons_succ]
  (refine wpAnyH_take (i := 16) (oi := { dst := some 49, op := Op.call { callee := Callee.builtin Builtin.len, args := #[Operand.tmp 48], argTypes := #[22] }, type := 3, pos := "law.go:30", after := #[{ on := 15, ground := Ground.data }, { on := 13, ground := Ground.guard }], guard := some (13, false) }) (v := ?_) rfl (by kernel_rfl) (by kernel_rfl) (by kernel_rfl) (fun _ _ _ h => h) (Or.inl ⟨by rfl, ?_⟩) hS ?_; rotate_left; focus (intro w' hSw; obtain ⟨s0, s1, sb⟩ := hSw; go_simp <;> try with_reducible rfl))
  try simp only [Act.put, List.setIfInBounds_toArray, List.set_cons_zero, List.set_cons_succ]
  (refine wpAnyH_take (i := 17) (oi := { dst := some 50, op := Op.slice 22 (Operand.tmp 47) none (some (Operand.tmp 49)) none, type := 22, pos := "law.go:30", after := #[{ on := 14, ground := Ground.data }, { on := 16, ground := Ground.data }, { on := 13, ground := Ground.guard }], guard := some (13, false) }) (v := ?_) rfl (by kernel_rfl) (by kernel_rfl) (by kernel_rfl) (fun _ _ _ h => h) (Or.inl ⟨by rfl, ?_⟩) hS ?_; rotate_left; focus (intro w' hSw; obtain ⟨s0, s1, sb⟩ := hSw; go_simp <;> try with_reducible rfl))
  try simp only [Act.put, List.setIfInBounds_toArray, List.set_cons_zero, List.set_cons_succ]
  (refine wpAnyH_take (i := 18) (oi := { dst := some 51, op := Op.load 25 (Operand.tmp 4), type := 25, pos := "law.go:30", after := #[{ on := 13, ground := Ground.guard }], guard := some (13, false) }) (v := ?_) rfl (by kernel_rfl) (by kernel_rfl) (by kernel_rfl) (fun _ _ _ h => h) (Or.inl ⟨by rfl, ?_⟩) hS ?_; rotate_left; focus (intro w' hSw; obtain ⟨s0, s1, sb⟩ := hSw; obtain ⟨_, _, _, _, _, _, _, _, _⟩ := s0.out9; obtain ⟨_, _, _, _, _, _, _, _, _⟩ := s1.out9; go_simp <;> try with_reducible rfl))
  try simp only [Act.put, List.setIfInBounds_toArray, List.set_cons_zero, List.set_cons_succ]
  (refine wpAnyH_take (i := 20) (oi := { dst := some 53, op := Op.move (Operand.tmp 0), type := 22, pos := "law.go:30", after := #[{ on := 13, ground := Ground.guard }], guard := some (13, false) }) (v := ?_) rfl (by kernel_rfl) (by kernel_rfl) (by kernel_rfl) (fun _ _ _ h => h) (Or.inl ⟨by rfl, ?_⟩) hS ?_; rotate_left; focus (intro w' hSw; obtain ⟨s0, s1, sb⟩ := hSw; go_simp <;> try with_reducible rfl))
  try simp only [Act.put, List.setIfInBounds_toArray, List.set_cons_zero, List.set_cons_succ]
  (refine wpAnyH_take (i := 21) (oi := { dst := some 54, op := Op.load 25 (Operand.tmp 4), type := 25, pos := "law.go:30", after := #[{ on := 13, ground := Ground.guard }], guard := some (13, false) }) (v := ?_) rfl (by kernel_rfl) (by kernel_rfl) (by kernel_rfl) (fun _ _ _ h => h) (Or.inl ⟨by rfl, ?_⟩) hS ?_; rotate_left; focus (intro w' hSw; obtain ⟨s0, s1, sb⟩ := hSw; obtain ⟨_, _, _, _, _, _, _, _, _⟩ := s0.out9; obtain ⟨_, _, _, _, _, _, _, _, _⟩ := s1.out9; go_simp <;> try with_reducible rfl))
  try simp only [Act.put, List.setIfInBounds_toArray, List.set_cons_zero, List.set_cons_succ]
  refine wpAnyH_ready (rs := [19]) (by kernel_rfl) (by simp) ?_
  refine AllReadyH.cons (o := { dst := some 52, op := Op.call { callee := Callee.value (Operand.func 18), args := #[Operand.tmp 50, Operand.tmp 51], argTypes := #[22, 25] }, type := 4, pos := "law.go:30", after := #[{ on := 17, ground := Ground.data }, { on := 18, ground := Ground.data }, { on := 13, ground := Ground.chain }, { on := 13, ground := Ground.guard }], guard := some (13, false) }) rfl (fun K hK => ?_) AllReadyH.nil
  refine take_if (by rfl) ?_
  obtain ⟨s0, s1, sb⟩ := hS
  go_simp
  (with_reducible refine (HHA.out _ _ g10 rt).mono ?_)
  rintro e' g19 ⟨rfl, hb⟩
  have t0 := sb.at_ hb s0 (show w.heap.size < w.heap.size + 1 + 1 by omega)
  have t1 := sb.at_ hb s1 (show w.heap.size + 1 < w.heap.size + 1 + 1 by omega)
  have rl := rl.below hb (Nat.le_refl _)
  have rt := rt.below hb (Nat.le_refl _)
  have rx := rx.below hb (Nat.le_refl _)
  have ra := ra.below hb (Nat.le_refl _)
  have rb := rb.below hb (Nat.le_refl _)
  have oa := oa.below hb (Nat.le_refl _)
  have ob := ob.below hb (Nat.le_refl _)
  have sz := sz.below hb (Nat.le_refl _)
  refine hK.out _ _ ⟨t0, t1, (sb.step hb)⟩ (fun hS => ?_)
  clear hK K hb s0 t0 s1 t1 sb
  try simp only [Act.put, List.setIfInBounds_toArray, List.set_cons_zero, List.set_cons_succ]
  refine wpAnyH_ready (rs := [22]) (by kernel_rfl) (by simp) ?_
  refine AllReadyH.cons (o := { dst := some 55, op := Op.call { callee := Callee.value (Operand.func 19), args := #[Operand.tmp 53, Operand.tmp 54], argTypes := #[22, 25] }, type := 4, pos := "law.go:30", after := #[{ on := 20, ground := Ground.data }, { on := 21, ground := Ground.data }, { on := 19, ground := Ground.chain }, { on := 13, ground := Ground.guard }], guard := some (13, false) }) rfl (fun K hK => ?_) AllReadyH.nil
  refine take_if (by rfl) ?_
  obtain ⟨s0, s1, sb⟩ := hS
  go_simp
  (with_reducible refine (HRHA.out _ _ g19 rl).mono ?_)
  rintro e' g22 ⟨rfl, hb⟩
  have t0 := sb.at_ hb s0 (show w.heap.size < w.heap.size + 1 + 1 by omega)
  have t1 := sb.at_ hb s1 (show w.heap.size + 1 < w.heap.size + 1 + 1 by omega)
  have rl := rl.below hb (Nat.le_refl _)
  have rt := rt.below hb (Nat.le_refl _)
  have rx := rx.below hb (Nat.le_refl _)
  have ra := ra.below hb (Nat.le_refl _)
  have rb := rb.below hb (Nat.le_refl _)
  have oa := oa.below hb (Nat.le_refl _)
  have ob := ob.below hb (Nat.le_refl _)
  have sz := sz.below hb (Nat.le_refl _)
  refine hK.out _ _ ⟨t0, t1, (sb.step hb)⟩ (fun hS => ?_)
  clear hK K hb s0 t0 s1 t1 sb
  try simp only [Act.put, List.setIfInBounds_toArray, List.set_cons_zero, List.set_cons_succ]
  (refine wpAnyH_take (i := 23) (oi := { dst := some 56, op := Op.binOp BinOp.neq 4 (Operand.tmp 52) (Operand.tmp 55) 4, type := 4, pos := "law.go:30", after := #[{ on := 19, ground := Ground.data }, { on := 22, ground := Ground.data }, { on := 13, ground := Ground.guard }], guard := some (13, false) }) (v := ?_) rfl (by kernel_rfl) (by kernel_rfl) (by kernel_rfl) (fun _ _ _ h => h) (Or.inl ⟨by rfl, ?_⟩) hS ?_; rotate_left; focus (intro w' hSw; obtain ⟨s0, s1, sb⟩ := hSw; go_simp <;> try with_reducible rfl))
  try simp only [Act.put, List.setIfInBounds_toArray, List.set_cons_zero, List.set_cons_succ]
  (refine wpAnyH_take (i := 24) (oi := { dst := some 57, op := Op.pick (Operand.tmp 46) (Operand.const (Value.bool true)) (Operand.tmp 56), type := 4, pos := "law.go:30", after := #[{ on := 13, ground := Ground.data }, { on := 23, ground := Ground.data }], guard := none }) (v := ?_) rfl (by kernel_rfl) (by kernel_rfl) (by kernel_rfl) (fun _ _ _ h => h) (Or.inl ⟨by rfl, ?_⟩) hS ?_; rotate_left; focus (intro w' hSw; obtain ⟨s0, s1, sb⟩ := hSw; go_simp <;> try with_reducible rfl))
  try simp only [Act.put, List.setIfInBounds_toArray, List.set_cons_zero, List.set_cons_succ]
  refine wpAnyH_done (by kernel_rfl) ?_ _
  obtain ⟨s0, s1, sb⟩ := hS
  have RX := Lib.hid rx
  have OA := Lib.hid oa
  have OB := Lib.hid ob
  have SZ := Lib.hid sz
  have SB := Lib.hid sb
  clear rl rt rx ra rb oa ob sz s0 s1 sb
  go_wp2_with (first
    | (go_at_call 20; (with_reducible refine (HSP.out _ _ _ g22 OA.out.own).mono ?_); rintro e' z1 ⟨rfl, hf⟩; have hge : ∀ k, (Value.slice A5 (clo l).length cap5).ownBlock = some k → w4.heap.size ≤ k ∧ k < w5.heap.size := fun k hk => ⟨(OA.out.own.lt k hk).1, (HOA5.out.own.lt k hk).2⟩; have hb4 : Below w4.heap.size g22 z1 := hf.bl (Nat.le_trans (Nat.le_trans HB45.out HB56.out) SZ.out.le) (fun i hi => (hge i hi).1); have HBW : Hid (Below w.heap.size w z1) := Lib.hid (SB.out.bl.trans (hb4.mono (Nat.le_trans (by omega) (Nat.le_refl w4.heap.size)))); have HX9 : Hid (Rd z1 z1.heap.size (some ⟨g, 0, none⟩) (l ++ marks)) := Lib.hid (RX.out.blk (fun p hp => hb4.cell (by rw [hp]; exact HGX.out)) (Nat.lt_of_lt_of_le HGX.out (Nat.le_trans (Nat.le_trans (Nat.le_trans HB45.out HB56.out) SZ.out.le) hf.size))); have HOB9 : Hid (OwnA z1 w5.heap.size (.slice A6 (clo l).length cap6) (clo l)) := Lib.hid ⟨own_fr OB.out.own hf (fun k hk hk2 => absurd (OB.out.own.lt k hk).1 (Nat.not_le_of_lt (hge k hk2).2))⟩; clear hf hge hb4)
    | (go_at_call 21; (with_reducible refine (HKE.out g cap z1 HCAP.out (HRDL.out z1 HBW.out) HX9.out).mono ?_); rintro e' z2 ⟨rfl, hb⟩; have HBW2 := Lib.hid (HBW.out.trans (hb.mono HBW.out.size)); have HOB10 := Lib.hid (HOB9.out.below hb (Nat.le_refl _)); clear hb)
    | (go_at_call 13; (with_reducible refine (HCL.out A n z2 (HRDL.out z2 HBW2.out)).mono ?_); rintro e' z3 ⟨A7, cap7, rfl, -, hr, hb⟩; have HR7 := Lib.hid hr; have HBW3 := Lib.hid (HBW2.out.trans (hb.mono HBW2.out.size)); have HOB11 := Lib.hid (HOB10.out.below hb (Nat.le_refl _)); clear hr hb)
    | (go_at_call 15; (with_reducible refine (HSM.out _ _ _ _ z3 HR7.out (own_rd HOB11.out.own)).mono ?_); rintro e' z4 ⟨rfl, hb⟩; have HBW4 := Lib.hid (HBW3.out.trans (hb.mono HBW3.out.size)); clear hb)
    | (go_at_call 11; (with_reducible refine (works_w _).mono ?_); rintro e' wz ⟨rfl, hbz⟩; have BZ := Lib.hid (HBW4.out.trans (hbz.mono HBW4.out.size)); clear hbz))
  go_ret
  exact ⟨rfl, BZ.out⟩
theorem tells_all (l : List Cp) (A : Option Addr) (n : Nat) (c d : Cp) (w : World) (h : Rd w w.heap.size A l) (hraw : ∀ x ∈ l, Raw x) (hlen : l.length ≤ 9223372036854775807) (rc : Raw c) (rd : Raw d) :
    Calls Try.prog 3 #[.slice A l.length n, .agg #[.bool c.tg, .int .i64 c.pe, .int .i64 c.ty, .int .i64 c.mo, .int .i64 c.e, .int .i64 c.b, .int .i64 c.t, .bool c.g, .int .u64 c.a], .agg #[.bool d.tg, .int .i64 d.pe, .int .i64 d.ty, .int .i64 d.mo, .int .i64 d.e, .int .i64 d.b, .int .i64 d.t, .bool d.g, .int .u64 d.a]] w fun e' w' => e' = .returned (.bool true) ∧ Below w.heap.size w w' := by
  cases hr1 : rightL l
  · exact tells_r1 l A n c d w h hraw hlen rc rd hr1
  · cases hr2 : rightC c
    · exact tells_r2 l A n c d w h hraw hlen rc rd hr1 hr2
    · cases hr3 : rightC d
      · exact tells_r3 l A n c d w h hraw hlen rc rd hr1 hr2 hr3
      · exact tells_core l A n c d w h hraw hlen rc rd hr1 hr2 hr3
end Go.Proofs.Ytmehbildddlgaaa
namespace Go.Proofs.Ytmehbildddlgaaa.orderTells
open Go.ChangeShapes Go.WideShapes Go.ChangeAt Go.RowKit
theorem own : ownKnob Try.prog.godebug = none := by kernel_rfl
set_option maxHeartbeats 8000000 in
set_option maxRecDepth 100000 in
theorem walk (L : List Cp) (A : Option Addr) (n : Nat) (a0 : Bool) (a1 : Int) (a2 : Int) (a3 : Int) (a4 : Int) (a5 : Int) (a6 : Int) (a7 : Bool) (a8 : Int) (a9 : Bool) (a10 : Int) (a11 : Int) (a12 : Int) (a13 : Int) (a14 : Int) (a15 : Int) (a16 : Bool) (a17 : Int) (w1 : (Lit.int .i64 a1).wf = true) (w2 : (Lit.int .i64 a2).wf = true) (w3 : (Lit.int .i64 a3).wf = true) (w4 : (Lit.int .i64 a4).wf = true) (w5 : (Lit.int .i64 a5).wf = true) (w6 : (Lit.int .i64 a6).wf = true) (w8 : (Lit.int .u64 a8).wf = true) (w10 : (Lit.int .i64 a10).wf = true) (w11 : (Lit.int .i64 a11).wf = true) (w12 : (Lit.int .i64 a12).wf = true) (w13 : (Lit.int .i64 a13).wf = true) (w14 : (Lit.int .i64 a14).wf = true) (w15 : (Lit.int .i64 a15).wf = true) (w17 : (Lit.int .u64 a17).wf = true) (w : World) (hrd : Rd w w.heap.size A L) (hraw : ∀ x ∈ L, Raw x) (hlen : L.length ≤ 9223372036854775807) :
    Calls Try.prog 3 #[.slice A L.length n, .agg #[.bool a0, .int .i64 a1, .int .i64 a2, .int .i64 a3, .int .i64 a4, .int .i64 a5, .int .i64 a6, .bool a7, .int .u64 a8], .agg #[.bool a9, .int .i64 a10, .int .i64 a11, .int .i64 a12, .int .i64 a13, .int .i64 a14, .int .i64 a15, .bool a16, .int .u64 a17]] w fun e w' => e = .returned (.bool true) ∧ Below w.heap.size w w' :=
  tells_all L A n ⟨a0, a1, a2, a3, a4, a5, a6, a7, a8⟩ ⟨a9, a10, a11, a12, a13, a14, a15, a16, a17⟩  w hrd hraw hlen ⟨(i64_bd w1).1, (i64_bd w1).2, (i64_bd w2).1, (i64_bd w2).2, (i64_bd w3).1, (i64_bd w3).2, (i64_bd w4).1, (i64_bd w4).2, (i64_bd w5).1, (i64_bd w5).2, (i64_bd w6).1, (i64_bd w6).2, (u64_bd w8).1, (u64_bd w8).2⟩ ⟨(i64_bd w10).1, (i64_bd w10).2, (i64_bd w11).1, (i64_bd w11).2, (i64_bd w12).1, (i64_bd w12).2, (i64_bd w13).1, (i64_bd w13).2, (i64_bd w14).1, (i64_bd w14).2, (i64_bd w15).1, (i64_bd w15).2, (u64_bd w17).1, (u64_bd w17).2⟩ 

end Go.Proofs.Ytmehbildddlgaaa.orderTells
