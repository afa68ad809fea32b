/-
  RamApart of layer 11: stores that have no byte in common, in either order. No condition.
-/
import Derived.Test.YteebmikjikjhmaaDoorQTags
namespace Go.Proofs.YteebmikjikjhmaaDoor
open Go.ChangeShapes Go.WideShapes Go.ChangeAt Go.RowKit
set_option linter.unusedVariables false
set_option linter.unusedSimpArgs false
def kS4 : List Int := [1, 2, 4, 8]
theorem s4_at (i : Nat) (hi : i < 4) : ∃ s : Nat, kS4[i]? = some (s : Int) ∧ szB (s : Int) = true ∧ 1 ≤ s ∧ s ≤ 8 := by
  rcases (show i = 0 ∨ i = 1 ∨ i = 2 ∨ i = 3 by omega) with rfl | rfl | rfl | rfl
  · exact ⟨1, rfl, by decide, by decide, by decide⟩
  · exact ⟨2, rfl, by decide, by decide, by decide⟩
  · exact ⟨4, rfl, by decide, by decide, by decide⟩
  · exact ⟨8, rfl, by decide, by decide, by decide⟩
def pB1 (q : Nat) (a d : Int) : List Int := layB (layB kB0 (16 * q) a 8) (16 * q + 8) d 8
def pT1 (q : Nat) : List Bool := kT0.set q true
theorem pl1 (q : Nat) (a d : Int) : (pB1 q a d).length = 4096 := by rw [pB1, layB_len, layB_len, kl0]
theorem pt1 (q : Nat) : (pT1 q).length = 256 := by rw [pT1, List.length_set]; exact List.length_replicate
theorem kt0 : kT0.length = 256 := List.length_replicate
theorem pb_1 (q : Nat) (hq : q < 256) (a d : Int) : cB kB0 ((q : Int) * 16) a d = pB1 q a d := by
  rw [show (q : Int) * 16 = ((16 * q : Nat) : Int) by omega, cB, if_pos (cpO_mk _ q (by rw [kl0]; omega)), Int.toNat_natCast]; rfl
theorem pt_1 (q : Nat) (hq : q < 256) : cT kB0.length kT0 ((q : Int) * 16) true = pT1 q := by
  rw [show (q : Int) * 16 = ((16 * q : Nat) : Int) by omega, kl0, cT_yes (by omega)]; rfl
theorem po_1 (q : Nat) (hq : q < 256) : cpO kB0.length ((q : Int) * 16) = true := by
  rw [show (q : Int) * 16 = ((16 * q : Nat) : Int) by omega, kl0]; exact cpO_mk 4096 q (by omega)
theorem untag_q (q o1 s1 o2 s2 : Nat) (hq : q < 256) (h1 : o1 + s1 ≤ 4096) (h2 : o2 + s2 ≤ 4096) (p1 : 1 ≤ s1) (p2 : 1 ≤ s2) :
    ((tgs 0 (unT (unT (pT1 q) o1 s1) o2 s2)).length == 0) = ((decide (16 * q ≤ o1 + s1 - 1) && decide (o1 ≤ 16 * q + 15)) || (decide (16 * q ≤ o2 + s2 - 1) && decide (o2 ≤ 16 * q + 15))) := by
  have hat : ∀ j, (unT (unT (pT1 q) o1 s1) o2 s2).getD j false = (decide (q = j) && !decide (0 < s1 ∧ o1 / 16 ≤ j ∧ j ≤ (o1 + s1 - 1) / 16) && !decide (0 < s2 ∧ o2 / 16 ≤ j ∧ j ≤ (o2 + s2 - 1) / 16)) := by
    intro j
    rw [unT_at _ _ _ (by rw [unT_len, pt1]; omega), unT_at _ _ _ (by rw [pt1]; omega), pT1, getD_set _ _ _ _ _ (by rw [kt0]; exact hq)]
    congr 2
    by_cases e : q = j
    · rw [if_pos e]; simp [e]
    · rw [if_neg e]
      have : kT0.getD j false = false := by
        rw [kT0, List.getD_eq_getElem?_getD, List.getElem?_replicate]; split <;> rfl
      rw [this]; simp [e]
  rw [Bool.eq_iff_iff, beq_iff_eq, List.length_eq_zero_iff, tgs_nil]
  simp only [hat, Bool.or_eq_true, Bool.and_eq_true, decide_eq_true_eq]
  constructor
  · intro h
    have := h q
    simp at this
    omega
  · intro h j
    by_cases e : q = j
    · subst e
      simp
      omega
    · simp [e]
theorem sB_st (B : List Int) (o s : Nat) (v : Int) (hs : szB (s : Int) = true) (n : Nat) (hB : B.length = n) (h : o + s ≤ n) : sB B o s v = layB B o v s := sB_nat B o s v hs (by omega)
theorem sT_st (B : List Int) (T : List Bool) (o s : Nat) (hs : szB (s : Int) = true) (n : Nat) (hB : B.length = n) (h : o + s ≤ n) : sT B.length T o s = unT T o s := sT_nat _ T o s hs (by omega)
theorem sO_st (B : List Int) (o s : Nat) (hs : szB (s : Int) = true) (n : Nat) (hB : B.length = n) (h : o + s ≤ n) : ldO B.length o s = true := ldO_mk _ o s hs (by omega)
set_option maxRecDepth 100000 in
set_option maxHeartbeats 32000000 in
theorem apart_w (xk xo xs : Int) (xt : Bool) (xa xm : Int) (yk yo ys : Int) (yt : Bool) (ya ym : Int) (xk0 : -9223372036854775808 ≤ xk) (xk1 : xk < 9223372036854775808) (xo0 : -9223372036854775808 ≤ xo) (xo1 : xo < 9223372036854775808) (xs0 : -9223372036854775808 ≤ xs) (xs1 : xs < 9223372036854775808) (yk0 : -9223372036854775808 ≤ yk) (yk1 : yk < 9223372036854775808) (yo0 : -9223372036854775808 ≤ yo) (yo1 : yo < 9223372036854775808) (ys0 : -9223372036854775808 ≤ ys) (ys1 : ys < 9223372036854775808) (xa0 : 0 ≤ xa) (xa1 : xa < 18446744073709551616) (xm0 : 0 ≤ xm) (xm1 : xm < 18446744073709551616) (ya0 : 0 ≤ ya) (ya1 : ya < 18446744073709551616) (ym0 : 0 ≤ ym) (ym1 : ym < 18446744073709551616) (W : World) (tb : Tb W) :
    Calls Tryd.prog 7 #[.agg #[.int .i64 xk, .int .i64 xo, .int .i64 xs, .bool xt, .int .u64 xa, .int .u64 xm], .agg #[.int .i64 yk, .int .i64 yo, .int .i64 ys, .bool yt, .int .u64 ya, .int .u64 ym]] W fun e w' => e = .returned (.bool true) ∧ Below W.heap.size W w' := by
  have HTB := Lib.hid tb
  clear tb
  have HN : Hid (∀ w, Calls Tryd.prog 8 #[.int .i64 4096] w fun e w' => ∃ g, e = .returned (.tuple #[.pointer (some ⟨g, 0, none⟩), .int .i64 0]) ∧ Ob w' w.heap.size w'.heap.size g kB0 kT0 ∧ Below w.heap.size w w') := Lib.hid (fun w => cnew_yes 4096 (by decide) w)
  obtain ⟨ia, hia⟩ : ∃ p : Nat, xs % 4 = (p : Int) := Int.eq_ofNat_of_zero_le (by omega)
  obtain ⟨ib, hib⟩ : ∃ p : Nat, ys % 4 = (p : Int) := Int.eq_ofNat_of_zero_le (by omega)
  obtain ⟨A0, hA0⟩ : ∃ p : Nat, xo % 4089 = (p : Int) := Int.eq_ofNat_of_zero_le (by omega)
  obtain ⟨B0, hB0⟩ : ∃ p : Nat, yo % 4089 = (p : Int) := Int.eq_ofNat_of_zero_le (by omega)
  obtain ⟨q, hq⟩ : ∃ p : Nat, xk % 256 = (p : Int) := Int.eq_ofNat_of_zero_le (by omega)
  have hia4 : ia < 4 := by omega
  have hib4 : ib < 4 := by omega
  have hA4 : A0 < 4089 := by omega
  have hB4 : B0 < 4089 := by omega
  have hq4 : q < 256 := by omega
  obtain ⟨sx, hsx, zx, px, rx⟩ := s4_at ia hia4
  obtain ⟨sy, hsy, zy, py, ry⟩ := s4_at ib hib4
  have HPA := Lib.hid hia
  have HPB := Lib.hid hib
  have HPC := Lib.hid hA0
  have HPD := Lib.hid hB0
  have HPE := Lib.hid hq
  have HSX := Lib.hid (show (kS4.map (Value.int .i64))[ia]? = some (.int .i64 sx) by rw [List.getElem?_map, hsx]; rfl)
  have HSY := Lib.hid (show (kS4.map (Value.int .i64))[ib]? = some (.int .i64 sy) by rw [List.getElem?_map, hsy]; rfl)
  have HZX := Lib.hid zx
  have HZY := Lib.hid zy
  clear hia hib hA0 hB0 hq hsx hsy zx zy
  have hbA : At W.heap.size [.int .i64 xk, .int .i64 xo, .int .i64 xs, .bool xt, .int .u64 xa, .int .u64 xm] ((W.alloc (.cells #[.int .i64 xk, .int .i64 xo, .int .i64 xs, .bool xt, .int .u64 xa, .int .u64 xm] 34)).alloc (.cells #[.int .i64 yk, .int .i64 yo, .int .i64 ys, .bool yt, .int .u64 ya, .int .u64 ym] 34)) := (At.new W [.int .i64 xk, .int .i64 xo, .int .i64 xs, .bool xt, .int .u64 xa, .int .u64 xm] 34).alloc _
  have hbB : At (W.heap.size + 1) [.int .i64 yk, .int .i64 yo, .int .i64 ys, .bool yt, .int .u64 ya, .int .u64 ym] ((W.alloc (.cells #[.int .i64 xk, .int .i64 xo, .int .i64 xs, .bool xt, .int .u64 xa, .int .u64 xm] 34)).alloc (.cells #[.int .i64 yk, .int .i64 yo, .int .i64 ys, .bool yt, .int .u64 ya, .int .u64 ym] 34)) := At.new' (W.alloc (.cells #[.int .i64 xk, .int .i64 xo, .int .i64 xs, .bool xt, .int .u64 xa, .int .u64 xm] 34)) [.int .i64 yk, .int .i64 yo, .int .i64 ys, .bool yt, .int .u64 ya, .int .u64 ym] 34 (by simp)
  have HA0 := Lib.hid hbA
  have HD0 := Lib.hid hbB
  have HB0 := Lib.hid (((Below.refl W.heap.size W).alloc (Nat.le_refl _) (.cells #[.int .i64 xk, .int .i64 xo, .int .i64 xs, .bool xt, .int .u64 xa, .int .u64 xm] 34)).alloc (by simp) (.cells #[.int .i64 yk, .int .i64 yo, .int .i64 ys, .bool yt, .int .u64 ya, .int .u64 ym] 34))
  have hW2 : ((W.alloc (.cells #[.int .i64 xk, .int .i64 xo, .int .i64 xs, .bool xt, .int .u64 xa, .int .u64 xm] 34)).alloc (.cells #[.int .i64 yk, .int .i64 yo, .int .i64 ys, .bool yt, .int .u64 ya, .int .u64 ym] 34)).heap.size = W.heap.size + 2 := by simp
  clear hbA hbB
  go_enter Tryd.func7, Tryd.ntmps7
  go_upto_region 1 with fail
  generalize ((W.alloc (.cells #[.int .i64 xk, .int .i64 xo, .int .i64 xs, .bool xt, .int .u64 xa, .int .u64 xm] 34)).alloc (.cells #[.int .i64 yk, .int .i64 yo, .int .i64 ys, .bool yt, .int .u64 ya, .int .u64 ym] 34)) = w0 at HA0 HD0 HB0 hW2 ⊢
  go_upto_region 6 with (first | (go_at_call 8; (with_reducible refine (HN.out _).mono ?_); rintro e' w1 ⟨g1, rfl, oo, fb⟩; have hbot1 := oo.bot; have hgh1 := oo.gh; have hs1 := fb.size; have HR1 := Lib.hid oo; have HA1 := Lib.hid (HA0.out.bel fb (by omega)); have HD1 := Lib.hid (HD0.out.bel fb (by omega)); have HB1 := Lib.hid (HB0.out.trans (fb.mono (by omega))); clear oo fb) | (go_at_call 8; (with_reducible refine (HN.out _).mono ?_); rintro e' w2 ⟨g2, rfl, oo, fb⟩; have hbot2 := oo.bot; have hgh2 := oo.gh; have hs2 := fb.size; have HR2 := Lib.hid (HR1.out.below fb); have HS2 := Lib.hid oo; have HA2 := Lib.hid (HA1.out.bel fb (by omega)); have HD2 := Lib.hid (HD1.out.bel fb (by omega)); have HB2 := Lib.hid (HB1.out.trans (fb.mono (by omega))); clear oo fb))
  have hZ : At w2.heap.size (kS4.map (Value.int .i64)) (w2.alloc (.cells #[.int .i64 1, .int .i64 2, .int .i64 4, .int .i64 8] 3)) := At.new w2 (kS4.map (Value.int .i64)) _
  have cx := hZ ia _ HSX.out
  have cy := hZ ib _ HSY.out
  have hs3 : (w2.alloc (.cells #[.int .i64 1, .int .i64 2, .int .i64 4, .int .i64 8] 3)).heap.size = w2.heap.size + 1 := by simp
  have HR3 := Lib.hid (HR2.out.fr ((Fr.refl w2 (fun _ => False)).alloc (.cells #[.int .i64 1, .int .i64 2, .int .i64 4, .int .i64 8] 3)) (fun _ _ _ h => h))
  have HS3 := Lib.hid (HS2.out.fr ((Fr.refl w2 (fun _ => False)).alloc (.cells #[.int .i64 1, .int .i64 2, .int .i64 4, .int .i64 8] 3)) (fun _ _ _ h => h))
  have HA3 := Lib.hid (HA2.out.alloc (.cells #[.int .i64 1, .int .i64 2, .int .i64 4, .int .i64 8] 3))
  have HD3 := Lib.hid (HD2.out.alloc (.cells #[.int .i64 1, .int .i64 2, .int .i64 4, .int .i64 8] 3))
  have HB3 := Lib.hid (HB2.out.alloc (by omega) (.cells #[.int .i64 1, .int .i64 2, .int .i64 4, .int .i64 8] 3))
  clear hZ
  generalize w2.alloc (.cells #[.int .i64 1, .int .i64 2, .int .i64 4, .int .i64 8] 3) = w3 at cx cy hs3 HR3 HS3 HA3 HD3 HB3 ⊢
  obtain ⟨a30, a31, a32, a33, a34, a35⟩ := HA3.out.out6
  obtain ⟨b30, b31, b32, b33, b34, b35⟩ := HD3.out.out6
  by_cases hov : (A0 < B0 + sy ∧ B0 < A0 + sx)
  · have i1 : decide ((A0 : Int) < (B0 : Int) + (sy : Int)) = true := by simp; omega
    have i2 : decide ((B0 : Int) < (A0 : Int) + (sx : Int)) = true := by simp; omega
    go_wp2_with (first | (go_at_call 19; (with_reducible refine (pick_at xs 4 _ HPA.out xs0 xs1 (by decide) (by decide) _).mono ?_); rintro e' wp ⟨rfl, rfl⟩) | (go_at_call 19; (with_reducible refine (pick_at ys 4 _ HPB.out ys0 ys1 (by decide) (by decide) _).mono ?_); rintro e' wp ⟨rfl, rfl⟩) | (go_at_call 19; (with_reducible refine (pick_at xo 4089 _ HPC.out xo0 xo1 (by decide) (by decide) _).mono ?_); rintro e' wp ⟨rfl, rfl⟩) | (go_at_call 19; (with_reducible refine (pick_at yo 4089 _ HPD.out yo0 yo1 (by decide) (by decide) _).mono ?_); rintro e' wp ⟨rfl, rfl⟩) | (go_at_call 19; (with_reducible refine (pick_at xk 256 _ HPE.out xk0 xk1 (by decide) (by decide) _).mono ?_); rintro e' wp ⟨rfl, rfl⟩) | (go_at_call 10; (with_reducible refine Calls.mono (known11_w _ (by exact Tb.h1 HTB (by assumption))) ?_); rintro e' wz ⟨rfl, fb⟩; have HZ := Lib.hid (HB3.out.trans (fb.mono (by omega))); clear fb))
    go_ret
    exact ⟨rfl, HZ.out⟩
  · have hdis : A0 + sx ≤ B0 ∨ B0 + sy ≤ A0 := by omega
    have HC1 := Lib.hid (pb_1 q hq4 xm ym)
    have HC2 := Lib.hid (pt_1 q hq4)
    have HC3 := Lib.hid (po_1 q hq4)
    have HE1 := Lib.hid (sB_st (pB1 q xm ym) A0 sx xa HZX.out 4096 (pl1 _ _ _) (by omega))
    have HE2 := Lib.hid (sT_st (pB1 q xm ym) (pT1 q) A0 sx HZX.out 4096 (pl1 _ _ _) (by omega))
    have HE3 := Lib.hid (sO_st (pB1 q xm ym) A0 sx HZX.out 4096 (pl1 _ _ _) (by omega))
    have HF1 := Lib.hid (sB_st (layB (pB1 q xm ym) A0 xa sx) B0 sy ya HZY.out 4096 (by rw [layB_len, pl1]) (by omega))
    have HF2 := Lib.hid (sT_st (layB (pB1 q xm ym) A0 xa sx) (unT (pT1 q) A0 sx) B0 sy HZY.out 4096 (by rw [layB_len, pl1]) (by omega))
    have HF3 := Lib.hid (sO_st (layB (pB1 q xm ym) A0 xa sx) B0 sy HZY.out 4096 (by rw [layB_len, pl1]) (by omega))
    have HG1 := Lib.hid (sB_st (pB1 q xm ym) B0 sy ya HZY.out 4096 (pl1 _ _ _) (by omega))
    have HG2 := Lib.hid (sT_st (pB1 q xm ym) (pT1 q) B0 sy HZY.out 4096 (pl1 _ _ _) (by omega))
    have HG3 := Lib.hid (sO_st (pB1 q xm ym) B0 sy HZY.out 4096 (pl1 _ _ _) (by omega))
    have HH1 := Lib.hid ((sB_st (layB (pB1 q xm ym) B0 ya sy) A0 sx xa HZX.out 4096 (by rw [layB_len, pl1]) (by omega)).trans (layB_comm (pB1 q xm ym) B0 sy A0 sx ya xa (by rw [pl1]; omega) (by rw [pl1]; omega) (by omega)))
    have HH2 := Lib.hid ((sT_st (layB (pB1 q xm ym) B0 ya sy) (unT (pT1 q) B0 sy) A0 sx HZX.out 4096 (by rw [layB_len, pl1]) (by omega)).trans (unT_comm (pT1 q) B0 sy A0 sx (by rw [pt1]; omega) (by rw [pt1]; omega)))
    have HH3 := Lib.hid (sO_st (layB (pB1 q xm ym) B0 ya sy) A0 sx HZX.out 4096 (by rw [layB_len, pl1]) (by omega))
    obtain ⟨LT, hLT⟩ : ∃ LT, tgs 0 (unT (unT (pT1 q) A0 sx) B0 sy) = LT := ⟨_, rfl⟩
    have HTG := Lib.hid hLT
    have HTL := Lib.hid (show LT.length ≤ 1000000 by have := tgs_len 0 (unT (unT (pT1 q) A0 sx) B0 sy); rw [hLT, unT_len, unT_len, pt1] at this; omega)
    have HTU := Lib.hid (show (LT.length == 0) = ((decide (16 * q ≤ A0 + sx - 1) && decide (A0 ≤ 16 * q + 15)) || (decide (16 * q ≤ B0 + sy - 1) && decide (B0 ≤ 16 * q + 15))) by rw [← hLT]; exact untag_q q A0 sx B0 sy hq4 (by omega) (by omega) px py)
    have HLN := Lib.hid (show (layB (layB (pB1 q xm ym) A0 xa sx) B0 ya sy).length = 4096 by rw [layB_len, layB_len, pl1])
    clear hLT
    rcases (show (B0 + sy ≤ A0) ∨ (A0 < B0 + sy ∧ A0 + sx ≤ B0) by omega) with hway | ⟨hw1, hw2⟩
    · have i1 : decide ((A0 : Int) < (B0 : Int) + (sy : Int)) = false := by simp; omega
      go_upto_region 18 with (first | (go_at_call 19; (with_reducible refine (pick_at xs 4 _ HPA.out xs0 xs1 (by decide) (by decide) _).mono ?_); rintro e' wp ⟨rfl, rfl⟩) | (go_at_call 19; (with_reducible refine (pick_at ys 4 _ HPB.out ys0 ys1 (by decide) (by decide) _).mono ?_); rintro e' wp ⟨rfl, rfl⟩) | (go_at_call 19; (with_reducible refine (pick_at xo 4089 _ HPC.out xo0 xo1 (by decide) (by decide) _).mono ?_); rintro e' wp ⟨rfl, rfl⟩) | (go_at_call 19; (with_reducible refine (pick_at yo 4089 _ HPD.out yo0 yo1 (by decide) (by decide) _).mono ?_); rintro e' wp ⟨rfl, rfl⟩) | (go_at_call 19; (with_reducible refine (pick_at xk 256 _ HPE.out xk0 xk1 (by decide) (by decide) _).mono ?_); rintro e' wp ⟨rfl, rfl⟩) | (go_at_call 20; (with_reducible refine (cstorecap_at HR3.out ((q : Int) * 16) true xm ym true _ _ HC1.out HC2.out HC3.out (by omega) (by omega) xm0 xm1 ym0 ym1).mono ?_); rintro e' w4 ⟨rfl, oo, ff⟩; have hs4 := ff.size; have HA4 := Lib.hid (HA3.out.frm ff (by omega) (fun x => by unfold Rg at x; omega)); have HD4 := Lib.hid (HD3.out.frm ff (by omega) (fun x => by unfold Rg at x; omega)); have HR4 := Lib.hid oo; have HS4 := Lib.hid (HS3.out.fr ff (fun i h1 h2 x => by unfold Rg at x; omega)); have HB4 := Lib.hid (HB3.out.trans (ff.bl (by omega) (fun i x => by unfold Rg at x; omega))); obtain ⟨a40, a41, a42, a43, a44, a45⟩ := HA4.out.out6; obtain ⟨b40, b41, b42, b43, b44, b45⟩ := HD4.out.out6; clear ff oo) | (go_at_call 20; (with_reducible refine (cstorecap_at HS4.out ((q : Int) * 16) true xm ym true _ _ HC1.out HC2.out HC3.out (by omega) (by omega) xm0 xm1 ym0 ym1).mono ?_); rintro e' w5 ⟨rfl, oo, ff⟩; have hs5 := ff.size; have HA5 := Lib.hid (HA4.out.frm ff (by omega) (fun x => by unfold Rg at x; omega)); have HD5 := Lib.hid (HD4.out.frm ff (by omega) (fun x => by unfold Rg at x; omega)); have HS5 := Lib.hid oo; have HR5 := Lib.hid (HR4.out.fr ff (fun i h1 h2 x => by unfold Rg at x; omega)); have HB5 := Lib.hid (HB4.out.trans (ff.bl (by omega) (fun i x => by unfold Rg at x; omega))); obtain ⟨a50, a51, a52, a53, a54, a55⟩ := HA5.out.out6; obtain ⟨b50, b51, b52, b53, b54, b55⟩ := HD5.out.out6; clear ff oo) | (go_at_call 21; (with_reducible refine (cstore_at HR5.out A0 sx xa true _ _ HE1.out HE2.out HE3.out (by omega) (by omega) (by omega) (by omega) xa0 xa1).mono ?_); rintro e' w6 ⟨rfl, oo, ff⟩; have hs6 := ff.size; have HA6 := Lib.hid (HA5.out.frm ff (by omega) (fun x => by unfold Rg at x; omega)); have HD6 := Lib.hid (HD5.out.frm ff (by omega) (fun x => by unfold Rg at x; omega)); have HR6 := Lib.hid oo; have HS6 := Lib.hid (HS5.out.fr ff (fun i h1 h2 x => by unfold Rg at x; omega)); have HB6 := Lib.hid (HB5.out.trans (ff.bl (by omega) (fun i x => by unfold Rg at x; omega))); obtain ⟨a60, a61, a62, a63, a64, a65⟩ := HA6.out.out6; obtain ⟨b60, b61, b62, b63, b64, b65⟩ := HD6.out.out6; clear ff oo) | (go_at_call 21; (with_reducible refine (cstore_at HR6.out B0 sy ya true _ _ HF1.out HF2.out HF3.out (by omega) (by omega) (by omega) (by omega) ya0 ya1).mono ?_); rintro e' w7 ⟨rfl, oo, ff⟩; have hs7 := ff.size; have HA7 := Lib.hid (HA6.out.frm ff (by omega) (fun x => by unfold Rg at x; omega)); have HD7 := Lib.hid (HD6.out.frm ff (by omega) (fun x => by unfold Rg at x; omega)); have HR7 := Lib.hid oo; have HS7 := Lib.hid (HS6.out.fr ff (fun i h1 h2 x => by unfold Rg at x; omega)); have HB7 := Lib.hid (HB6.out.trans (ff.bl (by omega) (fun i x => by unfold Rg at x; omega))); obtain ⟨a70, a71, a72, a73, a74, a75⟩ := HA7.out.out6; obtain ⟨b70, b71, b72, b73, b74, b75⟩ := HD7.out.out6; clear ff oo) | (go_at_call 21; (with_reducible refine (cstore_at HS7.out B0 sy ya true _ _ HG1.out HG2.out HG3.out (by omega) (by omega) (by omega) (by omega) ya0 ya1).mono ?_); rintro e' w8 ⟨rfl, oo, ff⟩; have hs8 := ff.size; have HA8 := Lib.hid (HA7.out.frm ff (by omega) (fun x => by unfold Rg at x; omega)); have HD8 := Lib.hid (HD7.out.frm ff (by omega) (fun x => by unfold Rg at x; omega)); have HS8 := Lib.hid oo; have HR8 := Lib.hid (HR7.out.fr ff (fun i h1 h2 x => by unfold Rg at x; omega)); have HB8 := Lib.hid (HB7.out.trans (ff.bl (by omega) (fun i x => by unfold Rg at x; omega))); obtain ⟨a80, a81, a82, a83, a84, a85⟩ := HA8.out.out6; obtain ⟨b80, b81, b82, b83, b84, b85⟩ := HD8.out.out6; clear ff oo) | (go_at_call 21; (with_reducible refine (cstore_at HS8.out A0 sx xa true _ _ HH1.out HH2.out HH3.out (by omega) (by omega) (by omega) (by omega) xa0 xa1).mono ?_); rintro e' w9 ⟨rfl, oo, ff⟩; have hs9 := ff.size; have HA9 := Lib.hid (HA8.out.frm ff (by omega) (fun x => by unfold Rg at x; omega)); have HD9 := Lib.hid (HD8.out.frm ff (by omega) (fun x => by unfold Rg at x; omega)); have HS9 := Lib.hid oo; have HR9 := Lib.hid (HR8.out.fr ff (fun i h1 h2 x => by unfold Rg at x; omega)); have HB9 := Lib.hid (HB8.out.trans (ff.bl (by omega) (fun i x => by unfold Rg at x; omega))); obtain ⟨a90, a91, a92, a93, a94, a95⟩ := HA9.out.out6; obtain ⟨b90, b91, b92, b93, b94, b95⟩ := HD9.out.out6; clear ff oo) | (go_at_call 15; (with_reducible refine (ctagged_at HR9.out _ HTG.out (by exact Tb.h1 HTB (by assumption))).mono ?_); rintro e' w10 ⟨v10, rfl, rd, fb⟩; have HV10 := Lib.hid rd; have hs10 := fb.size; have HA10 := Lib.hid (HA9.out.bel fb (by omega)); have HD10 := Lib.hid (HD9.out.bel fb (by omega)); have HR10 := Lib.hid (HR9.out.below fb); have HS10 := Lib.hid (HS9.out.below fb); have HB10 := Lib.hid (HB9.out.trans (fb.mono (by omega))); obtain ⟨a100, a101, a102, a103, a104, a105⟩ := HA10.out.out6; obtain ⟨b100, b101, b102, b103, b104, b105⟩ := HD10.out.out6; clear fb; clear rd) | (go_at_call 15; (with_reducible refine (ctagged_at HS10.out _ HTG.out (by exact Tb.h1 HTB (by assumption))).mono ?_); rintro e' w11 ⟨v11, rfl, rd, fb⟩; have HV11 := Lib.hid rd; have HU11 := Lib.hid (HV10.out.below fb); have hs11 := fb.size; have HA11 := Lib.hid (HA10.out.bel fb (by omega)); have HD11 := Lib.hid (HD10.out.bel fb (by omega)); have HR11 := Lib.hid (HR10.out.below fb); have HS11 := Lib.hid (HS10.out.below fb); have HB11 := Lib.hid (HB10.out.trans (fb.mono (by omega))); obtain ⟨a110, a111, a112, a113, a114, a115⟩ := HA11.out.out6; obtain ⟨b110, b111, b112, b113, b114, b115⟩ := HD11.out.out6; clear fb; clear rd) | (go_at_call 14; (with_reducible refine (sameI_w _ _ _ _ _ HU11.out HV11.out HTL.out HTL.out true (decide_eq_true rfl)).mono ?_); rintro e' w12 ⟨rfl, kk⟩; have fb := kk.1; clear kk; have hs12 := fb.size; have HA12 := Lib.hid (HA11.out.bel fb (by omega)); have HD12 := Lib.hid (HD11.out.bel fb (by omega)); have HR12 := Lib.hid (HR11.out.below fb); have HS12 := Lib.hid (HS11.out.below fb); have HB12 := Lib.hid (HB11.out.trans (fb.mono (by omega))); obtain ⟨a120, a121, a122, a123, a124, a125⟩ := HA12.out.out6; obtain ⟨b120, b121, b122, b123, b124, b125⟩ := HD12.out.out6; clear fb))
      have HRX := Lib.hid HR12.out
      clear a30 b30 a31 b31 a32 b32 a33 b33 a34 b34 a35 b35 a40 b40 a41 b41 a42 b42 a43 b43 a44 b44 a45 b45 a50 b50 a51 b51 a52 b52 a53 b53 a54 b54 a55 b55 a60 b60 a61 b61 a62 b62 a63 b63 a64 b64 a65 b65 a70 b70 a71 b71 a72 b72 a73 b73 a74 b74 a75 b75 a80 b80 a81 b81 a82 b82 a83 b83 a84 b84 a85 b85 a90 b90 a91 b91 a92 b92 a93 b93 a94 b94 a95 b95 a100 b100 a101 b101 a102 b102 a103 b103 a104 b104 a105 b105 a110 b110 a111 b111 a112 b112 a113 b113 a114 b114 a115 b115 a120 b120 a121 b121 a122 b122 a123 b123 a124 b124 a125 b125 cx cy
      go_loopw [15] (fun i wq => ∃ k : Nat, 8 * k ≤ 4096 ∧ i = .int .i64 ((8 * k : Nat) : Int) ∧ Below w12.heap.size w12 wq) (fun i _ => 4096 - (intOf i).toNat)
      case atStart => exact ⟨0, by omega, rfl, Below.refl _ _⟩
      case round =>
        obtain ⟨k, hk, rfl, hb⟩ := hrel
        have hwr := hb.size
        have HRk := Lib.hid (HR12.out.below hb)
        have HSk := Lib.hid (HS12.out.below hb)
        have HBk := Lib.hid hb
        clear hb
        obtain ⟨p, hp⟩ : ∃ p, 8 * k = p := ⟨_, rfl⟩
        rw [hp]
        have HP := Lib.hid hp
        have hp4 : p ≤ 4096 := by omega
        have hp8 : p % 8 = 0 := by omega
        clear hp hk
        by_cases hlt : p < 4096
        · have HOK := Lib.hid (show ldO (layB (layB (pB1 q xm ym) A0 xa sx) B0 ya sy).length p 8 = true by rw [HLN.out]; exact ldO_in 4096 p (by omega) p rfl)
          obtain ⟨x, hx⟩ : ∃ x, ldN (layB (layB (pB1 q xm ym) A0 xa sx) B0 ya sy) p 8 = x := ⟨_, rfl⟩
          have HX := Lib.hid hx
          clear hx
          have e0 : (x != x) = false := by simp
          go_wp2_with (first | (go_at_call 17; (with_reducible refine (cload_at HRk.out p 8 x true HX.out HOK.out (by omega) (by omega) (by decide) (by decide)).mono ?_); rintro e' u1 ⟨rfl, fb⟩; have hu1 := fb.size; have HSu := Lib.hid (HSk.out.below fb); have HBu := Lib.hid (HBk.out.trans (fb.mono (by omega))); clear fb) | (go_at_call 17; (with_reducible refine (cload_at HSu.out p 8 x true HX.out HOK.out (by omega) (by omega) (by decide) (by decide)).mono ?_); rintro e' u2 ⟨rfl, fb⟩; have HBv := Lib.hid (HBu.out.trans (fb.mono (by omega))); clear fb))
          go_roundw
          case rel => exact ⟨k + 1, by have := HP.out; omega, by have := HP.out; (congr 1; omega), HBv.out⟩
          case measure => simp [intOf]; omega
        · obtain rfl : p = 4096 := by omega
          have htu := HTU.out
          have d1 : decide (16 * q ≤ A0 + sx - 1) = decide ((q : Int) * 16 ≤ (A0 : Int) + (sx : Int) - 1) := by apply decide_eq_decide.2; omega
          have d2 : decide (A0 ≤ 16 * q + 15) = decide ((A0 : Int) ≤ (q : Int) * 16 + 15) := by apply decide_eq_decide.2; omega
          have d3 : decide (16 * q ≤ B0 + sy - 1) = decide ((q : Int) * 16 ≤ (B0 : Int) + (sy : Int) - 1) := by apply decide_eq_decide.2; omega
          have d4 : decide (B0 ≤ 16 * q + 15) = decide ((B0 : Int) ≤ (q : Int) * 16 + 15) := by apply decide_eq_decide.2; omega
          rw [d1, d2, d3, d4] at htu
          clear d1 d2 d3 d4
          have f1 : decide ((q : Int) * 16 < (A0 : Int) + (sx : Int)) = decide ((q : Int) * 16 ≤ (A0 : Int) + (sx : Int) - 1) := by apply decide_eq_decide.2; omega
          have f3 : decide ((q : Int) * 16 < (B0 : Int) + (sy : Int)) = decide ((q : Int) * 16 ≤ (B0 : Int) + (sy : Int) - 1) := by apply decide_eq_decide.2; omega
          obtain ⟨c1, e1⟩ : ∃ c, decide ((q : Int) * 16 ≤ (A0 : Int) + (sx : Int) - 1) = c := ⟨_, rfl⟩
          obtain ⟨c2, e2⟩ : ∃ c, decide ((A0 : Int) ≤ (q : Int) * 16 + 15) = c := ⟨_, rfl⟩
          obtain ⟨c3, e3⟩ : ∃ c, decide ((q : Int) * 16 ≤ (B0 : Int) + (sy : Int) - 1) = c := ⟨_, rfl⟩
          obtain ⟨c4, e4⟩ : ∃ c, decide ((B0 : Int) ≤ (q : Int) * 16 + 15) = c := ⟨_, rfl⟩
          rw [e1] at f1
          rw [e3] at f3
          rw [e1, e2, e3, e4] at htu
          have e5 : ((LT.length : Int) == 0) = ((c1 && c2) || (c3 && c4)) := by
            rw [← htu, Bool.eq_iff_iff]; simp
          clear htu
          cases c1 <;> cases c2 <;> cases c3 <;> cases c4
          all_goals
            simp only [Bool.and_true, Bool.and_false, Bool.true_and, Bool.false_and, Bool.or_true, Bool.or_false, Bool.true_or, Bool.false_or, Bool.and_self, Bool.or_self] at e5
            go_wp2_with (first | (go_at_call 15; (with_reducible refine (ctagged_at HRk.out _ HTG.out (Tb.h1 (Lib.hid (Tb.h1 HTB HB12)) HBk)).mono ?_); rintro e' u3 ⟨v3, rfl, ⟨A3, cap3, rfl, hc3, hr3⟩, fb⟩; have HB13 := Lib.hid (HB12.out.trans ((HBk.out.trans (fb.mono hwr)).mono (by omega))); have hu3 := fb.size; clear hc3 hr3 fb) | (go_at_call 10; (with_reducible refine Calls.mono (known11_w _ (Tb.h1 HTB HB13)) ?_); rintro e' wz ⟨rfl, fb⟩; have HZ := Lib.hid (HB13.out.trans (fb.mono (by omega))); clear fb))
            go_ret
            exact ⟨rfl, HZ.out⟩
    · have i1 : decide ((A0 : Int) < (B0 : Int) + (sy : Int)) = true := by simp; omega
      have i2 : decide ((B0 : Int) < (A0 : Int) + (sx : Int)) = false := by simp; omega
      go_upto_region 18 with (first | (go_at_call 19; (with_reducible refine (pick_at xs 4 _ HPA.out xs0 xs1 (by decide) (by decide) _).mono ?_); rintro e' wp ⟨rfl, rfl⟩) | (go_at_call 19; (with_reducible refine (pick_at ys 4 _ HPB.out ys0 ys1 (by decide) (by decide) _).mono ?_); rintro e' wp ⟨rfl, rfl⟩) | (go_at_call 19; (with_reducible refine (pick_at xo 4089 _ HPC.out xo0 xo1 (by decide) (by decide) _).mono ?_); rintro e' wp ⟨rfl, rfl⟩) | (go_at_call 19; (with_reducible refine (pick_at yo 4089 _ HPD.out yo0 yo1 (by decide) (by decide) _).mono ?_); rintro e' wp ⟨rfl, rfl⟩) | (go_at_call 19; (with_reducible refine (pick_at xk 256 _ HPE.out xk0 xk1 (by decide) (by decide) _).mono ?_); rintro e' wp ⟨rfl, rfl⟩) | (go_at_call 20; (with_reducible refine (cstorecap_at HR3.out ((q : Int) * 16) true xm ym true _ _ HC1.out HC2.out HC3.out (by omega) (by omega) xm0 xm1 ym0 ym1).mono ?_); rintro e' w4 ⟨rfl, oo, ff⟩; have hs4 := ff.size; have HA4 := Lib.hid (HA3.out.frm ff (by omega) (fun x => by unfold Rg at x; omega)); have HD4 := Lib.hid (HD3.out.frm ff (by omega) (fun x => by unfold Rg at x; omega)); have HR4 := Lib.hid oo; have HS4 := Lib.hid (HS3.out.fr ff (fun i h1 h2 x => by unfold Rg at x; omega)); have HB4 := Lib.hid (HB3.out.trans (ff.bl (by omega) (fun i x => by unfold Rg at x; omega))); obtain ⟨a40, a41, a42, a43, a44, a45⟩ := HA4.out.out6; obtain ⟨b40, b41, b42, b43, b44, b45⟩ := HD4.out.out6; clear ff oo) | (go_at_call 20; (with_reducible refine (cstorecap_at HS4.out ((q : Int) * 16) true xm ym true _ _ HC1.out HC2.out HC3.out (by omega) (by omega) xm0 xm1 ym0 ym1).mono ?_); rintro e' w5 ⟨rfl, oo, ff⟩; have hs5 := ff.size; have HA5 := Lib.hid (HA4.out.frm ff (by omega) (fun x => by unfold Rg at x; omega)); have HD5 := Lib.hid (HD4.out.frm ff (by omega) (fun x => by unfold Rg at x; omega)); have HS5 := Lib.hid oo; have HR5 := Lib.hid (HR4.out.fr ff (fun i h1 h2 x => by unfold Rg at x; omega)); have HB5 := Lib.hid (HB4.out.trans (ff.bl (by omega) (fun i x => by unfold Rg at x; omega))); obtain ⟨a50, a51, a52, a53, a54, a55⟩ := HA5.out.out6; obtain ⟨b50, b51, b52, b53, b54, b55⟩ := HD5.out.out6; clear ff oo) | (go_at_call 21; (with_reducible refine (cstore_at HR5.out A0 sx xa true _ _ HE1.out HE2.out HE3.out (by omega) (by omega) (by omega) (by omega) xa0 xa1).mono ?_); rintro e' w6 ⟨rfl, oo, ff⟩; have hs6 := ff.size; have HA6 := Lib.hid (HA5.out.frm ff (by omega) (fun x => by unfold Rg at x; omega)); have HD6 := Lib.hid (HD5.out.frm ff (by omega) (fun x => by unfold Rg at x; omega)); have HR6 := Lib.hid oo; have HS6 := Lib.hid (HS5.out.fr ff (fun i h1 h2 x => by unfold Rg at x; omega)); have HB6 := Lib.hid (HB5.out.trans (ff.bl (by omega) (fun i x => by unfold Rg at x; omega))); obtain ⟨a60, a61, a62, a63, a64, a65⟩ := HA6.out.out6; obtain ⟨b60, b61, b62, b63, b64, b65⟩ := HD6.out.out6; clear ff oo) | (go_at_call 21; (with_reducible refine (cstore_at HR6.out B0 sy ya true _ _ HF1.out HF2.out HF3.out (by omega) (by omega) (by omega) (by omega) ya0 ya1).mono ?_); rintro e' w7 ⟨rfl, oo, ff⟩; have hs7 := ff.size; have HA7 := Lib.hid (HA6.out.frm ff (by omega) (fun x => by unfold Rg at x; omega)); have HD7 := Lib.hid (HD6.out.frm ff (by omega) (fun x => by unfold Rg at x; omega)); have HR7 := Lib.hid oo; have HS7 := Lib.hid (HS6.out.fr ff (fun i h1 h2 x => by unfold Rg at x; omega)); have HB7 := Lib.hid (HB6.out.trans (ff.bl (by omega) (fun i x => by unfold Rg at x; omega))); obtain ⟨a70, a71, a72, a73, a74, a75⟩ := HA7.out.out6; obtain ⟨b70, b71, b72, b73, b74, b75⟩ := HD7.out.out6; clear ff oo) | (go_at_call 21; (with_reducible refine (cstore_at HS7.out B0 sy ya true _ _ HG1.out HG2.out HG3.out (by omega) (by omega) (by omega) (by omega) ya0 ya1).mono ?_); rintro e' w8 ⟨rfl, oo, ff⟩; have hs8 := ff.size; have HA8 := Lib.hid (HA7.out.frm ff (by omega) (fun x => by unfold Rg at x; omega)); have HD8 := Lib.hid (HD7.out.frm ff (by omega) (fun x => by unfold Rg at x; omega)); have HS8 := Lib.hid oo; have HR8 := Lib.hid (HR7.out.fr ff (fun i h1 h2 x => by unfold Rg at x; omega)); have HB8 := Lib.hid (HB7.out.trans (ff.bl (by omega) (fun i x => by unfold Rg at x; omega))); obtain ⟨a80, a81, a82, a83, a84, a85⟩ := HA8.out.out6; obtain ⟨b80, b81, b82, b83, b84, b85⟩ := HD8.out.out6; clear ff oo) | (go_at_call 21; (with_reducible refine (cstore_at HS8.out A0 sx xa true _ _ HH1.out HH2.out HH3.out (by omega) (by omega) (by omega) (by omega) xa0 xa1).mono ?_); rintro e' w9 ⟨rfl, oo, ff⟩; have hs9 := ff.size; have HA9 := Lib.hid (HA8.out.frm ff (by omega) (fun x => by unfold Rg at x; omega)); have HD9 := Lib.hid (HD8.out.frm ff (by omega) (fun x => by unfold Rg at x; omega)); have HS9 := Lib.hid oo; have HR9 := Lib.hid (HR8.out.fr ff (fun i h1 h2 x => by unfold Rg at x; omega)); have HB9 := Lib.hid (HB8.out.trans (ff.bl (by omega) (fun i x => by unfold Rg at x; omega))); obtain ⟨a90, a91, a92, a93, a94, a95⟩ := HA9.out.out6; obtain ⟨b90, b91, b92, b93, b94, b95⟩ := HD9.out.out6; clear ff oo) | (go_at_call 15; (with_reducible refine (ctagged_at HR9.out _ HTG.out (by exact Tb.h1 HTB (by assumption))).mono ?_); rintro e' w10 ⟨v10, rfl, rd, fb⟩; have HV10 := Lib.hid rd; have hs10 := fb.size; have HA10 := Lib.hid (HA9.out.bel fb (by omega)); have HD10 := Lib.hid (HD9.out.bel fb (by omega)); have HR10 := Lib.hid (HR9.out.below fb); have HS10 := Lib.hid (HS9.out.below fb); have HB10 := Lib.hid (HB9.out.trans (fb.mono (by omega))); obtain ⟨a100, a101, a102, a103, a104, a105⟩ := HA10.out.out6; obtain ⟨b100, b101, b102, b103, b104, b105⟩ := HD10.out.out6; clear fb; clear rd) | (go_at_call 15; (with_reducible refine (ctagged_at HS10.out _ HTG.out (by exact Tb.h1 HTB (by assumption))).mono ?_); rintro e' w11 ⟨v11, rfl, rd, fb⟩; have HV11 := Lib.hid rd; have HU11 := Lib.hid (HV10.out.below fb); have hs11 := fb.size; have HA11 := Lib.hid (HA10.out.bel fb (by omega)); have HD11 := Lib.hid (HD10.out.bel fb (by omega)); have HR11 := Lib.hid (HR10.out.below fb); have HS11 := Lib.hid (HS10.out.below fb); have HB11 := Lib.hid (HB10.out.trans (fb.mono (by omega))); obtain ⟨a110, a111, a112, a113, a114, a115⟩ := HA11.out.out6; obtain ⟨b110, b111, b112, b113, b114, b115⟩ := HD11.out.out6; clear fb; clear rd) | (go_at_call 14; (with_reducible refine (sameI_w _ _ _ _ _ HU11.out HV11.out HTL.out HTL.out true (decide_eq_true rfl)).mono ?_); rintro e' w12 ⟨rfl, kk⟩; have fb := kk.1; clear kk; have hs12 := fb.size; have HA12 := Lib.hid (HA11.out.bel fb (by omega)); have HD12 := Lib.hid (HD11.out.bel fb (by omega)); have HR12 := Lib.hid (HR11.out.below fb); have HS12 := Lib.hid (HS11.out.below fb); have HB12 := Lib.hid (HB11.out.trans (fb.mono (by omega))); obtain ⟨a120, a121, a122, a123, a124, a125⟩ := HA12.out.out6; obtain ⟨b120, b121, b122, b123, b124, b125⟩ := HD12.out.out6; clear fb))
      have HRX := Lib.hid HR12.out
      clear a30 b30 a31 b31 a32 b32 a33 b33 a34 b34 a35 b35 a40 b40 a41 b41 a42 b42 a43 b43 a44 b44 a45 b45 a50 b50 a51 b51 a52 b52 a53 b53 a54 b54 a55 b55 a60 b60 a61 b61 a62 b62 a63 b63 a64 b64 a65 b65 a70 b70 a71 b71 a72 b72 a73 b73 a74 b74 a75 b75 a80 b80 a81 b81 a82 b82 a83 b83 a84 b84 a85 b85 a90 b90 a91 b91 a92 b92 a93 b93 a94 b94 a95 b95 a100 b100 a101 b101 a102 b102 a103 b103 a104 b104 a105 b105 a110 b110 a111 b111 a112 b112 a113 b113 a114 b114 a115 b115 a120 b120 a121 b121 a122 b122 a123 b123 a124 b124 a125 b125 cx cy
      go_loopw [15] (fun i wq => ∃ k : Nat, 8 * k ≤ 4096 ∧ i = .int .i64 ((8 * k : Nat) : Int) ∧ Below w12.heap.size w12 wq) (fun i _ => 4096 - (intOf i).toNat)
      case atStart => exact ⟨0, by omega, rfl, Below.refl _ _⟩
      case round =>
        obtain ⟨k, hk, rfl, hb⟩ := hrel
        have hwr := hb.size
        have HRk := Lib.hid (HR12.out.below hb)
        have HSk := Lib.hid (HS12.out.below hb)
        have HBk := Lib.hid hb
        clear hb
        obtain ⟨p, hp⟩ : ∃ p, 8 * k = p := ⟨_, rfl⟩
        rw [hp]
        have HP := Lib.hid hp
        have hp4 : p ≤ 4096 := by omega
        have hp8 : p % 8 = 0 := by omega
        clear hp hk
        by_cases hlt : p < 4096
        · have HOK := Lib.hid (show ldO (layB (layB (pB1 q xm ym) A0 xa sx) B0 ya sy).length p 8 = true by rw [HLN.out]; exact ldO_in 4096 p (by omega) p rfl)
          obtain ⟨x, hx⟩ : ∃ x, ldN (layB (layB (pB1 q xm ym) A0 xa sx) B0 ya sy) p 8 = x := ⟨_, rfl⟩
          have HX := Lib.hid hx
          clear hx
          have e0 : (x != x) = false := by simp
          go_wp2_with (first | (go_at_call 17; (with_reducible refine (cload_at HRk.out p 8 x true HX.out HOK.out (by omega) (by omega) (by decide) (by decide)).mono ?_); rintro e' u1 ⟨rfl, fb⟩; have hu1 := fb.size; have HSu := Lib.hid (HSk.out.below fb); have HBu := Lib.hid (HBk.out.trans (fb.mono (by omega))); clear fb) | (go_at_call 17; (with_reducible refine (cload_at HSu.out p 8 x true HX.out HOK.out (by omega) (by omega) (by decide) (by decide)).mono ?_); rintro e' u2 ⟨rfl, fb⟩; have HBv := Lib.hid (HBu.out.trans (fb.mono (by omega))); clear fb))
          go_roundw
          case rel => exact ⟨k + 1, by have := HP.out; omega, by have := HP.out; (congr 1; omega), HBv.out⟩
          case measure => simp [intOf]; omega
        · obtain rfl : p = 4096 := by omega
          have htu := HTU.out
          have d1 : decide (16 * q ≤ A0 + sx - 1) = decide ((q : Int) * 16 ≤ (A0 : Int) + (sx : Int) - 1) := by apply decide_eq_decide.2; omega
          have d2 : decide (A0 ≤ 16 * q + 15) = decide ((A0 : Int) ≤ (q : Int) * 16 + 15) := by apply decide_eq_decide.2; omega
          have d3 : decide (16 * q ≤ B0 + sy - 1) = decide ((q : Int) * 16 ≤ (B0 : Int) + (sy : Int) - 1) := by apply decide_eq_decide.2; omega
          have d4 : decide (B0 ≤ 16 * q + 15) = decide ((B0 : Int) ≤ (q : Int) * 16 + 15) := by apply decide_eq_decide.2; omega
          rw [d1, d2, d3, d4] at htu
          clear d1 d2 d3 d4
          have f1 : decide ((q : Int) * 16 < (A0 : Int) + (sx : Int)) = decide ((q : Int) * 16 ≤ (A0 : Int) + (sx : Int) - 1) := by apply decide_eq_decide.2; omega
          have f3 : decide ((q : Int) * 16 < (B0 : Int) + (sy : Int)) = decide ((q : Int) * 16 ≤ (B0 : Int) + (sy : Int) - 1) := by apply decide_eq_decide.2; omega
          obtain ⟨c1, e1⟩ : ∃ c, decide ((q : Int) * 16 ≤ (A0 : Int) + (sx : Int) - 1) = c := ⟨_, rfl⟩
          obtain ⟨c2, e2⟩ : ∃ c, decide ((A0 : Int) ≤ (q : Int) * 16 + 15) = c := ⟨_, rfl⟩
          obtain ⟨c3, e3⟩ : ∃ c, decide ((q : Int) * 16 ≤ (B0 : Int) + (sy : Int) - 1) = c := ⟨_, rfl⟩
          obtain ⟨c4, e4⟩ : ∃ c, decide ((B0 : Int) ≤ (q : Int) * 16 + 15) = c := ⟨_, rfl⟩
          rw [e1] at f1
          rw [e3] at f3
          rw [e1, e2, e3, e4] at htu
          have e5 : ((LT.length : Int) == 0) = ((c1 && c2) || (c3 && c4)) := by
            rw [← htu, Bool.eq_iff_iff]; simp
          clear htu
          cases c1 <;> cases c2 <;> cases c3 <;> cases c4
          all_goals
            simp only [Bool.and_true, Bool.and_false, Bool.true_and, Bool.false_and, Bool.or_true, Bool.or_false, Bool.true_or, Bool.false_or, Bool.and_self, Bool.or_self] at e5
            go_wp2_with (first | (go_at_call 15; (with_reducible refine (ctagged_at HRk.out _ HTG.out (Tb.h1 (Lib.hid (Tb.h1 HTB HB12)) HBk)).mono ?_); rintro e' u3 ⟨v3, rfl, ⟨A3, cap3, rfl, hc3, hr3⟩, fb⟩; have HB13 := Lib.hid (HB12.out.trans ((HBk.out.trans (fb.mono hwr)).mono (by omega))); have hu3 := fb.size; clear hc3 hr3 fb) | (go_at_call 10; (with_reducible refine Calls.mono (known11_w _ (Tb.h1 HTB HB13)) ?_); rintro e' wz ⟨rfl, fb⟩; have HZ := Lib.hid (HB13.out.trans (fb.mono (by omega))); clear fb))
            go_ret
            exact ⟨rfl, HZ.out⟩
end Go.Proofs.YteebmikjikjhmaaDoor
