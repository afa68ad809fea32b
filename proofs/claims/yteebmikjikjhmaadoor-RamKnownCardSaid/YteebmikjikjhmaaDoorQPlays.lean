/-
  RamPlays of layer 11: whatever is done, both memories answer alike. No condition.
-/
import Derived.Test.YteebmikjikjhmaaDoorQKnown
import Derived.Test.YteebmikjikjhmaaDoorQList
namespace Go.Proofs.YteebmikjikjhmaaDoor
open Go.ChangeShapes Go.WideShapes Go.ChangeAt Go.RowKit
set_option linter.unusedVariables false
set_option linter.unusedSimpArgs false
/-- Both memories, alike, in blocks of the call's own. -/
def PlayS (W : World) (lo hi g g1 gb gt n : Nat) (w : World) : Prop := ∃ B T, B.length = n ∧ Ob w lo hi g B T ∧ RM w g1 gb gt B T ∧ Below W.heap.size W w
theorem PlayS.below {W w w' : World} {lo hi g g1 gb gt n : Nat} (h : PlayS W lo hi g g1 gb gt n w) (k : Below w.heap.size w w') : PlayS W lo hi g g1 gb gt n w' := by
  obtain ⟨B, T, hn, o, r, b⟩ := h
  exact ⟨B, T, hn, o.below k, r.below k, b.trans (k.mono b.size)⟩
theorem PlayS.mk {W w1 w2 : World} {g g1 gb gt n : Nat} (o : Ob w1 W.heap.size w1.heap.size g (List.replicate n 0) (List.replicate (n / 16) false)) (b1 : Below W.heap.size W w1) (r : RM w2 g1 gb gt (List.replicate n 0) (List.replicate (n / 16) false)) (b2 : Below w1.heap.size w1 w2) : PlayS W W.heap.size w1.heap.size g g1 gb gt n w2 :=
  ⟨_, _, List.length_replicate, o.below b2, r, b1.trans (b2.mono b1.size)⟩
theorem ldO_in (len o : Nat) (h : o + 8 ≤ len) (off : Int) (e : off = (o : Int)) : ldO len off 8 = true := by subst e; exact ldO_mk len o 8 (by decide) h
theorem rlen_at {w : World} {g gb gt : Nat} {B : List Int} {T : List Bool} (m : RM w g gb gt B T) (n : Nat) (hn : (B.length : Int) = n) : Calls Tryd.prog 13 #[.pointer (some ⟨g, 0, none⟩)] w fun e w' => e = .returned (.int .i64 n) ∧ w = w' := by rw [← hn]; exact rlen_w m
theorem rload_nm {w : World} {g gb gt : Nat} {B : List Int} {T : List Bool} (m : RM w g gb gt B T) (off size x : Int) (ok : Bool) (hx : ldN B off size = x) (ho : ldO B.length off size = ok) :
    Calls Tryd.prog 18 #[.pointer (some ⟨g, 0, none⟩), .int .i64 off, .int .i64 size] w fun e w' => e = .returned (.tuple #[.int .u64 x, .bool ok]) ∧ w = w' := by subst hx ho; exact rload_w m off size
theorem tgs_lim {w : World} {g gb gt : Nat} {B : List Int} {T : List Bool} (m : RM w g gb gt B T) : (tgs 0 T).length ≤ 1000000 := by
  have := tgs_len 0 T; have := m.len; have := m.lim; omega
set_option maxHeartbeats 4000000 in
theorem plays_no (n : Int) (n0 : -9223372036854775808 ≤ n) (n1 : n < 9223372036854775808) (v : Value) (h : nwO n = false) (W : World) (tb : Tb W) :
    Calls Tryd.prog 3 #[.int .i64 n, v] W fun e w' => e = .returned (.bool true) ∧ Below W.heap.size W w' := by
  have HTB := Lib.hid tb
  clear tb
  have H := Lib.hid h
  clear h
  go_enter Tryd.func3, Tryd.ntmps3
  go_wp2_with (first | (go_at_call 8; (with_reducible refine (cnew_no n n0 n1 H.out _).mono ?_); rintro e' w1 ⟨rfl, b1⟩; have HB1 := Lib.hid b1; clear b1) | (go_at_call 9; (with_reducible refine (rnew_no n H.out _).mono ?_); rintro e' w2 ⟨rfl, rfl⟩) | (go_at_call 10; (with_reducible refine Calls.mono (known11_w _ (by exact Tb.h1 HTB (by assumption))) ?_); rintro e' w3 ⟨rfl, b3⟩; have HZ := Lib.hid (HB1.out.trans (b3.mono HB1.out.size)); clear b3))
  go_ret
  exact ⟨rfl, HZ.out⟩
set_option maxRecDepth 4000 in
set_option maxHeartbeats 16000000 in
theorem plays_yes (n : Nat) (h : nwO n = true) (l : List Ac) (A : Option Addr) (cap : Nat) (W : World) (hrd : RdAc W W.heap.size A l) (hraw : ∀ c ∈ l, c.Raw) (hlen : l.length ≤ 9223372036854775807) (tb : Tb W) :
    Calls Tryd.prog 3 #[.int .i64 (n : Int), .slice A l.length cap] W fun e w' => e = .returned (.bool true) ∧ Below W.heap.size W w' := by
  have HTB := Lib.hid tb
  clear tb
  have H := Lib.hid h
  have hn : n ≤ 65536 ∧ n % 8 = 0 := by simp only [nwO, Bool.and_eq_true, decide_eq_true_eq, beq_iff_eq] at h; omega
  obtain ⟨hn0, hn8⟩ := hn
  have HRD := Lib.hid hrd
  have HRAW := Lib.hid hraw
  clear h hrd hraw
  go_enter Tryd.func3, Tryd.ntmps3
  go_wp2_with (first | (go_at_call 8; (with_reducible refine (cnew_yes n H.out _).mono ?_); rintro e' w1 ⟨g, rfl, o1, b1⟩; have sz1 := b1.size; have HO1 := Lib.hid o1; have HB1 := Lib.hid b1; clear o1 b1) | (go_at_call 9; (with_reducible refine (rnew_yes n H.out _).mono ?_); rintro e' w2 ⟨g1, gb, gt, rfl, r2, b2, s1, s2, s3⟩; have HS := Lib.hid (PlayS.mk HO1.out HB1.out r2 b2); clear r2 b2))
  generalize w1.heap.size = hi at HS s1 s2 s3
  clear HO1 HB1
  go_loopw [9] (fun i wr => ∃ k : Nat, k ≤ 200 ∧ i = .int .i64 (k : Int) ∧ PlayS W W.heap.size hi g g1 gb gt n wr) (fun i _ => 200 - (intOf i).toNat)
  case atStart => exact ⟨0, by omega, rfl, HS.out⟩
  case round =>
    clear HS
    obtain ⟨k, hk, rfl, hs⟩ := hrel
    obtain ⟨B, T, hBn, o, r, bl⟩ := hs
    have hBn : (B.length : Int) = n := by rw [hBn]
    have HO0 := Lib.hid o
    have HR0 := Lib.hid r
    have HB0 := Lib.hid bl
    have HL := Lib.hid (HRD.out.below bl)
    have hWs := bl.size
    have hWhi : W.heap.size ≤ hi := by have := o.bot; have := o.gh; omega
    clear o r bl
    by_cases hlt : k < l.length
    · by_cases h2 : k < 200
      · obtain ⟨bb, oo, rfl, hbb, c, hc, hrow⟩ := HL.out.at_ hlt
        obtain ⟨q0, q1, q2, q3, q4, q5⟩ := hrow.out
        have hraw := HRAW.out c (List.mem_of_getElem? hc)
        clear hrow hc
        obtain ⟨ak, aoff, asize, atag, aa, am⟩ := c
        dsimp only [Ac.Raw] at *
        obtain ⟨⟨k0, k1⟩, ⟨f0, f1⟩, ⟨z0, z1⟩, ⟨a0, a1⟩, ⟨m0, m1⟩⟩ := hraw
        obtain ⟨d20, hd20⟩ : ∃ d, ((k : Int) % 20 == 0) = d := ⟨_, rfl⟩
        have ht20 : ((k : Int).tmod 20 == 0) = d20 := by rw [Int.tmod_eq_emod_of_nonneg (by omega)]; exact hd20
        cases d20
        all_goals
          go_wp2_with (first | (go_at_call 11; (with_reducible refine (does_w HO0.out HR0.out s1 s2 s3 ak aoff asize aa am atag k0 k1 f0 f1 z0 z1 a0 a1 m0 m1).mono ?_); rintro e' w1 ⟨rfl, B1, T1, hB1, o1, r1, fr1⟩; have hBn : (B1.length : Int) = n := (by rw [hB1]; exact hBn); have HTL := Lib.hid (tgs_lim r1); have HB1 := Lib.hid (HB0.out.trans (fr1.bl hWs (fun i x => by unfold Rg at x; omega))); have HO1 := Lib.hid o1; have HR1 := Lib.hid r1; clear o1 r1 fr1 hB1) | (go_at_call 12; (with_reducible refine (clen_at HO1.out n hBn).mono ?_); rintro e' w2 ⟨rfl, b2⟩; have sz2 := b2.size; have HO2 := Lib.hid (HO1.out.below b2); have HR2 := Lib.hid (HR1.out.below b2); have HB2 := Lib.hid (HB1.out.trans (b2.mono HB1.out.size)); clear b2) | (go_at_call 13; (with_reducible refine (rlen_at HR2.out n hBn).mono ?_); rintro e' w0 ⟨rfl, rfl⟩) | (go_at_call 15; (with_reducible refine (ctagged_at HO2.out _ rfl (by exact Tb.h1 HTB (by assumption))).mono ?_); rintro e' w3 ⟨v3, rfl, rd, b3⟩; have HV3 := Lib.hid rd; have sz3 := b3.size; have HO3 := Lib.hid (HO2.out.below b3); have HR3 := Lib.hid (HR2.out.below b3); have HB3 := Lib.hid (HB2.out.trans (b3.mono HB2.out.size)); clear b3; clear rd) | (go_at_call 16; (with_reducible refine (rtagged_w HR3.out).mono ?_); rintro e' w4 ⟨v4, rfl, rd, b4⟩; have HV4 := Lib.hid rd; have HU4 := Lib.hid (HV3.out.below b4); have sz4 := b4.size; have HO4 := Lib.hid (HO3.out.below b4); have HR4 := Lib.hid (HR3.out.below b4); have HB4 := Lib.hid (HB3.out.trans (b4.mono HB3.out.size)); clear b4; clear rd) | (go_at_call 14; (with_reducible refine (sameI_w _ _ _ _ _ HU4.out HV4.out HTL.out HTL.out true (decide_eq_true rfl)).mono ?_); rintro e' w5 ⟨rfl, k5⟩; have b5 := k5.1; clear k5; have sz5 := b5.size; have HO5 := Lib.hid (HO4.out.below b5); have HR5 := Lib.hid (HR4.out.below b5); have HB5 := Lib.hid (HB4.out.trans (b5.mono HB4.out.size)); clear b5))
          go_roundw
          case rel => exact ⟨k + 1, by omega, by go_num, B1, T1, by omega, by first | exact HO5.out | exact HO2.out, by first | exact HR5.out | exact HR2.out, by first | exact HB5.out | exact HB2.out⟩
          case measure => simp [intOf]; omega
      · obtain rfl : k = 200 := by omega
        clear HL
        have HS := Lib.hid (show PlayS W W.heap.size hi g g1 gb gt n wr from ⟨B, T, by omega, HO0.out, HR0.out, HB0.out⟩)
        clear HO0 HR0 HB0 hBn hWs
        go_wp2
        go_loopw [10] (fun off w2 => ∃ k : Nat, 8 * k ≤ n ∧ off = .int .i64 ((8 * k : Nat) : Int) ∧ PlayS W W.heap.size hi g g1 gb gt n w2) (fun off _ => n - (intOf off).toNat)
        case atStart => exact ⟨0, by omega, rfl, HS.out⟩
        case round =>
          clear HS
          obtain ⟨j, hj, rfl, hs⟩ := hrel
          obtain ⟨B, T, hBn, o, r, bl⟩ := hs
          have hBn : (B.length : Int) = n := by rw [hBn]
          have HTL := Lib.hid (tgs_lim r)
          have HO0 := Lib.hid o
          have HR0 := Lib.hid r
          have HB0 := Lib.hid bl
          clear o r bl
          generalize ho : 8 * j = p at *
          have HP := Lib.hid ho
          clear ho
          by_cases hlt : p < n
          · have hok := Lib.hid (ldO_in B.length p (by have := HP.out; omega) p rfl)
            obtain ⟨x, hx⟩ : ∃ x, ldN B p 8 = x := ⟨_, rfl⟩
            have HX := Lib.hid hx
            clear hx
            have e0 : (x != x) = false := by simp
            go_wp2_with (first | (go_at_call 13; (with_reducible refine (rlen_at HR0.out n hBn).mono ?_); rintro e' w0 ⟨rfl, rfl⟩) | (go_at_call 17; (with_reducible refine (cload_at HO0.out p 8 x true HX.out hok.out (by omega) (by omega) (by decide) (by decide)).mono ?_); rintro e' w1 ⟨rfl, b1⟩; have sz1 := b1.size; have HO1 := Lib.hid (HO0.out.below b1); have HR1 := Lib.hid (HR0.out.below b1); have HB1 := Lib.hid (HB0.out.trans (b1.mono HB0.out.size)); clear b1) | (go_at_call 18; (with_reducible refine (rload_nm HR1.out p 8 x true HX.out hok.out).mono ?_); rintro e' wq ⟨rfl, rfl⟩))
            go_roundw
            case rel => exact ⟨j + 1, by have := HP.out; omega, by have := HP.out; (congr 1; omega), B, T, by omega, HO1.out, HR1.out, HB1.out⟩
            case measure => simp [intOf]; omega
          · go_wp2_with (first | (go_at_call 13; (with_reducible refine (rlen_at HR0.out n hBn).mono ?_); rintro e' w0 ⟨rfl, rfl⟩) | (go_at_call 15; (with_reducible refine (ctagged_at HO0.out _ rfl (by exact Tb.h1 HTB (by assumption))).mono ?_); rintro e' w3 ⟨v3, rfl, rd, b3⟩; have HV3 := Lib.hid rd; have sz3 := b3.size; have HO3 := Lib.hid (HO0.out.below b3); have HR3 := Lib.hid (HR0.out.below b3); have HB3 := Lib.hid (HB0.out.trans (b3.mono HB0.out.size)); clear b3; clear rd) | (go_at_call 16; (with_reducible refine (rtagged_w HR3.out).mono ?_); rintro e' w4 ⟨v4, rfl, rd, b4⟩; have HV4 := Lib.hid rd; have HU4 := Lib.hid (HV3.out.below b4); have sz4 := b4.size; have HO4 := Lib.hid (HO3.out.below b4); have HR4 := Lib.hid (HR3.out.below b4); have HB4 := Lib.hid (HB3.out.trans (b4.mono HB3.out.size)); clear b4; clear rd) | (go_at_call 14; (with_reducible refine (sameI_w _ _ _ _ _ HU4.out HV4.out HTL.out HTL.out true (decide_eq_true rfl)).mono ?_); rintro e' w5 ⟨rfl, k5⟩; have b5 := k5.1; clear k5; have sz5 := b5.size; have HO5 := Lib.hid (HO4.out.below b5); have HR5 := Lib.hid (HR4.out.below b5); have HB5 := Lib.hid (HB4.out.trans (b5.mono HB4.out.size)); clear b5) | (go_at_call 10; (with_reducible refine Calls.mono (known11_w _ (by exact Tb.h1 HTB (by assumption))) ?_); rintro e' w6 ⟨rfl, b6⟩; have HZ := Lib.hid (HB5.out.trans (b6.mono HB5.out.size)); clear b6))
            go_ret
            exact ⟨rfl, HZ.out⟩
    · clear HL
      have HS := Lib.hid (show PlayS W W.heap.size hi g g1 gb gt n wr from ⟨B, T, by omega, HO0.out, HR0.out, HB0.out⟩)
      clear HO0 HR0 HB0 hBn hWs
      go_wp2
      go_loopw [10] (fun off w2 => ∃ k : Nat, 8 * k ≤ n ∧ off = .int .i64 ((8 * k : Nat) : Int) ∧ PlayS W W.heap.size hi g g1 gb gt n w2) (fun off _ => n - (intOf off).toNat)
      case atStart => exact ⟨0, by omega, rfl, HS.out⟩
      case round =>
        clear HS
        obtain ⟨j, hj, rfl, hs⟩ := hrel
        obtain ⟨B, T, hBn, o, r, bl⟩ := hs
        have hBn : (B.length : Int) = n := by rw [hBn]
        have HTL := Lib.hid (tgs_lim r)
        have HO0 := Lib.hid o
        have HR0 := Lib.hid r
        have HB0 := Lib.hid bl
        clear o r bl
        generalize ho : 8 * j = p at *
        have HP := Lib.hid ho
        clear ho
        by_cases hlt : p < n
        · have hok := Lib.hid (ldO_in B.length p (by have := HP.out; omega) p rfl)
          obtain ⟨x, hx⟩ : ∃ x, ldN B p 8 = x := ⟨_, rfl⟩
          have HX := Lib.hid hx
          clear hx
          have e0 : (x != x) = false := by simp
          go_wp2_with (first | (go_at_call 13; (with_reducible refine (rlen_at HR0.out n hBn).mono ?_); rintro e' w0 ⟨rfl, rfl⟩) | (go_at_call 17; (with_reducible refine (cload_at HO0.out p 8 x true HX.out hok.out (by omega) (by omega) (by decide) (by decide)).mono ?_); rintro e' w1 ⟨rfl, b1⟩; have sz1 := b1.size; have HO1 := Lib.hid (HO0.out.below b1); have HR1 := Lib.hid (HR0.out.below b1); have HB1 := Lib.hid (HB0.out.trans (b1.mono HB0.out.size)); clear b1) | (go_at_call 18; (with_reducible refine (rload_nm HR1.out p 8 x true HX.out hok.out).mono ?_); rintro e' wq ⟨rfl, rfl⟩))
          go_roundw
          case rel => exact ⟨j + 1, by have := HP.out; omega, by have := HP.out; (congr 1; omega), B, T, by omega, HO1.out, HR1.out, HB1.out⟩
          case measure => simp [intOf]; omega
        · go_wp2_with (first | (go_at_call 13; (with_reducible refine (rlen_at HR0.out n hBn).mono ?_); rintro e' w0 ⟨rfl, rfl⟩) | (go_at_call 15; (with_reducible refine (ctagged_at HO0.out _ rfl (by exact Tb.h1 HTB (by assumption))).mono ?_); rintro e' w3 ⟨v3, rfl, rd, b3⟩; have HV3 := Lib.hid rd; have sz3 := b3.size; have HO3 := Lib.hid (HO0.out.below b3); have HR3 := Lib.hid (HR0.out.below b3); have HB3 := Lib.hid (HB0.out.trans (b3.mono HB0.out.size)); clear b3; clear rd) | (go_at_call 16; (with_reducible refine (rtagged_w HR3.out).mono ?_); rintro e' w4 ⟨v4, rfl, rd, b4⟩; have HV4 := Lib.hid rd; have HU4 := Lib.hid (HV3.out.below b4); have sz4 := b4.size; have HO4 := Lib.hid (HO3.out.below b4); have HR4 := Lib.hid (HR3.out.below b4); have HB4 := Lib.hid (HB3.out.trans (b4.mono HB3.out.size)); clear b4; clear rd) | (go_at_call 14; (with_reducible refine (sameI_w _ _ _ _ _ HU4.out HV4.out HTL.out HTL.out true (decide_eq_true rfl)).mono ?_); rintro e' w5 ⟨rfl, k5⟩; have b5 := k5.1; clear k5; have sz5 := b5.size; have HO5 := Lib.hid (HO4.out.below b5); have HR5 := Lib.hid (HR4.out.below b5); have HB5 := Lib.hid (HB4.out.trans (b5.mono HB4.out.size)); clear b5) | (go_at_call 10; (with_reducible refine Calls.mono (known11_w _ (by exact Tb.h1 HTB (by assumption))) ?_); rintro e' w6 ⟨rfl, b6⟩; have HZ := Lib.hid (HB5.out.trans (b6.mono HB5.out.size)); clear b6))
          go_ret
          exact ⟨rfl, HZ.out⟩
theorem plays_w (n : Int) (n0 : -9223372036854775808 ≤ n) (n1 : n < 9223372036854775808) (l : List Ac) (A : Option Addr) (cap : Nat) (W : World) (hrd : RdAc W W.heap.size A l) (hraw : ∀ c ∈ l, c.Raw) (hlen : l.length ≤ 9223372036854775807) (tb : Tb W) :
    Calls Tryd.prog 3 #[.int .i64 n, .slice A l.length cap] W fun e w' => e = .returned (.bool true) ∧ Below W.heap.size W w' := by
  cases h : nwO n with
  | false => exact plays_no n n0 n1 _ h W tb
  | true =>
    obtain ⟨m, rfl⟩ := Int.eq_ofNat_of_zero_le (show 0 ≤ n by simp only [nwO, Bool.and_eq_true, decide_eq_true_eq] at h; omega)
    exact plays_yes m h l A cap W hrd hraw hlen tb
end Go.Proofs.YteebmikjikjhmaaDoor
