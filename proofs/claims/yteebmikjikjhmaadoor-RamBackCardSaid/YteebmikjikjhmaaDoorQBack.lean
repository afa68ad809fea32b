/-
  RamBack of layer 11: what is stored is loaded, and nothing else has changed. No condition.
-/
import Derived.Test.YteebmikjikjhmaaDoorQTags
namespace Go.Proofs.YteebmikjikjhmaaDoor
open Go.ChangeShapes Go.WideShapes Go.ChangeAt Go.RowKit
set_option linter.unusedVariables false
set_option linter.unusedSimpArgs false
/-- The code's memory of 4096 bytes, in blocks of the call's own. -/
def BackS (W : World) (lo hi g : Nat) (w : World) : Prop := ∃ B T, B.length = 4096 ∧ Ob w lo hi g B T ∧ Below W.heap.size W w
theorem ldN_1 (B : List Int) (i : Nat) (h : i < B.length) (off : Int) (e : off = (i : Int)) : ldN B off 1 = B.getD i 0 := by
  subst e; rw [show (1 : Int) = ((1 : Nat) : Int) from rfl, ldN_nat B i 1 (by decide) (by omega)]; simp [numB]
theorem ldO_1 (n i : Nat) (h : i < n) (off : Int) (e : off = (i : Int)) : ldO n off 1 = true := by
  subst e; exact ldO_mk n i 1 (by decide) (by omega)
theorem take_set (B : List Int) (n k : Nat) (h : k < B.length) (hn : k < n) : (B.take k ++ List.replicate (n - k) 0).set k (B.getD k 0) = B.take (k + 1) ++ List.replicate (n - (k + 1)) 0 := by
  rw [List.set_append_right _ _ (by simp; omega), List.length_take, Nat.min_eq_left (by omega), Nat.sub_self, show n - k = (n - (k + 1)) + 1 by omega, List.replicate_succ, List.set_cons_zero, List.take_add_one, List.getElem?_eq_getElem h, List.append_assoc]
  simp [List.getD_eq_getElem?_getD, List.getElem?_eq_getElem h]
theorem blk_byte {w : World} {gg : Nat} {L : List Int} (h : Blk w gg 5 (L.map (.int .u8))) (i : Nat) (hi : i < L.length) : w.cell? ⟨gg, i, none⟩ = some (.int .u8 (L.getD i 0)) :=
  h.at_ i _ (by rw [List.getElem?_map, List.getD_eq_getElem?_getD, List.getElem?_eq_getElem hi]; rfl)
theorem wrap8 (x : Int) (h0 : 0 ≤ x) (h1 : x < 256) : IntKind.u8.wrap x = x := by rw [IntKind.wrap_u8]; omega
set_option maxRecDepth 100000 in
set_option maxHeartbeats 32000000 in
theorem back_w (l : List Nu) (A : Option Addr) (cap : Nat) (off size v : Int) (o0 : -9223372036854775808 ≤ off) (o1 : off < 9223372036854775808) (s0 : -9223372036854775808 ≤ size) (s1 : size < 9223372036854775808) (v0 : 0 ≤ v) (v1 : v < 18446744073709551616) (W : World) (hrd : RdNu W W.heap.size A l) (hraw : ∀ c ∈ l, c.Raw) (hlen : l.length ≤ 9223372036854775807) (tb : Tb W) :
    Calls Tryd.prog 5 #[.slice A l.length cap, .int .i64 off, .int .i64 size, .int .u64 v] W fun e w' => e = .returned (.bool true) ∧ Below W.heap.size W w' := by
  have HTB := Lib.hid tb
  clear tb
  have HN : Hid (∀ w, Calls Tryd.prog 8 #[.int .i64 4096] w fun e w' => ∃ g, e = .returned (.tuple #[.pointer (some ⟨g, 0, none⟩), .int .i64 0]) ∧ Ob w' w.heap.size w'.heap.size g kB0 kT0 ∧ Below w.heap.size w w') := Lib.hid (fun w => cnew_yes 4096 (by decide) w)
  have HRD := Lib.hid hrd
  have HRAW := Lib.hid hraw
  clear hrd hraw
  obtain ⟨p, hp⟩ : ∃ p : Nat, off % 4100 = (p : Int) := Int.eq_ofNat_of_zero_le (by omega)
  have hp2 : p < 4100 := by omega
  have HPK := Lib.hid hp
  have HQ0 := Lib.hid o0
  have HQ1 := Lib.hid o1
  clear hp o0 o1
  have k1 : ∀ w, (Instr.makeSlice 50 (.int .i64 4096) (.int .i64 4096)).run Tryd.prog w = .ok (.slice (some ⟨w.heap.size, 0, none⟩) 4096 4096) (w.alloc (.cells (List.replicate 4096 (.int .u8 0)).toArray 5)) := fun w => by
    have h := run_make_row' (P := Tryd.prog) 50 5 (.int .u8 0) 1 Tryd.underlying50 u8_info rfl .i64 .i64 4096 (by decide) (by decide) w
    rw [made_list] at h
    exact h
  obtain ⟨row, hrow⟩ : ∃ r, (List.replicate 4096 (Value.int .u8 0)).toArray = r := ⟨_, rfl⟩
  simp only [hrow] at k1
  have HROW := Lib.hid hrow
  clear hrow
  go_enter Tryd.func5, Tryd.ntmps5
  go_wp2_with (go_at_call 8; (with_reducible refine (HN.out _).mono ?_); rintro e' w1 ⟨g, rfl, o1, b1⟩; have hbot := o1.bot; have hgh := o1.gh; have hs1 := b1.size; have HS := Lib.hid (show BackS W W.heap.size w1.heap.size g w1 from ⟨kB0, kT0, kl0, o1, b1⟩); clear o1 b1)
  generalize w1.heap.size = hi at *
  have hWh : W.heap.size ≤ hi := by omega
  go_loopw [11] (fun i wr => ∃ k : Nat, k ≤ 512 ∧ i = .int .i64 (k : Int) ∧ BackS W W.heap.size hi g wr) (fun i _ => 512 - (intOf i).toNat)
  case atStart => exact ⟨0, by omega, rfl, HS.out⟩
  case round =>
    clear HS
    obtain ⟨k, hk, rfl, B, T, hBn, o, bl⟩ := hrel
    have htop := o.top
    have hWs := bl.size
    have HO0 := Lib.hid o
    have HB0 := Lib.hid bl
    have HL := Lib.hid (HRD.out.below bl)
    clear o bl
    by_cases hlt : k < l.length
    · by_cases h2 : k < 512
      · obtain ⟨bb, oo, rfl, hbb, c, hc, hrow⟩ := HL.out.at_ hlt
        have q0 := hrow.out
        have hraw := HRAW.out c (List.mem_of_getElem? hc)
        clear hrow hc
        obtain ⟨x⟩ := c
        dsimp only [Nu.Raw] at *
        rw [Nat.mul_one] at q0
        obtain ⟨x0, x1⟩ := hraw
        go_wp2_with (go_at_call 21; (with_reducible refine (cstore_w HO0.out (8 * (k : Int)) 8 x (by omega) (by omega) (by decide) (by decide) x0 x1).mono ?_); rintro e' w3 ⟨rfl, ow3, fw3⟩; have hsw3 := fw3.size; have HOw3 := Lib.hid ow3; have HBw3 := Lib.hid (HB0.out.trans (fw3.bl hWs (fun i x => x.1))); clear ow3 fw3)
        go_roundw
        case rel => exact ⟨k + 1, by omega, by go_num, _, _, by rw [sB_len]; exact hBn, HOw3.out, HBw3.out⟩
        case measure => simp [intOf]; omega
      · obtain rfl : k = 512 := by omega
        obtain ⟨w2, rfl⟩ : ∃ w2, w2 = wr := ⟨_, rfl⟩
        clear HL
        have HW2 := Lib.hid (show Blk (w2.alloc (.cells row 5)) w2.heap.size 5 ((B.take 0 ++ List.replicate (4096 - 0) 0).map (.int .u8)) by
          have h := Blk.new w2 5 (List.replicate 4096 (.int .u8 0)); rw [HROW.out] at h; simpa using h)
        have HO2 := Lib.hid (HO0.out.fr ((Fr.refl w2 (fun _ => False)).alloc (.cells row 5)) (fun _ _ _ h => h))
        have HB2 := Lib.hid (HB0.out.alloc hWs (.cells row 5))
        have hgt : hi ≤ w2.heap.size := htop
        go_wp2_with (go_at_call 19; (with_reducible refine (pick_at off 4100 _ HPK.out HQ0.out HQ1.out (by decide) (by decide) _).mono ?_); rintro e' wp ⟨rfl, rfl⟩)
        obtain ⟨gw, hgw⟩ : ∃ gw, gw = w2.heap.size := ⟨_, rfl⟩
        have HGW := Lib.hid hgw
        rw [← hgw] at HW2 hgt ⊢
        clear hgw
        generalize w2.alloc (.cells row 5) = w3 at HW2 HO2 HB2 ⊢
        go_loopw [13] (fun i w9 => ∃ j : Nat, j ≤ 4096 ∧ i = .int .i64 (j : Int) ∧ Ob w9 W.heap.size hi g B T ∧ Blk w9 gw 5 ((B.take j ++ List.replicate (4096 - j) 0).map (.int .u8)) ∧ Below W.heap.size W w9) (fun i _ => 4096 - (intOf i).toNat)
        case atStart => exact ⟨0, by omega, rfl, HO2.out, HW2.out, HB2.out⟩
        case round =>
          clear HO2 HW2 HB2
          obtain ⟨j, hj, rfl, ob, bk, bl⟩ := hrel
          have hWs3 := bl.size
          by_cases hlt3 : j < 4096
          · have HL1 := Lib.hid (ldN_1 B j (by omega) j rfl)
            have HL2 := Lib.hid (ldO_1 B.length j (by omega) j rfl)
            have hby := ByB.getD ob.byb j
            have hw8 := wrap8 _ hby.1 hby.2
            have HSET := Lib.hid (take_set B 4096 j (by omega) (by omega))
            have HOb := Lib.hid ob
            have HBk := Lib.hid bk
            have HBl := Lib.hid bl
            have HLEN := Lib.hid (show (B.take j ++ List.replicate (4096 - j) (0 : Int)).length = 4096 by simp; omega)
            clear ob bk bl
            generalize B.getD j 0 = y at *
            go_wp2_with (go_at_call 17; (with_reducible refine (cload_at HOb.out j 1 _ true HL1.out HL2.out (by omega) (by omega) (by decide) (by decide)).mono ?_); rintro e' w4 ⟨rfl, b4⟩; have hs4 := b4.size; have hk4 := HBk.out.fr ((Fr.refl wr (fun _ => False)).below b4 (fun _ hi _ => hi)) id; have c4 := blk_byte hk4 j (by rw [HLEN.out]; exact hlt3); have z4 := hk4.frozen j; have HK4 := Lib.hid hk4; have HO4 := Lib.hid (HOb.out.below b4); have HB4 := Lib.hid (HBl.out.trans (b4.mono hWs3)); clear b4 hk4)
            go_roundw
            case rel => exact ⟨j + 1, by omega, by go_num, HO4.out.far _ hgt _, by rw [← HSET.out, List.map_set]; exact HK4.out.set_ j _, HB4.out.setCell (by dsimp only; omega) _⟩
            case measure => simp [intOf]; omega
          · obtain rfl : j = 4096 := by omega
            rw [List.take_of_length_le (by omega), Nat.sub_self, List.replicate_zero, List.append_nil] at bk
            obtain ⟨w3, rfl⟩ : ∃ w3, w3 = wr := ⟨_, rfl⟩
            have hW3 := bl.size
            have hgw3 := bk.lt
            have HO3 := Lib.hid ob
            have HW3 := Lib.hid bk
            have HB3 := Lib.hid bl
            clear ob bk bl
            rcases (show size = 1 ∨ size = 2 ∨ size = 4 ∨ size = 8 ∨ (¬ size = 1 ∧ ¬ size = 2 ∧ ¬ size = 4 ∧ ¬ size = 8) by omega) with rfl | rfl | rfl | rfl | ⟨n1, n2, n4, n8⟩
            · by_cases hf : p + 1 ≤ 4096
              · have HS1 := Lib.hid (show sB B (p : Int) 1 v = layB B p v 1 from sB_nat B p 1 v (by decide) (by omega))
                have HS2 := Lib.hid (show sT B.length T (p : Int) 1 = unT T p 1 from sT_nat B.length T p 1 (by decide) (by omega))
                have HS3 := Lib.hid (show ldO B.length (p : Int) 1 = true from ldO_mk B.length p 1 (by decide) (by omega))
                have HX1 := Lib.hid (show ldN (layB B p v 1) p 1 = (v % 256) by
                  rw [show ((1 : Int)) = ((1 : Nat) : Int) from rfl, ldN_nat _ p 1 (by decide) (by rw [layB_len]; omega), numB_lay B p v 1 (by omega)]
                  rfl)
                have HX2 := Lib.hid (show ldO (layB B p v 1).length p 1 = true by rw [layB_len]; exact ldO_mk B.length p 1 (by decide) (by omega))
                have i5 : decide ((p : Int) + 1 ≤ 4096) = true := by simp; omega
                have e5 : ((v % 256) != (v % 256)) = false := by simp
                have hsh : IntKind.u64.wrap (v * 72057594037927936) / 72057594037927936 = v % 256 := by rw [IntKind.wrap_u64]; omega
                go_wp2_with (first | (go_at_call 21; (with_reducible refine (cstore_at HO3.out p 1 v true _ _ HS1.out HS2.out HS3.out (by omega) (by omega) (by decide) (by decide) v0 v1).mono ?_); rintro e' w5 ⟨rfl, o5, f5⟩; have hs5 := f5.size; have HO5 := Lib.hid o5; have HB5 := Lib.hid (HB3.out.trans (f5.bl hW3 (fun i x => x.1))); have HW5 := Lib.hid (HW3.out.fr f5 (fun x => by unfold Rg at x; omega)); clear o5 f5) | (go_at_call 17; (with_reducible refine (cload_at HO5.out p 1 _ true HX1.out HX2.out (by omega) (by omega) (by decide) (by decide)).mono ?_); rintro e' w6 ⟨rfl, b6⟩; have hs6 := b6.size; have HO6 := Lib.hid (HO5.out.below b6); have HB6 := Lib.hid (HB5.out.trans (b6.mono HB5.out.size)); have HW6 := Lib.hid (HW5.out.fr ((Fr.refl w5 (fun _ => False)).below b6 (fun _ hi _ => hi)) id); clear b6))
                go_loopw [19] (fun i w9 => ∃ j : Nat, j ≤ 4096 ∧ i = .int .i64 (j : Int) ∧ Below w6.heap.size w6 w9) (fun i _ => 4096 - (intOf i).toNat)
                case atStart => exact ⟨0, by omega, rfl, Below.refl _ _⟩
                case round =>
                  obtain ⟨j, hj, rfl, bw⟩ := hrel
                  have hwr := bw.size
                  have HOJ := Lib.hid (HO6.out.below bw)
                  have hWJ := HW6.out.fr ((Fr.refl w6 (fun _ => False)).below bw (fun _ hi _ => hi)) id
                  have HWJ := Lib.hid hWJ
                  have HBJ := Lib.hid bw
                  clear bw hWJ
                  by_cases hlt5 : j < 4096
                  · have HL1 := Lib.hid (ldN_1 (layB B p v 1) j (by rw [layB_len]; omega) j rfl)
                    have HL2 := Lib.hid (ldO_1 (layB B p v 1).length j (by rw [layB_len]; omega) j rfl)
                    have hby := ByB.getD HOJ.out.byb j
                    have HC0 := Lib.hid (show ∀ w', Below wr.heap.size wr w' → w'.cell? ⟨gw, j, none⟩ = some (.int .u8 (B.getD j 0)) from fun w' k => blk_byte (HWJ.out.fr ((Fr.refl wr (fun _ => False)).below k (fun _ hi _ => hi)) id) j (by omega))
                    have hat := layB_at B p v 1 (by omega) j
                    by_cases hin : p ≤ j ∧ j < p + 1
                    · rw [if_pos hin] at hat
                      obtain ⟨d, hd⟩ : ∃ d, j - p = d := ⟨_, rfl⟩
                      rw [hd, ← pow2_8 d] at hat
                      rw [hat] at hby
                      have HX := Lib.hid (HL1.out.trans hat)
                      have i1 : decide ((p : Int) ≤ (j : Int)) = true := by simp; omega
                      have i2 : decide ((j : Int) < (p : Int) + 1) = true := by simp; omega
                      have hjd : (j : Int) - (p : Int) = (d : Int) := by omega
                      have h8 : (8 * (d : Int)) % 18446744073709551616 = 8 * (d : Int) := by omega
                      have hd8 : d < 8 := by omega
                      have hpd : 0 < (2 : Int) ^ (8 * d) := Int.pow_pos (by decide)
                      have ht : (v / 2 ^ (8 * d)).tmod 256 = v / 2 ^ (8 * d) % 256 := Int.tmod_eq_emod_of_nonneg (Int.ediv_nonneg v0 (by omega))
                      have e0 : (v / 2 ^ (8 * d) % 256 != v / 2 ^ (8 * d) % 256) = false := by simp
                      clear hat hd
                      go_wp2_with (go_at_call 17; (with_reducible refine (cload_at HOJ.out j 1 _ true HX.out HL2.out (by omega) (by omega) (by decide) (by decide)).mono ?_); rintro e' w7 ⟨rfl, b7⟩; have c7 := HC0.out w7 b7; have HB7 := Lib.hid (HBJ.out.trans (b7.mono hwr)); clear b7)
                      go_roundw
                      case rel => exact ⟨j + 1, by omega, by go_num, HB7.out⟩
                      case measure => simp [intOf]; omega
                    · rw [if_neg hin] at hat
                      rw [hat] at hby
                      have HX := Lib.hid (HL1.out.trans hat)
                      have hw8 := wrap8 _ hby.1 hby.2
                      clear hat
                      generalize B.getD j 0 = y at *
                      have e0 : (y != y) = false := by simp
                      by_cases hi1 : p ≤ j
                      · have i1 : decide ((p : Int) ≤ (j : Int)) = true := by simp; omega
                        have i2 : decide ((j : Int) < (p : Int) + 1) = false := by simp; omega
                        go_wp2_with (go_at_call 17; (with_reducible refine (cload_at HOJ.out j 1 _ true HX.out HL2.out (by omega) (by omega) (by decide) (by decide)).mono ?_); rintro e' w7 ⟨rfl, b7⟩; have c7 := HC0.out w7 b7; have HB7 := Lib.hid (HBJ.out.trans (b7.mono hwr)); clear b7)
                        go_roundw
                        case rel => exact ⟨j + 1, by omega, by go_num, HB7.out⟩
                        case measure => simp [intOf]; omega
                      · have i1 : decide ((p : Int) ≤ (j : Int)) = false := by simp; omega
                        go_wp2_with (go_at_call 17; (with_reducible refine (cload_at HOJ.out j 1 _ true HX.out HL2.out (by omega) (by omega) (by decide) (by decide)).mono ?_); rintro e' w7 ⟨rfl, b7⟩; have c7 := HC0.out w7 b7; have HB7 := Lib.hid (HBJ.out.trans (b7.mono hwr)); clear b7)
                        go_roundw
                        case rel => exact ⟨j + 1, by omega, by go_num, HB7.out⟩
                        case measure => simp [intOf]; omega
                  · obtain rfl : j = 4096 := by omega
                    go_wp2_with (go_at_call 10; (with_reducible refine Calls.mono (known11_w _ (Tb.h1 (Lib.hid (Tb.h1 HTB HB6)) HBJ)) ?_); rintro e' w8 ⟨rfl, b8⟩; have HZ := Lib.hid (HB6.out.trans ((HBJ.out.trans (b8.mono hwr)).mono HB6.out.size)); clear b8)
                    go_ret
                    exact ⟨rfl, HZ.out⟩
              · have hno : ldO B.length p 1 = false := by simp [ldO, thB]; omega
                have i5 : decide ((p : Int) + 1 ≤ 4096) = false := by simp; omega
                have HS1 := Lib.hid (sB_no v hno)
                have HS2 := Lib.hid (sT_no T hno)
                have HX1 := Lib.hid (ldN_no hno)
                have HS3 := Lib.hid hno
                clear hno
                go_wp2_with (first | (go_at_call 21; (with_reducible refine (cstore_at HO3.out p 1 v false _ _ HS1.out HS2.out HS3.out (by omega) (by omega) (by decide) (by decide) v0 v1).mono ?_); rintro e' w5 ⟨rfl, o5, f5⟩; have hs5 := f5.size; have HO5 := Lib.hid o5; have HB5 := Lib.hid (HB3.out.trans (f5.bl hW3 (fun i x => x.1))); have HW5 := Lib.hid (HW3.out.fr f5 (fun x => by unfold Rg at x; omega)); clear o5 f5) | (go_at_call 17; (with_reducible refine (cload_at HO5.out p 1 _ false HX1.out HS3.out (by omega) (by omega) (by decide) (by decide)).mono ?_); rintro e' w6 ⟨rfl, b6⟩; have hs6 := b6.size; have HO6 := Lib.hid (HO5.out.below b6); have HB6 := Lib.hid (HB5.out.trans (b6.mono HB5.out.size)); have HW6 := Lib.hid (HW5.out.fr ((Fr.refl w5 (fun _ => False)).below b6 (fun _ hi _ => hi)) id); clear b6))
                go_loopw [19] (fun i w9 => ∃ j : Nat, j ≤ 4096 ∧ i = .int .i64 (j : Int) ∧ Below w6.heap.size w6 w9) (fun i _ => 4096 - (intOf i).toNat)
                case atStart => exact ⟨0, by omega, rfl, Below.refl _ _⟩
                case round =>
                  obtain ⟨j, hj, rfl, bw⟩ := hrel
                  have hwr := bw.size
                  have HOJ := Lib.hid (HO6.out.below bw)
                  have hWJ := HW6.out.fr ((Fr.refl w6 (fun _ => False)).below bw (fun _ hi _ => hi)) id
                  have HWJ := Lib.hid hWJ
                  have HBJ := Lib.hid bw
                  clear bw hWJ
                  by_cases hlt5 : j < 4096
                  · have HL1 := Lib.hid (ldN_1 B j (by omega) j rfl)
                    have HL2 := Lib.hid (ldO_1 B.length j (by omega) j rfl)
                    have hby := ByB.getD HOJ.out.byb j
                    have HC0 := Lib.hid (show ∀ w', Below wr.heap.size wr w' → w'.cell? ⟨gw, j, none⟩ = some (.int .u8 (B.getD j 0)) from fun w' k => blk_byte (HWJ.out.fr ((Fr.refl wr (fun _ => False)).below k (fun _ hi _ => hi)) id) j (by omega))
                    have hw8 := wrap8 _ hby.1 hby.2
                    generalize B.getD j 0 = y at *
                    have e0 : (y != y) = false := by simp
                    go_wp2_with (go_at_call 17; (with_reducible refine (cload_at HOJ.out j 1 _ true HL1.out HL2.out (by omega) (by omega) (by decide) (by decide)).mono ?_); rintro e' w7 ⟨rfl, b7⟩; have c7 := HC0.out w7 b7; have HB7 := Lib.hid (HBJ.out.trans (b7.mono hwr)); clear b7)
                    go_roundw
                    case rel => exact ⟨j + 1, by omega, by go_num, HB7.out⟩
                    case measure => simp [intOf]; omega
                  · obtain rfl : j = 4096 := by omega
                    go_wp2_with (go_at_call 10; (with_reducible refine Calls.mono (known11_w _ (Tb.h1 (Lib.hid (Tb.h1 HTB HB6)) HBJ)) ?_); rintro e' w8 ⟨rfl, b8⟩; have HZ := Lib.hid (HB6.out.trans ((HBJ.out.trans (b8.mono hwr)).mono HB6.out.size)); clear b8)
                    go_ret
                    exact ⟨rfl, HZ.out⟩
            · by_cases hf : p + 2 ≤ 4096
              · have HS1 := Lib.hid (show sB B (p : Int) 2 v = layB B p v 2 from sB_nat B p 2 v (by decide) (by omega))
                have HS2 := Lib.hid (show sT B.length T (p : Int) 2 = unT T p 2 from sT_nat B.length T p 2 (by decide) (by omega))
                have HS3 := Lib.hid (show ldO B.length (p : Int) 2 = true from ldO_mk B.length p 2 (by decide) (by omega))
                have HX1 := Lib.hid (show ldN (layB B p v 2) p 2 = (v % 65536) by
                  rw [show ((2 : Int)) = ((2 : Nat) : Int) from rfl, ldN_nat _ p 2 (by decide) (by rw [layB_len]; omega), numB_lay B p v 2 (by omega)]
                  rfl)
                have HX2 := Lib.hid (show ldO (layB B p v 2).length p 2 = true by rw [layB_len]; exact ldO_mk B.length p 2 (by decide) (by omega))
                have i5 : decide ((p : Int) + 2 ≤ 4096) = true := by simp; omega
                have e5 : ((v % 65536) != (v % 65536)) = false := by simp
                have hsh : IntKind.u64.wrap (v * 281474976710656) / 281474976710656 = v % 65536 := by rw [IntKind.wrap_u64]; omega
                go_wp2_with (first | (go_at_call 21; (with_reducible refine (cstore_at HO3.out p 2 v true _ _ HS1.out HS2.out HS3.out (by omega) (by omega) (by decide) (by decide) v0 v1).mono ?_); rintro e' w5 ⟨rfl, o5, f5⟩; have hs5 := f5.size; have HO5 := Lib.hid o5; have HB5 := Lib.hid (HB3.out.trans (f5.bl hW3 (fun i x => x.1))); have HW5 := Lib.hid (HW3.out.fr f5 (fun x => by unfold Rg at x; omega)); clear o5 f5) | (go_at_call 17; (with_reducible refine (cload_at HO5.out p 2 _ true HX1.out HX2.out (by omega) (by omega) (by decide) (by decide)).mono ?_); rintro e' w6 ⟨rfl, b6⟩; have hs6 := b6.size; have HO6 := Lib.hid (HO5.out.below b6); have HB6 := Lib.hid (HB5.out.trans (b6.mono HB5.out.size)); have HW6 := Lib.hid (HW5.out.fr ((Fr.refl w5 (fun _ => False)).below b6 (fun _ hi _ => hi)) id); clear b6))
                go_loopw [19] (fun i w9 => ∃ j : Nat, j ≤ 4096 ∧ i = .int .i64 (j : Int) ∧ Below w6.heap.size w6 w9) (fun i _ => 4096 - (intOf i).toNat)
                case atStart => exact ⟨0, by omega, rfl, Below.refl _ _⟩
                case round =>
                  obtain ⟨j, hj, rfl, bw⟩ := hrel
                  have hwr := bw.size
                  have HOJ := Lib.hid (HO6.out.below bw)
                  have hWJ := HW6.out.fr ((Fr.refl w6 (fun _ => False)).below bw (fun _ hi _ => hi)) id
                  have HWJ := Lib.hid hWJ
                  have HBJ := Lib.hid bw
                  clear bw hWJ
                  by_cases hlt5 : j < 4096
                  · have HL1 := Lib.hid (ldN_1 (layB B p v 2) j (by rw [layB_len]; omega) j rfl)
                    have HL2 := Lib.hid (ldO_1 (layB B p v 2).length j (by rw [layB_len]; omega) j rfl)
                    have hby := ByB.getD HOJ.out.byb j
                    have HC0 := Lib.hid (show ∀ w', Below wr.heap.size wr w' → w'.cell? ⟨gw, j, none⟩ = some (.int .u8 (B.getD j 0)) from fun w' k => blk_byte (HWJ.out.fr ((Fr.refl wr (fun _ => False)).below k (fun _ hi _ => hi)) id) j (by omega))
                    have hat := layB_at B p v 2 (by omega) j
                    by_cases hin : p ≤ j ∧ j < p + 2
                    · rw [if_pos hin] at hat
                      obtain ⟨d, hd⟩ : ∃ d, j - p = d := ⟨_, rfl⟩
                      rw [hd, ← pow2_8 d] at hat
                      rw [hat] at hby
                      have HX := Lib.hid (HL1.out.trans hat)
                      have i1 : decide ((p : Int) ≤ (j : Int)) = true := by simp; omega
                      have i2 : decide ((j : Int) < (p : Int) + 2) = true := by simp; omega
                      have hjd : (j : Int) - (p : Int) = (d : Int) := by omega
                      have h8 : (8 * (d : Int)) % 18446744073709551616 = 8 * (d : Int) := by omega
                      have hd8 : d < 8 := by omega
                      have hpd : 0 < (2 : Int) ^ (8 * d) := Int.pow_pos (by decide)
                      have ht : (v / 2 ^ (8 * d)).tmod 256 = v / 2 ^ (8 * d) % 256 := Int.tmod_eq_emod_of_nonneg (Int.ediv_nonneg v0 (by omega))
                      have e0 : (v / 2 ^ (8 * d) % 256 != v / 2 ^ (8 * d) % 256) = false := by simp
                      clear hat hd
                      go_wp2_with (go_at_call 17; (with_reducible refine (cload_at HOJ.out j 1 _ true HX.out HL2.out (by omega) (by omega) (by decide) (by decide)).mono ?_); rintro e' w7 ⟨rfl, b7⟩; have c7 := HC0.out w7 b7; have HB7 := Lib.hid (HBJ.out.trans (b7.mono hwr)); clear b7)
                      go_roundw
                      case rel => exact ⟨j + 1, by omega, by go_num, HB7.out⟩
                      case measure => simp [intOf]; omega
                    · rw [if_neg hin] at hat
                      rw [hat] at hby
                      have HX := Lib.hid (HL1.out.trans hat)
                      have hw8 := wrap8 _ hby.1 hby.2
                      clear hat
                      generalize B.getD j 0 = y at *
                      have e0 : (y != y) = false := by simp
                      by_cases hi1 : p ≤ j
                      · have i1 : decide ((p : Int) ≤ (j : Int)) = true := by simp; omega
                        have i2 : decide ((j : Int) < (p : Int) + 2) = false := by simp; omega
                        go_wp2_with (go_at_call 17; (with_reducible refine (cload_at HOJ.out j 1 _ true HX.out HL2.out (by omega) (by omega) (by decide) (by decide)).mono ?_); rintro e' w7 ⟨rfl, b7⟩; have c7 := HC0.out w7 b7; have HB7 := Lib.hid (HBJ.out.trans (b7.mono hwr)); clear b7)
                        go_roundw
                        case rel => exact ⟨j + 1, by omega, by go_num, HB7.out⟩
                        case measure => simp [intOf]; omega
                      · have i1 : decide ((p : Int) ≤ (j : Int)) = false := by simp; omega
                        go_wp2_with (go_at_call 17; (with_reducible refine (cload_at HOJ.out j 1 _ true HX.out HL2.out (by omega) (by omega) (by decide) (by decide)).mono ?_); rintro e' w7 ⟨rfl, b7⟩; have c7 := HC0.out w7 b7; have HB7 := Lib.hid (HBJ.out.trans (b7.mono hwr)); clear b7)
                        go_roundw
                        case rel => exact ⟨j + 1, by omega, by go_num, HB7.out⟩
                        case measure => simp [intOf]; omega
                  · obtain rfl : j = 4096 := by omega
                    go_wp2_with (go_at_call 10; (with_reducible refine Calls.mono (known11_w _ (Tb.h1 (Lib.hid (Tb.h1 HTB HB6)) HBJ)) ?_); rintro e' w8 ⟨rfl, b8⟩; have HZ := Lib.hid (HB6.out.trans ((HBJ.out.trans (b8.mono hwr)).mono HB6.out.size)); clear b8)
                    go_ret
                    exact ⟨rfl, HZ.out⟩
              · have hno : ldO B.length p 2 = false := by simp [ldO, thB]; omega
                have i5 : decide ((p : Int) + 2 ≤ 4096) = false := by simp; omega
                have HS1 := Lib.hid (sB_no v hno)
                have HS2 := Lib.hid (sT_no T hno)
                have HX1 := Lib.hid (ldN_no hno)
                have HS3 := Lib.hid hno
                clear hno
                go_wp2_with (first | (go_at_call 21; (with_reducible refine (cstore_at HO3.out p 2 v false _ _ HS1.out HS2.out HS3.out (by omega) (by omega) (by decide) (by decide) v0 v1).mono ?_); rintro e' w5 ⟨rfl, o5, f5⟩; have hs5 := f5.size; have HO5 := Lib.hid o5; have HB5 := Lib.hid (HB3.out.trans (f5.bl hW3 (fun i x => x.1))); have HW5 := Lib.hid (HW3.out.fr f5 (fun x => by unfold Rg at x; omega)); clear o5 f5) | (go_at_call 17; (with_reducible refine (cload_at HO5.out p 2 _ false HX1.out HS3.out (by omega) (by omega) (by decide) (by decide)).mono ?_); rintro e' w6 ⟨rfl, b6⟩; have hs6 := b6.size; have HO6 := Lib.hid (HO5.out.below b6); have HB6 := Lib.hid (HB5.out.trans (b6.mono HB5.out.size)); have HW6 := Lib.hid (HW5.out.fr ((Fr.refl w5 (fun _ => False)).below b6 (fun _ hi _ => hi)) id); clear b6))
                go_loopw [19] (fun i w9 => ∃ j : Nat, j ≤ 4096 ∧ i = .int .i64 (j : Int) ∧ Below w6.heap.size w6 w9) (fun i _ => 4096 - (intOf i).toNat)
                case atStart => exact ⟨0, by omega, rfl, Below.refl _ _⟩
                case round =>
                  obtain ⟨j, hj, rfl, bw⟩ := hrel
                  have hwr := bw.size
                  have HOJ := Lib.hid (HO6.out.below bw)
                  have hWJ := HW6.out.fr ((Fr.refl w6 (fun _ => False)).below bw (fun _ hi _ => hi)) id
                  have HWJ := Lib.hid hWJ
                  have HBJ := Lib.hid bw
                  clear bw hWJ
                  by_cases hlt5 : j < 4096
                  · have HL1 := Lib.hid (ldN_1 B j (by omega) j rfl)
                    have HL2 := Lib.hid (ldO_1 B.length j (by omega) j rfl)
                    have hby := ByB.getD HOJ.out.byb j
                    have HC0 := Lib.hid (show ∀ w', Below wr.heap.size wr w' → w'.cell? ⟨gw, j, none⟩ = some (.int .u8 (B.getD j 0)) from fun w' k => blk_byte (HWJ.out.fr ((Fr.refl wr (fun _ => False)).below k (fun _ hi _ => hi)) id) j (by omega))
                    have hw8 := wrap8 _ hby.1 hby.2
                    generalize B.getD j 0 = y at *
                    have e0 : (y != y) = false := by simp
                    go_wp2_with (go_at_call 17; (with_reducible refine (cload_at HOJ.out j 1 _ true HL1.out HL2.out (by omega) (by omega) (by decide) (by decide)).mono ?_); rintro e' w7 ⟨rfl, b7⟩; have c7 := HC0.out w7 b7; have HB7 := Lib.hid (HBJ.out.trans (b7.mono hwr)); clear b7)
                    go_roundw
                    case rel => exact ⟨j + 1, by omega, by go_num, HB7.out⟩
                    case measure => simp [intOf]; omega
                  · obtain rfl : j = 4096 := by omega
                    go_wp2_with (go_at_call 10; (with_reducible refine Calls.mono (known11_w _ (Tb.h1 (Lib.hid (Tb.h1 HTB HB6)) HBJ)) ?_); rintro e' w8 ⟨rfl, b8⟩; have HZ := Lib.hid (HB6.out.trans ((HBJ.out.trans (b8.mono hwr)).mono HB6.out.size)); clear b8)
                    go_ret
                    exact ⟨rfl, HZ.out⟩
            · by_cases hf : p + 4 ≤ 4096
              · have HS1 := Lib.hid (show sB B (p : Int) 4 v = layB B p v 4 from sB_nat B p 4 v (by decide) (by omega))
                have HS2 := Lib.hid (show sT B.length T (p : Int) 4 = unT T p 4 from sT_nat B.length T p 4 (by decide) (by omega))
                have HS3 := Lib.hid (show ldO B.length (p : Int) 4 = true from ldO_mk B.length p 4 (by decide) (by omega))
                have HX1 := Lib.hid (show ldN (layB B p v 4) p 4 = (v % 4294967296) by
                  rw [show ((4 : Int)) = ((4 : Nat) : Int) from rfl, ldN_nat _ p 4 (by decide) (by rw [layB_len]; omega), numB_lay B p v 4 (by omega)]
                  rfl)
                have HX2 := Lib.hid (show ldO (layB B p v 4).length p 4 = true by rw [layB_len]; exact ldO_mk B.length p 4 (by decide) (by omega))
                have i5 : decide ((p : Int) + 4 ≤ 4096) = true := by simp; omega
                have e5 : ((v % 4294967296) != (v % 4294967296)) = false := by simp
                have hsh : IntKind.u64.wrap (v * 4294967296) / 4294967296 = v % 4294967296 := by rw [IntKind.wrap_u64]; omega
                go_wp2_with (first | (go_at_call 21; (with_reducible refine (cstore_at HO3.out p 4 v true _ _ HS1.out HS2.out HS3.out (by omega) (by omega) (by decide) (by decide) v0 v1).mono ?_); rintro e' w5 ⟨rfl, o5, f5⟩; have hs5 := f5.size; have HO5 := Lib.hid o5; have HB5 := Lib.hid (HB3.out.trans (f5.bl hW3 (fun i x => x.1))); have HW5 := Lib.hid (HW3.out.fr f5 (fun x => by unfold Rg at x; omega)); clear o5 f5) | (go_at_call 17; (with_reducible refine (cload_at HO5.out p 4 _ true HX1.out HX2.out (by omega) (by omega) (by decide) (by decide)).mono ?_); rintro e' w6 ⟨rfl, b6⟩; have hs6 := b6.size; have HO6 := Lib.hid (HO5.out.below b6); have HB6 := Lib.hid (HB5.out.trans (b6.mono HB5.out.size)); have HW6 := Lib.hid (HW5.out.fr ((Fr.refl w5 (fun _ => False)).below b6 (fun _ hi _ => hi)) id); clear b6))
                go_loopw [19] (fun i w9 => ∃ j : Nat, j ≤ 4096 ∧ i = .int .i64 (j : Int) ∧ Below w6.heap.size w6 w9) (fun i _ => 4096 - (intOf i).toNat)
                case atStart => exact ⟨0, by omega, rfl, Below.refl _ _⟩
                case round =>
                  obtain ⟨j, hj, rfl, bw⟩ := hrel
                  have hwr := bw.size
                  have HOJ := Lib.hid (HO6.out.below bw)
                  have hWJ := HW6.out.fr ((Fr.refl w6 (fun _ => False)).below bw (fun _ hi _ => hi)) id
                  have HWJ := Lib.hid hWJ
                  have HBJ := Lib.hid bw
                  clear bw hWJ
                  by_cases hlt5 : j < 4096
                  · have HL1 := Lib.hid (ldN_1 (layB B p v 4) j (by rw [layB_len]; omega) j rfl)
                    have HL2 := Lib.hid (ldO_1 (layB B p v 4).length j (by rw [layB_len]; omega) j rfl)
                    have hby := ByB.getD HOJ.out.byb j
                    have HC0 := Lib.hid (show ∀ w', Below wr.heap.size wr w' → w'.cell? ⟨gw, j, none⟩ = some (.int .u8 (B.getD j 0)) from fun w' k => blk_byte (HWJ.out.fr ((Fr.refl wr (fun _ => False)).below k (fun _ hi _ => hi)) id) j (by omega))
                    have hat := layB_at B p v 4 (by omega) j
                    by_cases hin : p ≤ j ∧ j < p + 4
                    · rw [if_pos hin] at hat
                      obtain ⟨d, hd⟩ : ∃ d, j - p = d := ⟨_, rfl⟩
                      rw [hd, ← pow2_8 d] at hat
                      rw [hat] at hby
                      have HX := Lib.hid (HL1.out.trans hat)
                      have i1 : decide ((p : Int) ≤ (j : Int)) = true := by simp; omega
                      have i2 : decide ((j : Int) < (p : Int) + 4) = true := by simp; omega
                      have hjd : (j : Int) - (p : Int) = (d : Int) := by omega
                      have h8 : (8 * (d : Int)) % 18446744073709551616 = 8 * (d : Int) := by omega
                      have hd8 : d < 8 := by omega
                      have hpd : 0 < (2 : Int) ^ (8 * d) := Int.pow_pos (by decide)
                      have ht : (v / 2 ^ (8 * d)).tmod 256 = v / 2 ^ (8 * d) % 256 := Int.tmod_eq_emod_of_nonneg (Int.ediv_nonneg v0 (by omega))
                      have e0 : (v / 2 ^ (8 * d) % 256 != v / 2 ^ (8 * d) % 256) = false := by simp
                      clear hat hd
                      go_wp2_with (go_at_call 17; (with_reducible refine (cload_at HOJ.out j 1 _ true HX.out HL2.out (by omega) (by omega) (by decide) (by decide)).mono ?_); rintro e' w7 ⟨rfl, b7⟩; have c7 := HC0.out w7 b7; have HB7 := Lib.hid (HBJ.out.trans (b7.mono hwr)); clear b7)
                      go_roundw
                      case rel => exact ⟨j + 1, by omega, by go_num, HB7.out⟩
                      case measure => simp [intOf]; omega
                    · rw [if_neg hin] at hat
                      rw [hat] at hby
                      have HX := Lib.hid (HL1.out.trans hat)
                      have hw8 := wrap8 _ hby.1 hby.2
                      clear hat
                      generalize B.getD j 0 = y at *
                      have e0 : (y != y) = false := by simp
                      by_cases hi1 : p ≤ j
                      · have i1 : decide ((p : Int) ≤ (j : Int)) = true := by simp; omega
                        have i2 : decide ((j : Int) < (p : Int) + 4) = false := by simp; omega
                        go_wp2_with (go_at_call 17; (with_reducible refine (cload_at HOJ.out j 1 _ true HX.out HL2.out (by omega) (by omega) (by decide) (by decide)).mono ?_); rintro e' w7 ⟨rfl, b7⟩; have c7 := HC0.out w7 b7; have HB7 := Lib.hid (HBJ.out.trans (b7.mono hwr)); clear b7)
                        go_roundw
                        case rel => exact ⟨j + 1, by omega, by go_num, HB7.out⟩
                        case measure => simp [intOf]; omega
                      · have i1 : decide ((p : Int) ≤ (j : Int)) = false := by simp; omega
                        go_wp2_with (go_at_call 17; (with_reducible refine (cload_at HOJ.out j 1 _ true HX.out HL2.out (by omega) (by omega) (by decide) (by decide)).mono ?_); rintro e' w7 ⟨rfl, b7⟩; have c7 := HC0.out w7 b7; have HB7 := Lib.hid (HBJ.out.trans (b7.mono hwr)); clear b7)
                        go_roundw
                        case rel => exact ⟨j + 1, by omega, by go_num, HB7.out⟩
                        case measure => simp [intOf]; omega
                  · obtain rfl : j = 4096 := by omega
                    go_wp2_with (go_at_call 10; (with_reducible refine Calls.mono (known11_w _ (Tb.h1 (Lib.hid (Tb.h1 HTB HB6)) HBJ)) ?_); rintro e' w8 ⟨rfl, b8⟩; have HZ := Lib.hid (HB6.out.trans ((HBJ.out.trans (b8.mono hwr)).mono HB6.out.size)); clear b8)
                    go_ret
                    exact ⟨rfl, HZ.out⟩
              · have hno : ldO B.length p 4 = false := by simp [ldO, thB]; omega
                have i5 : decide ((p : Int) + 4 ≤ 4096) = false := by simp; omega
                have HS1 := Lib.hid (sB_no v hno)
                have HS2 := Lib.hid (sT_no T hno)
                have HX1 := Lib.hid (ldN_no hno)
                have HS3 := Lib.hid hno
                clear hno
                go_wp2_with (first | (go_at_call 21; (with_reducible refine (cstore_at HO3.out p 4 v false _ _ HS1.out HS2.out HS3.out (by omega) (by omega) (by decide) (by decide) v0 v1).mono ?_); rintro e' w5 ⟨rfl, o5, f5⟩; have hs5 := f5.size; have HO5 := Lib.hid o5; have HB5 := Lib.hid (HB3.out.trans (f5.bl hW3 (fun i x => x.1))); have HW5 := Lib.hid (HW3.out.fr f5 (fun x => by unfold Rg at x; omega)); clear o5 f5) | (go_at_call 17; (with_reducible refine (cload_at HO5.out p 4 _ false HX1.out HS3.out (by omega) (by omega) (by decide) (by decide)).mono ?_); rintro e' w6 ⟨rfl, b6⟩; have hs6 := b6.size; have HO6 := Lib.hid (HO5.out.below b6); have HB6 := Lib.hid (HB5.out.trans (b6.mono HB5.out.size)); have HW6 := Lib.hid (HW5.out.fr ((Fr.refl w5 (fun _ => False)).below b6 (fun _ hi _ => hi)) id); clear b6))
                go_loopw [19] (fun i w9 => ∃ j : Nat, j ≤ 4096 ∧ i = .int .i64 (j : Int) ∧ Below w6.heap.size w6 w9) (fun i _ => 4096 - (intOf i).toNat)
                case atStart => exact ⟨0, by omega, rfl, Below.refl _ _⟩
                case round =>
                  obtain ⟨j, hj, rfl, bw⟩ := hrel
                  have hwr := bw.size
                  have HOJ := Lib.hid (HO6.out.below bw)
                  have hWJ := HW6.out.fr ((Fr.refl w6 (fun _ => False)).below bw (fun _ hi _ => hi)) id
                  have HWJ := Lib.hid hWJ
                  have HBJ := Lib.hid bw
                  clear bw hWJ
                  by_cases hlt5 : j < 4096
                  · have HL1 := Lib.hid (ldN_1 B j (by omega) j rfl)
                    have HL2 := Lib.hid (ldO_1 B.length j (by omega) j rfl)
                    have hby := ByB.getD HOJ.out.byb j
                    have HC0 := Lib.hid (show ∀ w', Below wr.heap.size wr w' → w'.cell? ⟨gw, j, none⟩ = some (.int .u8 (B.getD j 0)) from fun w' k => blk_byte (HWJ.out.fr ((Fr.refl wr (fun _ => False)).below k (fun _ hi _ => hi)) id) j (by omega))
                    have hw8 := wrap8 _ hby.1 hby.2
                    generalize B.getD j 0 = y at *
                    have e0 : (y != y) = false := by simp
                    go_wp2_with (go_at_call 17; (with_reducible refine (cload_at HOJ.out j 1 _ true HL1.out HL2.out (by omega) (by omega) (by decide) (by decide)).mono ?_); rintro e' w7 ⟨rfl, b7⟩; have c7 := HC0.out w7 b7; have HB7 := Lib.hid (HBJ.out.trans (b7.mono hwr)); clear b7)
                    go_roundw
                    case rel => exact ⟨j + 1, by omega, by go_num, HB7.out⟩
                    case measure => simp [intOf]; omega
                  · obtain rfl : j = 4096 := by omega
                    go_wp2_with (go_at_call 10; (with_reducible refine Calls.mono (known11_w _ (Tb.h1 (Lib.hid (Tb.h1 HTB HB6)) HBJ)) ?_); rintro e' w8 ⟨rfl, b8⟩; have HZ := Lib.hid (HB6.out.trans ((HBJ.out.trans (b8.mono hwr)).mono HB6.out.size)); clear b8)
                    go_ret
                    exact ⟨rfl, HZ.out⟩
            · by_cases hf : p + 8 ≤ 4096
              · have HS1 := Lib.hid (show sB B (p : Int) 8 v = layB B p v 8 from sB_nat B p 8 v (by decide) (by omega))
                have HS2 := Lib.hid (show sT B.length T (p : Int) 8 = unT T p 8 from sT_nat B.length T p 8 (by decide) (by omega))
                have HS3 := Lib.hid (show ldO B.length (p : Int) 8 = true from ldO_mk B.length p 8 (by decide) (by omega))
                have HX1 := Lib.hid (show ldN (layB B p v 8) p 8 = v by
                  rw [show ((8 : Int)) = ((8 : Nat) : Int) from rfl, ldN_nat _ p 8 (by decide) (by rw [layB_len]; omega), numB_lay B p v 8 (by omega)]
                  exact Int.emod_eq_of_lt v0 (by simpa using v1))
                have HX2 := Lib.hid (show ldO (layB B p v 8).length p 8 = true by rw [layB_len]; exact ldO_mk B.length p 8 (by decide) (by omega))
                have i5 : decide ((p : Int) + 8 ≤ 4096) = true := by simp; omega
                have e5 : (v != v) = false := by simp
                go_wp2_with (first | (go_at_call 21; (with_reducible refine (cstore_at HO3.out p 8 v true _ _ HS1.out HS2.out HS3.out (by omega) (by omega) (by decide) (by decide) v0 v1).mono ?_); rintro e' w5 ⟨rfl, o5, f5⟩; have hs5 := f5.size; have HO5 := Lib.hid o5; have HB5 := Lib.hid (HB3.out.trans (f5.bl hW3 (fun i x => x.1))); have HW5 := Lib.hid (HW3.out.fr f5 (fun x => by unfold Rg at x; omega)); clear o5 f5) | (go_at_call 17; (with_reducible refine (cload_at HO5.out p 8 _ true HX1.out HX2.out (by omega) (by omega) (by decide) (by decide)).mono ?_); rintro e' w6 ⟨rfl, b6⟩; have hs6 := b6.size; have HO6 := Lib.hid (HO5.out.below b6); have HB6 := Lib.hid (HB5.out.trans (b6.mono HB5.out.size)); have HW6 := Lib.hid (HW5.out.fr ((Fr.refl w5 (fun _ => False)).below b6 (fun _ hi _ => hi)) id); clear b6))
                go_loopw [19] (fun i w9 => ∃ j : Nat, j ≤ 4096 ∧ i = .int .i64 (j : Int) ∧ Below w6.heap.size w6 w9) (fun i _ => 4096 - (intOf i).toNat)
                case atStart => exact ⟨0, by omega, rfl, Below.refl _ _⟩
                case round =>
                  obtain ⟨j, hj, rfl, bw⟩ := hrel
                  have hwr := bw.size
                  have HOJ := Lib.hid (HO6.out.below bw)
                  have hWJ := HW6.out.fr ((Fr.refl w6 (fun _ => False)).below bw (fun _ hi _ => hi)) id
                  have HWJ := Lib.hid hWJ
                  have HBJ := Lib.hid bw
                  clear bw hWJ
                  by_cases hlt5 : j < 4096
                  · have HL1 := Lib.hid (ldN_1 (layB B p v 8) j (by rw [layB_len]; omega) j rfl)
                    have HL2 := Lib.hid (ldO_1 (layB B p v 8).length j (by rw [layB_len]; omega) j rfl)
                    have hby := ByB.getD HOJ.out.byb j
                    have HC0 := Lib.hid (show ∀ w', Below wr.heap.size wr w' → w'.cell? ⟨gw, j, none⟩ = some (.int .u8 (B.getD j 0)) from fun w' k => blk_byte (HWJ.out.fr ((Fr.refl wr (fun _ => False)).below k (fun _ hi _ => hi)) id) j (by omega))
                    have hat := layB_at B p v 8 (by omega) j
                    by_cases hin : p ≤ j ∧ j < p + 8
                    · rw [if_pos hin] at hat
                      obtain ⟨d, hd⟩ : ∃ d, j - p = d := ⟨_, rfl⟩
                      rw [hd, ← pow2_8 d] at hat
                      rw [hat] at hby
                      have HX := Lib.hid (HL1.out.trans hat)
                      have i1 : decide ((p : Int) ≤ (j : Int)) = true := by simp; omega
                      have i2 : decide ((j : Int) < (p : Int) + 8) = true := by simp; omega
                      have hjd : (j : Int) - (p : Int) = (d : Int) := by omega
                      have h8 : (8 * (d : Int)) % 18446744073709551616 = 8 * (d : Int) := by omega
                      have hd8 : d < 8 := by omega
                      have hpd : 0 < (2 : Int) ^ (8 * d) := Int.pow_pos (by decide)
                      have ht : (v / 2 ^ (8 * d)).tmod 256 = v / 2 ^ (8 * d) % 256 := Int.tmod_eq_emod_of_nonneg (Int.ediv_nonneg v0 (by omega))
                      have e0 : (v / 2 ^ (8 * d) % 256 != v / 2 ^ (8 * d) % 256) = false := by simp
                      clear hat hd
                      go_wp2_with (go_at_call 17; (with_reducible refine (cload_at HOJ.out j 1 _ true HX.out HL2.out (by omega) (by omega) (by decide) (by decide)).mono ?_); rintro e' w7 ⟨rfl, b7⟩; have c7 := HC0.out w7 b7; have HB7 := Lib.hid (HBJ.out.trans (b7.mono hwr)); clear b7)
                      go_roundw
                      case rel => exact ⟨j + 1, by omega, by go_num, HB7.out⟩
                      case measure => simp [intOf]; omega
                    · rw [if_neg hin] at hat
                      rw [hat] at hby
                      have HX := Lib.hid (HL1.out.trans hat)
                      have hw8 := wrap8 _ hby.1 hby.2
                      clear hat
                      generalize B.getD j 0 = y at *
                      have e0 : (y != y) = false := by simp
                      by_cases hi1 : p ≤ j
                      · have i1 : decide ((p : Int) ≤ (j : Int)) = true := by simp; omega
                        have i2 : decide ((j : Int) < (p : Int) + 8) = false := by simp; omega
                        go_wp2_with (go_at_call 17; (with_reducible refine (cload_at HOJ.out j 1 _ true HX.out HL2.out (by omega) (by omega) (by decide) (by decide)).mono ?_); rintro e' w7 ⟨rfl, b7⟩; have c7 := HC0.out w7 b7; have HB7 := Lib.hid (HBJ.out.trans (b7.mono hwr)); clear b7)
                        go_roundw
                        case rel => exact ⟨j + 1, by omega, by go_num, HB7.out⟩
                        case measure => simp [intOf]; omega
                      · have i1 : decide ((p : Int) ≤ (j : Int)) = false := by simp; omega
                        go_wp2_with (go_at_call 17; (with_reducible refine (cload_at HOJ.out j 1 _ true HX.out HL2.out (by omega) (by omega) (by decide) (by decide)).mono ?_); rintro e' w7 ⟨rfl, b7⟩; have c7 := HC0.out w7 b7; have HB7 := Lib.hid (HBJ.out.trans (b7.mono hwr)); clear b7)
                        go_roundw
                        case rel => exact ⟨j + 1, by omega, by go_num, HB7.out⟩
                        case measure => simp [intOf]; omega
                  · obtain rfl : j = 4096 := by omega
                    go_wp2_with (go_at_call 10; (with_reducible refine Calls.mono (known11_w _ (Tb.h1 (Lib.hid (Tb.h1 HTB HB6)) HBJ)) ?_); rintro e' w8 ⟨rfl, b8⟩; have HZ := Lib.hid (HB6.out.trans ((HBJ.out.trans (b8.mono hwr)).mono HB6.out.size)); clear b8)
                    go_ret
                    exact ⟨rfl, HZ.out⟩
              · have hno : ldO B.length p 8 = false := by simp [ldO, thB]; omega
                have i5 : decide ((p : Int) + 8 ≤ 4096) = false := by simp; omega
                have HS1 := Lib.hid (sB_no v hno)
                have HS2 := Lib.hid (sT_no T hno)
                have HX1 := Lib.hid (ldN_no hno)
                have HS3 := Lib.hid hno
                clear hno
                go_wp2_with (first | (go_at_call 21; (with_reducible refine (cstore_at HO3.out p 8 v false _ _ HS1.out HS2.out HS3.out (by omega) (by omega) (by decide) (by decide) v0 v1).mono ?_); rintro e' w5 ⟨rfl, o5, f5⟩; have hs5 := f5.size; have HO5 := Lib.hid o5; have HB5 := Lib.hid (HB3.out.trans (f5.bl hW3 (fun i x => x.1))); have HW5 := Lib.hid (HW3.out.fr f5 (fun x => by unfold Rg at x; omega)); clear o5 f5) | (go_at_call 17; (with_reducible refine (cload_at HO5.out p 8 _ false HX1.out HS3.out (by omega) (by omega) (by decide) (by decide)).mono ?_); rintro e' w6 ⟨rfl, b6⟩; have hs6 := b6.size; have HO6 := Lib.hid (HO5.out.below b6); have HB6 := Lib.hid (HB5.out.trans (b6.mono HB5.out.size)); have HW6 := Lib.hid (HW5.out.fr ((Fr.refl w5 (fun _ => False)).below b6 (fun _ hi _ => hi)) id); clear b6))
                go_loopw [19] (fun i w9 => ∃ j : Nat, j ≤ 4096 ∧ i = .int .i64 (j : Int) ∧ Below w6.heap.size w6 w9) (fun i _ => 4096 - (intOf i).toNat)
                case atStart => exact ⟨0, by omega, rfl, Below.refl _ _⟩
                case round =>
                  obtain ⟨j, hj, rfl, bw⟩ := hrel
                  have hwr := bw.size
                  have HOJ := Lib.hid (HO6.out.below bw)
                  have hWJ := HW6.out.fr ((Fr.refl w6 (fun _ => False)).below bw (fun _ hi _ => hi)) id
                  have HWJ := Lib.hid hWJ
                  have HBJ := Lib.hid bw
                  clear bw hWJ
                  by_cases hlt5 : j < 4096
                  · have HL1 := Lib.hid (ldN_1 B j (by omega) j rfl)
                    have HL2 := Lib.hid (ldO_1 B.length j (by omega) j rfl)
                    have hby := ByB.getD HOJ.out.byb j
                    have HC0 := Lib.hid (show ∀ w', Below wr.heap.size wr w' → w'.cell? ⟨gw, j, none⟩ = some (.int .u8 (B.getD j 0)) from fun w' k => blk_byte (HWJ.out.fr ((Fr.refl wr (fun _ => False)).below k (fun _ hi _ => hi)) id) j (by omega))
                    have hw8 := wrap8 _ hby.1 hby.2
                    generalize B.getD j 0 = y at *
                    have e0 : (y != y) = false := by simp
                    go_wp2_with (go_at_call 17; (with_reducible refine (cload_at HOJ.out j 1 _ true HL1.out HL2.out (by omega) (by omega) (by decide) (by decide)).mono ?_); rintro e' w7 ⟨rfl, b7⟩; have c7 := HC0.out w7 b7; have HB7 := Lib.hid (HBJ.out.trans (b7.mono hwr)); clear b7)
                    go_roundw
                    case rel => exact ⟨j + 1, by omega, by go_num, HB7.out⟩
                    case measure => simp [intOf]; omega
                  · obtain rfl : j = 4096 := by omega
                    go_wp2_with (go_at_call 10; (with_reducible refine Calls.mono (known11_w _ (Tb.h1 (Lib.hid (Tb.h1 HTB HB6)) HBJ)) ?_); rintro e' w8 ⟨rfl, b8⟩; have HZ := Lib.hid (HB6.out.trans ((HBJ.out.trans (b8.mono hwr)).mono HB6.out.size)); clear b8)
                    go_ret
                    exact ⟨rfl, HZ.out⟩
            · have t1 : (size == 1) = false := by simpa using n1
              have t2 : (size == 2) = false := by simpa using n2
              have t4 : (size == 4) = false := by simpa using n4
              have t8 : (size == 8) = false := by simpa using n8
              have hno : ldO B.length p size = false := by simp [ldO, szB, t1, t2, t4, t8]
              have HZ0 := Lib.hid s0
              have HZ1 := Lib.hid s1
              clear n1 n2 n4 n8
              have HS1 := Lib.hid (sB_no v hno)
              have HS2 := Lib.hid (sT_no T hno)
              have HX1 := Lib.hid (ldN_no hno)
              have HS3 := Lib.hid hno
              clear hno
              go_wp2_with (first | (go_at_call 21; (with_reducible refine (cstore_at HO3.out p size v false _ _ HS1.out HS2.out HS3.out (by omega) (by omega) HZ0.out HZ1.out v0 v1).mono ?_); rintro e' w5 ⟨rfl, o5, f5⟩; have hs5 := f5.size; have HO5 := Lib.hid o5; have HB5 := Lib.hid (HB3.out.trans (f5.bl hW3 (fun i x => x.1))); have HW5 := Lib.hid (HW3.out.fr f5 (fun x => by unfold Rg at x; omega)); clear o5 f5) | (go_at_call 17; (with_reducible refine (cload_at HO5.out p size _ false HX1.out HS3.out (by omega) (by omega) HZ0.out HZ1.out).mono ?_); rintro e' w6 ⟨rfl, b6⟩; have hs6 := b6.size; have HO6 := Lib.hid (HO5.out.below b6); have HB6 := Lib.hid (HB5.out.trans (b6.mono HB5.out.size)); have HW6 := Lib.hid (HW5.out.fr ((Fr.refl w5 (fun _ => False)).below b6 (fun _ hi _ => hi)) id); clear b6))
              go_loopw [19] (fun i w9 => ∃ j : Nat, j ≤ 4096 ∧ i = .int .i64 (j : Int) ∧ Below w6.heap.size w6 w9) (fun i _ => 4096 - (intOf i).toNat)
              case atStart => exact ⟨0, by omega, rfl, Below.refl _ _⟩
              case round =>
                obtain ⟨j, hj, rfl, bw⟩ := hrel
                have hwr := bw.size
                have HOJ := Lib.hid (HO6.out.below bw)
                have hWJ := HW6.out.fr ((Fr.refl w6 (fun _ => False)).below bw (fun _ hi _ => hi)) id
                have HWJ := Lib.hid hWJ
                have HBJ := Lib.hid bw
                clear bw hWJ
                by_cases hlt5 : j < 4096
                · have HL1 := Lib.hid (ldN_1 B j (by omega) j rfl)
                  have HL2 := Lib.hid (ldO_1 B.length j (by omega) j rfl)
                  have hby := ByB.getD HOJ.out.byb j
                  have HC0 := Lib.hid (show ∀ w', Below wr.heap.size wr w' → w'.cell? ⟨gw, j, none⟩ = some (.int .u8 (B.getD j 0)) from fun w' k => blk_byte (HWJ.out.fr ((Fr.refl wr (fun _ => False)).below k (fun _ hi _ => hi)) id) j (by omega))
                  have hw8 := wrap8 _ hby.1 hby.2
                  generalize B.getD j 0 = y at *
                  have e0 : (y != y) = false := by simp
                  go_wp2_with (go_at_call 17; (with_reducible refine (cload_at HOJ.out j 1 _ true HL1.out HL2.out (by omega) (by omega) (by decide) (by decide)).mono ?_); rintro e' w7 ⟨rfl, b7⟩; have c7 := HC0.out w7 b7; have HB7 := Lib.hid (HBJ.out.trans (b7.mono hwr)); clear b7)
                  go_roundw
                  case rel => exact ⟨j + 1, by omega, by go_num, HB7.out⟩
                  case measure => simp [intOf]; omega
                · obtain rfl : j = 4096 := by omega
                  go_wp2_with (go_at_call 10; (with_reducible refine Calls.mono (known11_w _ (Tb.h1 (Lib.hid (Tb.h1 HTB HB6)) HBJ)) ?_); rintro e' w8 ⟨rfl, b8⟩; have HZ := Lib.hid (HB6.out.trans ((HBJ.out.trans (b8.mono hwr)).mono HB6.out.size)); clear b8)
                  go_ret
                  exact ⟨rfl, HZ.out⟩
    · obtain ⟨w2, rfl⟩ : ∃ w2, w2 = wr := ⟨_, rfl⟩
      clear HL
      have HW2 := Lib.hid (show Blk (w2.alloc (.cells row 5)) w2.heap.size 5 ((B.take 0 ++ List.replicate (4096 - 0) 0).map (.int .u8)) by
        have h := Blk.new w2 5 (List.replicate 4096 (.int .u8 0)); rw [HROW.out] at h; simpa using h)
      have HO2 := Lib.hid (HO0.out.fr ((Fr.refl w2 (fun _ => False)).alloc (.cells row 5)) (fun _ _ _ h => h))
      have HB2 := Lib.hid (HB0.out.alloc hWs (.cells row 5))
      have hgt : hi ≤ w2.heap.size := htop
      go_wp2_with (go_at_call 19; (with_reducible refine (pick_at off 4100 _ HPK.out HQ0.out HQ1.out (by decide) (by decide) _).mono ?_); rintro e' wp ⟨rfl, rfl⟩)
      obtain ⟨gw, hgw⟩ : ∃ gw, gw = w2.heap.size := ⟨_, rfl⟩
      have HGW := Lib.hid hgw
      rw [← hgw] at HW2 hgt ⊢
      clear hgw
      generalize w2.alloc (.cells row 5) = w3 at HW2 HO2 HB2 ⊢
      go_loopw [13] (fun i w9 => ∃ j : Nat, j ≤ 4096 ∧ i = .int .i64 (j : Int) ∧ Ob w9 W.heap.size hi g B T ∧ Blk w9 gw 5 ((B.take j ++ List.replicate (4096 - j) 0).map (.int .u8)) ∧ Below W.heap.size W w9) (fun i _ => 4096 - (intOf i).toNat)
      case atStart => exact ⟨0, by omega, rfl, HO2.out, HW2.out, HB2.out⟩
      case round =>
        clear HO2 HW2 HB2
        obtain ⟨j, hj, rfl, ob, bk, bl⟩ := hrel
        have hWs3 := bl.size
        by_cases hlt3 : j < 4096
        · have HL1 := Lib.hid (ldN_1 B j (by omega) j rfl)
          have HL2 := Lib.hid (ldO_1 B.length j (by omega) j rfl)
          have hby := ByB.getD ob.byb j
          have hw8 := wrap8 _ hby.1 hby.2
          have HSET := Lib.hid (take_set B 4096 j (by omega) (by omega))
          have HOb := Lib.hid ob
          have HBk := Lib.hid bk
          have HBl := Lib.hid bl
          have HLEN := Lib.hid (show (B.take j ++ List.replicate (4096 - j) (0 : Int)).length = 4096 by simp; omega)
          clear ob bk bl
          generalize B.getD j 0 = y at *
          go_wp2_with (go_at_call 17; (with_reducible refine (cload_at HOb.out j 1 _ true HL1.out HL2.out (by omega) (by omega) (by decide) (by decide)).mono ?_); rintro e' w4 ⟨rfl, b4⟩; have hs4 := b4.size; have hk4 := HBk.out.fr ((Fr.refl wr (fun _ => False)).below b4 (fun _ hi _ => hi)) id; have c4 := blk_byte hk4 j (by rw [HLEN.out]; exact hlt3); have z4 := hk4.frozen j; have HK4 := Lib.hid hk4; have HO4 := Lib.hid (HOb.out.below b4); have HB4 := Lib.hid (HBl.out.trans (b4.mono hWs3)); clear b4 hk4)
          go_roundw
          case rel => exact ⟨j + 1, by omega, by go_num, HO4.out.far _ hgt _, by rw [← HSET.out, List.map_set]; exact HK4.out.set_ j _, HB4.out.setCell (by dsimp only; omega) _⟩
          case measure => simp [intOf]; omega
        · obtain rfl : j = 4096 := by omega
          rw [List.take_of_length_le (by omega), Nat.sub_self, List.replicate_zero, List.append_nil] at bk
          obtain ⟨w3, rfl⟩ : ∃ w3, w3 = wr := ⟨_, rfl⟩
          have hW3 := bl.size
          have hgw3 := bk.lt
          have HO3 := Lib.hid ob
          have HW3 := Lib.hid bk
          have HB3 := Lib.hid bl
          clear ob bk bl
          rcases (show size = 1 ∨ size = 2 ∨ size = 4 ∨ size = 8 ∨ (¬ size = 1 ∧ ¬ size = 2 ∧ ¬ size = 4 ∧ ¬ size = 8) by omega) with rfl | rfl | rfl | rfl | ⟨n1, n2, n4, n8⟩
          · by_cases hf : p + 1 ≤ 4096
            · have HS1 := Lib.hid (show sB B (p : Int) 1 v = layB B p v 1 from sB_nat B p 1 v (by decide) (by omega))
              have HS2 := Lib.hid (show sT B.length T (p : Int) 1 = unT T p 1 from sT_nat B.length T p 1 (by decide) (by omega))
              have HS3 := Lib.hid (show ldO B.length (p : Int) 1 = true from ldO_mk B.length p 1 (by decide) (by omega))
              have HX1 := Lib.hid (show ldN (layB B p v 1) p 1 = (v % 256) by
                rw [show ((1 : Int)) = ((1 : Nat) : Int) from rfl, ldN_nat _ p 1 (by decide) (by rw [layB_len]; omega), numB_lay B p v 1 (by omega)]
                rfl)
              have HX2 := Lib.hid (show ldO (layB B p v 1).length p 1 = true by rw [layB_len]; exact ldO_mk B.length p 1 (by decide) (by omega))
              have i5 : decide ((p : Int) + 1 ≤ 4096) = true := by simp; omega
              have e5 : ((v % 256) != (v % 256)) = false := by simp
              have hsh : IntKind.u64.wrap (v * 72057594037927936) / 72057594037927936 = v % 256 := by rw [IntKind.wrap_u64]; omega
              go_wp2_with (first | (go_at_call 21; (with_reducible refine (cstore_at HO3.out p 1 v true _ _ HS1.out HS2.out HS3.out (by omega) (by omega) (by decide) (by decide) v0 v1).mono ?_); rintro e' w5 ⟨rfl, o5, f5⟩; have hs5 := f5.size; have HO5 := Lib.hid o5; have HB5 := Lib.hid (HB3.out.trans (f5.bl hW3 (fun i x => x.1))); have HW5 := Lib.hid (HW3.out.fr f5 (fun x => by unfold Rg at x; omega)); clear o5 f5) | (go_at_call 17; (with_reducible refine (cload_at HO5.out p 1 _ true HX1.out HX2.out (by omega) (by omega) (by decide) (by decide)).mono ?_); rintro e' w6 ⟨rfl, b6⟩; have hs6 := b6.size; have HO6 := Lib.hid (HO5.out.below b6); have HB6 := Lib.hid (HB5.out.trans (b6.mono HB5.out.size)); have HW6 := Lib.hid (HW5.out.fr ((Fr.refl w5 (fun _ => False)).below b6 (fun _ hi _ => hi)) id); clear b6))
              go_loopw [19] (fun i w9 => ∃ j : Nat, j ≤ 4096 ∧ i = .int .i64 (j : Int) ∧ Below w6.heap.size w6 w9) (fun i _ => 4096 - (intOf i).toNat)
              case atStart => exact ⟨0, by omega, rfl, Below.refl _ _⟩
              case round =>
                obtain ⟨j, hj, rfl, bw⟩ := hrel
                have hwr := bw.size
                have HOJ := Lib.hid (HO6.out.below bw)
                have hWJ := HW6.out.fr ((Fr.refl w6 (fun _ => False)).below bw (fun _ hi _ => hi)) id
                have HWJ := Lib.hid hWJ
                have HBJ := Lib.hid bw
                clear bw hWJ
                by_cases hlt5 : j < 4096
                · have HL1 := Lib.hid (ldN_1 (layB B p v 1) j (by rw [layB_len]; omega) j rfl)
                  have HL2 := Lib.hid (ldO_1 (layB B p v 1).length j (by rw [layB_len]; omega) j rfl)
                  have hby := ByB.getD HOJ.out.byb j
                  have HC0 := Lib.hid (show ∀ w', Below wr.heap.size wr w' → w'.cell? ⟨gw, j, none⟩ = some (.int .u8 (B.getD j 0)) from fun w' k => blk_byte (HWJ.out.fr ((Fr.refl wr (fun _ => False)).below k (fun _ hi _ => hi)) id) j (by omega))
                  have hat := layB_at B p v 1 (by omega) j
                  by_cases hin : p ≤ j ∧ j < p + 1
                  · rw [if_pos hin] at hat
                    obtain ⟨d, hd⟩ : ∃ d, j - p = d := ⟨_, rfl⟩
                    rw [hd, ← pow2_8 d] at hat
                    rw [hat] at hby
                    have HX := Lib.hid (HL1.out.trans hat)
                    have i1 : decide ((p : Int) ≤ (j : Int)) = true := by simp; omega
                    have i2 : decide ((j : Int) < (p : Int) + 1) = true := by simp; omega
                    have hjd : (j : Int) - (p : Int) = (d : Int) := by omega
                    have h8 : (8 * (d : Int)) % 18446744073709551616 = 8 * (d : Int) := by omega
                    have hd8 : d < 8 := by omega
                    have hpd : 0 < (2 : Int) ^ (8 * d) := Int.pow_pos (by decide)
                    have ht : (v / 2 ^ (8 * d)).tmod 256 = v / 2 ^ (8 * d) % 256 := Int.tmod_eq_emod_of_nonneg (Int.ediv_nonneg v0 (by omega))
                    have e0 : (v / 2 ^ (8 * d) % 256 != v / 2 ^ (8 * d) % 256) = false := by simp
                    clear hat hd
                    go_wp2_with (go_at_call 17; (with_reducible refine (cload_at HOJ.out j 1 _ true HX.out HL2.out (by omega) (by omega) (by decide) (by decide)).mono ?_); rintro e' w7 ⟨rfl, b7⟩; have c7 := HC0.out w7 b7; have HB7 := Lib.hid (HBJ.out.trans (b7.mono hwr)); clear b7)
                    go_roundw
                    case rel => exact ⟨j + 1, by omega, by go_num, HB7.out⟩
                    case measure => simp [intOf]; omega
                  · rw [if_neg hin] at hat
                    rw [hat] at hby
                    have HX := Lib.hid (HL1.out.trans hat)
                    have hw8 := wrap8 _ hby.1 hby.2
                    clear hat
                    generalize B.getD j 0 = y at *
                    have e0 : (y != y) = false := by simp
                    by_cases hi1 : p ≤ j
                    · have i1 : decide ((p : Int) ≤ (j : Int)) = true := by simp; omega
                      have i2 : decide ((j : Int) < (p : Int) + 1) = false := by simp; omega
                      go_wp2_with (go_at_call 17; (with_reducible refine (cload_at HOJ.out j 1 _ true HX.out HL2.out (by omega) (by omega) (by decide) (by decide)).mono ?_); rintro e' w7 ⟨rfl, b7⟩; have c7 := HC0.out w7 b7; have HB7 := Lib.hid (HBJ.out.trans (b7.mono hwr)); clear b7)
                      go_roundw
                      case rel => exact ⟨j + 1, by omega, by go_num, HB7.out⟩
                      case measure => simp [intOf]; omega
                    · have i1 : decide ((p : Int) ≤ (j : Int)) = false := by simp; omega
                      go_wp2_with (go_at_call 17; (with_reducible refine (cload_at HOJ.out j 1 _ true HX.out HL2.out (by omega) (by omega) (by decide) (by decide)).mono ?_); rintro e' w7 ⟨rfl, b7⟩; have c7 := HC0.out w7 b7; have HB7 := Lib.hid (HBJ.out.trans (b7.mono hwr)); clear b7)
                      go_roundw
                      case rel => exact ⟨j + 1, by omega, by go_num, HB7.out⟩
                      case measure => simp [intOf]; omega
                · obtain rfl : j = 4096 := by omega
                  go_wp2_with (go_at_call 10; (with_reducible refine Calls.mono (known11_w _ (Tb.h1 (Lib.hid (Tb.h1 HTB HB6)) HBJ)) ?_); rintro e' w8 ⟨rfl, b8⟩; have HZ := Lib.hid (HB6.out.trans ((HBJ.out.trans (b8.mono hwr)).mono HB6.out.size)); clear b8)
                  go_ret
                  exact ⟨rfl, HZ.out⟩
            · have hno : ldO B.length p 1 = false := by simp [ldO, thB]; omega
              have i5 : decide ((p : Int) + 1 ≤ 4096) = false := by simp; omega
              have HS1 := Lib.hid (sB_no v hno)
              have HS2 := Lib.hid (sT_no T hno)
              have HX1 := Lib.hid (ldN_no hno)
              have HS3 := Lib.hid hno
              clear hno
              go_wp2_with (first | (go_at_call 21; (with_reducible refine (cstore_at HO3.out p 1 v false _ _ HS1.out HS2.out HS3.out (by omega) (by omega) (by decide) (by decide) v0 v1).mono ?_); rintro e' w5 ⟨rfl, o5, f5⟩; have hs5 := f5.size; have HO5 := Lib.hid o5; have HB5 := Lib.hid (HB3.out.trans (f5.bl hW3 (fun i x => x.1))); have HW5 := Lib.hid (HW3.out.fr f5 (fun x => by unfold Rg at x; omega)); clear o5 f5) | (go_at_call 17; (with_reducible refine (cload_at HO5.out p 1 _ false HX1.out HS3.out (by omega) (by omega) (by decide) (by decide)).mono ?_); rintro e' w6 ⟨rfl, b6⟩; have hs6 := b6.size; have HO6 := Lib.hid (HO5.out.below b6); have HB6 := Lib.hid (HB5.out.trans (b6.mono HB5.out.size)); have HW6 := Lib.hid (HW5.out.fr ((Fr.refl w5 (fun _ => False)).below b6 (fun _ hi _ => hi)) id); clear b6))
              go_loopw [19] (fun i w9 => ∃ j : Nat, j ≤ 4096 ∧ i = .int .i64 (j : Int) ∧ Below w6.heap.size w6 w9) (fun i _ => 4096 - (intOf i).toNat)
              case atStart => exact ⟨0, by omega, rfl, Below.refl _ _⟩
              case round =>
                obtain ⟨j, hj, rfl, bw⟩ := hrel
                have hwr := bw.size
                have HOJ := Lib.hid (HO6.out.below bw)
                have hWJ := HW6.out.fr ((Fr.refl w6 (fun _ => False)).below bw (fun _ hi _ => hi)) id
                have HWJ := Lib.hid hWJ
                have HBJ := Lib.hid bw
                clear bw hWJ
                by_cases hlt5 : j < 4096
                · have HL1 := Lib.hid (ldN_1 B j (by omega) j rfl)
                  have HL2 := Lib.hid (ldO_1 B.length j (by omega) j rfl)
                  have hby := ByB.getD HOJ.out.byb j
                  have HC0 := Lib.hid (show ∀ w', Below wr.heap.size wr w' → w'.cell? ⟨gw, j, none⟩ = some (.int .u8 (B.getD j 0)) from fun w' k => blk_byte (HWJ.out.fr ((Fr.refl wr (fun _ => False)).below k (fun _ hi _ => hi)) id) j (by omega))
                  have hw8 := wrap8 _ hby.1 hby.2
                  generalize B.getD j 0 = y at *
                  have e0 : (y != y) = false := by simp
                  go_wp2_with (go_at_call 17; (with_reducible refine (cload_at HOJ.out j 1 _ true HL1.out HL2.out (by omega) (by omega) (by decide) (by decide)).mono ?_); rintro e' w7 ⟨rfl, b7⟩; have c7 := HC0.out w7 b7; have HB7 := Lib.hid (HBJ.out.trans (b7.mono hwr)); clear b7)
                  go_roundw
                  case rel => exact ⟨j + 1, by omega, by go_num, HB7.out⟩
                  case measure => simp [intOf]; omega
                · obtain rfl : j = 4096 := by omega
                  go_wp2_with (go_at_call 10; (with_reducible refine Calls.mono (known11_w _ (Tb.h1 (Lib.hid (Tb.h1 HTB HB6)) HBJ)) ?_); rintro e' w8 ⟨rfl, b8⟩; have HZ := Lib.hid (HB6.out.trans ((HBJ.out.trans (b8.mono hwr)).mono HB6.out.size)); clear b8)
                  go_ret
                  exact ⟨rfl, HZ.out⟩
          · by_cases hf : p + 2 ≤ 4096
            · have HS1 := Lib.hid (show sB B (p : Int) 2 v = layB B p v 2 from sB_nat B p 2 v (by decide) (by omega))
              have HS2 := Lib.hid (show sT B.length T (p : Int) 2 = unT T p 2 from sT_nat B.length T p 2 (by decide) (by omega))
              have HS3 := Lib.hid (show ldO B.length (p : Int) 2 = true from ldO_mk B.length p 2 (by decide) (by omega))
              have HX1 := Lib.hid (show ldN (layB B p v 2) p 2 = (v % 65536) by
                rw [show ((2 : Int)) = ((2 : Nat) : Int) from rfl, ldN_nat _ p 2 (by decide) (by rw [layB_len]; omega), numB_lay B p v 2 (by omega)]
                rfl)
              have HX2 := Lib.hid (show ldO (layB B p v 2).length p 2 = true by rw [layB_len]; exact ldO_mk B.length p 2 (by decide) (by omega))
              have i5 : decide ((p : Int) + 2 ≤ 4096) = true := by simp; omega
              have e5 : ((v % 65536) != (v % 65536)) = false := by simp
              have hsh : IntKind.u64.wrap (v * 281474976710656) / 281474976710656 = v % 65536 := by rw [IntKind.wrap_u64]; omega
              go_wp2_with (first | (go_at_call 21; (with_reducible refine (cstore_at HO3.out p 2 v true _ _ HS1.out HS2.out HS3.out (by omega) (by omega) (by decide) (by decide) v0 v1).mono ?_); rintro e' w5 ⟨rfl, o5, f5⟩; have hs5 := f5.size; have HO5 := Lib.hid o5; have HB5 := Lib.hid (HB3.out.trans (f5.bl hW3 (fun i x => x.1))); have HW5 := Lib.hid (HW3.out.fr f5 (fun x => by unfold Rg at x; omega)); clear o5 f5) | (go_at_call 17; (with_reducible refine (cload_at HO5.out p 2 _ true HX1.out HX2.out (by omega) (by omega) (by decide) (by decide)).mono ?_); rintro e' w6 ⟨rfl, b6⟩; have hs6 := b6.size; have HO6 := Lib.hid (HO5.out.below b6); have HB6 := Lib.hid (HB5.out.trans (b6.mono HB5.out.size)); have HW6 := Lib.hid (HW5.out.fr ((Fr.refl w5 (fun _ => False)).below b6 (fun _ hi _ => hi)) id); clear b6))
              go_loopw [19] (fun i w9 => ∃ j : Nat, j ≤ 4096 ∧ i = .int .i64 (j : Int) ∧ Below w6.heap.size w6 w9) (fun i _ => 4096 - (intOf i).toNat)
              case atStart => exact ⟨0, by omega, rfl, Below.refl _ _⟩
              case round =>
                obtain ⟨j, hj, rfl, bw⟩ := hrel
                have hwr := bw.size
                have HOJ := Lib.hid (HO6.out.below bw)
                have hWJ := HW6.out.fr ((Fr.refl w6 (fun _ => False)).below bw (fun _ hi _ => hi)) id
                have HWJ := Lib.hid hWJ
                have HBJ := Lib.hid bw
                clear bw hWJ
                by_cases hlt5 : j < 4096
                · have HL1 := Lib.hid (ldN_1 (layB B p v 2) j (by rw [layB_len]; omega) j rfl)
                  have HL2 := Lib.hid (ldO_1 (layB B p v 2).length j (by rw [layB_len]; omega) j rfl)
                  have hby := ByB.getD HOJ.out.byb j
                  have HC0 := Lib.hid (show ∀ w', Below wr.heap.size wr w' → w'.cell? ⟨gw, j, none⟩ = some (.int .u8 (B.getD j 0)) from fun w' k => blk_byte (HWJ.out.fr ((Fr.refl wr (fun _ => False)).below k (fun _ hi _ => hi)) id) j (by omega))
                  have hat := layB_at B p v 2 (by omega) j
                  by_cases hin : p ≤ j ∧ j < p + 2
                  · rw [if_pos hin] at hat
                    obtain ⟨d, hd⟩ : ∃ d, j - p = d := ⟨_, rfl⟩
                    rw [hd, ← pow2_8 d] at hat
                    rw [hat] at hby
                    have HX := Lib.hid (HL1.out.trans hat)
                    have i1 : decide ((p : Int) ≤ (j : Int)) = true := by simp; omega
                    have i2 : decide ((j : Int) < (p : Int) + 2) = true := by simp; omega
                    have hjd : (j : Int) - (p : Int) = (d : Int) := by omega
                    have h8 : (8 * (d : Int)) % 18446744073709551616 = 8 * (d : Int) := by omega
                    have hd8 : d < 8 := by omega
                    have hpd : 0 < (2 : Int) ^ (8 * d) := Int.pow_pos (by decide)
                    have ht : (v / 2 ^ (8 * d)).tmod 256 = v / 2 ^ (8 * d) % 256 := Int.tmod_eq_emod_of_nonneg (Int.ediv_nonneg v0 (by omega))
                    have e0 : (v / 2 ^ (8 * d) % 256 != v / 2 ^ (8 * d) % 256) = false := by simp
                    clear hat hd
                    go_wp2_with (go_at_call 17; (with_reducible refine (cload_at HOJ.out j 1 _ true HX.out HL2.out (by omega) (by omega) (by decide) (by decide)).mono ?_); rintro e' w7 ⟨rfl, b7⟩; have c7 := HC0.out w7 b7; have HB7 := Lib.hid (HBJ.out.trans (b7.mono hwr)); clear b7)
                    go_roundw
                    case rel => exact ⟨j + 1, by omega, by go_num, HB7.out⟩
                    case measure => simp [intOf]; omega
                  · rw [if_neg hin] at hat
                    rw [hat] at hby
                    have HX := Lib.hid (HL1.out.trans hat)
                    have hw8 := wrap8 _ hby.1 hby.2
                    clear hat
                    generalize B.getD j 0 = y at *
                    have e0 : (y != y) = false := by simp
                    by_cases hi1 : p ≤ j
                    · have i1 : decide ((p : Int) ≤ (j : Int)) = true := by simp; omega
                      have i2 : decide ((j : Int) < (p : Int) + 2) = false := by simp; omega
                      go_wp2_with (go_at_call 17; (with_reducible refine (cload_at HOJ.out j 1 _ true HX.out HL2.out (by omega) (by omega) (by decide) (by decide)).mono ?_); rintro e' w7 ⟨rfl, b7⟩; have c7 := HC0.out w7 b7; have HB7 := Lib.hid (HBJ.out.trans (b7.mono hwr)); clear b7)
                      go_roundw
                      case rel => exact ⟨j + 1, by omega, by go_num, HB7.out⟩
                      case measure => simp [intOf]; omega
                    · have i1 : decide ((p : Int) ≤ (j : Int)) = false := by simp; omega
                      go_wp2_with (go_at_call 17; (with_reducible refine (cload_at HOJ.out j 1 _ true HX.out HL2.out (by omega) (by omega) (by decide) (by decide)).mono ?_); rintro e' w7 ⟨rfl, b7⟩; have c7 := HC0.out w7 b7; have HB7 := Lib.hid (HBJ.out.trans (b7.mono hwr)); clear b7)
                      go_roundw
                      case rel => exact ⟨j + 1, by omega, by go_num, HB7.out⟩
                      case measure => simp [intOf]; omega
                · obtain rfl : j = 4096 := by omega
                  go_wp2_with (go_at_call 10; (with_reducible refine Calls.mono (known11_w _ (Tb.h1 (Lib.hid (Tb.h1 HTB HB6)) HBJ)) ?_); rintro e' w8 ⟨rfl, b8⟩; have HZ := Lib.hid (HB6.out.trans ((HBJ.out.trans (b8.mono hwr)).mono HB6.out.size)); clear b8)
                  go_ret
                  exact ⟨rfl, HZ.out⟩
            · have hno : ldO B.length p 2 = false := by simp [ldO, thB]; omega
              have i5 : decide ((p : Int) + 2 ≤ 4096) = false := by simp; omega
              have HS1 := Lib.hid (sB_no v hno)
              have HS2 := Lib.hid (sT_no T hno)
              have HX1 := Lib.hid (ldN_no hno)
              have HS3 := Lib.hid hno
              clear hno
              go_wp2_with (first | (go_at_call 21; (with_reducible refine (cstore_at HO3.out p 2 v false _ _ HS1.out HS2.out HS3.out (by omega) (by omega) (by decide) (by decide) v0 v1).mono ?_); rintro e' w5 ⟨rfl, o5, f5⟩; have hs5 := f5.size; have HO5 := Lib.hid o5; have HB5 := Lib.hid (HB3.out.trans (f5.bl hW3 (fun i x => x.1))); have HW5 := Lib.hid (HW3.out.fr f5 (fun x => by unfold Rg at x; omega)); clear o5 f5) | (go_at_call 17; (with_reducible refine (cload_at HO5.out p 2 _ false HX1.out HS3.out (by omega) (by omega) (by decide) (by decide)).mono ?_); rintro e' w6 ⟨rfl, b6⟩; have hs6 := b6.size; have HO6 := Lib.hid (HO5.out.below b6); have HB6 := Lib.hid (HB5.out.trans (b6.mono HB5.out.size)); have HW6 := Lib.hid (HW5.out.fr ((Fr.refl w5 (fun _ => False)).below b6 (fun _ hi _ => hi)) id); clear b6))
              go_loopw [19] (fun i w9 => ∃ j : Nat, j ≤ 4096 ∧ i = .int .i64 (j : Int) ∧ Below w6.heap.size w6 w9) (fun i _ => 4096 - (intOf i).toNat)
              case atStart => exact ⟨0, by omega, rfl, Below.refl _ _⟩
              case round =>
                obtain ⟨j, hj, rfl, bw⟩ := hrel
                have hwr := bw.size
                have HOJ := Lib.hid (HO6.out.below bw)
                have hWJ := HW6.out.fr ((Fr.refl w6 (fun _ => False)).below bw (fun _ hi _ => hi)) id
                have HWJ := Lib.hid hWJ
                have HBJ := Lib.hid bw
                clear bw hWJ
                by_cases hlt5 : j < 4096
                · have HL1 := Lib.hid (ldN_1 B j (by omega) j rfl)
                  have HL2 := Lib.hid (ldO_1 B.length j (by omega) j rfl)
                  have hby := ByB.getD HOJ.out.byb j
                  have HC0 := Lib.hid (show ∀ w', Below wr.heap.size wr w' → w'.cell? ⟨gw, j, none⟩ = some (.int .u8 (B.getD j 0)) from fun w' k => blk_byte (HWJ.out.fr ((Fr.refl wr (fun _ => False)).below k (fun _ hi _ => hi)) id) j (by omega))
                  have hw8 := wrap8 _ hby.1 hby.2
                  generalize B.getD j 0 = y at *
                  have e0 : (y != y) = false := by simp
                  go_wp2_with (go_at_call 17; (with_reducible refine (cload_at HOJ.out j 1 _ true HL1.out HL2.out (by omega) (by omega) (by decide) (by decide)).mono ?_); rintro e' w7 ⟨rfl, b7⟩; have c7 := HC0.out w7 b7; have HB7 := Lib.hid (HBJ.out.trans (b7.mono hwr)); clear b7)
                  go_roundw
                  case rel => exact ⟨j + 1, by omega, by go_num, HB7.out⟩
                  case measure => simp [intOf]; omega
                · obtain rfl : j = 4096 := by omega
                  go_wp2_with (go_at_call 10; (with_reducible refine Calls.mono (known11_w _ (Tb.h1 (Lib.hid (Tb.h1 HTB HB6)) HBJ)) ?_); rintro e' w8 ⟨rfl, b8⟩; have HZ := Lib.hid (HB6.out.trans ((HBJ.out.trans (b8.mono hwr)).mono HB6.out.size)); clear b8)
                  go_ret
                  exact ⟨rfl, HZ.out⟩
          · by_cases hf : p + 4 ≤ 4096
            · have HS1 := Lib.hid (show sB B (p : Int) 4 v = layB B p v 4 from sB_nat B p 4 v (by decide) (by omega))
              have HS2 := Lib.hid (show sT B.length T (p : Int) 4 = unT T p 4 from sT_nat B.length T p 4 (by decide) (by omega))
              have HS3 := Lib.hid (show ldO B.length (p : Int) 4 = true from ldO_mk B.length p 4 (by decide) (by omega))
              have HX1 := Lib.hid (show ldN (layB B p v 4) p 4 = (v % 4294967296) by
                rw [show ((4 : Int)) = ((4 : Nat) : Int) from rfl, ldN_nat _ p 4 (by decide) (by rw [layB_len]; omega), numB_lay B p v 4 (by omega)]
                rfl)
              have HX2 := Lib.hid (show ldO (layB B p v 4).length p 4 = true by rw [layB_len]; exact ldO_mk B.length p 4 (by decide) (by omega))
              have i5 : decide ((p : Int) + 4 ≤ 4096) = true := by simp; omega
              have e5 : ((v % 4294967296) != (v % 4294967296)) = false := by simp
              have hsh : IntKind.u64.wrap (v * 4294967296) / 4294967296 = v % 4294967296 := by rw [IntKind.wrap_u64]; omega
              go_wp2_with (first | (go_at_call 21; (with_reducible refine (cstore_at HO3.out p 4 v true _ _ HS1.out HS2.out HS3.out (by omega) (by omega) (by decide) (by decide) v0 v1).mono ?_); rintro e' w5 ⟨rfl, o5, f5⟩; have hs5 := f5.size; have HO5 := Lib.hid o5; have HB5 := Lib.hid (HB3.out.trans (f5.bl hW3 (fun i x => x.1))); have HW5 := Lib.hid (HW3.out.fr f5 (fun x => by unfold Rg at x; omega)); clear o5 f5) | (go_at_call 17; (with_reducible refine (cload_at HO5.out p 4 _ true HX1.out HX2.out (by omega) (by omega) (by decide) (by decide)).mono ?_); rintro e' w6 ⟨rfl, b6⟩; have hs6 := b6.size; have HO6 := Lib.hid (HO5.out.below b6); have HB6 := Lib.hid (HB5.out.trans (b6.mono HB5.out.size)); have HW6 := Lib.hid (HW5.out.fr ((Fr.refl w5 (fun _ => False)).below b6 (fun _ hi _ => hi)) id); clear b6))
              go_loopw [19] (fun i w9 => ∃ j : Nat, j ≤ 4096 ∧ i = .int .i64 (j : Int) ∧ Below w6.heap.size w6 w9) (fun i _ => 4096 - (intOf i).toNat)
              case atStart => exact ⟨0, by omega, rfl, Below.refl _ _⟩
              case round =>
                obtain ⟨j, hj, rfl, bw⟩ := hrel
                have hwr := bw.size
                have HOJ := Lib.hid (HO6.out.below bw)
                have hWJ := HW6.out.fr ((Fr.refl w6 (fun _ => False)).below bw (fun _ hi _ => hi)) id
                have HWJ := Lib.hid hWJ
                have HBJ := Lib.hid bw
                clear bw hWJ
                by_cases hlt5 : j < 4096
                · have HL1 := Lib.hid (ldN_1 (layB B p v 4) j (by rw [layB_len]; omega) j rfl)
                  have HL2 := Lib.hid (ldO_1 (layB B p v 4).length j (by rw [layB_len]; omega) j rfl)
                  have hby := ByB.getD HOJ.out.byb j
                  have HC0 := Lib.hid (show ∀ w', Below wr.heap.size wr w' → w'.cell? ⟨gw, j, none⟩ = some (.int .u8 (B.getD j 0)) from fun w' k => blk_byte (HWJ.out.fr ((Fr.refl wr (fun _ => False)).below k (fun _ hi _ => hi)) id) j (by omega))
                  have hat := layB_at B p v 4 (by omega) j
                  by_cases hin : p ≤ j ∧ j < p + 4
                  · rw [if_pos hin] at hat
                    obtain ⟨d, hd⟩ : ∃ d, j - p = d := ⟨_, rfl⟩
                    rw [hd, ← pow2_8 d] at hat
                    rw [hat] at hby
                    have HX := Lib.hid (HL1.out.trans hat)
                    have i1 : decide ((p : Int) ≤ (j : Int)) = true := by simp; omega
                    have i2 : decide ((j : Int) < (p : Int) + 4) = true := by simp; omega
                    have hjd : (j : Int) - (p : Int) = (d : Int) := by omega
                    have h8 : (8 * (d : Int)) % 18446744073709551616 = 8 * (d : Int) := by omega
                    have hd8 : d < 8 := by omega
                    have hpd : 0 < (2 : Int) ^ (8 * d) := Int.pow_pos (by decide)
                    have ht : (v / 2 ^ (8 * d)).tmod 256 = v / 2 ^ (8 * d) % 256 := Int.tmod_eq_emod_of_nonneg (Int.ediv_nonneg v0 (by omega))
                    have e0 : (v / 2 ^ (8 * d) % 256 != v / 2 ^ (8 * d) % 256) = false := by simp
                    clear hat hd
                    go_wp2_with (go_at_call 17; (with_reducible refine (cload_at HOJ.out j 1 _ true HX.out HL2.out (by omega) (by omega) (by decide) (by decide)).mono ?_); rintro e' w7 ⟨rfl, b7⟩; have c7 := HC0.out w7 b7; have HB7 := Lib.hid (HBJ.out.trans (b7.mono hwr)); clear b7)
                    go_roundw
                    case rel => exact ⟨j + 1, by omega, by go_num, HB7.out⟩
                    case measure => simp [intOf]; omega
                  · rw [if_neg hin] at hat
                    rw [hat] at hby
                    have HX := Lib.hid (HL1.out.trans hat)
                    have hw8 := wrap8 _ hby.1 hby.2
                    clear hat
                    generalize B.getD j 0 = y at *
                    have e0 : (y != y) = false := by simp
                    by_cases hi1 : p ≤ j
                    · have i1 : decide ((p : Int) ≤ (j : Int)) = true := by simp; omega
                      have i2 : decide ((j : Int) < (p : Int) + 4) = false := by simp; omega
                      go_wp2_with (go_at_call 17; (with_reducible refine (cload_at HOJ.out j 1 _ true HX.out HL2.out (by omega) (by omega) (by decide) (by decide)).mono ?_); rintro e' w7 ⟨rfl, b7⟩; have c7 := HC0.out w7 b7; have HB7 := Lib.hid (HBJ.out.trans (b7.mono hwr)); clear b7)
                      go_roundw
                      case rel => exact ⟨j + 1, by omega, by go_num, HB7.out⟩
                      case measure => simp [intOf]; omega
                    · have i1 : decide ((p : Int) ≤ (j : Int)) = false := by simp; omega
                      go_wp2_with (go_at_call 17; (with_reducible refine (cload_at HOJ.out j 1 _ true HX.out HL2.out (by omega) (by omega) (by decide) (by decide)).mono ?_); rintro e' w7 ⟨rfl, b7⟩; have c7 := HC0.out w7 b7; have HB7 := Lib.hid (HBJ.out.trans (b7.mono hwr)); clear b7)
                      go_roundw
                      case rel => exact ⟨j + 1, by omega, by go_num, HB7.out⟩
                      case measure => simp [intOf]; omega
                · obtain rfl : j = 4096 := by omega
                  go_wp2_with (go_at_call 10; (with_reducible refine Calls.mono (known11_w _ (Tb.h1 (Lib.hid (Tb.h1 HTB HB6)) HBJ)) ?_); rintro e' w8 ⟨rfl, b8⟩; have HZ := Lib.hid (HB6.out.trans ((HBJ.out.trans (b8.mono hwr)).mono HB6.out.size)); clear b8)
                  go_ret
                  exact ⟨rfl, HZ.out⟩
            · have hno : ldO B.length p 4 = false := by simp [ldO, thB]; omega
              have i5 : decide ((p : Int) + 4 ≤ 4096) = false := by simp; omega
              have HS1 := Lib.hid (sB_no v hno)
              have HS2 := Lib.hid (sT_no T hno)
              have HX1 := Lib.hid (ldN_no hno)
              have HS3 := Lib.hid hno
              clear hno
              go_wp2_with (first | (go_at_call 21; (with_reducible refine (cstore_at HO3.out p 4 v false _ _ HS1.out HS2.out HS3.out (by omega) (by omega) (by decide) (by decide) v0 v1).mono ?_); rintro e' w5 ⟨rfl, o5, f5⟩; have hs5 := f5.size; have HO5 := Lib.hid o5; have HB5 := Lib.hid (HB3.out.trans (f5.bl hW3 (fun i x => x.1))); have HW5 := Lib.hid (HW3.out.fr f5 (fun x => by unfold Rg at x; omega)); clear o5 f5) | (go_at_call 17; (with_reducible refine (cload_at HO5.out p 4 _ false HX1.out HS3.out (by omega) (by omega) (by decide) (by decide)).mono ?_); rintro e' w6 ⟨rfl, b6⟩; have hs6 := b6.size; have HO6 := Lib.hid (HO5.out.below b6); have HB6 := Lib.hid (HB5.out.trans (b6.mono HB5.out.size)); have HW6 := Lib.hid (HW5.out.fr ((Fr.refl w5 (fun _ => False)).below b6 (fun _ hi _ => hi)) id); clear b6))
              go_loopw [19] (fun i w9 => ∃ j : Nat, j ≤ 4096 ∧ i = .int .i64 (j : Int) ∧ Below w6.heap.size w6 w9) (fun i _ => 4096 - (intOf i).toNat)
              case atStart => exact ⟨0, by omega, rfl, Below.refl _ _⟩
              case round =>
                obtain ⟨j, hj, rfl, bw⟩ := hrel
                have hwr := bw.size
                have HOJ := Lib.hid (HO6.out.below bw)
                have hWJ := HW6.out.fr ((Fr.refl w6 (fun _ => False)).below bw (fun _ hi _ => hi)) id
                have HWJ := Lib.hid hWJ
                have HBJ := Lib.hid bw
                clear bw hWJ
                by_cases hlt5 : j < 4096
                · have HL1 := Lib.hid (ldN_1 B j (by omega) j rfl)
                  have HL2 := Lib.hid (ldO_1 B.length j (by omega) j rfl)
                  have hby := ByB.getD HOJ.out.byb j
                  have HC0 := Lib.hid (show ∀ w', Below wr.heap.size wr w' → w'.cell? ⟨gw, j, none⟩ = some (.int .u8 (B.getD j 0)) from fun w' k => blk_byte (HWJ.out.fr ((Fr.refl wr (fun _ => False)).below k (fun _ hi _ => hi)) id) j (by omega))
                  have hw8 := wrap8 _ hby.1 hby.2
                  generalize B.getD j 0 = y at *
                  have e0 : (y != y) = false := by simp
                  go_wp2_with (go_at_call 17; (with_reducible refine (cload_at HOJ.out j 1 _ true HL1.out HL2.out (by omega) (by omega) (by decide) (by decide)).mono ?_); rintro e' w7 ⟨rfl, b7⟩; have c7 := HC0.out w7 b7; have HB7 := Lib.hid (HBJ.out.trans (b7.mono hwr)); clear b7)
                  go_roundw
                  case rel => exact ⟨j + 1, by omega, by go_num, HB7.out⟩
                  case measure => simp [intOf]; omega
                · obtain rfl : j = 4096 := by omega
                  go_wp2_with (go_at_call 10; (with_reducible refine Calls.mono (known11_w _ (Tb.h1 (Lib.hid (Tb.h1 HTB HB6)) HBJ)) ?_); rintro e' w8 ⟨rfl, b8⟩; have HZ := Lib.hid (HB6.out.trans ((HBJ.out.trans (b8.mono hwr)).mono HB6.out.size)); clear b8)
                  go_ret
                  exact ⟨rfl, HZ.out⟩
          · by_cases hf : p + 8 ≤ 4096
            · have HS1 := Lib.hid (show sB B (p : Int) 8 v = layB B p v 8 from sB_nat B p 8 v (by decide) (by omega))
              have HS2 := Lib.hid (show sT B.length T (p : Int) 8 = unT T p 8 from sT_nat B.length T p 8 (by decide) (by omega))
              have HS3 := Lib.hid (show ldO B.length (p : Int) 8 = true from ldO_mk B.length p 8 (by decide) (by omega))
              have HX1 := Lib.hid (show ldN (layB B p v 8) p 8 = v by
                rw [show ((8 : Int)) = ((8 : Nat) : Int) from rfl, ldN_nat _ p 8 (by decide) (by rw [layB_len]; omega), numB_lay B p v 8 (by omega)]
                exact Int.emod_eq_of_lt v0 (by simpa using v1))
              have HX2 := Lib.hid (show ldO (layB B p v 8).length p 8 = true by rw [layB_len]; exact ldO_mk B.length p 8 (by decide) (by omega))
              have i5 : decide ((p : Int) + 8 ≤ 4096) = true := by simp; omega
              have e5 : (v != v) = false := by simp
              go_wp2_with (first | (go_at_call 21; (with_reducible refine (cstore_at HO3.out p 8 v true _ _ HS1.out HS2.out HS3.out (by omega) (by omega) (by decide) (by decide) v0 v1).mono ?_); rintro e' w5 ⟨rfl, o5, f5⟩; have hs5 := f5.size; have HO5 := Lib.hid o5; have HB5 := Lib.hid (HB3.out.trans (f5.bl hW3 (fun i x => x.1))); have HW5 := Lib.hid (HW3.out.fr f5 (fun x => by unfold Rg at x; omega)); clear o5 f5) | (go_at_call 17; (with_reducible refine (cload_at HO5.out p 8 _ true HX1.out HX2.out (by omega) (by omega) (by decide) (by decide)).mono ?_); rintro e' w6 ⟨rfl, b6⟩; have hs6 := b6.size; have HO6 := Lib.hid (HO5.out.below b6); have HB6 := Lib.hid (HB5.out.trans (b6.mono HB5.out.size)); have HW6 := Lib.hid (HW5.out.fr ((Fr.refl w5 (fun _ => False)).below b6 (fun _ hi _ => hi)) id); clear b6))
              go_loopw [19] (fun i w9 => ∃ j : Nat, j ≤ 4096 ∧ i = .int .i64 (j : Int) ∧ Below w6.heap.size w6 w9) (fun i _ => 4096 - (intOf i).toNat)
              case atStart => exact ⟨0, by omega, rfl, Below.refl _ _⟩
              case round =>
                obtain ⟨j, hj, rfl, bw⟩ := hrel
                have hwr := bw.size
                have HOJ := Lib.hid (HO6.out.below bw)
                have hWJ := HW6.out.fr ((Fr.refl w6 (fun _ => False)).below bw (fun _ hi _ => hi)) id
                have HWJ := Lib.hid hWJ
                have HBJ := Lib.hid bw
                clear bw hWJ
                by_cases hlt5 : j < 4096
                · have HL1 := Lib.hid (ldN_1 (layB B p v 8) j (by rw [layB_len]; omega) j rfl)
                  have HL2 := Lib.hid (ldO_1 (layB B p v 8).length j (by rw [layB_len]; omega) j rfl)
                  have hby := ByB.getD HOJ.out.byb j
                  have HC0 := Lib.hid (show ∀ w', Below wr.heap.size wr w' → w'.cell? ⟨gw, j, none⟩ = some (.int .u8 (B.getD j 0)) from fun w' k => blk_byte (HWJ.out.fr ((Fr.refl wr (fun _ => False)).below k (fun _ hi _ => hi)) id) j (by omega))
                  have hat := layB_at B p v 8 (by omega) j
                  by_cases hin : p ≤ j ∧ j < p + 8
                  · rw [if_pos hin] at hat
                    obtain ⟨d, hd⟩ : ∃ d, j - p = d := ⟨_, rfl⟩
                    rw [hd, ← pow2_8 d] at hat
                    rw [hat] at hby
                    have HX := Lib.hid (HL1.out.trans hat)
                    have i1 : decide ((p : Int) ≤ (j : Int)) = true := by simp; omega
                    have i2 : decide ((j : Int) < (p : Int) + 8) = true := by simp; omega
                    have hjd : (j : Int) - (p : Int) = (d : Int) := by omega
                    have h8 : (8 * (d : Int)) % 18446744073709551616 = 8 * (d : Int) := by omega
                    have hd8 : d < 8 := by omega
                    have hpd : 0 < (2 : Int) ^ (8 * d) := Int.pow_pos (by decide)
                    have ht : (v / 2 ^ (8 * d)).tmod 256 = v / 2 ^ (8 * d) % 256 := Int.tmod_eq_emod_of_nonneg (Int.ediv_nonneg v0 (by omega))
                    have e0 : (v / 2 ^ (8 * d) % 256 != v / 2 ^ (8 * d) % 256) = false := by simp
                    clear hat hd
                    go_wp2_with (go_at_call 17; (with_reducible refine (cload_at HOJ.out j 1 _ true HX.out HL2.out (by omega) (by omega) (by decide) (by decide)).mono ?_); rintro e' w7 ⟨rfl, b7⟩; have c7 := HC0.out w7 b7; have HB7 := Lib.hid (HBJ.out.trans (b7.mono hwr)); clear b7)
                    go_roundw
                    case rel => exact ⟨j + 1, by omega, by go_num, HB7.out⟩
                    case measure => simp [intOf]; omega
                  · rw [if_neg hin] at hat
                    rw [hat] at hby
                    have HX := Lib.hid (HL1.out.trans hat)
                    have hw8 := wrap8 _ hby.1 hby.2
                    clear hat
                    generalize B.getD j 0 = y at *
                    have e0 : (y != y) = false := by simp
                    by_cases hi1 : p ≤ j
                    · have i1 : decide ((p : Int) ≤ (j : Int)) = true := by simp; omega
                      have i2 : decide ((j : Int) < (p : Int) + 8) = false := by simp; omega
                      go_wp2_with (go_at_call 17; (with_reducible refine (cload_at HOJ.out j 1 _ true HX.out HL2.out (by omega) (by omega) (by decide) (by decide)).mono ?_); rintro e' w7 ⟨rfl, b7⟩; have c7 := HC0.out w7 b7; have HB7 := Lib.hid (HBJ.out.trans (b7.mono hwr)); clear b7)
                      go_roundw
                      case rel => exact ⟨j + 1, by omega, by go_num, HB7.out⟩
                      case measure => simp [intOf]; omega
                    · have i1 : decide ((p : Int) ≤ (j : Int)) = false := by simp; omega
                      go_wp2_with (go_at_call 17; (with_reducible refine (cload_at HOJ.out j 1 _ true HX.out HL2.out (by omega) (by omega) (by decide) (by decide)).mono ?_); rintro e' w7 ⟨rfl, b7⟩; have c7 := HC0.out w7 b7; have HB7 := Lib.hid (HBJ.out.trans (b7.mono hwr)); clear b7)
                      go_roundw
                      case rel => exact ⟨j + 1, by omega, by go_num, HB7.out⟩
                      case measure => simp [intOf]; omega
                · obtain rfl : j = 4096 := by omega
                  go_wp2_with (go_at_call 10; (with_reducible refine Calls.mono (known11_w _ (Tb.h1 (Lib.hid (Tb.h1 HTB HB6)) HBJ)) ?_); rintro e' w8 ⟨rfl, b8⟩; have HZ := Lib.hid (HB6.out.trans ((HBJ.out.trans (b8.mono hwr)).mono HB6.out.size)); clear b8)
                  go_ret
                  exact ⟨rfl, HZ.out⟩
            · have hno : ldO B.length p 8 = false := by simp [ldO, thB]; omega
              have i5 : decide ((p : Int) + 8 ≤ 4096) = false := by simp; omega
              have HS1 := Lib.hid (sB_no v hno)
              have HS2 := Lib.hid (sT_no T hno)
              have HX1 := Lib.hid (ldN_no hno)
              have HS3 := Lib.hid hno
              clear hno
              go_wp2_with (first | (go_at_call 21; (with_reducible refine (cstore_at HO3.out p 8 v false _ _ HS1.out HS2.out HS3.out (by omega) (by omega) (by decide) (by decide) v0 v1).mono ?_); rintro e' w5 ⟨rfl, o5, f5⟩; have hs5 := f5.size; have HO5 := Lib.hid o5; have HB5 := Lib.hid (HB3.out.trans (f5.bl hW3 (fun i x => x.1))); have HW5 := Lib.hid (HW3.out.fr f5 (fun x => by unfold Rg at x; omega)); clear o5 f5) | (go_at_call 17; (with_reducible refine (cload_at HO5.out p 8 _ false HX1.out HS3.out (by omega) (by omega) (by decide) (by decide)).mono ?_); rintro e' w6 ⟨rfl, b6⟩; have hs6 := b6.size; have HO6 := Lib.hid (HO5.out.below b6); have HB6 := Lib.hid (HB5.out.trans (b6.mono HB5.out.size)); have HW6 := Lib.hid (HW5.out.fr ((Fr.refl w5 (fun _ => False)).below b6 (fun _ hi _ => hi)) id); clear b6))
              go_loopw [19] (fun i w9 => ∃ j : Nat, j ≤ 4096 ∧ i = .int .i64 (j : Int) ∧ Below w6.heap.size w6 w9) (fun i _ => 4096 - (intOf i).toNat)
              case atStart => exact ⟨0, by omega, rfl, Below.refl _ _⟩
              case round =>
                obtain ⟨j, hj, rfl, bw⟩ := hrel
                have hwr := bw.size
                have HOJ := Lib.hid (HO6.out.below bw)
                have hWJ := HW6.out.fr ((Fr.refl w6 (fun _ => False)).below bw (fun _ hi _ => hi)) id
                have HWJ := Lib.hid hWJ
                have HBJ := Lib.hid bw
                clear bw hWJ
                by_cases hlt5 : j < 4096
                · have HL1 := Lib.hid (ldN_1 B j (by omega) j rfl)
                  have HL2 := Lib.hid (ldO_1 B.length j (by omega) j rfl)
                  have hby := ByB.getD HOJ.out.byb j
                  have HC0 := Lib.hid (show ∀ w', Below wr.heap.size wr w' → w'.cell? ⟨gw, j, none⟩ = some (.int .u8 (B.getD j 0)) from fun w' k => blk_byte (HWJ.out.fr ((Fr.refl wr (fun _ => False)).below k (fun _ hi _ => hi)) id) j (by omega))
                  have hw8 := wrap8 _ hby.1 hby.2
                  generalize B.getD j 0 = y at *
                  have e0 : (y != y) = false := by simp
                  go_wp2_with (go_at_call 17; (with_reducible refine (cload_at HOJ.out j 1 _ true HL1.out HL2.out (by omega) (by omega) (by decide) (by decide)).mono ?_); rintro e' w7 ⟨rfl, b7⟩; have c7 := HC0.out w7 b7; have HB7 := Lib.hid (HBJ.out.trans (b7.mono hwr)); clear b7)
                  go_roundw
                  case rel => exact ⟨j + 1, by omega, by go_num, HB7.out⟩
                  case measure => simp [intOf]; omega
                · obtain rfl : j = 4096 := by omega
                  go_wp2_with (go_at_call 10; (with_reducible refine Calls.mono (known11_w _ (Tb.h1 (Lib.hid (Tb.h1 HTB HB6)) HBJ)) ?_); rintro e' w8 ⟨rfl, b8⟩; have HZ := Lib.hid (HB6.out.trans ((HBJ.out.trans (b8.mono hwr)).mono HB6.out.size)); clear b8)
                  go_ret
                  exact ⟨rfl, HZ.out⟩
          · have t1 : (size == 1) = false := by simpa using n1
            have t2 : (size == 2) = false := by simpa using n2
            have t4 : (size == 4) = false := by simpa using n4
            have t8 : (size == 8) = false := by simpa using n8
            have hno : ldO B.length p size = false := by simp [ldO, szB, t1, t2, t4, t8]
            have HZ0 := Lib.hid s0
            have HZ1 := Lib.hid s1
            clear n1 n2 n4 n8
            have HS1 := Lib.hid (sB_no v hno)
            have HS2 := Lib.hid (sT_no T hno)
            have HX1 := Lib.hid (ldN_no hno)
            have HS3 := Lib.hid hno
            clear hno
            go_wp2_with (first | (go_at_call 21; (with_reducible refine (cstore_at HO3.out p size v false _ _ HS1.out HS2.out HS3.out (by omega) (by omega) HZ0.out HZ1.out v0 v1).mono ?_); rintro e' w5 ⟨rfl, o5, f5⟩; have hs5 := f5.size; have HO5 := Lib.hid o5; have HB5 := Lib.hid (HB3.out.trans (f5.bl hW3 (fun i x => x.1))); have HW5 := Lib.hid (HW3.out.fr f5 (fun x => by unfold Rg at x; omega)); clear o5 f5) | (go_at_call 17; (with_reducible refine (cload_at HO5.out p size _ false HX1.out HS3.out (by omega) (by omega) HZ0.out HZ1.out).mono ?_); rintro e' w6 ⟨rfl, b6⟩; have hs6 := b6.size; have HO6 := Lib.hid (HO5.out.below b6); have HB6 := Lib.hid (HB5.out.trans (b6.mono HB5.out.size)); have HW6 := Lib.hid (HW5.out.fr ((Fr.refl w5 (fun _ => False)).below b6 (fun _ hi _ => hi)) id); clear b6))
            go_loopw [19] (fun i w9 => ∃ j : Nat, j ≤ 4096 ∧ i = .int .i64 (j : Int) ∧ Below w6.heap.size w6 w9) (fun i _ => 4096 - (intOf i).toNat)
            case atStart => exact ⟨0, by omega, rfl, Below.refl _ _⟩
            case round =>
              obtain ⟨j, hj, rfl, bw⟩ := hrel
              have hwr := bw.size
              have HOJ := Lib.hid (HO6.out.below bw)
              have hWJ := HW6.out.fr ((Fr.refl w6 (fun _ => False)).below bw (fun _ hi _ => hi)) id
              have HWJ := Lib.hid hWJ
              have HBJ := Lib.hid bw
              clear bw hWJ
              by_cases hlt5 : j < 4096
              · have HL1 := Lib.hid (ldN_1 B j (by omega) j rfl)
                have HL2 := Lib.hid (ldO_1 B.length j (by omega) j rfl)
                have hby := ByB.getD HOJ.out.byb j
                have HC0 := Lib.hid (show ∀ w', Below wr.heap.size wr w' → w'.cell? ⟨gw, j, none⟩ = some (.int .u8 (B.getD j 0)) from fun w' k => blk_byte (HWJ.out.fr ((Fr.refl wr (fun _ => False)).below k (fun _ hi _ => hi)) id) j (by omega))
                have hw8 := wrap8 _ hby.1 hby.2
                generalize B.getD j 0 = y at *
                have e0 : (y != y) = false := by simp
                go_wp2_with (go_at_call 17; (with_reducible refine (cload_at HOJ.out j 1 _ true HL1.out HL2.out (by omega) (by omega) (by decide) (by decide)).mono ?_); rintro e' w7 ⟨rfl, b7⟩; have c7 := HC0.out w7 b7; have HB7 := Lib.hid (HBJ.out.trans (b7.mono hwr)); clear b7)
                go_roundw
                case rel => exact ⟨j + 1, by omega, by go_num, HB7.out⟩
                case measure => simp [intOf]; omega
              · obtain rfl : j = 4096 := by omega
                go_wp2_with (go_at_call 10; (with_reducible refine Calls.mono (known11_w _ (Tb.h1 (Lib.hid (Tb.h1 HTB HB6)) HBJ)) ?_); rintro e' w8 ⟨rfl, b8⟩; have HZ := Lib.hid (HB6.out.trans ((HBJ.out.trans (b8.mono hwr)).mono HB6.out.size)); clear b8)
                go_ret
                exact ⟨rfl, HZ.out⟩
end Go.Proofs.YteebmikjikjhmaaDoor
