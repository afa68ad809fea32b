/-
  The chapter's examples, and each row's ends, are as the document says, as CapdecKnown asks. No condition.
-/
import Derived.Test.YtiefemcpagdiaaaDKnow
import Derived.Test.YtiefemcpagdiaaaDLaw
namespace Go.Proofs.Ytiefemcpagdiaaa.capdecKnown
open Go.ChangeShapes Go.WideShapes Go.ChangeAt Go.RowKit
set_option linter.unusedVariables false
set_option linter.unusedSimpArgs false

theorem own : ownKnob Try.prog.godebug = none := by kernel_rfl
set_option maxRecDepth 4000 in
set_option maxHeartbeats 8000000 in
theorem walk (w : World) : Calls Try.prog 6 #[] w fun e w' => e = .returned (.bool true) ∧ Grown w w' := by
  go_enter Try.func6, Try.ntmps6
  go_wp2
  go_loopw [3] (fun i wr => ∃ k : Nat, k ≤ 32 ∧ i = .int .i64 k ∧ Kp w wr ∧ At w.heap.size [.int .i64 0, .int .i64 1, .int .i64 2, .int .i64 3, .int .i64 4, .int .i64 5, .int .i64 6, .int .i64 7, .int .i64 8, .int .i64 9, .int .i64 10, .int .i64 11, .int .i64 15, .int .i64 17, .int .i64 24] wr ∧ w.heap.size < wr.heap.size) (fun i _ => 32 - (intOf i).toNat)
  case atStart => exact ⟨0, Nat.zero_le _, rfl, (Kp.refl w).allocs _ _, At.new' w _ _ rfl, by simp⟩
  case round =>
    obtain ⟨k, hk, rfl, hkp, hat, hsz⟩ := hrel
    have HKP := Lib.hid hkp
    have HAT := Lib.hid hat
    clear hkp hat
    by_cases hlt : k < 32
    · obtain ⟨p, hp⟩ : ∃ p, decide ((k : Int) < 16) = p := ⟨_, rfl⟩
      obtain ⟨q, hq⟩ : ∃ q, decide ((k : Int) % 8 < 4) = q := ⟨_, rfl⟩
      obtain ⟨r, hr⟩ : ∃ r, ((k : Int) % 8 == 7) = r := ⟨_, rfl⟩
      have h8 : ((k : Int)).tmod 8 = (k : Int) % 8 := Int.tmod_eq_emod_of_nonneg (by omega)
      obtain ⟨s, hss⟩ : ∃ s, (p && (q || r)) = s := ⟨_, rfl⟩
      have HS := Lib.hid hss
      have hs : stoB (k : Int) = s := by rw [← hss, sto_eq _ (by omega) (by omega), hp, hq, hr]
      obtain ⟨i2, l2, r2, A2⟩ := kn_load (k : Int) (by omega) (by omega) p hp
      obtain ⟨i3, l3, r3, A3⟩ := kn_store (k : Int) (by omega) (by omega) s hs
      have H2 := Lib.hid A2
      have H3 := Lib.hid A3
      clear A2 A3 hs hss
      obtain ⟨o2, n2, d2, s2, u2, m2, x2, y2, z2⟩ := i2
      obtain ⟨o3, n3, d3, s3, u3, m3, x3, y3, z3⟩ := i3
      obtain ⟨g, hg⟩ : ∃ g, getB (k : Int) = g := ⟨_, rfl⟩
      have hG := Lib.hid ((gets_all (k : Int) (by omega) (by omega)).trans hg)
      cases g
      · by_cases h12 : (k : Int) = 12
        · obtain ⟨i1, l1, r1, A1, ho⟩ := kn_12k (k : Int) h12
          have t12 : ((k : Int) == 12) = true := by simp [h12]
          obtain ⟨o1, n1, d1, s1, u1, m1, x1, y1, z1⟩ := i1
          dsimp only at ho
          have H1 := Lib.hid A1
          have to1 : (o1 != 26) = false := by simp [ho]
          have H12 := Lib.hid h12
          clear A1 hg ho h12
          go_wp2_with ((go_at_call 7; (with_reducible refine (H1.out.w _).mono ?_); rintro e' w1 ⟨rfl, qk⟩; have HKw1 := Lib.hid qk; dsimp only [Ins.v]; have szw1 := qk.size; clear qk))
          go_loopw [6, 7] (fun s i wr => ∃ j : Nat, j ≤ 15 ∧ i = .int .i64 j ∧ s = .bool (inB (k : Int) (gets9.take j)) ∧ (w1.alloc (.cells #[.int .i64 o1, .int .i64 n1, .int .i64 d1, .int .i64 s1, .int .i64 u1, .int .i64 m1, .int .i64 x1, .bool y1, .bool z1, .int .i64 l1, .int .u32 r1] 24)) = wr) (fun _ i _ => 15 - (intOf i).toNat)
          case atStart => exact ⟨0, Nat.zero_le _, rfl, rfl, rfl⟩
          case round =>
            obtain ⟨j, hj, rfl, rfl, rfl⟩ := hrel
            by_cases hjl : j < 15
            · obtain ⟨c, hc⟩ : ∃ c, gets9[j]? = some c := ⟨gets9[j]'(by simpa [gets9] using hjl), List.getElem?_eq_getElem _⟩
              have hm : w1.cell? ⟨w.heap.size, j, none⟩ = some (.int .i64 c) := (HKw1.out.cell (p := ⟨w.heap.size, j, none⟩) hsz).trans (HAT.out j _ (by rw [show [.int .i64 0, .int .i64 1, .int .i64 2, .int .i64 3, .int .i64 4, .int .i64 5, .int .i64 6, .int .i64 7, .int .i64 8, .int .i64 9, .int .i64 10, .int .i64 11, .int .i64 15, .int .i64 17, .int .i64 24] = gets9.map (Value.int .i64) by rfl, List.getElem?_map, hc]; rfl))
              have hn0 : w.heap.size < w1.heap.size := by omega
              have hn1 : ¬ w.heap.size = w1.heap.size := by omega
              have hn2 : ¬ w1.heap.size = w.heap.size := by omega
              have he := Lib.hid (inB_take (k : Int) gets9 j c hc)
              obtain ⟨b, hb⟩ : ∃ b, inB (k : Int) (gets9.take j) = b := ⟨_, rfl⟩
              obtain ⟨v, hv⟩ : ∃ v, (c == (k : Int)) = v := ⟨_, rfl⟩
              have HB := Lib.hid hb
              have HV := Lib.hid hv
              rw [hb]
              clear hc
              cases b <;> cases v
              all_goals
                go_wp2
                go_roundw
                case rel => exact ⟨j + 1, by omega, by go_num, by rw [he.out, HB.out, HV.out]; rfl, by first | rfl | trivial⟩
                case measure => simp [intOf]; omega
            · have hj15 : j = 15 := by omega
              subst hj15
              rw [show gets9.take 15 = gets9 from rfl, hG.out]
              have hway : (p = false ∧ s = false) ∨ (p = true ∧ q = true ∧ s = true) ∨ (p = true ∧ q = false ∧ r = true ∧ s = true) ∨ (p = true ∧ q = false ∧ r = false ∧ s = false) := by
                have h := HS.out
                revert h; cases p <;> cases q <;> cases r <;> cases s <;> simp
              rcases hway with ⟨rfl, rfl⟩ | ⟨rfl, rfl, rfl⟩ | ⟨rfl, rfl, rfl, rfl⟩ | ⟨rfl, rfl, rfl, rfl⟩
              all_goals
                go_wp2_with (first | (go_at_call 7; (with_reducible refine (H2.out.w _).mono ?_); rintro e' w2 ⟨rfl, qk⟩; have HKw2 := Lib.hid qk; dsimp only [Ins.v]; have szw2 := qk.size; (try simp at szw2); clear qk) | (go_at_call 7; (with_reducible refine (H3.out.w _).mono ?_); rintro e' w3 ⟨rfl, qk⟩; have HKw3 := Lib.hid qk; dsimp only [Ins.v]; have szw3 := qk.size; (try simp at szw3); clear qk))
                go_roundw
                case rel =>
                  have K2 := ((HKw1.out.allocs _ _).trans HKw2.out)
                  have K3 := fun c t => ((K2.allocs _ _).trans HKw3.out).allocs c t
                  exact ⟨k + 1, by omega, by go_num, HKP.out.trans (K3 _ _), HAT.out.kp (K3 _ _) hsz, Nat.lt_of_lt_of_le hsz (K3 _ _).size⟩
                case measure => simp [intOf]; omega
        · obtain ⟨i1, l1, r1, A1⟩ := kn_no (k : Int) (by omega) (by omega) hg h12
          have t12 : ((k : Int) == 12) = false := by simp [h12]
          obtain ⟨o1, n1, d1, s1, u1, m1, x1, y1, z1⟩ := i1
          have H1 := Lib.hid A1
          have H12 := Lib.hid h12
          clear A1 hg h12
          go_wp2_with ((go_at_call 7; (with_reducible refine (H1.out.w _).mono ?_); rintro e' w1 ⟨rfl, qk⟩; have HKw1 := Lib.hid qk; dsimp only [Ins.v]; have szw1 := qk.size; clear qk))
          go_loopw [6, 7] (fun s i wr => ∃ j : Nat, j ≤ 15 ∧ i = .int .i64 j ∧ s = .bool (inB (k : Int) (gets9.take j)) ∧ (w1.alloc (.cells #[.int .i64 o1, .int .i64 n1, .int .i64 d1, .int .i64 s1, .int .i64 u1, .int .i64 m1, .int .i64 x1, .bool y1, .bool z1, .int .i64 l1, .int .u32 r1] 24)) = wr) (fun _ i _ => 15 - (intOf i).toNat)
          case atStart => exact ⟨0, Nat.zero_le _, rfl, rfl, rfl⟩
          case round =>
            obtain ⟨j, hj, rfl, rfl, rfl⟩ := hrel
            by_cases hjl : j < 15
            · obtain ⟨c, hc⟩ : ∃ c, gets9[j]? = some c := ⟨gets9[j]'(by simpa [gets9] using hjl), List.getElem?_eq_getElem _⟩
              have hm : w1.cell? ⟨w.heap.size, j, none⟩ = some (.int .i64 c) := (HKw1.out.cell (p := ⟨w.heap.size, j, none⟩) hsz).trans (HAT.out j _ (by rw [show [.int .i64 0, .int .i64 1, .int .i64 2, .int .i64 3, .int .i64 4, .int .i64 5, .int .i64 6, .int .i64 7, .int .i64 8, .int .i64 9, .int .i64 10, .int .i64 11, .int .i64 15, .int .i64 17, .int .i64 24] = gets9.map (Value.int .i64) by rfl, List.getElem?_map, hc]; rfl))
              have hn0 : w.heap.size < w1.heap.size := by omega
              have hn1 : ¬ w.heap.size = w1.heap.size := by omega
              have hn2 : ¬ w1.heap.size = w.heap.size := by omega
              have he := Lib.hid (inB_take (k : Int) gets9 j c hc)
              obtain ⟨b, hb⟩ : ∃ b, inB (k : Int) (gets9.take j) = b := ⟨_, rfl⟩
              obtain ⟨v, hv⟩ : ∃ v, (c == (k : Int)) = v := ⟨_, rfl⟩
              have HB := Lib.hid hb
              have HV := Lib.hid hv
              rw [hb]
              clear hc
              cases b <;> cases v
              all_goals
                go_wp2
                go_roundw
                case rel => exact ⟨j + 1, by omega, by go_num, by rw [he.out, HB.out, HV.out]; rfl, by first | rfl | trivial⟩
                case measure => simp [intOf]; omega
            · have hj15 : j = 15 := by omega
              subst hj15
              rw [show gets9.take 15 = gets9 from rfl, hG.out]
              have hway : (p = false ∧ s = false) ∨ (p = true ∧ q = true ∧ s = true) ∨ (p = true ∧ q = false ∧ r = true ∧ s = true) ∨ (p = true ∧ q = false ∧ r = false ∧ s = false) := by
                have h := HS.out
                revert h; cases p <;> cases q <;> cases r <;> cases s <;> simp
              rcases hway with ⟨rfl, rfl⟩ | ⟨rfl, rfl, rfl⟩ | ⟨rfl, rfl, rfl, rfl⟩ | ⟨rfl, rfl, rfl, rfl⟩
              all_goals
                go_wp2_with (first | (go_at_call 7; (with_reducible refine (H2.out.w _).mono ?_); rintro e' w2 ⟨rfl, qk⟩; have HKw2 := Lib.hid qk; dsimp only [Ins.v]; have szw2 := qk.size; (try simp at szw2); clear qk) | (go_at_call 7; (with_reducible refine (H3.out.w _).mono ?_); rintro e' w3 ⟨rfl, qk⟩; have HKw3 := Lib.hid qk; dsimp only [Ins.v]; have szw3 := qk.size; (try simp at szw3); clear qk))
                go_roundw
                case rel =>
                  have K2 := ((HKw1.out.allocs _ _).trans HKw2.out)
                  have K3 := fun c t => ((K2.allocs _ _).trans HKw3.out).allocs c t
                  exact ⟨k + 1, by omega, by go_num, HKP.out.trans (K3 _ _), HAT.out.kp (K3 _ _) hsz, Nat.lt_of_lt_of_le hsz (K3 _ _).size⟩
                case measure => simp [intOf]; omega
      · obtain ⟨i1, l1, r1, A1, ho, hn⟩ := kn_get (k : Int) (by omega) (by omega) hg
        have t12 : ((k : Int) == 12) = false := by simp; intro e; rw [e] at hg; revert hg; decide
        obtain ⟨o1, n1, d1, s1, u1, m1, x1, y1, z1⟩ := i1
        dsimp only at ho hn
        have H1 := Lib.hid A1
        have to1 : (o1 != 23) = false := by simp [ho]
        have tn1 : (n1 != (k : Int)) = false := by simp [hn]
        clear A1 hg ho hn
        go_wp2_with ((go_at_call 7; (with_reducible refine (H1.out.w _).mono ?_); rintro e' w1 ⟨rfl, qk⟩; have HKw1 := Lib.hid qk; dsimp only [Ins.v]; have szw1 := qk.size; clear qk))
        go_loopw [6, 7] (fun s i wr => ∃ j : Nat, j ≤ 15 ∧ i = .int .i64 j ∧ s = .bool (inB (k : Int) (gets9.take j)) ∧ (w1.alloc (.cells #[.int .i64 o1, .int .i64 n1, .int .i64 d1, .int .i64 s1, .int .i64 u1, .int .i64 m1, .int .i64 x1, .bool y1, .bool z1, .int .i64 l1, .int .u32 r1] 24)) = wr) (fun _ i _ => 15 - (intOf i).toNat)
        case atStart => exact ⟨0, Nat.zero_le _, rfl, rfl, rfl⟩
        case round =>
          obtain ⟨j, hj, rfl, rfl, rfl⟩ := hrel
          by_cases hjl : j < 15
          · obtain ⟨c, hc⟩ : ∃ c, gets9[j]? = some c := ⟨gets9[j]'(by simpa [gets9] using hjl), List.getElem?_eq_getElem _⟩
            have hm : w1.cell? ⟨w.heap.size, j, none⟩ = some (.int .i64 c) := (HKw1.out.cell (p := ⟨w.heap.size, j, none⟩) hsz).trans (HAT.out j _ (by rw [show [.int .i64 0, .int .i64 1, .int .i64 2, .int .i64 3, .int .i64 4, .int .i64 5, .int .i64 6, .int .i64 7, .int .i64 8, .int .i64 9, .int .i64 10, .int .i64 11, .int .i64 15, .int .i64 17, .int .i64 24] = gets9.map (Value.int .i64) by rfl, List.getElem?_map, hc]; rfl))
            have hn0 : w.heap.size < w1.heap.size := by omega
            have hn1 : ¬ w.heap.size = w1.heap.size := by omega
            have hn2 : ¬ w1.heap.size = w.heap.size := by omega
            have he := Lib.hid (inB_take (k : Int) gets9 j c hc)
            obtain ⟨b, hb⟩ : ∃ b, inB (k : Int) (gets9.take j) = b := ⟨_, rfl⟩
            obtain ⟨v, hv⟩ : ∃ v, (c == (k : Int)) = v := ⟨_, rfl⟩
            have HB := Lib.hid hb
            have HV := Lib.hid hv
            rw [hb]
            clear hc
            cases b <;> cases v
            all_goals
              go_wp2
              go_roundw
              case rel => exact ⟨j + 1, by omega, by go_num, by rw [he.out, HB.out, HV.out]; rfl, by first | rfl | trivial⟩
              case measure => simp [intOf]; omega
          · have hj15 : j = 15 := by omega
            subst hj15
            rw [show gets9.take 15 = gets9 from rfl, hG.out]
            have hway : (p = false ∧ s = false) ∨ (p = true ∧ q = true ∧ s = true) ∨ (p = true ∧ q = false ∧ r = true ∧ s = true) ∨ (p = true ∧ q = false ∧ r = false ∧ s = false) := by
              have h := HS.out
              revert h; cases p <;> cases q <;> cases r <;> cases s <;> simp
            rcases hway with ⟨rfl, rfl⟩ | ⟨rfl, rfl, rfl⟩ | ⟨rfl, rfl, rfl, rfl⟩ | ⟨rfl, rfl, rfl, rfl⟩
            all_goals
              go_wp2_with (first | (go_at_call 7; (with_reducible refine (H2.out.w _).mono ?_); rintro e' w2 ⟨rfl, qk⟩; have HKw2 := Lib.hid qk; dsimp only [Ins.v]; have szw2 := qk.size; (try simp at szw2); clear qk) | (go_at_call 7; (with_reducible refine (H3.out.w _).mono ?_); rintro e' w3 ⟨rfl, qk⟩; have HKw3 := Lib.hid qk; dsimp only [Ins.v]; have szw3 := qk.size; (try simp at szw3); clear qk))
              go_roundw
              case rel =>
                have K2 := ((HKw1.out.allocs _ _).trans HKw2.out)
                have K3 := fun c t => ((K2.allocs _ _).trans HKw3.out).allocs c t
                exact ⟨k + 1, by omega, by go_num, HKP.out.trans (K3 _ _), HAT.out.kp (K3 _ _) hsz, Nat.lt_of_lt_of_le hsz (K3 _ _).size⟩
              case measure => simp [intOf]; omega
    · have hk32 : k = 32 := by omega
      subst hk32
      go_wp2
      go_loopw [2, 12] (fun n i wr2 => ∃ f : Nat, f ≤ 128 ∧ i = .int .i64 f ∧ n = .int .i64 (cntF f) ∧ Kp wr wr2) (fun _ i _ => 128 - (intOf i).toNat)
      case atStart => exact ⟨0, Nat.zero_le _, rfl, rfl, Kp.refl _⟩
      case round =>
        obtain ⟨f, hf, rfl, rfl, hkp2⟩ := hrel
        have HKP2 := Lib.hid hkp2
        clear hkp2
        by_cases hfl : f < 128
        · obtain ⟨b, hb⟩ : ∃ b, okF (f : Int) = b := ⟨_, rfl⟩
          obtain ⟨i4, l4, r4, A4⟩ := kn_f (f : Int) (by omega) (by omega) b hb
          have H4 := Lib.hid A4
          have HB := Lib.hid hb
          have hc0 := cnt_le f
          clear A4 hb
          obtain ⟨o4, n4, d4, s4, u4, m4, x4, y4, z4⟩ := i4
          cases b
          all_goals
            go_wp2_with ((go_at_call 7; (with_reducible refine (H4.out.w _).mono ?_); rintro e' w4 ⟨rfl, qk⟩; have HKw4 := Lib.hid qk; dsimp only [Ins.v]; have szw4 := qk.size; clear qk))
            go_roundw
            case rel => exact ⟨f + 1, by omega, by go_num, by simp only [cntF, HB.out]; (try simp), (HKP2.out.trans HKw4.out).allocs _ _⟩
            case measure => simp [intOf]; omega
        · have hf128 : f = 128 := by omega
          subst hf128
          rw [cnt_128]
          have q1 := dins_eql 6 0 10 10 0 16 7 false false 4 17114383
          go_wp2_with (first | (go_at_call 7; (with_reducible refine (ddec_at (17114383) (by decide) (by decide) _ dk_q _).mono ?_); rintro e' w5 ⟨rfl, qk⟩; have HKw5 := Lib.hid qk; dsimp only [ddV, Ins.v, zIns]; have szw5 := qk.size; (try simp at szw5); clear qk) | (go_at_call 9; (with_reducible refine (known9_w _).mono ?_); rintro e' w6 ⟨rfl, qk⟩; have HKw6 := Lib.hid qk; clear qk))
          go_ret
          exact ⟨rfl, (((HKP.out.trans HKP2.out).trans HKw5.out).allocs _ _ |>.trans HKw6.out).grown⟩
end Go.Proofs.Ytiefemcpagdiaaa.capdecKnown
