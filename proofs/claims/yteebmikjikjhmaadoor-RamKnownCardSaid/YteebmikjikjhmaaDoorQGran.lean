/-
  The program's memory: the places of its tags. No condition but the library's table.
-/
import Derived.Test.YteebmikjikjhmaaDoorQCode
namespace Go.Proofs.YteebmikjikjhmaaDoor
open Go.ChangeShapes Go.WideShapes Go.ChangeAt Go.RowKit
set_option linter.unusedVariables false
set_option linter.unusedSimpArgs false
set_option maxHeartbeats 4000000 in
theorem cgran_w {w : World} {g gb : Nat} {B : List Int} {W : List Nat} {T : List Bool} (m : CM w g gb B W T) (tb : Tb w) :
    Calls Tryd.prog 26 #[.pointer (some ⟨g, 1, none⟩)] w fun e w' => ∃ v, e = .returned v ∧ OwnI w' w.heap.size v (fl (wB 64 W) 4096) ∧ Below w.heap.size w w' := by
  have hg := m.blk.lt
  have HM := Lib.hid m
  have HTB := Lib.hid tb
  clear m tb
  go_enter Tryd.func26, Tryd.ntmps26
  go_wp2
  go_loopw [3, 7] (fun v i wr => ∃ k : Nat, k ≤ 64 ∧ i = .int .i64 (k : Int) ∧ OwnI wr w.heap.size v (fl (wB 64 W) (64 * k)) ∧ Below w.heap.size w wr) (fun _ i _ => 64 - (intOf i).toNat)
  case atStart => exact ⟨0, Nat.zero_le _, rfl, OwnI.nil _ _, Below.refl _ _⟩
  case round =>
    obtain ⟨k, hk, rfl, ho, hkp⟩ := hrel
    have hm := HM.out.below hkp
    have hsz := hkp.size
    have HO := Lib.hid ho
    have HK := Lib.hid hkp
    by_cases hlt : k < 64
    · have cw := hm.word k hlt
      have HI := Lib.hid (Inn.start (W.getD k 0) (hm.wd.lim k))
      clear hm ho hkp
      obtain ⟨X, hX⟩ : ∃ X, W.getD k 0 = X := ⟨_, rfl⟩
      rw [hX] at cw HI
      have HX := Lib.hid hX
      clear hX
      have hki : (k : Int) < 64 := by omega
      have e0 : (0 : Int) ≤ (k : Int) := by omega
      go_wp2
      go_quiet (fail)
      go_wp2
      have HO1 := Lib.hid (show OwnI (wr.drewN nq) w.heap.size u3 (fl (wB 64 W) (64 * k + 0)) from HO.out)
      have HK1 := Lib.hid (show Below w.heap.size w (wr.drewN nq) from ⟨HK.out.os, HK.out.tape, HK.out.output, HK.out.size, HK.out.block⟩)
      clear HO HK cw
      obtain ⟨w5, hw5⟩ : ∃ w5, w5 = wr.drewN nq := ⟨_, rfl⟩
      rw [← hw5] at HO1 HK1 ⊢
      clear hw5
      go_loopw [3, 5] (fun v y wr => ∃ c x : Nat, y = .int .u64 (x : Int) ∧ Inn X c x ∧ OwnI wr w.heap.size v (fl (wB 64 W) (64 * k + c)) ∧ Below w.heap.size w wr) (fun _ y _ => (intOf y).toNat)
      case atStart => exact ⟨0, X, rfl, HI.out, HO1.out, HK1.out⟩
      case round =>
        obtain ⟨c, x, rfl, hi, ho, hkp⟩ := hrel
        have hsz := hkp.size
        have hlim := hi.lim
        have hc64 := hi.c64
        have HI2 := Lib.hid hi
        have HO2 := Lib.hid ho
        have HK2 := Lib.hid hkp
        have HT2 := Lib.hid (HTB.out.below (hkp.mono (Nat.le_refl _)))
        have hll := fl_len (wB 64 W) (64 * k + c)
        clear hi ho hkp
        by_cases hx0 : x = 0
        · subst hx0
          have hd := Inn.done (W := W) (k := k) (by rw [HX.out]; exact HI2.out)
          have HD := Lib.hid hd
          clear hd
          go_wp2
          go_roundw
          case rel => exact ⟨k + 1, by omega, by go_num, by rw [HD.out]; exact HO2.out, HK2.out⟩
          case measure => simp [intOf]; omega
        · have e1 : ((x : Int) != 0) = true := by simpa using hx0
          obtain ⟨hz, -, -, -⟩ := low_bit x hx0 hlim
          have ht := Inn.tell (W := W) (k := k) (by rw [HX.out]; exact HI2.out) hx0
          have HN := Lib.hid (HI2.out.next hx0)
          have hand : bits .and .u64 (x : Int) ((x : Int) - 1) = ((x &&& (x - 1) : Nat) : Int) := by
            have h := bits_and_u64_nat x (x - 1) hlim (by omega)
            rwa [show ((x - 1 : Nat) : Int) = (x : Int) - 1 by omega] at h
          have hless := and_pred_lt x hx0
          have HT := Lib.hid ht
          have HTZ := Lib.hid (fun w => tz_w x hlim hx0 w)
          clear ht
          generalize Lib.ctz 64 x = z at hz HT HN HTZ
          generalize x &&& (x - 1) = y at *
          go_wp2_with (first | (go_at_call 36; (with_reducible refine (HTZ.out _ HT2.out).mono ?_); rintro e' w6 ⟨rfl, rfl⟩) | (at_builtin; refine app_i rfl (.tmp 19) (.tmp 25) rfl w.heap.size _ _ rfl (HO2.out.alloc _) ⟨wr.heap.size, 0, none⟩ 1 ((k : Int) * 64 + (z : Int)) rfl (by simp [go_sem]) (by omega) (by simp; omega) (wr.heap.size + 1) (by simp) ?_; intro gg cap w7 hown hgr hat hlt2; have HO3 := Lib.hid hown; have HG3 := Lib.hid hgr; clear hown hgr hat))
          go_roundw
          case rel => exact ⟨z + 1, y, rfl, HN.out, by rw [HT.out, show ((64 * k + z : Nat) : Int) = (k : Int) * 64 + (z : Int) by omega]; exact HO3.out, (HK2.out.alloc hsz _).grown HG3.out (by simp; omega) (fun b hb => (HO2.out.lt b hb).1)⟩
          case measure => simp [intOf]; omega
    · clear hm ho hkp
      obtain rfl : k = 64 := by omega
      go_wp2
      go_ret
      exact ⟨_, rfl, HO.out, HK.out⟩
/-- The row as the loop in place turns it: its first k numbers by 16. -/
def TgR (n : Nat) (A : Option Addr) (L : List Int) (k : Nat) (w : World) : Prop :=
  ∀ i x, L[i]? = some x → ∃ g, A = some ⟨g, 0, none⟩ ∧ n ≤ g ∧ g < w.heap.size ∧ w.cell? ⟨g, i, none⟩ = some (.int .i64 (if i < k then x * 16 else x)) ∧ w.frozen? ⟨g, i, none⟩ = false
theorem OwnI.tgr {w : World} {B : Nat} {v : Value} {L : List Int} (h : OwnI w B v L) : ∃ A cap, v = .slice A L.length cap ∧ L.length ≤ cap ∧ TgR B A L 0 w := by
  obtain ⟨hx, ⟨rfl, hn⟩ | ⟨g, cap, cur, rfl, hb, hg, hn, hcap, hs, ht⟩⟩ := h
  · have e : L = [] := List.eq_nil_of_length_eq_zero hn
    subst e
    exact ⟨none, 0, rfl, Nat.le_refl _, fun i x hx => by simp at hx⟩
  · refine ⟨some ⟨g, 0, none⟩, cap, rfl, hn, fun i x hi => ⟨g, rfl, hb, ?_, ?_, ?_⟩⟩
    · rcases Nat.lt_or_ge g w.heap.size with l | l
      · exact l
      · rw [Array.getElem?_eq_none l] at hg; cases hg
    · rw [if_neg (by omega), cell_of_row w g i _ _ (0, 0) hg, ← Array.getElem?_toList]
      have e : (cur.toList.take (L.length * 1))[i]? = some (.int .i64 x) := by rw [ht, List.getElem?_map, hi]; rfl
      have hlt : i < L.length := by
        rcases Nat.lt_or_ge i L.length with l | l
        · exact l
        · rw [List.getElem?_eq_none l] at hi; cases hi
      rwa [List.getElem?_take_of_lt (by omega)] at e
    · simp [World.frozen?, hg]
theorem TgR.put {n : Nat} {g : Nat} {L : List Int} {k : Nat} {w : World} (h : TgR n (some ⟨g, 0, none⟩) L k w) (x : Int) (hx : L[k]? = some x) : TgR n (some ⟨g, 0, none⟩) L (k + 1) (w.setCell ⟨g, k, none⟩ (.int .i64 (x * 16))) := fun i y hy => by
  obtain ⟨g', e, h1, h2, h3, h4⟩ := h i y hy
  cases e
  refine ⟨g, rfl, h1, by simpa [World.setCell] using h2, ?_, by rw [World.frozen?_setCell]; exact h4⟩
  by_cases e : i = k
  · subst e
    rw [hx] at hy; cases hy
    rw [if_pos (by omega)]
    simp [go_sem, h3]
  · rw [World.cell?_setCell_other w _ _ _ (fun x => e (by cases x; rfl)), h3]
    by_cases c : i < k
    · rw [if_pos c, if_pos (by omega)]
    · rw [if_neg c, if_neg (by omega)]
theorem TgR.drew {n : Nat} {A : Option Addr} {L : List Int} {k : Nat} {w : World} (h : TgR n A L k w) : TgR n A L k w.drew := h
theorem TgR.rd {n : Nat} {A : Option Addr} {L : List Int} {cap : Nat} {w : World} (h : TgR n A L L.length w) (hc : L.length ≤ cap) : RdI w (.slice A L.length cap) (L.map fun x => x * 16) := by
  refine ⟨A, cap, by rw [List.length_map], by rw [List.length_map]; exact hc, fun i x hx => ?_⟩
  rw [List.getElem?_map] at hx
  obtain ⟨y, hy, rfl⟩ := Option.map_eq_some_iff.1 hx
  obtain ⟨g, e, h1, h2, h3, h4⟩ := h i y hy
  have hlt : i < L.length := by
    rcases Nat.lt_or_ge i L.length with l | l
    · exact l
    · rw [List.getElem?_eq_none l] at hy; cases hy
  rw [if_pos hlt] at h3
  exact ⟨g, e, h2, h3⟩
set_option maxHeartbeats 4000000 in
theorem ctagged_w {w : World} {lo hi g : Nat} {B : List Int} {T : List Bool} (m : Ob w lo hi g B T) (tb : Tb w) : Calls Tryd.prog 15 #[.pointer (some ⟨g, 0, none⟩)] w fun e w' => ∃ v, e = .returned v ∧ RdI w' v (tgs 0 T) ∧ Below w.heap.size w w' := by
  obtain ⟨gb, W, c, _, _⟩ := m.cm
  have hT : T.length ≤ 64 * 64 := by have := m.len; have := m.lim; omega
  have hL := fl_words c.wd hT
  have hbd := fl_bd (wB 64 W) (64 * 64)
  have hln := fl_len (wB 64 W) (64 * 64)
  have hcall := cgran_w c tb
  have hg := c.blk.lt
  rw [hL]
  rw [show 64 * 64 = 4096 from rfl] at hbd hln
  change Calls _ _ _ _ (fun e w' => ∃ v, e = .returned v ∧ RdI w' v ((fl (wB 64 W) 4096).map (fun x => x * 16)) ∧ Below w.heap.size w w')
  generalize fl (wB 64 W) 4096 = L at *
  have HC := Lib.hid hcall
  have HB := Lib.hid hbd
  clear hcall hbd hL hT m c tb
  go_enter Tryd.func15, Tryd.ntmps15
  go_upto_region 2 with (go_at_call 26; (with_reducible refine HC.out.mono ?_); rintro e' w1 ⟨v, rfl, ho, bl⟩; obtain ⟨A, cap, rfl, hcap, htg⟩ := ho.tgr; have HTG := Lib.hid htg; have HBL := Lib.hid bl; clear ho htg bl)
  go_wp2
  obtain ⟨w5, hw5⟩ : ∃ w5, w5 = w1 := ⟨_, rfl⟩
  rw [← hw5] at HTG HBL ⊢
  clear hw5
  go_loopw [11] (fun i wr => ∃ k : Nat, k ≤ L.length ∧ i = .int .i64 (k : Int) ∧ TgR w.heap.size A L k wr ∧ Below w.heap.size w wr) (fun i _ => L.length - (intOf i).toNat)
  case atStart => exact ⟨0, Nat.zero_le _, rfl, HTG.out, HBL.out⟩
  case round =>
    obtain ⟨k, hk, rfl, ht, hkp⟩ := hrel
    have HT := Lib.hid ht
    have HK := Lib.hid hkp
    clear ht hkp
    by_cases hlt : k < L.length
    · obtain ⟨x, hx⟩ : ∃ x, L[k]? = some x := ⟨_, List.getElem?_eq_getElem hlt⟩
      obtain ⟨g1, rfl, hn1, hs1, c1, z1⟩ := HT.out k x hx
      rw [if_neg (by omega)] at c1
      obtain ⟨x0, x1⟩ := HB.out x (List.mem_of_getElem? hx)
      have HX := Lib.hid hx
      clear hx
      go_wp2
      go_roundw
      case rel => exact ⟨k + 1, by omega, by go_num, HT.out.put x HX.out, HK.out.setCell hn1 _⟩
      case measure => simp [intOf]; omega
    · obtain rfl : k = L.length := by omega
      go_wp2
      go_ret
      exact ⟨_, rfl, HT.out.rd hcap, HK.out⟩
end Go.Proofs.YteebmikjikjhmaaDoor
