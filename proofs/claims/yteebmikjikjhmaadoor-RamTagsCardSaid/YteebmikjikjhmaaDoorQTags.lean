/-
  RamTags of layer 11: a tag is there just if it was laid, and nothing was stored since. No condition.
-/
import Derived.Test.YteebmikjikjhmaaDoorQPlays
namespace Go.Proofs.YteebmikjikjhmaaDoor
open Go.ChangeShapes Go.WideShapes Go.ChangeAt Go.RowKit
set_option linter.unusedVariables false
set_option linter.unusedSimpArgs false
/-- The code's memory, and the statement's own tags, alike. -/
def TagS (W : World) (lo hi g gg : Nat) (w : World) : Prop := ∃ B T, B.length = 4096 ∧ Ob w lo hi g B T ∧ Blk w gg 4 (T.map .bool) ∧ Below W.heap.size W w
theorem blk_tag {w : World} {gg : Nat} {T : List Bool} (h : Blk w gg 4 (T.map .bool)) (i : Nat) (hi : i < T.length) : w.cell? ⟨gg, i, none⟩ = some (.bool (T.getD i false)) :=
  h.at_ i _ (by rw [List.getElem?_map, List.getD_eq_getElem?_getD, List.getElem?_eq_getElem hi]; rfl)
theorem blk_set {w : World} {gg : Nat} {T : List Bool} (h : Blk w gg 4 (T.map .bool)) (i : Nat) (b : Bool) : Blk (w.setCell ⟨gg, i, none⟩ (.bool b)) gg 4 ((T.set i b).map .bool) := by
  rw [List.map_set]; exact h.set_ i _
theorem Ob.far {w : World} {lo hi g : Nat} {B : List Int} {T : List Bool} (o : Ob w lo hi g B T) (p : Addr) (hp : hi ≤ p.block) (u : Value) : Ob (w.setCell p u) lo hi g B T :=
  o.fr ((Fr.refl w (fun i => i = p.block)).setCell (.inr rfl) u) (fun i _ h e => by omega)
theorem OwnI.below {w w' : World} {B : Nat} {v : Value} {L : List Int} (h : OwnI w B v L) (k : Below w.heap.size w w') : OwnI w' B v L := by
  obtain ⟨hx, h⟩ := h
  refine ⟨hx, h.imp id ?_⟩
  rintro ⟨g, cap, cur, rfl, hb, hg, hr⟩
  have hlt : g < w.heap.size := by
    rcases Nat.lt_or_ge g w.heap.size with l | l
    · exact l
    · rw [Array.getElem?_eq_none l] at hg; cases hg
  exact ⟨g, cap, cur, rfl, hb, (k.block g hlt).trans hg, hr⟩
theorem cT_yes {T : List Bool} {len q : Nat} (h : 16 * q + 16 ≤ len) (b : Bool) : cT len T ((16 * q : Nat) : Int) b = T.set q b := by
  rw [cT, if_pos (cpO_mk len q h), Int.toNat_natCast, show 16 * q / 16 = q by omega]
theorem cpO_two {len : Nat} {off : Int} (h : cpO len off = true) : ∃ o q : Nat, off = (o : Int) ∧ 16 * q = o ∧ o + 16 ≤ len := by
  obtain ⟨q, e, hq⟩ := cpO_nat h
  exact ⟨16 * q, q, e, rfl, hq⟩
theorem cT_no {T : List Bool} {len : Nat} {off : Int} (h : cpO len off = false) (b : Bool) : cT len T off b = T := by rw [cT, if_neg (by rw [h]; simp)]
theorem sT_two {T : List Bool} {len o s : Nat} (hs : szB (s : Int) = true) (h : o + s ≤ len) (hl : len = 16 * T.length) : sT len T o s = (T.set (o / 16) false).set ((o + s - 1) / 16) false := by
  have hz := szB_nat s hs
  rw [sT_nat len T o s hs h, unT_two T o s (by omega) (by omega) (by omega)]
theorem cpT_at {T : List Bool} {len q : Nat} (h : 16 * q + 16 ≤ len) : cpT T len ((16 * q : Nat) : Int) = T.getD q false := by
  rw [cpT, if_pos (cpO_mk len q h), Int.toNat_natCast, show 16 * q / 16 = q by omega]
set_option maxRecDepth 100000 in
set_option maxHeartbeats 16000000 in
theorem tags_w (l : List Ac) (A : Option Addr) (cap : Nat) (W : World) (hrd : RdAc W W.heap.size A l) (hraw : ∀ c ∈ l, c.Raw) (hlen : l.length ≤ 9223372036854775807) (tb : Tb W) :
    Calls Tryd.prog 4 #[.slice A l.length cap] W fun e w' => e = .returned (.bool true) ∧ Below W.heap.size W w' := by
  have HTB := Lib.hid tb
  clear tb
  have HN : Hid (∀ w, Calls Tryd.prog 8 #[.int .i64 4096] w fun e w' => ∃ g, e = .returned (.tuple #[.pointer (some ⟨g, 0, none⟩), .int .i64 0]) ∧ Ob w' w.heap.size w'.heap.size g kB0 kT0 ∧ Below w.heap.size w w') := Lib.hid (fun w => cnew_yes 4096 (by decide) w)
  have HRD := Lib.hid hrd
  have HRAW := Lib.hid hraw
  clear hrd hraw
  have k1 : ∀ w, (Instr.makeSlice 42 (.int .i64 256) (.int .i64 256)).run Tryd.prog w = .ok (.slice (some ⟨w.heap.size, 0, none⟩) 256 256) (w.alloc (.cells (List.replicate 256 (.bool false)).toArray 4)) := fun w => by
    have h := run_make_row' (P := Tryd.prog) 42 4 (.bool false) 1 Tryd.underlying42 bool_info rfl .i64 .i64 256 (by decide) (by decide) w
    rw [made_list] at h
    exact h
  obtain ⟨row, hrow⟩ : ∃ r, (List.replicate 256 (Value.bool false)).toArray = r := ⟨_, rfl⟩
  simp only [hrow] at k1
  have HROW := Lib.hid hrow
  clear hrow
  go_enter Tryd.func4, Tryd.ntmps4
  go_wp2_with (go_at_call 8; (with_reducible refine (HN.out _).mono ?_); rintro e' w1 ⟨g, rfl, o1, b1⟩; have hs1 := b1.size; have hbot := o1.bot; have hgh := o1.gh; have HS := Lib.hid (show TagS W W.heap.size w1.heap.size g w1.heap.size (w1.alloc (.cells row 4)) from ⟨kB0, kT0, kl0, o1.fr ((Fr.refl w1 (fun _ => False)).alloc _) (fun _ _ _ h => h), by have h := Blk.new w1 4 (List.replicate 256 (.bool false)); rw [HROW.out] at h; rwa [kT0, List.map_replicate], b1.alloc hs1 _⟩); clear o1 b1)
  generalize w1.alloc (.cells row 4) = w2 at HS ⊢
  generalize w1.heap.size = hi at *
  have hWh : W.heap.size ≤ hi := by omega
  clear k1
  go_loopw [6] (fun i wr => ∃ k : Nat, k ≤ 200 ∧ i = .int .i64 (k : Int) ∧ TagS W W.heap.size hi g hi wr) (fun i _ => 200 - (intOf i).toNat)
  case atStart => exact ⟨0, by omega, rfl, HS.out⟩
  case round =>
    clear HS
    obtain ⟨k, hk, rfl, B, T, hBn, o, bk, bl⟩ := hrel
    have hT : T.length = 256 := by have := o.len; omega
    have htop := o.top
    have hgt := bk.lt
    have hWs := bl.size
    have HO0 := Lib.hid o
    have HK0 := Lib.hid bk
    have HB0 := Lib.hid bl
    have HL := Lib.hid (HRD.out.below bl)
    clear o bk bl
    by_cases hlt : k < l.length
    · by_cases h2 : k < 200
      · obtain ⟨bb, oo, rfl, hbb, c, hc, hrow⟩ := HL.out.at_ hlt
        obtain ⟨q0, q1, q2, q3, q4, q5⟩ := hrow.out
        have hraw := HRAW.out c (List.mem_of_getElem? hc)
        clear hrow hc
        obtain ⟨ak, aoff, asize, atag, aa, am⟩ := c
        dsimp only [Ac.Raw] at *
        obtain ⟨⟨a_k0, a_k1⟩, ⟨f0, f1⟩, ⟨z0, z1⟩, ⟨a0, a1⟩, ⟨m0, m1⟩⟩ := hraw
        rcases (show ak % 2 = 0 ∨ ak % 2 = 1 by omega) with hp | hp
        · cases hcp : cpO 4096 aoff with
          | false =>
            have hA0 : At wr.heap.size [.int .i64 ak, .int .i64 aoff, .int .i64 asize, .bool atag, .int .u64 aa, .int .u64 am] (wr.alloc (.cells #[.int .i64 ak, .int .i64 aoff, .int .i64 asize, .bool atag, .int .u64 aa, .int .u64 am] 34)) := At.new wr _ _
            have HPK := Lib.hid hp
            have HA0 := Lib.hid hA0
            have HOB := Lib.hid (HO0.out.fr ((Fr.refl wr (fun _ => False)).alloc (.cells #[.int .i64 ak, .int .i64 aoff, .int .i64 asize, .bool atag, .int .u64 aa, .int .u64 am] 34)) (fun _ _ _ h => h))
            have HKB := Lib.hid (HK0.out.alloc (.cells #[.int .i64 ak, .int .i64 aoff, .int .i64 asize, .bool atag, .int .u64 aa, .int .u64 am] 34))
            have HBB := Lib.hid (HB0.out.alloc hWs (.cells #[.int .i64 ak, .int .i64 aoff, .int .i64 asize, .bool atag, .int .u64 aa, .int .u64 am] 34))
            clear hA0 hp
            have HC1 := Lib.hid (show cT B.length T aoff atag = T by rw [hBn]; exact cT_no hcp atag)
            have HC2 := Lib.hid (show cpO B.length aoff = false by rw [hBn]; exact hcp)
            clear hcp
            go_wp2_with (first | (go_at_call 19; (with_reducible refine (pick_at ak 2 _ HPK.out a_k0 a_k1 (by decide) (by decide) _).mono ?_); rintro e' wp ⟨rfl, rfl⟩) | (go_at_call 20; (with_reducible refine (cstorecap_at HOB.out aoff atag aa am false _ _ rfl HC1.out HC2.out f0 f1 a0 a1 m0 m1).mono ?_); rintro e' w3 ⟨rfl, o3, f3⟩; have hs3 := f3.size; (try simp at hs3); have hA3 := HA0.out.frm f3 (by simp) (fun x => by unfold Rg at x; omega); obtain ⟨p0, p1, p2, p3, p4, p5⟩ := hA3.out6; have hK3 := HKB.out.fr f3 (fun x => by unfold Rg at x; omega); have HO3 := Lib.hid o3; have HK3 := Lib.hid hK3; have HB3 := Lib.hid (HBB.out.trans (f3.bl (by simp; omega) (fun i x => x.1))); clear o3 f3 hA3 hK3))
            go_roundw
            case rel => exact ⟨k + 1, by omega, by go_num, _, _, by rw [cB_len]; exact hBn, HO3.out, HK3.out, HB3.out⟩
            case measure => simp [intOf]; omega
          | true =>
            obtain ⟨o, q, rfl, ho, hq⟩ := cpO_two hcp
            have hTq : q < T.length := by omega
            have hoq : o / 16 = q := by omega
            have hA0 : At wr.heap.size [.int .i64 ak, .int .i64 (o : Int), .int .i64 asize, .bool atag, .int .u64 aa, .int .u64 am] (wr.alloc (.cells #[.int .i64 ak, .int .i64 (o : Int), .int .i64 asize, .bool atag, .int .u64 aa, .int .u64 am] 34)) := At.new wr _ _
            have HPK := Lib.hid hp
            have HA0 := Lib.hid hA0
            have HOB := Lib.hid (HO0.out.fr ((Fr.refl wr (fun _ => False)).alloc (.cells #[.int .i64 ak, .int .i64 (o : Int), .int .i64 asize, .bool atag, .int .u64 aa, .int .u64 am] 34)) (fun _ _ _ h => h))
            have HKB := Lib.hid (HK0.out.alloc (.cells #[.int .i64 ak, .int .i64 (o : Int), .int .i64 asize, .bool atag, .int .u64 aa, .int .u64 am] 34))
            have HBB := Lib.hid (HB0.out.alloc hWs (.cells #[.int .i64 ak, .int .i64 (o : Int), .int .i64 asize, .bool atag, .int .u64 aa, .int .u64 am] 34))
            clear hA0 hp
            have HC1 := Lib.hid (show cT B.length T (o : Int) atag = T.set q atag by rw [← ho, hBn]; exact cT_yes (by omega) atag)
            have HC2 := Lib.hid (show cpO B.length (o : Int) = true by rw [hBn]; exact hcp)
            clear hcp ho f0 f1
            go_wp2_with (first | (go_at_call 19; (with_reducible refine (pick_at ak 2 _ HPK.out a_k0 a_k1 (by decide) (by decide) _).mono ?_); rintro e' wp ⟨rfl, rfl⟩) | (go_at_call 20; (with_reducible refine (cstorecap_at HOB.out o atag aa am true _ _ rfl HC1.out HC2.out (by omega) (by omega) a0 a1 m0 m1).mono ?_); rintro e' w3 ⟨rfl, o3, f3⟩; have hs3 := f3.size; (try simp at hs3); have hA3 := HA0.out.frm f3 (by simp) (fun x => by unfold Rg at x; omega); obtain ⟨p0, p1, p2, p3, p4, p5⟩ := hA3.out6; have hK3 := HKB.out.fr f3 (fun x => by unfold Rg at x; omega); have c3 := blk_tag hK3 q hTq; have z3 := hK3.frozen q; have HO3 := Lib.hid o3; have HK3 := Lib.hid hK3; have HB3 := Lib.hid (HBB.out.trans (f3.bl (by simp; omega) (fun i x => x.1))); clear o3 f3 hA3 hK3))
            go_roundw
            case rel => exact ⟨k + 1, by omega, by go_num, _, _, by rw [cB_len]; exact hBn, HO3.out.far _ (Nat.le_refl _) _, blk_set HK3.out q atag, HB3.out.setCell hWh _⟩
            case measure => simp [intOf]; omega
        · cases hcp : ldO 4096 aoff asize with
          | false =>
            have hA0 : At wr.heap.size [.int .i64 ak, .int .i64 aoff, .int .i64 asize, .bool atag, .int .u64 aa, .int .u64 am] (wr.alloc (.cells #[.int .i64 ak, .int .i64 aoff, .int .i64 asize, .bool atag, .int .u64 aa, .int .u64 am] 34)) := At.new wr _ _
            have HPK := Lib.hid hp
            have HA0 := Lib.hid hA0
            have HOB := Lib.hid (HO0.out.fr ((Fr.refl wr (fun _ => False)).alloc (.cells #[.int .i64 ak, .int .i64 aoff, .int .i64 asize, .bool atag, .int .u64 aa, .int .u64 am] 34)) (fun _ _ _ h => h))
            have HKB := Lib.hid (HK0.out.alloc (.cells #[.int .i64 ak, .int .i64 aoff, .int .i64 asize, .bool atag, .int .u64 aa, .int .u64 am] 34))
            have HBB := Lib.hid (HB0.out.alloc hWs (.cells #[.int .i64 ak, .int .i64 aoff, .int .i64 asize, .bool atag, .int .u64 aa, .int .u64 am] 34))
            clear hA0 hp
            have HC1 := Lib.hid (show sT B.length T aoff asize = T by rw [hBn]; exact sT_no T hcp)
            have HC2 := Lib.hid (show ldO B.length aoff asize = false by rw [hBn]; exact hcp)
            clear hcp
            go_wp2_with (first | (go_at_call 19; (with_reducible refine (pick_at ak 2 _ HPK.out a_k0 a_k1 (by decide) (by decide) _).mono ?_); rintro e' wp ⟨rfl, rfl⟩) | (go_at_call 21; (with_reducible refine (cstore_at HOB.out aoff asize aa false _ _ rfl HC1.out HC2.out f0 f1 z0 z1 a0 a1).mono ?_); rintro e' w3 ⟨rfl, o3, f3⟩; have hs3 := f3.size; (try simp at hs3); have hA3 := HA0.out.frm f3 (by simp) (fun x => by unfold Rg at x; omega); obtain ⟨p0, p1, p2, p3, p4, p5⟩ := hA3.out6; have hK3 := HKB.out.fr f3 (fun x => by unfold Rg at x; omega); have HO3 := Lib.hid o3; have HK3 := Lib.hid hK3; have HB3 := Lib.hid (HBB.out.trans (f3.bl (by simp; omega) (fun i x => x.1))); clear o3 f3 hA3 hK3))
            go_roundw
            case rel => exact ⟨k + 1, by omega, by go_num, _, _, by rw [sB_len]; exact hBn, HO3.out, HK3.out, HB3.out⟩
            case measure => simp [intOf]; omega
          | true =>
            obtain ⟨o, s, rfl, rfl, hs, hos⟩ := ldO_nat hcp
            have hsz := szB_nat s hs
            have h1q : o / 16 < T.length := by omega
            have h2q : (o + s - 1) / 16 < T.length := by omega
            have hA0 : At wr.heap.size [.int .i64 ak, .int .i64 (o : Int), .int .i64 (s : Int), .bool atag, .int .u64 aa, .int .u64 am] (wr.alloc (.cells #[.int .i64 ak, .int .i64 (o : Int), .int .i64 (s : Int), .bool atag, .int .u64 aa, .int .u64 am] 34)) := At.new wr _ _
            have HPK := Lib.hid hp
            have HA0 := Lib.hid hA0
            have HOB := Lib.hid (HO0.out.fr ((Fr.refl wr (fun _ => False)).alloc (.cells #[.int .i64 ak, .int .i64 (o : Int), .int .i64 (s : Int), .bool atag, .int .u64 aa, .int .u64 am] 34)) (fun _ _ _ h => h))
            have HKB := Lib.hid (HK0.out.alloc (.cells #[.int .i64 ak, .int .i64 (o : Int), .int .i64 (s : Int), .bool atag, .int .u64 aa, .int .u64 am] 34))
            have HBB := Lib.hid (HB0.out.alloc hWs (.cells #[.int .i64 ak, .int .i64 (o : Int), .int .i64 (s : Int), .bool atag, .int .u64 aa, .int .u64 am] 34))
            clear hA0 hp
            have HC1 := Lib.hid (show sT B.length T o s = (T.set (o / 16) false).set ((o + s - 1) / 16) false by rw [hBn]; exact sT_two hs hos (by omega))
            have HC2 := Lib.hid (show ldO B.length o s = true by rw [hBn]; exact hcp)
            clear hcp hs f0 f1 z0 z1
            go_wp2_with (first | (go_at_call 19; (with_reducible refine (pick_at ak 2 _ HPK.out a_k0 a_k1 (by decide) (by decide) _).mono ?_); rintro e' wp ⟨rfl, rfl⟩) | (go_at_call 21; (with_reducible refine (cstore_at HOB.out o s aa true _ _ rfl HC1.out HC2.out (by omega) (by omega) (by omega) (by omega) a0 a1).mono ?_); rintro e' w3 ⟨rfl, o3, f3⟩; have hs3 := f3.size; (try simp at hs3); have hA3 := HA0.out.frm f3 (by simp) (fun x => by unfold Rg at x; omega); obtain ⟨p0, p1, p2, p3, p4, p5⟩ := hA3.out6; have hK3 := HKB.out.fr f3 (fun x => by unfold Rg at x; omega); have c3 := blk_tag hK3 (o / 16) h1q; have z3 := hK3.frozen (o / 16); have c4 := blk_tag hK3 ((o + s - 1) / 16) h2q; have z4 := hK3.frozen ((o + s - 1) / 16); have c5 := blk_tag (blk_set hK3 (o / 16) false) ((o + s - 1) / 16) (by rw [List.length_set]; exact h2q); have HO3 := Lib.hid o3; have HK3 := Lib.hid hK3; have HB3 := Lib.hid (HBB.out.trans (f3.bl (by simp; omega) (fun i x => x.1))); clear o3 f3 hA3 hK3))
            go_roundw
            case rel => exact ⟨k + 1, by omega, by go_num, _, _, by rw [sB_len]; exact hBn, (HO3.out.far _ (Nat.le_refl _) _).far _ (Nat.le_refl _) _, blk_set (blk_set HK3.out (o / 16) false) ((o + s - 1) / 16) false, (HB3.out.setCell hWh _).setCell hWh _⟩
            case measure => simp [intOf]; omega
      · obtain rfl : k = 200 := by omega
        obtain ⟨w5, rfl⟩ : ∃ w5, w5 = wr := ⟨_, rfl⟩
        clear HL
        go_wp2
        go_loopw [8, 9] (fun v i wr => ∃ j : Nat, j ≤ 256 ∧ i = .int .i64 (j : Int) ∧ OwnI wr w5.heap.size v (tgs 0 (T.take j)) ∧ Below w5.heap.size w5 wr) (fun _ i _ => 256 - (intOf i).toNat)
        case atStart => exact ⟨0, by omega, rfl, OwnI.nil _ _, Below.refl _ _⟩
        case round =>
          obtain ⟨j, hj, rfl, ow, bw⟩ := hrel
          have hwr := bw.size
          have HOJ := Lib.hid (HO0.out.below bw)
          have HBJ := Lib.hid bw
          have HWJ := Lib.hid ow
          have hKJ := HK0.out.fr ((Fr.refl w5 (fun _ => False)).below bw (fun _ hi _ => hi)) id
          have HKJ := Lib.hid hKJ
          clear ow bw hKJ
          by_cases hlt5 : j < 256
          · obtain ⟨b, hb⟩ : ∃ b, T.getD j false = b := ⟨_, rfl⟩
            have htk : T.take (j + 1) = T.take j ++ [b] := by
              rw [List.take_add_one, List.getElem?_eq_getElem (by omega : j < T.length), ← hb, List.getD_eq_getElem?_getD, List.getElem?_eq_getElem (by omega : j < T.length)]; rfl
            have hst := tgs_snoc 0 (T.take j) b
            rw [← htk, List.length_take, Nat.min_eq_left (by omega), Nat.zero_add] at hst
            have hll := tgs_len 0 (T.take j)
            rw [List.length_take, Nat.min_eq_left (by omega)] at hll
            have HST := Lib.hid hst
            have HT1 := Lib.hid (show cpT T B.length (16 * (j : Int)) = b by rw [show (16 * (j : Int)) = ((16 * j : Nat) : Int) by omega, hBn, cpT_at (by omega)]; exact hb)
            have HT2 := Lib.hid (show cpO B.length (16 * (j : Int)) = true by rw [show (16 * (j : Int)) = ((16 * j : Nat) : Int) by omega, hBn]; exact cpO_mk 4096 j (by omega))
            have HCB := Lib.hid (show ∀ w', Below wr.heap.size wr w' → w'.cell? ⟨hi, j, none⟩ = some (.bool b) from fun w' k => by
              rw [← hb]; exact blk_tag (HKJ.out.fr ((Fr.refl wr (fun _ => False)).below k (fun _ hi _ => hi)) id) j (by omega))
            clear hb htk hst
            cases b
            all_goals
              go_wp2_with (first | (go_at_call 22; (with_reducible refine Calls.mono (cloadcap_at HOJ.out (16 * (j : Int)) _ _ _ true HT1.out rfl rfl HT2.out (by omega) (by omega)) ?_); rintro e' w3 ⟨rfl, b3⟩; have hs3 := b3.size; have c3 := HCB.out w3 b3; have HB3 := Lib.hid (HBJ.out.trans (b3.mono hwr)); have HW3 := Lib.hid (OwnI.below HWJ.out b3); clear b3) | (at_builtin; refine app_i rfl (.tmp 109) (.tmp 112) rfl w5.heap.size _ _ rfl (HW3.out.alloc _) ⟨w3.heap.size, 0, none⟩ 1 (16 * (j : Int)) rfl (by simp [go_sem]) (by omega) (by simp; omega) (w3.heap.size + 1) (by simp) ?_; intro gg cap w4 hown hgr hat hlt4; have HO4 := Lib.hid hown; have HG4 := Lib.hid hgr; clear hown hgr hat))
            · go_roundw
              case rel => exact ⟨j + 1, by omega, by go_num, by rw [HST.out]; simpa using HW3.out, HB3.out⟩
              case measure => simp [intOf]; omega
            · go_roundw
              case rel => exact ⟨j + 1, by omega, by go_num, by rw [HST.out, if_pos (by trivial)]; exact HO4.out, (HB3.out.alloc (by omega) _).grown HG4.out (by simp; omega) (fun b hb => (HW3.out.lt b hb).1)⟩
              case measure => simp [intOf]; omega
          · obtain rfl : j = 256 := by omega
            have HTL := Lib.hid (show (tgs 0 T).length ≤ 1000000 by have := tgs_len 0 T; omega)
            have hW2 := HWJ.out.rd
            rw [List.take_of_length_le (by omega)] at hW2
            have HW2 := Lib.hid hW2
            clear hW2
            go_wp2_with (first | (go_at_call 15; (with_reducible refine (ctagged_at HOJ.out _ rfl (Tb.h1 (Lib.hid (Tb.h1 HTB HB0)) HBJ)).mono ?_); rintro e' w3 ⟨v3, rfl, rd, b3⟩; have hs3 := b3.size; have HV3 := Lib.hid rd; have HU3 := Lib.hid (HW2.out.below b3); have HB3 := Lib.hid (HBJ.out.trans (b3.mono hwr)); clear rd b3) | (go_at_call 14; (with_reducible refine (sameI_w _ _ _ _ _ HV3.out HU3.out HTL.out HTL.out true (decide_eq_true rfl)).mono ?_); rintro e' w4 ⟨rfl, k4⟩; have hs4 := k4.1.size; have HB4 := Lib.hid (HB3.out.trans (k4.1.mono (by omega))); clear k4) | (go_at_call 10; (with_reducible refine Calls.mono (known11_w _ (Tb.h1 (Lib.hid (Tb.h1 HTB HB0)) HB4)) ?_); rintro e' w5 ⟨rfl, b5⟩; have HZ := Lib.hid (HB0.out.trans ((HB4.out.trans (b5.mono (by omega))).mono hWs)); clear b5))
            go_ret
            exact ⟨rfl, HZ.out⟩
    · obtain ⟨w5, rfl⟩ : ∃ w5, w5 = wr := ⟨_, rfl⟩
      clear HL
      go_wp2
      go_loopw [8, 9] (fun v i wr => ∃ j : Nat, j ≤ 256 ∧ i = .int .i64 (j : Int) ∧ OwnI wr w5.heap.size v (tgs 0 (T.take j)) ∧ Below w5.heap.size w5 wr) (fun _ i _ => 256 - (intOf i).toNat)
      case atStart => exact ⟨0, by omega, rfl, OwnI.nil _ _, Below.refl _ _⟩
      case round =>
        obtain ⟨j, hj, rfl, ow, bw⟩ := hrel
        have hwr := bw.size
        have HOJ := Lib.hid (HO0.out.below bw)
        have HBJ := Lib.hid bw
        have HWJ := Lib.hid ow
        have hKJ := HK0.out.fr ((Fr.refl w5 (fun _ => False)).below bw (fun _ hi _ => hi)) id
        have HKJ := Lib.hid hKJ
        clear ow bw hKJ
        by_cases hlt5 : j < 256
        · obtain ⟨b, hb⟩ : ∃ b, T.getD j false = b := ⟨_, rfl⟩
          have htk : T.take (j + 1) = T.take j ++ [b] := by
            rw [List.take_add_one, List.getElem?_eq_getElem (by omega : j < T.length), ← hb, List.getD_eq_getElem?_getD, List.getElem?_eq_getElem (by omega : j < T.length)]; rfl
          have hst := tgs_snoc 0 (T.take j) b
          rw [← htk, List.length_take, Nat.min_eq_left (by omega), Nat.zero_add] at hst
          have hll := tgs_len 0 (T.take j)
          rw [List.length_take, Nat.min_eq_left (by omega)] at hll
          have HST := Lib.hid hst
          have HT1 := Lib.hid (show cpT T B.length (16 * (j : Int)) = b by rw [show (16 * (j : Int)) = ((16 * j : Nat) : Int) by omega, hBn, cpT_at (by omega)]; exact hb)
          have HT2 := Lib.hid (show cpO B.length (16 * (j : Int)) = true by rw [show (16 * (j : Int)) = ((16 * j : Nat) : Int) by omega, hBn]; exact cpO_mk 4096 j (by omega))
          have HCB := Lib.hid (show ∀ w', Below wr.heap.size wr w' → w'.cell? ⟨hi, j, none⟩ = some (.bool b) from fun w' k => by
            rw [← hb]; exact blk_tag (HKJ.out.fr ((Fr.refl wr (fun _ => False)).below k (fun _ hi _ => hi)) id) j (by omega))
          clear hb htk hst
          cases b
          all_goals
            go_wp2_with (first | (go_at_call 22; (with_reducible refine Calls.mono (cloadcap_at HOJ.out (16 * (j : Int)) _ _ _ true HT1.out rfl rfl HT2.out (by omega) (by omega)) ?_); rintro e' w3 ⟨rfl, b3⟩; have hs3 := b3.size; have c3 := HCB.out w3 b3; have HB3 := Lib.hid (HBJ.out.trans (b3.mono hwr)); have HW3 := Lib.hid (OwnI.below HWJ.out b3); clear b3) | (at_builtin; refine app_i rfl (.tmp 109) (.tmp 112) rfl w5.heap.size _ _ rfl (HW3.out.alloc _) ⟨w3.heap.size, 0, none⟩ 1 (16 * (j : Int)) rfl (by simp [go_sem]) (by omega) (by simp; omega) (w3.heap.size + 1) (by simp) ?_; intro gg cap w4 hown hgr hat hlt4; have HO4 := Lib.hid hown; have HG4 := Lib.hid hgr; clear hown hgr hat))
          · go_roundw
            case rel => exact ⟨j + 1, by omega, by go_num, by rw [HST.out]; simpa using HW3.out, HB3.out⟩
            case measure => simp [intOf]; omega
          · go_roundw
            case rel => exact ⟨j + 1, by omega, by go_num, by rw [HST.out, if_pos (by trivial)]; exact HO4.out, (HB3.out.alloc (by omega) _).grown HG4.out (by simp; omega) (fun b hb => (HW3.out.lt b hb).1)⟩
            case measure => simp [intOf]; omega
        · obtain rfl : j = 256 := by omega
          have HTL := Lib.hid (show (tgs 0 T).length ≤ 1000000 by have := tgs_len 0 T; omega)
          have hW2 := HWJ.out.rd
          rw [List.take_of_length_le (by omega)] at hW2
          have HW2 := Lib.hid hW2
          clear hW2
          go_wp2_with (first | (go_at_call 15; (with_reducible refine (ctagged_at HOJ.out _ rfl (Tb.h1 (Lib.hid (Tb.h1 HTB HB0)) HBJ)).mono ?_); rintro e' w3 ⟨v3, rfl, rd, b3⟩; have hs3 := b3.size; have HV3 := Lib.hid rd; have HU3 := Lib.hid (HW2.out.below b3); have HB3 := Lib.hid (HBJ.out.trans (b3.mono hwr)); clear rd b3) | (go_at_call 14; (with_reducible refine (sameI_w _ _ _ _ _ HV3.out HU3.out HTL.out HTL.out true (decide_eq_true rfl)).mono ?_); rintro e' w4 ⟨rfl, k4⟩; have hs4 := k4.1.size; have HB4 := Lib.hid (HB3.out.trans (k4.1.mono (by omega))); clear k4) | (go_at_call 10; (with_reducible refine Calls.mono (known11_w _ (Tb.h1 (Lib.hid (Tb.h1 HTB HB0)) HB4)) ?_); rintro e' w5 ⟨rfl, b5⟩; have HZ := Lib.hid (HB0.out.trans ((HB4.out.trans (b5.mono (by omega))).mono hWs)); clear b5))
          go_ret
          exact ⟨rfl, HZ.out⟩
end Go.Proofs.YteebmikjikjhmaaDoor
