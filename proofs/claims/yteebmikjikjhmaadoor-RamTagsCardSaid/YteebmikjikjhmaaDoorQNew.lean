/-
  The document's memory: what has tags, new memory. No condition.
-/
import Derived.Test.YteebmikjikjhmaaDoorQMem
import Derived.LoopTactic
import Derived.Deep.RegionLaw
import Derived.Deep.OwnRows
import Derived.RegionTactic
namespace Go.Proofs.YteebmikjikjhmaaDoor
open Go.ChangeShapes Go.WideShapes Go.ChangeAt Go.RowKit
set_option linter.unusedVariables false
set_option linter.unusedSimpArgs false
set_option maxHeartbeats 4000000 in
theorem rtagged_w {w : World} {g gb gt : Nat} {B : List Int} {T : List Bool} (m : RM w g gb gt B T) :
    Calls Tryd.prog 16 #[.pointer (some ⟨g, 0, none⟩)] w fun e w' => ∃ v, e = .returned v ∧ RdI w' v (tgs 0 T) ∧ Below w.heap.size w w' := by
  have hlim := m.lim
  have hlen := m.len
  have hg := m.blk.lt
  have hgt := m.tags.lt
  have HM := Lib.hid m
  clear m
  go_enter Tryd.func16, Tryd.ntmps16
  go_wp2
  go_loopw [3, 4] (fun v i wr => ∃ k : Nat, k ≤ T.length ∧ i = .int .i64 (k : Int) ∧ OwnI wr w.heap.size v (tgs 0 (T.take k)) ∧ Below w.heap.size w wr) (fun _ i _ => T.length - (intOf i).toNat)
  case atStart => exact ⟨0, Nat.zero_le _, rfl, OwnI.nil _ _, Below.refl _ _⟩
  case round =>
    obtain ⟨k, hk, rfl, ho, hkp⟩ := hrel
    have hm := HM.out.below hkp
    have c1 := hm.c1
    have hct := hm.tag k
    have hsz := hkp.size
    have HO := Lib.hid ho
    have HK := Lib.hid hkp
    clear hm ho hkp
    by_cases hlt : k < T.length
    · have ct := hct hlt
      clear hct
      obtain ⟨b, hb⟩ : ∃ b, T.getD k false = b := ⟨_, rfl⟩
      have htk : T.take (k + 1) = T.take k ++ [b] := by
        rw [List.take_add_one, List.getElem?_eq_getElem hlt, ← hb, List.getD_eq_getElem?_getD, List.getElem?_eq_getElem hlt]; rfl
      have hst := tgs_snoc 0 (T.take k) b
      rw [← htk, List.length_take, Nat.min_eq_left hk, Nat.zero_add] at hst
      have hll := tgs_len 0 (T.take k)
      rw [List.length_take, Nat.min_eq_left hk] at hll
      have HST := Lib.hid hst
      rw [hb] at ct
      clear hb htk hst
      cases b
      · go_wp2
        go_roundw
        case rel => exact ⟨k + 1, by omega, by go_num, by rw [HST.out]; simpa using HO.out, HK.out⟩
        case measure => simp [intOf]; omega
      · go_wp2_with (at_builtin; refine app_i rfl (.tmp 21) (.tmp 24) rfl w.heap.size _ _ rfl (HO.out.alloc _) ⟨wr.heap.size, 0, none⟩ 1 (16 * (k : Int)) rfl (by simp [go_sem]) (by omega) (by simp; omega) (wr.heap.size + 1) (by simp) ?_; intro gg cap w2 hown hgr hat hlt2; have HO2 := Lib.hid hown; have HG2 := Lib.hid hgr; clear hown hgr hat)
        go_roundw
        case rel => exact ⟨k + 1, by omega, by go_num, by rw [HST.out, if_pos rfl]; exact HO2.out, (HK.out.alloc hsz _).grown HG2.out (by simp; omega) (fun b hb => (HO.out.lt b hb).1)⟩
        case measure => simp [intOf]; omega
    · clear hct
      obtain rfl : k = T.length := by omega
      rw [List.take_length] at HO
      go_wp2
      go_ret
      exact ⟨_, rfl, HO.out.rd, HK.out⟩
/-- Is there memory of so many bytes? -/
def nwO (n : Int) : Bool := decide (4096 ≤ n) && decide (n ≤ 65536) && (n % 4096 == 0)
theorem u8_info : (Tryd.prog.info? 5).map (fun i => (i.zero, i.size, i.bytes)) = some (some (.int .u8 0), 1, 1) := by kernel_rfl
theorem bool_info : (Tryd.prog.info? 4).map (fun i => (i.zero, i.size, i.bytes)) = some (some (.bool false), 1, 1) := by kernel_rfl
theorem made_list (z : Value) (n : Nat) : (madeCells #[z] n) = (List.replicate n z).toArray := by
  rw [← toList_madeCells_one z n]
theorem three (w : World) (t1 t2 t3 : TypeId) (c1 c2 c3 : List Value) : Blk (((w.alloc (.cells c1.toArray t1)).alloc (.cells c2.toArray t2)).alloc (.cells c3.toArray t3)).drew w.heap.size t1 c1 ∧ Blk (((w.alloc (.cells c1.toArray t1)).alloc (.cells c2.toArray t2)).alloc (.cells c3.toArray t3)).drew (w.heap.size + 1) t2 c2 ∧ Blk (((w.alloc (.cells c1.toArray t1)).alloc (.cells c2.toArray t2)).alloc (.cells c3.toArray t3)).drew (w.heap.size + 1 + 1) t3 c3 := by
  have a := Blk.new w t1 c1
  have b := Blk.new (w.alloc (.cells c1.toArray t1)) t2 c2
  have c := Blk.new ((w.alloc (.cells c1.toArray t1)).alloc (.cells c2.toArray t2)) t3 c3
  simp only [World.size_alloc] at b c
  exact ⟨((a.alloc _).alloc _).drew, (b.alloc _).drew, c.drew⟩
/-- New memory stands where three blocks were made, in either order. -/
theorem RM.made {w : World} {g gb gt : Nat} (n : Nat) (h : n ≤ 65536) (h16 : n % 16 = 0) (hb : Blk w g 59 [.slice (some ⟨gb, 0, none⟩) n n, .slice (some ⟨gt, 0, none⟩) (n / 16) (n / 16)])
    (h1 : Blk w gb 5 (List.replicate n (.int .u8 0))) (h2 : Blk w gt 4 (List.replicate (n / 16) (.bool false))) : RM w g gb gt (List.replicate n 0) (List.replicate (n / 16) false) :=
  ⟨by simpa using hb, by simpa using h1, by simpa using h2, ByB.zero n, by simp; omega, by simpa using h⟩
set_option maxHeartbeats 4000000 in
theorem rnew_yes (n : Nat) (h : nwO n = true) (w : World) :
    Calls Tryd.prog 9 #[.int .i64 (n : Int)] w fun e w' => ∃ g gb gt, e = .returned (.tuple #[.pointer (some ⟨g, 0, none⟩), .int .i64 0]) ∧ RM w' g gb gt (List.replicate n 0) (List.replicate (n / 16) false) ∧ Below w.heap.size w w' ∧ w.heap.size ≤ g ∧ w.heap.size ≤ gb ∧ w.heap.size ≤ gt := by
  simp only [nwO, Bool.and_eq_true, decide_eq_true_eq, beq_iff_eq] at h
  obtain ⟨⟨h0, h1⟩, h2⟩ := h
  have t0 : decide ((n : Int) < 4096) = false := by simp; omega
  have t1 : decide (65536 < (n : Int)) = false := by simp; omega
  have t2 : ((n : Int) % 4096 != 0) = false := by simp; omega
  have t3 : ((n : Int).tmod 4096 != 0) = false := by rw [Int.tmod_eq_emod_of_nonneg (by omega)]; exact t2
  obtain ⟨m, hm⟩ : ∃ m : Nat, n / 16 = m := ⟨_, rfl⟩
  have e1 : (n : Int) / 16 = (m : Int) := by omega
  have e2 : (n : Int).tdiv 16 = (m : Int) := by rw [Int.tdiv_eq_ediv_of_nonneg (by omega)]; exact e1
  have e3 : IntKind.i64.wrap (m : Int) = (m : Int) := IntWalk.i64_in _ (by omega)
  have k1 := run_make_row' (P := Tryd.prog) 50 5 (.int .u8 0) 1 Tryd.underlying50 u8_info rfl .i64 .i64 n (by omega) (by omega)
  have k2 := run_make_row' (P := Tryd.prog) 42 4 (.bool false) 1 Tryd.underlying42 bool_info rfl .i64 .i64 m (by omega) (by omega)
  have HM := Lib.hid hm
  have HN := Lib.hid (show n ≤ 65536 by omega)
  have HN2 := Lib.hid (show n % 16 = 0 by omega)
  clear hm h0 h1 h2
  go_enter Tryd.func9, Tryd.ntmps9
  go_wp2
  go_region
  · go_wp2
    rw [made_list, made_list]
    obtain ⟨b1, b2, b3⟩ := three w 5 4 59 (List.replicate n (.int .u8 0)) (List.replicate m (.bool false)) [.slice (some ⟨w.heap.size, 0, none⟩) n n, .slice (some ⟨w.heap.size + 1, 0, none⟩) m m]
    have hm := HM.out
    subst hm
    refine bodyPost_ret (v := .tuple #[.pointer (some ⟨w.heap.size + 1 + 1, 0, none⟩), .int .i64 0]) ?_ rfl ⟨_, _, _, rfl, RM.made n HN.out HN2.out b3 b1 b2, ((((Below.refl _ w).alloc (Nat.le_refl _) _).alloc (by simp) _).alloc (by simp; omega) _).drew, by omega, by omega, by omega⟩
    simp [results, Tryd.results9, go_sem]
  · go_wp2
    rw [made_list, made_list]
    obtain ⟨b1, b2, b3⟩ := three w 4 5 59 (List.replicate m (.bool false)) (List.replicate n (.int .u8 0)) [.slice (some ⟨w.heap.size + 1, 0, none⟩) n n, .slice (some ⟨w.heap.size, 0, none⟩) m m]
    have hm := HM.out
    subst hm
    refine bodyPost_ret (v := .tuple #[.pointer (some ⟨w.heap.size + 1 + 1, 0, none⟩), .int .i64 0]) ?_ rfl ⟨_, _, _, rfl, RM.made n HN.out HN2.out b3 b2 b1, ((((Below.refl _ w).alloc (Nat.le_refl _) _).alloc (by simp) _).alloc (by simp; omega) _).drew, by omega, by omega, by omega⟩
    simp [results, Tryd.results9, go_sem]
theorem rnew_no (n : Int) (h : nwO n = false) (w : World) :
    Calls Tryd.prog 9 #[.int .i64 n] w fun e w' => e = .returned (.tuple #[.pointer none, .int .i64 3]) ∧ w = w' := by
  by_cases h0 : n < 4096
  · have t0 : decide (n < 4096) = true := by simpa using h0
    clear h
    go_enter Tryd.func9, Tryd.ntmps9
    go_wp2
    go_ret2
    exact ⟨rfl, rfl⟩
  · have t0 : decide (n < 4096) = false := by simpa using h0
    by_cases h1 : 65536 < n
    · have t1 : decide (65536 < n) = true := by simpa using h1
      clear h
      go_enter Tryd.func9, Tryd.ntmps9
      go_wp2
      go_ret2
      exact ⟨rfl, rfl⟩
    · have t1 : decide (65536 < n) = false := by simpa using h1
      have t2 : (n % 4096 != 0) = true := by
        have a : decide (4096 ≤ n) = true := by simp; omega
        have b : decide (n ≤ 65536) = true := by simp; omega
        rw [nwO, a, b] at h; simpa using h
      have t3 : (n.tmod 4096 != 0) = true := by rw [Int.tmod_eq_emod_of_nonneg (by omega)]; exact t2
      clear h
      go_enter Tryd.func9, Tryd.ntmps9
      go_wp2
      go_ret2
      exact ⟨rfl, rfl⟩
end Go.Proofs.YteebmikjikjhmaaDoor
