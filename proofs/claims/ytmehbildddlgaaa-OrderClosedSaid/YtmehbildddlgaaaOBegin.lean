/-
  The contract of order's begin: the base, as a growth. Capabilities' numbers are in their places; at most a thousand of them.
-/
import Derived.Test.YtmehbildddlgaaaOGrow
import Derived.Test.YtmehbildddlgaaaOPost
namespace Go.Proofs.Ytmehbildddlgaaa
open Go.ChangeShapes Go.WideShapes Go.ChangeAt Go.RowKit Go.Maps
set_option linter.unusedVariables false
set_option linter.unusedSimpArgs false

theorem mk_hint (k : Int) (w : World) : (Instr.makeMap 50 (some (.int .i64 k))).run Try.prog w = .ok (.map (some w.heap.size)) (w.alloc (.map #[] 0)) := by
  simp [Instr.makeMap, run_underlying Try.underlying50, asInt, asIntOf, Result.andThen]
set_option maxHeartbeats 2000000 in
set_option maxRecDepth 100000 in
theorem begin_w (L : List Cp) (A : Option Addr) (n : Nat) (hL : ∀ c ∈ L, RC c) (hl : L.length ≤ 1000) (w : World) (h : Rd w w.heap.size A L) :
    Calls Try.prog 35 #[.slice A L.length n] w fun e w' => ∃ lv mb kv, e = .returned (.agg #[lv, .map (some mb), kv]) ∧ OwnC w' w.heap.size lv (baseL L) ∧ MS w' mb (baseL L) ∧ OwnK w' w.heap.size kv (keysOf (baseL L)) ∧ w.heap.size ≤ mb ∧ Below w.heap.size w w' := by
  have HR := Lib.hid h
  have HL := Lib.hid hL
  have hmk := mk_hint L.length
  clear h hL
  go_enter Try.func35, Try.ntmps35
  go_wp2
  go_loopw [12] (fun i wr => ∃ (k : Nat) (lv kv : Value), k ≤ L.length ∧ i = .int .i64 k ∧ Gr wr w.heap.size (w.heap.size + 1 + 1) (w.heap.size + 1) lv kv (baseL (L.take k)) (baseL (L.take k)) (keysOf (baseL (L.take k))) ∧ Below w.heap.size w wr ∧ Blk wr w.heap.size 53 [.slice none 0 0, .map none, .slice none 0 0]) (fun i _ => L.length - (intOf i).toNat)
  case atStart =>
    have e1 : (w.alloc (.cells #[.slice none 0 0, .map none, .slice none 0 0] 53)).heap.size = w.heap.size + 1 := by simp
    have e2 : ((w.alloc (.cells #[.slice none 0 0, .map none, .slice none 0 0] 53)).alloc (.map #[] 0)).heap.size = w.heap.size + 1 + 1 := by simp
    have b0 : baseL (L.take 0) = [] := by simp [baseL]
    refine ⟨0, .slice none 0 0, .slice none 0 0, Nat.zero_le _, rfl, ?_, ?_, ?_⟩
    · rw [b0]
      refine ⟨?_, OwnC.nil _ _, ?_, OwnK.nil _ _⟩
      · rw [← e2]; exact Blk.new _ _ [_, _, _]
      · rw [← e1]; exact (MS.made _).alloc _
    · exact (((Below.refl _ _).alloc (Nat.le_refl _) _).alloc (by simp) _).alloc (by simp; omega) _
    · exact ((Blk.new w _ [_, _, _]).alloc _).alloc _
  case round =>
    obtain ⟨k, lv, kv, hk, rfl, hgr, hbl, hbk⟩ := hrel
    have hws : w.heap.size ≤ wr.heap.size := by have := hbl.size; omega
    have HG := Lib.hid hgr
    have HBL := Lib.hid hbl
    have HBK := Lib.hid hbk
    have ap := hgr.apart
    have nl := own_blk hgr.list hbk (by decide)
    have nk := own_blk hgr.keys hbk (by decide)
    clear hgr hbl hbk
    by_cases hlt : k < L.length
    · obtain ⟨b, o, rfl, hb, c, hc, hr⟩ := (HR.out.keep (w' := wr) (fun p hp => HBL.out.cell hp)).at_ hlt
      obtain ⟨r0, r1, r2, r3, r4, r5, r6, r7, r8⟩ := hr.out
      have hcr := HL.out c (List.mem_of_getElem? hc)
      have HST := Lib.hid (base_step L k c hc)
      have hbl := base_len (L.take k)
      have hln : (L.take k).length ≤ k := by rw [List.length_take]; omega
      have hb' : b < wr.heap.size := by omega
      have HCR := Lib.hid hcr
      clear hr hc hcr
      obtain ⟨bs, hbs⟩ : ∃ bs, baseL (L.take k) = bs := ⟨_, rfl⟩
      rw [hbs] at HG HST hbl
      clear hbs
      cases htg : c.tg
      · have HT := Lib.hid htg
        go_wp2
        go_roundw
        case rel => exact ⟨k + 1, _, _, by omega, by go_num, by rw [HST.out, HT.out]; exact HG.out.alloc _, HBL.out.alloc hws _, HBK.out.alloc _⟩
        case measure => simp [intOf]; omega
      · have HT := Lib.hid htg
        have HLAY : Hid (∀ w1, Gr w1 w.heap.size (w.heap.size + 1 + 1) (w.heap.size + 1) lv kv bs bs (keysOf bs) → w.heap.size ≤ w1.heap.size → Calls Try.prog 38 #[.pointer (some ⟨w.heap.size + 1 + 1, 0, none⟩), .agg #[.bool true, .int .i64 c.pe, .int .i64 c.ty, .int .i64 c.mo, .int .i64 c.e, .int .i64 c.b, .int .i64 c.t, .bool c.g, .int .u64 c.a]] w1 fun e w' => e = .returned (.tuple #[]) ∧ LayP w.heap.size (w.heap.size + 1 + 1) (w.heap.size + 1) lv kv (addC bs c) w1 w') := Lib.hid (fun w1 g1 h1 => by have := glay_w w.heap.size (w.heap.size + 1 + 1) (w.heap.size + 1) lv kv bs c HCR.out (by omega) w1 h1 g1; rw [HT.out] at this; exact this)
        have HGL : Hid (∀ k, GS (w.heap.size + 1 + 1) (w.heap.size + 1) lv kv k → w.heap.size ≤ k ∧ k ≠ w.heap.size) := Lib.hid (by
          rintro k (rfl | rfl | h | h)
          · omega
          · omega
          · exact ⟨(HG.out.list.lt k h).1, fun e => nl (e ▸ h)⟩
          · exact ⟨(HG.out.keys.lt k h).1, fun e => nk (e ▸ h)⟩)
        go_wp2_with (first | (go_at_call 38; (with_reducible refine (HLAY.out _ (HG.out.alloc _) (by simp; omega)).mono ?_); rintro e' w1 ⟨rfl, lv', kv', g2, f2⟩; have G2 := Lib.hid g2; have B2 := Lib.hid ((HBL.out.alloc hws _).trans (f2.bl (by simp; omega) (fun i hi => (HGL.out i hi).1))); have K2 := Lib.hid ((HBK.out.alloc _).fr f2 (fun h => (HGL.out _ h).2 rfl)); clear g2 f2))
        go_roundw
        case rel => exact ⟨k + 1, _, _, by omega, by go_num, by rw [HST.out, HT.out, if_pos rfl]; exact G2.out, B2.out, K2.out⟩
        case measure => simp [intOf]; omega
    · have e0 : L.take k = L := List.take_of_length_le (by omega)
      rw [e0] at HG
      obtain ⟨Al, capl, e1, _, _, _⟩ := HG.out.list.rd
      obtain ⟨Ak, capk, e2, _⟩ := HG.out.keys.rd
      subst e1 e2
      obtain ⟨c0, c1, c2⟩ := HG.out.cells
      obtain ⟨r0, r1, r2⟩ := (HBK.out.at_).out3
      have z0 := HBK.out.frozen 0
      have z1 := HBK.out.frozen 1
      have z2 := HBK.out.frozen 2
      have hS := HBK.out.lt
      go_wp2
      refine bodyPost_ret (v := .agg #[.slice Al (baseL L).length capl, .map (some (w.heap.size + 1)), .slice Ak (keysOf (baseL L)).length capk]) ?_ rfl ⟨_, _, _, rfl, ?_, ?_, ?_, ?_, ?_⟩
      · simp [results, Try.results35, go_sem, *]
      · exact own_fr HG.out.list ((((Fr.refl wr (fun k => k = w.heap.size)).setCell (.inr rfl) _).setCell (.inr rfl) _).setCell (.inr rfl) _) (fun g hg e => nl (e ▸ hg))
      · exact HG.out.map.fr ((((Fr.refl wr (fun k => k = w.heap.size)).setCell (.inr rfl) _).setCell (.inr rfl) _).setCell (.inr rfl) _) (by omega)
      · exact own_fr HG.out.keys ((((Fr.refl wr (fun k => k = w.heap.size)).setCell (.inr rfl) _).setCell (.inr rfl) _).setCell (.inr rfl) _) (fun g hg e => nk (e ▸ hg))
      · omega
      · exact ((HBL.out.setCell (Nat.le_refl _) _).setCell (Nat.le_refl _) _).setCell (Nat.le_refl _) _
end Go.Proofs.Ytmehbildddlgaaa
