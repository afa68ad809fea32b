/-
  The contract of order's opens: does some one of the list open that one? Capabilities' numbers are in their places; at most a hundred thousand of them.
-/
import Derived.Test.YtmehbildddlgaaaOOps
namespace Go.Proofs.Ytmehbildddlgaaa
open Go.ChangeShapes Go.WideShapes Go.ChangeAt Go.RowKit Go.Maps
set_option linter.unusedVariables false
set_option linter.unusedSimpArgs false

theorem Blk.set21 {w : World} {g : Nat} {t : TypeId} {a b : Value} (h : Blk w g t [a, b]) (u : Value) : Blk (w.setCell ⟨g, 1, none⟩ u) g t [a, u] := h.set_ 1 u
theorem Blk.out2 {w : World} {g : Nat} {t : TypeId} {a b : Value} (h : Blk w g t [a, b]) : w.cell? ⟨g, 0, none⟩ = some a ∧ w.cell? ⟨g, 1, none⟩ = some b := ⟨h.at_ 0 _ rfl, h.at_ 1 _ rfl⟩
def trOf (w : World) (s : Nat) : Nat := match w.cell? ⟨s, 1, none⟩ with
  | some v => (intOf v).toNat
  | none => 0
theorem trOf_blk {w : World} {s : Nat} {t : TypeId} {a : Value} {tr : Int} (h : Blk w s t [a, .int .i64 tr]) : trOf w s = tr.toNat := by
  unfold trOf; rw [h.out2.2]; rfl
theorem LkI.next {L : List Cp} {a tr : Nat} {c x : Cp} (h : LkI L (a, tr) c) (hx : (keysOf L)[tr]? = some x) (hn : rngIn x c.ty = false) : LkI L (a, tr + 1) c := by
  refine ⟨h.at_, h.sl, (List.getElem?_eq_some_iff.1 hx).1, ?_⟩
  show ∀ y ∈ (keysOf L).take (tr + 1), _
  rw [List.take_add_one, hx]
  intro y hy
  rcases List.mem_append.1 hy with hy | hy
  · exact h.nay y hy
  · have : y = x := by simpa using hy
    subst this; exact hn
theorem opens_true {L : List Cp} {tr : Nat} {c x : Cp} (hx : (keysOf L)[tr]? = some x) (hn : rngIn x c.ty = true) : opensB L c = true := by
  rw [opensB, keyB_keys, List.any_eq_true.2 ⟨x, List.mem_of_getElem? hx, hn⟩, Bool.or_true]
theorem opens_false {L : List Cp} {a tr : Nat} {c : Cp} (h : LkI L (a, tr) c) (ht : tr = (keysOf L).length) (e : (c.ty == 262142) = false) : opensB L c = false := by
  have h2 := h.nay
  rw [show ((a, tr) : Lk).2 = tr from rfl, ht, List.take_length] at h2
  rw [opensB, e, keyB_keys, Bool.false_or, List.any_eq_false]
  intro x hx; rw [h2 x hx]; decide
def OpP (L : List Cp) (p : Lk) (c : Cp) (s : Nat) (w w' : World) : Prop := ∃ tr : Nat, Blk w' s 58 [.int .i64 p.1, .int .i64 tr] ∧ Fr w w' (fun k => k = s) ∧ (opensB L c = false → LkI L (p.1, tr) c)
set_option maxHeartbeats 2000000 in
set_option maxRecDepth 100000 in
theorem opens_w (B q mb s : Nat) (lv kv : Value) (L : List Cp) (p : Lk) (c : Cp) (hi : LkI L p c) (hc : RC c) (hK : ∀ x ∈ L, RC x) (hl : L.length < 100000) (v : Bool) (hv : opensB L c = v) (w : World) (hg : Gr w B q mb lv kv L L (keysOf L)) (hs : Blk w s 58 [.int .i64 p.1, .int .i64 p.2]) :
    Calls Try.prog 37 #[.pointer (some ⟨q, 0, none⟩), .pointer (some ⟨s, 0, none⟩)] w fun e w' => e = .returned (.bool v) ∧ OpP L p c s w w' := by
  obtain ⟨A, cap, rfl, hcap, hrd, _⟩ := hg.list.rd
  obtain ⟨AK, capK, rfl, hrk⟩ := hg.keys.rd
  have hat := hi.at_
  have hlt : p.1 < L.length := (List.getElem?_eq_some_iff.1 hat).1
  obtain ⟨b, o, rfl, hb, c', hc', hr⟩ := hrd.at_ hlt
  obtain rfl : c' = c := by rw [hc'] at hat; exact Option.some.inj hat
  obtain ⟨r0, r1, r2, r3, r4, r5, r6, r7, r8⟩ := hr.out
  obtain ⟨c0, c1, c2⟩ := hg.cells
  obtain ⟨s0, s1⟩ := hs.out2
  have ne : q ≠ s := Blk.ne_ hg.blk hs (by decide)
  have y0 := hc.y0
  have y1 := hc.y1
  have HI := Lib.hid hi
  have HS := Lib.hid hs
  have HG := Lib.hid hg
  have HRK := Lib.hid hrk
  have HKR := Lib.hid hK
  clear hi hs hat hc' hr hrd hrk hc hK
  go_enter Try.func37, Try.ntmps37
  go_wp2
  go_quiet (fail)
  by_cases hse : c'.ty = 262142
  · have e : v = true := by rw [← hv, opensB, hse]; rfl
    subst e
    go_wp2
    go_ret
    exact ⟨rfl, p.2, HS.out, ⟨rfl, rfl, rfl, Nat.le_refl _, fun _ _ _ => rfl⟩, fun h => by rw [hv] at h; cases h⟩
  · have e262 : (c'.ty == 262142) = false := by simpa using hse
    have nm : s ≠ mb := MS.blk_ne HS.out HG.out.map
    have nl := own_blk HG.out.list HS.out (by decide)
    have nk := own_blk HG.out.keys HS.out (by decide)
    go_wp2
    go_loopw [] (fun wr => ∃ tr : Nat, Blk wr s 58 [.int .i64 p.1, .int .i64 tr] ∧ Fr w wr (fun k => k = s) ∧ LkI L (p.1, tr) c') (fun wr => (keysOf L).length - trOf wr s)
    case atStart => exact ⟨p.2, HS.out, (Fr.refl w _).drewN _, HI.out⟩
    case round =>
      obtain ⟨tr, hbk, hfr, hli⟩ := hrel
      have HB := Lib.hid hbk
      have HF := Lib.hid hfr
      have HL := Lib.hid hli
      have HGR := Lib.hid (HG.out.fr HF.out ne (fun e => nm e.symm) (fun g hg e => nl (e ▸ hg)) (fun g hg e => nk (e ▸ hg)))
      obtain ⟨AK', capK', e, hrk'⟩ := HGR.out.keys.rd
      cases e
      obtain ⟨d0, d1, d2⟩ := HGR.out.cells
      obtain ⟨t0, t1⟩ := hbk.out2
      have hle := hli.le
      have hq := HGR.out.q_lt
      have hsl := hbk.lt
      have frz := hbk.frozen 1
      have hkl := keysOf_len L
      clear hbk hfr hli c0 c1 c2 s0 s1 r0 r1 r2 r3 r4 r5 r6 r7 r8
      by_cases htr : tr < (keysOf L).length
      · obtain ⟨x, hx⟩ : ∃ x, (keysOf L)[tr]? = some x := ⟨_, List.getElem?_eq_getElem htr⟩
        obtain ⟨bk, rfl, hbk, _, k0, k1, k2⟩ := hrk' tr x hx
        have hxr : RC x := HKR.out x (List.mem_filter.1 (List.mem_of_getElem? hx)).1
        obtain ⟨T0, T1⟩ := ofs_bd x.e x.b x.t x.g x.a
        obtain ⟨nb, hnb⟩ : ∃ nb, rngIn x c'.ty = nb := ⟨_, rfl⟩
        have HN := Lib.hid (fun w1 => names_w _ _ (ofO x.e x.b x.t x.g x.a) _ T0 T1 y0 y1 nb hnb w1)
        have HX := Lib.hid hx
        have HNB := Lib.hid hnb
        clear hx hnb hxr hrk'
        go_wp2
        go_quiet (fail)
        go_wp2
        generalize hwy : wr.drewN _ = wy
        have HBy : Hid (Blk wy s 58 [.int .i64 p.1, .int .i64 tr]) := Lib.hid (by rw [← hwy]; exact HB.out)
        have HFy : Hid (Fr w wy (fun k => k = s)) := Lib.hid (by rw [← hwy]; exact HF.out.drewN _)
        have hsz : wy.heap.size = wr.heap.size := by rw [← hwy]; rfl
        have ey : ∀ p, wy.cell? p = wr.cell? p := by rw [← hwy]; exact fun _ => rfl
        have d0y := (ey _).trans d0
        have d1y := (ey _).trans d1
        have d2y := (ey _).trans d2
        have t0y := (ey _).trans t0
        have t1y := (ey _).trans t1
        have k0y := (ey _).trans k0
        have k1y := (ey _).trans k1
        have k2y := (ey _).trans k2
        have frzy := HBy.out.frozen 1
        rw [← hsz] at hbk hsl hq
        clear hwy ey d0 d1 d2 t0 t1 k0 k1 k2 frz hsz
        go_cut [6] (fun s6 wx => ∃ H : Nat, s6 = .pointer (some ⟨H, 0, none⟩) ∧ At H (rngV x) wx ∧ H < wx.heap.size ∧ H ≠ s ∧ Blk wx s 58 [.int .i64 p.1, .int .i64 tr] ∧ Fr w wx (fun k => k = s))
        case first =>
          go_region
          all_goals
            go_wp2
            go_meet
            refine ⟨_, rfl, At.new wy (rngV x) _, by simp, by omega, HBy.out.alloc _, (HFy.out.alloc _).drew⟩
        case rest =>
          obtain ⟨H, rfl, hat, hH, hHs, hbx, hfx⟩ := hcut
          obtain ⟨z0, z1, z2⟩ := hat.out3
          obtain ⟨t0, t1⟩ := hbx.out2
          have frz := hbx.frozen 1
          have HBX := Lib.hid hbx.set21
          have HFX := Lib.hid hfx
          have hsx := hbx.lt
          clear hat hbx hfx
          cases nb
          · go_wp2_with (first | (go_at_call 67; (with_reducible refine (HN.out _).mono ?_); rintro e' w1 ⟨rfl, qk⟩; have HF1 := Lib.hid ((HFX.out.setCell (.inr rfl) _).kp qk); have HB1 := Lib.hid ((HBX.out _).fr (Fr.of_kp qk (fun _ => False)) id); clear qk))
            go_roundw
            case rel => exact ⟨tr + 1, HB1.out, HF1.out, HL.out.next HX.out HNB.out⟩
            case measure => rw [trOf_blk HB1.out, trOf_blk HB.out]; omega
          · go_wp2_with (first | (go_at_call 67; (with_reducible refine (HN.out _).mono ?_); rintro e' w1 ⟨rfl, qk⟩; have HF1 := Lib.hid ((HFX.out.setCell (.inr rfl) _).kp qk); have HB1 := Lib.hid ((HBX.out _).fr (Fr.of_kp qk (fun _ => False)) id); clear qk))
            go_ret
            have eo := opens_true HX.out HNB.out
            exact ⟨ret_bool (by rw [← hv, eo]), tr + 1, HB1.out, HF1.out, fun h => by rw [eo] at h; cases h⟩
      · have eo := opens_false HL.out (by omega) e262
        go_wp2
        go_quiet (fail)
        go_wp2
        go_ret
        exact ⟨ret_bool (by rw [← hv, eo]), tr, HB.out, HF.out.drewN _, fun _ => HL.out⟩
end Go.Proofs.Ytmehbildddlgaaa
