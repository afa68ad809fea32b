/-
  SerialOrder of layer 14: its walk. No condition but what the calls lean on.
-/
import Derived.Test.YtnimpgamiagedaaUWorks
import Derived.Test.YtnimpgamiagedaaUList
import Derived.Test.YtnimpgamiagedaaQInts
namespace Go.Proofs.Ytnimpgamiagedaa
open Go.ChangeShapes Go.WideShapes Go.ChangeAt Go.RowKit
set_option linter.unusedVariables false
set_option linter.unusedSimpArgs false
theorem Below.undrew {n : Nat} {w w' : World} (k : Below n w.drew w') : Below n w w' := ⟨k.os, k.tape, k.output, k.size, k.block⟩
/-- The UART, and the rows of what was kept, and of what was got. -/
structure OrdU (W w : World) (hi g : Nat) (S : US) (K T : List Int) (vk vt : Value) : Prop where
  u : OneU W w hi g S
  k : OwnB w hi vk K
  t : OwnB w hi vt T
  d : ∀ i, vk.ownBlock = some i → vt.ownBlock = some i → False
section
variable {W w w' : World} {hi g : Nat} {S S' : US} {K T : List Int} {vk vt : Value}
theorem OrdU.code (h : OrdU W w hi g S K T vk vt) (m : Un w' W.heap.size hi g S') (f : Fr w w' (Rg W.heap.size hi)) : OrdU W w' hi g S' K T vk vt :=
  ⟨h.u.code m f, h.k.fr f (fun i e x => by have := (h.k.blk e).1; unfold Rg at x; omega), h.t.fr f (fun i e x => by have := (h.t.blk e).1; unfold Rg at x; omega), h.d⟩
theorem OrdU.bel (h : OrdU W w hi g S K T vk vt) (k : Below w.heap.size w w') : OrdU W w' hi g S K T vk vt := ⟨h.u.bel k, h.k.below k, h.t.below k, h.d⟩
theorem OrdU.kp (h : OrdU W w hi g S K T vk vt) (k : Kp w w') : OrdU W w' hi g S K T vk vt := h.bel k.1
theorem OrdU.at_ (h : OrdU W w hi g S K T vk vt) (f : Fr w w' (fun i => hi ≤ i)) : OneU W w' hi g S := ⟨h.u.o.fr f (fun i a b x => by omega), h.u.b.trans (f.bl h.u.b.size (fun i x => by have := h.u.o.bot; have := h.u.o.gh; omega))⟩
theorem OrdU.growK (h : OrdU W w hi g S K T vk vt) (x : Obj) {gg n cap : Nat} {K' : List Int} (hown : OwnB w' hi (.slice (some ⟨gg, 0, none⟩) n cap) K') (hgr : (w.alloc x).grownBy w' vk.ownBlock) (hat : vk.ownBlock = some gg ∨ gg = w.heap.size + 1) : OrdU W w' hi g S K' T (.slice (some ⟨gg, 0, none⟩) n cap) vt := by
  have f : Fr w w' (fun i => vk.ownBlock = some i) := ((Fr.refl w (fun i => vk.ownBlock = some i)).alloc x).grown hgr (fun g h => .inr h)
  refine ⟨h.at_ (f.mono (fun i _ e => (h.k.blk e).1)), hown, h.t.fr f (fun i e x => h.d i x e), fun i e1 e2 => ?_⟩
  have e : gg = i := by simpa [Value.ownBlock] using e1
  subst e
  rcases hat with a | a
  · exact h.d _ a e2
  · have := (h.t.blk e2).2; omega
theorem OrdU.growT (h : OrdU W w hi g S K T vk vt) (x : Obj) {gg n cap : Nat} {T' : List Int} (hown : OwnB w' hi (.slice (some ⟨gg, 0, none⟩) n cap) T') (hgr : (w.alloc x).grownBy w' vt.ownBlock) (hat : vt.ownBlock = some gg ∨ gg = w.heap.size + 1) : OrdU W w' hi g S K T' vk (.slice (some ⟨gg, 0, none⟩) n cap) := by
  have f : Fr w w' (fun i => vt.ownBlock = some i) := ((Fr.refl w (fun i => vt.ownBlock = some i)).alloc x).grown hgr (fun g h => .inr h)
  refine ⟨h.at_ (f.mono (fun i _ e => (h.t.blk e).1)), h.k.fr f (fun i e x => h.d i e x), hown, fun i e1 e2 => ?_⟩
  have e : gg = i := by simpa [Value.ownBlock] using e2
  subst e
  rcases hat with a | a
  · exact h.d _ e1 a
  · have := (h.k.blk e1).2; omega
theorem OrdU.bK (h : OrdU W w hi g S K T vk vt) (x : Obj) (hgr : (w.alloc x).grownBy w' vk.ownBlock) : Below W.heap.size w w' :=
  (((Fr.refl w (fun i => vk.ownBlock = some i)).alloc x).grown hgr (fun g h => .inr h)).bl h.u.b.size (fun i e => by have := (h.k.blk e).1; have := h.u.o.bot; have := h.u.o.gh; omega)
theorem OrdU.bG (h : OrdU W w hi g S K T vk vt) (x : Obj) (hgr : (w.alloc x).grownBy w' vt.ownBlock) : Below W.heap.size w w' :=
  (((Fr.refl w (fun i => vt.ownBlock = some i)).alloc x).grown hgr (fun g h => .inr h)).bl h.u.b.size (fun i e => by have := (h.t.blk e).1; have := h.u.o.bot; have := h.u.o.gh; omega)
end
set_option maxRecDepth 100000 in
set_option maxHeartbeats 16000000 in
theorem order14_w (l1 : List Ub) (A1 : Option Addr) (cap1 : Nat) (l2 : List Ui) (A2 : Option Addr) (cap2 : Nat) (W : World) (hrd1 : RdUb W W.heap.size A1 l1) (hraw1 : ∀ c ∈ l1, c.Raw) (hlen1 : l1.length ≤ 9223372036854775807) (hrd2 : RdUi W W.heap.size A2 l2) (hraw2 : ∀ c ∈ l2, c.Raw) (hlen2 : l2.length ≤ 9223372036854775807) (tb : UTb W) :
    Calls Try.prog 4 #[.slice A1 l1.length cap1, .slice A2 l2.length cap2] W fun e w' => e = .returned (.bool true) ∧ Below W.heap.size W w' := by
  have HRD1 := Lib.hid hrd1
  have HRD2 := Lib.hid hrd2
  have HRAW1 := Lib.hid hraw1
  have HRAW2 := Lib.hid hraw2
  have HTB := Lib.hid tb
  clear hrd1 hrd2 hraw1 hraw2 tb
  go_enter Try.func4, Try.ntmps4
  go_wp2_with (go_at_call 9; (with_reducible refine (cunew_w _ HTB.out).mono ?_); rintro e' w0 ⟨g, rfl, m0, b0⟩; have hs0 := b0.size; have H0 := Lib.hid (OrdU.mk (OneU.mk m0 b0) (OwnB.nil _ w0.heap.size) (OwnB.nil _ w0.heap.size) (fun i e => by cases e)); clear m0 b0)
  generalize hhi : w0.heap.size = hi at *
  clear hhi
  go_loopw [6, 7, 8, 9] (fun kv tv wv iv wr => ∃ (k : Nat) (S : US) (K T : List Int), k ≤ 300 ∧ iv = .int .i64 (k : Int) ∧ wv = .int .i64 (S.l.length : Int) ∧ S.Ok ∧ K = T ++ S.l ∧ K.length ≤ k ∧ OrdU W wr hi g S K T kv tv) (fun _ _ _ iv _ => 300 - (intOf iv).toNat)
  case atStart => exact ⟨0, US.new, [], [], by omega, rfl, rfl, US.new_ok, rfl, by simp, H0.out⟩
  case round =>
    clear H0
    obtain ⟨k, S, K, T, hk, rfl, rfl, ok, hK, hKl, h⟩ := hrel
    have hWs := h.u.b.size
    have htop := h.u.o.top
    obtain ⟨Ak, nk, rfl⟩ := h.k.len_v
    obtain ⟨At, nt, rfl⟩ := h.t.len_v
    have hlen := ok.len
    have OK := Lib.hid ok
    have HK := Lib.hid hK
    have H := Lib.hid h
    have hL1 := HRD1.out.below h.u.b
    have hL2 := HRD2.out.below h.u.b
    clear ok h hK
    by_cases hall : k < l1.length ∧ k < 300
    · obtain ⟨a1, a300⟩ := hall
      have b1 : (k : Int) < (l1.length : Int) := by omega
      have b4 : (k : Int) < 300 := by omega
      obtain ⟨bo, oo, rfl, hbo, c, hc, hrow⟩ := hL1.at_ a1
      have qo := hrow.out
      have hraw := HRAW1.out c (List.mem_of_getElem? hc)
      clear hrow hc hL1
      obtain ⟨x⟩ := c
      dsimp only [Ub.Raw] at hraw qo
      obtain ⟨x0, x1⟩ := hraw
      rw [Nat.mul_one] at qo
      have HQ := Lib.hid (fun (w' : World) (kk : Below W.heap.size wr w') => (kk.cell (p := ⟨bo, oo + k, none⟩) hbo).trans qo)
      obtain ⟨S1, hS1⟩ : ∃ S1, S.inp x = S1 := ⟨_, rfl⟩
      have OK1 : Hid S1.Ok := Lib.hid (by rw [← hS1]; exact OK.out.inp _ x0 x1)
      have HS1 := Lib.hid hS1
      obtain ⟨r, hr⟩ : ∃ r, S.inO = r := ⟨_, rfl⟩
      have hrd : decide ((S.l.length : Int) < 16) = r := by rw [← hr, US.inO, decide_eq_decide]; omega
      have HR := Lib.hid hr
      clear hr hS1
      go_upto_region 8 with fail
      go_cut [10] (fun cv wx => cv = .bool r ∧ OrdU W wx hi g S1 K T (.slice Ak K.length nk) (.slice At T.length nt) ∧ Below W.heap.size wr wx)
      case first =>
        have Hd := Lib.hid (H.out.kp ((Kp.refl wr).drew))
        have qod : wr.drew.cell? _ = _ := qo
        refine wp_region_still_tail 7 (by kernel_rfl) (by kernel_rfl) ?_
        simp only [List.take_succ_cons, List.take_zero, List.drop_succ_cons, List.drop_zero]
        repeat (with_reducible refine wpStill_step (fun K hK => ?_); go_simp; with_reducible refine hK _ ?_; clear hK K)
        with_reducible refine wpStill_nil ?_
        change wpList _ _ _ _ _ wr.drew
        go_wp2_with (go_at_call 13; (with_reducible refine (cuin_at Hd.out.u.o OK.out (UTb.h1 HTB (Lib.hid Hd.out.u.b)) x r S1 HR.out HS1.out x0 x1).mono ?_); rintro e' w1 ⟨rfl, m1, f1⟩; have hs1 := f1.size; have H1 := Lib.hid (Hd.out.code m1 f1); have HF1 := Lib.hid (Below.undrew (f1.lows hWs (Nat.le_refl _))); clear m1 f1)
        go_meet
        exact ⟨rfl, H1.out, HF1.out⟩
      case rest =>
        obtain ⟨rfl, h1, f1⟩ := hcut
        have H1 := Lib.hid h1
        have q1 := HQ.out _ f1
        have e1 : (r != r) = false := by simp
        have HF1 := Lib.hid f1
        clear h1 f1 qo
        go_upto_if 38 with fail
        go_cut [6, 8] (fun kv wv wx => ∃ (K' : List Int) (A' : Option Addr) (n' : Nat), K' = T ++ S1.l ∧ K'.length ≤ k + 1 ∧ kv = .slice A' K'.length n' ∧ wv = .int .i64 (S1.l.length : Int) ∧ OrdU W wx hi g S1 K' T (.slice A' K'.length n') (.slice At T.length nt) ∧ Below W.heap.size wr wx)
        case first =>
          have hS1 := HS1.out
          unfold US.inp at hS1
          by_cases h16 : S.l.length < 16
          · rw [if_pos h16] at hS1
            have er : r = true := by rw [← hrd]; simp; omega
            subst er
            have hl1 : S1.l = S.l ++ [x] := by rw [← hS1]
            have hl2 : (S1.l.length : Int) = (S.l.length : Int) + 1 := by rw [hl1]; simp
            have HL1 := Lib.hid hl1
            have HL2 := Lib.hid hl2
            have hws1 := H1.out.u.b.size
            have htop1 := H1.out.u.o.top
            clear hS1 hl1 hl2 hrd
            go_wp2_with (at_builtin; refine app_b rfl (.tmp 39) (.tmp 44) rfl hi _ _ rfl (H1.out.k.below ((Below.refl _ wc).alloc (Nat.le_refl _) _)) ⟨wc.heap.size, 0, none⟩ 1 x rfl (by simp [go_sem]) (by omega) (by simp; omega) (wc.heap.size + 1) (by simp) ?_; intro gg cap7 w2 hown hgr hat hlt7; have H2 := Lib.hid (H1.out.growK _ hown hgr hat); have HG2 := Lib.hid (H1.out.bK _ hgr); have hs2 : wc.heap.size ≤ w2.heap.size := (by have := hgr.size; simp at this; omega); clear hown hgr hat)
            go_meet
            refine ⟨K ++ [x], _, _, by rw [HK.out, HL1.out, List.append_assoc], by simp; omega, by rw [List.length_append]; rfl, by rw [HL2.out], ?_, ?_⟩
            · rw [List.length_append]; exact H2.out
            · exact HF1.out.trans HG2.out
          · rw [if_neg h16] at hS1
            have er : r = false := by rw [← hrd]; simp; omega
            subst er
            subst hS1
            clear hrd
            go_wp2
            go_meet
            exact ⟨K, _, _, HK.out, by omega, rfl, rfl, H1.out, HF1.out⟩
        case rest =>
          obtain ⟨K', A', n', hK', hKl', rfl, rfl, h2, f2⟩ := hcut
          have H2 := Lib.hid h2
          have HK' := Lib.hid hK'
          have q2 := HRD2.out.below (H2.out.u.b)
          clear h2 f2 hK' H1 HF1 q1 HK H hrd e1 hL2
          go_upto_if 51 with fail
          go_cut [11] (fun nv wx => ∃ pn : Nat, pn ≤ 20 ∧ nv = .int .i64 (pn : Int) ∧ OrdU W wx hi g S1 K' T (.slice A' K'.length n') (.slice At T.length nt))
          case first =>
            by_cases a2 : k < l2.length
            · have b2 : (k : Int) < (l2.length : Int) := by omega
              obtain ⟨bo2, oo2, rfl, hbo2, c2, hc2, hrow2⟩ := q2.at_ a2
              have qr := hrow2.out
              have hraw2 := HRAW2.out c2 (List.mem_of_getElem? hc2)
              clear hrow2 hc2
              obtain ⟨y⟩ := c2
              dsimp only [Ui.Raw] at hraw2 qr
              obtain ⟨y0, y1⟩ := hraw2
              rw [Nat.mul_one] at qr
              have hp := pick_w y 21 y0 y1 (by decide) (by decide)
              have hp0 := Int.emod_nonneg y (show (21 : Int) ≠ 0 by decide)
              have hp1 := Int.emod_lt_of_pos y (show (0 : Int) < 21 by decide)
              obtain ⟨pn, hpn⟩ := Int.eq_ofNat_of_zero_le hp0
              rw [hpn] at hp hp1
              have HP := Lib.hid hp
              clear hp hpn hp0
              go_wp2_with (go_at_call 29; (with_reducible refine (HP.out _).mono ?_); rintro e' w9 ⟨rfl, rfl⟩)
              go_meet
              exact ⟨pn, by omega, rfl, H2.out⟩
            · have d0 : decide ((k : Int) < (l2.length : Int)) = false := by simp; omega
              go_wp2
              go_meet
              exact ⟨0, by omega, rfl, H2.out⟩
          case rest =>
            obtain ⟨pn, hpn, rfl, h3⟩ := hcut
            clear H2 q2
            have H3 := Lib.hid h3
            have OKx := OK1
            have HKx := HK'
            clear h3 OK HQ HR HS1
            clear hWs htop hlen hKl
            have hS1l := OK1.out.len
            go_wp2
            obtain ⟨w5, hw5⟩ : ∃ w5, w5 = wc := ⟨_, rfl⟩
            rw [← hw5] at H3 ⊢
            clear hw5
            go_loopw [7, 8, 12] (fun tv wv kv wr => ∃ (m : Nat) (S : US) (T : List Int) (A : Option Addr) (n : Nat), m ≤ pn ∧ kv = .int .i64 (m : Int) ∧ wv = .int .i64 (S.l.length : Int) ∧ tv = .slice A T.length n ∧ S.Ok ∧ K' = T ++ S.l ∧ OrdU W wr hi g S K' T (.slice A' K'.length n') (.slice A T.length n)) (fun _ _ kv _ => pn - (intOf kv).toNat)
            case atStart => exact ⟨0, S1, T, _, _, by omega, rfl, rfl, rfl, OK1.out, HK'.out, H3.out⟩
            case round =>
              clear H3 OK1 HK' hS1l OKx HKx
              obtain ⟨m, S2, T2, A2', n2, hm, rfl, rfl, rfl, ok2, hK2, h⟩ := hrel
              have OK := Lib.hid ok2
              have H := Lib.hid h
              have HK2 := Lib.hid hK2
              have hTl : T2.length ≤ K'.length := by rw [hK2, List.length_append]; omega
              have htop := h.u.o.top
              clear ok2 h hK2
              obtain ⟨wl, hwl⟩ : ∃ wl, (S2.l.length : Int) = wl := ⟨_, rfl⟩
              rw [hwl]
              by_cases hmm : m < pn
              · have b2 : (m : Int) < (pn : Int) := by omega
                cases hc : S2.l with
                | nil =>
                  have e0 : wl = 0 := by rw [← hwl, hc]; rfl
                  subst e0
                  have HF := Lib.hid (show S2.ldV 5 1 = 96 ∧ S2.ldV 0 1 = 0 ∧ S2.ldS 5 1 = S2 ∧ S2.ldS 0 1 = S2 from ⟨by unfold US.ldV US.val; rw [if_pos (by decide), if_neg (by decide), if_neg (by decide), if_pos rfl, if_pos hc], by unfold US.ldV US.val; rw [if_pos (by decide), if_pos rfl, hc]; rfl, rfl, by
                    unfold US.ldS
                    rw [if_pos ⟨by decide, rfl⟩, hc]
                    obtain ⟨l, en, told⟩ := S2
                    dsimp only at hc
                    subst hc
                    rfl⟩)
                  have HW := Lib.hid hwl
                  clear hwl hc
                  go_wp2_with (first | (go_at_call 30; (with_reducible refine (ofU_w H.out.u.o OK.out (UTb.h1 HTB (Lib.hid H.out.u.b)) 5 96 S2 HF.out.1 HF.out.2.2.1 (by decide) (by decide)).mono ?_); rintro e' w11 ⟨rfl, m11, f11⟩; have hs11 := f11.size; have H11 := Lib.hid (H.out.code m11 f11); clear m11 f11) | (go_at_call 30; (with_reducible refine (ofU_w H11.out.u.o OK.out (UTb.h1 HTB (Lib.hid H11.out.u.b)) 0 0 S2 HF.out.2.1 HF.out.2.2.2 (by decide) (by decide)).mono ?_); rintro e' w12 ⟨rfl, m12, f12⟩; have hs12 := f12.size; have H12 := Lib.hid (H11.out.code m12 f12); clear m12 f12))
                  go_roundw
                  case rel => exact ⟨m + 1, S2, T2, _, _, by omega, by go_num, by rw [HW.out], rfl, OK.out, HK2.out, H12.out⟩
                  case measure => simp [intOf]; omega
                | cons x' r' =>
                  have e0 : decide (0 < wl) = true := by rw [← hwl, hc]; simp
                  have hx0 := OK.out.by0 x' (by rw [hc]; simp)
                  have hx1 := OK.out.by1 x' (by rw [hc]; simp)
                  have ew : IntKind.u8.wrap x' = x' := by rw [IntKind.wrap_u8']; omega
                  have hne : ¬ S2.l = [] := by rw [hc]; simp
                  obtain ⟨S3, hS3⟩ : ∃ S3, S2.ldS 0 1 = S3 := ⟨_, rfl⟩
                  have hl3 : S3.l = r' := by rw [← hS3]; unfold US.ldS; rw [if_pos ⟨by decide, rfl⟩]; show S2.l.tail = r'; rw [hc]; rfl
                  have HF := Lib.hid (show S2.ldV 5 1 = 97 ∧ S2.ldV 0 1 = x' ∧ S2.ldS 5 1 = S2 ∧ S2.ldS 0 1 = S3 from ⟨by unfold US.ldV US.val; rw [if_pos (by decide), if_neg (by decide), if_neg (by decide), if_pos rfl, if_neg hne], by unfold US.ldV US.val; rw [if_pos (by decide), if_pos rfl, hc]; rfl, rfl, hS3⟩)
                  have OK3 : Hid S3.Ok := Lib.hid (by rw [← hS3]; exact OK.out.ldS _ _)
                  have hw3 : (S3.l.length : Int) = wl - 1 := by rw [hl3, ← hwl, hc]; simp
                  have HK3 := Lib.hid (show K' = (T2 ++ [x']) ++ S3.l by rw [HK2.out, hl3, hc]; simp)
                  have HW3 := Lib.hid hw3
                  have hwb : wl ≤ 16 := by rw [← hwl]; have := OK.out.len; omega
                  have hwp : 0 < wl := by simpa using e0
                  clear hwl hc hS3 hl3 hw3 hne
                  go_wp2_with (first | (go_at_call 30; (with_reducible refine (ofU_w H.out.u.o OK.out (UTb.h1 HTB (Lib.hid H.out.u.b)) 5 97 S2 HF.out.1 HF.out.2.2.1 (by decide) (by decide)).mono ?_); rintro e' w11 ⟨rfl, m11, f11⟩; have hs11 := f11.size; have H11 := Lib.hid (H.out.code m11 f11); clear m11 f11) | (go_at_call 30; (with_reducible refine (ofU_w H11.out.u.o OK.out (UTb.h1 HTB (Lib.hid H11.out.u.b)) 0 x' S3 HF.out.2.1 HF.out.2.2.2 (by decide) (by decide)).mono ?_); rintro e' w12 ⟨rfl, m12, f12⟩; have hs12 := f12.size; have H12 := Lib.hid (H11.out.code m12 f12); have htop12 := H12.out.u.o.top; clear m12 f12) | (at_builtin; refine app_b rfl (.tmp 80) (.tmp 83) rfl hi _ _ rfl (H12.out.t.below ((Below.refl _ w12).alloc (Nat.le_refl _) _)) ⟨w12.heap.size, 0, none⟩ 1 x' rfl (by simp [go_sem]) (by omega) (by simp; omega) (w12.heap.size + 1) (by simp) ?_; intro gg cap7 w13 hown hgr hat hlt7; have H13 := Lib.hid (H12.out.growT _ hown hgr hat); have HG13 := Lib.hid (H12.out.bG _ hgr); have hs13 : w12.heap.size ≤ w13.heap.size := (by have := hgr.size; simp at this; omega); clear hown hgr hat))
                  go_roundw
                  case rel => exact ⟨m + 1, S3, T2 ++ [x'], _, _, by omega, by go_num, by rw [HW3.out], by rw [List.length_append]; rfl, OK3.out, HK3.out, by rw [List.length_append]; exact H13.out⟩
                  case measure => simp [intOf]; omega
              · have d0 : decide ((m : Int) < (pn : Int)) = false := by simp; omega
                have HW := Lib.hid hwl
                have ew : (wl != wl) = false := by simp
                clear hwl
                go_wp2_with (go_at_call 25; (with_reducible refine (cuwaits_at H.out.u.o OK.out (UTb.h1 HTB (Lib.hid H.out.u.b)) wl HW.out).mono ?_); rintro e' w14 ⟨rfl, m14, f14⟩; have hs14 := f14.size; have H14 := Lib.hid (H.out.code m14 f14); clear m14 f14)
                go_roundw
                case rel => exact ⟨k + 1, S2, K', T2, by omega, by go_num, by rw [HW.out], OK.out, HK2.out, hKl', H14.out⟩
                case measure => simp [intOf]; omega
    · clear hL1 hL2 hWs htop hlen
      have hex : (decide ((k : Int) < (l1.length : Int)) && decide ((k : Int) < 300)) = false := by
        by_cases a : k < l1.length
        · have : ¬ k < 300 := fun b => hall ⟨a, b⟩
          simp; omega
        · simp; omega
      have h3 := H.out
      have H3 := Lib.hid h3
      clear h3
      rcases Bool.and_eq_false_iff.1 hex with d0 | d0
      rotate_left 1
      · by_cases a : k < l1.length
        · have d1 : (k : Int) < (l1.length : Int) := by omega
          clear hex
          go_wp2
          obtain ⟨w5, hw5⟩ : ∃ w5, w5 = wr := ⟨_, rfl⟩
          rw [← hw5] at H3 ⊢
          clear hw5 H
          go_loopw [7, 8] (fun tv wv wr => ∃ (S : US) (T : List Int) (A : Option Addr) (n : Nat), wv = .int .i64 (S.l.length : Int) ∧ tv = .slice A T.length n ∧ S.Ok ∧ K = T ++ S.l ∧ OrdU W wr hi g S K T (.slice Ak K.length nk) (.slice A T.length n)) (fun _ wv _ => (intOf wv).toNat)
          case atStart => exact ⟨S, T, _, _, rfl, rfl, OK.out, HK.out, H3.out⟩
          case round =>
            clear H3 OK HK
            obtain ⟨S2, T2, A2', n2, rfl, rfl, ok2, hK2, h⟩ := hrel
            have OK := Lib.hid ok2
            have H := Lib.hid h
            have HK2 := Lib.hid hK2
            have hTl : T2.length ≤ K.length := by rw [hK2, List.length_append]; omega
            have htop := h.u.o.top
            clear ok2 h hK2
            obtain ⟨wl, hwl⟩ : ∃ wl, (S2.l.length : Int) = wl := ⟨_, rfl⟩
            rw [hwl]
            cases hc : S2.l with
            | nil =>
              have e0 : wl = 0 := by rw [← hwl, hc]; rfl
              subst e0
              have hKT : T2 = K := by rw [HK2.out, hc, List.append_nil]
              have HW := Lib.hid hwl
              have HD := Lib.hid (show decide (T2 = K) = true by simpa using hKT)
              clear hwl hc hKT
              have HSB := Lib.hid (fun w' (k : Kp wr w') => sameB_w T2 K (.slice A2' T2.length n2) (.slice Ak K.length nk) w' (H.out.kp k).t.rd (H.out.kp k).k.rd (by omega) (by omega) true HD.out)
              go_wp2_with (first | (go_at_call 31; (with_reducible refine (HSB.out _ (Kp.refl _)).mono ?_); rintro e' w11 ⟨rfl, k11⟩; have H11 := Lib.hid (H.out.kp k11); clear k11) | (go_at_call 25; (with_reducible refine (cuwaits_at H11.out.u.o OK.out (UTb.h1 HTB (Lib.hid H11.out.u.b)) 0 HW.out).mono ?_); rintro e' w12 ⟨rfl, m12, f12⟩; have hs12 := f12.size; have H12 := Lib.hid (H11.out.code m12 f12); clear m12 f12) | (go_at_call 8; (with_reducible refine (works14_w _ (UTb.h1 HTB (Lib.hid H12.out.u.b))).mono ?_); rintro e' w13 ⟨rfl, b13⟩; have HZ := Lib.hid (H12.out.u.b.trans (b13.mono H12.out.u.b.size)); clear b13))
              go_ret
              exact ⟨rfl, HZ.out⟩
            | cons x' r' =>
              have e0 : decide (0 < wl) = true := by rw [← hwl, hc]; simp
              have hx0 := OK.out.by0 x' (by rw [hc]; simp)
              have hx1 := OK.out.by1 x' (by rw [hc]; simp)
              have ew : IntKind.u8.wrap x' = x' := by rw [IntKind.wrap_u8']; omega
              obtain ⟨S3, hS3⟩ : ∃ S3, S2.ldS 0 1 = S3 := ⟨_, rfl⟩
              have hl3 : S3.l = r' := by rw [← hS3]; unfold US.ldS; rw [if_pos ⟨by decide, rfl⟩]; show S2.l.tail = r'; rw [hc]; rfl
              have HF := Lib.hid (show S2.ldV 0 1 = x' ∧ S2.ldS 0 1 = S3 from ⟨by unfold US.ldV US.val; rw [if_pos (by decide), if_pos rfl, hc]; rfl, hS3⟩)
              have OK3 : Hid S3.Ok := Lib.hid (by rw [← hS3]; exact OK.out.ldS _ _)
              have hw3 : (S3.l.length : Int) = wl - 1 := by rw [hl3, ← hwl, hc]; simp
              have HK3 := Lib.hid (show K = (T2 ++ [x']) ++ S3.l by rw [HK2.out, hl3, hc]; simp)
              have HW3 := Lib.hid hw3
              have hwb : wl ≤ 16 := by rw [← hwl]; have := OK.out.len; omega
              have hwp : 0 < wl := by simpa using e0
              clear hwl hc hS3 hl3 hw3
              go_wp2_with (first | (go_at_call 30; (with_reducible refine (ofU_w H.out.u.o OK.out (UTb.h1 HTB (Lib.hid H.out.u.b)) 0 x' S3 HF.out.1 HF.out.2 (by decide) (by decide)).mono ?_); rintro e' w12 ⟨rfl, m12, f12⟩; have hs12 := f12.size; have H12 := Lib.hid (H.out.code m12 f12); have htop12 := H12.out.u.o.top; clear m12 f12) | (at_builtin; refine app_b rfl (.tmp 95) (.tmp 99) rfl hi _ _ rfl (H12.out.t.below ((Below.refl _ w12).alloc (Nat.le_refl _) _)) ⟨w12.heap.size, 0, none⟩ 1 x' rfl (by simp [go_sem]) (by omega) (by simp; omega) (w12.heap.size + 1) (by simp) ?_; intro gg cap7 w13 hown hgr hat hlt7; have H13 := Lib.hid (H12.out.growT _ hown hgr hat); have HG13 := Lib.hid (H12.out.bG _ hgr); have hs13 : w12.heap.size ≤ w13.heap.size := (by have := hgr.size; simp at this; omega); clear hown hgr hat))
              go_roundw
              case rel => exact ⟨S3, T2 ++ [x'], _, _, by rw [HW3.out], by rw [List.length_append]; rfl, OK3.out, HK3.out, by rw [List.length_append]; exact H13.out⟩
              case measure => simp [intOf]; omega
        · have d1 : decide ((k : Int) < (l1.length : Int)) = false := by simp; omega
          clear hex
          go_wp2
          obtain ⟨w5, hw5⟩ : ∃ w5, w5 = wr := ⟨_, rfl⟩
          rw [← hw5] at H3 ⊢
          clear hw5 H
          go_loopw [7, 8] (fun tv wv wr => ∃ (S : US) (T : List Int) (A : Option Addr) (n : Nat), wv = .int .i64 (S.l.length : Int) ∧ tv = .slice A T.length n ∧ S.Ok ∧ K = T ++ S.l ∧ OrdU W wr hi g S K T (.slice Ak K.length nk) (.slice A T.length n)) (fun _ wv _ => (intOf wv).toNat)
          case atStart => exact ⟨S, T, _, _, rfl, rfl, OK.out, HK.out, H3.out⟩
          case round =>
            clear H3 OK HK
            obtain ⟨S2, T2, A2', n2, rfl, rfl, ok2, hK2, h⟩ := hrel
            have OK := Lib.hid ok2
            have H := Lib.hid h
            have HK2 := Lib.hid hK2
            have hTl : T2.length ≤ K.length := by rw [hK2, List.length_append]; omega
            have htop := h.u.o.top
            clear ok2 h hK2
            obtain ⟨wl, hwl⟩ : ∃ wl, (S2.l.length : Int) = wl := ⟨_, rfl⟩
            rw [hwl]
            cases hc : S2.l with
            | nil =>
              have e0 : wl = 0 := by rw [← hwl, hc]; rfl
              subst e0
              have hKT : T2 = K := by rw [HK2.out, hc, List.append_nil]
              have HW := Lib.hid hwl
              have HD := Lib.hid (show decide (T2 = K) = true by simpa using hKT)
              clear hwl hc hKT
              have HSB := Lib.hid (fun w' (k : Kp wr w') => sameB_w T2 K (.slice A2' T2.length n2) (.slice Ak K.length nk) w' (H.out.kp k).t.rd (H.out.kp k).k.rd (by omega) (by omega) true HD.out)
              go_wp2_with (first | (go_at_call 31; (with_reducible refine (HSB.out _ (Kp.refl _)).mono ?_); rintro e' w11 ⟨rfl, k11⟩; have H11 := Lib.hid (H.out.kp k11); clear k11) | (go_at_call 25; (with_reducible refine (cuwaits_at H11.out.u.o OK.out (UTb.h1 HTB (Lib.hid H11.out.u.b)) 0 HW.out).mono ?_); rintro e' w12 ⟨rfl, m12, f12⟩; have hs12 := f12.size; have H12 := Lib.hid (H11.out.code m12 f12); clear m12 f12) | (go_at_call 8; (with_reducible refine (works14_w _ (UTb.h1 HTB (Lib.hid H12.out.u.b))).mono ?_); rintro e' w13 ⟨rfl, b13⟩; have HZ := Lib.hid (H12.out.u.b.trans (b13.mono H12.out.u.b.size)); clear b13))
              go_ret
              exact ⟨rfl, HZ.out⟩
            | cons x' r' =>
              have e0 : decide (0 < wl) = true := by rw [← hwl, hc]; simp
              have hx0 := OK.out.by0 x' (by rw [hc]; simp)
              have hx1 := OK.out.by1 x' (by rw [hc]; simp)
              have ew : IntKind.u8.wrap x' = x' := by rw [IntKind.wrap_u8']; omega
              obtain ⟨S3, hS3⟩ : ∃ S3, S2.ldS 0 1 = S3 := ⟨_, rfl⟩
              have hl3 : S3.l = r' := by rw [← hS3]; unfold US.ldS; rw [if_pos ⟨by decide, rfl⟩]; show S2.l.tail = r'; rw [hc]; rfl
              have HF := Lib.hid (show S2.ldV 0 1 = x' ∧ S2.ldS 0 1 = S3 from ⟨by unfold US.ldV US.val; rw [if_pos (by decide), if_pos rfl, hc]; rfl, hS3⟩)
              have OK3 : Hid S3.Ok := Lib.hid (by rw [← hS3]; exact OK.out.ldS _ _)
              have hw3 : (S3.l.length : Int) = wl - 1 := by rw [hl3, ← hwl, hc]; simp
              have HK3 := Lib.hid (show K = (T2 ++ [x']) ++ S3.l by rw [HK2.out, hl3, hc]; simp)
              have HW3 := Lib.hid hw3
              have hwb : wl ≤ 16 := by rw [← hwl]; have := OK.out.len; omega
              have hwp : 0 < wl := by simpa using e0
              clear hwl hc hS3 hl3 hw3
              go_wp2_with (first | (go_at_call 30; (with_reducible refine (ofU_w H.out.u.o OK.out (UTb.h1 HTB (Lib.hid H.out.u.b)) 0 x' S3 HF.out.1 HF.out.2 (by decide) (by decide)).mono ?_); rintro e' w12 ⟨rfl, m12, f12⟩; have hs12 := f12.size; have H12 := Lib.hid (H.out.code m12 f12); have htop12 := H12.out.u.o.top; clear m12 f12) | (at_builtin; refine app_b rfl (.tmp 95) (.tmp 99) rfl hi _ _ rfl (H12.out.t.below ((Below.refl _ w12).alloc (Nat.le_refl _) _)) ⟨w12.heap.size, 0, none⟩ 1 x' rfl (by simp [go_sem]) (by omega) (by simp; omega) (w12.heap.size + 1) (by simp) ?_; intro gg cap7 w13 hown hgr hat hlt7; have H13 := Lib.hid (H12.out.growT _ hown hgr hat); have HG13 := Lib.hid (H12.out.bG _ hgr); have hs13 : w12.heap.size ≤ w13.heap.size := (by have := hgr.size; simp at this; omega); clear hown hgr hat))
              go_roundw
              case rel => exact ⟨S3, T2 ++ [x'], _, _, by rw [HW3.out], by rw [List.length_append]; rfl, OK3.out, HK3.out, by rw [List.length_append]; exact H13.out⟩
              case measure => simp [intOf]; omega
      · have a : ¬ k < l1.length := by have := of_decide_eq_false d0; omega
        have hK300 : K.length ≤ 300 := by omega
        clear hex hall hk hKl
        go_wp2
        obtain ⟨w5, hw5⟩ : ∃ w5, w5 = wr := ⟨_, rfl⟩
        rw [← hw5] at H3 ⊢
        clear hw5 H
        go_loopw [7, 8] (fun tv wv wr => ∃ (S : US) (T : List Int) (A : Option Addr) (n : Nat), wv = .int .i64 (S.l.length : Int) ∧ tv = .slice A T.length n ∧ S.Ok ∧ K = T ++ S.l ∧ OrdU W wr hi g S K T (.slice Ak K.length nk) (.slice A T.length n)) (fun _ wv _ => (intOf wv).toNat)
        case atStart => exact ⟨S, T, _, _, rfl, rfl, OK.out, HK.out, H3.out⟩
        case round =>
          clear H3 OK HK
          obtain ⟨S2, T2, A2', n2, rfl, rfl, ok2, hK2, h⟩ := hrel
          have OK := Lib.hid ok2
          have H := Lib.hid h
          have HK2 := Lib.hid hK2
          have hTl : T2.length ≤ K.length := by rw [hK2, List.length_append]; omega
          have htop := h.u.o.top
          clear ok2 h hK2
          obtain ⟨wl, hwl⟩ : ∃ wl, (S2.l.length : Int) = wl := ⟨_, rfl⟩
          rw [hwl]
          cases hc : S2.l with
          | nil =>
            have e0 : wl = 0 := by rw [← hwl, hc]; rfl
            subst e0
            have hKT : T2 = K := by rw [HK2.out, hc, List.append_nil]
            have HW := Lib.hid hwl
            have HD := Lib.hid (show decide (T2 = K) = true by simpa using hKT)
            clear hwl hc hKT
            have HSB := Lib.hid (fun w' (k : Kp wr w') => sameB_w T2 K (.slice A2' T2.length n2) (.slice Ak K.length nk) w' (H.out.kp k).t.rd (H.out.kp k).k.rd (by omega) (by omega) true HD.out)
            go_wp2_with (first | (go_at_call 31; (with_reducible refine (HSB.out _ (Kp.refl _)).mono ?_); rintro e' w11 ⟨rfl, k11⟩; have H11 := Lib.hid (H.out.kp k11); clear k11) | (go_at_call 25; (with_reducible refine (cuwaits_at H11.out.u.o OK.out (UTb.h1 HTB (Lib.hid H11.out.u.b)) 0 HW.out).mono ?_); rintro e' w12 ⟨rfl, m12, f12⟩; have hs12 := f12.size; have H12 := Lib.hid (H11.out.code m12 f12); clear m12 f12) | (go_at_call 8; (with_reducible refine (works14_w _ (UTb.h1 HTB (Lib.hid H12.out.u.b))).mono ?_); rintro e' w13 ⟨rfl, b13⟩; have HZ := Lib.hid (H12.out.u.b.trans (b13.mono H12.out.u.b.size)); clear b13))
            go_ret
            exact ⟨rfl, HZ.out⟩
          | cons x' r' =>
            have e0 : decide (0 < wl) = true := by rw [← hwl, hc]; simp
            have hx0 := OK.out.by0 x' (by rw [hc]; simp)
            have hx1 := OK.out.by1 x' (by rw [hc]; simp)
            have ew : IntKind.u8.wrap x' = x' := by rw [IntKind.wrap_u8']; omega
            obtain ⟨S3, hS3⟩ : ∃ S3, S2.ldS 0 1 = S3 := ⟨_, rfl⟩
            have hl3 : S3.l = r' := by rw [← hS3]; unfold US.ldS; rw [if_pos ⟨by decide, rfl⟩]; show S2.l.tail = r'; rw [hc]; rfl
            have HF := Lib.hid (show S2.ldV 0 1 = x' ∧ S2.ldS 0 1 = S3 from ⟨by unfold US.ldV US.val; rw [if_pos (by decide), if_pos rfl, hc]; rfl, hS3⟩)
            have OK3 : Hid S3.Ok := Lib.hid (by rw [← hS3]; exact OK.out.ldS _ _)
            have hw3 : (S3.l.length : Int) = wl - 1 := by rw [hl3, ← hwl, hc]; simp
            have HK3 := Lib.hid (show K = (T2 ++ [x']) ++ S3.l by rw [HK2.out, hl3, hc]; simp)
            have HW3 := Lib.hid hw3
            have hwb : wl ≤ 16 := by rw [← hwl]; have := OK.out.len; omega
            have hwp : 0 < wl := by simpa using e0
            clear hwl hc hS3 hl3 hw3
            go_wp2_with (first | (go_at_call 30; (with_reducible refine (ofU_w H.out.u.o OK.out (UTb.h1 HTB (Lib.hid H.out.u.b)) 0 x' S3 HF.out.1 HF.out.2 (by decide) (by decide)).mono ?_); rintro e' w12 ⟨rfl, m12, f12⟩; have hs12 := f12.size; have H12 := Lib.hid (H.out.code m12 f12); have htop12 := H12.out.u.o.top; clear m12 f12) | (at_builtin; refine app_b rfl (.tmp 95) (.tmp 99) rfl hi _ _ rfl (H12.out.t.below ((Below.refl _ w12).alloc (Nat.le_refl _) _)) ⟨w12.heap.size, 0, none⟩ 1 x' rfl (by simp [go_sem]) (by omega) (by simp; omega) (w12.heap.size + 1) (by simp) ?_; intro gg cap7 w13 hown hgr hat hlt7; have H13 := Lib.hid (H12.out.growT _ hown hgr hat); have HG13 := Lib.hid (H12.out.bG _ hgr); have hs13 : w12.heap.size ≤ w13.heap.size := (by have := hgr.size; simp at this; omega); clear hown hgr hat))
            go_roundw
            case rel => exact ⟨S3, T2 ++ [x'], _, _, by rw [HW3.out], by rw [List.length_append]; rfl, OK3.out, HK3.out, by rw [List.length_append]; exact H13.out⟩
            case measure => simp [intOf]; omega
end Go.Proofs.Ytnimpgamiagedaa
