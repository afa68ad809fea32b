/-
  The contract of order's locks; what a lock's number tells. Capabilities' numbers are in their places; at most a hundred thousand of them.
-/
import Derived.Test.YtmehbildddlgaaaOShut
import Derived.Test.YtmehbildddlgaaaOGrow
import Derived.Test.YtmehbildddlgaaaOPost
import Derived.StillTailTactics
namespace Go.Proofs.Ytmehbildddlgaaa
open Go.ChangeShapes Go.WideShapes Go.ChangeAt Go.RowKit Go.Maps
set_option linter.unusedVariables false
set_option linter.unusedSimpArgs false

/-- The places of the sealed ones, each with 0. -/
def lksF (L : List Cp) : List Lk := (L.zipIdx.filter (fun p => p.1.sealed)).map (fun p => (p.2, 0))
theorem lksF_snoc (L : List Cp) (c : Cp) : lksF (L ++ [c]) = if c.sealed then lksF L ++ [(L.length, 0)] else lksF L := by
  unfold lksF
  rw [List.zipIdx_append, List.filter_append, List.map_append]
  cases h : c.sealed <;> simp [h]
theorem lksF_len (L : List Cp) : (lksF L).length ≤ L.length := by
  unfold lksF
  rw [List.length_map]
  refine Nat.le_trans (List.length_filter_le _ _) ?_
  simp
/-- A lock's number tells how many keys are known not to open it. -/
structure LkI (L : List Cp) (p : Lk) (c : Cp) : Prop where
  at_ : L[p.1]? = some c
  sl : c.sealed = true
  le : p.2 ≤ (keysOf L).length
  nay : ∀ x ∈ (keysOf L).take p.2, rngIn x c.ty = false
structure LkOK (L : List Cp) (E : List Lk) (cs : List Cp) : Prop where
  len : E.length = cs.length
  each : ∀ (i : Nat) (p : Lk), E[i]? = some p → ∃ c, cs[i]? = some c ∧ LkI L p c
theorem keysOf_app (L u : List Cp) : keysOf (L ++ u) = keysOf L ++ keysOf u := by unfold keysOf; rw [List.filter_append]
theorem LkI.more {L : List Cp} {p : Lk} {c : Cp} (h : LkI L p c) (u : List Cp) : LkI (L ++ u) p c := by
  have hl : p.1 < L.length := (List.getElem?_eq_some_iff.1 h.at_).1
  have hk := h.le
  refine ⟨by rw [List.getElem?_append_left hl]; exact h.at_, h.sl, by rw [keysOf_app, List.length_append]; omega, ?_⟩
  rw [keysOf_app, List.take_append_of_le_length hk]; exact h.nay
theorem LkOK.start (L : List Cp) : LkOK L (lksF L) (L.filter Cp.sealed) := by
  have key : ∀ (n : Nat), n ≤ L.length → (lksF (L.take n)).length = ((L.take n).filter Cp.sealed).length ∧ ∀ (i : Nat) (p : Lk), (lksF (L.take n))[i]? = some p → ∃ c : Cp, ((L.take n).filter Cp.sealed)[i]? = some c ∧ L[p.1]? = some c ∧ c.sealed = true ∧ p.2 = 0 := by
    intro n
    induction n with
    | zero => intro _; simp [lksF]
    | succ n ih =>
      intro hn
      obtain ⟨h1, h2⟩ := ih (by omega)
      have hc : L[n]? = some L[n] := List.getElem?_eq_getElem (by omega)
      have hlen : (L.take n).length = n := by rw [List.length_take]; omega
      rw [List.take_add_one, hc]
      simp only [Option.toList_some]
      rw [lksF_snoc, List.filter_append, hlen]
      cases hs : L[n].sealed
      · have e : [L[n]].filter Cp.sealed = [] := by simp [hs]
        simp only [Bool.false_eq_true, if_false]
        rw [e, List.append_nil]; exact ⟨h1, h2⟩
      · simp only [if_true, List.length_append, List.length_cons, List.length_nil, hs, List.filter_cons_of_pos, List.filter_nil]
        refine ⟨by omega, fun i p hi => ?_⟩
        rcases Nat.lt_trichotomy i (lksF (L.take n)).length with hlt | heq | hgt
        · rw [List.getElem?_append_left hlt] at hi
          rw [List.getElem?_append_left (by omega)]
          exact h2 i p hi
        · rw [List.getElem?_append_right (by omega), heq] at hi
          simp at hi
          subst hi
          refine ⟨L[n], ?_, hc, hs, rfl⟩
          rw [List.getElem?_append_right (by omega), heq, h1]; simp
        · rw [List.getElem?_append_right (by omega)] at hi
          have : i - (lksF (L.take n)).length ≠ 0 := by omega
          rw [List.getElem?_eq_none (by simp; omega)] at hi; cases hi
  obtain ⟨h1, h2⟩ := key L.length (Nat.le_refl _)
  rw [List.take_length] at h1 h2
  refine ⟨h1, fun i p hi => ?_⟩
  obtain ⟨c, hc, ha, hs, h0⟩ := h2 i p hi
  exact ⟨c, hc, ha, hs, by omega, by rw [h0]; simp⟩
theorem own_base {w : World} {B B' : Nat} {e : TypeId} {size n : Nat} {v : Value} {xs : List Value} (h : w.ownsRow B e size v n xs) (hb : B' ≤ B) : w.ownsRow B' e size v n xs := by
  refine ⟨h.1, ?_⟩
  rcases h.2 with hn | ⟨g, cap, cur, e1, hbg, rest⟩
  · exact .inl hn
  · exact .inr ⟨g, cap, cur, e1, Nat.le_trans hb hbg, rest⟩
set_option maxHeartbeats 2000000 in
set_option maxRecDepth 100000 in
theorem locks_w (B q mb : Nat) (lv kv : Value) (L : List Cp) (hl : L.length < 100000) (w : World) (hg : Gr w B q mb lv kv L L (keysOf L)) :
    Calls Try.prog 36 #[.pointer (some ⟨q, 0, none⟩)] w fun e w' => ∃ v, e = .returned v ∧ OwnS w' w.heap.size v (lksF L) ∧ Fr w w' (fun _ => False) := by
  obtain ⟨A, cap, rfl, hcap, hrd, _⟩ := hg.list.rd
  have HR := Lib.hid hrd
  obtain ⟨c0, c1, c2⟩ := hg.cells
  have hq := hg.q_lt
  clear hg hrd
  go_enter Try.func36, Try.ntmps36
  go_wp2
  go_loopw [3, 11] (fun s i wr => ∃ (k : Nat) (v : Value), k ≤ L.length ∧ i = .int .i64 k ∧ v = s ∧ OwnS wr w.heap.size v (lksF (L.take k)) ∧ Fr w wr (fun _ => False)) (fun _ i _ => L.length - (intOf i).toNat)
  case atStart => exact ⟨0, _, Nat.zero_le _, rfl, rfl, OwnS.nil _ _, Fr.refl _ _⟩
  case round =>
    obtain ⟨k, v, hk, rfl, rfl, hown, hfr⟩ := hrel
    have HF := Lib.hid hfr
    have HO := Lib.hid hown
    have hws : w.heap.size ≤ wr.heap.size := hfr.size
    clear hfr hown c0 c1 c2
    by_cases hlt : k < L.length
    · obtain ⟨b, o, rfl, hb, c, hc, hr⟩ := (HR.out.keep (w' := wr) (fun p hp => (HF.out.bl (Nat.le_refl _) (fun _ h => h.elim)).cell hp)).at_ hlt
      obtain ⟨r0, r1, r2, r3, r4, r5, r6, r7, r8⟩ := hr.out
      have hlen : (L.take k).length = k := by rw [List.length_take]; omega
      have hstep : lksF (L.take (k + 1)) = if c.sealed then lksF (L.take k) ++ [(k, 0)] else lksF (L.take k) := by
        rw [List.take_add_one, hc]; simp only [Option.toList_some]; rw [lksF_snoc, hlen]
      have hle : (lksF (L.take k)).length ≤ k := by have := lksF_len (L.take k); omega
      have HST := Lib.hid hstep
      have hb' : b < wr.heap.size := by omega
      clear hstep hr hc
      cases hs : c.sealed
      all_goals
        have HSE : Hid (sealedB c.ty = _) := Lib.hid hs
        have HS := Lib.hid hs
        clear hs
        go_wp2_with (first
          | (go_at_call 25; (with_reducible refine (sealed_w c.tg c.pe c.ty c.mo c.e c.b c.t c.g c.a _ HSE.out _).mono ?_); rintro e' w1 ⟨rfl, qk⟩; have HKw1 := Lib.hid qk; have h1 : wr.heap.size + 1 ≤ w1.heap.size := (by have := qk.size; (try simp at this); omega); have HO1 := Lib.hid (own_fr HO.out (((Fr.refl wr (fun _ => False)).alloc _).kp qk) (fun _ _ h => h)); have HF1 := Lib.hid ((HF.out.alloc _).kp qk); clear qk)          | (at_builtin; refine app_s rfl (.tmp 18) (.tmp 21) rfl w.heap.size _ (lksF (L.take k)) rfl (own_fr HO1.out ((Fr.refl w1 (fun _ => False)).alloc _) (fun _ _ h => h)) ⟨w1.heap.size, 0, none⟩ 1 (k, 0) rfl (World.news_of_block (heap_alloc_new w1 _)) (by omega) (by simp; omega) (w1.heap.size + 1) (by simp) ?_; intro g cap' w2 hown2 hg2 hat2 hlt2; have HO2 := Lib.hid hown2; have HF2 := Lib.hid ((HF1.out.alloc _).grown hg2 (fun g hg => .inl (HO.out.lt g hg).1)); clear hown2 hg2 hat2))
        go_roundw
        case rel => first
          | exact ⟨k + 1, _, by omega, by go_num, rfl, by rw [HST.out, if_pos HS.out]; exact HO2.out, HF2.out⟩
          | exact ⟨k + 1, _, by omega, by go_num, rfl, by rw [HST.out, if_neg (by rw [HS.out]; decide)]; exact HO1.out, HF1.out⟩
        case measure => simp [intOf]; omega
    · go_wp2
      go_ret
      exact ⟨_, rfl, by have e0 : L.take k = L := List.take_of_length_le (by omega); rw [e0] at HO; exact HO.out, HF.out⟩
end Go.Proofs.Ytmehbildddlgaaa
