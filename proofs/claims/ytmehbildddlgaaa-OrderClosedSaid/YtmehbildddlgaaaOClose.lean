/-
  The contract of order's Close: it tells the closure, in memory of its own. Capabilities' numbers are in their places, at most a thousand of them.
-/
import Derived.Test.YtmehbildddlgaaaOOpens
import Derived.Test.YtmehbildddlgaaaOBegin
import Derived.WalkMore
namespace Go.Proofs.Ytmehbildddlgaaa
open Go.ChangeShapes Go.WideShapes Go.ChangeAt Go.RowKit Go.Maps
set_option linter.unusedVariables false
set_option linter.unusedSimpArgs false

theorem LkOK.more {L : List Cp} {E : List Lk} {cs : List Cp} (h : LkOK L E cs) (u : List Cp) : LkOK (L ++ u) E cs :=
  ⟨h.len, fun i p hi => by obtain ⟨c, hc, hl⟩ := h.each i p hi; exact ⟨c, hc, hl.more u⟩⟩
theorem LkOK.nil (L : List Cp) : LkOK L [] [] := ⟨rfl, fun i p hi => by simp at hi⟩
theorem LkOK.snoc {L : List Cp} {E : List Lk} {cs : List Cp} {p : Lk} {c : Cp} (h : LkOK L E cs) (hi : LkI L p c) : LkOK L (E ++ [p]) (cs ++ [c]) := by
  refine ⟨by simp [h.len], fun i r hr => ?_⟩
  rcases Nat.lt_trichotomy i E.length with hlt | heq | hgt
  · rw [List.getElem?_append_left hlt] at hr
    rw [List.getElem?_append_left (by rw [← h.len]; exact hlt)]
    exact h.each i r hr
  · rw [List.getElem?_append_right (by omega), heq] at hr
    simp at hr
    subst hr
    refine ⟨c, ?_, hi⟩
    rw [List.getElem?_append_right (by rw [← h.len]; omega), heq, h.len]; simp
  · rw [List.getElem?_append_right (by omega), List.getElem?_eq_none (by simp; omega)] at hr; cases hr
theorem take_set_snoc {α : Type} (E : List α) (j : Nat) (p : α) (hj : j < E.length) : (E.set j p).take (j + 1) = E.take j ++ [p] := by
  rw [List.take_add_one, List.take_set_of_le (Nat.le_refl _), List.getElem?_set_self hj]; rfl
theorem step_of {cs out : List Cp} {k : Nat} {c : Cp} (hc : cs[k]? = some c) : roundC (cs.take (k + 1)) out = stepC (roundC (cs.take k) out) c := foldl_take _ _ _ _ _ hc
theorem drop_of {cs : List Cp} {k : Nat} {c : Cp} (hc : cs[k]? = some c) : cs.drop k = c :: cs.drop (k + 1) := by
  obtain ⟨hk, rfl⟩ := List.getElem?_eq_some_iff.1 hc
  exact List.drop_eq_getElem_cons hk
/-- What holds at the head of a round of growing. -/
structure CO (w wr : World) (q mb : Nat) (bs : List Cp) (v : Value) (E : List Lk) (cs out : List Cp) (lv kv : Value) : Prop where
  own : OwnS wr w.heap.size v E
  ok : LkOK out E cs
  rd : ∃ m, out = rounds bs m
  gr6 : Grown6 bs out
  skip : Skip out bs cs
  gr : Gr wr w.heap.size q mb lv kv out out (keysOf out)
  bl : Below w.heap.size w wr
/-- What holds within it. -/
structure CI (w wx : World) (q mb sb cap : Nat) (bs : List Cp) (E : List Lk) (cs out : List Cp) (k j : Nat) (E' : List Lk) (cur cl : List Cp) (lv kv : Value) : Prop where
  kE : k ≤ E.length
  jk : j ≤ k
  len : E'.length = E.length
  own : OwnS wx w.heap.size (.slice (some ⟨sb, 0, none⟩) E'.length cap) E'
  rest : ∀ i, k ≤ i → E'[i]? = E[i]?
  ok : LkOK cur (E'.take j) cl
  cur_ : cur = roundC (cs.take k) out
  skip : Skip cur bs (cl ++ cs.drop k)
  same : j = k → cur = out
  gr : Gr wx w.heap.size q mb lv kv cur cur (keysOf cur)
  bl : Below w.heap.size w wx
section
variable {w wr wx : World} {q mb sb cap k j : Nat} {bs cs out cur cl : List Cp} {E E' : List Lk} {lv kv : Value} {c : Cp} {p : Lk}
theorem CO.begin (h : CO w wr q mb bs (.slice (some ⟨sb, 0, none⟩) E.length cap) E cs out lv kv) : CI w wr q mb sb cap bs E cs out 0 0 E out [] lv kv :=
  ⟨Nat.zero_le _, Nat.le_refl _, rfl, h.own, fun _ _ => rfl, by simpa using LkOK.nil out, by simp [roundC], by simpa using h.skip, fun _ => rfl, h.gr, h.bl⟩
theorem CI.g6 (h : CI w wx q mb sb cap bs E cs out k j E' cur cl lv kv) (hg : Grown6 bs out) (hs : Skip out bs cs) : Grown6 bs cur := by
  rw [h.cur_]; exact hg.round _ (fun c hc => hs.mem c (List.mem_of_mem_take hc))
/-- A lock that does not open is kept. -/
theorem CI.keep {w' : World} {tr : Nat} (h : CI w wx q mb sb cap bs E cs out k j E' cur cl lv kv) (hk : k < E.length) (hc : cs[k]? = some c) (hi : LkI cur (p.1, tr) c) (ho : opensB cur c = false)
    (hown : OwnS w' w.heap.size (.slice (some ⟨sb, 0, none⟩) E'.length cap) (E'.set j (p.1, tr))) (hg : Gr w' w.heap.size q mb lv kv cur cur (keysOf cur)) (hb : Below w.heap.size w w') :
    CI w w' q mb sb cap bs E cs out (k + 1) (j + 1) (E'.set j (p.1, tr)) cur (cl ++ [c]) lv kv := by
  have hj := h.jk
  have hl := h.len
  have es : stepC cur c = cur := by simp [stepC, ho]
  refine ⟨hk, by omega, by rw [List.length_set]; exact hl, by rw [List.length_set]; exact hown, fun i hi => ?_, ?_, ?_, ?_, fun e => h.same (by omega), hg, hb⟩
  · rw [List.getElem?_set_ne (by omega)]; exact h.rest i (by omega)
  · rw [take_set_snoc _ _ _ (by omega)]; exact h.ok.snoc hi
  · rw [step_of hc, ← h.cur_, es]
  · have := h.skip
    rw [drop_of hc] at this
    simpa using this
/-- A lock that opens is left out. -/
theorem CI.open_ {w' : World} {lv' kv' : Value} (h : CI w wx q mb sb cap bs E cs out k j E' cur cl lv kv) (hk : k < E.length) (hc : cs[k]? = some c) (ho : opensB cur c = true)
    (hown : OwnS w' w.heap.size (.slice (some ⟨sb, 0, none⟩) E'.length cap) E') (hg : Gr w' w.heap.size q mb lv' kv' (addC cur (uns c)) (addC cur (uns c)) (keysOf (addC cur (uns c)))) (hb : Below w.heap.size w w') :
    CI w w' q mb sb cap bs E cs out (k + 1) j E' (addC cur (uns c)) cl lv' kv' := by
  have hj := h.jk
  obtain ⟨u, eu, _⟩ := addC_pre cur (uns c)
  have es : stepC cur c = addC cur (uns c) := by simp [stepC, ho]
  refine ⟨hk, by omega, h.len, hown, fun i hi => h.rest i (by omega), by rw [eu]; exact h.ok.more u, ?_, ?_, fun e => by omega, hg, hb⟩
  · rw [step_of hc, ← h.cur_, es]
  · have h1 := h.skip.mono (out' := addC cur (uns c)) (fun x hx => (mem_addC _ _ _).2 (.inl hx))
    rw [drop_of hc] at h1
    exact Skip.out_ cl c _ h1 ((mem_addC _ _ _).2 (.inr rfl))
theorem CI.all_ {lv2 kv2 : Value} (h : CI w wx q mb sb cap bs E cs out k j E' cur cl lv kv) (hk : k = E.length) (ho : CO w wr q mb bs (.slice (some ⟨sb, 0, none⟩) E.length cap) E cs out lv2 kv2) : cur = roundC bs out := by
  rw [ho.skip.round out (fun _ h => h), h.cur_, List.take_of_length_le]
  rw [hk, ho.ok.len]; exact Nat.le_refl _
end
theorem Skip.len {out bs cs : List Cp} (h : Skip out bs cs) : cs.length ≤ bs.length := by
  induction h with
  | nil => simp
  | keep c _ ih => simp only [List.length_cons]; omega
  | drop c _ _ ih => simp only [List.length_cons]; omega
theorem gs_apart {w : World} {B q mb : Nat} {lv kv v : Value} {L M K : List Cp} {E : List Lk} (g : Gr w B q mb lv kv L M K) (o : OwnS w B v E) : ∀ k, v.ownBlock = some k → ¬ GS q mb lv kv k := by
  rintro k hk (rfl | rfl | h | h)
  · exact own_blk o g.blk (by decide) hk
  · exact own_map o g.map hk
  · exact own_own o hk g.list (by decide) h
  · exact own_own o hk g.keys (by decide) h
theorem CO.last {w wr : World} {q mb : Nat} {l bs cs out : List Cp} {v lv kv : Value} {E : List Lk} (h : CO w wr q mb bs v E cs out lv kv) (hs : roundC cs out = out) (hb : baseL l = bs) : IsClo l out := by
  obtain ⟨m, e⟩ := h.rd
  exact ⟨⟨m, by rw [hb]; exact e⟩, by rw [hb, h.skip.round out (fun _ h => h)]; exact hs⟩
theorem CI.next {w wr wx : World} {q mb sb cap k j : Nat} {bs cs out cur cl : List Cp} {E E' : List Lk} {lv kv lv' kv' : Value} (h : CI w wx q mb sb cap bs E cs out k j E' cur cl lv' kv') (hk : k = E.length) (ho : CO w wr q mb bs (.slice (some ⟨sb, 0, none⟩) E.length cap) E cs out lv kv) :
    CO w wx q mb bs (.slice (some ⟨sb, 0, none⟩) j cap) (E'.take j) cl cur lv' kv' := by
  have hj := h.jk
  have hl := h.len
  refine ⟨h.own.pre j (by omega), h.ok, ?_, h.g6 ho.gr6 ho.skip, ?_, h.gr, h.bl⟩
  · obtain ⟨m, e⟩ := ho.rd
    exact ⟨m + 1, by rw [h.all_ hk ho, e]; rfl⟩
  · have := h.skip
    rw [List.drop_of_length_le (by rw [hk, ho.ok.len]; exact Nat.le_refl _), List.append_nil] at this
    exact this
theorem CI.done {w wr wx : World} {q mb sb cap k j : Nat} {l bs cs out cur cl : List Cp} {E E' : List Lk} {lv kv lv' kv' : Value} (h : CI w wx q mb sb cap bs E cs out k j E' cur cl lv' kv') (hk : k = E.length) (hj : j = k) (ho : CO w wr q mb bs (.slice (some ⟨sb, 0, none⟩) E.length cap) E cs out lv kv) (hb : baseL l = bs) : IsClo l cur := by
  have e1 := h.same hj
  have e2 := h.all_ hk ho
  obtain ⟨m, e⟩ := ho.rd
  subst hb
  exact ⟨⟨m, e1.trans e⟩, by rw [← e1] at e2; exact e2.symm⟩
set_option maxHeartbeats 2000000 in
set_option maxRecDepth 100000 in
theorem close_w (l : List Cp) (A : Option Addr) (n : Nat) (hL : ∀ c ∈ l, RC c) (hl : l.length ≤ 1000) (w : World) (h : Rd w w.heap.size A l) :
    Calls Try.prog 13 #[.slice A l.length n] w (CloPost l w) := by
  have HBEG := Lib.hid (begin_w l A n hL hl w h)
  have hAll := Lib.hid (base_all l hL)
  have hbl := base_len l
  have HL := Lib.hid hL
  clear h hL
  obtain ⟨bs, hbs⟩ : ∃ bs, baseL l = bs := ⟨_, rfl⟩
  rw [hbs] at HBEG hAll hbl
  have HBS := Lib.hid hbs
  clear hbs
  go_enter Try.func13, Try.ntmps13
  go_wp2
  go_step3
  go_wp2_with (first
    | (go_at_call 35; (with_reducible refine HBEG.out.mono ?_); rintro e' w1 ⟨lv, mb, kv, rfl, o1, m1, k1, hmb, bl1⟩; obtain ⟨Al, capl, el, hcl, _, _⟩ := o1.rd; obtain ⟨Ak, capk, ek, _⟩ := k1.rd; subst el ek; have HO1 := Lib.hid o1; have HM1 := Lib.hid m1; have HK1 := Lib.hid k1; have HB1 := Lib.hid bl1; clear o1 m1 k1 bl1)
    | (have HG1 : Hid (Gr (w1.alloc (.cells #[.slice Al bs.length capl, .map (some mb), .slice Ak (keysOf bs).length capk] 53)) w.heap.size w1.heap.size mb (.slice Al bs.length capl) (.slice Ak (keysOf bs).length capk) bs bs (keysOf bs)) := Lib.hid ⟨Blk.new w1 _ [_, _, _], own_fr HO1.out ((Fr.refl w1 (fun _ => False)).alloc _) (fun _ _ h => h), HM1.out.alloc _, own_fr HK1.out ((Fr.refl w1 (fun _ => False)).alloc _) (fun _ _ h => h)⟩; go_at_call 36; (with_reducible refine (locks_w w.heap.size w1.heap.size mb _ _ bs (by omega) _ HG1.out).mono ?_); rintro e' w2 ⟨v, rfl, ov, fv⟩; have HOV := Lib.hid (own_base ov (B' := w.heap.size) (by have := HB1.out.size; simp; omega)); have HG2 := Lib.hid (HG1.out.fr fv id id (fun _ _ => id) (fun _ _ => id)); have HB2 := Lib.hid ((HB1.out.alloc HB1.out.size _).trans (fv.bl (by have := HB1.out.size; simp; omega) (fun _ h => h.elim))); clear ov fv))
  go_step3
  go_wp2
  go_loopw [4] (fun s wr => ∃ v E cs out lv kv, v = s ∧ CO w wr w1.heap.size mb bs v E cs out lv kv) (fun s _ => sliceLen s)
  case atStart => exact ⟨_, _, _, bs, _, _, rfl, HOV.out, LkOK.start bs, ⟨0, rfl⟩, Grown6.refl bs, Skip.sealed bs bs, HG2.out, HB2.out⟩
  case round =>
    have hqB := HB1.out.size
    clear HBEG HO1 HM1 HK1 HB1 HG1 HOV HG2 HB2
    obtain ⟨v, E, cs, out, lv, kv, rfl, hco⟩ := hrel
    have HC := Lib.hid hco
    have hol : out.length ≤ 2000 := by have := hco.gr6.len; omega
    have hEl : E.length ≤ 2000 := by have := hco.ok.len; have := hco.skip.len; omega
    rcases hco.own.form with ⟨rfl, rfl⟩ | ⟨sb, cap, rfl, hcap, hB, hsb⟩
    · clear hco
      go_wp2
      go_loopw [5, 15] (fun s i wx => s = .slice none 0 0 ∧ i = .int .i64 0 ∧ wx = wr) (fun _ _ _ => 0)
      case atStart => exact ⟨rfl, rfl, rfl⟩
      case round =>
        obtain ⟨rfl, rfl, rfl⟩ := hrel
        have d0 := HC.out.gr.cells.1
        go_wp2
        go_ret
        have e0 : cs = [] := List.eq_nil_of_length_eq_zero (by have := HC.out.ok.len; simpa using this.symm)
        exact ⟨_, out, rfl, HC.out.last (by rw [e0]; rfl) HBS.out, HC.out.gr.list, HC.out.bl⟩
    · clear hco
      go_wp2
      go_loopw [5, 15] (fun s i wx => ∃ (k j : Nat) (E' : List Lk) (cur cl : List Cp) (lv kv : Value), i = .int .i64 k ∧ s = .slice (some ⟨sb, 0, none⟩) j cap ∧ CI w wx w1.heap.size mb sb cap bs E cs out k j E' cur cl lv kv) (fun _ i _ => E.length - (intOf i).toNat)
      case atStart => exact ⟨0, 0, E, out, [], lv, kv, rfl, rfl, HC.out.begin⟩
      case round =>
        obtain ⟨k, j, E', cur, cl, lv', kv', rfl, rfl, hci⟩ := hrel
        have HI := Lib.hid hci
        have HG := Lib.hid hci.gr
        have hkE := hci.kE
        have hjk := hci.jk
        have hlen := hci.len
        have hws := hci.bl.size
        have hq := hci.gr.q_lt
        have hg6 := hci.g6 HC.out.gr6 HC.out.skip
        have hcur : cur.length ≤ 2000 := by have := hg6.len; omega
        have HALL := Lib.hid (hg6.all_ hAll.out)
        have hsb' : sb < wr.heap.size := (hci.own.lt sb rfl).2
        have hmlt := hci.gr.map.lt
        clear hci hg6
        by_cases hlt : k < E.length
        · obtain ⟨p, hp⟩ : ∃ p, E[k]? = some p := ⟨_, List.getElem?_eq_getElem hlt⟩
          obtain ⟨c, hcs, hli0⟩ := HC.out.ok.each k p hp
          have hli : LkI cur p c := by
            obtain ⟨u, eu, _⟩ := fold_pre (cs.take k) out
            rw [HI.out.cur_, eu]; exact hli0.more u
          obtain ⟨p0, p1⟩ := HI.out.own.at_ k p ((HI.out.rest k (Nat.le_refl _)).trans hp)
          have HCS := Lib.hid hcs
          have HLI := Lib.hid hli
          have HCR := Lib.hid (HALL.out c (List.mem_of_getElem? hli.at_)).1
          have HKR : Hid (∀ x ∈ cur, RC x) := Lib.hid (fun x hx => (HALL.out x hx).1)
          have hpl : p.1 < cur.length := (List.getElem?_eq_some_iff.1 hli.at_).1
          obtain ⟨ov, hov⟩ : ∃ ov, opensB cur c = ov := ⟨_, rfl⟩
          have HOV := Lib.hid hov
          obtain ⟨Al', capl', el, hcl', _, _⟩ := HG.out.list.rd
          subst el
          have HEC : Hid (E'.length ≤ cap) := Lib.hid (by omega)
          clear hp hcs hli0 hli hov
          cases ov
          · go_upto_region 9 with (first | (go_at_call 37; (with_reducible refine (opens_w w.heap.size w1.heap.size mb wr.heap.size _ _ cur p c HLI.out HCR.out HKR.out (by omega) _ HOV.out _ (HG.out.alloc _) (Blk.new wr _ [_, _])).mono ?_); rintro e' w3 ⟨rfl, tr, hb3, hf3, hn3⟩; have HN3 := Lib.hid hn3; have HB3 := Lib.hid hb3; have HG3 := Lib.hid ((HG.out.alloc _).fr hf3 (by omega) (by omega) (fun g hg e => by have := (HG.out.list.lt g hg).2; omega) (fun g hg e => by have := (HG.out.keys.lt g hg).2; omega)); have OS3 := Lib.hid (own_fr (own_fr HI.out.own ((Fr.refl wr (fun _ => False)).alloc _) (fun _ _ h => h)) hf3 (fun g hg e => by have := (HI.out.own.lt g hg).2; omega)); have BL3 := Lib.hid ((HI.out.bl.alloc hws _).trans (hf3.bl (by simp; omega) (fun i hi => hi ▸ hws))); have hw3 := hf3.size; clear hb3 hf3 hn3))
            obtain ⟨t0, t1⟩ := HB3.out.out2
            have hHs := HB3.out.lt
            have HE3 : Hid (OwnS (w3.alloc (.cells #[.int .i64 p.1, .int .i64 tr] 58)) w.heap.size (.slice (some ⟨sb, 0, none⟩) E'.length cap) E') := Lib.hid (own_fr OS3.out ((Fr.refl w3 (fun _ => False)).alloc _) (fun _ _ h => h))
            have HF4 : Hid (Fr (w3.alloc (.cells #[.int .i64 p.1, .int .i64 tr] 58)) ((w3.alloc (.cells #[.int .i64 p.1, .int .i64 tr] 58)).setCells sb (j * 2) (lkV (p.1, tr))) (fun k => k = sb)) := Lib.hid (((Fr.refl _ (fun k => k = sb)).setCell (p := ⟨sb, j * 2, none⟩) (.inr rfl) _).setCell (p := ⟨sb, j * 2 + 1, none⟩) (.inr rfl) _)
            have HG4 : Hid (Gr ((w3.alloc (.cells #[.int .i64 p.1, .int .i64 tr] 58)).setCells sb (j * 2) (lkV (p.1, tr))) w.heap.size w1.heap.size mb _ _ cur cur (keysOf cur)) := Lib.hid (by
              have ga := gs_apart (HG3.out.alloc _) HE3.out sb rfl
              exact (HG3.out.alloc _).fr HF4.out (fun e => ga (.inl e.symm)) (fun e => ga (.inr (.inl e.symm))) (fun g hg e => ga (.inr (.inr (.inl (e ▸ hg))))) (fun g hg e => ga (.inr (.inr (.inr (e ▸ hg))))))
            have HO4 := Lib.hid (HE3.out.put j (by omega) (p.1, tr))
            have HB4 := Lib.hid ((BL3.out.alloc (by simp at hw3; omega) _).trans (HF4.out.bl (n := w.heap.size) (by simp at hw3; simp; omega) (fun i hi => hi ▸ hB)))
            have HOF := Lib.hid HOV.out
            go_wp2_with (first | (at_builtin; refine app_room rfl (.tmp 28) (.tmp 30) rfl w.heap.size sb cap j E' rfl HE3.out (by omega) HEC.out ⟨w3.heap.size, 0, none⟩ 1 (p.1, tr) rfl (World.news_of_block (heap_alloc_new w3 _)) ?_; generalize (w3.alloc (.cells #[.int .i64 p.1, .int .i64 tr] 58)).setCells sb (j * 2) (lkV (p.1, tr)) = w4 at HF4 HG4 HO4 HB4 ⊢; clear HF4))
            go_roundw
            case rel => exact ⟨k + 1, j + 1, _, cur, _, _, _, by go_num, rfl, HI.out.keep hlt HCS.out (HN3.out HOV.out) HOV.out HO4.out HG4.out HB4.out⟩
            case measure => simp [intOf]; omega
          · go_upto_region 8 with (first | (go_at_call 37; (with_reducible refine (opens_w w.heap.size w1.heap.size mb wr.heap.size _ _ cur p c HLI.out HCR.out HKR.out (by omega) _ HOV.out _ (HG.out.alloc _) (Blk.new wr _ [_, _])).mono ?_); rintro e' w3 ⟨rfl, tr, hb3, hf3, hn3⟩; have HN3 := Lib.hid hn3; have HB3 := Lib.hid hb3; have HG3 := Lib.hid ((HG.out.alloc _).fr hf3 (by omega) (by omega) (fun g hg e => by have := (HG.out.list.lt g hg).2; omega) (fun g hg e => by have := (HG.out.keys.lt g hg).2; omega)); have OS3 := Lib.hid (own_fr (own_fr HI.out.own ((Fr.refl wr (fun _ => False)).alloc _) (fun _ _ h => h)) hf3 (fun g hg e => by have := (HI.out.own.lt g hg).2; omega)); have BL3 := Lib.hid ((HI.out.bl.alloc hws _).trans (hf3.bl (by simp; omega) (fun i hi => hi ▸ hws))); have hw3 := hf3.size; clear hb3 hf3 hn3))
            obtain ⟨t0, t1⟩ := HB3.out.out2
            have hHs := HB3.out.lt
            obtain ⟨d0, d1, d2⟩ := HG3.out.cells
            obtain ⟨A3, cap3, e3, hc3, hr3, _⟩ := HG3.out.list.rd
            cases e3
            obtain ⟨b, o, rfl, hb, c', hc', hr⟩ := hr3.at_ hpl
            obtain rfl : c' = c := by have := HLI.out.at_; rw [hc'] at this; exact Option.some.inj this
            obtain ⟨r0, r1, r2, r3, r4, r5, r6, r7, r8⟩ := hr.out
            clear hc' hr hr3
            go_wp2_with (first
              | (go_at_call 39; (with_reducible refine (unsealed_w c' _).mono ?_); rintro e' w4 ⟨rfl, qk⟩; have HG4 := Lib.hid (HG3.out.kp qk); have OS4 := Lib.hid (own_fr OS3.out (Fr.of_kp qk (fun _ => False)) (fun _ _ h => h)); have BL4 := Lib.hid (BL3.out.trans (qk.1.mono BL3.out.size)); clear qk)
              | (go_at_call 38; (with_reducible refine (glay_w w.heap.size w1.heap.size mb _ _ cur (uns c') HCR.out.uns (by omega) _ BL4.out.size HG4.out).mono ?_); rintro e' w5 ⟨rfl, lv5, kv5, g5, f5⟩; have HG5 := Lib.hid g5; have OS5 := Lib.hid (own_fr OS4.out f5 (gs_apart HG4.out OS4.out)); have BL5 := Lib.hid (BL4.out.trans (f5.bl BL4.out.size (fun i hi => by
                  rcases hi with rfl | rfl | hi | hi
                  · exact hqB
                  · exact hmb
                  · exact (HG4.out.list.lt _ hi).1
                  · exact (HG4.out.keys.lt _ hi).1))); clear g5 f5))
            go_roundw
            case rel => exact ⟨k + 1, j, E', _, cl, lv5, kv5, by go_num, rfl, HI.out.open_ hlt HCS.out HOV.out OS5.out HG5.out BL5.out⟩
            case measure => simp [intOf]; omega
        · have hkk : k = E.length := by omega
          have d0 := HG.out.cells.1
          by_cases hj : j = E.length
          · have eb : ((j : Int) == (E.length : Int)) = true := by rw [hj]; simp
            go_wp2
            go_ret
            exact ⟨_, cur, rfl, HI.out.done hkk (by omega) HC.out HBS.out, HG.out.list, HI.out.bl⟩
          · have eb : ((j : Int) == (E.length : Int)) = false := by simp; omega
            go_wp2
            go_roundw
            case rel => exact ⟨_, _, _, _, _, _, rfl, HI.out.next hkk HC.out⟩
            case measure => simp [sliceLen]; omega
end Go.Proofs.Ytmehbildddlgaaa
