/-
  What the laws over lists share: a list that comes in, opened; the end of a law that leaves all that was there; what comes of some, and of something that comes of them; the contract of CopyCaps. Numbers are within their types.
-/
import Derived.Test.YtkddgjaflcjhiaaORight
import Derived.Test.YtkddgjaflcjhiaaAgg9
import Derived.Test.YtkddgjaflcjhiaaOHas
import Derived.Test.YtkddgjaflcjhiaaOMath
import Derived.ChangeSame
import Derived.Deep.Slices
import Derived.Carry
namespace Go.Proofs.Ytkddgjaflcjhiaa
open Go.ChangeShapes Go.WideShapes Go.ChangeAt Go.RowKit Go.Joins Go.Deep
set_option linter.unusedVariables false
set_option linter.unusedSimpArgs false
section
variable {H : Type} {enc : TypeId × Value → H} {w : World} {base : Nat} {spare : Nat → Bool} {held : Bool}
theorem open_flat9 {P : Program} {t : TypeId} {f0 f1 f2 f3 f4 f5 f6 f7 f8 : Field} (hs : P.underlying t = some (.struct #[f0, f1, f2, f3, f4, f5, f6, f7, f8])) (hone : oneCellFields P #[f0, f1, f2, f3, f4, f5, f6, f7, f8] = true) {fuel : Nat} {c0 c1 c2 c3 c4 c5 c6 c7 c8 : Value} {x : DataW H × List MemPlace} (h : DataW.trod enc P w base spare held fuel t [c0, c1, c2, c3, c4, c5, c6, c7, c8] = some x) :
    ∃ (n : Nat) (y0 y1 y2 y3 y4 y5 y6 y7 y8 : DataW H × List MemPlace), DataW.trod enc P w base spare held n f0.type [c0] = some y0 ∧ DataW.trod enc P w base spare held n f1.type [c1] = some y1 ∧ DataW.trod enc P w base spare held n f2.type [c2] = some y2 ∧ DataW.trod enc P w base spare held n f3.type [c3] = some y3 ∧ DataW.trod enc P w base spare held n f4.type [c4] = some y4 ∧ DataW.trod enc P w base spare held n f5.type [c5] = some y5 ∧ DataW.trod enc P w base spare held n f6.type [c6] = some y6 ∧ DataW.trod enc P w base spare held n f7.type [c7] = some y7 ∧ DataW.trod enc P w base spare held n f8.type [c8] = some y8 := by
  obtain ⟨xs, n, _, hx, _, hlen, hg⟩ := DataW.trod_struct hs h
  obtain ⟨o0, k0⟩ := hone_of hone 0 f0 rfl
  obtain ⟨o1, k1⟩ := hone_of hone 1 f1 rfl
  obtain ⟨o2, k2⟩ := hone_of hone 2 f2 rfl
  obtain ⟨o3, k3⟩ := hone_of hone 3 f3 rfl
  obtain ⟨o4, k4⟩ := hone_of hone 4 f4 rfl
  obtain ⟨o5, k5⟩ := hone_of hone 5 f5 rfl
  obtain ⟨o6, k6⟩ := hone_of hone 6 f6 rfl
  obtain ⟨o7, k7⟩ := hone_of hone 7 f7 rfl
  obtain ⟨o8, k8⟩ := hone_of hone 8 f8 rfl
  match xs, hlen with
  | [y0, y1, y2, y3, y4, y5, y6, y7, y8], _ =>
    exact ⟨n, y0, y1, y2, y3, y4, y5, y6, y7, y8, by simpa [o0, k0] using hg 0 f0 rfl, by simpa [o1, k1] using hg 1 f1 rfl, by simpa [o2, k2] using hg 2 f2 rfl, by simpa [o3, k3] using hg 3 f3 rfl, by simpa [o4, k4] using hg 4 f4 rfl, by simpa [o5, k5] using hg 5 f5 rfl, by simpa [o6, k6] using hg 6 f6 rfl, by simpa [o7, k7] using hg 7 f7 rfl, by simpa [o8, k8] using hg 8 f8 rfl⟩
theorem open_cells9 {fuel : Nat} {cs : List Value} {x : DataW H × List MemPlace} (hl : cs.length = 9) (h : DataW.trod enc Try.prog w base spare held fuel 25 cs = some x) :
    ∃ c : Cp, cs = c.vs ∧ Raw c := by
  match cs, hl with
  | [c0, c1, c2, c3, c4, c5, c6, c7, c8], _ =>
    obtain ⟨n, y0, y1, y2, y3, y4, y5, y6, y7, y8, h0, h1, h2, h3, h4, h5, h6, h7, h8⟩ := open_flat9 Try.underlying25 (by kernel_rfl) h
    obtain ⟨a0, e0, _⟩ := DataW.trod_bool Try.underlying4 h0
    obtain ⟨a1, e1, _, w1⟩ := DataW.trod_int Try.underlying3 h1
    obtain ⟨a2, e2, _, w2⟩ := DataW.trod_int Try.underlying3 h2
    obtain ⟨a3, e3, _, w3⟩ := DataW.trod_int Try.underlying3 h3
    obtain ⟨a4, e4, _, w4⟩ := DataW.trod_int Try.underlying3 h4
    obtain ⟨a5, e5, _, w5⟩ := DataW.trod_int Try.underlying3 h5
    obtain ⟨a6, e6, _, w6⟩ := DataW.trod_int Try.underlying3 h6
    obtain ⟨a7, e7, _⟩ := DataW.trod_bool Try.underlying4 h7
    obtain ⟨a8, e8, _, w8⟩ := DataW.trod_int Try.underlying23 h8
    simp at e0 e1 e2 e3 e4 e5 e6 e7 e8
    subst e0 e1 e2 e3 e4 e5 e6 e7 e8
    exact ⟨⟨a0, a1, a2, a3, a4, a5, a6, a7, a8⟩, rfl, ⟨(i64_bd w1).1, (i64_bd w1).2, (i64_bd w2).1, (i64_bd w2).2, (i64_bd w3).1, (i64_bd w3).2, (i64_bd w4).1, (i64_bd w4).2, (i64_bd w5).1, (i64_bd w5).2, (i64_bd w6).1, (i64_bd w6).2, (u64_bd w8).1, (u64_bd w8).2⟩⟩
end
instance : Inhabited Cp := ⟨⟨false, 0, 0, 0, 0, 0, 0, false, 0⟩⟩
set_option maxHeartbeats 2000000 in
set_option maxRecDepth 100000 in
theorem rightl_b (L : List Cp) (A : Option Addr) (n : Nat) (w : World) (h : Rd w w.heap.size A L) (hl : L.length ≤ 9223372036854775807) (hr : ∀ c ∈ L, Raw c) (v : Bool) (hv : rightL L = v) :
    Calls Try.prog 20 #[.slice A L.length n] w fun e' w' => e' = .returned (.bool v) ∧ Kp w w' := by
  have HR := Lib.hid h
  have HW := Lib.hid hr
  clear h hr
  go_enter Try.func20, Try.ntmps20
  go_wp2
  go_loopw [3] (fun i wr => ∃ k : Nat, k ≤ L.length ∧ i = .int .i64 k ∧ (∀ c ∈ L.take k, rightC c = true) ∧ Kp w wr) (fun i _ => L.length - (intOf i).toNat)
  case atStart => exact ⟨0, Nat.zero_le _, rfl, by simp, Kp.refl w⟩
  case round =>
    obtain ⟨k, hk, rfl, hx, hkp⟩ := hrel
    have HX := Lib.hid hx
    have HKP := Lib.hid hkp
    clear hx hkp
    by_cases hlt : k < L.length
    · obtain ⟨b, o, rfl, hb, c, hc, hr⟩ := (HR.out.kp HKP.out (Nat.le_refl _)).at_ hlt
      obtain ⟨r0, r1, r2, r3, r4, r5, r6, r7, r8⟩ := hr.out
      have HC := Lib.hid hc
      have HCW := Lib.hid (HW.out c (List.mem_of_getElem? hc))
      clear hc hr
      cases ev : rightC c
      all_goals
        have HV := Lib.hid ev
        clear ev
        go_wp2_with (first | (go_at_call 21; (with_reducible refine (right_c c HCW.out _ HV.out _).mono ?_); rintro e' w1 ⟨rfl, qk⟩; have HQ := Lib.hid (HKP.out.trans qk); clear qk))
      · go_ret
        exact ⟨ret_bool (by rw [← hv, eq_comm, rightL, Bool.and_eq_false_iff, List.all_eq_false]; exact .inl ⟨c, List.mem_of_getElem? HC.out, by rw [HV.out]; decide⟩), HQ.out⟩
      · go_roundw
        case rel => exact ⟨k + 1, by omega, by go_num, by
          rw [List.take_add_one, HC.out]; intro d hd; rcases List.mem_append.1 hd with hd | hd
          · exact HX.out d hd
          · have : d = c := by simpa using hd
            subst this; exact HV.out, HQ.out⟩
        case measure => simp [intOf]; omega
    · go_wp2
      go_ret
      exact ⟨ret_bool (by
        have e : L.take k = L := List.take_of_length_le (by omega)
        rw [e] at HX
        rw [← hv, rightL, List.all_eq_true.2 HX.out, Bool.true_and, Bool.eq_iff_iff]
        simp
        omega), HKP.out⟩
set_option maxRecDepth 100000 in
theorem open_caps {H : Type} {enc : TypeId × Value → H} {W : World} {base : Nat} {v : Value} {d : DataW H} {p : List MemPlace} (hv : Value.okWide Try.prog W .any base 29 v) (h : DataW.Trod enc Try.prog W 0 (fun _ => true) true 29 v d p) :
    ∃ (L : List Cp) (A : Option Addr) (n : Nat), v = .slice A L.length n ∧ Rd W W.heap.size A L ∧ (∀ c ∈ L, Raw c) ∧ L.length ≤ 9223372036854775807 := by
  obtain ⟨A, len, cap, rfl⟩ := okWide_slice Try.underlying29 hv
  obtain ⟨fuel, hf⟩ := h
  have hf' : DataW.trod enc Try.prog W 0 (fun _ => true) true fuel 29 [.slice A len cap] = some (d, p) := by simpa [Value.cells] using hf
  have hC : Try.prog.cellsOf 25 = 9 := by kernel_rfl
  rcases open_slice Try.underlying29 hf' with ⟨e, _⟩ | ⟨a, len', cap', m, n, D, Pl, e, _, hl, hm, hmm, _, hx⟩
  · simp at e
    obtain ⟨rfl, rfl, rfl⟩ := e
    exact ⟨[], none, 0, rfl, Rd.nil _ _ _, by simp, by simp⟩
  · simp at e
    obtain ⟨rfl, rfl, rfl⟩ := e
    have hmc : m = cap := by simpa using hmm
    subst hmc
    rw [hC] at hx
    have each : ∀ i, i < len → ∃ c : Cp, Raw c ∧ ∀ (j : Nat) (u : Value), c.vs[j]? = some u → W.cell? (a.add (i * 9 + j)) = some u := by
      intro i hi
      obtain ⟨cs, h1, h2⟩ := hx i (by omega)
      obtain ⟨_, hlen, hcell⟩ := World.cells?_some h1
      obtain ⟨c, rfl, hr⟩ := open_cells9 hlen h2
      refine ⟨c, hr, fun j u hj => ?_⟩
      have hj9 : j < 9 := by have := (List.getElem?_eq_some_iff.1 hj).1; rwa [Cp.vs_len] at this
      have := hcell j hj9
      rw [add_add] at this
      rw [this, hj]
    obtain ⟨q, hq⟩ := choose_lt each
    have hat : ∀ (i : Nat) (c : Cp), ((List.range len).map q)[i]? = some c → i < len ∧ c = q i := by
      intro i c hi
      rw [List.getElem?_map] at hi
      by_cases h : i < len
      · rw [List.getElem?_range h] at hi
        simp at hi
        exact ⟨h, hi.symm⟩
      · rw [List.getElem?_eq_none (by simp; omega)] at hi; cases hi
    refine ⟨(List.range len).map q, some a, m, by simp, fun hn => ?_, ?_, ?_⟩
    · have h0 : 0 < len := by simpa using hn
      obtain ⟨b, off, spot⟩ := a
      have g0 := (hq 0 h0).2 0 _ rfl
      have hspot : spot = none := by simpa [Addr.add] using World.cell?_spot g0
      subst hspot
      refine ⟨b, off, rfl, ?_, fun i c hi j u hj => ?_⟩
      · have := World.block_lt_of_cell? W _ g0
        rw [Addr.add_lit] at this
        exact this
      · obtain ⟨hi', rfl⟩ := hat i c hi
        have := (hq i hi').2 j u hj
        rw [Addr.add_lit] at this
        rw [← this]; congr 2; omega
    · intro c hc
      obtain ⟨i, hi, rfl⟩ := List.mem_map.1 hc
      exact (hq i (List.mem_range.1 hi)).1
    · simp
      have : maxLen = 9223372036854775807 := rfl
      omega
section
variable {H : Type} {enc : TypeId × Value → H} {P : Program}
theorem post_below {f : Func} {s : ChangeSpec} {apart fresh handsOn again : Bool} {W W' : World} {args : Array Value} {v : Value} {ds gs : List (DataW H)} {before pa pv : List MemPlace}
    (hW : DataW.Whole enc P f.params.toList s.vars apart W args.toList ds gs before)
    (hres : ∀ (b : Nat) (sp : Nat → Bool) (hd : Bool), DataW.TrodAll enc P W' b sp hd f.resultTypes.toList (v.resultList f.resultTypes.size) (s.fn H (ds ++ gs)).results [])
    (hargs : ∀ sp : Nat → Bool, (∀ p ∈ before, sp p.block = true) → DataW.TrodAll enc P W' 0 sp true f.params.toList args.toList (s.fn H (ds ++ gs)).args pa)
    (hvars : ∀ sp : Nat → Bool, (∀ p ∈ before, sp p.block = true) → DataW.TrodVars enc P W' sp s.vars (s.fn H (ds ++ gs)).vars pv)
    (hps : before = pa ++ pv) (hb : Below W.heap.size W W')
    (hok : ∀ (j : Nat) (t : TypeId) (r : Value), f.resultTypes[j]? = some t → (v.resultList f.resultTypes.size)[j]? = some r → Value.okWide P W' .any 0 t r) :
    s.post enc P f apart fresh handsOn again W args v W' := by
  have hlt : ∀ p ∈ before, p.block < W.heap.size := fun p hp => hW.lt p hp
  have hold : ∀ p ∈ before, (fun b => decide (b < W.heap.size)) p.block = true := fun p hp => by simpa using hlt p hp
  have hfz : ∀ b off, b < W.heap.size → W'.frozen? ⟨b, off, none⟩ = W.frozen? ⟨b, off, none⟩ := fun b off h => World.frozen?_of_block (a := ⟨b, off, none⟩) (hb.block b h)
  refine ⟨ds, gs, before, [], pa, pv, hW, hres _ _ _, hargs _ hold, hvars _ hold, World.keptBut_mono (fun p hp => ⟨hp, ?_⟩) (hb.frame _), fun _ => ?_⟩
  · rw [hps, List.mem_append] at hp
    exact Or.inr hp
  · obtain ⟨_, _, _, _, _, hz, hn⟩ := hW
    refine ⟨hok, _, _, ([] ++ pa) ++ pv, ⟨[] ++ pa, pv, trodAll_append (hargs _ (fun _ _ => rfl)) (hres _ _ _), hvars _ (fun _ _ => rfl), rfl, ?_, ?_⟩, ?_⟩
    · intro b off hp
      have hm : MemPlace.cell b off ∈ before := by rw [hps]; simpa using hp
      exact (hfz b off (hlt _ hm)).trans (hz b off hm)
    · intro ha
      have := hn ha
      rw [hps] at this
      simpa using this
    · intro p hp _
      rw [hps]
      simpa using hp
end

/-- What the closure has, one by one. -/
inductive Der (l : List Cp) : Cp → Prop
  | base (x : Cp) : x ∈ l → x.tg = true → Der l x
  | sentry (y : Cp) : Der l y → y.ty = 262142 → Der l (uns y)
  | open_ (y k : Cp) : Der l y → Der l k → canD k 256 y.ty = true → Der l (uns y)
theorem Der.tg {l : List Cp} {x : Cp} (h : Der l x) : x.tg = true := by
  induction h with
  | base x _ h => exact h
  | sentry y _ _ ih => exact ih
  | open_ y k _ _ _ ih _ => exact ih
theorem Der.mono {l l' : List Cp} (hs : ∀ x ∈ l, x ∈ l') {x : Cp} (h : Der l x) : Der l' x := by
  induction h with
  | base x h1 h2 => exact .base x (hs x h1) h2
  | sentry y _ e ih => exact .sentry y ih e
  | open_ y k _ _ e ih1 ih2 => exact .open_ y k ih1 ih2 e
theorem opens_iff (out : List Cp) (c : Cp) : opensB out c = true ↔ c.ty = 262142 ∨ ∃ k ∈ out, canD k 256 c.ty = true := by
  unfold opensB keyB
  rw [Bool.or_eq_true, beq_iff_eq, List.any_eq_true]
theorem round_der (l bs out : List Cp) (hb : ∀ c ∈ bs, Der l c) (ho : ∀ x ∈ out, Der l x) : ∀ x ∈ roundC bs out, Der l x := by
  refine fold_inv stepC (fun out => ∀ x ∈ out, Der l x) bs out ho (fun o c hc hP => ?_)
  intro x hx
  unfold stepC at hx
  split at hx
  · rename_i hop
    rcases (mem_addC _ _ _).1 hx with hx | rfl
    · exact hP x hx
    · rcases (opens_iff o c).1 hop with e | ⟨k, hk, e⟩
      · exact .sentry c (hb c hc) e
      · exact .open_ c k (hb c hc) (hP k hk) e
  · exact hP x hx
theorem der_of_clo {l : List Cp} {x : Cp} (h : x ∈ clo l) : Der l x := by
  have hb : ∀ c ∈ baseL l, Der l c := fun c hc => by obtain ⟨h1, h2⟩ := (base_mem l c).1 hc; exact .base c h1 h2
  have key : ∀ n, ∀ x ∈ rounds (baseL l) n, Der l x := by
    intro n
    induction n with
    | zero => exact hb
    | succ n ih => exact round_der l _ _ hb ih
  exact key _ x h
theorem round_fix (bs out : List Cp) (h : roundC bs out = out) : ∀ c ∈ bs, stepC out c = out := by
  induction bs with
  | nil => simp
  | cons c bs ih =>
    have h' : roundC bs (stepC out c) = out := h
    obtain ⟨u, e, _⟩ := step_pre out c
    obtain ⟨u', e', _⟩ := fold_pre bs (stepC out c)
    have hu : u = [] := by
      rw [h', e, List.append_assoc] at e'
      have := congrArg List.length e'
      simp at this
      exact this.1
    rw [hu, List.append_nil] at e
    rw [e] at h'
    intro d hd
    rcases List.mem_cons.1 hd with rfl | hd
    · exact e
    · exact ih h' d hd
theorem clo_closed {l : List Cp} {y : Cp} (hy : y ∈ clo l) (ho : opensB (clo l) y = true) : uns y ∈ clo l := by
  rcases (clo_grown l).mem y hy with hb | ⟨hu, _⟩
  · have := round_fix _ _ (isClo_clo l).2 y hb
    unfold stepC at this
    rw [if_pos ho] at this
    unfold addC at this
    split at this
    · assumption
    · have := congrArg List.length this; simp at this
  · rw [opens_unsealed _ _ hu] at ho; cases ho
theorem clo_of_der {l : List Cp} {x : Cp} (h : Der l x) : x ∈ clo l := by
  induction h with
  | base x h1 h2 =>
    obtain ⟨⟨u, e, _⟩, _⟩ := clo_grown l
    rw [e]; exact List.mem_append.2 (.inl ((base_mem l x).2 ⟨h1, h2⟩))
  | sentry y _ e ih => exact clo_closed ih ((opens_iff _ _).2 (.inl e))
  | open_ y k _ _ e ih1 ih2 => exact clo_closed ih1 ((opens_iff _ _).2 (.inr ⟨k, ih2, e⟩))
theorem has_iff (l : List Cp) (c : Cp) : hasB l c = true ↔ c.tg = false ∨ c ∈ l ∨ ((∃ b ∈ clo l, lessB (uns c) b = true) ∧ (c.sealed = false ∨ (c.ty = 262142 ∧ hasP c.pe 2 = true) ∨ (c.ty ≠ 262142 ∧ ∃ b ∈ clo l, canD b 128 c.ty = true))) := by
  rw [hasB, Bool.or_eq_true, Bool.or_eq_true, Bool.and_eq_true, Bool.or_eq_true, List.any_eq_true, decide_eq_true_eq, Bool.not_eq_true', Bool.not_eq_true', or_assoc]
  have e : (if c.ty = 262142 then hasP c.pe 2 else (clo l).any (fun b => canD b 128 c.ty)) = true ↔ (c.ty = 262142 ∧ hasP c.pe 2 = true) ∨ (c.ty ≠ 262142 ∧ ∃ b ∈ clo l, canD b 128 c.ty = true) := by
    split
    · rename_i h; simp [h]
    · rename_i h; simp [h]
  rw [e]
theorem uns_self {c : Cp} (h : c.sealed = false) : uns c = c := by
  have e : c.ty = 262143 := by simpa [Cp.sealed, sealedB] using h
  unfold uns; rw [← e]
theorem uns_uns (c : Cp) : uns (uns c) = uns c := uns_self (uns_unsealed c)
theorem and_per (x p : Int) (p0 : 0 ≤ p) (p1 : p < 65536) : hasP x p = perB x p := by
  rw [hasP, Bool.eq_iff_iff, per_bits, beq_iff_eq, and_ub]
  have hp : ub (bv p) = p := ub_bv p (by omega) (by omega)
  constructor
  · intro h i hi hx
    have h2 : bv x &&& bv p = bv p := by rw [← bv_ub (bv x &&& bv p), h]
    have h3 : (bv x &&& bv p).getLsbD i = true := by rw [h2]; exact hx
    rw [BitVec.getLsbD_and, Bool.and_eq_true] at h3
    exact h3.1
  · intro h
    have h2 : bv x &&& bv p = bv p := by
      apply BitVec.eq_of_getLsbD_eq
      intro i hi
      rw [BitVec.getLsbD_and]
      cases hx : (bv p).getLsbD i
      · simp
      · rw [h i hi hx]; rfl
    rw [h2, hp]
theorem names_wi {b t : Int} {o : Bool} {c u : Int} {q : Bool} {k : Int} (h : withinB b t o c u q = true) (k1 : namesB b t o k = true) : namesB c u q k = true := by
  simp only [namesB, withinB, inB, ltB, Bool.and_eq_true, Bool.not_eq_true', decide_eq_true_eq, decide_eq_false_iff_not] at *
  omega
/-- What can be done by one can be done by a greater one. -/
theorem can_less {k b : Cp} {p t : Int} (p0 : 0 ≤ p) (p1 : p < 65536) (h : lessB k b = true) (c : canD k p t = true) : canD b p t = true := by
  obtain ⟨h1, h2, h3, h4, h5, h6⟩ := (less_iff k b).1 h
  simp only [canD, Bool.and_eq_true, Bool.not_eq_true'] at c ⊢
  obtain ⟨⟨_, c2⟩, c3⟩ := c
  rw [and_per _ _ p0 p1] at c2 ⊢
  exact ⟨⟨h3, per_trans _ _ _ h6 c2⟩, names_wi h5 c3⟩
/-- An unsealed one that comes of some is no more than one of the closure. -/
theorem has_cov {l : List Cp} {x : Cp} (ht : x.tg = true) (hs : x.sealed = false) (h : hasB l x = true) : ∃ b ∈ clo l, lessB x b = true := by
  rcases (has_iff l x).1 h with h | h | ⟨⟨b, hb, h⟩, _⟩
  · rw [ht] at h; cases h
  · exact ⟨x, clo_of_der (.base x h ht), by rw [less_refl, ht, hs]; rfl⟩
  · rw [uns_self hs] at h; exact ⟨b, hb, h⟩
theorem can_cov {l : List Cp} {x : Cp} {p t : Int} (p0 : 0 ≤ p) (p1 : p < 65536) (ht : x.tg = true) (h : hasB l x = true) (c : canD x p t = true) : ∃ b ∈ clo l, canD b p t = true := by
  have hs : x.sealed = false := by
    simp only [canD, Bool.and_eq_true, Bool.not_eq_true'] at c; exact c.1.1
  obtain ⟨b, hb, h⟩ := has_cov ht hs h
  exact ⟨b, hb, can_less p0 p1 h c⟩
theorem has_more {l l' : List Cp} (hs : ∀ x ∈ l, x ∈ l') {c : Cp} (h : hasB l c = true) : hasB l' c = true := by
  have sub : ∀ x ∈ clo l, x ∈ clo l' := fun x hx => clo_of_der ((der_of_clo hx).mono hs)
  rw [has_iff] at h ⊢
  rcases h with h | h | ⟨⟨b, hb, h1⟩, h2⟩
  · exact .inl h
  · exact .inr (.inl (hs c h))
  · refine .inr (.inr ⟨⟨b, sub b hb, h1⟩, ?_⟩)
    rcases h2 with h2 | h2 | ⟨h2, k, hk, h3⟩
    · exact .inl h2
    · exact .inr (.inl h2)
    · exact .inr (.inr ⟨h2, k, sub k hk, h3⟩)
/-- Opened: of one that comes of some, what it is without its seal, if something that comes of them opens it. -/
theorem has_open {l : List Cp} {y : Cp} (ht : y.tg = true) (h : hasB l y = true) (ho : y.ty = 262142 ∨ ∃ b ∈ clo l, canD b 256 y.ty = true) : hasB l (uns y) = true := by
  have tu : (uns y).tg = true := ht
  have su := uns_unsealed y
  rw [has_iff]
  right; right
  refine ⟨?_, .inl su⟩
  rw [uns_uns]
  rcases (has_iff l y).1 h with h | h | ⟨h, _⟩
  · rw [ht] at h; cases h
  · refine ⟨uns y, ?_, by rw [less_refl, tu, su]; rfl⟩
    exact clo_closed (clo_of_der (.base y h ht)) ((opens_iff _ _).2 ho)
  · exact h
theorem der_has {l m : List Cp} (hm : ∀ x ∈ m, x.tg = true → hasB l x = true) {x : Cp} (h : Der m x) : hasB l x = true := by
  induction h with
  | base x h1 h2 => exact hm x h1 h2
  | sentry y hy e ih => exact has_open hy.tg ih (.inl e)
  | open_ y k hy hk e ih1 ih2 =>
    exact has_open hy.tg ih1 (.inr (can_cov (by omega) (by omega) hk.tg ih2 e))
/-- What comes of some that all come of others comes of these. -/
theorem has_trans {l m : List Cp} (hm : ∀ x ∈ m, x.tg = true → hasB l x = true) {c : Cp} (h : hasB m c = true) : hasB l c = true := by
  cases ht : c.tg
  · rw [has_iff]; exact .inl ht
  · rcases (has_iff m c).1 h with h | h | ⟨⟨b, hb, h1⟩, h2⟩
    · rw [ht] at h; cases h
    · exact hm c h ht
    · have hbl := (less_iff _ _).1 h1
      obtain ⟨b', hb', h3⟩ := has_cov hbl.2.2.2.1 hbl.2.2.1 (der_has hm (der_of_clo hb))
      rw [has_iff]
      refine .inr (.inr ⟨⟨b', hb', less_trans h1 h3⟩, ?_⟩)
      rcases h2 with h2 | h2 | ⟨h2, k, hk, h4⟩
      · exact .inl h2
      · exact .inr (.inl h2)
      · obtain ⟨k', hk', h5⟩ := can_cov (by omega) (by omega) (der_of_clo hk).tg (der_has hm (der_of_clo hk)) h4
        exact .inr (.inr ⟨h2, k', hk', h5⟩)
theorem has_mem {l : List Cp} {c : Cp} (h : c ∈ l) : hasB l c = true := by rw [has_iff]; exact .inr (.inl h)
theorem has_again {l : List Cp} {d c : Cp} (hd : hasB l d = true) : hasB (l ++ [d]) c = hasB l c := by
  rw [Bool.eq_iff_iff]
  constructor
  · refine has_trans (fun x hx _ => ?_)
    rcases List.mem_append.1 hx with hx | hx
    · exact has_mem hx
    · have : x = d := by simpa using hx
      subst this; exact hd
  · exact has_more (fun x hx => List.mem_append.2 (.inl hx))
set_option maxHeartbeats 2000000 in
set_option maxRecDepth 100000 in
theorem copy_w (L : List Cp) (A : Option Addr) (n : Nat) (hl : L.length ≤ 1000) (w : World) (h : Rd w w.heap.size A L) :
    Calls Try.prog 33 #[.slice A L.length n] w fun e w' => ∃ v, e = .returned v ∧ OwnC w' w.heap.size v L ∧ Below w.heap.size w w' := by
  have HR := Lib.hid h
  clear h
  go_enter Try.func33, Try.ntmps33
  go_wp2
  go_loopw [3, 4] (fun s i wr => ∃ (k : Nat) (v : Value), k ≤ L.length ∧ i = .int .i64 k ∧ v = s ∧ OwnC wr w.heap.size v (L.take k) ∧ Below w.heap.size w wr) (fun _ i _ => L.length - (intOf i).toNat)
  case atStart => exact ⟨0, _, Nat.zero_le _, rfl, rfl, OwnC.nil _ _, Below.refl _ _⟩
  case round =>
    obtain ⟨k, v, hk, rfl, rfl, hown, hbl⟩ := hrel
    have hws : w.heap.size ≤ wr.heap.size := hbl.size
    have HO := Lib.hid hown
    have HB := Lib.hid hbl
    clear hown hbl
    by_cases hlt : k < L.length
    · obtain ⟨b, o, rfl, hb, c, hc, hr⟩ := (HR.out.keep (w' := wr) (fun p hp => HB.out.cell hp)).at_ hlt
      obtain ⟨r0, r1, r2, r3, r4, r5, r6, r7, r8⟩ := hr.out
      have hb' : b < wr.heap.size := by omega
      have hlen : (L.take k).length = k := by rw [List.length_take]; omega
      have HST : Hid (L.take (k + 1) = L.take k ++ [c]) := Lib.hid (by rw [List.take_add_one, hc]; rfl)
      clear hc hr
      go_wp2_with (first | (at_builtin; refine app_c rfl (.tmp 11) (.tmp 16) rfl w.heap.size _ (L.take k) rfl (own_fr HO.out ((Fr.refl wr (fun _ => False)).alloc _) (fun _ _ h => h)) ⟨wr.heap.size, 0, none⟩ 1 c rfl (World.news_of_block (heap_alloc_new wr _)) (by omega) (by simp; omega) (wr.heap.size + 1) (by simp) ?_; intro g cap' w2 hown2 hg2 hat2 hlt2; have HO2 := Lib.hid hown2; have HB2 := Lib.hid (below_grown (HB.out.alloc hws _) hg2 (by simp; omega) (own_fr HO.out ((Fr.refl wr (fun _ => False)).alloc _) (fun _ _ h => h))); clear hown2 hg2 hat2))
      go_roundw
      case rel => exact ⟨k + 1, _, by omega, by go_num, rfl, by have := HO2.out; rw [hlen] at this; rw [HST.out]; exact this, HB2.out⟩
      case measure => simp [intOf]; omega
    · go_wp2
      go_ret
      exact ⟨_, rfl, by have e0 : L.take k = L := List.take_of_length_le (by omega); rw [e0] at HO; exact HO.out, HB.out⟩
end Go.Proofs.Ytkddgjaflcjhiaa
