/-
  Lists of acts, and of numbers, that come in, opened; the end of a law that leaves all that was there. No condition.
-/
import Derived.Test.YtlpijioiopbmpaaQFr
import Derived.OpenShut
import Derived.Lib.SmallJoins
import Derived.ChangeSame
import Derived.Deep.Slices
import Derived.Carry
namespace Go.Proofs.Ytlpijioiopbmpaa
open Go.ChangeShapes Go.WideShapes Go.ChangeAt Go.RowKit Go.Joins Go.Deep
set_option linter.unusedVariables false
set_option linter.unusedSimpArgs false
section
variable {H : Type} {enc : TypeId × Value → H} {P : Program}
theorem post_belowT {f : Func} {s : ChangeSpec} {apart fresh handsOn again : Bool} {W W' : World} {args : Array Value} {v : Value} {ds gs : List (DataW H)} {before pa pv : List MemPlace}
    (hW : DataW.Whole enc P f.params.toList s.vars apart W args.toList ds gs before)
    (hres : ∀ (b : Nat) (sp : Nat → Bool) (hd : Bool), DataW.TrodAll enc P W' b sp hd f.resultTypes.toList (v.resultList f.resultTypes.size) (s.fn H (ds ++ gs)).results [])
    (hargs : ∀ sp : Nat → Bool, (∀ p ∈ before, sp p.block = true) → DataW.TrodAll enc P W' 0 sp true f.params.toList args.toList (s.fn H (ds ++ gs)).args pa)
    (hvars : ∀ sp : Nat → Bool, (∀ p ∈ before, sp p.block = true) → DataW.TrodVars enc P W' sp s.vars (s.fn H (ds ++ gs)).vars pv)
    (hps : before = pa ++ pv) (hb : Below W.heap.size W W')
    (hok : ∀ (j : Nat) (t : TypeId) (r : Value), f.resultTypes[j]? = some t → (v.resultList f.resultTypes.size)[j]? = some r → Value.okWide P W' .any 0 t r) :
    s.post enc P f apart fresh handsOn again W args v W' := by
  have hlt : ∀ p ∈ before, p.block < W.heap.size := fun p hp => hW.lt p hp
  have hold : ∀ p ∈ before, (fun b => decide (b < W.heap.size)) p.block = true := fun p hp => by simpa using hlt p hp
  have hfz : ∀ b off, b < W.heap.size → W'.frozen? ⟨b, off, none⟩ = W.frozen? ⟨b, off, none⟩ := fun b off h => World.frozen?_of_block (a := ⟨b, off, none⟩) (hb.block b h)
  refine ⟨ds, gs, before, [], pa, pv, hW, hres _ _ _, hargs _ hold, hvars _ hold, World.keptBut_mono (fun p hp => ⟨hp, ?_⟩) (hb.frame _), fun _ => ?_⟩
  · rw [hps, List.mem_append] at hp
    exact Or.inr hp
  · obtain ⟨_, _, _, _, _, hz, hn⟩ := hW
    refine ⟨hok, _, _, ([] ++ pa) ++ pv, ⟨[] ++ pa, pv, trodAll_append (hargs _ (fun _ _ => rfl)) (hres _ _ _), hvars _ (fun _ _ => rfl), rfl, ?_, ?_⟩, ?_⟩
    · intro b off hp
      have hm : MemPlace.cell b off ∈ before := by rw [hps]; simpa using hp
      exact (hfz b off (hlt _ hm)).trans (hz b off hm)
    · intro ha
      have := hn ha
      rw [hps] at this
      simpa using this
    · intro p hp _
      rw [hps]
      simpa using hp
end
structure Tc where
  k : Int
  off : Int
  size : Int
  v : Int
instance : Inhabited Tc := ⟨⟨0, 0, 0, 0⟩⟩
def Tc.vs (c : Tc) : List Value := [.int .i64 c.k, .int .i64 c.off, .int .i64 c.size, .int .u64 c.v]
theorem Tc.vs_len (c : Tc) : c.vs.length = 4 := rfl
/-- Its numbers are within their types. -/
def Tc.Raw (c : Tc) : Prop := (-9223372036854775808 ≤ c.k ∧ c.k < 9223372036854775808) ∧ (-9223372036854775808 ≤ c.off ∧ c.off < 9223372036854775808) ∧ (-9223372036854775808 ≤ c.size ∧ c.size < 9223372036854775808) ∧ (0 ≤ c.v ∧ c.v < 18446744073709551616)
/-- It lies in so many cells. -/
def RowTc (w : World) (b o : Nat) (c : Tc) : Prop := ∀ (i : Nat) (u : Value), c.vs[i]? = some u → w.cell? ⟨b, o + i, none⟩ = some u
theorem RowTc.out {w : World} {b o : Nat} {c : Tc} (h : RowTc w b o c) : w.cell? ⟨b, o, none⟩ = some (.int .i64 c.k) ∧ w.cell? ⟨b, o + 1, none⟩ = some (.int .i64 c.off) ∧ w.cell? ⟨b, o + 2, none⟩ = some (.int .i64 c.size) ∧ w.cell? ⟨b, o + 3, none⟩ = some (.int .u64 c.v) := ⟨h 0 _ rfl, h 1 _ rfl, h 2 _ rfl, h 3 _ rfl⟩
theorem RowTc.keep {w w' : World} {b o : Nat} {c : Tc} (h : RowTc w b o c) (k : ∀ p : Addr, p.block = b → w'.cell? p = w.cell? p) : RowTc w' b o c := fun i u hi => (k _ rfl).trans (h i u hi)
/-- A slice of so many elements at that address holds these, in a block below B. -/
def RdTc (w : World) (B : Nat) (A : Option Addr) (L : List Tc) : Prop := 0 < L.length → ∃ b o, A = some ⟨b, o, none⟩ ∧ b < B ∧ ∀ (i : Nat) (c : Tc), L[i]? = some c → RowTc w b (o + i * 4) c
theorem RdTc.nil (w : World) (B : Nat) (A : Option Addr) : RdTc w B A [] := fun h => absurd h (by simp)
theorem RdTc.keep {w w' : World} {B : Nat} {A : Option Addr} {L : List Tc} (h : RdTc w B A L) (k : ∀ p : Addr, p.block < B → w'.cell? p = w.cell? p) : RdTc w' B A L := fun hn => by
  obtain ⟨b, o, e, hb, hr⟩ := h hn
  exact ⟨b, o, e, hb, fun i c hi => (hr i c hi).keep fun p hp => k p (by omega)⟩
theorem RdTc.below {w w' : World} {B : Nat} {A : Option Addr} {L : List Tc} (h : RdTc w B A L) (k : Below B w w') : RdTc w' B A L := h.keep fun p hp => k.cell hp
theorem RdTc.at_ {w : World} {B : Nat} {A : Option Addr} {L : List Tc} (h : RdTc w B A L) {k : Nat} (hk : k < L.length) : ∃ b o, A = some ⟨b, o, none⟩ ∧ b < B ∧ ∃ c, L[k]? = some c ∧ RowTc w b (o + k * 4) c := by
  obtain ⟨b, o, e, hb, hr⟩ := h (by omega)
  exact ⟨b, o, e, hb, _, List.getElem?_eq_getElem hk, hr k _ (List.getElem?_eq_getElem hk)⟩
section
variable {H : Type} {enc : TypeId × Value → H} {w : World} {base : Nat} {spare : Nat → Bool} {held : Bool}
theorem open_flatTc {P : Program} {t : TypeId} {f0 f1 f2 f3 : Field} (hs : P.underlying t = some (.struct #[f0, f1, f2, f3])) (hone : oneCellFields P #[f0, f1, f2, f3] = true) {fuel : Nat} {c0 c1 c2 c3 : Value} {x : DataW H × List MemPlace} (h : DataW.trod enc P w base spare held fuel t [c0, c1, c2, c3] = some x) :
    ∃ (n : Nat) (y0 y1 y2 y3 : DataW H × List MemPlace), DataW.trod enc P w base spare held n f0.type [c0] = some y0 ∧ DataW.trod enc P w base spare held n f1.type [c1] = some y1 ∧ DataW.trod enc P w base spare held n f2.type [c2] = some y2 ∧ DataW.trod enc P w base spare held n f3.type [c3] = some y3 := by
  obtain ⟨xs, n, _, hx, _, hlen, hg⟩ := DataW.trod_struct hs h
  obtain ⟨o0, k0⟩ := hone_of hone 0 f0 rfl
  obtain ⟨o1, k1⟩ := hone_of hone 1 f1 rfl
  obtain ⟨o2, k2⟩ := hone_of hone 2 f2 rfl
  obtain ⟨o3, k3⟩ := hone_of hone 3 f3 rfl
  match xs, hlen with
  | [y0, y1, y2, y3], _ =>
    exact ⟨n, y0, y1, y2, y3, by simpa [o0, k0] using hg 0 f0 rfl, by simpa [o1, k1] using hg 1 f1 rfl, by simpa [o2, k2] using hg 2 f2 rfl, by simpa [o3, k3] using hg 3 f3 rfl⟩
theorem i64_bdTc {a : Int} (h : (Lit.int .i64 a).wf = true) : -9223372036854775808 ≤ a ∧ a < 9223372036854775808 := by
  have hm0 : IntKind.i64.min = -9223372036854775808 := rfl
  have hm1 : IntKind.i64.max = 9223372036854775807 := rfl
  simp only [Lit.wf, Bool.and_eq_true, decide_eq_true_eq, hm0, hm1] at h
  omega
theorem u64_bdTc {a : Int} (h : (Lit.int .u64 a).wf = true) : 0 ≤ a ∧ a < 18446744073709551616 := by
  have hm0 : IntKind.u64.min = 0 := rfl
  have hm1 : IntKind.u64.max = 18446744073709551615 := rfl
  simp only [Lit.wf, Bool.and_eq_true, decide_eq_true_eq, hm0, hm1] at h
  omega
theorem open_cellsTc {fuel : Nat} {cs : List Value} {x : DataW H × List MemPlace} (hl : cs.length = 4) (h : DataW.trod enc Try.prog w base spare held fuel 30 cs = some x) :
    ∃ c : Tc, cs = c.vs ∧ c.Raw := by
  match cs, hl with
  | [c0, c1, c2, c3], _ =>
    obtain ⟨n, y0, y1, y2, y3, h0, h1, h2, h3⟩ := open_flatTc Try.underlying30 (by kernel_rfl) h
    obtain ⟨a0, e0, _, w0⟩ := DataW.trod_int Try.underlying3 h0
    obtain ⟨a1, e1, _, w1⟩ := DataW.trod_int Try.underlying3 h1
    obtain ⟨a2, e2, _, w2⟩ := DataW.trod_int Try.underlying3 h2
    obtain ⟨a3, e3, _, w3⟩ := DataW.trod_int Try.underlying28 h3
    simp at e0 e1 e2 e3
    subst e0 e1 e2 e3
    exact ⟨⟨a0, a1, a2, a3⟩, rfl, ⟨i64_bdTc w0, i64_bdTc w1, i64_bdTc w2, u64_bdTc w3⟩⟩
end
set_option maxRecDepth 100000 in
theorem open_Tc {H : Type} {enc : TypeId × Value → H} {W : World} {base : Nat} {v : Value} {d : DataW H} {p : List MemPlace} (hv : Value.okWide Try.prog W .any base 22 v) (h : DataW.Trod enc Try.prog W 0 (fun _ => true) true 22 v d p) :
    ∃ (L : List Tc) (A : Option Addr) (n : Nat), v = .slice A L.length n ∧ RdTc W W.heap.size A L ∧ (∀ c ∈ L, c.Raw) ∧ L.length ≤ 9223372036854775807 := by
  obtain ⟨A, len, cap, rfl⟩ := okWide_slice Try.underlying22 hv
  obtain ⟨fuel, hf⟩ := h
  have hf' : DataW.trod enc Try.prog W 0 (fun _ => true) true fuel 22 [.slice A len cap] = some (d, p) := by simpa [Value.cells] using hf
  have hC : Try.prog.cellsOf 30 = 4 := by kernel_rfl
  rcases open_slice Try.underlying22 hf' with ⟨e, _⟩ | ⟨a, len', cap', m, n, D, Pl, e, _, hl, hm, hmm, _, hx⟩
  · simp at e
    obtain ⟨rfl, rfl, rfl⟩ := e
    exact ⟨[], none, 0, rfl, RdTc.nil _ _ _, by simp, by simp⟩
  · simp at e
    obtain ⟨rfl, rfl, rfl⟩ := e
    have hmc : m = cap := by simpa using hmm
    subst hmc
    rw [hC] at hx
    have each : ∀ i, i < len → ∃ c : Tc, c.Raw ∧ ∀ (j : Nat) (u : Value), c.vs[j]? = some u → W.cell? (a.add (i * 4 + j)) = some u := by
      intro i hi
      obtain ⟨cs, h1, h2⟩ := hx i (by omega)
      obtain ⟨_, hlen, hcell⟩ := World.cells?_some h1
      obtain ⟨c, rfl, hr⟩ := open_cellsTc hlen h2
      refine ⟨c, hr, fun j u hj => ?_⟩
      have hj9 : j < 4 := by have := (List.getElem?_eq_some_iff.1 hj).1; rwa [Tc.vs_len] at this
      have := hcell j hj9
      rw [add_add] at this
      rw [this, hj]
    obtain ⟨q, hq⟩ := choose_lt each
    have hat : ∀ (i : Nat) (c : Tc), ((List.range len).map q)[i]? = some c → i < len ∧ c = q i := by
      intro i c hi
      rw [List.getElem?_map] at hi
      by_cases h : i < len
      · rw [List.getElem?_range h] at hi
        simp at hi
        exact ⟨h, hi.symm⟩
      · rw [List.getElem?_eq_none (by simp; omega)] at hi; cases hi
    refine ⟨(List.range len).map q, some a, m, by simp, fun hn => ?_, ?_, ?_⟩
    · have h0 : 0 < len := by simpa using hn
      obtain ⟨b, off, spot⟩ := a
      have g0 := (hq 0 h0).2 0 _ rfl
      have hspot : spot = none := by simpa [Addr.add] using World.cell?_spot g0
      subst hspot
      refine ⟨b, off, rfl, ?_, fun i c hi j u hj => ?_⟩
      · have := World.block_lt_of_cell? W _ g0
        rw [Addr.add_lit] at this
        exact this
      · obtain ⟨hi', rfl⟩ := hat i c hi
        have := (hq i hi').2 j u hj
        rw [Addr.add_lit] at this
        rw [← this]; congr 2; omega
    · intro c hc
      obtain ⟨i, hi, rfl⟩ := List.mem_map.1 hc
      exact (hq i (List.mem_range.1 hi)).1
    · simp
      have : maxLen = 9223372036854775807 := rfl
      omega
structure Tn where
  x : Int
instance : Inhabited Tn := ⟨⟨0⟩⟩
def Tn.vs (c : Tn) : List Value := [.int .i64 c.x]
theorem Tn.vs_len (c : Tn) : c.vs.length = 1 := rfl
/-- Its numbers are within their types. -/
def Tn.Raw (c : Tn) : Prop := (-9223372036854775808 ≤ c.x ∧ c.x < 9223372036854775808)
/-- It lies in so many cells. -/
def RowTn (w : World) (b o : Nat) (c : Tn) : Prop := ∀ (i : Nat) (u : Value), c.vs[i]? = some u → w.cell? ⟨b, o + i, none⟩ = some u
theorem RowTn.out {w : World} {b o : Nat} {c : Tn} (h : RowTn w b o c) : w.cell? ⟨b, o, none⟩ = some (.int .i64 c.x) := h 0 _ rfl
theorem RowTn.keep {w w' : World} {b o : Nat} {c : Tn} (h : RowTn w b o c) (k : ∀ p : Addr, p.block = b → w'.cell? p = w.cell? p) : RowTn w' b o c := fun i u hi => (k _ rfl).trans (h i u hi)
/-- A slice of so many elements at that address holds these, in a block below B. -/
def RdTn (w : World) (B : Nat) (A : Option Addr) (L : List Tn) : Prop := 0 < L.length → ∃ b o, A = some ⟨b, o, none⟩ ∧ b < B ∧ ∀ (i : Nat) (c : Tn), L[i]? = some c → RowTn w b (o + i * 1) c
theorem RdTn.nil (w : World) (B : Nat) (A : Option Addr) : RdTn w B A [] := fun h => absurd h (by simp)
theorem RdTn.keep {w w' : World} {B : Nat} {A : Option Addr} {L : List Tn} (h : RdTn w B A L) (k : ∀ p : Addr, p.block < B → w'.cell? p = w.cell? p) : RdTn w' B A L := fun hn => by
  obtain ⟨b, o, e, hb, hr⟩ := h hn
  exact ⟨b, o, e, hb, fun i c hi => (hr i c hi).keep fun p hp => k p (by omega)⟩
theorem RdTn.below {w w' : World} {B : Nat} {A : Option Addr} {L : List Tn} (h : RdTn w B A L) (k : Below B w w') : RdTn w' B A L := h.keep fun p hp => k.cell hp
theorem RdTn.at_ {w : World} {B : Nat} {A : Option Addr} {L : List Tn} (h : RdTn w B A L) {k : Nat} (hk : k < L.length) : ∃ b o, A = some ⟨b, o, none⟩ ∧ b < B ∧ ∃ c, L[k]? = some c ∧ RowTn w b (o + k * 1) c := by
  obtain ⟨b, o, e, hb, hr⟩ := h (by omega)
  exact ⟨b, o, e, hb, _, List.getElem?_eq_getElem hk, hr k _ (List.getElem?_eq_getElem hk)⟩
section
variable {H : Type} {enc : TypeId × Value → H} {w : World} {base : Nat} {spare : Nat → Bool} {held : Bool}
theorem i64_bdTn {a : Int} (h : (Lit.int .i64 a).wf = true) : -9223372036854775808 ≤ a ∧ a < 9223372036854775808 := by
  have hm0 : IntKind.i64.min = -9223372036854775808 := rfl
  have hm1 : IntKind.i64.max = 9223372036854775807 := rfl
  simp only [Lit.wf, Bool.and_eq_true, decide_eq_true_eq, hm0, hm1] at h
  omega
theorem open_cellsTn {fuel : Nat} {cs : List Value} {x : DataW H × List MemPlace} (hl : cs.length = 1) (h : DataW.trod enc Try.prog w base spare held fuel 3 cs = some x) :
    ∃ c : Tn, cs = c.vs ∧ c.Raw := by
  match cs, hl with
  | [c0], _ =>
    have h0 := h
    obtain ⟨a0, e0, _, w0⟩ := DataW.trod_int Try.underlying3 h0
    simp at e0
    subst e0
    exact ⟨⟨a0⟩, rfl, i64_bdTn w0⟩
end
set_option maxRecDepth 100000 in
theorem open_Tn {H : Type} {enc : TypeId × Value → H} {W : World} {base : Nat} {v : Value} {d : DataW H} {p : List MemPlace} (hv : Value.okWide Try.prog W .any base 38 v) (h : DataW.Trod enc Try.prog W 0 (fun _ => true) true 38 v d p) :
    ∃ (L : List Tn) (A : Option Addr) (n : Nat), v = .slice A L.length n ∧ RdTn W W.heap.size A L ∧ (∀ c ∈ L, c.Raw) ∧ L.length ≤ 9223372036854775807 := by
  obtain ⟨A, len, cap, rfl⟩ := okWide_slice Try.underlying38 hv
  obtain ⟨fuel, hf⟩ := h
  have hf' : DataW.trod enc Try.prog W 0 (fun _ => true) true fuel 38 [.slice A len cap] = some (d, p) := by simpa [Value.cells] using hf
  have hC : Try.prog.cellsOf 3 = 1 := by kernel_rfl
  rcases open_slice Try.underlying38 hf' with ⟨e, _⟩ | ⟨a, len', cap', m, n, D, Pl, e, _, hl, hm, hmm, _, hx⟩
  · simp at e
    obtain ⟨rfl, rfl, rfl⟩ := e
    exact ⟨[], none, 0, rfl, RdTn.nil _ _ _, by simp, by simp⟩
  · simp at e
    obtain ⟨rfl, rfl, rfl⟩ := e
    have hmc : m = cap := by simpa using hmm
    subst hmc
    rw [hC] at hx
    have each : ∀ i, i < len → ∃ c : Tn, c.Raw ∧ ∀ (j : Nat) (u : Value), c.vs[j]? = some u → W.cell? (a.add (i * 1 + j)) = some u := by
      intro i hi
      obtain ⟨cs, h1, h2⟩ := hx i (by omega)
      obtain ⟨_, hlen, hcell⟩ := World.cells?_some h1
      obtain ⟨c, rfl, hr⟩ := open_cellsTn hlen h2
      refine ⟨c, hr, fun j u hj => ?_⟩
      have hj9 : j < 1 := by have := (List.getElem?_eq_some_iff.1 hj).1; rwa [Tn.vs_len] at this
      have := hcell j hj9
      rw [add_add] at this
      rw [this, hj]
    obtain ⟨q, hq⟩ := choose_lt each
    have hat : ∀ (i : Nat) (c : Tn), ((List.range len).map q)[i]? = some c → i < len ∧ c = q i := by
      intro i c hi
      rw [List.getElem?_map] at hi
      by_cases h : i < len
      · rw [List.getElem?_range h] at hi
        simp at hi
        exact ⟨h, hi.symm⟩
      · rw [List.getElem?_eq_none (by simp; omega)] at hi; cases hi
    refine ⟨(List.range len).map q, some a, m, by simp, fun hn => ?_, ?_, ?_⟩
    · have h0 : 0 < len := by simpa using hn
      obtain ⟨b, off, spot⟩ := a
      have g0 := (hq 0 h0).2 0 _ rfl
      have hspot : spot = none := by simpa [Addr.add] using World.cell?_spot g0
      subst hspot
      refine ⟨b, off, rfl, ?_, fun i c hi j u hj => ?_⟩
      · have := World.block_lt_of_cell? W _ g0
        rw [Addr.add_lit] at this
        exact this
      · obtain ⟨hi', rfl⟩ := hat i c hi
        have := (hq i hi').2 j u hj
        rw [Addr.add_lit] at this
        rw [← this]; congr 2; omega
    · intro c hc
      obtain ⟨i, hi, rfl⟩ := List.mem_map.1 hc
      exact (hq i (List.mem_range.1 hi)).1
    · simp
      have : maxLen = 9223372036854775807 := rfl
      omega
end Go.Proofs.Ytlpijioiopbmpaa
