/-
  Lists of calls, of bytes, of numbers, that come in, opened; the end of a law that leaves all that was there. No condition.
-/
import Derived.Test.YtnimpgamiagedaaQFr
import Derived.OpenShut
import Derived.Lib.SmallJoins
import Derived.ChangeSame
import Derived.Deep.Slices
import Derived.Carry
namespace Go.Proofs.Ytnimpgamiagedaa
open Go.ChangeShapes Go.WideShapes Go.ChangeAt Go.RowKit Go.Joins Go.Deep
set_option linter.unusedVariables false
set_option linter.unusedSimpArgs false
section
variable {H : Type} {enc : TypeId × Value → H} {P : Program}
theorem post_belowU {f : Func} {s : ChangeSpec} {apart fresh handsOn again : Bool} {W W' : World} {args : Array Value} {v : Value} {ds gs : List (DataW H)} {before pa pv : List MemPlace}
    (hW : DataW.Whole enc P f.params.toList s.vars apart W args.toList ds gs before)
    (hres : ∀ (b : Nat) (sp : Nat → Bool) (hd : Bool), DataW.TrodAll enc P W' b sp hd f.resultTypes.toList (v.resultList f.resultTypes.size) (s.fn H (ds ++ gs)).results [])
    (hargs : ∀ sp : Nat → Bool, (∀ p ∈ before, sp p.block = true) → DataW.TrodAll enc P W' 0 sp true f.params.toList args.toList (s.fn H (ds ++ gs)).args pa)
    (hvars : ∀ sp : Nat → Bool, (∀ p ∈ before, sp p.block = true) → DataW.TrodVars enc P W' sp s.vars (s.fn H (ds ++ gs)).vars pv)
    (hps : before = pa ++ pv) (hb : Below W.heap.size W W')
    (hok : ∀ (j : Nat) (t : TypeId) (r : Value), f.resultTypes[j]? = some t → (v.resultList f.resultTypes.size)[j]? = some r → Value.okWide P W' .any 0 t r) :
    s.post enc P f apart fresh handsOn again W args v W' := by
  have hlt : ∀ p ∈ before, p.block < W.heap.size := fun p hp => hW.lt p hp
  have hold : ∀ p ∈ before, (fun b => decide (b < W.heap.size)) p.block = true := fun p hp => by simpa using hlt p hp
  have hfz : ∀ b off, b < W.heap.size → W'.frozen? ⟨b, off, none⟩ = W.frozen? ⟨b, off, none⟩ := fun b off h => World.frozen?_of_block (a := ⟨b, off, none⟩) (hb.block b h)
  refine ⟨ds, gs, before, [], pa, pv, hW, hres _ _ _, hargs _ hold, hvars _ hold, World.keptBut_mono (fun p hp => ⟨hp, ?_⟩) (hb.frame _), fun _ => ?_⟩
  · rw [hps, List.mem_append] at hp
    exact Or.inr hp
  · obtain ⟨_, _, _, _, _, hz, hn⟩ := hW
    refine ⟨hok, _, _, ([] ++ pa) ++ pv, ⟨[] ++ pa, pv, trodAll_append (hargs _ (fun _ _ => rfl)) (hres _ _ _), hvars _ (fun _ _ => rfl), rfl, ?_, ?_⟩, ?_⟩
    · intro b off hp
      have hm : MemPlace.cell b off ∈ before := by rw [hps]; simpa using hp
      exact (hfz b off (hlt _ hm)).trans (hz b off hm)
    · intro ha
      have := hn ha
      rw [hps] at this
      simpa using this
    · intro p hp _
      rw [hps]
      simpa using hp
end
structure Uo where
  k : Int
  off : Int
  size : Int
  v : Int
instance : Inhabited Uo := ⟨⟨0, 0, 0, 0⟩⟩
def Uo.vs (c : Uo) : List Value := [.int .i64 c.k, .int .i64 c.off, .int .i64 c.size, .int .u64 c.v]
theorem Uo.vs_len (c : Uo) : c.vs.length = 4 := rfl
/-- Its numbers are within their types. -/
def Uo.Raw (c : Uo) : Prop := (-9223372036854775808 ≤ c.k ∧ c.k < 9223372036854775808) ∧ (-9223372036854775808 ≤ c.off ∧ c.off < 9223372036854775808) ∧ (-9223372036854775808 ≤ c.size ∧ c.size < 9223372036854775808) ∧ (0 ≤ c.v ∧ c.v < 18446744073709551616)
/-- It lies in so many cells. -/
def RowUo (w : World) (b o : Nat) (c : Uo) : Prop := ∀ (i : Nat) (u : Value), c.vs[i]? = some u → w.cell? ⟨b, o + i, none⟩ = some u
theorem RowUo.out {w : World} {b o : Nat} {c : Uo} (h : RowUo w b o c) : w.cell? ⟨b, o, none⟩ = some (.int .i64 c.k) ∧ w.cell? ⟨b, o + 1, none⟩ = some (.int .i64 c.off) ∧ w.cell? ⟨b, o + 2, none⟩ = some (.int .i64 c.size) ∧ w.cell? ⟨b, o + 3, none⟩ = some (.int .u64 c.v) := ⟨h 0 _ rfl, h 1 _ rfl, h 2 _ rfl, h 3 _ rfl⟩
theorem RowUo.keep {w w' : World} {b o : Nat} {c : Uo} (h : RowUo w b o c) (k : ∀ p : Addr, p.block = b → w'.cell? p = w.cell? p) : RowUo w' b o c := fun i u hi => (k _ rfl).trans (h i u hi)
/-- A slice of so many elements at that address holds these, in a block below B. -/
def RdUo (w : World) (B : Nat) (A : Option Addr) (L : List Uo) : Prop := 0 < L.length → ∃ b o, A = some ⟨b, o, none⟩ ∧ b < B ∧ ∀ (i : Nat) (c : Uo), L[i]? = some c → RowUo w b (o + i * 4) c
theorem RdUo.nil (w : World) (B : Nat) (A : Option Addr) : RdUo w B A [] := fun h => absurd h (by simp)
theorem RdUo.keep {w w' : World} {B : Nat} {A : Option Addr} {L : List Uo} (h : RdUo w B A L) (k : ∀ p : Addr, p.block < B → w'.cell? p = w.cell? p) : RdUo w' B A L := fun hn => by
  obtain ⟨b, o, e, hb, hr⟩ := h hn
  exact ⟨b, o, e, hb, fun i c hi => (hr i c hi).keep fun p hp => k p (by omega)⟩
theorem RdUo.below {w w' : World} {B : Nat} {A : Option Addr} {L : List Uo} (h : RdUo w B A L) (k : Below B w w') : RdUo w' B A L := h.keep fun p hp => k.cell hp
theorem RdUo.at_ {w : World} {B : Nat} {A : Option Addr} {L : List Uo} (h : RdUo w B A L) {k : Nat} (hk : k < L.length) : ∃ b o, A = some ⟨b, o, none⟩ ∧ b < B ∧ ∃ c, L[k]? = some c ∧ RowUo w b (o + k * 4) c := by
  obtain ⟨b, o, e, hb, hr⟩ := h (by omega)
  exact ⟨b, o, e, hb, _, List.getElem?_eq_getElem hk, hr k _ (List.getElem?_eq_getElem hk)⟩
section
variable {H : Type} {enc : TypeId × Value → H} {w : World} {base : Nat} {spare : Nat → Bool} {held : Bool}
theorem open_flatUo {P : Program} {t : TypeId} {f0 f1 f2 f3 : Field} (hs : P.underlying t = some (.struct #[f0, f1, f2, f3])) (hone : oneCellFields P #[f0, f1, f2, f3] = true) {fuel : Nat} {c0 c1 c2 c3 : Value} {x : DataW H × List MemPlace} (h : DataW.trod enc P w base spare held fuel t [c0, c1, c2, c3] = some x) :
    ∃ (n : Nat) (y0 y1 y2 y3 : DataW H × List MemPlace), DataW.trod enc P w base spare held n f0.type [c0] = some y0 ∧ DataW.trod enc P w base spare held n f1.type [c1] = some y1 ∧ DataW.trod enc P w base spare held n f2.type [c2] = some y2 ∧ DataW.trod enc P w base spare held n f3.type [c3] = some y3 := by
  obtain ⟨xs, n, _, hx, _, hlen, hg⟩ := DataW.trod_struct hs h
  obtain ⟨o0, k0⟩ := hone_of hone 0 f0 rfl
  obtain ⟨o1, k1⟩ := hone_of hone 1 f1 rfl
  obtain ⟨o2, k2⟩ := hone_of hone 2 f2 rfl
  obtain ⟨o3, k3⟩ := hone_of hone 3 f3 rfl
  match xs, hlen with
  | [y0, y1, y2, y3], _ =>
    exact ⟨n, y0, y1, y2, y3, by simpa [o0, k0] using hg 0 f0 rfl, by simpa [o1, k1] using hg 1 f1 rfl, by simpa [o2, k2] using hg 2 f2 rfl, by simpa [o3, k3] using hg 3 f3 rfl⟩
theorem i64_bdUo {a : Int} (h : (Lit.int .i64 a).wf = true) : -9223372036854775808 ≤ a ∧ a < 9223372036854775808 := by
  have hm0 : IntKind.i64.min = -9223372036854775808 := rfl
  have hm1 : IntKind.i64.max = 9223372036854775807 := rfl
  simp only [Lit.wf, Bool.and_eq_true, decide_eq_true_eq, hm0, hm1] at h
  omega
theorem u64_bdUo {a : Int} (h : (Lit.int .u64 a).wf = true) : 0 ≤ a ∧ a < 18446744073709551616 := by
  have hm0 : IntKind.u64.min = 0 := rfl
  have hm1 : IntKind.u64.max = 18446744073709551615 := rfl
  simp only [Lit.wf, Bool.and_eq_true, decide_eq_true_eq, hm0, hm1] at h
  omega
theorem open_cellsUo {fuel : Nat} {cs : List Value} {x : DataW H × List MemPlace} (hl : cs.length = 4) (h : DataW.trod enc Try.prog w base spare held fuel 34 cs = some x) :
    ∃ c : Uo, cs = c.vs ∧ c.Raw := by
  match cs, hl with
  | [c0, c1, c2, c3], _ =>
    obtain ⟨n, y0, y1, y2, y3, h0, h1, h2, h3⟩ := open_flatUo Try.underlying34 (by kernel_rfl) h
    obtain ⟨a0, e0, _, w0⟩ := DataW.trod_int Try.underlying3 h0
    obtain ⟨a1, e1, _, w1⟩ := DataW.trod_int Try.underlying3 h1
    obtain ⟨a2, e2, _, w2⟩ := DataW.trod_int Try.underlying3 h2
    obtain ⟨a3, e3, _, w3⟩ := DataW.trod_int Try.underlying32 h3
    simp at e0 e1 e2 e3
    subst e0 e1 e2 e3
    exact ⟨⟨a0, a1, a2, a3⟩, rfl, ⟨i64_bdUo w0, i64_bdUo w1, i64_bdUo w2, u64_bdUo w3⟩⟩
end
set_option maxRecDepth 100000 in
theorem open_Uo {H : Type} {enc : TypeId × Value → H} {W : World} {base : Nat} {v : Value} {d : DataW H} {p : List MemPlace} (hv : Value.okWide Try.prog W .any base 22 v) (h : DataW.Trod enc Try.prog W 0 (fun _ => true) true 22 v d p) :
    ∃ (L : List Uo) (A : Option Addr) (n : Nat), v = .slice A L.length n ∧ RdUo W W.heap.size A L ∧ (∀ c ∈ L, c.Raw) ∧ L.length ≤ 9223372036854775807 := by
  obtain ⟨A, len, cap, rfl⟩ := okWide_slice Try.underlying22 hv
  obtain ⟨fuel, hf⟩ := h
  have hf' : DataW.trod enc Try.prog W 0 (fun _ => true) true fuel 22 [.slice A len cap] = some (d, p) := by simpa [Value.cells] using hf
  have hC : Try.prog.cellsOf 34 = 4 := by kernel_rfl
  rcases open_slice Try.underlying22 hf' with ⟨e, _⟩ | ⟨a, len', cap', m, n, D, Pl, e, _, hl, hm, hmm, _, hx⟩
  · simp at e
    obtain ⟨rfl, rfl, rfl⟩ := e
    exact ⟨[], none, 0, rfl, RdUo.nil _ _ _, by simp, by simp⟩
  · simp at e
    obtain ⟨rfl, rfl, rfl⟩ := e
    have hmc : m = cap := by simpa using hmm
    subst hmc
    rw [hC] at hx
    have each : ∀ i, i < len → ∃ c : Uo, c.Raw ∧ ∀ (j : Nat) (u : Value), c.vs[j]? = some u → W.cell? (a.add (i * 4 + j)) = some u := by
      intro i hi
      obtain ⟨cs, h1, h2⟩ := hx i (by omega)
      obtain ⟨_, hlen, hcell⟩ := World.cells?_some h1
      obtain ⟨c, rfl, hr⟩ := open_cellsUo hlen h2
      refine ⟨c, hr, fun j u hj => ?_⟩
      have hj9 : j < 4 := by have := (List.getElem?_eq_some_iff.1 hj).1; rwa [Uo.vs_len] at this
      have := hcell j hj9
      rw [add_add] at this
      rw [this, hj]
    obtain ⟨q, hq⟩ := choose_lt each
    have hat : ∀ (i : Nat) (c : Uo), ((List.range len).map q)[i]? = some c → i < len ∧ c = q i := by
      intro i c hi
      rw [List.getElem?_map] at hi
      by_cases h : i < len
      · rw [List.getElem?_range h] at hi
        simp at hi
        exact ⟨h, hi.symm⟩
      · rw [List.getElem?_eq_none (by simp; omega)] at hi; cases hi
    refine ⟨(List.range len).map q, some a, m, by simp, fun hn => ?_, ?_, ?_⟩
    · have h0 : 0 < len := by simpa using hn
      obtain ⟨b, off, spot⟩ := a
      have g0 := (hq 0 h0).2 0 _ rfl
      have hspot : spot = none := by simpa [Addr.add] using World.cell?_spot g0
      subst hspot
      refine ⟨b, off, rfl, ?_, fun i c hi j u hj => ?_⟩
      · have := World.block_lt_of_cell? W _ g0
        rw [Addr.add_lit] at this
        exact this
      · obtain ⟨hi', rfl⟩ := hat i c hi
        have := (hq i hi').2 j u hj
        rw [Addr.add_lit] at this
        rw [← this]; congr 2; omega
    · intro c hc
      obtain ⟨i, hi, rfl⟩ := List.mem_map.1 hc
      exact (hq i (List.mem_range.1 hi)).1
    · simp
      have : maxLen = 9223372036854775807 := rfl
      omega
structure Ub where
  x : Int
instance : Inhabited Ub := ⟨⟨0⟩⟩
def Ub.vs (c : Ub) : List Value := [.int .u8 c.x]
theorem Ub.vs_len (c : Ub) : c.vs.length = 1 := rfl
/-- Its numbers are within their types. -/
def Ub.Raw (c : Ub) : Prop := (0 ≤ c.x ∧ c.x < 256)
/-- It lies in so many cells. -/
def RowUb (w : World) (b o : Nat) (c : Ub) : Prop := ∀ (i : Nat) (u : Value), c.vs[i]? = some u → w.cell? ⟨b, o + i, none⟩ = some u
theorem RowUb.out {w : World} {b o : Nat} {c : Ub} (h : RowUb w b o c) : w.cell? ⟨b, o, none⟩ = some (.int .u8 c.x) := h 0 _ rfl
theorem RowUb.keep {w w' : World} {b o : Nat} {c : Ub} (h : RowUb w b o c) (k : ∀ p : Addr, p.block = b → w'.cell? p = w.cell? p) : RowUb w' b o c := fun i u hi => (k _ rfl).trans (h i u hi)
/-- A slice of so many elements at that address holds these, in a block below B. -/
def RdUb (w : World) (B : Nat) (A : Option Addr) (L : List Ub) : Prop := 0 < L.length → ∃ b o, A = some ⟨b, o, none⟩ ∧ b < B ∧ ∀ (i : Nat) (c : Ub), L[i]? = some c → RowUb w b (o + i * 1) c
theorem RdUb.nil (w : World) (B : Nat) (A : Option Addr) : RdUb w B A [] := fun h => absurd h (by simp)
theorem RdUb.keep {w w' : World} {B : Nat} {A : Option Addr} {L : List Ub} (h : RdUb w B A L) (k : ∀ p : Addr, p.block < B → w'.cell? p = w.cell? p) : RdUb w' B A L := fun hn => by
  obtain ⟨b, o, e, hb, hr⟩ := h hn
  exact ⟨b, o, e, hb, fun i c hi => (hr i c hi).keep fun p hp => k p (by omega)⟩
theorem RdUb.below {w w' : World} {B : Nat} {A : Option Addr} {L : List Ub} (h : RdUb w B A L) (k : Below B w w') : RdUb w' B A L := h.keep fun p hp => k.cell hp
theorem RdUb.at_ {w : World} {B : Nat} {A : Option Addr} {L : List Ub} (h : RdUb w B A L) {k : Nat} (hk : k < L.length) : ∃ b o, A = some ⟨b, o, none⟩ ∧ b < B ∧ ∃ c, L[k]? = some c ∧ RowUb w b (o + k * 1) c := by
  obtain ⟨b, o, e, hb, hr⟩ := h (by omega)
  exact ⟨b, o, e, hb, _, List.getElem?_eq_getElem hk, hr k _ (List.getElem?_eq_getElem hk)⟩
section
variable {H : Type} {enc : TypeId × Value → H} {w : World} {base : Nat} {spare : Nat → Bool} {held : Bool}
theorem u8_bdUb {a : Int} (h : (Lit.int .u8 a).wf = true) : 0 ≤ a ∧ a < 256 := by
  have hm0 : IntKind.u8.min = 0 := rfl
  have hm1 : IntKind.u8.max = 255 := rfl
  simp only [Lit.wf, Bool.and_eq_true, decide_eq_true_eq, hm0, hm1] at h
  omega
theorem open_cellsUb {fuel : Nat} {cs : List Value} {x : DataW H × List MemPlace} (hl : cs.length = 1) (h : DataW.trod enc Try.prog w base spare held fuel 5 cs = some x) :
    ∃ c : Ub, cs = c.vs ∧ c.Raw := by
  match cs, hl with
  | [c0], _ =>
    have h0 := h
    obtain ⟨a0, e0, _, w0⟩ := DataW.trod_int Try.underlying5 h0
    simp at e0
    subst e0
    exact ⟨⟨a0⟩, rfl, u8_bdUb w0⟩
end
set_option maxRecDepth 100000 in
theorem open_Ub {H : Type} {enc : TypeId × Value → H} {W : World} {base : Nat} {v : Value} {d : DataW H} {p : List MemPlace} (hv : Value.okWide Try.prog W .any base 46 v) (h : DataW.Trod enc Try.prog W 0 (fun _ => true) true 46 v d p) :
    ∃ (L : List Ub) (A : Option Addr) (n : Nat), v = .slice A L.length n ∧ RdUb W W.heap.size A L ∧ (∀ c ∈ L, c.Raw) ∧ L.length ≤ 9223372036854775807 := by
  obtain ⟨A, len, cap, rfl⟩ := okWide_slice Try.underlying46 hv
  obtain ⟨fuel, hf⟩ := h
  have hf' : DataW.trod enc Try.prog W 0 (fun _ => true) true fuel 46 [.slice A len cap] = some (d, p) := by simpa [Value.cells] using hf
  have hC : Try.prog.cellsOf 5 = 1 := by kernel_rfl
  rcases open_slice Try.underlying46 hf' with ⟨e, _⟩ | ⟨a, len', cap', m, n, D, Pl, e, _, hl, hm, hmm, _, hx⟩
  · simp at e
    obtain ⟨rfl, rfl, rfl⟩ := e
    exact ⟨[], none, 0, rfl, RdUb.nil _ _ _, by simp, by simp⟩
  · simp at e
    obtain ⟨rfl, rfl, rfl⟩ := e
    have hmc : m = cap := by simpa using hmm
    subst hmc
    rw [hC] at hx
    have each : ∀ i, i < len → ∃ c : Ub, c.Raw ∧ ∀ (j : Nat) (u : Value), c.vs[j]? = some u → W.cell? (a.add (i * 1 + j)) = some u := by
      intro i hi
      obtain ⟨cs, h1, h2⟩ := hx i (by omega)
      obtain ⟨_, hlen, hcell⟩ := World.cells?_some h1
      obtain ⟨c, rfl, hr⟩ := open_cellsUb hlen h2
      refine ⟨c, hr, fun j u hj => ?_⟩
      have hj9 : j < 1 := by have := (List.getElem?_eq_some_iff.1 hj).1; rwa [Ub.vs_len] at this
      have := hcell j hj9
      rw [add_add] at this
      rw [this, hj]
    obtain ⟨q, hq⟩ := choose_lt each
    have hat : ∀ (i : Nat) (c : Ub), ((List.range len).map q)[i]? = some c → i < len ∧ c = q i := by
      intro i c hi
      rw [List.getElem?_map] at hi
      by_cases h : i < len
      · rw [List.getElem?_range h] at hi
        simp at hi
        exact ⟨h, hi.symm⟩
      · rw [List.getElem?_eq_none (by simp; omega)] at hi; cases hi
    refine ⟨(List.range len).map q, some a, m, by simp, fun hn => ?_, ?_, ?_⟩
    · have h0 : 0 < len := by simpa using hn
      obtain ⟨b, off, spot⟩ := a
      have g0 := (hq 0 h0).2 0 _ rfl
      have hspot : spot = none := by simpa [Addr.add] using World.cell?_spot g0
      subst hspot
      refine ⟨b, off, rfl, ?_, fun i c hi j u hj => ?_⟩
      · have := World.block_lt_of_cell? W _ g0
        rw [Addr.add_lit] at this
        exact this
      · obtain ⟨hi', rfl⟩ := hat i c hi
        have := (hq i hi').2 j u hj
        rw [Addr.add_lit] at this
        rw [← this]; congr 2; omega
    · intro c hc
      obtain ⟨i, hi, rfl⟩ := List.mem_map.1 hc
      exact (hq i (List.mem_range.1 hi)).1
    · simp
      have : maxLen = 9223372036854775807 := rfl
      omega
structure Ui where
  x : Int
instance : Inhabited Ui := ⟨⟨0⟩⟩
def Ui.vs (c : Ui) : List Value := [.int .i64 c.x]
theorem Ui.vs_len (c : Ui) : c.vs.length = 1 := rfl
/-- Its numbers are within their types. -/
def Ui.Raw (c : Ui) : Prop := (-9223372036854775808 ≤ c.x ∧ c.x < 9223372036854775808)
/-- It lies in so many cells. -/
def RowUi (w : World) (b o : Nat) (c : Ui) : Prop := ∀ (i : Nat) (u : Value), c.vs[i]? = some u → w.cell? ⟨b, o + i, none⟩ = some u
theorem RowUi.out {w : World} {b o : Nat} {c : Ui} (h : RowUi w b o c) : w.cell? ⟨b, o, none⟩ = some (.int .i64 c.x) := h 0 _ rfl
theorem RowUi.keep {w w' : World} {b o : Nat} {c : Ui} (h : RowUi w b o c) (k : ∀ p : Addr, p.block = b → w'.cell? p = w.cell? p) : RowUi w' b o c := fun i u hi => (k _ rfl).trans (h i u hi)
/-- A slice of so many elements at that address holds these, in a block below B. -/
def RdUi (w : World) (B : Nat) (A : Option Addr) (L : List Ui) : Prop := 0 < L.length → ∃ b o, A = some ⟨b, o, none⟩ ∧ b < B ∧ ∀ (i : Nat) (c : Ui), L[i]? = some c → RowUi w b (o + i * 1) c
theorem RdUi.nil (w : World) (B : Nat) (A : Option Addr) : RdUi w B A [] := fun h => absurd h (by simp)
theorem RdUi.keep {w w' : World} {B : Nat} {A : Option Addr} {L : List Ui} (h : RdUi w B A L) (k : ∀ p : Addr, p.block < B → w'.cell? p = w.cell? p) : RdUi w' B A L := fun hn => by
  obtain ⟨b, o, e, hb, hr⟩ := h hn
  exact ⟨b, o, e, hb, fun i c hi => (hr i c hi).keep fun p hp => k p (by omega)⟩
theorem RdUi.below {w w' : World} {B : Nat} {A : Option Addr} {L : List Ui} (h : RdUi w B A L) (k : Below B w w') : RdUi w' B A L := h.keep fun p hp => k.cell hp
theorem RdUi.at_ {w : World} {B : Nat} {A : Option Addr} {L : List Ui} (h : RdUi w B A L) {k : Nat} (hk : k < L.length) : ∃ b o, A = some ⟨b, o, none⟩ ∧ b < B ∧ ∃ c, L[k]? = some c ∧ RowUi w b (o + k * 1) c := by
  obtain ⟨b, o, e, hb, hr⟩ := h (by omega)
  exact ⟨b, o, e, hb, _, List.getElem?_eq_getElem hk, hr k _ (List.getElem?_eq_getElem hk)⟩
section
variable {H : Type} {enc : TypeId × Value → H} {w : World} {base : Nat} {spare : Nat → Bool} {held : Bool}
theorem i64_bdUi {a : Int} (h : (Lit.int .i64 a).wf = true) : -9223372036854775808 ≤ a ∧ a < 9223372036854775808 := by
  have hm0 : IntKind.i64.min = -9223372036854775808 := rfl
  have hm1 : IntKind.i64.max = 9223372036854775807 := rfl
  simp only [Lit.wf, Bool.and_eq_true, decide_eq_true_eq, hm0, hm1] at h
  omega
theorem open_cellsUi {fuel : Nat} {cs : List Value} {x : DataW H × List MemPlace} (hl : cs.length = 1) (h : DataW.trod enc Try.prog w base spare held fuel 3 cs = some x) :
    ∃ c : Ui, cs = c.vs ∧ c.Raw := by
  match cs, hl with
  | [c0], _ =>
    have h0 := h
    obtain ⟨a0, e0, _, w0⟩ := DataW.trod_int Try.underlying3 h0
    simp at e0
    subst e0
    exact ⟨⟨a0⟩, rfl, i64_bdUi w0⟩
end
set_option maxRecDepth 100000 in
theorem open_Ui {H : Type} {enc : TypeId × Value → H} {W : World} {base : Nat} {v : Value} {d : DataW H} {p : List MemPlace} (hv : Value.okWide Try.prog W .any base 47 v) (h : DataW.Trod enc Try.prog W 0 (fun _ => true) true 47 v d p) :
    ∃ (L : List Ui) (A : Option Addr) (n : Nat), v = .slice A L.length n ∧ RdUi W W.heap.size A L ∧ (∀ c ∈ L, c.Raw) ∧ L.length ≤ 9223372036854775807 := by
  obtain ⟨A, len, cap, rfl⟩ := okWide_slice Try.underlying47 hv
  obtain ⟨fuel, hf⟩ := h
  have hf' : DataW.trod enc Try.prog W 0 (fun _ => true) true fuel 47 [.slice A len cap] = some (d, p) := by simpa [Value.cells] using hf
  have hC : Try.prog.cellsOf 3 = 1 := by kernel_rfl
  rcases open_slice Try.underlying47 hf' with ⟨e, _⟩ | ⟨a, len', cap', m, n, D, Pl, e, _, hl, hm, hmm, _, hx⟩
  · simp at e
    obtain ⟨rfl, rfl, rfl⟩ := e
    exact ⟨[], none, 0, rfl, RdUi.nil _ _ _, by simp, by simp⟩
  · simp at e
    obtain ⟨rfl, rfl, rfl⟩ := e
    have hmc : m = cap := by simpa using hmm
    subst hmc
    rw [hC] at hx
    have each : ∀ i, i < len → ∃ c : Ui, c.Raw ∧ ∀ (j : Nat) (u : Value), c.vs[j]? = some u → W.cell? (a.add (i * 1 + j)) = some u := by
      intro i hi
      obtain ⟨cs, h1, h2⟩ := hx i (by omega)
      obtain ⟨_, hlen, hcell⟩ := World.cells?_some h1
      obtain ⟨c, rfl, hr⟩ := open_cellsUi hlen h2
      refine ⟨c, hr, fun j u hj => ?_⟩
      have hj9 : j < 1 := by have := (List.getElem?_eq_some_iff.1 hj).1; rwa [Ui.vs_len] at this
      have := hcell j hj9
      rw [add_add] at this
      rw [this, hj]
    obtain ⟨q, hq⟩ := choose_lt each
    have hat : ∀ (i : Nat) (c : Ui), ((List.range len).map q)[i]? = some c → i < len ∧ c = q i := by
      intro i c hi
      rw [List.getElem?_map] at hi
      by_cases h : i < len
      · rw [List.getElem?_range h] at hi
        simp at hi
        exact ⟨h, hi.symm⟩
      · rw [List.getElem?_eq_none (by simp; omega)] at hi; cases hi
    refine ⟨(List.range len).map q, some a, m, by simp, fun hn => ?_, ?_, ?_⟩
    · have h0 : 0 < len := by simpa using hn
      obtain ⟨b, off, spot⟩ := a
      have g0 := (hq 0 h0).2 0 _ rfl
      have hspot : spot = none := by simpa [Addr.add] using World.cell?_spot g0
      subst hspot
      refine ⟨b, off, rfl, ?_, fun i c hi j u hj => ?_⟩
      · have := World.block_lt_of_cell? W _ g0
        rw [Addr.add_lit] at this
        exact this
      · obtain ⟨hi', rfl⟩ := hat i c hi
        have := (hq i hi').2 j u hj
        rw [Addr.add_lit] at this
        rw [← this]; congr 2; omega
    · intro c hc
      obtain ⟨i, hi, rfl⟩ := List.mem_map.1 hc
      exact (hq i (List.mem_range.1 hi)).1
    · simp
      have : maxLen = 9223372036854775807 := rfl
      omega
structure Uv where
  x : Int
instance : Inhabited Uv := ⟨⟨0⟩⟩
def Uv.vs (c : Uv) : List Value := [.int .u64 c.x]
theorem Uv.vs_len (c : Uv) : c.vs.length = 1 := rfl
/-- Its numbers are within their types. -/
def Uv.Raw (c : Uv) : Prop := (0 ≤ c.x ∧ c.x < 18446744073709551616)
/-- It lies in so many cells. -/
def RowUv (w : World) (b o : Nat) (c : Uv) : Prop := ∀ (i : Nat) (u : Value), c.vs[i]? = some u → w.cell? ⟨b, o + i, none⟩ = some u
theorem RowUv.out {w : World} {b o : Nat} {c : Uv} (h : RowUv w b o c) : w.cell? ⟨b, o, none⟩ = some (.int .u64 c.x) := h 0 _ rfl
theorem RowUv.keep {w w' : World} {b o : Nat} {c : Uv} (h : RowUv w b o c) (k : ∀ p : Addr, p.block = b → w'.cell? p = w.cell? p) : RowUv w' b o c := fun i u hi => (k _ rfl).trans (h i u hi)
/-- A slice of so many elements at that address holds these, in a block below B. -/
def RdUv (w : World) (B : Nat) (A : Option Addr) (L : List Uv) : Prop := 0 < L.length → ∃ b o, A = some ⟨b, o, none⟩ ∧ b < B ∧ ∀ (i : Nat) (c : Uv), L[i]? = some c → RowUv w b (o + i * 1) c
theorem RdUv.nil (w : World) (B : Nat) (A : Option Addr) : RdUv w B A [] := fun h => absurd h (by simp)
theorem RdUv.keep {w w' : World} {B : Nat} {A : Option Addr} {L : List Uv} (h : RdUv w B A L) (k : ∀ p : Addr, p.block < B → w'.cell? p = w.cell? p) : RdUv w' B A L := fun hn => by
  obtain ⟨b, o, e, hb, hr⟩ := h hn
  exact ⟨b, o, e, hb, fun i c hi => (hr i c hi).keep fun p hp => k p (by omega)⟩
theorem RdUv.below {w w' : World} {B : Nat} {A : Option Addr} {L : List Uv} (h : RdUv w B A L) (k : Below B w w') : RdUv w' B A L := h.keep fun p hp => k.cell hp
theorem RdUv.at_ {w : World} {B : Nat} {A : Option Addr} {L : List Uv} (h : RdUv w B A L) {k : Nat} (hk : k < L.length) : ∃ b o, A = some ⟨b, o, none⟩ ∧ b < B ∧ ∃ c, L[k]? = some c ∧ RowUv w b (o + k * 1) c := by
  obtain ⟨b, o, e, hb, hr⟩ := h (by omega)
  exact ⟨b, o, e, hb, _, List.getElem?_eq_getElem hk, hr k _ (List.getElem?_eq_getElem hk)⟩
section
variable {H : Type} {enc : TypeId × Value → H} {w : World} {base : Nat} {spare : Nat → Bool} {held : Bool}
theorem u64_bdUv {a : Int} (h : (Lit.int .u64 a).wf = true) : 0 ≤ a ∧ a < 18446744073709551616 := by
  have hm0 : IntKind.u64.min = 0 := rfl
  have hm1 : IntKind.u64.max = 18446744073709551615 := rfl
  simp only [Lit.wf, Bool.and_eq_true, decide_eq_true_eq, hm0, hm1] at h
  omega
theorem open_cellsUv {fuel : Nat} {cs : List Value} {x : DataW H × List MemPlace} (hl : cs.length = 1) (h : DataW.trod enc Try.prog w base spare held fuel 32 cs = some x) :
    ∃ c : Uv, cs = c.vs ∧ c.Raw := by
  match cs, hl with
  | [c0], _ =>
    have h0 := h
    obtain ⟨a0, e0, _, w0⟩ := DataW.trod_int Try.underlying32 h0
    simp at e0
    subst e0
    exact ⟨⟨a0⟩, rfl, u64_bdUv w0⟩
end
set_option maxRecDepth 100000 in
theorem open_Uv {H : Type} {enc : TypeId × Value → H} {W : World} {base : Nat} {v : Value} {d : DataW H} {p : List MemPlace} (hv : Value.okWide Try.prog W .any base 52 v) (h : DataW.Trod enc Try.prog W 0 (fun _ => true) true 52 v d p) :
    ∃ (L : List Uv) (A : Option Addr) (n : Nat), v = .slice A L.length n ∧ RdUv W W.heap.size A L ∧ (∀ c ∈ L, c.Raw) ∧ L.length ≤ 9223372036854775807 := by
  obtain ⟨A, len, cap, rfl⟩ := okWide_slice Try.underlying52 hv
  obtain ⟨fuel, hf⟩ := h
  have hf' : DataW.trod enc Try.prog W 0 (fun _ => true) true fuel 52 [.slice A len cap] = some (d, p) := by simpa [Value.cells] using hf
  have hC : Try.prog.cellsOf 32 = 1 := by kernel_rfl
  rcases open_slice Try.underlying52 hf' with ⟨e, _⟩ | ⟨a, len', cap', m, n, D, Pl, e, _, hl, hm, hmm, _, hx⟩
  · simp at e
    obtain ⟨rfl, rfl, rfl⟩ := e
    exact ⟨[], none, 0, rfl, RdUv.nil _ _ _, by simp, by simp⟩
  · simp at e
    obtain ⟨rfl, rfl, rfl⟩ := e
    have hmc : m = cap := by simpa using hmm
    subst hmc
    rw [hC] at hx
    have each : ∀ i, i < len → ∃ c : Uv, c.Raw ∧ ∀ (j : Nat) (u : Value), c.vs[j]? = some u → W.cell? (a.add (i * 1 + j)) = some u := by
      intro i hi
      obtain ⟨cs, h1, h2⟩ := hx i (by omega)
      obtain ⟨_, hlen, hcell⟩ := World.cells?_some h1
      obtain ⟨c, rfl, hr⟩ := open_cellsUv hlen h2
      refine ⟨c, hr, fun j u hj => ?_⟩
      have hj9 : j < 1 := by have := (List.getElem?_eq_some_iff.1 hj).1; rwa [Uv.vs_len] at this
      have := hcell j hj9
      rw [add_add] at this
      rw [this, hj]
    obtain ⟨q, hq⟩ := choose_lt each
    have hat : ∀ (i : Nat) (c : Uv), ((List.range len).map q)[i]? = some c → i < len ∧ c = q i := by
      intro i c hi
      rw [List.getElem?_map] at hi
      by_cases h : i < len
      · rw [List.getElem?_range h] at hi
        simp at hi
        exact ⟨h, hi.symm⟩
      · rw [List.getElem?_eq_none (by simp; omega)] at hi; cases hi
    refine ⟨(List.range len).map q, some a, m, by simp, fun hn => ?_, ?_, ?_⟩
    · have h0 : 0 < len := by simpa using hn
      obtain ⟨b, off, spot⟩ := a
      have g0 := (hq 0 h0).2 0 _ rfl
      have hspot : spot = none := by simpa [Addr.add] using World.cell?_spot g0
      subst hspot
      refine ⟨b, off, rfl, ?_, fun i c hi j u hj => ?_⟩
      · have := World.block_lt_of_cell? W _ g0
        rw [Addr.add_lit] at this
        exact this
      · obtain ⟨hi', rfl⟩ := hat i c hi
        have := (hq i hi').2 j u hj
        rw [Addr.add_lit] at this
        rw [← this]; congr 2; omega
    · intro c hc
      obtain ⟨i, hi, rfl⟩ := List.mem_map.1 hc
      exact (hq i (List.mem_range.1 hi)).1
    · simp
      have : maxLen = 9223372036854775807 := rfl
      omega
end Go.Proofs.Ytnimpgamiagedaa
