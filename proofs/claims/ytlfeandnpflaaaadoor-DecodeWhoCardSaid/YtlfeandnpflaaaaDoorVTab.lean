/-
  What the two tables of places (of bits in halves, and in words) hold when a call begins (the rows list them, the cards tie them to the program's text). No condition.
-/
import Derived.Test.YtlfeandnpflaaaaDoorKp
import Derived.Lib.LaidTab
import Derived.MakeChecks
namespace Go.Proofs.YtlfeandnpflaaaaDoor
open Go.ChangeShapes Go.WideShapes Go.ChangeAt Go.RowKit
set_option linter.unusedVariables false
set_option linter.unusedSimpArgs false
/-- Where a half's bits 12 to 2 stand in a number, by its kind. -/
def inH : List (List Int) := [[5, -1, -1, -1, -1, -1, 4, 3, 2, 1, 0], [17, -1, -1, -1, -1, -1, 16, 15, 14, 13, 12], [9, -1, -1, -1, -1, -1, 4, 6, 8, 7, 5], [5, 4, 9, 8, 7, 6, 2, 3, -1, -1, -1],
  [5, 4, 3, -1, -1, -1, 2, 6, -1, -1, -1], [5, 4, 3, -1, -1, -1, 7, 6, -1, -1, -1], [5, -1, -1, -1, -1, -1, 4, 3, 2, 7, 6], [5, -1, -1, -1, -1, -1, 4, 3, 8, 7, 6],
  [5, 4, 3, 2, 7, 6, -1, -1, -1, -1, -1], [5, 4, 3, 8, 7, 6, -1, -1, -1, -1, -1], [11, 4, 9, 8, 10, 6, 7, 3, 2, 1, 5], [8, 4, 3, -1, -1, -1, 7, 6, 2, 1, 5]]
/-- Which of a number's bits a word's bits 31 to 7 are, by the word's form. -/
def inW : List (List Int) := [[11, 10, 9, 8, 7, 6, 5, 4, 3, 2, 1, 0, -1, -1, -1, -1, -1, -1, -1, -1, -1, -1, -1, -1, -1], [11, 10, 9, 8, 7, 6, 5, -1, -1, -1, -1, -1, -1, -1, -1, -1, -1, -1, -1, -1, 4, 3, 2, 1, 0],
  [12, 10, 9, 8, 7, 6, 5, -1, -1, -1, -1, -1, -1, -1, -1, -1, -1, -1, -1, -1, 4, 3, 2, 1, 11], [31, 30, 29, 28, 27, 26, 25, 24, 23, 22, 21, 20, 19, 18, 17, 16, 15, 14, 13, 12, -1, -1, -1, -1, -1],
  [20, 10, 9, 8, 7, 6, 5, 4, 3, 2, 1, 11, 19, 18, 17, 16, 15, 14, 13, 12, -1, -1, -1, -1, -1]]
/-- An array of arrays of integers, as a row lists it. -/
def matData {H : Type} (k : IntKind) (zss : List (List Int)) : DataW H := .agg (zss.map (Lib.tabData k))

theorem mat_of_trod {H : Type} {enc : TypeId × Value → H} {P : Program} {w : World} {base : Nat} {sp : Nat → Bool} {held : Bool} {fuel : Nat} {t e e2 : TypeId} {n m : Nat} {k : IntKind} {cs : List Value} {zss : List (List Int)} {p : List MemPlace}
    (ht : P.underlying t = some (.array n e)) (he : P.underlying e = some (.array m e2)) (he2 : P.underlying e2 = some (.int k)) (hc2 : P.cellsOf e2 = 1) (hce : P.cellsOf e = m)
    (h : DataW.trod enc P w base sp held fuel t cs = some (matData k zss, p)) : ∀ i zs, zss[i]? = some zs → i < n → (cs.drop (i * m)).take m = zs.map fun z => Value.int k z := by
  cases fuel with
  | zero => simp [DataW.trod] at h
  | succ fuel =>
    simp only [DataW.trod, ht, hce] at h
    split at h
    · obtain ⟨xs, hm, hx⟩ := Option.map_eq_some_iff.1 h
      have hxs : xs.map (·.1) = zss.map fun z => (Lib.tabData k z : DataW H) := by
        have := congrArg Prod.fst hx
        simpa [matData] using this
      intro i zs hi hin
      obtain ⟨b, hb, hf⟩ := Lib.mapM_at hm i i (by simp [hin])
      have h2 : (xs.map (·.1))[i]? = some (Lib.tabData k zs) := by rw [hxs]; simp [hi]
      have h3 : b.1 = Lib.tabData k zs := by simpa [hb] using h2
      obtain ⟨b1, b2⟩ := b
      simp only at h3
      subst h3
      exact Lib.cells_of_tab he he2 hc2 hce hf
    · cases h

/-- The cells of such a variable. -/
theorem mat_cells {P : Program} {W : World} {name : String} {k : IntKind} {zss : List (List Int)} {g : Nat} {t e e2 : TypeId} {n m : Nat} {g' : Nat} {t' : TypeId} {cs : Array Value} {fuel : Nat} {base : Nat} {sp : Nat → Bool} {held : Bool} {p : List MemPlace} {H : Type} {enc : TypeId × Value → H}
    (hg : P.globalNamed name = some g) (hty : (P.globals[g]?).map (·.type) = some t) (hg' : P.globalNamed name = some g') (ht' : (P.globals[g']?).map (·.type) = some t')
    (ht : P.underlying t = some (.array n e)) (he : P.underlying e = some (.array m e2)) (he2 : P.underlying e2 = some (.int k)) (hc2 : P.cellsOf e2 = 1) (hce : P.cellsOf e = m)
    (hvar : W.var? P name = some cs) (h : DataW.trod enc P W base sp held fuel t' cs.toList = some (matData k zss, p)) (hn : zss.length = n) (hz : ∀ zs ∈ zss, zs.length = m) :
    ∀ a i, a < n → i < m → W.cell? ⟨g, m * a + i, none⟩ = some (.int k ((zss.getD a []).getD i 0)) := by
  obtain rfl := Option.some.inj (hg.symm.trans hg')
  obtain rfl := Option.some.inj (hty.symm.trans ht')
  intro a i ha hi
  have hza : zss[a]? = some (zss.getD a []) := by simp [List.getD, List.getElem?_eq_getElem (by omega : a < zss.length)]
  have := mat_of_trod ht he he2 hc2 hce h a _ hza ha
  rw [World.var?_cell hg hvar]
  have e1 : ((cs.toList.drop (a * m)).take m)[i]? = cs[m * a + i]? := by
    rw [List.getElem?_take_of_lt hi, List.getElem?_drop, Nat.mul_comm, Array.getElem?_toList]
  have hl : (zss.getD a []).length = m := hz _ (List.mem_of_getElem? hza)
  rw [← e1, this]
  generalize zss.getD a [] = L at hl
  simp [List.getD, List.getElem?_eq_getElem (by omega : i < L.length)]

structure Tb (w : World) : Prop where
  hf : ∀ a i, a < 12 → i < 11 → w.cell? ⟨0, 11 * a + i, none⟩ = some (.int .i8 ((inH.getD a []).getD i 0))
  wd : ∀ a i, a < 5 → i < 25 → w.cell? ⟨1, 25 * a + i, none⟩ = some (.int .i8 ((inW.getD a []).getD i 0))
  s0 : 0 < w.heap.size
  s1 : 1 < w.heap.size
theorem Tb.kp {w w' : World} (h : Tb w) (k : Kp w w') : Tb w' :=
  ⟨fun a i ha hi => (k.cell (p := ⟨_, _, none⟩) h.s0).trans (h.hf a i ha hi), fun a i ha hi => (k.cell (p := ⟨_, _, none⟩) h.s1).trans (h.wd a i ha hi), Nat.lt_of_lt_of_le h.s0 k.size, Nat.lt_of_lt_of_le h.s1 k.size⟩
theorem cell_size {w : World} {b o : Nat} {v : Value} (h : w.cell? ⟨b, o, none⟩ = some v) : b < w.heap.size := by
  rcases Nat.lt_or_ge b w.heap.size with l | l
  · exact l
  · simp [World.cell?, Array.getElem?_eq_none l] at h
theorem tb_of_two {W : World} (h : laidMet Tryd.prog [("ravelin/rvc.inHalf", matData .i8 inH), ("ravelin/rvc.inWord", matData .i8 inW)] W) : Tb W := by
  obtain ⟨ps, ⟨g1, t1, cs1, fu1, p1, q1, hg1, ht1, hv1, hd1, ⟨g2, t2, cs2, fu2, p2, q2, hg2, ht2, hv2, hd2, _, _⟩, _⟩, _⟩ := h
  have a := mat_cells (g := 0) (t := 75) (e := 74) (e2 := 73) (by kernel_rfl) (by kernel_rfl) hg1 ht1 Tryd.underlying75 Tryd.underlying74 Tryd.underlying73 (by kernel_rfl) (by kernel_rfl) hv1 hd1 (by decide) (by decide)
  have b := mat_cells (g := 1) (t := 78) (e := 77) (e2 := 73) (by kernel_rfl) (by kernel_rfl) hg2 ht2 Tryd.underlying78 Tryd.underlying77 Tryd.underlying73 (by kernel_rfl) (by kernel_rfl) hv2 hd2 (by decide) (by decide)
  exact ⟨a, b, cell_size (a 0 0 (by omega) (by omega)), cell_size (b 0 0 (by omega) (by omega))⟩
theorem tb_of_laid {W : World} {l : List (String × DataW Unit)} (e : l = [("ravelin/rvc.inHalf", matData .i8 inH), ("ravelin/rvc.inWord", matData .i8 inW)]) (h : laidMetH Tryd.prog l W) : Tb W := by
  rw [MakeChecks.laidMetH_plain _ _ _ (by rw [e]; rfl), e] at h
  exact tb_of_two h
end Go.Proofs.YtlfeandnpflaaaaDoor
