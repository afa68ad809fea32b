/-
  What the two tables of places (of bits in halves, and in words) hold when a call begins (the rows list them, the cards tie them to the program's text). No condition.
  What the two copying functions tell: a half's number of a kind, a word with nothing but a number's bits; their contracts. No condition.
  What Expand tells of any half, by its rows, as plain functions; and the document's answer, likewise. No condition.
-/
import Derived.Test.YtlfeandnpflaaaaGreatDoorMA
import Derived.Lib.LaidTab
import Derived.MakeChecks
import Derived.StillTailTactics
import Derived.Laws.Rows
namespace Go.Proofs.YtlfeandnpflaaaaGreatDoor
open Go.ChangeShapes Go.WideShapes Go.ChangeAt Go.RowKit
set_option linter.unusedVariables false
set_option linter.unusedSimpArgs false
/-- Where a half's bits 12 to 2 stand in a number, by its kind. -/
def inH : List (List Int) := [[5, -1, -1, -1, -1, -1, 4, 3, 2, 1, 0], [17, -1, -1, -1, -1, -1, 16, 15, 14, 13, 12], [9, -1, -1, -1, -1, -1, 4, 6, 8, 7, 5], [5, 4, 9, 8, 7, 6, 2, 3, -1, -1, -1],
  [5, 4, 3, -1, -1, -1, 2, 6, -1, -1, -1], [5, 4, 3, -1, -1, -1, 7, 6, -1, -1, -1], [5, -1, -1, -1, -1, -1, 4, 3, 2, 7, 6], [5, -1, -1, -1, -1, -1, 4, 3, 8, 7, 6],
  [5, 4, 3, 2, 7, 6, -1, -1, -1, -1, -1], [5, 4, 3, 8, 7, 6, -1, -1, -1, -1, -1], [11, 4, 9, 8, 10, 6, 7, 3, 2, 1, 5], [8, 4, 3, -1, -1, -1, 7, 6, 2, 1, 5]]
/-- Which of a number's bits a word's bits 31 to 7 are, by the word's form. -/
def inW : List (List Int) := [[11, 10, 9, 8, 7, 6, 5, 4, 3, 2, 1, 0, -1, -1, -1, -1, -1, -1, -1, -1, -1, -1, -1, -1, -1], [11, 10, 9, 8, 7, 6, 5, -1, -1, -1, -1, -1, -1, -1, -1, -1, -1, -1, -1, -1, 4, 3, 2, 1, 0],
  [12, 10, 9, 8, 7, 6, 5, -1, -1, -1, -1, -1, -1, -1, -1, -1, -1, -1, -1, -1, 4, 3, 2, 1, 11], [31, 30, 29, 28, 27, 26, 25, 24, 23, 22, 21, 20, 19, 18, 17, 16, 15, 14, 13, 12, -1, -1, -1, -1, -1],
  [20, 10, 9, 8, 7, 6, 5, 4, 3, 2, 1, 11, 19, 18, 17, 16, 15, 14, 13, 12, -1, -1, -1, -1, -1]]
/-- An array of arrays of integers, as a row lists it. -/
def matData {H : Type} (k : IntKind) (zss : List (List Int)) : DataW H := .agg (zss.map (Lib.tabData k))

theorem mat_of_trod {H : Type} {enc : TypeId × Value → H} {P : Program} {w : World} {base : Nat} {sp : Nat → Bool} {held : Bool} {fuel : Nat} {t e e2 : TypeId} {n m : Nat} {k : IntKind} {cs : List Value} {zss : List (List Int)} {p : List MemPlace}
    (ht : P.underlying t = some (.array n e)) (he : P.underlying e = some (.array m e2)) (he2 : P.underlying e2 = some (.int k)) (hc2 : P.cellsOf e2 = 1) (hce : P.cellsOf e = m)
    (h : DataW.trod enc P w base sp held fuel t cs = some (matData k zss, p)) : ∀ i zs, zss[i]? = some zs → i < n → (cs.drop (i * m)).take m = zs.map fun z => Value.int k z := by
  cases fuel with
  | zero => simp [DataW.trod] at h
  | succ fuel =>
    simp only [DataW.trod, ht, hce] at h
    split at h
    · obtain ⟨xs, hm, hx⟩ := Option.map_eq_some_iff.1 h
      have hxs : xs.map (·.1) = zss.map fun z => (Lib.tabData k z : DataW H) := by
        have := congrArg Prod.fst hx
        simpa [matData] using this
      intro i zs hi hin
      obtain ⟨b, hb, hf⟩ := Lib.mapM_at hm i i (by simp [hin])
      have h2 : (xs.map (·.1))[i]? = some (Lib.tabData k zs) := by rw [hxs]; simp [hi]
      have h3 : b.1 = Lib.tabData k zs := by simpa [hb] using h2
      obtain ⟨b1, b2⟩ := b
      simp only at h3
      subst h3
      exact Lib.cells_of_tab he he2 hc2 hce hf
    · cases h

/-- The cells of such a variable. -/
theorem mat_cells {P : Program} {W : World} {name : String} {k : IntKind} {zss : List (List Int)} {g : Nat} {t e e2 : TypeId} {n m : Nat} {g' : Nat} {t' : TypeId} {cs : Array Value} {fuel : Nat} {base : Nat} {sp : Nat → Bool} {held : Bool} {p : List MemPlace} {H : Type} {enc : TypeId × Value → H}
    (hg : P.globalNamed name = some g) (hty : (P.globals[g]?).map (·.type) = some t) (hg' : P.globalNamed name = some g') (ht' : (P.globals[g']?).map (·.type) = some t')
    (ht : P.underlying t = some (.array n e)) (he : P.underlying e = some (.array m e2)) (he2 : P.underlying e2 = some (.int k)) (hc2 : P.cellsOf e2 = 1) (hce : P.cellsOf e = m)
    (hvar : W.var? P name = some cs) (h : DataW.trod enc P W base sp held fuel t' cs.toList = some (matData k zss, p)) (hn : zss.length = n) (hz : ∀ zs ∈ zss, zs.length = m) :
    ∀ a i, a < n → i < m → W.cell? ⟨g, m * a + i, none⟩ = some (.int k ((zss.getD a []).getD i 0)) := by
  obtain rfl := Option.some.inj (hg.symm.trans hg')
  obtain rfl := Option.some.inj (hty.symm.trans ht')
  intro a i ha hi
  have hza : zss[a]? = some (zss.getD a []) := by simp [List.getD, List.getElem?_eq_getElem (by omega : a < zss.length)]
  have := mat_of_trod ht he he2 hc2 hce h a _ hza ha
  rw [World.var?_cell hg hvar]
  have e1 : ((cs.toList.drop (a * m)).take m)[i]? = cs[m * a + i]? := by
    rw [List.getElem?_take_of_lt hi, List.getElem?_drop, Nat.mul_comm, Array.getElem?_toList]
  have hl : (zss.getD a []).length = m := hz _ (List.mem_of_getElem? hza)
  rw [← e1, this]
  generalize zss.getD a [] = L at hl
  simp [List.getD, List.getElem?_eq_getElem (by omega : i < L.length)]

structure Tb (w : World) : Prop where
  hf : ∀ a i, a < 12 → i < 11 → w.cell? ⟨0, 11 * a + i, none⟩ = some (.int .i8 ((inH.getD a []).getD i 0))
  wd : ∀ a i, a < 5 → i < 25 → w.cell? ⟨1, 25 * a + i, none⟩ = some (.int .i8 ((inW.getD a []).getD i 0))
  s0 : 0 < w.heap.size
  s1 : 1 < w.heap.size
theorem Tb.kp {w w' : World} (h : Tb w) (k : Kp w w') : Tb w' :=
  ⟨fun a i ha hi => (k.cell (p := ⟨_, _, none⟩) h.s0).trans (h.hf a i ha hi), fun a i ha hi => (k.cell (p := ⟨_, _, none⟩) h.s1).trans (h.wd a i ha hi), Nat.lt_of_lt_of_le h.s0 k.size, Nat.lt_of_lt_of_le h.s1 k.size⟩
theorem cell_size {w : World} {b o : Nat} {v : Value} (h : w.cell? ⟨b, o, none⟩ = some v) : b < w.heap.size := by
  rcases Nat.lt_or_ge b w.heap.size with l | l
  · exact l
  · simp [World.cell?, Array.getElem?_eq_none l] at h
theorem tb_of_two {W : World} (h : laidMet Tryz.prog [("ravelin/rvc.inHalf", matData .i8 inH), ("ravelin/rvc.inWord", matData .i8 inW)] W) : Tb W := by
  obtain ⟨ps, ⟨g1, t1, cs1, fu1, p1, q1, hg1, ht1, hv1, hd1, ⟨g2, t2, cs2, fu2, p2, q2, hg2, ht2, hv2, hd2, _, _⟩, _⟩, _⟩ := h
  have a := mat_cells (g := 0) (t := 88) (e := 87) (e2 := 86) (by kernel_rfl) (by kernel_rfl) hg1 ht1 Tryz.underlying88 Tryz.underlying87 Tryz.underlying86 (by kernel_rfl) (by kernel_rfl) hv1 hd1 (by decide) (by decide)
  have b := mat_cells (g := 1) (t := 91) (e := 90) (e2 := 86) (by kernel_rfl) (by kernel_rfl) hg2 ht2 Tryz.underlying91 Tryz.underlying90 Tryz.underlying86 (by kernel_rfl) (by kernel_rfl) hv2 hd2 (by decide) (by decide)
  exact ⟨a, b, cell_size (a 0 0 (by omega) (by omega)), cell_size (b 0 0 (by omega) (by omega))⟩
theorem tb_of_laid {W : World} {l : List (String × DataW Unit)} (e : l = [("ravelin/rvc.inHalf", matData .i8 inH), ("ravelin/rvc.inWord", matData .i8 inW)]) (h : laidMetH Tryz.prog l W) : Tb W := by
  rw [MakeChecks.laidMetH_plain _ _ _ (by rw [e]; rfl), e] at h
  exact tb_of_two h
end Go.Proofs.YtlfeandnpflaaaaGreatDoor
namespace Go.Proofs.YtlfeandnpflaaaaGreatDoor
open Go.ChangeShapes Go.WideShapes Go.ChangeAt Go.RowKit
set_option linter.unusedVariables false
set_option linter.unusedSimpArgs false
/-- The first i places' bits of the half x, where the list t says. -/
def cpH (t : List Int) (x : Nat) : Nat → Nat
  | 0 => 0
  | i + 1 => match t.getD i 0 with
    | .ofNat k => cpH t x i ||| (x / 2 ^ (12 - i) % 2) * 2 ^ k
    | _ => cpH t x i
def cpW (t : List Int) (x : Nat) : Nat → Nat
  | 0 => 0
  | i + 1 => match t.getD i 0 with
    | .ofNat k => cpW t x i ||| (x / 2 ^ k % 2) * 2 ^ (31 - i)
    | _ => cpW t x i
theorem bit_lt (y k n : Nat) (h : k < n) : y % 2 * 2 ^ k < 2 ^ n := by
  have h1 : y % 2 * 2 ^ k ≤ 1 * 2 ^ k := Nat.mul_le_mul_right _ (by omega)
  have h2 : 2 ^ k < 2 ^ n := Nat.pow_lt_pow_right (by omega) h
  omega
theorem cpH_lt (t : List Int) (x k : Nat) (h : ∀ i, i < 11 → -1 ≤ t.getD i 0 ∧ t.getD i 0 < 32) (hk : k ≤ 11) : cpH t x k < 2 ^ 32 := by
  induction k with
  | zero => simp [cpH]
  | succ i ih =>
    have ih := ih (by omega)
    have ht := h i (by omega)
    simp only [cpH]
    split
    · rename_i k e
      exact Nat.or_lt_two_pow ih (bit_lt _ _ _ (by rw [e] at ht; simp at ht; omega))
    · exact ih
theorem cpW_lt (t : List Int) (x k : Nat) (hk : k ≤ 25) : cpW t x k < 2 ^ 32 := by
  induction k with
  | zero => simp [cpW]
  | succ i ih =>
    have ih := ih (by omega)
    simp only [cpW]
    split
    · exact Nat.or_lt_two_pow ih (bit_lt _ _ _ (by omega))
    · exact ih
theorem inH_len (a : Nat) (h : a < 12) : (inH.getD a []).length = 11 := by revert a; decide
theorem inH_bd (a : Nat) (h : a < 12) : ∀ i, i < 11 → -1 ≤ (inH.getD a []).getD i 0 ∧ (inH.getD a []).getD i 0 < 32 := by revert a; decide
theorem inW_len (a : Nat) (h : a < 5) : (inW.getD a []).length = 25 := by revert a; decide
theorem inW_bd (a : Nat) (h : a < 5) : ∀ i, i < 25 → -1 ≤ (inW.getD a []).getD i 0 ∧ (inW.getD a []).getD i 0 < 32 := by revert a; decide
theorem or32 (a b : Nat) (ha : a < 2 ^ 32) (hb : b < 2 ^ 32) : bits .or .u32 (a : Int) (b : Int) = ((a ||| b : Nat) : Int) :=
  (bits_nat .u32 32 (by decide) (fun n h0 h1 => by rw [IntKind.wrap_u32]; omega) a b ha hb).2
theorem and32 (a : Nat) (ha : a < 2 ^ 32) : bits .and .u32 (a : Int) 1 = ((a % 2 : Nat) : Int) := by
  have h := (bits_nat .u32 32 (by decide) (fun n h0 h1 => by rw [IntKind.wrap_u32]; omega) a 1 ha (by decide)).1
  rw [Nat.and_one_is_mod] at h
  exact h
theorem or_step (S j m : Nat) (x : Int) (hS : S < 2 ^ 32) (x0 : 0 ≤ x) (x1 : x < 4294967296) (hm : m < 32) :
    bits .or .u32 (S : Int) (bits .and .u32 (x / 2 ^ j) 1 * 2 ^ m % 4294967296) = ((S ||| (x.toNat / 2 ^ j % 2) * 2 ^ m : Nat) : Int) := by
  obtain ⟨n, rfl⟩ := Int.eq_ofNat_of_zero_le x0
  have hn : n < 2 ^ 32 := by omega
  have e : ((n : Int) / 2 ^ j) = ((n / 2 ^ j : Nat) : Int) := by rw [Int.natCast_ediv]; simp
  have hq : n / 2 ^ j < 2 ^ 32 := Nat.lt_of_le_of_lt (Nat.div_le_self _ _) hn
  have hb := bit_lt (n / 2 ^ j) m 32 hm
  rw [e, and32 _ hq]
  have e2 : ((n / 2 ^ j % 2 : Nat) : Int) * 2 ^ m % 4294967296 = ((n / 2 ^ j % 2 * 2 ^ m : Nat) : Int) := by
    have : ((n / 2 ^ j % 2 : Nat) : Int) * 2 ^ m = ((n / 2 ^ j % 2 * 2 ^ m : Nat) : Int) := by rw [Int.natCast_mul]; simp
    rw [this]; omega
  rw [e2, or32 _ _ hS hb]
  simp
section
variable {P : Program}
theorem run_loadVar_part (w : World) (g o : Nat) (ty : TypeId) (cs : Array Value) (d : TypeDesc) (hc : ∀ i v, cs[i]? = some v → w.cell? ⟨g, o + i, none⟩ = some v)
    (hu : P.underlying ty = some d) (hd : (match d with | .struct _ | .array _ _ => true | _ => false) = true) (hi : (P.info? ty).map (·.size) = some cs.size) :
    (loadVar ty ⟨g, o, none⟩).run P w = .ok (.agg cs) w := by
  have hl : (loadCells ⟨g, o, none⟩ cs.toList.length).run P w = .ok cs.toList.toArray w :=
    run_loadCells_list (P := P) w ⟨g, o, none⟩ cs.toList (fun j v hv => by
      have hadd : (⟨g, o, none⟩ : Addr).add j = ⟨g, o + j, none⟩ := by unfold Addr.add; split <;> simp_all
      rw [hadd]
      exact hc j v (by simpa using hv))
  cases hq : P.info? ty with
  | none => simp [hq] at hi
  | some i =>
    have hs : i.size = cs.size := by simpa [hq] using hi
    have hagg : (isAgg ty).run P w = .ok true w := by
      unfold isAgg
      rw [Sem.run_bind, run_underlying hu w]
      cases d <;> simp_all
    simp only [Array.length_toList, Array.toArray_toList] at hl
    simp [loadVar, Sem.run_bind, hagg, sizeOf, typeInfo, hq, hs, hl]
theorem wp_load_part {o : Oper} {a : Act} {w : World} {K : Act → World → Prop} {Q : Exit → Act → World → Prop} (ty : TypeId) (x : Operand) (ho : o.op = .load ty x)
    (g of : Nat) (hx : a.eval x = .pointer (some ⟨g, of, none⟩)) (cs : Array Value) (hc : ∀ i v, cs[i]? = some v → w.cell? ⟨g, of + i, none⟩ = some v) (d : TypeDesc)
    (hu : P.underlying ty = some d) (hd : (match d with | .struct _ | .array _ _ => true | _ => false) = true) (hi : (P.info? ty).map (·.size) = some cs.size)
    (h : K (a.put o.dst (.agg cs)) w) : o.wp P a w K Q := by
  unfold Oper.wp execOp
  simp only [ho, hx, Instr.loadAt, Instr.sureAddr, Sem.run_bind, Sem.run_pure, Result.andThen_ok, run_loadVar_part w g of ty cs d hc hu hd hi]
  exact h
/-- A part of a variable that is an array, read as a whole. -/
theorem wpList_load_part {ops : Array Oper} {rest : List Oper} {o : Oper} {a : Act} {w : World} {Q : Exit → Act → World → Prop} (hgd : o.guard = none) (ty : TypeId) (x : Operand) (ho : o.op = .load ty x)
    (g of : Nat) (hx : a.eval x = .pointer (some ⟨g, of, none⟩)) (cs : Array Value) (hc : ∀ i v, cs[i]? = some v → w.cell? ⟨g, of + i, none⟩ = some v) (d : TypeDesc)
    (hu : P.underlying ty = some d) (hd : (match d with | .struct _ | .array _ _ => true | _ => false) = true) (hi : (P.info? ty).map (·.size) = some cs.size)
    (h : wpList P ops Q rest (a.put o.dst (.agg cs)) w) : wpList P ops Q (o :: rest) a w :=
  wpList_plain hgd fun _ hK => wp_load_part ty x ho g of hx cs hc d hu hd hi (hK _ _ h)
end
/-- An array's value at an index. -/
theorem index_tab (t e : TypeId) (n : Nat) (h : Tryz.prog.underlying t = some (.array n e)) (K : IntKind) (L : List Int) (k : Nat) (hk : k < L.length) (hn : k < n) (aE : ∀ w, (isAgg e).run Tryz.prog w = .ok false w) (zE : ∀ w, (Go.sizeOf e).run Tryz.prog w = .ok 1 w) (w : World) :
    (Instr.index t (.agg (L.map (Value.int K)).toArray) (.int .i64 (k : Int))).run Tryz.prog w = .ok (.int K (L.getD k 0)) w := by
  simp [Instr.index, run_underlying h, asIntOf, hn, go_sem, hk, aE, zE]
set_option maxHeartbeats 2000000 in
theorem number_w (a : Nat) (ha : a < 12) (x : Int) (x0 : 0 ≤ x) (x1 : x < 65536) (w : World) (tb : Tb w) :
    Calls Tryz.prog 99 #[.int .u16 x, .int .i64 (a : Int)] w fun e w' => e = .returned (.int .u32 ((cpH (inH.getD a []) x.toNat 11 : Nat) : Int)) ∧ w = w' := by
  have hT := inH_bd a ha
  have hl := inH_len a ha
  have htb := fun i (hi : i < 11) => tb.hf a i ha hi
  generalize inH.getD a [] = T at *
  have hc : ∀ i v, ((T.map (Value.int .i8)).toArray)[i]? = some v → w.cell? ⟨0, a * 11 + i, none⟩ = some v := by
    intro i v hv
    have hi : i < T.length := by
      rcases Nat.lt_or_ge i T.length with l | l
      · exact l
      · simp [List.getElem?_eq_none l] at hv
    rw [Nat.mul_comm, htb i (by omega), ← hv]
    simp [List.getElem?_eq_getElem hi, List.getD]
  have hs : ((T.map (Value.int .i8)).toArray).size = 11 := by simp [hl]
  clear tb htb
  have HC := Lib.hid hc
  have HS := Lib.hid hs
  clear hc hs
  go_enter Tryz.func99, Tryz.ntmps99
  go_wp2_with (refine wpList_load_part rfl 87 _ rfl 0 (a * 11) rfl (T.map (Value.int .i8)).toArray HC.out _ Tryz.underlying87 rfl (by rw [HS.out]; kernel_rfl) ?_)
  go_loopw [11, 5] (fun i n wr => ∃ k : Nat, k ≤ 11 ∧ i = .int .i64 k ∧ n = .int .u32 ((cpH T x.toNat k : Nat) : Int) ∧ w = wr) (fun i _ _ => 11 - (intOf i).toNat)
  case atStart => exact ⟨0, Nat.zero_le _, rfl, rfl, rfl⟩
  case round =>
    obtain ⟨k, hk, rfl, rfl, rfl⟩ := hrel
    have hs := cpH_lt T x.toNat k hT (by omega)
    by_cases hlt : k < 11
    · have e0 : (decide ((k : Int) < 11)) = true := by simp; omega
      have ht := hT k hlt
      have hidx : ∀ w, (Instr.index 87 (.agg (T.map (Value.int .i8)).toArray) (.int .i64 (k : Int))).run Tryz.prog w = .ok (.int .i8 (T.getD k 0)) w := fun w => index_tab _ _ 11 Tryz.underlying87 .i8 T k (by omega) hlt (fun _ => by kernel_rfl) (fun _ => by kernel_rfl) w
      have hst : cpH T x.toNat (k + 1) = match T.getD k 0 with
        | .ofNat m => cpH T x.toNat k ||| (x.toNat / 2 ^ (12 - k) % 2) * 2 ^ m
        | _ => cpH T x.toNat k := rfl
      have HST := Lib.hid hst
      clear hst
      have HT := Lib.hid hT
      clear hT
      generalize hg : T.getD k 0 = t at *
      clear hg
      generalize hS : cpH T x.toNat k = S at *
      clear hS
      generalize hU : (T.map (Value.int .i8)).toArray = U at *
      clear hU
      rcases (show t = -1 ∨ ∃ m : Nat, t = (m : Int) by
        rcases Int.lt_or_le t 0 with h | h
        · left; omega
        · right; exact ⟨t.toNat, by omega⟩) with rfl | ⟨m, rfl⟩
      · go_wp2
        exact ⟨⟨k + 1, by omega, by go_num, by have h := HST.out; simp only at h; rw [h], trivial⟩, by simp [intOf]; omega⟩
      · have e1 : ((m : Int) != -1) = true := by simp
        go_wp2
        exact ⟨⟨k + 1, by omega, by go_num, by have h := HST.out; simp only at h; rw [h]; exact congrArg (Value.int .u32) (or_step S (12 - k) m x hs x0 (by omega) (by omega)), trivial⟩, by simp [intOf]; omega⟩
    · have e0 : (decide ((k : Int) < 11)) = false := by simp; omega
      have hk2 : k = 11 := by omega
      subst hk2
      have HS2 := Lib.hid hs
      clear hs
      go_wp2
      go_ret
      exact ⟨rfl, rfl⟩
set_option maxHeartbeats 2000000 in
theorem lay_w (a : Nat) (ha : a < 5) (x : Int) (x0 : 0 ≤ x) (x1 : x < 4294967296) (w : World) (tb : Tb w) :
    Calls Tryz.prog 136 #[.int .i64 (a : Int), .int .u32 x] w fun e w' => e = .returned (.int .u32 ((cpW (inW.getD a []) x.toNat 25 : Nat) : Int)) ∧ w = w' := by
  have hT := inW_bd a ha
  have hl := inW_len a ha
  have htb := fun i (hi : i < 25) => tb.wd a i ha hi
  generalize inW.getD a [] = T at *
  have hc : ∀ i v, ((T.map (Value.int .i8)).toArray)[i]? = some v → w.cell? ⟨1, a * 25 + i, none⟩ = some v := by
    intro i v hv
    have hi : i < T.length := by
      rcases Nat.lt_or_ge i T.length with l | l
      · exact l
      · simp [List.getElem?_eq_none l] at hv
    rw [Nat.mul_comm, htb i (by omega), ← hv]
    simp [List.getElem?_eq_getElem hi, List.getD]
  have hs : ((T.map (Value.int .i8)).toArray).size = 25 := by simp [hl]
  clear tb htb
  have HC := Lib.hid hc
  have HS := Lib.hid hs
  clear hc hs
  go_enter Tryz.func136, Tryz.ntmps136
  go_wp2_with (refine wpList_load_part rfl 90 _ rfl 1 (a * 25) rfl (T.map (Value.int .i8)).toArray HC.out _ Tryz.underlying90 rfl (by rw [HS.out]; kernel_rfl) ?_)
  go_loopw [11, 5] (fun i n wr => ∃ k : Nat, k ≤ 25 ∧ i = .int .i64 k ∧ n = .int .u32 ((cpW T x.toNat k : Nat) : Int) ∧ w = wr) (fun i _ _ => 25 - (intOf i).toNat)
  case atStart => exact ⟨0, Nat.zero_le _, rfl, rfl, rfl⟩
  case round =>
    obtain ⟨k, hk, rfl, rfl, rfl⟩ := hrel
    have hs := cpW_lt T x.toNat k (by omega)
    by_cases hlt : k < 25
    · have e0 : (decide ((k : Int) < 25)) = true := by simp; omega
      have ht := hT k hlt
      have hidx : ∀ w, (Instr.index 90 (.agg (T.map (Value.int .i8)).toArray) (.int .i64 (k : Int))).run Tryz.prog w = .ok (.int .i8 (T.getD k 0)) w := fun w => index_tab _ _ 25 Tryz.underlying90 .i8 T k (by omega) hlt (fun _ => by kernel_rfl) (fun _ => by kernel_rfl) w
      have hst : cpW T x.toNat (k + 1) = match T.getD k 0 with
        | .ofNat m => cpW T x.toNat k ||| (x.toNat / 2 ^ m % 2) * 2 ^ (31 - k)
        | _ => cpW T x.toNat k := rfl
      have HST := Lib.hid hst
      clear hst
      have HT := Lib.hid hT
      clear hT
      generalize hg : T.getD k 0 = t at *
      clear hg
      generalize hS : cpW T x.toNat k = S at *
      clear hS
      generalize hU : (T.map (Value.int .i8)).toArray = U at *
      clear hU
      rcases (show t = -1 ∨ ∃ m : Nat, t = (m : Int) by
        rcases Int.lt_or_le t 0 with h | h
        · left; omega
        · right; exact ⟨t.toNat, by omega⟩) with rfl | ⟨m, rfl⟩
      · go_wp2
        exact ⟨⟨k + 1, by omega, by go_num, by have h := HST.out; simp only at h; rw [h], trivial⟩, by simp [intOf]; omega⟩
      · have e1 : ((m : Int) != -1) = true := by simp
        go_wp2
        exact ⟨⟨k + 1, by omega, by go_num, by have h := HST.out; simp only at h; rw [h]; exact congrArg (Value.int .u32) (or_step S m (31 - k) x hs x0 (by omega) (by omega)), trivial⟩, by simp [intOf]; omega⟩
    · have e0 : (decide ((k : Int) < 25)) = false := by simp; omega
      have hk2 : k = 25 := by omega
      subst hk2
      have HS2 := Lib.hid hs
      clear hs
      go_wp2
      go_ret
      exact ⟨rfl, rfl⟩
end Go.Proofs.YtlfeandnpflaaaaGreatDoor
namespace Go.Proofs.YtlfeandnpflaaaaGreatDoor
open Go.ChangeShapes Go.WideShapes Go.ChangeAt Go.RowKit
set_option linter.unusedVariables false
set_option linter.unusedSimpArgs false
/-- A half's number of the kind a; a word with nothing but a number's bits in the form a. -/
def nm (a x : Nat) : Nat := cpH (inH.getD a []) x 11
def ly (a n : Nat) : Nat := cpW (inW.getD a []) n 25
/-- A number whose highest bit is t, with its sign, of 32 bits. -/
def sg (t n : Nat) : Nat := if n < 2 ^ t then n else n + (4294967296 - 2 ^ (t + 1))
def R5 (op f3 rd r1 r2 : Nat) : Nat := r2 * 1048576 + r1 * 32768 + f3 * 4096 + rd * 128 + op
def wI (op f3 rd r1 n : Nat) : Nat := R5 op f3 rd r1 0 ||| ly 0 n
def wSB (op a f3 r1 r2 n : Nat) : Nat := R5 op f3 0 r1 r2 ||| ly a n
def wUJ (op a rd n : Nat) : Nat := R5 op 0 rd 0 0 ||| ly a n
/-- The registers that a half names. -/
def rD (x : Nat) : Nat := x / 128 % 32
def rS (x : Nat) : Nat := x / 4 % 32
def nD (x : Nat) : Nat := 8 + x / 128 % 8
def nS (x : Nat) : Nat := 8 + x / 4 % 8
def vr : Nat := 1073741824
def unl (b : Bool) (v : Nat) : Option Nat := if b then none else some v
def rPlace (x : Nat) : Option Nat := unl (nm 3 x == 0) (wI 19 0 (nS x) 2 (nm 3 x))
def rNearLoad (w k x : Nat) : Option Nat := some (wI 3 w (nS x) (nD x) (nm k x))
def rNearStore (w k x : Nat) : Option Nat := some (wSB 35 1 w (nD x) (nS x) (nm k x))
def rStackLoad (w k x : Nat) : Option Nat := unl (rD x == 0) (wI 3 w (rD x) 2 (nm k x))
def rStackStore (w k x : Nat) : Option Nat := some (wSB 35 1 w 2 (rS x) (nm k x))
def rBranch (f x : Nat) : Option Nat := some (wSB 99 2 f (nD x) 0 (sg 8 (nm 11 x)))
def rAdd (x : Nat) : Option Nat := some (wI 19 0 (rD x) (rD x) (sg 5 (nm 0 x)))
def rAddWord (x : Nat) : Option Nat := unl (rD x == 0) (wI 27 0 (rD x) (rD x) (sg 5 (nm 0 x)))
def rSet (x : Nat) : Option Nat := some (wI 19 0 (rD x) 0 (sg 5 (nm 0 x)))
def rUpper (x : Nat) : Option Nat :=
  if rD x = 2 then unl (sg 9 (nm 2 x) == 0) (wI 19 0 2 2 (sg 9 (nm 2 x))) else unl (sg 17 (nm 1 x) == 0) (wUJ 55 3 (rD x) (sg 17 (nm 1 x)))
def rPair (x : Nat) : Option Nat :=
  match x / 4096 % 2 * 4 + x / 32 % 4 with
  | 0 => some (vr ||| R5 51 0 (nD x) (nD x) (nS x))
  | 1 => some (R5 51 4 (nD x) (nD x) (nS x))
  | 2 => some (R5 51 6 (nD x) (nD x) (nS x))
  | 3 => some (R5 51 7 (nD x) (nD x) (nS x))
  | 4 => some (vr ||| R5 59 0 (nD x) (nD x) (nS x))
  | 5 => some (R5 59 0 (nD x) (nD x) (nS x))
  | _ => none
def rNear (x : Nat) : Option Nat :=
  match x / 1024 % 4 with
  | 0 => some (wI 19 5 (nD x) (nD x) (nm 0 x))
  | 1 => some (vr ||| wI 19 5 (nD x) (nD x) (nm 0 x))
  | 2 => some (wI 19 7 (nD x) (nD x) (sg 5 (nm 0 x)))
  | _ => rPair x
def rJump (x : Nat) : Option Nat := some (wUJ 111 4 0 (sg 11 (nm 10 x)))
def rShift (x : Nat) : Option Nat := some (wI 19 1 (rD x) (rD x) (nm 0 x))
def rMove (x : Nat) : Option Nat :=
  if x / 4096 % 2 = 0 then (if rS x = 0 then unl (rD x == 0) (wI 103 0 0 (rD x) 0) else some (R5 51 0 (rD x) 0 (rS x)))
  else if rS x = 0 then (if rD x = 0 then some 1048691 else some (wI 103 0 1 (rD x) 0)) else some (R5 51 0 (rD x) (rD x) (rS x))
/-- The row of the lowest two bits and the highest three. -/
def row (l h : Nat) : Option (Nat → Option Nat) := match l, h with
  | 0, 0 => some rPlace
  | 0, 2 => some (rNearLoad 2 4)
  | 0, 3 => some (rNearLoad 3 5)
  | 0, 6 => some (rNearStore 2 4)
  | 0, 7 => some (rNearStore 3 5)
  | 1, 0 => some rAdd
  | 1, 1 => some rAddWord
  | 1, 2 => some rSet
  | 1, 3 => some rUpper
  | 1, 4 => some rNear
  | 1, 5 => some rJump
  | 1, 6 => some (rBranch 0)
  | 1, 7 => some (rBranch 1)
  | 2, 0 => some rShift
  | 2, 2 => some (rStackLoad 2 6)
  | 2, 3 => some (rStackLoad 3 7)
  | 2, 4 => some rMove
  | 2, 6 => some (rStackStore 2 8)
  | 2, 7 => some (rStackStore 3 9)
  | _, _ => none
/-- For what the half x stands. -/
def ex (x : Nat) : Option Nat := match row (x % 4) (x / 8192) with
  | none => none
  | some f => f x

/-! The document's answer. -/
def dw (n p : Int) : Int := n % p
def sd (n p : Int) : Int := if 2 * n ≥ p then n - p else n
def dI (op f3 rd r1 n : Int) : Int := op + rd * 128 + f3 * 4096 + r1 * 32768 + n % 4096 * 1048576
def dR (op f3 f7 rd r1 r2 : Int) : Int := op + rd * 128 + f3 * 4096 + r1 * 32768 + r2 * 1048576 + f7 * 33554432
def dS (f3 r1 r2 n : Int) : Int := 35 + n % 32 * 128 + f3 * 4096 + r1 * 32768 + r2 * 1048576 + n / 32 * 33554432
def dB (f3 r1 n : Int) : Int := 99 + n % 8192 / 2048 % 2 * 128 + n % 8192 / 2 % 16 * 256 + f3 * 4096 + r1 * 32768 + n % 8192 / 32 % 64 * 33554432 + n % 8192 / 4096 * 2147483648
def dJ (n : Int) : Int := 111 + n % 2097152 / 4096 % 256 * 4096 + n % 2097152 / 2048 % 2 * 1048576 + n % 2097152 / 2 % 1024 * 2097152 + n % 2097152 / 1048576 * 2147483648
def six (h : Int) : Int := h / 4096 % 2 * 32 + h / 4 % 32
def dwd (h : Int) : Int := h / 1024 % 8 * 8 + h / 64 % 2 * 4 + h / 32 % 2 * 64
def dlg (h : Int) : Int := h / 1024 % 8 * 8 + h / 32 % 4 * 64
def dpl (h : Int) : Int := h / 2048 % 4 * 16 + h / 128 % 16 * 64 + h / 64 % 2 * 4 + h / 32 % 2 * 8
def dFirst (h : Int) : Int :=
  if h / 8192 % 8 = 0 then (if dpl h = 0 then 0 else dI 19 0 (8 + h / 4 % 8) 2 (dpl h))
  else if h / 8192 % 8 = 2 then dI 3 2 (8 + h / 4 % 8) (8 + h / 128 % 8) (dwd h)
  else if h / 8192 % 8 = 3 then dI 3 3 (8 + h / 4 % 8) (8 + h / 128 % 8) (dlg h)
  else if h / 8192 % 8 = 6 then dS 2 (8 + h / 128 % 8) (8 + h / 4 % 8) (dwd h)
  else if h / 8192 % 8 = 7 then dS 3 (8 + h / 128 % 8) (8 + h / 4 % 8) (dlg h) else 0
def dfr (h : Int) : Int := h / 4096 % 2 * 512 + h / 64 % 2 * 16 + h / 32 % 2 * 64 + h / 8 % 4 * 128 + h / 4 % 2 * 32
def dUpper (h : Int) : Int :=
  if h / 128 % 32 = 2 then (if dfr h = 0 then 0 else dI 19 0 2 2 (sd (dfr h) 1024))
  else if six h = 0 then 0 else 55 + h / 128 % 32 * 128 + sd (six h) 64 % 1048576 * 4096
def dAlu (h : Int) : Int :=
  if h / 1024 % 4 = 0 then dI 19 5 (8 + h / 128 % 8) (8 + h / 128 % 8) (six h)
  else if h / 1024 % 4 = 1 then dI 19 5 (8 + h / 128 % 8) (8 + h / 128 % 8) (1024 + six h)
  else if h / 1024 % 4 = 2 then dI 19 7 (8 + h / 128 % 8) (8 + h / 128 % 8) (sd (six h) 64)
  else if h / 4096 % 2 = 1 then (if h / 32 % 4 = 0 then dR 59 0 32 (8 + h / 128 % 8) (8 + h / 128 % 8) (8 + h / 4 % 8) else if h / 32 % 4 = 1 then dR 59 0 0 (8 + h / 128 % 8) (8 + h / 128 % 8) (8 + h / 4 % 8) else 0)
  else if h / 32 % 4 = 0 then dR 51 0 32 (8 + h / 128 % 8) (8 + h / 128 % 8) (8 + h / 4 % 8)
  else if h / 32 % 4 = 1 then dR 51 4 0 (8 + h / 128 % 8) (8 + h / 128 % 8) (8 + h / 4 % 8)
  else if h / 32 % 4 = 2 then dR 51 6 0 (8 + h / 128 % 8) (8 + h / 128 % 8) (8 + h / 4 % 8)
  else dR 51 7 0 (8 + h / 128 % 8) (8 + h / 128 % 8) (8 + h / 4 % 8)
def dto (h : Int) : Int := h / 4096 % 2 * 2048 + h / 2048 % 2 * 16 + h / 512 % 4 * 256 + h / 256 % 2 * 1024 + h / 128 % 2 * 64 + h / 64 % 2 * 128 + h / 8 % 8 * 2 + h / 4 % 2 * 32
def dbr (h : Int) : Int := h / 4096 % 2 * 256 + h / 1024 % 4 * 8 + h / 32 % 4 * 64 + h / 8 % 4 * 2 + h / 4 % 2 * 32
def dSecond (h : Int) : Int :=
  if h / 8192 % 8 = 0 then dI 19 0 (h / 128 % 32) (h / 128 % 32) (sd (six h) 64)
  else if h / 8192 % 8 = 1 then (if h / 128 % 32 = 0 then 0 else dI 27 0 (h / 128 % 32) (h / 128 % 32) (sd (six h) 64))
  else if h / 8192 % 8 = 2 then dI 19 0 (h / 128 % 32) 0 (sd (six h) 64)
  else if h / 8192 % 8 = 3 then dUpper h
  else if h / 8192 % 8 = 4 then dAlu h
  else if h / 8192 % 8 = 5 then dJ (sd (dto h) 4096)
  else dB (h / 8192 % 2) (8 + h / 128 % 8) (sd (dbr h) 512)
def dMoves (h : Int) : Int :=
  if h / 4 % 32 ≠ 0 then (if h / 4096 % 2 = 1 then dR 51 0 0 (h / 128 % 32) (h / 128 % 32) (h / 4 % 32) else dR 51 0 0 (h / 128 % 32) 0 (h / 4 % 32))
  else if h / 128 % 32 = 0 then (if h / 4096 % 2 = 1 then 1048691 else 0)
  else dI 103 0 (h / 4096 % 2) (h / 128 % 32) 0
def dThird (h : Int) : Int :=
  if h / 8192 % 8 = 0 then dI 19 1 (h / 128 % 32) (h / 128 % 32) (six h)
  else if h / 8192 % 8 = 2 then (if h / 128 % 32 = 0 then 0 else dI 3 2 (h / 128 % 32) 2 (h / 4096 % 2 * 32 + h / 16 % 8 * 4 + h / 4 % 4 * 64))
  else if h / 8192 % 8 = 3 then (if h / 128 % 32 = 0 then 0 else dI 3 3 (h / 128 % 32) 2 (h / 4096 % 2 * 32 + h / 32 % 4 * 8 + h / 4 % 8 * 64))
  else if h / 8192 % 8 = 4 then dMoves h
  else if h / 8192 % 8 = 6 then dS 2 2 (h / 4 % 32) (h / 512 % 16 * 4 + h / 128 % 4 * 64)
  else if h / 8192 % 8 = 7 then dS 3 2 (h / 4 % 32) (h / 1024 % 8 * 8 + h / 128 % 8 * 64) else 0
def dx (h : Int) : Int := if h % 4 = 0 then dFirst h else if h % 4 = 1 then dSecond h else if h % 4 = 2 then dThird h else 0
/-- All numbers below n. -/
def allB : Nat → (Nat → Bool) → Bool
  | 0, _ => true
  | n + 1, p => p n && allB n p
theorem allB_at {p : Nat → Bool} : ∀ {n : Nat}, allB n p = true → ∀ i, i < n → p i = true
  | n + 1, h, i, hi => by
    simp only [allB, Bool.and_eq_true] at h
    rcases Nat.lt_or_ge i n with l | l
    · exact allB_at h.2 i l
    · obtain rfl : i = n := by omega
      exact h.1
/-- All halves of a row: l + 4 * k + 8192 * h. -/
def allR (l h : Nat) (p : Nat → Bool) : Bool := allB 32 fun a => allB 64 fun b => p (h * 8192 + (a * 64 + b) * 4 + l)
theorem allR_at {l h : Nat} {p : Nat → Bool} (H : allR l h p = true) (x : Nat) (hl : x % 4 = l) (hh : x / 8192 = h) : p x = true := by
  have := allB_at (allB_at H (x / 4 % 2048 / 64) (by omega)) (x / 4 % 64) (by omega)
  rwa [show h * 8192 + (x / 4 % 2048 / 64 * 64 + x / 4 % 64) * 4 + l = x by omega] at this
end Go.Proofs.YtlfeandnpflaaaaGreatDoor
