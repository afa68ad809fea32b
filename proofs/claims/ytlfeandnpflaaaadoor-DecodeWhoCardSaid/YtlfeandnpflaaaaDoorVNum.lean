/-
  What the two copying functions tell: a half's number of a kind, a word with nothing but a number's bits; their contracts. No condition.
-/
import Derived.Test.YtlfeandnpflaaaaDoorVTab
import Derived.StillTailTactics
import Derived.Laws.Rows
namespace Go.Proofs.YtlfeandnpflaaaaDoor
open Go.ChangeShapes Go.WideShapes Go.ChangeAt Go.RowKit
set_option linter.unusedVariables false
set_option linter.unusedSimpArgs false
/-- The first i places' bits of the half x, where the list t says. -/
def cpH (t : List Int) (x : Nat) : Nat → Nat
  | 0 => 0
  | i + 1 => match t.getD i 0 with
    | .ofNat k => cpH t x i ||| (x / 2 ^ (12 - i) % 2) * 2 ^ k
    | _ => cpH t x i
def cpW (t : List Int) (x : Nat) : Nat → Nat
  | 0 => 0
  | i + 1 => match t.getD i 0 with
    | .ofNat k => cpW t x i ||| (x / 2 ^ k % 2) * 2 ^ (31 - i)
    | _ => cpW t x i
theorem bit_lt (y k n : Nat) (h : k < n) : y % 2 * 2 ^ k < 2 ^ n := by
  have h1 : y % 2 * 2 ^ k ≤ 1 * 2 ^ k := Nat.mul_le_mul_right _ (by omega)
  have h2 : 2 ^ k < 2 ^ n := Nat.pow_lt_pow_right (by omega) h
  omega
theorem cpH_lt (t : List Int) (x k : Nat) (h : ∀ i, i < 11 → -1 ≤ t.getD i 0 ∧ t.getD i 0 < 32) (hk : k ≤ 11) : cpH t x k < 2 ^ 32 := by
  induction k with
  | zero => simp [cpH]
  | succ i ih =>
    have ih := ih (by omega)
    have ht := h i (by omega)
    simp only [cpH]
    split
    · rename_i k e
      exact Nat.or_lt_two_pow ih (bit_lt _ _ _ (by rw [e] at ht; simp at ht; omega))
    · exact ih
theorem cpW_lt (t : List Int) (x k : Nat) (hk : k ≤ 25) : cpW t x k < 2 ^ 32 := by
  induction k with
  | zero => simp [cpW]
  | succ i ih =>
    have ih := ih (by omega)
    simp only [cpW]
    split
    · exact Nat.or_lt_two_pow ih (bit_lt _ _ _ (by omega))
    · exact ih
theorem inH_len (a : Nat) (h : a < 12) : (inH.getD a []).length = 11 := by revert a; decide
theorem inH_bd (a : Nat) (h : a < 12) : ∀ i, i < 11 → -1 ≤ (inH.getD a []).getD i 0 ∧ (inH.getD a []).getD i 0 < 32 := by revert a; decide
theorem inW_len (a : Nat) (h : a < 5) : (inW.getD a []).length = 25 := by revert a; decide
theorem inW_bd (a : Nat) (h : a < 5) : ∀ i, i < 25 → -1 ≤ (inW.getD a []).getD i 0 ∧ (inW.getD a []).getD i 0 < 32 := by revert a; decide
theorem or32 (a b : Nat) (ha : a < 2 ^ 32) (hb : b < 2 ^ 32) : bits .or .u32 (a : Int) (b : Int) = ((a ||| b : Nat) : Int) :=
  (bits_nat .u32 32 (by decide) (fun n h0 h1 => by rw [IntKind.wrap_u32]; omega) a b ha hb).2
theorem and32 (a : Nat) (ha : a < 2 ^ 32) : bits .and .u32 (a : Int) 1 = ((a % 2 : Nat) : Int) := by
  have h := (bits_nat .u32 32 (by decide) (fun n h0 h1 => by rw [IntKind.wrap_u32]; omega) a 1 ha (by decide)).1
  rw [Nat.and_one_is_mod] at h
  exact h
theorem or_step (S j m : Nat) (x : Int) (hS : S < 2 ^ 32) (x0 : 0 ≤ x) (x1 : x < 4294967296) (hm : m < 32) :
    bits .or .u32 (S : Int) (bits .and .u32 (x / 2 ^ j) 1 * 2 ^ m % 4294967296) = ((S ||| (x.toNat / 2 ^ j % 2) * 2 ^ m : Nat) : Int) := by
  obtain ⟨n, rfl⟩ := Int.eq_ofNat_of_zero_le x0
  have hn : n < 2 ^ 32 := by omega
  have e : ((n : Int) / 2 ^ j) = ((n / 2 ^ j : Nat) : Int) := by rw [Int.natCast_ediv]; simp
  have hq : n / 2 ^ j < 2 ^ 32 := Nat.lt_of_le_of_lt (Nat.div_le_self _ _) hn
  have hb := bit_lt (n / 2 ^ j) m 32 hm
  rw [e, and32 _ hq]
  have e2 : ((n / 2 ^ j % 2 : Nat) : Int) * 2 ^ m % 4294967296 = ((n / 2 ^ j % 2 * 2 ^ m : Nat) : Int) := by
    have : ((n / 2 ^ j % 2 : Nat) : Int) * 2 ^ m = ((n / 2 ^ j % 2 * 2 ^ m : Nat) : Int) := by rw [Int.natCast_mul]; simp
    rw [this]; omega
  rw [e2, or32 _ _ hS hb]
  simp
section
variable {P : Program}
theorem run_loadVar_part (w : World) (g o : Nat) (ty : TypeId) (cs : Array Value) (d : TypeDesc) (hc : ∀ i v, cs[i]? = some v → w.cell? ⟨g, o + i, none⟩ = some v)
    (hu : P.underlying ty = some d) (hd : (match d with | .struct _ | .array _ _ => true | _ => false) = true) (hi : (P.info? ty).map (·.size) = some cs.size) :
    (loadVar ty ⟨g, o, none⟩).run P w = .ok (.agg cs) w := by
  have hl : (loadCells ⟨g, o, none⟩ cs.toList.length).run P w = .ok cs.toList.toArray w :=
    run_loadCells_list (P := P) w ⟨g, o, none⟩ cs.toList (fun j v hv => by
      have hadd : (⟨g, o, none⟩ : Addr).add j = ⟨g, o + j, none⟩ := by unfold Addr.add; split <;> simp_all
      rw [hadd]
      exact hc j v (by simpa using hv))
  cases hq : P.info? ty with
  | none => simp [hq] at hi
  | some i =>
    have hs : i.size = cs.size := by simpa [hq] using hi
    have hagg : (isAgg ty).run P w = .ok true w := by
      unfold isAgg
      rw [Sem.run_bind, run_underlying hu w]
      cases d <;> simp_all
    simp only [Array.length_toList, Array.toArray_toList] at hl
    simp [loadVar, Sem.run_bind, hagg, sizeOf, typeInfo, hq, hs, hl]
theorem wp_load_part {o : Oper} {a : Act} {w : World} {K : Act → World → Prop} {Q : Exit → Act → World → Prop} (ty : TypeId) (x : Operand) (ho : o.op = .load ty x)
    (g of : Nat) (hx : a.eval x = .pointer (some ⟨g, of, none⟩)) (cs : Array Value) (hc : ∀ i v, cs[i]? = some v → w.cell? ⟨g, of + i, none⟩ = some v) (d : TypeDesc)
    (hu : P.underlying ty = some d) (hd : (match d with | .struct _ | .array _ _ => true | _ => false) = true) (hi : (P.info? ty).map (·.size) = some cs.size)
    (h : K (a.put o.dst (.agg cs)) w) : o.wp P a w K Q := by
  unfold Oper.wp execOp
  simp only [ho, hx, Instr.loadAt, Instr.sureAddr, Sem.run_bind, Sem.run_pure, Result.andThen_ok, run_loadVar_part w g of ty cs d hc hu hd hi]
  exact h
/-- A part of a variable that is an array, read as a whole. -/
theorem wpList_load_part {ops : Array Oper} {rest : List Oper} {o : Oper} {a : Act} {w : World} {Q : Exit → Act → World → Prop} (hgd : o.guard = none) (ty : TypeId) (x : Operand) (ho : o.op = .load ty x)
    (g of : Nat) (hx : a.eval x = .pointer (some ⟨g, of, none⟩)) (cs : Array Value) (hc : ∀ i v, cs[i]? = some v → w.cell? ⟨g, of + i, none⟩ = some v) (d : TypeDesc)
    (hu : P.underlying ty = some d) (hd : (match d with | .struct _ | .array _ _ => true | _ => false) = true) (hi : (P.info? ty).map (·.size) = some cs.size)
    (h : wpList P ops Q rest (a.put o.dst (.agg cs)) w) : wpList P ops Q (o :: rest) a w :=
  wpList_plain hgd fun _ hK => wp_load_part ty x ho g of hx cs hc d hu hd hi (hK _ _ h)
end
/-- An array's value at an index. -/
theorem index_tab (t e : TypeId) (n : Nat) (h : Tryd.prog.underlying t = some (.array n e)) (K : IntKind) (L : List Int) (k : Nat) (hk : k < L.length) (hn : k < n) (aE : ∀ w, (isAgg e).run Tryd.prog w = .ok false w) (zE : ∀ w, (Go.sizeOf e).run Tryd.prog w = .ok 1 w) (w : World) :
    (Instr.index t (.agg (L.map (Value.int K)).toArray) (.int .i64 (k : Int))).run Tryd.prog w = .ok (.int K (L.getD k 0)) w := by
  simp [Instr.index, run_underlying h, asIntOf, hn, go_sem, hk, aE, zE]
set_option maxHeartbeats 2000000 in
theorem number_w (a : Nat) (ha : a < 12) (x : Int) (x0 : 0 ≤ x) (x1 : x < 65536) (w : World) (tb : Tb w) :
    Calls Tryd.prog 58 #[.int .u16 x, .int .i64 (a : Int)] w fun e w' => e = .returned (.int .u32 ((cpH (inH.getD a []) x.toNat 11 : Nat) : Int)) ∧ w = w' := by
  have hT := inH_bd a ha
  have hl := inH_len a ha
  have htb := fun i (hi : i < 11) => tb.hf a i ha hi
  generalize inH.getD a [] = T at *
  have hc : ∀ i v, ((T.map (Value.int .i8)).toArray)[i]? = some v → w.cell? ⟨0, a * 11 + i, none⟩ = some v := by
    intro i v hv
    have hi : i < T.length := by
      rcases Nat.lt_or_ge i T.length with l | l
      · exact l
      · simp [List.getElem?_eq_none l] at hv
    rw [Nat.mul_comm, htb i (by omega), ← hv]
    simp [List.getElem?_eq_getElem hi, List.getD]
  have hs : ((T.map (Value.int .i8)).toArray).size = 11 := by simp [hl]
  clear tb htb
  have HC := Lib.hid hc
  have HS := Lib.hid hs
  clear hc hs
  go_enter Tryd.func58, Tryd.ntmps58
  go_wp2_with (refine wpList_load_part rfl 74 _ rfl 0 (a * 11) rfl (T.map (Value.int .i8)).toArray HC.out _ Tryd.underlying74 rfl (by rw [HS.out]; kernel_rfl) ?_)
  go_loopw [11, 5] (fun i n wr => ∃ k : Nat, k ≤ 11 ∧ i = .int .i64 k ∧ n = .int .u32 ((cpH T x.toNat k : Nat) : Int) ∧ w = wr) (fun i _ _ => 11 - (intOf i).toNat)
  case atStart => exact ⟨0, Nat.zero_le _, rfl, rfl, rfl⟩
  case round =>
    obtain ⟨k, hk, rfl, rfl, rfl⟩ := hrel
    have hs := cpH_lt T x.toNat k hT (by omega)
    by_cases hlt : k < 11
    · have e0 : (decide ((k : Int) < 11)) = true := by simp; omega
      have ht := hT k hlt
      have hidx : ∀ w, (Instr.index 74 (.agg (T.map (Value.int .i8)).toArray) (.int .i64 (k : Int))).run Tryd.prog w = .ok (.int .i8 (T.getD k 0)) w := fun w => index_tab _ _ 11 Tryd.underlying74 .i8 T k (by omega) hlt (fun _ => by kernel_rfl) (fun _ => by kernel_rfl) w
      have hst : cpH T x.toNat (k + 1) = match T.getD k 0 with
        | .ofNat m => cpH T x.toNat k ||| (x.toNat / 2 ^ (12 - k) % 2) * 2 ^ m
        | _ => cpH T x.toNat k := rfl
      have HST := Lib.hid hst
      clear hst
      have HT := Lib.hid hT
      clear hT
      generalize hg : T.getD k 0 = t at *
      clear hg
      generalize hS : cpH T x.toNat k = S at *
      clear hS
      generalize hU : (T.map (Value.int .i8)).toArray = U at *
      clear hU
      rcases (show t = -1 ∨ ∃ m : Nat, t = (m : Int) by
        rcases Int.lt_or_le t 0 with h | h
        · left; omega
        · right; exact ⟨t.toNat, by omega⟩) with rfl | ⟨m, rfl⟩
      · go_wp2
        exact ⟨⟨k + 1, by omega, by go_num, by have h := HST.out; simp only at h; rw [h], trivial⟩, by simp [intOf]; omega⟩
      · have e1 : ((m : Int) != -1) = true := by simp
        go_wp2
        exact ⟨⟨k + 1, by omega, by go_num, by have h := HST.out; simp only at h; rw [h]; exact congrArg (Value.int .u32) (or_step S (12 - k) m x hs x0 (by omega) (by omega)), trivial⟩, by simp [intOf]; omega⟩
    · have e0 : (decide ((k : Int) < 11)) = false := by simp; omega
      have hk2 : k = 11 := by omega
      subst hk2
      have HS2 := Lib.hid hs
      clear hs
      go_wp2
      go_ret
      exact ⟨rfl, rfl⟩
set_option maxHeartbeats 2000000 in
theorem lay_w (a : Nat) (ha : a < 5) (x : Int) (x0 : 0 ≤ x) (x1 : x < 4294967296) (w : World) (tb : Tb w) :
    Calls Tryd.prog 95 #[.int .i64 (a : Int), .int .u32 x] w fun e w' => e = .returned (.int .u32 ((cpW (inW.getD a []) x.toNat 25 : Nat) : Int)) ∧ w = w' := by
  have hT := inW_bd a ha
  have hl := inW_len a ha
  have htb := fun i (hi : i < 25) => tb.wd a i ha hi
  generalize inW.getD a [] = T at *
  have hc : ∀ i v, ((T.map (Value.int .i8)).toArray)[i]? = some v → w.cell? ⟨1, a * 25 + i, none⟩ = some v := by
    intro i v hv
    have hi : i < T.length := by
      rcases Nat.lt_or_ge i T.length with l | l
      · exact l
      · simp [List.getElem?_eq_none l] at hv
    rw [Nat.mul_comm, htb i (by omega), ← hv]
    simp [List.getElem?_eq_getElem hi, List.getD]
  have hs : ((T.map (Value.int .i8)).toArray).size = 25 := by simp [hl]
  clear tb htb
  have HC := Lib.hid hc
  have HS := Lib.hid hs
  clear hc hs
  go_enter Tryd.func95, Tryd.ntmps95
  go_wp2_with (refine wpList_load_part rfl 77 _ rfl 1 (a * 25) rfl (T.map (Value.int .i8)).toArray HC.out _ Tryd.underlying77 rfl (by rw [HS.out]; kernel_rfl) ?_)
  go_loopw [11, 5] (fun i n wr => ∃ k : Nat, k ≤ 25 ∧ i = .int .i64 k ∧ n = .int .u32 ((cpW T x.toNat k : Nat) : Int) ∧ w = wr) (fun i _ _ => 25 - (intOf i).toNat)
  case atStart => exact ⟨0, Nat.zero_le _, rfl, rfl, rfl⟩
  case round =>
    obtain ⟨k, hk, rfl, rfl, rfl⟩ := hrel
    have hs := cpW_lt T x.toNat k (by omega)
    by_cases hlt : k < 25
    · have e0 : (decide ((k : Int) < 25)) = true := by simp; omega
      have ht := hT k hlt
      have hidx : ∀ w, (Instr.index 77 (.agg (T.map (Value.int .i8)).toArray) (.int .i64 (k : Int))).run Tryd.prog w = .ok (.int .i8 (T.getD k 0)) w := fun w => index_tab _ _ 25 Tryd.underlying77 .i8 T k (by omega) hlt (fun _ => by kernel_rfl) (fun _ => by kernel_rfl) w
      have hst : cpW T x.toNat (k + 1) = match T.getD k 0 with
        | .ofNat m => cpW T x.toNat k ||| (x.toNat / 2 ^ m % 2) * 2 ^ (31 - k)
        | _ => cpW T x.toNat k := rfl
      have HST := Lib.hid hst
      clear hst
      have HT := Lib.hid hT
      clear hT
      generalize hg : T.getD k 0 = t at *
      clear hg
      generalize hS : cpW T x.toNat k = S at *
      clear hS
      generalize hU : (T.map (Value.int .i8)).toArray = U at *
      clear hU
      rcases (show t = -1 ∨ ∃ m : Nat, t = (m : Int) by
        rcases Int.lt_or_le t 0 with h | h
        · left; omega
        · right; exact ⟨t.toNat, by omega⟩) with rfl | ⟨m, rfl⟩
      · go_wp2
        exact ⟨⟨k + 1, by omega, by go_num, by have h := HST.out; simp only at h; rw [h], trivial⟩, by simp [intOf]; omega⟩
      · have e1 : ((m : Int) != -1) = true := by simp
        go_wp2
        exact ⟨⟨k + 1, by omega, by go_num, by have h := HST.out; simp only at h; rw [h]; exact congrArg (Value.int .u32) (or_step S m (31 - k) x hs x0 (by omega) (by omega)), trivial⟩, by simp [intOf]; omega⟩
    · have e0 : (decide ((k : Int) < 25)) = false := by simp; omega
      have hk2 : k = 25 := by omega
      subst hk2
      have HS2 := Lib.hid hs
      clear hs
      go_wp2
      go_ret
      exact ⟨rfl, rfl⟩
end Go.Proofs.YtlfeandnpflaaaaDoor
