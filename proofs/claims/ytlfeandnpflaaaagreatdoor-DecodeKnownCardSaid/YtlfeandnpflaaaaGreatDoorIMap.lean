/-
  The map of base's readers, as base makes it: which function stands at which number. No condition.
-/
import Derived.Test.YtlfeandnpflaaaaGreatDoorMB
import Derived.Maps.OwnOps
import Derived.Maps.OwnSet
namespace Go.Proofs.YtlfeandnpflaaaaGreatDoor
open Go.ChangeShapes Go.WideShapes Go.ChangeAt Go.RowKit Go.Maps
set_option linter.unusedVariables false
set_option linter.unusedSimpArgs false

/-- A function value reads as itself. -/
def fnE (v : Value) : Option (DataW Value × List MemPlace) := some (.held v, [])
theorem keyT : Keyed Tryz.prog 3 := int_keyed Tryz.underlying3
/-- As far as the map in block n is filled: its entries D, of k at most; and j blocks were made. -/
structure Mt (W : World) (n k j : Nat) (D : DataW Value) (w : World) : Prop where
  kp : Kp W w
  lo : W.heap.size ≤ n
  own : w.ownsMap Tryz.prog 3 fnE n k D
  size : w.heap.size = n + j
theorem mapTurned_size {w w' : World} {b : Nat} (h : w.mapTurned w' b) : w'.heap.size = w.heap.size := by
  obtain ⟨es, c, es', c', hb, rfl⟩ := h
  simp [ChangeMaps.setBlock]
theorem mapTurned_cell {w w' : World} {b : Nat} (h : w.mapTurned w' b) {p : Addr} (hp : p.block ≠ b) : w'.cell? p = w.cell? p := by
  obtain ⟨es, c, es', c', hb, rfl⟩ := h
  exact World.cell?_of_block (ChangeMaps.heap_setBlock_other hb _ hp)
theorem mapTurned_kp {W w w' : World} {b : Nat} (h : w.mapTurned w' b) (hW : W.heap.size ≤ b) (k : Kp W w) : Kp W w' := by
  have hg := h.grown
  refine ⟨k.1.trans ⟨hg.os, hg.tape, hg.output, hg.size, fun i hi => hg.block i (Nat.lt_of_lt_of_le hi k.size) (by intro e; cases e; omega)⟩, fun a => (h.frozen a).trans (k.2 a)⟩
theorem Mt.step {W w w' : World} {n k j : Nat} {D D' : DataW Value} (h : Mt W n k j D w) (o : w'.ownsMap Tryz.prog 3 fnE n (k + 1) D') (t : w.mapTurned w' n) : Mt W n (k + 1) j D' w' :=
  ⟨mapTurned_kp t h.lo h.kp, h.lo, o, by rw [mapTurned_size t]; exact h.size⟩
theorem Mt.alloc {W w : World} {n k j : Nat} {D : DataW Value} (h : Mt W n k j D w) (c : Array Value) (t : TypeId) : Mt W n k (j + 1) D (w.alloc (.cells c t)) :=
  ⟨h.kp.allocs c t, h.lo, h.own.alloc _, by have := h.size; simp; omega⟩
/-- The map of these, whose keys rise. -/
def ent (l : List (Int × Value)) : DataW Value := .map (l.map fun p => (.int .i64 p.1, .held p.2))
theorem put_end (l : List (Int × Value)) (k : Int) (v : Value) (h : l.all (fun p => decide (p.1 < k)) = true) : (ent l).put (.int .i64 k) (.held v) = ent (l ++ [(k, v)]) := by
  have h' : ∀ p ∈ l, p.1 < k := by simpa using h
  have hf : (l.map fun p => ((Lit.int .i64 p.1, DataW.held p.2) : Lit × DataW Value)).filter (fun p => !p.1.sameKey (.int .i64 k)) = l.map fun p => (Lit.int .i64 p.1, DataW.held p.2) := by
    rw [List.filter_eq_self]
    intro p hp
    obtain ⟨q, hq, rfl⟩ := List.mem_map.1 hp
    have := h' q hq
    simp [Lit.sameKey]; omega
  have hi : ∀ l : List (Int × Value), (∀ p ∈ l, p.1 < k) → DataW.insert (Lit.int .i64 k, DataW.held v) (l.map fun p => (Lit.int .i64 p.1, DataW.held p.2)) = (l ++ [(k, v)]).map fun p => (Lit.int .i64 p.1, DataW.held p.2) := by
    intro l
    induction l with
    | nil => intro _; rfl
    | cons q r ih =>
      intro hr
      have h1 := hr q (by simp)
      have h2 := ih (fun p hp => hr p (by simp [hp]))
      have hb : (Lit.int .i64 k).before (Lit.int .i64 q.1) = false := by
        simp only [Lit.before, decide_eq_false_iff_not]; omega
      simp only [List.map_cons, List.cons_append, DataW.insert, hb, h2]
      simp
  unfold ent DataW.put
  simp only
  rw [hf, hi l h']
theorem Mt.put {W w : World} {n k j : Nat} {l : List (Int × Value)} (h : Mt W n k j (ent l) w) (hk : k < 100) (key : Int) (hw : (Lit.int .i64 key).wf = true) (v : Value) (hl : l.all (fun p => decide (p.1 < key)) = true) :
    ∃ w', (Instr.mapUpdate 53 (.map (some n)) (.int .i64 key) v).run Tryz.prog w = .ok () w' ∧ Mt W n (k + 1) j (ent (l ++ [(key, v)])) w' ∧ w.mapTurned w' n := by
  obtain ⟨w', hr, ho, ht⟩ := h.own.store keyT Tryz.underlying53 (by unfold maxLen; omega) (keyOf_int_mk Tryz.underlying3 hw) (d := .held v) (ps := []) rfl
  rw [put_end l key v hl] at ho
  exact ⟨w', hr, h.step ho ht, ht⟩
/-- What stands at which number; the blocks of what the four closures captured. -/
def table (b1 b2 b3 b4 : Nat) : List (Int × Value) := [(3, .func (.func 72) #[] #[]), (15, .func (.func 73) #[] #[]), (19, .func (.func 74) #[] #[]), (23, .func (.func 123) #[] #[.pointer (some ⟨b1, 0, none⟩)]), (27, .func (.func 125) #[] #[.pointer (some ⟨b2, 0, none⟩)]), (35, .func (.func 77) #[] #[]), (47, .func (.func 78) #[] #[]), (51, .func (.func 79) #[] #[]), (55, .func (.func 123) #[] #[.pointer (some ⟨b3, 0, none⟩)]), (59, .func (.func 125) #[] #[.pointer (some ⟨b4, 0, none⟩)]), (99, .func (.func 80) #[] #[]), (103, .func (.func 81) #[] #[]), (111, .func (.func 82) #[] #[]), (115, .func (.func 83) #[] #[])]
/-- The map of readers lies in block n. -/
structure Made (W : World) (n b1 b2 b3 b4 : Nat) (w : World) : Prop where
  kp : Kp W w
  own : w.ownsMap Tryz.prog 3 fnE n 14 (ent (table b1 b2 b3 b4))
  c1 : w.cell? ⟨b1, 0, none⟩ = some (.int .i64 2)
  c2 : w.cell? ⟨b2, 0, none⟩ = some (.func (.func 74) #[] #[])
  c3 : w.cell? ⟨b3, 0, none⟩ = some (.int .i64 1)
  c4 : w.cell? ⟨b4, 0, none⟩ = some (.func (.func 79) #[] #[])
  l1 : b1 < w.heap.size
  l2 : b2 < w.heap.size
  l3 : b3 < w.heap.size
  l4 : b4 < w.heap.size
theorem cell_box (w : World) (v : Value) (t : TypeId) : (w.alloc (.cells #[v] t)).cell? ⟨w.heap.size, 0, none⟩ = some v := by simp [go_sem]
theorem cell_past {w w' : World} {n B : Nat} {v : Value} (t : w.mapTurned w' n) (h : w.cell? ⟨B, 0, none⟩ = some v) (hB : B ≠ n) : w'.cell? ⟨B, 0, none⟩ = some v := by
  rw [mapTurned_cell t hB]; exact h
theorem cell_al {w : World} {B : Nat} {v : Value} (h : w.cell? ⟨B, 0, none⟩ = some v) (o : Obj) : (w.alloc o).cell? ⟨B, 0, none⟩ = some v := by
  rw [World.cell?_alloc_some w _ o (by rw [h]; rfl)]; exact h
theorem Mt.ne {W w : World} {n k j : Nat} {D : DataW Value} (h : Mt W n k (j + 1) D w) : w.heap.size ≠ n := by have := h.size; omega
theorem Mt.lt {W w w' : World} {n k j k' j' : Nat} {D D' : DataW Value} (h : Mt W n k j D w) (h' : Mt W n k' j' D' w') (hj : j < j') : w.heap.size < w'.heap.size := by have := h.size; have := h'.size; omega
set_option maxHeartbeats 8000000 in
theorem readers_w (w : World) : Calls Tryz.prog 31 #[] w fun e w' => ∃ n b1 b2 b3 b4, e = .returned (.map (some n)) ∧ Made w n b1 b2 b3 b4 w' := by
  have hmm := @run_makeMap Tryz.prog
  have m0 : Mt w w.heap.size 0 1 (ent []) (w.alloc (.map #[] 0)) :=
    ⟨⟨(Below.refl _ _).alloc (Nat.le_refl _) _, fun a => frozen?_alloc_map w _ _ a⟩, Nat.le_refl _, World.ownsMap_made _ _ _ _, by simp⟩
  obtain ⟨w1, r1, m1, t1⟩ := m0.put (by decide) 3 (by decide) (.func (.func 72) #[] #[]) (by rfl)
  obtain ⟨w2, r2, m2, t2⟩ := m1.put (by decide) 15 (by decide) (.func (.func 73) #[] #[]) (by rfl)
  obtain ⟨w3, r3, m3, t3⟩ := m2.put (by decide) 19 (by decide) (.func (.func 74) #[] #[]) (by rfl)
  have k1_0 := cell_box w3 (.int .i64 2) 3
  have m3b := m3.alloc #[.int .i64 2] 3
  obtain ⟨w4, r4, m4, t4⟩ := m3b.put (by decide) 23 (by decide) (.func (.func 123) #[] #[.pointer (some ⟨w3.heap.size, 0, none⟩)]) (by rfl)
  have k1_3 := cell_past t4 k1_0 m3.ne
  have k2_0 := cell_box w4 (.func (.func 74) #[] #[]) 51
  have m4b := m4.alloc #[.func (.func 74) #[] #[]] 51
  have k1_4b := cell_al k1_3 (.cells #[.func (.func 74) #[] #[]] 51)
  obtain ⟨w5, r5, m5, t5⟩ := m4b.put (by decide) 27 (by decide) (.func (.func 125) #[] #[.pointer (some ⟨w4.heap.size, 0, none⟩)]) (by rfl)
  have k1_4 := cell_past t5 k1_4b m3.ne
  have k2_4 := cell_past t5 k2_0 m4.ne
  obtain ⟨w6, r6, m6, t6⟩ := m5.put (by decide) 35 (by decide) (.func (.func 77) #[] #[]) (by rfl)
  have k1_5 := cell_past t6 k1_4 m3.ne
  have k2_5 := cell_past t6 k2_4 m4.ne
  obtain ⟨w7, r7, m7, t7⟩ := m6.put (by decide) 47 (by decide) (.func (.func 78) #[] #[]) (by rfl)
  have k1_6 := cell_past t7 k1_5 m3.ne
  have k2_6 := cell_past t7 k2_5 m4.ne
  obtain ⟨w8, r8, m8, t8⟩ := m7.put (by decide) 51 (by decide) (.func (.func 79) #[] #[]) (by rfl)
  have k1_7 := cell_past t8 k1_6 m3.ne
  have k2_7 := cell_past t8 k2_6 m4.ne
  have k3_0 := cell_box w8 (.int .i64 1) 3
  have m8b := m8.alloc #[.int .i64 1] 3
  have k1_8b := cell_al k1_7 (.cells #[.int .i64 1] 3)
  have k2_8b := cell_al k2_7 (.cells #[.int .i64 1] 3)
  obtain ⟨w9, r9, m9, t9⟩ := m8b.put (by decide) 55 (by decide) (.func (.func 123) #[] #[.pointer (some ⟨w8.heap.size, 0, none⟩)]) (by rfl)
  have k1_8 := cell_past t9 k1_8b m3.ne
  have k2_8 := cell_past t9 k2_8b m4.ne
  have k3_8 := cell_past t9 k3_0 m8.ne
  have k4_0 := cell_box w9 (.func (.func 79) #[] #[]) 51
  have m9b := m9.alloc #[.func (.func 79) #[] #[]] 51
  have k1_9b := cell_al k1_8 (.cells #[.func (.func 79) #[] #[]] 51)
  have k2_9b := cell_al k2_8 (.cells #[.func (.func 79) #[] #[]] 51)
  have k3_9b := cell_al k3_8 (.cells #[.func (.func 79) #[] #[]] 51)
  obtain ⟨w10, r10, m10, t10⟩ := m9b.put (by decide) 59 (by decide) (.func (.func 125) #[] #[.pointer (some ⟨w9.heap.size, 0, none⟩)]) (by rfl)
  have k1_9 := cell_past t10 k1_9b m3.ne
  have k2_9 := cell_past t10 k2_9b m4.ne
  have k3_9 := cell_past t10 k3_9b m8.ne
  have k4_9 := cell_past t10 k4_0 m9.ne
  obtain ⟨w11, r11, m11, t11⟩ := m10.put (by decide) 99 (by decide) (.func (.func 80) #[] #[]) (by rfl)
  have k1_10 := cell_past t11 k1_9 m3.ne
  have k2_10 := cell_past t11 k2_9 m4.ne
  have k3_10 := cell_past t11 k3_9 m8.ne
  have k4_10 := cell_past t11 k4_9 m9.ne
  obtain ⟨w12, r12, m12, t12⟩ := m11.put (by decide) 103 (by decide) (.func (.func 81) #[] #[]) (by rfl)
  have k1_11 := cell_past t12 k1_10 m3.ne
  have k2_11 := cell_past t12 k2_10 m4.ne
  have k3_11 := cell_past t12 k3_10 m8.ne
  have k4_11 := cell_past t12 k4_10 m9.ne
  obtain ⟨w13, r13, m13, t13⟩ := m12.put (by decide) 111 (by decide) (.func (.func 82) #[] #[]) (by rfl)
  have k1_12 := cell_past t13 k1_11 m3.ne
  have k2_12 := cell_past t13 k2_11 m4.ne
  have k3_12 := cell_past t13 k3_11 m8.ne
  have k4_12 := cell_past t13 k4_11 m9.ne
  obtain ⟨w14, r14, m14, t14⟩ := m13.put (by decide) 115 (by decide) (.func (.func 83) #[] #[]) (by rfl)
  have k1_13 := cell_past t14 k1_12 m3.ne
  have k2_13 := cell_past t14 k2_12 m4.ne
  have k3_13 := cell_past t14 k3_12 m8.ne
  have k4_13 := cell_past t14 k4_12 m9.ne
  have fin : Made w w.heap.size (w3.heap.size) (w4.heap.size) (w8.heap.size) (w9.heap.size) w14 :=
    ⟨m14.kp, m14.own, k1_13, k2_13, k3_13, k4_13, m3.lt m14 (by decide), m4.lt m14 (by decide), m8.lt m14 (by decide), m9.lt m14 (by decide)⟩
  have F := Lib.hid fin
  clear fin k4_13 k3_13 k2_13 k1_13 t14 m14 k4_12 k3_12 k2_12 k1_12 t13 m13 k4_11 k3_11 k2_11 k1_11 t12 m12 k4_10 k3_10 k2_10 k1_10 t11 m11 k4_9 k3_9 k2_9 k1_9 t10 m10 k3_9b k2_9b k1_9b m9b k4_0 k3_8 k2_8 k1_8 t9 m9 k2_8b k1_8b m8b k3_0 k2_7 k1_7 t8 m8 k2_6 k1_6 t7 m7 k2_5 k1_5 t6 m6 k2_4 k1_4 t5 m5 k1_4b m4b k2_0 k1_3 t4 m4 m3b k1_0 t3 m3 t2 m2 t1 m1 m0
  go_enter Tryz.func31, Tryz.ntmps31
  go_wp2
  go_ret
  exact ⟨_, _, _, _, _, rfl, F.out⟩
end Go.Proofs.YtlfeandnpflaaaaGreatDoor
