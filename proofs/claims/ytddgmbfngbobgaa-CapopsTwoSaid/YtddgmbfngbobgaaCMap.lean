/-
  The map of functions that capops.questions makes: what a law of one insertion says; the map as it is made; what is found in it under a number. No condition.
-/
import Derived.Test.YtddgmbfngbobgaaKp
import Derived.WideMake
namespace Go.Proofs.Ytddgmbfngbobgaa
open Go.ChangeShapes Go.WideShapes Go.ChangeAt Go.RowKit
set_option linter.unusedVariables false
set_option linter.unusedSimpArgs false

theorem frozen_map {w : World} {r : Nat} {es es' : Array MapEntry} {c c' : Nat} (hb : w.heap[r]? = some (.map es c)) (a : Addr) :
    World.frozen? { w with heap := w.heap.setIfInBounds r (.map es' c') } a = w.frozen? a := by
  have hlt : r < w.heap.size := (Array.getElem?_eq_some_iff.1 hb).1
  by_cases h : a.block = r
  · subst h
    have h2 : (w.heap.setIfInBounds a.block (.map es' c'))[a.block]? = some (.map es' c') := by simp [hlt]
    simp only [World.frozen?, hb, h2]
  · simp [World.frozen?, Ne.symm h]
/-- Behind the world W, whose first new block is a map of these entries. -/
structure Mp (W : World) (es : Array MapEntry) (n : Nat) (w : World) : Prop where
  heap : w.heap[W.heap.size]? = some (.map es n)
  kp : Kp W w
theorem Mp.start (W : World) : Mp W #[] 0 (W.alloc (.map #[] 0)) :=
  ⟨(MapKept.heap_alloc W _).1, (Below.refl _ _).alloc (Nat.le_refl _) _, fun a => frozen?_alloc_map W _ _ a⟩
theorem run_ins {P : Program} {w : World} {mty kt et : TypeId} {r clock : Nat} {es : Array MapEntry} {k : Int} (val : Value) (hm : P.underlying mty = some (.map kt et)) (hk : P.underlying kt = some (.int .i64)) (hb : w.heap[r]? = some (.map es clock))
    (hf : Instr.findNow (.int .i64) (.int .i64 k) es.toList 0 = some none) :
    (Instr.mapUpdate mty (.map (some r)) (.int .i64 k) val).run P w = .ok () { w with heap := w.heap.setIfInBounds r (.map (es.push { key := .int .i64 k, val := val, born := clock }) (clock + 1)) } := by
  have hc : (Instr.checkKey false 10000 kt (.int .i64 k)).run P w = .ok () w := MapKept.run_checkKey (k := .int .i64 k) hk (by simp [MapKept.IsKey]) false 9999
  simp [Instr.mapUpdate, run_underlying hm, MapKept.run_getObj_map hb, hc, MapKept.run_findKey hk hf, MapKept.run_setObj_map _ hb, Result.andThen]
theorem Mp.ins {W w : World} {es : Array MapEntry} {n : Nat} (h : Mp W es n w) (e : MapEntry) : Mp W (es.push e) (n + 1) { w with heap := w.heap.setIfInBounds W.heap.size (.map (es.push e) (n + 1)) } := by
  have hlt : W.heap.size < w.heap.size := (Array.getElem?_eq_some_iff.1 h.heap).1
  refine ⟨by simp [hlt], ⟨h.kp.1.os, h.kp.1.tape, h.kp.1.output, by simpa using h.kp.1.size, fun k hk => ?_⟩, fun a => (frozen_map h.heap a).trans (h.kp.2 a)⟩
  rw [← h.kp.1.block k hk]
  simp [Nat.ne_of_gt hk]
theorem Mp.ins_ex {P : Program} {W w : World} {t kt et : TypeId} {es : Array MapEntry} {n : Nat} (h : Mp W es n w) (k : Int) (val : Value) (ht : P.underlying t = some (.map kt et)) (hk : P.underlying kt = some (.int .i64))
    (hf : Instr.findNow (.int .i64) (.int .i64 k) es.toList 0 = some none) :
    ∃ w', (Instr.mapUpdate t (.map (some W.heap.size)) (.int .i64 k) val).run P w = .ok () w' ∧ Mp W (es.push { key := .int .i64 k, val := val, born := n }) (n + 1) w' :=
  ⟨_, run_ins val ht hk h.heap hf, h.ins _⟩
theorem look_hit {P : Program} {w : World} {t kt et : TypeId} {r c : Nat} {es : Array MapEntry} {k : Int} {j : Nat} {v : Value} (ht : P.underlying t = some (.map kt et)) (hk : P.underlying kt = some (.int .i64)) (hb : w.heap[r]? = some (.map es c)) (hemp : es.isEmpty = false)
    (hf : Instr.findNow (.int .i64) (.int .i64 k) es.toList 0 = some (some (j, v))) :
    (Instr.lookup t (.map (some r)) (.int .i64 k) true).run P w = .ok (.tuple #[v, .bool true]) w := by
  have hc : (Instr.checkKey es.isEmpty 10000 kt (.int .i64 k)).run P w = .ok () w := MapKept.run_checkKey (k := .int .i64 k) hk (by simp [MapKept.IsKey]) _ 9999
  have hm : es ≠ #[] := by intro h; subst h; simp at hemp
  simp [Instr.lookup, run_underlying ht, MapKept.run_getObj_map hb, hc, hm, MapKept.run_findKey hk hf, Result.andThen]
theorem look_miss {P : Program} {w : World} {t kt et : TypeId} {r c : Nat} {es : Array MapEntry} {k : Int} {z : Value} (ht : P.underlying t = some (.map kt et)) (hk : P.underlying kt = some (.int .i64)) (hb : w.heap[r]? = some (.map es c)) (hemp : es.isEmpty = false)
    (hf : Instr.findNow (.int .i64) (.int .i64 k) es.toList 0 = some none) (hz : (zeroValue et).run P w = .ok z w) :
    (Instr.lookup t (.map (some r)) (.int .i64 k) true).run P w = .ok (.tuple #[z, .bool false]) w := by
  have hc : (Instr.checkKey es.isEmpty 10000 kt (.int .i64 k)).run P w = .ok () w := MapKept.run_checkKey (k := .int .i64 k) hk (by simp [MapKept.IsKey]) _ 9999
  have hm : es ≠ #[] := by intro h; subst h; simp at hemp
  simp [Instr.lookup, run_underlying ht, MapKept.run_getObj_map hb, hc, hm, MapKept.run_findKey hk hf, hz, Result.andThen]
def qtab : Array MapEntry := #[{ key := .int .i64 0, val := .func (.func 88) #[] #[], born := 0 }, { key := .int .i64 1, val := .func (.func 89) #[] #[], born := 1 }, { key := .int .i64 2, val := .func (.func 61) #[] #[], born := 2 }, { key := .int .i64 3, val := .func (.func 90) #[] #[], born := 3 }, { key := .int .i64 4, val := .func (.func 91) #[] #[], born := 4 }, { key := .int .i64 5, val := .func (.func 93) #[] #[], born := 5 }, { key := .int .i64 6, val := .func (.func 94) #[] #[], born := 6 }, { key := .int .i64 7, val := .func (.func 95) #[] #[], born := 7 }, { key := .int .i64 8, val := .func (.func 96) #[] #[], born := 8 }, { key := .int .i64 9, val := .func (.func 98) #[] #[], born := 9 }, { key := .int .i64 15, val := .func (.func 100) #[] #[], born := 10 }, { key := .int .i64 24, val := .func (.func 101) #[] #[], born := 11 }]
theorem tM : Try.prog.underlying 62 = some (.map 3 59) := by kernel_rfl
theorem tI : Try.prog.underlying 3 = some (.int .i64) := by kernel_rfl
theorem iF : (Try.prog.info? 59).map (fun i => i.zero) = some (some .nilFunc) := by kernel_rfl
theorem zF (w : World) : (zeroValue 59).run Try.prog w = .ok .nilFunc w := by
  obtain ⟨i, hi, hz⟩ := Option.map_eq_some_iff.1 iF
  simp [zeroValue, typeInfo, Sem.run, hi, hz, Result.andThen]
theorem questions_w (w : World) :
    Calls Try.prog 66 #[] w fun e w' => e = .returned (.map (some w.heap.size)) ∧ Mp w qtab 12 w' := by
  have hmm := @run_makeMap Try.prog
  have h0 := Mp.start w
  obtain ⟨w1, r1, h1⟩ := h0.ins_ex (t := 62) 0 (.func (.func 88) #[] #[]) tM tI (by kernel_rfl)
  obtain ⟨w2, r2, h2⟩ := h1.ins_ex (t := 62) 1 (.func (.func 89) #[] #[]) tM tI (by kernel_rfl)
  obtain ⟨w3, r3, h3⟩ := h2.ins_ex (t := 62) 2 (.func (.func 61) #[] #[]) tM tI (by kernel_rfl)
  obtain ⟨w4, r4, h4⟩ := h3.ins_ex (t := 62) 3 (.func (.func 90) #[] #[]) tM tI (by kernel_rfl)
  obtain ⟨w5, r5, h5⟩ := h4.ins_ex (t := 62) 4 (.func (.func 91) #[] #[]) tM tI (by kernel_rfl)
  obtain ⟨w6, r6, h6⟩ := h5.ins_ex (t := 62) 5 (.func (.func 93) #[] #[]) tM tI (by kernel_rfl)
  obtain ⟨w7, r7, h7⟩ := h6.ins_ex (t := 62) 6 (.func (.func 94) #[] #[]) tM tI (by kernel_rfl)
  obtain ⟨w8, r8, h8⟩ := h7.ins_ex (t := 62) 7 (.func (.func 95) #[] #[]) tM tI (by kernel_rfl)
  obtain ⟨w9, r9, h9⟩ := h8.ins_ex (t := 62) 8 (.func (.func 96) #[] #[]) tM tI (by kernel_rfl)
  obtain ⟨w10, r10, h10⟩ := h9.ins_ex (t := 62) 9 (.func (.func 98) #[] #[]) tM tI (by kernel_rfl)
  obtain ⟨w11, r11, h11⟩ := h10.ins_ex (t := 62) 15 (.func (.func 100) #[] #[]) tM tI (by kernel_rfl)
  obtain ⟨w12, r12, h12⟩ := h11.ins_ex (t := 62) 24 (.func (.func 101) #[] #[]) tM tI (by kernel_rfl)
  have H := Lib.hid h12
  clear h0 h1 h2 h3 h4 h5 h6 h7 h8 h9 h10 h11 h12
  go_enter Try.func66, Try.ntmps66
  go_wp2
  go_ret
  exact ⟨rfl, H.out⟩
theorem look_0 {w : World} {r : Nat} (h : w.heap[r]? = some (.map qtab 12)) : (Instr.lookup 62 (.map (some r)) (.int .i64 0) true).run Try.prog w = .ok (.tuple #[.func (.func 88) #[] #[], .bool true]) w :=
  look_hit (j := 0) tM tI h (by kernel_rfl) (by kernel_rfl)
theorem look_1 {w : World} {r : Nat} (h : w.heap[r]? = some (.map qtab 12)) : (Instr.lookup 62 (.map (some r)) (.int .i64 1) true).run Try.prog w = .ok (.tuple #[.func (.func 89) #[] #[], .bool true]) w :=
  look_hit (j := 1) tM tI h (by kernel_rfl) (by kernel_rfl)
theorem look_2 {w : World} {r : Nat} (h : w.heap[r]? = some (.map qtab 12)) : (Instr.lookup 62 (.map (some r)) (.int .i64 2) true).run Try.prog w = .ok (.tuple #[.func (.func 61) #[] #[], .bool true]) w :=
  look_hit (j := 2) tM tI h (by kernel_rfl) (by kernel_rfl)
theorem look_3 {w : World} {r : Nat} (h : w.heap[r]? = some (.map qtab 12)) : (Instr.lookup 62 (.map (some r)) (.int .i64 3) true).run Try.prog w = .ok (.tuple #[.func (.func 90) #[] #[], .bool true]) w :=
  look_hit (j := 3) tM tI h (by kernel_rfl) (by kernel_rfl)
theorem look_4 {w : World} {r : Nat} (h : w.heap[r]? = some (.map qtab 12)) : (Instr.lookup 62 (.map (some r)) (.int .i64 4) true).run Try.prog w = .ok (.tuple #[.func (.func 91) #[] #[], .bool true]) w :=
  look_hit (j := 4) tM tI h (by kernel_rfl) (by kernel_rfl)
theorem look_5 {w : World} {r : Nat} (h : w.heap[r]? = some (.map qtab 12)) : (Instr.lookup 62 (.map (some r)) (.int .i64 5) true).run Try.prog w = .ok (.tuple #[.func (.func 93) #[] #[], .bool true]) w :=
  look_hit (j := 5) tM tI h (by kernel_rfl) (by kernel_rfl)
theorem look_6 {w : World} {r : Nat} (h : w.heap[r]? = some (.map qtab 12)) : (Instr.lookup 62 (.map (some r)) (.int .i64 6) true).run Try.prog w = .ok (.tuple #[.func (.func 94) #[] #[], .bool true]) w :=
  look_hit (j := 6) tM tI h (by kernel_rfl) (by kernel_rfl)
theorem look_7 {w : World} {r : Nat} (h : w.heap[r]? = some (.map qtab 12)) : (Instr.lookup 62 (.map (some r)) (.int .i64 7) true).run Try.prog w = .ok (.tuple #[.func (.func 95) #[] #[], .bool true]) w :=
  look_hit (j := 7) tM tI h (by kernel_rfl) (by kernel_rfl)
theorem look_8 {w : World} {r : Nat} (h : w.heap[r]? = some (.map qtab 12)) : (Instr.lookup 62 (.map (some r)) (.int .i64 8) true).run Try.prog w = .ok (.tuple #[.func (.func 96) #[] #[], .bool true]) w :=
  look_hit (j := 8) tM tI h (by kernel_rfl) (by kernel_rfl)
theorem look_9 {w : World} {r : Nat} (h : w.heap[r]? = some (.map qtab 12)) : (Instr.lookup 62 (.map (some r)) (.int .i64 9) true).run Try.prog w = .ok (.tuple #[.func (.func 98) #[] #[], .bool true]) w :=
  look_hit (j := 9) tM tI h (by kernel_rfl) (by kernel_rfl)
theorem look_15 {w : World} {r : Nat} (h : w.heap[r]? = some (.map qtab 12)) : (Instr.lookup 62 (.map (some r)) (.int .i64 15) true).run Try.prog w = .ok (.tuple #[.func (.func 100) #[] #[], .bool true]) w :=
  look_hit (j := 10) tM tI h (by kernel_rfl) (by kernel_rfl)
theorem look_24 {w : World} {r : Nat} (h : w.heap[r]? = some (.map qtab 12)) : (Instr.lookup 62 (.map (some r)) (.int .i64 24) true).run Try.prog w = .ok (.tuple #[.func (.func 101) #[] #[], .bool true]) w :=
  look_hit (j := 11) tM tI h (by kernel_rfl) (by kernel_rfl)
theorem look_no {w : World} {r : Nat} (h : w.heap[r]? = some (.map qtab 12)) (n : Int) (h0 : n ≠ 0) (h1 : n ≠ 1) (h2 : n ≠ 2) (h3 : n ≠ 3) (h4 : n ≠ 4) (h5 : n ≠ 5) (h6 : n ≠ 6) (h7 : n ≠ 7) (h8 : n ≠ 8) (h9 : n ≠ 9) (h15 : n ≠ 15) (h24 : n ≠ 24) : (Instr.lookup 62 (.map (some r)) (.int .i64 n) true).run Try.prog w = .ok (.tuple #[.nilFunc, .bool false]) w :=
  look_miss tM tI h (by kernel_rfl) (by simp only [Instr.findNow, Instr.sameNow, qtab, beq_false_of_ne h0, beq_false_of_ne h1, beq_false_of_ne h2, beq_false_of_ne h3, beq_false_of_ne h4, beq_false_of_ne h5, beq_false_of_ne h6, beq_false_of_ne h7, beq_false_of_ne h8, beq_false_of_ne h9, beq_false_of_ne h15, beq_false_of_ne h24, if_true]) (zF w)
end Go.Proofs.Ytddgmbfngbobgaa
