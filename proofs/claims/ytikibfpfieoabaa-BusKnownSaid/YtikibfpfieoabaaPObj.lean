/-
  The program's interrupt controller in memory: 38 numbers of 32 bits; its cells turned; the atomic calls. No condition.
-/
import Derived.Test.YtikibfpfieoabaaPR
import Derived.Laws.LoneSync
namespace Go.Proofs.Ytikibfpfieoabaa
open Go.ChangeShapes Go.WideShapes Go.ChangeAt Go.RowKit
set_option linter.unusedVariables false
set_option linter.unusedSimpArgs false
set_option maxRecDepth 4000
/-- The program's controller: two words, priorities, two contexts. -/
structure CP (w : World) (g : Nat) (S : PS) (Q : Nat) : Prop where
  lt : g < w.heap.size
  fz : ∀ j, w.frozen? ⟨g, j, none⟩ = false
  c0 : w.cell? ⟨g, 0, none⟩ = some (.int .u32 (bw S.pe : Nat))
  c1 : w.cell? ⟨g, 1, none⟩ = some (.int .u32 (Q : Int))
  pr : ∀ i, i < 32 → w.cell? ⟨g, 2 + i, none⟩ = some (.int .u32 (S.pr i))
  en : ∀ c, c < 2 → w.cell? ⟨g, 34 + 2 * c, none⟩ = some (.int .u32 (bw (S.en c) : Nat))
  th : ∀ c, c < 2 → w.cell? ⟨g, 35 + 2 * c, none⟩ = some (.int .u32 (S.th c))
  hq : Q < 4294967296
  hs : ∀ i, 1 ≤ i → i < 32 → S.se i = Q.testBit i
theorem CP.block {w w' : World} {g : Nat} {S : PS} {Q : Nat} (m : CP w g S Q) (hs : w.heap.size ≤ w'.heap.size) (e : w'.heap[g]? = w.heap[g]?) : CP w' g S Q := by
  have c : ∀ j, w'.cell? ⟨g, j, none⟩ = w.cell? ⟨g, j, none⟩ := fun j => World.cell?_of_block e
  exact ⟨Nat.lt_of_lt_of_le m.lt hs, fun j => (World.frozen?_of_block (a := ⟨g, j, none⟩) e).trans (m.fz j), (c _).trans m.c0, (c _).trans m.c1, fun i h => (c _).trans (m.pr i h), fun i h => (c _).trans (m.en i h), fun i h => (c _).trans (m.th i h), m.hq, m.hs⟩
theorem CP.fr {w w' : World} {g : Nat} {S : PS} {Q : Nat} {R : Nat → Prop} (m : CP w g S Q) (k : Fr w w' R) (h : ¬ R g) : CP w' g S Q := m.block k.size (k.block g m.lt h)
theorem CP.below {w w' : World} {g : Nat} {S : PS} {Q : Nat} (m : CP w g S Q) (k : Below w.heap.size w w') : CP w' g S Q := m.block k.size (k.block g m.lt)
theorem CP.kp {w w' : World} {g : Nat} {S : PS} {Q : Nat} (m : CP w g S Q) (k : Kp w w') : CP w' g S Q := m.below k.1
theorem CP.drew {w : World} {g : Nat} {S : PS} {Q : Nat} (m : CP w g S Q) : CP w.drew g S Q := ⟨m.lt, m.fz, m.c0, m.c1, m.pr, m.en, m.th, m.hq, m.hs⟩
theorem CP.setP {w : World} {g : Nat} {S : PS} {Q : Nat} (m : CP w g S Q) (f : Nat → Bool) (x : Int) (hx : x = ((bw f : Nat) : Int)) : CP (w.setCell ⟨g, 0, none⟩ (.int .u32 x)) g { S with pe := f } Q := by
  subst hx
  exact ⟨by simpa [World.setCell] using m.lt, fun j => by rw [World.frozen?_setCell]; exact m.fz j, cell_self m.c0, cell_oth m.c1 (by omega), fun k h => cell_oth (m.pr k h) (by omega), fun k h => cell_oth (m.en k h) (by omega), fun k h => cell_oth (m.th k h) (by omega), m.hq, m.hs⟩
theorem CP.setQ {w : World} {g : Nat} {S : PS} {Q : Nat} (m : CP w g S Q) (f : Nat → Bool) (Q' : Nat) (x : Int) (hx : x = (Q' : Int)) (hq : Q' < 4294967296) (hs : ∀ i, 1 ≤ i → i < 32 → f i = Q'.testBit i) : CP (w.setCell ⟨g, 1, none⟩ (.int .u32 x)) g { S with se := f } Q' := by
  subst hx
  exact ⟨by simpa [World.setCell] using m.lt, fun j => by rw [World.frozen?_setCell]; exact m.fz j, cell_oth m.c0 (by omega), cell_self m.c1, fun k h => cell_oth (m.pr k h) (by omega), fun k h => cell_oth (m.en k h) (by omega), fun k h => cell_oth (m.th k h) (by omega), hq, hs⟩
theorem CP.setPr {w : World} {g : Nat} {S : PS} {Q : Nat} (m : CP w g S Q) (i : Nat) (hi : i < 32) (v : Int) : CP (w.setCell ⟨g, 2 + i, none⟩ (.int .u32 v)) g { S with pr := fun k => if k = i then v else S.pr k } Q := by
  refine ⟨by simpa [World.setCell] using m.lt, fun j => by rw [World.frozen?_setCell]; exact m.fz j, cell_oth m.c0 (by omega), cell_oth m.c1 (by omega), fun k h => ?_, fun k h => cell_oth (m.en k h) (by omega), fun k h => cell_oth (m.th k h) (by omega), m.hq, m.hs⟩
  show _ = some (Value.int .u32 (if k = i then v else S.pr k))
  by_cases e : k = i
  · subst e; rw [if_pos rfl]; exact cell_self (m.pr k h)
  · rw [if_neg e]; exact cell_oth (m.pr k h) (by omega)
theorem CP.setEn {w : World} {g : Nat} {S : PS} {Q : Nat} (m : CP w g S Q) (c : Nat) (hc : c < 2) (f : Nat → Bool) (x : Int) (hx : x = ((bw f : Nat) : Int)) : CP (w.setCell ⟨g, 34 + 2 * c, none⟩ (.int .u32 x)) g { S with en := fun d i => if d = c then f i else S.en d i } Q := by
  subst hx
  refine ⟨by simpa [World.setCell] using m.lt, fun j => by rw [World.frozen?_setCell]; exact m.fz j, cell_oth m.c0 (by omega), cell_oth m.c1 (by omega), fun k h => cell_oth (m.pr k h) (by omega), fun k h => ?_, fun k h => cell_oth (m.th k h) (by omega), m.hq, m.hs⟩
  show _ = some (Value.int .u32 ((bw (fun i => if k = c then f i else S.en k i) : Nat) : Int))
  by_cases e : k = c
  · subst e; simp only [if_true]; exact cell_self (m.en k h)
  · simp only [if_neg e]; exact cell_oth (m.en k h) (by omega)
theorem CP.setTh {w : World} {g : Nat} {S : PS} {Q : Nat} (m : CP w g S Q) (c : Nat) (hc : c < 2) (v : Int) : CP (w.setCell ⟨g, 35 + 2 * c, none⟩ (.int .u32 v)) g { S with th := fun d => if d = c then v else S.th d } Q := by
  refine ⟨by simpa [World.setCell] using m.lt, fun j => by rw [World.frozen?_setCell]; exact m.fz j, cell_oth m.c0 (by omega), cell_oth m.c1 (by omega), fun k h => cell_oth (m.pr k h) (by omega), fun k h => cell_oth (m.en k h) (by omega), fun k h => ?_, m.hq, m.hs⟩
  show _ = some (Value.int .u32 (if k = c then v else S.th k))
  by_cases e : k = c
  · subst e; rw [if_pos rfl]; exact cell_self (m.th k h)
  · rw [if_neg e]; exact cell_oth (m.th k h) (by omega)
/-- sync/atomic's And and Or: what the operation gives is stored; what was there is handed back. -/
theorem run_call_upd {P : Program} {f : FuncId} {fn : Func} (hf : P.funcs[f]? = some fn) (hname : (fn.name == "runtime.NumGoroutine") = false) (hb : fn.body.isNone = true) (hn : Extern.findNext fn = none) (k : IntKind) (op : BinOp)
    (he : Extern.find fn = some (Extern.Atomic.update (Op.intBits op) k false)) {a : Addr} {x y s : Int} {w : World} (hc : w.cell? a = some (.int k x)) (hz : w.frozen? a = false)
    (hs : Op.intBits op k x y = pure (.int k s)) :
    (callFunc f #[.pointer (some a), .int k y]).run P w = .ok (.value (.int k x)) (w.setCell a (.int k s)) := by
  rw [run_callFunc_extern hf hname hb hn he]
  change (Sem.run P (do
    let a' ← asAddr (.pointer (some a))
    let old ← Extern.Atomic.read (.int k) a'
    let new ← Op.intBits op k (← asInt old) (← asInt (.int k y))
    store a' new .atomic
    pure (if false = true then new else old)) w).andThen _ = _
  simp [Extern.Atomic.read, asAddr, asInt, asIntOf, hc, hz, hs, run_store P w a (.int k s) .atomic rfl, Result.andThen]
theorem aload_w {w : World} {g o : Nat} {x : Int} (hc : w.cell? ⟨g, o, none⟩ = some (.int .u32 x)) :
    Calls Try.prog 55 #[.pointer (some ⟨g, o, none⟩)] w fun e w' => e = .returned (.int .u32 x) ∧ w = w' := by
  have hd := run_call_load (P := Try.prog) Try.func59 (by kernel_rfl) (by kernel_rfl) (by kernel_rfl) .u32 (by kernel_rfl) hc
  go_enter Try.func55, Try.ntmps55
  go_wp2
  go_ret
  exact ⟨rfl, rfl⟩
theorem astore_w {w : World} {g o : Nat} {u : Value} (x : Int) (hc : w.cell? ⟨g, o, none⟩ = some u) (hz : w.frozen? ⟨g, o, none⟩ = false) :
    Calls Try.prog 111 #[.pointer (some ⟨g, o, none⟩), .int .u32 x] w fun e w' => e = .returned (.tuple #[]) ∧ w' = w.setCell ⟨g, o, none⟩ (.int .u32 x) := by
  have hd := run_call_store (P := Try.prog) Try.func112 (by kernel_rfl) (by kernel_rfl) (by kernel_rfl) (by kernel_rfl) (k := .u32) (y := x) hc hz
  go_enter Try.func111, Try.ntmps111
  go_wp2
  refine bodyPost_end (v := .tuple #[]) (by simp [results, Try.results111, go_sem]) rfl ⟨rfl, rfl⟩
theorem aand_w {w : World} {g o : Nat} {x y s : Int} (hc : w.cell? ⟨g, o, none⟩ = some (.int .u32 x)) (hz : w.frozen? ⟨g, o, none⟩ = false) (hs : bits .and .u32 x y = s) :
    Calls Try.prog 95 #[.pointer (some ⟨g, o, none⟩), .int .u32 y] w fun e w' => (∃ v, e = .returned v) ∧ w' = w.setCell ⟨g, o, none⟩ (.int .u32 s) := by
  have hd := run_call_upd (P := Try.prog) Try.func97 (by kernel_rfl) (by kernel_rfl) (by kernel_rfl) .u32 .and (by kernel_rfl) hc hz (by rw [intBits_and, hs])
  go_enter Try.func95, Try.ntmps95
  go_wp2
  go_ret
  exact ⟨⟨_, rfl⟩, rfl⟩
theorem aor_w {w : World} {g o : Nat} {x y s : Int} (hc : w.cell? ⟨g, o, none⟩ = some (.int .u32 x)) (hz : w.frozen? ⟨g, o, none⟩ = false) (hs : bits .or .u32 x y = s) :
    Calls Try.prog 96 #[.pointer (some ⟨g, o, none⟩), .int .u32 y] w fun e w' => (∃ v, e = .returned v) ∧ w' = w.setCell ⟨g, o, none⟩ (.int .u32 s) := by
  have hd := run_call_upd (P := Try.prog) Try.func98 (by kernel_rfl) (by kernel_rfl) (by kernel_rfl) .u32 .or (by kernel_rfl) hc hz (by rw [intBits_or, hs])
  go_enter Try.func96, Try.ntmps96
  go_wp2
  go_ret
  exact ⟨⟨_, rfl⟩, rfl⟩
end Go.Proofs.Ytikibfpfieoabaa
