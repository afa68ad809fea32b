/-
  Lists of integers that are read, and made; the statements' SameBytes and Pick. No condition.
  The document's UART: a row of bytes of its own, two cells; its switch. No condition.
-/
import Derived.Test.YtikibfpfieoabaaQFr
import Derived.Test.YtikibfpfieoabaaUSpec
import Derived.StillTailTactics
namespace Go.Proofs.Ytikibfpfieoabaa
open Go.ChangeShapes Go.WideShapes Go.ChangeAt Go.RowKit
set_option linter.unusedVariables false
set_option linter.unusedSimpArgs false
/-- A slice's value that reads as a list of integers. -/
def RdB (w : World) (v : Value) (L : List Int) : Prop :=
  ∃ A cap, v = .slice A L.length cap ∧ L.length ≤ cap ∧ ∀ i x, L[i]? = some x → ∃ g, A = some ⟨g, 0, none⟩ ∧ g < w.heap.size ∧ w.cell? ⟨g, i, none⟩ = some (.int .u8 x)
theorem RdB.kp {w w' : World} {v : Value} {L : List Int} (h : RdB w v L) (k : Kp w w') : RdB w' v L := by
  obtain ⟨A, cap, e, hc, hr⟩ := h
  refine ⟨A, cap, e, hc, fun i x hx => ?_⟩
  obtain ⟨g, ea, hg, hcell⟩ := hr i x hx
  exact ⟨g, ea, Nat.lt_of_lt_of_le hg k.size, (k.cell (p := ⟨g, i, none⟩) hg).trans hcell⟩
theorem RdB.below {w w' : World} {v : Value} {L : List Int} (h : RdB w v L) (k : Below w.heap.size w w') : RdB w' v L := by
  obtain ⟨A, cap, e, hc, hr⟩ := h
  refine ⟨A, cap, e, hc, fun i x hx => ?_⟩
  obtain ⟨g, ea, hg, hcell⟩ := hr i x hx
  exact ⟨g, ea, Nat.lt_of_lt_of_le hg k.size, (k.cell (p := ⟨g, i, none⟩) hg).trans hcell⟩
/-- A row of integers that a call owns. -/
def OwnB (w : World) (B : Nat) (v : Value) (L : List Int) : Prop := w.ownsRow B 5 1 v L.length (L.map (.int .u8))
theorem OwnB.nil (w : World) (B : Nat) : OwnB w B (.slice none 0 0) [] := World.ownsRow_nil w B _ 1
theorem OwnB.len_v {w : World} {B : Nat} {v : Value} {L : List Int} (h : OwnB w B v L) : ∃ A n, v = .slice A L.length n := by
  obtain ⟨hx, ⟨rfl, h0⟩ | ⟨g, cap, cur, rfl, hb, hg, hc, hm, hs, ht⟩⟩ := h
  · exact ⟨none, 0, by rw [h0]⟩
  · exact ⟨_, _, rfl⟩
theorem OwnB.rd {w : World} {B : Nat} {v : Value} {L : List Int} (h : OwnB w B v L) : RdB w v L := by
  obtain ⟨hx, ⟨rfl, hn⟩ | ⟨g, cap, cur, rfl, hb, hg, hn, hcap, hs, ht⟩⟩ := h
  · have e : L = [] := List.eq_nil_of_length_eq_zero hn
    subst e
    exact ⟨none, 0, rfl, Nat.le_refl _, fun i x hx => by simp at hx⟩
  · refine ⟨some ⟨g, 0, none⟩, cap, rfl, hn, fun i x hi => ⟨g, rfl, ?_, ?_⟩⟩
    · rcases Nat.lt_or_ge g w.heap.size with l | l
      · exact l
      · rw [Array.getElem?_eq_none l] at hg; cases hg
    · rw [cell_of_row w g i _ _ (0, 0) hg, ← Array.getElem?_toList]
      have e : (cur.toList.take (L.length * 1))[i]? = some (.int .u8 x) := by rw [ht, List.getElem?_map, hi]; rfl
      have hlt : i < L.length := by
        rcases Nat.lt_or_ge i L.length with l | l
        · exact l
        · rw [List.getElem?_eq_none l] at hi; cases hi
      rwa [List.getElem?_take_of_lt (by omega)] at e
theorem OwnB.below {w w' : World} {B : Nat} {v : Value} {L : List Int} (h : OwnB w B v L) (k : Below w.heap.size w w') : OwnB w' B v L := by
  obtain ⟨hx, ⟨rfl, h0⟩ | ⟨g, cap, cur, rfl, hb, hg, hc, hm, hs, ht⟩⟩ := h
  · exact ⟨hx, .inl ⟨rfl, h0⟩⟩
  · refine ⟨hx, .inr ⟨g, cap, cur, rfl, hb, ?_, hc, hm, hs, ht⟩⟩
    have hlt : g < w.heap.size := by
      rcases Nat.lt_or_ge g w.heap.size with l | l
      · exact l
      · rw [Array.getElem?_eq_none l] at hg; cases hg
    rw [k.block g hlt]; exact hg
/-- Through what turns other blocks. -/
theorem OwnB.fr {w w' : World} {B : Nat} {v : Value} {L : List Int} {S : Nat → Prop} (h : OwnB w B v L) (k : Fr w w' S) (hS : ∀ g, v.ownBlock = some g → ¬ S g) : OwnB w' B v L := by
  obtain ⟨hx, ⟨rfl, h0⟩ | ⟨g, cap, cur, rfl, hb, hg, hc, hm, hs, ht⟩⟩ := h
  · exact ⟨hx, .inl ⟨rfl, h0⟩⟩
  · refine ⟨hx, .inr ⟨g, cap, cur, rfl, hb, ?_, hc, hm, hs, ht⟩⟩
    have hlt : g < w.heap.size := by
      rcases Nat.lt_or_ge g w.heap.size with l | l
      · exact l
      · rw [Array.getElem?_eq_none l] at hg; cases hg
    rw [k.block g hlt (hS g rfl)]; exact hg
theorem OwnB.blk {w : World} {B : Nat} {v : Value} {L : List Int} (h : OwnB w B v L) {g : Nat} (e : v.ownBlock = some g) : B ≤ g ∧ g < w.heap.size := by
  obtain ⟨hx, ⟨rfl, h0⟩ | ⟨g', cap, cur, rfl, hb, hg, hc, hm, hs, ht⟩⟩ := h
  · cases e
  · have : g' = g := by simpa [Value.ownBlock] using e
    subst this
    refine ⟨hb, ?_⟩
    rcases Nat.lt_or_ge g' w.heap.size with l | l
    · exact l
    · rw [Array.getElem?_eq_none l] at hg; cases hg
theorem OwnB.mono {w : World} {B B' : Nat} {v : Value} {L : List Int} (h : OwnB w B v L) (hB : B' ≤ B) : OwnB w B' v L := by
  obtain ⟨hx, ⟨rfl, h0⟩ | ⟨g', cap, cur, rfl, hb, hg, hc, hm, hs, ht⟩⟩ := h
  · exact ⟨hx, .inl ⟨rfl, h0⟩⟩
  · exact ⟨hx, .inr ⟨g', cap, cur, rfl, by omega, hg, hc, hm, hs, ht⟩⟩
theorem OwnB.shape {w : World} {B : Nat} {v : Value} {L : List Int} (h : OwnB w B v L) : ∃ A cap, v = .slice A L.length cap ∧ L.length ≤ cap := by
  obtain ⟨A, cap, e, hc, _⟩ := h.rd
  exact ⟨A, cap, e, hc⟩
theorem byte_info : (Try.prog.info? 5).map (fun i => (i.zero, i.size, i.bytes)) = some (some (.int .u8 0), 1, 1) := by kernel_rfl
/-- append of one integer to a row of the call's own. -/
theorem app_b {w : World} {ops : Array Oper} {rest : List Oper} {o : Oper} {a : Act} {Q : Exit → Act → World → Prop} (hgd : o.guard = none) (s x : Operand)
    (ho : o.op = .call { callee := .builtin .append, args := #[s, x], argTypes := #[79, 79] }) (B : Nat) (v : Value) (L : List Int) (hs : a.eval s = v) (hown : OwnB w B v L)
    (ad : Addr) (c : Nat) (d : Int) (hx : a.eval x = .slice (some ad) 1 c) (hnews : w.cell? ad = some (.int .u8 d)) (hl : L.length < 1000000) (hbase : B ≤ w.heap.size) (H : Nat) (hH : w.heap.size = H)
    (h : ∀ g cap w', OwnB w' B (.slice (some ⟨g, 0, none⟩) (L.length + 1) cap) (L ++ [d]) → w.grownBy w' v.ownBlock → (v.ownBlock = some g ∨ g = H) → g < w'.heap.size → wpList Try.prog ops Q rest (a.put o.dst (.slice (some ⟨g, 0, none⟩) (L.length + 1) cap)) w') :
    wpList Try.prog ops Q (o :: rest) a w := by
  obtain ⟨i0, hi, hz0, hz1, hz2⟩ := info_parts byte_info
  refine wpList_append_lies w hgd s x _ ho B _ i0 _ 1 1 Try.underlying79 hi hz0 hz1 hz2 rfl (by omega) v L.length (L.map (.int .u8)) hs hown ad 1 c [.int .u8 d] hx rfl (fun j u hj => ?_) (fun u hu => ?_) (by omega) (by unfold maxLen; omega) (by omega) hbase H hH ?_
  · cases j with
    | zero => simp at hj; subst hj; rw [show ad.add 0 = ad by unfold Addr.add; split <;> simp_all]; exact hnews
    | succ j => simp at hj
  · simp at hu; subst hu; rfl
  · intro g cap w1 hown1 hg h1 h2
    exact h g cap w1 (by unfold OwnB; rw [List.map_append, List.length_append]; exact hown1) hg h1 h2
end Go.Proofs.Ytikibfpfieoabaa
namespace Go.Proofs.Ytikibfpfieoabaa
open Go.ChangeShapes Go.WideShapes Go.ChangeAt Go.RowKit
set_option linter.unusedVariables false
set_option linter.unusedSimpArgs false
/-- The document's: a slice of bytes, whose row stands from B on; whether it is enabled; the byte that was told. -/
structure RU (w : World) (B g : Nat) (v : Value) (S : US) : Prop where
  lt : g < w.heap.size
  gB : g < B
  fz : ∀ j, w.frozen? ⟨g, j, none⟩ = false
  c0 : w.cell? ⟨g, 0, none⟩ = some v
  c1 : w.cell? ⟨g, 1, none⟩ = some (.bool S.en)
  c2 : w.cell? ⟨g, 2, none⟩ = some (.int .i64 S.told)
  own : OwnB w B v S.l
theorem RU.fr {w w' : World} {B g : Nat} {v : Value} {S : US} {T : Nat → Prop} (m : RU w B g v S) (k : Fr w w' T) (h : ¬ T g) (hv : ∀ i, v.ownBlock = some i → ¬ T i) : RU w' B g v S := by
  have e := k.block g m.lt h
  have c : ∀ j, w'.cell? ⟨g, j, none⟩ = w.cell? ⟨g, j, none⟩ := fun j => World.cell?_of_block e
  exact ⟨Nat.lt_of_lt_of_le m.lt k.size, m.gB, fun j => (World.frozen?_of_block (a := ⟨g, j, none⟩) e).trans (m.fz j), (c _).trans m.c0, (c _).trans m.c1, (c _).trans m.c2, m.own.fr k hv⟩
theorem RU.below {w w' : World} {B g : Nat} {v : Value} {S : US} (m : RU w B g v S) (k : Below w.heap.size w w') : RU w' B g v S := m.fr ((Fr.refl w (fun _ => False)).below k (fun _ hi _ => hi)) id (fun _ _ h => h)
theorem RU.kp {w w' : World} {B g : Nat} {v : Value} {S : US} (m : RU w B g v S) (k : Kp w w') : RU w' B g v S := m.below k.1
theorem RU.blk {w : World} {B g : Nat} {v : Value} {S : US} (m : RU w B g v S) {i : Nat} (e : v.ownBlock = some i) : B ≤ i ∧ i < w.heap.size := m.own.blk e
theorem cell_othU {w : World} {g i j : Nat} {u : Value} {v : Option Value} (h : w.cell? ⟨g, i, none⟩ = v) (e : i ≠ j) : (w.setCell ⟨g, j, none⟩ u).cell? ⟨g, i, none⟩ = v := by
  rw [World.cell?_setCell_other w ⟨g, j, none⟩ ⟨g, i, none⟩ u (fun x => e (by cases x; rfl))]; exact h
theorem cell_selfU {w : World} {g i : Nat} {u v : Value} (h : w.cell? ⟨g, i, none⟩ = some v) : (w.setCell ⟨g, i, none⟩ u).cell? ⟨g, i, none⟩ = some u := by simp [go_sem, h]
theorem fr_set (w : World) (g j : Nat) (u : Value) : Fr w (w.setCell ⟨g, j, none⟩ u) (fun i => i = g) := (Fr.refl w (fun i => i = g)).setCell (p := ⟨g, j, none⟩) (.inr rfl) u
theorem RU.row {w : World} {B g : Nat} {v : Value} {S : US} (m : RU w B g v S) (j : Nat) (u : Value) : OwnB (w.setCell ⟨g, j, none⟩ u) B v S.l := m.own.fr (fr_set w g j u) (fun i e h => by have := (m.blk e).1; have := m.gB; omega)
theorem RU.set1 {w : World} {B g : Nat} {v : Value} {S : US} (m : RU w B g v S) (x : Bool) : RU (w.setCell ⟨g, 1, none⟩ (.bool x)) B g v { S with en := x } :=
  ⟨by simpa [World.setCell] using m.lt, m.gB, fun j => by rw [World.frozen?_setCell]; exact m.fz j, cell_othU m.c0 (by decide), cell_selfU m.c1, cell_othU m.c2 (by decide), m.row 1 _⟩
theorem RU.set2 {w : World} {B g : Nat} {v : Value} {S : US} (m : RU w B g v S) (x : Int) : RU (w.setCell ⟨g, 2, none⟩ (.int .i64 x)) B g v { S with told := x } :=
  ⟨by simpa [World.setCell] using m.lt, m.gB, fun j => by rw [World.frozen?_setCell]; exact m.fz j, cell_othU m.c0 (by decide), cell_othU m.c1 (by decide), cell_selfU m.c2, m.row 2 _⟩
/-- Another row. -/
theorem RU.set0 {w : World} {B g : Nat} {v v' : Value} {S : US} {l : List Int} (hlt : g < w.heap.size) (gB : g < B) (fz : ∀ j, w.frozen? ⟨g, j, none⟩ = false) (c0 : w.cell? ⟨g, 0, none⟩ = some v) (c1 : w.cell? ⟨g, 1, none⟩ = some (.bool S.en)) (c2 : w.cell? ⟨g, 2, none⟩ = some (.int .i64 S.told)) (own : OwnB w B v' l) : RU (w.setCell ⟨g, 0, none⟩ v') B g v' { S with l := l } :=
  ⟨by simpa [World.setCell] using hlt, gB, fun j => by rw [World.frozen?_setCell]; exact fz j, cell_selfU c0, cell_othU c1 (by decide), cell_othU c2 (by decide), own.fr (fr_set w g 0 v') (fun i e h => by have := (own.blk e).1; omega)⟩
/-- The UART's cells through a growth of its row. -/
theorem ru_row {w w7 : World} {B g : Nat} {v : Value} {S : US} {x : Obj} (m : RU w B g v S) (k : (w.alloc x).grownBy w7 v.ownBlock) : w7.cell? ⟨g, 0, none⟩ = some v ∧ w7.cell? ⟨g, 1, none⟩ = some (.bool S.en) ∧ w7.cell? ⟨g, 2, none⟩ = some (.int .i64 S.told) ∧ ∀ j, w7.frozen? ⟨g, j, none⟩ = false := by
  have f : Fr w w7 (fun i => v.ownBlock = some i) := ((Fr.refl w (fun i => v.ownBlock = some i)).alloc x).grown k (fun g h => .inr h)
  have e := f.block g m.lt (fun h => by have := (m.blk h).1; have := m.gB; omega)
  have c : ∀ j, w7.cell? ⟨g, j, none⟩ = w.cell? ⟨g, j, none⟩ := fun j => World.cell?_of_block e
  exact ⟨(c _).trans m.c0, (c _).trans m.c1, (c _).trans m.c2, fun j => (World.frozen?_of_block (a := ⟨g, j, none⟩) e).trans (m.fz j)⟩
/-- The document's switch. -/
structure RW (w : World) (g : Nat) (p : Bool) : Prop where
  lt : g < w.heap.size
  fz : ∀ j, w.frozen? ⟨g, j, none⟩ = false
  c0 : w.cell? ⟨g, 0, none⟩ = some (.bool p)
theorem RW.fr {w w' : World} {g : Nat} {p : Bool} {T : Nat → Prop} (m : RW w g p) (k : Fr w w' T) (h : ¬ T g) : RW w' g p := by
  have e := k.block g m.lt h
  exact ⟨Nat.lt_of_lt_of_le m.lt k.size, fun j => (World.frozen?_of_block (a := ⟨g, j, none⟩) e).trans (m.fz j), (World.cell?_of_block e).trans m.c0⟩
theorem RW.below {w w' : World} {g : Nat} {p : Bool} (m : RW w g p) (k : Below w.heap.size w w') : RW w' g p := m.fr ((Fr.refl w (fun _ => False)).below k (fun _ hi _ => hi)) id
theorem RW.kp {w w' : World} {g : Nat} {p : Bool} (m : RW w g p) (k : Kp w w') : RW w' g p := m.below k.1
end Go.Proofs.Ytikibfpfieoabaa
