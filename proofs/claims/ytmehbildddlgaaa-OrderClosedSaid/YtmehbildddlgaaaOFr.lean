/-
  Rows of capabilities, of ranges and of places that a call owns; what else of a world has turned. No condition.
-/
import Derived.Test.YtmehbildddlgaaaOMap
import Derived.Deep.AppendLies
import Derived.Laws.OwnMore
namespace Go.Proofs.Ytmehbildddlgaaa
open Go.ChangeShapes Go.WideShapes Go.ChangeAt Go.RowKit
set_option linter.unusedVariables false
set_option linter.unusedSimpArgs false

/-- Nothing has turned but blocks of a set, and what is new. -/
structure Fr (w w' : World) (S : Nat → Prop) : Prop where
  os : w'.os = w.os
  tape : w'.tape = w.tape
  output : w'.output = w.output
  size : w.heap.size ≤ w'.heap.size
  block : ∀ k, k < w.heap.size → ¬ S k → w'.heap[k]? = w.heap[k]?
theorem Fr.refl (w : World) (S : Nat → Prop) : Fr w w S := ⟨rfl, rfl, rfl, Nat.le_refl _, fun _ _ _ => rfl⟩
theorem Fr.trans {a b c : World} {S T : Nat → Prop} (h : Fr a b S) (k : Fr b c T) (hT : ∀ i, i < a.heap.size → T i → S i) : Fr a c S :=
  ⟨k.os.trans h.os, k.tape.trans h.tape, k.output.trans h.output, Nat.le_trans h.size k.size, fun i hi hS =>
    (k.block i (Nat.lt_of_lt_of_le hi h.size) (fun ht => hS (hT i hi ht))).trans (h.block i hi hS)⟩
theorem Fr.mono {a b : World} {S T : Nat → Prop} (h : Fr a b S) (hT : ∀ i, i < a.heap.size → S i → T i) : Fr a b T :=
  ⟨h.os, h.tape, h.output, h.size, fun i hi ht => h.block i hi (fun hs => ht (hT i hi hs))⟩
theorem Fr.drew {a b : World} {S : Nat → Prop} (h : Fr a b S) : Fr a b.drew S := ⟨h.os, h.tape, h.output, h.size, h.block⟩
theorem Fr.drewN {a b : World} {S : Nat → Prop} (h : Fr a b S) (n : Nat) : Fr a (b.drewN n) S := ⟨h.os, h.tape, h.output, h.size, h.block⟩
theorem Fr.alloc {a b : World} {S : Nat → Prop} (h : Fr a b S) (o : Obj) : Fr a (b.alloc o) S :=
  ⟨h.os, h.tape, h.output, by simpa using Nat.le_succ_of_le h.size, fun i hi hs => (heap_alloc_old b o (Nat.lt_of_lt_of_le hi h.size)).trans (h.block i hi hs)⟩
theorem Fr.setCell {a b : World} {S : Nat → Prop} (h : Fr a b S) {p : Addr} (hp : a.heap.size ≤ p.block ∨ S p.block) (u : Value) : Fr a (b.setCell p u) S :=
  ⟨h.os, h.tape, h.output, by simpa [World.setCell] using h.size, fun i hi hs => by
    rw [Below.heap_setCell b p u i (by rintro rfl; rcases hp with q | q; omega; exact hs q)]; exact h.block i hi hs⟩
theorem Fr.below {a b c : World} {S : Nat → Prop} {n : Nat} (h : Fr a b S) (k : Below n b c) (hn : ∀ i, i < a.heap.size → ¬ S i → i < n) : Fr a c S :=
  ⟨k.os.trans h.os, k.tape.trans h.tape, k.output.trans h.output, Nat.le_trans h.size k.size, fun i hi hs => (k.block i (hn i hi hs)).trans (h.block i hi hs)⟩
theorem Fr.kp {a b c : World} {S : Nat → Prop} (h : Fr a b S) (k : Kp b c) : Fr a c S := h.below k.1 (fun i hi _ => Nat.lt_of_lt_of_le hi h.size)
theorem Fr.grown {a b c : World} {S : Nat → Prop} {row : Option Nat} (h : Fr a b S) (k : b.grownBy c row) (hr : ∀ g, row = some g → a.heap.size ≤ g ∨ S g) : Fr a c S :=
  ⟨k.os.trans h.os, k.tape.trans h.tape, k.output.trans h.output, Nat.le_trans h.size k.size, fun i hi hs =>
    (k.block i (Nat.lt_of_lt_of_le hi h.size) (fun e => by rcases hr i e.symm with q | q; omega; exact hs q)).trans (h.block i hi hs)⟩
theorem Fr.turned {a b c : World} {S : Nat → Prop} {m : Nat} (h : Fr a b S) (k : b.mapTurned c m) (hr : a.heap.size ≤ m ∨ S m) : Fr a c S := h.grown k.grown (fun g e => by cases e; exact hr)
theorem Fr.of_kp {a b : World} (k : Kp a b) (S : Nat → Prop) : Fr a b S := (Fr.refl a S).kp k
/-- Nothing that was there has turned. -/
theorem Fr.bl {a b : World} {S : Nat → Prop} {n : Nat} (h : Fr a b S) (hn : n ≤ a.heap.size) (hS : ∀ i, S i → n ≤ i) : Below n a b :=
  ⟨h.os, h.tape, h.output, h.size, fun i hi => h.block i (Nat.lt_of_lt_of_le hi hn) (fun s => by have := hS i s; omega)⟩

/-- A block that is known whole. -/
def Blk (w : World) (g : Nat) (t : TypeId) (cs : List Value) : Prop := w.heap[g]? = some (.cells cs.toArray t (0, 0))
theorem Blk.lt {w : World} {g : Nat} {t : TypeId} {cs : List Value} (h : Blk w g t cs) : g < w.heap.size := by
  rcases Nat.lt_or_ge g w.heap.size with hlt | hge
  · exact hlt
  · unfold Blk at h; rw [Array.getElem?_eq_none hge] at h; cases h
theorem Blk.at_ {w : World} {g : Nat} {t : TypeId} {cs : List Value} (h : Blk w g t cs) : At g cs w := fun i v hi => by
  rw [cell_of_row w g i _ t (0, 0) h]; simpa using hi
theorem Blk.frozen {w : World} {g : Nat} {t : TypeId} {cs : List Value} (h : Blk w g t cs) (i : Nat) : w.frozen? ⟨g, i, none⟩ = false := by
  unfold Blk at h
  simp [World.frozen?, h]
theorem Blk.new (w : World) (t : TypeId) (cs : List Value) : Blk (w.alloc (.cells cs.toArray t)) w.heap.size t cs := heap_alloc_new w _
theorem Blk.block {w w' : World} {g : Nat} {t : TypeId} {cs : List Value} (h : Blk w g t cs) (e : w'.heap[g]? = w.heap[g]?) : Blk w' g t cs := e.trans h
theorem Blk.fr {w w' : World} {S : Nat → Prop} {g : Nat} {t : TypeId} {cs : List Value} (h : Blk w g t cs) (k : Fr w w' S) (hg : ¬ S g) : Blk w' g t cs := h.block (k.block g h.lt hg)
theorem Blk.drew {w : World} {g : Nat} {t : TypeId} {cs : List Value} (h : Blk w g t cs) : Blk w.drew g t cs := h
theorem Blk.alloc {w : World} {g : Nat} {t : TypeId} {cs : List Value} (h : Blk w g t cs) (o : Obj) : Blk (w.alloc o) g t cs := h.block (heap_alloc_old w o h.lt)
theorem Blk.set_ {w : World} {g : Nat} {t : TypeId} {cs : List Value} (h : Blk w g t cs) (i : Nat) (u : Value) : Blk (w.setCell ⟨g, i, none⟩ u) g t (cs.set i u) := by
  unfold Blk at h ⊢
  simp [World.setCell, Array.getElem?_modify, h]
theorem Blk.far {w : World} {g : Nat} {t : TypeId} {cs : List Value} (h : Blk w g t cs) {p : Addr} (hp : g ≠ p.block) (u : Value) : Blk (w.setCell p u) g t cs := h.block (Below.heap_setCell w p u g hp)
theorem Blk.ne_ {w : World} {g g' : Nat} {t t' : TypeId} {cs cs' : List Value} (h : Blk w g t cs) (h' : Blk w g' t' cs') (hne : t ≠ t') : g ≠ g' := by
  rintro rfl
  unfold Blk at h h'
  rw [h] at h'
  injection h' with h'
  injection h' with _ ht
  exact hne ht
theorem MS.blk_ne {w : World} {g mb : Nat} {t : TypeId} {cs : List Value} {L : List Cp} (h : Blk w g t cs) (m : MS w mb L) : g ≠ mb := by
  rintro rfl
  obtain ⟨n, D, ⟨es, clock, hb, _⟩, _⟩ := m
  unfold Blk at h
  rw [h] at hb; cases hb
section
variable {w w' : World} {B : Nat} {e e' : TypeId} {size n n' : Nat} {v v' : Value} {xs xs' : List Value}
theorem own_blk {g : Nat} {t : TypeId} {cs : List Value} (h : w.ownsRow B e size v n xs) (hg : Blk w g t cs) (hne : e ≠ t) : v.ownBlock ≠ some g := by
  rcases h.2 with ⟨rfl, _⟩ | ⟨g', cap, cur, rfl, _, hh, _⟩
  · simp [Value.ownBlock]
  · intro he
    have : g' = g := by simpa [Value.ownBlock] using he
    subst this
    have hh' : Blk w g' e cur.toList := hh
    exact Blk.ne_ hh' hg hne rfl
theorem own_map {mb : Nat} {L : List Cp} (h : w.ownsRow B e size v n xs) (hm : MS w mb L) : v.ownBlock ≠ some mb := by
  rcases h.2 with ⟨rfl, _⟩ | ⟨g', cap, cur, rfl, _, hh, _⟩
  · simp [Value.ownBlock]
  · intro he
    have : g' = mb := by simpa [Value.ownBlock] using he
    subst this
    have hh' : Blk w g' e cur.toList := hh
    exact MS.blk_ne hh' hm rfl
theorem own_own (h : w.ownsRow B e size v n xs) {g : Nat} (hg : v.ownBlock = some g) {B' size' : Nat} (h' : w.ownsRow B' e' size' v' n' xs') (hne : e ≠ e') : v'.ownBlock ≠ some g := by
  rcases h.2 with ⟨rfl, _⟩ | ⟨g', cap, cur, rfl, _, hh, _⟩
  · simp [Value.ownBlock] at hg
  · have : g' = g := by simpa [Value.ownBlock] using hg
    subst this
    have hh' : Blk w g' e cur.toList := hh
    exact own_blk h' hh' (Ne.symm hne)
theorem own_fr {S : Nat → Prop} (h : w.ownsRow B e size v n xs) (k : Fr w w' S) (hS : ∀ g, v.ownBlock = some g → ¬ S g) : w'.ownsRow B e size v n xs := by
  refine ⟨h.1, ?_⟩
  rcases h.2 with hn | ⟨g, cap, cur, rfl, hb, hgg, rest⟩
  · exact .inl hn
  · refine .inr ⟨g, cap, cur, rfl, hb, ?_, rest⟩
    rw [k.block g (Array.getElem?_eq_some_iff.1 hgg).1 (hS g rfl)]
    exact hgg
end
theorem MS.fr {w w' : World} {S : Nat → Prop} {mb : Nat} {L : List Cp} (h : MS w mb L) (k : Fr w w' S) (hS : ¬ S mb) : MS w' mb L := h.block (k.block mb h.lt hS)

def vsL (L : List Cp) : List Value := L.flatMap Cp.vs
theorem vsL_len (L : List Cp) : (vsL L).length = L.length * 9 := by
  induction L with
  | nil => rfl
  | cons c L ih => simp only [vsL, List.flatMap_cons, List.length_append, List.length_cons] at ih ⊢; rw [ih, Cp.vs_len]; omega
theorem vsL_snoc (L : List Cp) (c : Cp) : vsL (L ++ [c]) = vsL L ++ c.vs := by simp [vsL]
theorem vsL_at (L : List Cp) (i : Nat) (c : Cp) (h : L[i]? = some c) (k : Nat) (v : Value) (hk : c.vs[k]? = some v) : (vsL L)[i * 9 + k]? = some v := by
  induction L generalizing i with
  | nil => simp at h
  | cons d L ih =>
    have e : vsL (d :: L) = d.vs ++ vsL L := rfl
    rw [e]
    cases i with
    | zero =>
      simp only [List.getElem?_cons_zero, Option.some.injEq] at h
      subst h
      have hl : k < d.vs.length := (List.getElem?_eq_some_iff.1 hk).1
      rw [List.getElem?_append_left (by omega)]; simpa using hk
    | succ i =>
      rw [List.getElem?_append_right (by rw [Cp.vs_len]; omega), Cp.vs_len]
      have := ih i (by simpa using h)
      rw [show (i + 1) * 9 + k - 9 = i * 9 + k by omega]; exact this
/-- A slice of capabilities of the call's own. -/
abbrev OwnC (w : World) (B : Nat) (v : Value) (L : List Cp) : Prop := w.ownsRow B 25 9 v L.length (vsL L)
theorem OwnC.nil (w : World) (B : Nat) : OwnC w B (.slice none 0 0) [] := World.ownsRow_nil w B _ 9
theorem OwnC.rd {w : World} {B : Nat} {v : Value} {L : List Cp} (h : OwnC w B v L) : ∃ A cap, v = .slice A L.length cap ∧ L.length ≤ cap ∧ Rd w w.heap.size A L ∧ (∀ b o s, A = some ⟨b, o, s⟩ → v.ownBlock = some b ∧ o = 0 ∧ s = none) := by
  rcases h.2 with ⟨rfl, h0⟩ | ⟨g, cap, cur, rfl, hb, hg, hc, _⟩
  · have : L = [] := List.eq_nil_of_length_eq_zero h0
    subst this
    exact ⟨none, 0, rfl, Nat.le_refl _, Rd.nil _ _ _, fun b o s e => by cases e⟩
  · refine ⟨_, cap, rfl, hc, fun hn => ⟨g, 0, rfl, ?_, fun i c hi k v hk => ?_⟩, fun b o s e => by cases e; exact ⟨rfl, rfl, rfl⟩⟩
    · rcases Nat.lt_or_ge g w.heap.size with hlt | hge
      · exact hlt
      · rw [Array.getElem?_eq_none hge] at hg; cases hg
    · have := h.cells (g := g) rfl _ _ (vsL_at L i c hi k v hk)
      rw [Addr.add_lit] at this
      rw [← this]; congr 2; omega
theorem cap_info : (Try.prog.info? 25).map (fun i => (i.zero, i.size, i.bytes)) = some (some (.agg #[.bool false, .int .i64 0, .int .i64 0, .int .i64 0, .int .i64 0, .int .i64 0, .int .i64 0, .bool false, .int .u64 0]), 9, 72) := by kernel_rfl
theorem vs_one (c : Cp) : ∀ u ∈ c.vs, u.oneCell' = true := by
  intro u hu
  simp only [Cp.vs, List.mem_cons, List.not_mem_nil, or_false] at hu
  rcases hu with rfl | rfl | rfl | rfl | rfl | rfl | rfl | rfl | rfl <;> rfl
/-- append of one capability: in a plain region. -/
theorem app_c {w : World} {ops : Array Oper} {rest : List Oper} {o : Oper} {a : Act} {Q : Exit → Act → World → Prop} (hgd : o.guard = none) (s x : Operand)
    (ho : o.op = .call { callee := .builtin .append, args := #[s, x], argTypes := #[22, 22] }) (B : Nat) (v : Value) (L : List Cp) (hs : a.eval s = v) (hown : OwnC w B v L)
    (ad : Addr) (c : Nat) (d : Cp) (hx : a.eval x = .slice (some ad) 1 c) (hnews : ∀ j u, d.vs[j]? = some u → w.cell? (ad.add j) = some u) (hl : L.length < 1000000) (hbase : B ≤ w.heap.size) (H : Nat) (hH : w.heap.size = H)
    (h : ∀ g cap w', OwnC w' B (.slice (some ⟨g, 0, none⟩) (L.length + 1) cap) (L ++ [d]) → w.grownBy w' v.ownBlock → (v.ownBlock = some g ∨ g = H) → g < w'.heap.size → wpList Try.prog ops Q rest (a.put o.dst (.slice (some ⟨g, 0, none⟩) (L.length + 1) cap)) w') :
    wpList Try.prog ops Q (o :: rest) a w := by
  obtain ⟨i0, hi, hz0, hz1, hz2⟩ := info_parts cap_info
  refine wpList_append_lies w hgd s x _ ho B _ i0 _ 9 72 Try.underlying22 hi hz0 hz1 hz2 rfl (by omega) v L.length (vsL L) hs hown ad 1 c d.vs hx rfl hnews (vs_one d) (by omega) (by unfold maxLen; omega) (by omega) hbase H hH ?_
  intro g cap w1 hown1 hg h1 h2
  exact h g cap w1 (by unfold OwnC; rw [vsL_snoc, List.length_append]; exact hown1) hg h1 h2
/-- The same at a step of a region that draws its order. -/
theorem app_cs {w : World} {ops : Array Oper} {o : Oper} {a : Act} {K : Act → World → Prop} {Q : Exit → Act → World → Prop} {E : Prop} (hgd : o.guard = none) (s x : Operand)
    (ho : o.op = .call { callee := .builtin .append, args := #[s, x], argTypes := #[22, 22] }) (B : Nat) (v : Value) (L : List Cp) (hs : a.eval s = v) (hown : OwnC w B v L)
    (ad : Addr) (c : Nat) (d : Cp) (hx : a.eval x = .slice (some ad) 1 c) (hnews : ∀ j u, d.vs[j]? = some u → w.cell? (ad.add j) = some u) (hl : L.length < 1000000) (hbase : B ≤ w.heap.size) (H : Nat) (hH : w.heap.size = H)
    (h : ∀ g cap w', OwnC w' B (.slice (some ⟨g, 0, none⟩) (L.length + 1) cap) (L ++ [d]) → w.grownBy w' v.ownBlock → (v.ownBlock = some g ∨ g = H) → g < w'.heap.size → K (a.put o.dst (.slice (some ⟨g, 0, none⟩) (L.length + 1) cap)) w') :
    if Region.wanted o (yielded ops a.tmps) = true then Oper.wp Try.prog o a w K Q else E := by
  obtain ⟨i0, hi, hz0, hz1, hz2⟩ := info_parts cap_info
  refine step_append_lies w hgd s x _ ho B _ i0 _ 9 72 Try.underlying22 hi hz0 hz1 hz2 rfl (by omega) v L.length (vsL L) hs hown ad 1 c d.vs hx rfl hnews (vs_one d) (by omega) (by unfold maxLen; omega) (by omega) hbase H hH ?_
  intro g cap w1 hown1 hg h1 h2
  exact h g cap w1 (by unfold OwnC; rw [vsL_snoc, List.length_append]; exact hown1) hg h1 h2
end Go.Proofs.Ytmehbildddlgaaa
