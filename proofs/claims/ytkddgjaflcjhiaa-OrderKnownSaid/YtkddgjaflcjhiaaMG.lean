/-
  A growth: its list, its map, its keys; the contract of order's lay. Capabilities' numbers are in their places; at most a hundred thousand of them.
  The contract of order's begin: the base, as a growth. Capabilities' numbers are in their places; at most a thousand of them.
  Locks: pairs of a place and a number, as a slice of the call's own holds them; one more is laid where there is room. No condition.
  The contract of order's locks; what a lock's number tells. Capabilities' numbers are in their places; at most a hundred thousand of them.
  The contract of order's opens: does some one of the list open that one? Capabilities' numbers are in their places; at most a hundred thousand of them.
  The contract of order's Close: it tells the closure, in memory of its own. Capabilities' numbers are in their places, at most a thousand of them.
-/
import Derived.Test.YtkddgjaflcjhiaaMF
import Derived.Test.YtkddgjaflcjhiaaOSmall
import Derived.Deep.RegionLaw
import Derived.StillTailTactics
import Derived.WalkMore
namespace Go.Proofs.Ytkddgjaflcjhiaa
open Go.ChangeShapes Go.WideShapes Go.ChangeAt Go.RowKit Go.Maps
set_option linter.unusedVariables false
set_option linter.unusedSimpArgs false

/-- A capability's bounds, as a range's three values. -/
def rngV (c : Cp) : List Value := [.int .u64 (ofB c.e c.b c.a), .int .u64 (ofT c.e c.b c.t c.g c.a), .bool (ofO c.e c.b c.t c.g c.a)]
def vsK (K : List Cp) : List Value := K.flatMap rngV
theorem vsK_snoc (K : List Cp) (c : Cp) : vsK (K ++ [c]) = vsK K ++ rngV c := by simp [vsK]
theorem vsK_at (K : List Cp) (i : Nat) (c : Cp) (h : K[i]? = some c) (k : Nat) (v : Value) (hk : (rngV c)[k]? = some v) : (vsK K)[i * 3 + k]? = some v := by
  induction K generalizing i with
  | nil => simp at h
  | cons d K ih =>
    have e : vsK (d :: K) = rngV d ++ vsK K := rfl
    have l3 : ∀ y, (rngV y).length = 3 := fun _ => rfl
    rw [e]
    cases i with
    | zero =>
      simp only [List.getElem?_cons_zero, Option.some.injEq] at h
      subst h
      have hl : k < (rngV d).length := (List.getElem?_eq_some_iff.1 hk).1
      rw [List.getElem?_append_left (by omega)]; simpa using hk
    | succ i =>
      rw [List.getElem?_append_right (by rw [l3]; omega), l3]
      have := ih i (by simpa using h)
      rw [show (i + 1) * 3 + k - 3 = i * 3 + k by omega]; exact this
/-- A slice of ranges of the call's own. -/
abbrev OwnK (w : World) (B : Nat) (v : Value) (K : List Cp) : Prop := w.ownsRow B 39 3 v K.length (vsK K)
theorem OwnK.nil (w : World) (B : Nat) : OwnK w B (.slice none 0 0) [] := World.ownsRow_nil w B _ 3
theorem OwnK.rd {w : World} {B : Nat} {v : Value} {K : List Cp} (h : OwnK w B v K) : ∃ A cap, v = .slice A K.length cap ∧ ∀ i c, K[i]? = some c → ∃ b, A = some ⟨b, 0, none⟩ ∧ b < w.heap.size ∧ v.ownBlock = some b ∧
    w.cell? ⟨b, i * 3, none⟩ = some (.int .u64 (ofB c.e c.b c.a)) ∧ w.cell? ⟨b, i * 3 + 1, none⟩ = some (.int .u64 (ofT c.e c.b c.t c.g c.a)) ∧ w.cell? ⟨b, i * 3 + 2, none⟩ = some (.bool (ofO c.e c.b c.t c.g c.a)) := by
  rcases id h.2 with ⟨rfl, h0⟩ | ⟨g, cap, cur, rfl, hb, hg, hc, _⟩
  · have : K = [] := List.eq_nil_of_length_eq_zero h0
    subst this
    exact ⟨none, 0, rfl, fun i c hi => by simp at hi⟩
  · refine ⟨_, cap, rfl, fun i c hi => ⟨g, rfl, (h.lt g rfl).2, rfl, ?_⟩⟩
    have k : ∀ j v, (rngV c)[j]? = some v → w.cell? ⟨g, i * 3 + j, none⟩ = some v := fun j v hj => by
      have := h.cells (g := g) rfl _ _ (vsK_at K i c hi j v hj)
      rw [Addr.add_lit] at this
      rw [← this]; congr 2; omega
    exact ⟨k 0 _ rfl, k 1 _ rfl, k 2 _ rfl⟩
theorem rng_info : (Try.prog.info? 39).map (fun i => (i.zero, i.size, i.bytes)) = some (some (.agg #[.int .u64 0, .int .u64 0, false]), 3, 24) := by kernel_rfl
theorem rng_one (c : Cp) : ∀ u ∈ rngV c, u.oneCell' = true := by
  intro u hu
  simp only [rngV, List.mem_cons, List.not_mem_nil, or_false] at hu
  rcases hu with rfl | rfl | rfl <;> rfl
theorem app_ks {w : World} {ops : Array Oper} {o : Oper} {a : Act} {K : Act → World → Prop} {Q : Exit → Act → World → Prop} {E : Prop} (hgd : o.guard = none) (s x : Operand)
    (ho : o.op = .call { callee := .builtin .append, args := #[s, x], argTypes := #[54, 54] }) (B : Nat) (v : Value) (L : List Cp) (hs : a.eval s = v) (hown : OwnK w B v L)
    (ad : Addr) (c : Nat) (d : Cp) (hx : a.eval x = .slice (some ad) 1 c) (hnews : ∀ j u, (rngV d)[j]? = some u → w.cell? (ad.add j) = some u) (hl : L.length < 1000000) (hbase : B ≤ w.heap.size) (H : Nat) (hH : w.heap.size = H)
    (h : ∀ g cap w', OwnK w' B (.slice (some ⟨g, 0, none⟩) (L.length + 1) cap) (L ++ [d]) → w.grownBy w' v.ownBlock → (v.ownBlock = some g ∨ g = H) → g < w'.heap.size → K (a.put o.dst (.slice (some ⟨g, 0, none⟩) (L.length + 1) cap)) w') :
    if Region.wanted o (yielded ops a.tmps) = true then Oper.wp Try.prog o a w K Q else E := by
  obtain ⟨i0, hi, hz0, hz1, hz2⟩ := info_parts rng_info
  refine step_append_lies w hgd s x _ ho B _ i0 _ 3 24 Try.underlying54 hi hz0 hz1 hz2 rfl (by omega) v L.length (vsK L) hs hown ad 1 c (rngV d) hx rfl hnews (rng_one d) (by omega) (by unfold maxLen; omega) (by omega) hbase H hH ?_
  intro g cap w1 hown1 hg h1 h2
  exact h g cap w1 (by unfold OwnK; rw [vsK_snoc, List.length_append]; exact hown1) hg h1 h2
/-- Those that unseal. -/
def keyR (c : Cp) : Bool := !c.sealed && hasP c.pe 256
def keysOf (L : List Cp) : List Cp := L.filter keyR
theorem keysOf_snoc (L : List Cp) (x : Cp) : keysOf (L ++ [x]) = if keyR x then keysOf L ++ [x] else keysOf L := by
  unfold keysOf; rw [List.filter_append]; cases h : keyR x <;> simp [h]
theorem keysOf_len (L : List Cp) : (keysOf L).length ≤ L.length := List.length_filter_le _ _
theorem keyB_keys (L : List Cp) (k : Int) : keyB L k = (keysOf L).any (fun x => rngIn x k) := by
  rw [keyB, keysOf, List.any_filter]
  congr 1
/-- A growth, in block q. -/
structure Gr (w : World) (B q mb : Nat) (lv kv : Value) (L M K : List Cp) : Prop where
  blk : Blk w q 56 [lv, .map (some mb), kv]
  list : OwnC w B lv L
  map : MS w mb M
  keys : OwnK w B kv K
def GS (q mb : Nat) (lv kv : Value) : Nat → Prop := fun k => k = q ∨ k = mb ∨ lv.ownBlock = some k ∨ kv.ownBlock = some k
theorem Gr.fr {w w' : World} {B q mb : Nat} {lv kv : Value} {L M K : List Cp} {S : Nat → Prop} (h : Gr w B q mb lv kv L M K) (k : Fr w w' S) (h1 : ¬ S q) (h2 : ¬ S mb) (h3 : ∀ g, lv.ownBlock = some g → ¬ S g) (h4 : ∀ g, kv.ownBlock = some g → ¬ S g) : Gr w' B q mb lv kv L M K :=
  ⟨h.blk.fr k h1, own_fr h.list k h3, h.map.fr k h2, own_fr h.keys k h4⟩
theorem Gr.kp {w w' : World} {B q mb : Nat} {lv kv : Value} {L M K : List Cp} (h : Gr w B q mb lv kv L M K) (k : Kp w w') : Gr w' B q mb lv kv L M K :=
  h.fr (Fr.of_kp k (fun _ => False)) id id (fun _ _ => id) (fun _ _ => id)
theorem Gr.alloc {w : World} {B q mb : Nat} {lv kv : Value} {L M K : List Cp} (h : Gr w B q mb lv kv L M K) (o : Obj) : Gr (w.alloc o) B q mb lv kv L M K :=
  h.fr ((Fr.refl w (fun _ => False)).alloc o) id id (fun _ _ => id) (fun _ _ => id)
theorem Gr.drew {w : World} {B q mb : Nat} {lv kv : Value} {L M K : List Cp} (h : Gr w B q mb lv kv L M K) : Gr w.drew B q mb lv kv L M K := ⟨h.blk, h.list, h.map, h.keys⟩
theorem Gr.cells {w : World} {B q mb : Nat} {lv kv : Value} {L M K : List Cp} (h : Gr w B q mb lv kv L M K) : w.cell? ⟨q, 0, none⟩ = some lv ∧ w.cell? ⟨q, 1, none⟩ = some (.map (some mb)) ∧ w.cell? ⟨q, 2, none⟩ = some kv := (h.blk.at_).out3
theorem Gr.q_lt {w : World} {B q mb : Nat} {lv kv : Value} {L M K : List Cp} (h : Gr w B q mb lv kv L M K) : q < w.heap.size := h.blk.lt
theorem Gr.apart {w : World} {B q mb : Nat} {lv kv : Value} {L M K : List Cp} (h : Gr w B q mb lv kv L M K) : q ≠ mb ∧ lv.ownBlock ≠ some q ∧ kv.ownBlock ≠ some q ∧ lv.ownBlock ≠ some mb ∧ kv.ownBlock ≠ some mb ∧ (∀ g, lv.ownBlock = some g → kv.ownBlock ≠ some g) :=
  ⟨MS.blk_ne h.blk h.map, own_blk h.list h.blk (by decide), own_blk h.keys h.blk (by decide), own_map h.list h.map, own_map h.keys h.map, fun g hg => own_own h.list hg h.keys (by decide)⟩
/-- What a call of lay has before it: the growth, the capability in a block X; behind w nothing has turned but what it may. -/
structure LM (w wx : World) (B q mb X : Nat) (lv kv : Value) (L M K : List Cp) (x : Cp) (S : Nat → Prop) : Prop where
  gr : Gr wx B q mb lv kv L M K
  row : At X x.vs wx
  fr : Fr w wx S
  lt : X < wx.heap.size
  ne : S X → False
  sq : S q
  sm : S mb
  sk : ∀ g, kv.ownBlock = some g → w.heap.size ≤ g ∨ S g
  xw : w.heap.size ≤ X
  nl : ∀ g, lv.ownBlock = some g → g ≠ X
  nk : ∀ g, kv.ownBlock = some g → g ≠ X
section
variable {w wx wy : World} {B q mb X : Nat} {lv kv : Value} {L M K : List Cp} {x : Cp} {S : Nat → Prop}
theorem LM.drew (h : LM w wx B q mb X lv kv L M K x S) : LM w wx.drew B q mb X lv kv L M K x S := ⟨h.gr.drew, h.row, h.fr.drew, h.lt, h.ne, h.sq, h.sm, h.sk, h.xw, h.nl, h.nk⟩
theorem LM.kp (h : LM w wx B q mb X lv kv L M K x S) (k : Kp wx wy) : LM w wy B q mb X lv kv L M K x S := ⟨h.gr.kp k, h.row.kp k h.lt, h.fr.kp k, Nat.lt_of_lt_of_le h.lt k.size, h.ne, h.sq, h.sm, h.sk, h.xw, h.nl, h.nk⟩
theorem LM.alloc (h : LM w wx B q mb X lv kv L M K x S) (c : Array Value) (t : TypeId) : LM w (wx.alloc (.cells c t)) B q mb X lv kv L M K x S := h.kp (Kp.alloc wx c t)
theorem LM.nX (h : LM w wx B q mb X lv kv L M K x S) : q ≠ X ∧ mb ≠ X := ⟨fun e => h.ne (e ▸ h.sq), fun e => h.ne (e ▸ h.sm)⟩
/-- The map has turned. -/
theorem LM.map (h : LM w wx B q mb X lv kv L M K x S) {M' : List Cp} (hm : MS wy mb M') (ht : wx.mapTurned wy mb) : LM w wy B q mb X lv kv L M' K x S := by
  have ap := h.gr.apart
  have f : Fr wx wy (fun k => k = mb) := (Fr.refl wx _).turned ht (.inr rfl)
  exact ⟨⟨h.gr.blk.fr f ap.1, own_fr h.gr.list f (fun g hg e => ap.2.2.2.1 (e ▸ hg)), hm, own_fr h.gr.keys f (fun g hg e => ap.2.2.2.2.1 (e ▸ hg))⟩,
    fun i v hi => by rw [World.cell?_of_block (w := wx) (f.block X h.lt (fun e => h.nX.2 e.symm))]; exact h.row i v hi, h.fr.turned ht (.inr h.sm), Nat.lt_of_lt_of_le h.lt f.size, h.ne, h.sq, h.sm, h.sk, h.xw, h.nl, h.nk⟩
/-- The list has grown, and is laid. -/
theorem LM.list (h : LM w wx B q mb X lv kv L M K x S) (hS : ∀ g, lv.ownBlock = some g → w.heap.size ≤ g ∨ S g) {L' : List Cp} {g cap n : Nat} (ho : OwnC wy B (.slice (some ⟨g, 0, none⟩) n cap) L') (hg : wx.grownBy wy lv.ownBlock) (hat : lv.ownBlock = some g ∨ g = wx.heap.size) :
    wy.cell? ⟨q, 0, none⟩ = some lv ∧ wy.frozen? ⟨q, 0, none⟩ = false ∧ LM w (wy.setCell ⟨q, 0, none⟩ (.slice (some ⟨g, 0, none⟩) n cap)) B q mb X (.slice (some ⟨g, 0, none⟩) n cap) kv L' M K x S := by
  have ap := h.gr.apart
  have f : Fr wx wy (fun k => lv.ownBlock = some k) := (Fr.refl wx _).grown hg (fun _ e => .inr e)
  have b1 : Blk wy q 56 [lv, .map (some mb), kv] := h.gr.blk.fr f ap.2.1
  have k1 : OwnK wy B kv K := own_fr h.gr.keys f (fun k hk e => ap.2.2.2.2.2 k e hk)
  have m1 : MS wy mb M := h.gr.map.fr f ap.2.2.2.1
  have r1 : At X x.vs wy := fun i v hi => by rw [World.cell?_of_block (w := wx) (f.block X h.lt (fun e => h.nl _ e rfl))]; exact h.row i v hi
  have gq : g ≠ q := by rintro rfl; rcases hat with e | e; exact ap.2.1 e; exact Nat.ne_of_lt h.gr.q_lt e
  refine ⟨(b1.at_).out3.1, b1.frozen 0, ⟨⟨b1.set_ 0 _, own_fr ho ((Fr.refl wy (fun k => k = q)).setCell (.inr rfl) _) (fun k hk e => ?_), m1.setCell (Ne.symm ap.1) _, own_fr k1 ((Fr.refl wy (fun k => k = q)).setCell (.inr rfl) _) (fun k hk e => ap.2.2.1 (e ▸ hk))⟩, r1.set (h.nX.1) _, (h.fr.grown hg hS).setCell (.inr h.sq) _, ?_, h.ne, h.sq, h.sm, h.sk, h.xw, ?_, h.nk⟩⟩
  · have : g = k := by simpa [Value.ownBlock] using hk
    exact gq (this.trans e)
  · have := f.size; have := h.lt; simp [World.setCell]; omega
  · intro k hk
    have : g = k := by simpa [Value.ownBlock] using hk
    subst this
    rcases hat with e | e
    · exact h.nl _ e
    · have := h.lt; omega
/-- The keys have grown, and are laid. -/
theorem LM.keys (h : LM w wx B q mb X lv kv L M K x S) {K' : List Cp} {g cap n : Nat} (ho : OwnK wy B (.slice (some ⟨g, 0, none⟩) n cap) K') (hg : wx.grownBy wy kv.ownBlock) (hat : kv.ownBlock = some g ∨ g = wx.heap.size) :
    wy.cell? ⟨q, 2, none⟩ = some kv ∧ wy.frozen? ⟨q, 2, none⟩ = false ∧ Gr (wy.setCell ⟨q, 2, none⟩ (.slice (some ⟨g, 0, none⟩) n cap)) B q mb lv (.slice (some ⟨g, 0, none⟩) n cap) L M K' ∧ Fr w (wy.setCell ⟨q, 2, none⟩ (.slice (some ⟨g, 0, none⟩) n cap)) S := by
  have ap := h.gr.apart
  have f : Fr wx wy (fun k => kv.ownBlock = some k) := (Fr.refl wx _).grown hg (fun _ e => .inr e)
  have b1 : Blk wy q 56 [lv, .map (some mb), kv] := h.gr.blk.fr f ap.2.2.1
  have l1 : OwnC wy B lv L := own_fr h.gr.list f (fun k hk e => ap.2.2.2.2.2 k hk e)
  have m1 : MS wy mb M := h.gr.map.fr f ap.2.2.2.2.1
  have gq : g ≠ q := by rintro rfl; rcases hat with e | e; exact ap.2.2.1 e; exact Nat.ne_of_lt h.gr.q_lt e
  refine ⟨(b1.at_).out3.2.2, b1.frozen 2, ⟨b1.set_ 2 _, own_fr l1 ((Fr.refl wy (fun k => k = q)).setCell (.inr rfl) _) (fun k hk e => ap.2.1 (e ▸ hk)), m1.setCell (Ne.symm ap.1) _, own_fr ho ((Fr.refl wy (fun k => k = q)).setCell (.inr rfl) _) (fun k hk e => ?_)⟩, (h.fr.grown hg h.sk).setCell (.inr h.sq) _⟩
  have : g = k := by simpa [Value.ownBlock] using hk
  exact gq (this.trans e)
end
def LayP (B q mb : Nat) (lv kv : Value) (L' : List Cp) (w w' : World) : Prop := ∃ lv' kv', Gr w' B q mb lv' kv' L' L' (keysOf L') ∧ Fr w w' (GS q mb lv kv)
set_option maxHeartbeats 2000000 in
set_option maxRecDepth 100000 in
theorem glay_w (B q mb : Nat) (lv kv : Value) (L : List Cp) (x : Cp) (hx : RC x) (hl : L.length < 100000) (w : World) (hB : B ≤ w.heap.size) (hg : Gr w B q mb lv kv L L (keysOf L)) :
    Calls Try.prog 39 #[.pointer (some ⟨q, 0, none⟩), .agg #[x.tg, x.pe, x.ty, x.mo, x.e, x.b, x.t, x.g, .int .u64 x.a]] w fun e w' => e = .returned (.tuple #[]) ∧ LayP B q mb lv kv (addC L x) w w' := by
  obtain ⟨m, hm⟩ : ∃ m, decide (x ∈ L) = m := ⟨_, rfl⟩
  have hSX : ∀ k, GS q mb lv kv k → k < w.heap.size := by
    rintro k (rfl | rfl | h | h)
    · exact hg.q_lt
    · exact hg.map.lt
    · exact (hg.list.lt k h).2
    · exact (hg.keys.lt k h).2
  have HM := Lib.hid hm
  have HG := Lib.hid hg
  have HX := Lib.hid hx
  have HS := Lib.hid hSX
  clear hm hg hx hSX
  have l1 : Hid (LM w (w.alloc (.cells #[x.tg, x.pe, x.ty, x.mo, x.e, x.b, x.t, x.g, .int .u64 x.a] 25)) B q mb w.heap.size lv kv L L (keysOf L) x (GS q mb lv kv)) := Lib.hid ⟨HG.out.alloc _, At.new w x.vs _, (Fr.refl w _).alloc _, by simp, fun h => Nat.lt_irrefl _ (HS.out _ h), .inl rfl, .inr (.inl rfl), fun g hg => .inr (.inr (.inr (.inr hg))), Nat.le_refl _, fun g hg => Nat.ne_of_lt (HG.out.list.lt g hg).2, fun g hg => Nat.ne_of_lt (HG.out.keys.lt g hg).2⟩
  have hSl : Hid (∀ g, lv.ownBlock = some g → w.heap.size ≤ g ∨ GS q mb lv kv g) := Lib.hid (fun g hg => .inr (.inr (.inr (.inl hg))))
  obtain ⟨X, hX⟩ : ∃ X, w.heap.size = X := ⟨_, rfl⟩
  go_enter Try.func39, Try.ntmps39
  go_upto_region 1 with fail
  rw [hX] at l1
  go_cut [5] (fun s wx => s = .bool m ∧ LM w wx B q mb X lv kv L L (keysOf L) x (GS q mb lv kv))
  case first =>
    generalize hw1 : w.alloc (.cells #[x.tg, x.pe, x.ty, x.mo, x.e, x.b, x.t, x.g, .int .u64 x.a] 25) = w1 at l1 ⊢
    clear hw1
    obtain ⟨c0, c1, c2⟩ := l1.out.gr.cells
    obtain ⟨x0, x1, x2, x3, x4, x5, x6, x7, x8⟩ := l1.out.row.out9
    have E1 := l1.out.gr.map.look x HX.out m HM.out
    have E2 := (l1.out.gr.map.drew).look x HX.out m HM.out
    have E3 := (((l1.out.gr.map.alloc (.cells #[] 89))).drew).look x HX.out m HM.out
    have hX := l1.out.lt
    have hq := l1.out.gr.q_lt
    go_region
    all_goals
      go_wp2
      go_meet
      refine ⟨rfl, ?_⟩
      repeat' (first | exact l1.out | with_reducible refine LM.drew ?_ | with_reducible refine LM.alloc ?_ _ _)
  case rest =>
    obtain ⟨rfl, hl2⟩ := hcut
    cases m
    · go_upto_region 3 with fail
      obtain ⟨w2, e2, hm2, ht2⟩ := (hl2.drew.gr.map).put x HX.out (by omega)
      have l3 := Lib.hid (hl2.drew.map hm2 ht2)
      obtain ⟨c0, c1, c2⟩ := hl2.gr.cells
      obtain ⟨x0, x1, x2, x3, x4, x5, x6, x7, x8⟩ := hl2.row.out9
      clear hm2 ht2 hl2
      go_region
      go_upto_region 4 with fail
      clear c0 c1 c2 x0 x1 x2 x3 x4 x5 x6 x7 x8
      go_cut [] (fun wx => ∃ lv', LM w wx B q mb X lv' kv (L ++ [x]) (L ++ [x]) (keysOf L) x (GS q mb lv kv))
      case first =>
        obtain ⟨c0, c1, c2⟩ := l3.out.gr.cells
        obtain ⟨x0, x1, x2, x3, x4, x5, x6, x7, x8⟩ := l3.out.row.out9
        have l4 := Lib.hid (LM.drew (l3.out.alloc #[x.tg, x.pe, x.ty, x.mo, x.e, x.b, x.t, x.g, .int .u64 x.a] 25))
        have hX := l3.out.lt
        have hq := l3.out.gr.q_lt
        go_region_law (first | (refine app_cs rfl (.tmp 26) (.tmp 28) rfl B lv L rfl l4.out.gr.list ⟨w2.heap.size, 0, none⟩ 1 x rfl (World.news_of_block (heap_alloc_new w2 _)) (by omega) (by have := l4.out.fr.size; omega) _ rfl ?_; intro g cap w4 hown4 hg4 hat4 hlt4; obtain ⟨q0, z0, l5⟩ := l4.out.list hSl.out hown4 hg4 hat4; have L5 := Lib.hid l5; clear l5 hown4 hg4 hat4 hlt4))
        all_goals
          go_wp2
          go_meet
          exact ⟨_, L5.out⟩
      case rest =>
        obtain ⟨lv', l6'⟩ := hcut
        have l6 := Lib.hid l6'
        clear l6' l3
        obtain ⟨x0, x1, x2, x3, x4, x5, x6, x7, x8⟩ := l6.out.row.out9
        have hXlt := l6.out.lt
        have HA : Hid (addC L x = L ++ [x]) := Lib.hid (by rw [addC, if_neg (of_decide_eq_false HM.out)])
        have HK := Lib.hid (keysOf_snoc L x)
        cases hs : x.sealed <;> cases hp : hasP x.pe 256
        all_goals
          have HSE : Hid (sealedB x.ty = _) := Lib.hid hs
          have HP := Lib.hid hp
          have HR := Lib.hid (show keyR x = _ by rw [keyR, hs, hp])
          clear hs hp
        case' false.true => go_upto_region 6 with (first | (go_at_call 34; (with_reducible refine (sealed_w x.tg x.pe x.ty x.mo x.e x.b x.t x.g x.a _ HSE.out _).mono ?_); rintro e' w1 ⟨rfl, qk⟩; have HKw1 := Lib.hid qk; have qw10 : w1.cell? ⟨X, 0, none⟩ = some (.bool x.tg) := qk.c; have qw11 : w1.cell? ⟨X, 1, none⟩ = some (.int .i64 x.pe) := qk.c; have qw12 : w1.cell? ⟨X, 2, none⟩ = some (.int .i64 x.ty) := qk.c; have qw13 : w1.cell? ⟨X, 3, none⟩ = some (.int .i64 x.mo) := qk.c; have qw14 : w1.cell? ⟨X, 4, none⟩ = some (.int .i64 x.e) := qk.c; have qw15 : w1.cell? ⟨X, 5, none⟩ = some (.int .i64 x.b) := qk.c; have qw16 : w1.cell? ⟨X, 6, none⟩ = some (.int .i64 x.t) := qk.c; have qw17 : w1.cell? ⟨X, 7, none⟩ = some (.bool x.g) := qk.c; have qw18 : w1.cell? ⟨X, 8, none⟩ = some (.int .u64 x.a) := qk.c; have l7 := Lib.hid (l6.out.kp qk); have hX1 := l7.out.lt; clear qk)          | (go_at_call 64; (with_reducible refine (permits_o x 256 _ HP.out _).mono ?_); rintro e' w2 ⟨rfl, qk⟩; have HKw2 := Lib.hid qk; have qw20 : w2.cell? ⟨X, 0, none⟩ = some (.bool x.tg) := qk.c; have qw21 : w2.cell? ⟨X, 1, none⟩ = some (.int .i64 x.pe) := qk.c; have qw22 : w2.cell? ⟨X, 2, none⟩ = some (.int .i64 x.ty) := qk.c; have qw23 : w2.cell? ⟨X, 3, none⟩ = some (.int .i64 x.mo) := qk.c; have qw24 : w2.cell? ⟨X, 4, none⟩ = some (.int .i64 x.e) := qk.c; have qw25 : w2.cell? ⟨X, 5, none⟩ = some (.int .i64 x.b) := qk.c; have qw26 : w2.cell? ⟨X, 6, none⟩ = some (.int .i64 x.t) := qk.c; have qw27 : w2.cell? ⟨X, 7, none⟩ = some (.bool x.g) := qk.c; have qw28 : w2.cell? ⟨X, 8, none⟩ = some (.int .u64 x.a) := qk.c; have l8 := Lib.hid (l7.out.kp qk); have hX2 := l8.out.lt; clear qk)          )
        all_goals try go_wp2_with (first | (go_at_call 34; (with_reducible refine (sealed_w x.tg x.pe x.ty x.mo x.e x.b x.t x.g x.a _ HSE.out _).mono ?_); rintro e' w1 ⟨rfl, qk⟩; have HKw1 := Lib.hid qk; have qw10 : w1.cell? ⟨X, 0, none⟩ = some (.bool x.tg) := qk.c; have qw11 : w1.cell? ⟨X, 1, none⟩ = some (.int .i64 x.pe) := qk.c; have qw12 : w1.cell? ⟨X, 2, none⟩ = some (.int .i64 x.ty) := qk.c; have qw13 : w1.cell? ⟨X, 3, none⟩ = some (.int .i64 x.mo) := qk.c; have qw14 : w1.cell? ⟨X, 4, none⟩ = some (.int .i64 x.e) := qk.c; have qw15 : w1.cell? ⟨X, 5, none⟩ = some (.int .i64 x.b) := qk.c; have qw16 : w1.cell? ⟨X, 6, none⟩ = some (.int .i64 x.t) := qk.c; have qw17 : w1.cell? ⟨X, 7, none⟩ = some (.bool x.g) := qk.c; have qw18 : w1.cell? ⟨X, 8, none⟩ = some (.int .u64 x.a) := qk.c; have l7 := Lib.hid (l6.out.kp qk); have hX1 := l7.out.lt; clear qk)          | (go_at_call 64; (with_reducible refine (permits_o x 256 _ HP.out _).mono ?_); rintro e' w2 ⟨rfl, qk⟩; have HKw2 := Lib.hid qk; have qw20 : w2.cell? ⟨X, 0, none⟩ = some (.bool x.tg) := qk.c; have qw21 : w2.cell? ⟨X, 1, none⟩ = some (.int .i64 x.pe) := qk.c; have qw22 : w2.cell? ⟨X, 2, none⟩ = some (.int .i64 x.ty) := qk.c; have qw23 : w2.cell? ⟨X, 3, none⟩ = some (.int .i64 x.mo) := qk.c; have qw24 : w2.cell? ⟨X, 4, none⟩ = some (.int .i64 x.e) := qk.c; have qw25 : w2.cell? ⟨X, 5, none⟩ = some (.int .i64 x.b) := qk.c; have qw26 : w2.cell? ⟨X, 6, none⟩ = some (.int .i64 x.t) := qk.c; have qw27 : w2.cell? ⟨X, 7, none⟩ = some (.bool x.g) := qk.c; have qw28 : w2.cell? ⟨X, 8, none⟩ = some (.int .u64 x.a) := qk.c; have l8 := Lib.hid (l7.out.kp qk); have hX2 := l8.out.lt; clear qk)          )
        case false.true =>
          obtain ⟨c0, c1, c2⟩ := l8.out.gr.cells
          obtain ⟨x0, x1, x2, x3, x4, x5, x6, x7, x8⟩ := l8.out.row.out9
          have hq := l8.out.gr.q_lt
          have HF := Lib.hid HX.out.f
          go_region_law (first
            | (refine app_ks rfl (.tmp 43) (.tmp 46) rfl B kv (keysOf L) rfl l10.out.gr.keys ⟨w3.heap.size, 0, none⟩ 1 x rfl (World.news_of_block (heap_alloc_new w3 _)) (by have := keysOf_len L; omega) (by have := l10.out.fr.size; omega) _ rfl ?_; intro g cap w4 hown4 hg4 hat4 hlt4; obtain ⟨q0, z0, l11⟩ := l10.out.keys hown4 hg4 hat4; have L11 := Lib.hid l11; clear l11 hown4 hg4 hat4 hlt4)
            | (go_simp; go_at_call 16; (with_reducible refine (of_c x.tg x.pe x.ty x.mo x.e x.b x.t x.g x.a HF.out _).mono ?_); rintro e' w3 ⟨rfl, qk⟩; have l9 := Lib.hid (l8.out.drew.kp qk); have l10 := Lib.hid (l9.out.alloc #[.int .u64 (ofB x.e x.b x.a), .int .u64 (ofT x.e x.b x.t x.g x.a), .bool (ofO x.e x.b x.t x.g x.a)] 39); obtain ⟨d0, d1, d2⟩ := l9.out.gr.cells; have hq3 := l9.out.gr.q_lt; clear qk))
          all_goals
            go_wp2
            refine bodyPost_end (v := .tuple #[]) (by simp [results, Try.results39, go_sem]) rfl ⟨rfl, ?_⟩
            unfold LayP
            rw [HA.out, HK.out, if_pos (show keyR x = true from HR.out)]
            exact ⟨_, _, L11.out.1, L11.out.2⟩
        all_goals
          refine bodyPost_end (v := .tuple #[]) (by simp [results, Try.results39, go_sem]) rfl ⟨rfl, ?_⟩
          unfold LayP
          rw [HA.out, HK.out, if_neg (by rw [HR.out]; decide)]
          first | exact ⟨_, _, l8.out.gr, l8.out.fr⟩ | exact ⟨_, _, l7.out.gr, l7.out.fr⟩
    · go_wp2
      refine bodyPost_ret (v := .tuple #[]) (by simp [results, Try.results39, go_sem]) rfl ⟨rfl, lv, kv, ?_, hl2.fr⟩
      rw [addC, if_pos (of_decide_eq_true HM.out)]
      exact hl2.gr
end Go.Proofs.Ytkddgjaflcjhiaa
namespace Go.Proofs.Ytkddgjaflcjhiaa
open Go.ChangeShapes Go.WideShapes Go.ChangeAt Go.RowKit Go.Maps
set_option linter.unusedVariables false
set_option linter.unusedSimpArgs false

theorem mk_hint (k : Int) (w : World) : (Instr.makeMap 53 (some (.int .i64 k))).run Try.prog w = .ok (.map (some w.heap.size)) (w.alloc (.map #[] 0)) := by
  simp [Instr.makeMap, run_underlying Try.underlying53, asInt, asIntOf, Result.andThen]
set_option maxHeartbeats 2000000 in
set_option maxRecDepth 100000 in
theorem begin_w (L : List Cp) (A : Option Addr) (n : Nat) (hL : ∀ c ∈ L, RC c) (hl : L.length ≤ 1000) (w : World) (h : Rd w w.heap.size A L) :
    Calls Try.prog 36 #[.slice A L.length n] w fun e w' => ∃ lv mb kv, e = .returned (.agg #[lv, .map (some mb), kv]) ∧ OwnC w' w.heap.size lv (baseL L) ∧ MS w' mb (baseL L) ∧ OwnK w' w.heap.size kv (keysOf (baseL L)) ∧ w.heap.size ≤ mb ∧ Below w.heap.size w w' := by
  have HR := Lib.hid h
  have HL := Lib.hid hL
  have hmk := mk_hint L.length
  clear h hL
  go_enter Try.func36, Try.ntmps36
  go_wp2
  go_loopw [12] (fun i wr => ∃ (k : Nat) (lv kv : Value), k ≤ L.length ∧ i = .int .i64 k ∧ Gr wr w.heap.size (w.heap.size + 1 + 1) (w.heap.size + 1) lv kv (baseL (L.take k)) (baseL (L.take k)) (keysOf (baseL (L.take k))) ∧ Below w.heap.size w wr ∧ Blk wr w.heap.size 56 [.slice none 0 0, .map none, .slice none 0 0]) (fun i _ => L.length - (intOf i).toNat)
  case atStart =>
    have e1 : (w.alloc (.cells #[.slice none 0 0, .map none, .slice none 0 0] 56)).heap.size = w.heap.size + 1 := by simp
    have e2 : ((w.alloc (.cells #[.slice none 0 0, .map none, .slice none 0 0] 56)).alloc (.map #[] 0)).heap.size = w.heap.size + 1 + 1 := by simp
    have b0 : baseL (L.take 0) = [] := by simp [baseL]
    refine ⟨0, .slice none 0 0, .slice none 0 0, Nat.zero_le _, rfl, ?_, ?_, ?_⟩
    · rw [b0]
      refine ⟨?_, OwnC.nil _ _, ?_, OwnK.nil _ _⟩
      · rw [← e2]; exact Blk.new _ _ [_, _, _]
      · rw [← e1]; exact (MS.made _).alloc _
    · exact (((Below.refl _ _).alloc (Nat.le_refl _) _).alloc (by simp) _).alloc (by simp; omega) _
    · exact ((Blk.new w _ [_, _, _]).alloc _).alloc _
  case round =>
    obtain ⟨k, lv, kv, hk, rfl, hgr, hbl, hbk⟩ := hrel
    have hws : w.heap.size ≤ wr.heap.size := by have := hbl.size; omega
    have HG := Lib.hid hgr
    have HBL := Lib.hid hbl
    have HBK := Lib.hid hbk
    have ap := hgr.apart
    have nl := own_blk hgr.list hbk (by decide)
    have nk := own_blk hgr.keys hbk (by decide)
    clear hgr hbl hbk
    by_cases hlt : k < L.length
    · obtain ⟨b, o, rfl, hb, c, hc, hr⟩ := (HR.out.keep (w' := wr) (fun p hp => HBL.out.cell hp)).at_ hlt
      obtain ⟨r0, r1, r2, r3, r4, r5, r6, r7, r8⟩ := hr.out
      have hcr := HL.out c (List.mem_of_getElem? hc)
      have HST := Lib.hid (base_step L k c hc)
      have hbl := base_len (L.take k)
      have hln : (L.take k).length ≤ k := by rw [List.length_take]; omega
      have hb' : b < wr.heap.size := by omega
      have HCR := Lib.hid hcr
      clear hr hc hcr
      obtain ⟨bs, hbs⟩ : ∃ bs, baseL (L.take k) = bs := ⟨_, rfl⟩
      rw [hbs] at HG HST hbl
      clear hbs
      cases htg : c.tg
      · have HT := Lib.hid htg
        go_wp2
        go_roundw
        case rel => exact ⟨k + 1, _, _, by omega, by go_num, by rw [HST.out, HT.out]; exact HG.out.alloc _, HBL.out.alloc hws _, HBK.out.alloc _⟩
        case measure => simp [intOf]; omega
      · have HT := Lib.hid htg
        have HLAY : Hid (∀ w1, Gr w1 w.heap.size (w.heap.size + 1 + 1) (w.heap.size + 1) lv kv bs bs (keysOf bs) → w.heap.size ≤ w1.heap.size → Calls Try.prog 39 #[.pointer (some ⟨w.heap.size + 1 + 1, 0, none⟩), .agg #[true, c.pe, c.ty, c.mo, c.e, c.b, c.t, c.g, .int .u64 c.a]] w1 fun e w' => e = .returned (.tuple #[]) ∧ LayP w.heap.size (w.heap.size + 1 + 1) (w.heap.size + 1) lv kv (addC bs c) w1 w') := Lib.hid (fun w1 g1 h1 => by have := glay_w w.heap.size (w.heap.size + 1 + 1) (w.heap.size + 1) lv kv bs c HCR.out (by omega) w1 h1 g1; rw [HT.out] at this; exact this)
        have HGL : Hid (∀ k, GS (w.heap.size + 1 + 1) (w.heap.size + 1) lv kv k → w.heap.size ≤ k ∧ k ≠ w.heap.size) := Lib.hid (by
          rintro k (rfl | rfl | h | h)
          · omega
          · omega
          · exact ⟨(HG.out.list.lt k h).1, fun e => nl (e ▸ h)⟩
          · exact ⟨(HG.out.keys.lt k h).1, fun e => nk (e ▸ h)⟩)
        go_wp2_with (first | (go_at_call 39; (with_reducible refine (HLAY.out _ (HG.out.alloc _) (by simp; omega)).mono ?_); rintro e' w1 ⟨rfl, lv', kv', g2, f2⟩; have G2 := Lib.hid g2; have B2 := Lib.hid ((HBL.out.alloc hws _).trans (f2.bl (by simp; omega) (fun i hi => (HGL.out i hi).1))); have K2 := Lib.hid ((HBK.out.alloc _).fr f2 (fun h => (HGL.out _ h).2 rfl)); clear g2 f2))
        go_roundw
        case rel => exact ⟨k + 1, _, _, by omega, by go_num, by rw [HST.out, HT.out, if_pos rfl]; exact G2.out, B2.out, K2.out⟩
        case measure => simp [intOf]; omega
    · have e0 : L.take k = L := List.take_of_length_le (by omega)
      rw [e0] at HG
      obtain ⟨Al, capl, e1, _, _, _⟩ := HG.out.list.rd
      obtain ⟨Ak, capk, e2, _⟩ := HG.out.keys.rd
      subst e1 e2
      obtain ⟨c0, c1, c2⟩ := HG.out.cells
      obtain ⟨r0, r1, r2⟩ := (HBK.out.at_).out3
      have z0 := HBK.out.frozen 0
      have z1 := HBK.out.frozen 1
      have z2 := HBK.out.frozen 2
      have hS := HBK.out.lt
      go_wp2
      refine bodyPost_ret (v := .agg #[.slice Al (baseL L).length capl, .map (some (w.heap.size + 1)), .slice Ak (keysOf (baseL L)).length capk]) ?_ rfl ⟨_, _, _, rfl, ?_, ?_, ?_, ?_, ?_⟩
      · simp [results, Try.results36, go_sem, *]
      · exact own_fr HG.out.list ((((Fr.refl wr (fun k => k = w.heap.size)).setCell (.inr rfl) _).setCell (.inr rfl) _).setCell (.inr rfl) _) (fun g hg e => nl (e ▸ hg))
      · exact HG.out.map.fr ((((Fr.refl wr (fun k => k = w.heap.size)).setCell (.inr rfl) _).setCell (.inr rfl) _).setCell (.inr rfl) _) (by omega)
      · exact own_fr HG.out.keys ((((Fr.refl wr (fun k => k = w.heap.size)).setCell (.inr rfl) _).setCell (.inr rfl) _).setCell (.inr rfl) _) (fun g hg e => nk (e ▸ hg))
      · omega
      · exact ((HBL.out.setCell (Nat.le_refl _) _).setCell (Nat.le_refl _) _).setCell (Nat.le_refl _) _
end Go.Proofs.Ytkddgjaflcjhiaa
namespace Go.Proofs.Ytkddgjaflcjhiaa
open Go.ChangeShapes Go.WideShapes Go.ChangeAt Go.RowKit Go.Maps
set_option linter.unusedVariables false
set_option linter.unusedSimpArgs false

abbrev Lk := Nat × Nat
def lkV (p : Lk) : List Value := [.int .i64 p.1, .int .i64 p.2]
def vsS (E : List Lk) : List Value := E.flatMap lkV
theorem vsS_len (E : List Lk) : (vsS E).length = E.length * 2 := by
  induction E with
  | nil => rfl
  | cons c L ih =>
    have l2 : (lkV c).length = 2 := rfl
    simp only [vsS, List.flatMap_cons, List.length_append, List.length_cons] at ih ⊢; rw [ih, l2]; omega
theorem vsS_snoc (E : List Lk) (c : Lk) : vsS (E ++ [c]) = vsS E ++ lkV c := by simp [vsS]
theorem vsS_at (E : List Lk) (i : Nat) (c : Lk) (h : E[i]? = some c) (k : Nat) (v : Value) (hk : (lkV c)[k]? = some v) : (vsS E)[i * 2 + k]? = some v := by
  induction E generalizing i with
  | nil => simp at h
  | cons d K ih =>
    have e : vsS (d :: K) = lkV d ++ vsS K := rfl
    have l2 : ∀ y, (lkV y).length = 2 := fun _ => rfl
    rw [e]
    cases i with
    | zero =>
      simp only [List.getElem?_cons_zero, Option.some.injEq] at h
      subst h
      have hl : k < (lkV d).length := (List.getElem?_eq_some_iff.1 hk).1
      rw [List.getElem?_append_left (by omega)]; simpa using hk
    | succ i =>
      rw [List.getElem?_append_right (by rw [l2]; omega), l2]
      have := ih i (by simpa using h)
      rw [show (i + 1) * 2 + k - 2 = i * 2 + k by omega]; exact this
theorem vsS_set (E : List Lk) (j : Nat) (c : Lk) (hj : j < E.length) : vsS (E.set j c) = ((vsS E).set (j * 2) (.int .i64 c.1)).set (j * 2 + 1) (.int .i64 c.2) := by
  induction E generalizing j with
  | nil => simp at hj
  | cons d E ih =>
    have e : ∀ y K, vsS (y :: K) = .int .i64 (y.1 : Nat) :: .int .i64 (y.2 : Nat) :: vsS K := fun _ _ => rfl
    cases j with
    | zero => simp [e]
    | succ j =>
      rw [List.set_cons_succ, e, ih j (by simpa using hj), e]
      have h1 : (j + 1) * 2 = (j * 2 + 1) + 1 := by omega
      have h2 : (j + 1) * 2 + 1 = (j * 2 + 1 + 1) + 1 := by omega
      rw [h2, h1]
      simp only [List.set_cons_succ]
theorem vsS_take (E : List Lk) (j : Nat) : (vsS E).take (j * 2) = vsS (E.take j) := by
  induction E generalizing j with
  | nil => simp [vsS]
  | cons d E ih =>
    have e : ∀ y K, vsS (y :: K) = .int .i64 (y.1 : Nat) :: .int .i64 (y.2 : Nat) :: vsS K := fun _ _ => rfl
    cases j with
    | zero => simp [vsS]
    | succ j => rw [List.take_succ_cons, e, e, show (j + 1) * 2 = j * 2 + 1 + 1 by omega, List.take_succ_cons, List.take_succ_cons, ih j]
/-- A slice of locks of the call's own. -/
abbrev OwnS (w : World) (B : Nat) (v : Value) (E : List Lk) : Prop := w.ownsRow B 61 2 v E.length (vsS E)
theorem OwnS.nil (w : World) (B : Nat) : OwnS w B (.slice none 0 0) [] := World.ownsRow_nil w B _ 2
theorem OwnS.form {w : World} {B : Nat} {v : Value} {E : List Lk} (h : OwnS w B v E) : (v = .slice none 0 0 ∧ E = []) ∨ ∃ g cap, v = .slice (some ⟨g, 0, none⟩) E.length cap ∧ E.length ≤ cap ∧ B ≤ g ∧ g < w.heap.size := by
  rcases id h.2 with ⟨rfl, h0⟩ | ⟨g, cap, cur, rfl, hb, hg, hc, _⟩
  · exact .inl ⟨rfl, List.eq_nil_of_length_eq_zero h0⟩
  · exact .inr ⟨g, cap, rfl, hc, hb, (h.lt g rfl).2⟩
theorem OwnS.at_ {w : World} {B g cap : Nat} {E : List Lk} (h : OwnS w B (.slice (some ⟨g, 0, none⟩) E.length cap) E) (i : Nat) (c : Lk) (hi : E[i]? = some c) :
    w.cell? ⟨g, i * 2, none⟩ = some (.int .i64 c.1) ∧ w.cell? ⟨g, i * 2 + 1, none⟩ = some (.int .i64 c.2) := by
  have k : ∀ j v, (lkV c)[j]? = some v → w.cell? ⟨g, i * 2 + j, none⟩ = some v := fun j v hj => by
    have := h.cells (g := g) rfl _ _ (vsS_at E i c hi j v hj)
    rw [Addr.add_lit] at this
    rw [← this]; congr 2; omega
  exact ⟨k 0 _ rfl, k 1 _ rfl⟩
/-- The first of some. -/
theorem OwnS.pre {w : World} {B g cap : Nat} {E : List Lk} (h : OwnS w B (.slice (some ⟨g, 0, none⟩) E.length cap) E) (j : Nat) (hj : j ≤ E.length) : OwnS w B (.slice (some ⟨g, 0, none⟩) j cap) (E.take j) := by
  have hl : (E.take j).length = j := by rw [List.length_take]; omega
  refine ⟨vsS_len _, .inr ?_⟩
  rcases h.2 with ⟨e, _⟩ | ⟨g', cap', cur, e, hb, hg, hc, hm, hs, ht⟩
  · cases e
  · cases e
    refine ⟨g, cap, cur, by rw [hl], hb, hg, by omega, hm, hs, ?_⟩
    rw [hl, ← vsS_take, ← ht, List.take_take]
    congr 1; omega
/-- One is written over. -/
theorem OwnS.put {w : World} {B g cap : Nat} {E : List Lk} (h : OwnS w B (.slice (some ⟨g, 0, none⟩) E.length cap) E) (j : Nat) (hj : j < E.length) (c : Lk) :
    OwnS (w.setCells g (j * 2) (lkV c)) B (.slice (some ⟨g, 0, none⟩) E.length cap) (E.set j c) := by
  have e : w.setCells g (j * 2) (lkV c) = (w.setCell ⟨g, j * 2, none⟩ (.int .i64 c.1)).setCell ⟨g, j * 2 + 1, none⟩ (.int .i64 c.2) := rfl
  have h1 := ((h.stored (j * 2) (.int .i64 c.1)).1.stored (j * 2 + 1) (.int .i64 c.2)).1
  unfold OwnS
  rw [e, vsS_set E j c hj, List.length_set]
  exact h1
theorem lock_info : (Try.prog.info? 61).map (fun i => (i.zero, i.size, i.bytes)) = some (some (.agg #[.int .i64 0, .int .i64 0]), 2, 16) := by kernel_rfl
theorem app_room {w : World} {ops : Array Oper} {rest : List Oper} {o : Oper} {a : Act} {Q : Exit → Act → World → Prop} (hgd : o.guard = none) (s x : Operand)
    (ho : o.op = .call { callee := .builtin .append, args := #[s, x], argTypes := #[58, 58] }) (B g cap j : Nat) (E : List Lk) (hs : a.eval s = .slice (some ⟨g, 0, none⟩) j cap)
    (hown : OwnS w B (.slice (some ⟨g, 0, none⟩) E.length cap) E) (hj : j < E.length) (hcap : E.length ≤ cap)
    (ad : Addr) (c : Nat) (d : Lk) (hx : a.eval x = .slice (some ad) 1 c) (hnews : ∀ j u, (lkV d)[j]? = some u → w.cell? (ad.add j) = some u)
    (h : wpList Try.prog ops Q rest (a.put o.dst (.slice (some ⟨g, 0, none⟩) (j + 1) cap)) (w.setCells g (j * 2) (lkV d))) :
    wpList Try.prog ops Q (o :: rest) a w := by
  obtain ⟨i0, hi, hz0, hz1, hz2⟩ := info_parts lock_info
  refine wpList_plain hgd fun K hK => ?_
  have hspare : ∀ k, k < (lkV d).length → (w.cell? ⟨g, 0 + j * i0.size + k, none⟩).isSome = true ∧ w.frozen? ⟨g, 0 + j * i0.size + k, none⟩ = false := fun k hk => by
    have hk2 : k < 2 := hk
    rw [hz1]
    refine ⟨?_, hown.frozenAt _⟩
    rw [hown.cellAt _ (by omega), List.getElem?_eq_getElem (by rw [vsS_len]; omega)]; rfl
  have hrun := run_append_room_cells (P := Try.prog) w 58 o.type 61 i0 Try.underlying58 hi g 0 j cap ad 1 c (lkV d) (by rw [hz1]; rfl) hnews (by intro u hu; simp only [lkV, List.mem_cons, List.not_mem_nil, or_false] at hu; rcases hu with rfl | rfl <;> rfl) (by omega) (fun k hk => (hspare k hk).1) (fun k hk => (hspare k hk).2)
  unfold Oper.wp
  simp [execOp, ho, resolve, invoke, builtin, hs, hx, hrun, Result.andThen]
  rw [← hz1] at h
  exact hK _ _ h
/-- append of one lock to a slice of the call's own: in a plain region. -/
theorem app_s {w : World} {ops : Array Oper} {rest : List Oper} {o : Oper} {a : Act} {Q : Exit → Act → World → Prop} (hgd : o.guard = none) (s x : Operand)
    (ho : o.op = .call { callee := .builtin .append, args := #[s, x], argTypes := #[58, 58] }) (B : Nat) (v : Value) (L : List Lk) (hs : a.eval s = v) (hown : OwnS w B v L)
    (ad : Addr) (c : Nat) (d : Lk) (hx : a.eval x = .slice (some ad) 1 c) (hnews : ∀ j u, (lkV d)[j]? = some u → w.cell? (ad.add j) = some u) (hl : L.length < 1000000) (hbase : B ≤ w.heap.size) (H : Nat) (hH : w.heap.size = H)
    (h : ∀ g cap w', OwnS w' B (.slice (some ⟨g, 0, none⟩) (L.length + 1) cap) (L ++ [d]) → w.grownBy w' v.ownBlock → (v.ownBlock = some g ∨ g = H) → g < w'.heap.size → wpList Try.prog ops Q rest (a.put o.dst (.slice (some ⟨g, 0, none⟩) (L.length + 1) cap)) w') :
    wpList Try.prog ops Q (o :: rest) a w := by
  obtain ⟨i0, hi, hz0, hz1, hz2⟩ := info_parts lock_info
  refine wpList_append_lies w hgd s x _ ho B _ i0 _ 2 16 Try.underlying58 hi hz0 hz1 hz2 rfl (by omega) v L.length (vsS L) hs hown ad 1 c (lkV d) hx rfl hnews (by intro u hu; simp only [lkV, List.mem_cons, List.not_mem_nil, or_false] at hu; rcases hu with rfl | rfl <;> rfl) (by omega) (by unfold maxLen; omega) (by omega) hbase H hH ?_
  intro g cap w1 hown1 hg h1 h2
  exact h g cap w1 (by unfold OwnS; rw [vsS_snoc, List.length_append]; exact hown1) hg h1 h2
end Go.Proofs.Ytkddgjaflcjhiaa
namespace Go.Proofs.Ytkddgjaflcjhiaa
open Go.ChangeShapes Go.WideShapes Go.ChangeAt Go.RowKit Go.Maps
set_option linter.unusedVariables false
set_option linter.unusedSimpArgs false

/-- The places of the sealed ones, each with 0. -/
def lksF (L : List Cp) : List Lk := (L.zipIdx.filter (fun p => p.1.sealed)).map (fun p => (p.2, 0))
theorem lksF_snoc (L : List Cp) (c : Cp) : lksF (L ++ [c]) = if c.sealed then lksF L ++ [(L.length, 0)] else lksF L := by
  unfold lksF
  rw [List.zipIdx_append, List.filter_append, List.map_append]
  cases h : c.sealed <;> simp [h]
theorem lksF_len (L : List Cp) : (lksF L).length ≤ L.length := by
  unfold lksF
  rw [List.length_map]
  refine Nat.le_trans (List.length_filter_le _ _) ?_
  simp
/-- A lock's number tells how many keys are known not to open it. -/
structure LkI (L : List Cp) (p : Lk) (c : Cp) : Prop where
  at_ : L[p.1]? = some c
  sl : c.sealed = true
  le : p.2 ≤ (keysOf L).length
  nay : ∀ x ∈ (keysOf L).take p.2, rngIn x c.ty = false
structure LkOK (L : List Cp) (E : List Lk) (cs : List Cp) : Prop where
  len : E.length = cs.length
  each : ∀ (i : Nat) (p : Lk), E[i]? = some p → ∃ c, cs[i]? = some c ∧ LkI L p c
theorem keysOf_app (L u : List Cp) : keysOf (L ++ u) = keysOf L ++ keysOf u := by unfold keysOf; rw [List.filter_append]
theorem LkI.more {L : List Cp} {p : Lk} {c : Cp} (h : LkI L p c) (u : List Cp) : LkI (L ++ u) p c := by
  have hl : p.1 < L.length := (List.getElem?_eq_some_iff.1 h.at_).1
  have hk := h.le
  refine ⟨by rw [List.getElem?_append_left hl]; exact h.at_, h.sl, by rw [keysOf_app, List.length_append]; omega, ?_⟩
  rw [keysOf_app, List.take_append_of_le_length hk]; exact h.nay
theorem LkOK.start (L : List Cp) : LkOK L (lksF L) (L.filter Cp.sealed) := by
  have key : ∀ (n : Nat), n ≤ L.length → (lksF (L.take n)).length = ((L.take n).filter Cp.sealed).length ∧ ∀ (i : Nat) (p : Lk), (lksF (L.take n))[i]? = some p → ∃ c : Cp, ((L.take n).filter Cp.sealed)[i]? = some c ∧ L[p.1]? = some c ∧ c.sealed = true ∧ p.2 = 0 := by
    intro n
    induction n with
    | zero => intro _; simp [lksF]
    | succ n ih =>
      intro hn
      obtain ⟨h1, h2⟩ := ih (by omega)
      have hc : L[n]? = some L[n] := List.getElem?_eq_getElem (by omega)
      have hlen : (L.take n).length = n := by rw [List.length_take]; omega
      rw [List.take_add_one, hc]
      simp only [Option.toList_some]
      rw [lksF_snoc, List.filter_append, hlen]
      cases hs : L[n].sealed
      · have e : [L[n]].filter Cp.sealed = [] := by simp [hs]
        simp only [Bool.false_eq_true, if_false]
        rw [e, List.append_nil]; exact ⟨h1, h2⟩
      · simp only [if_true, List.length_append, List.length_cons, List.length_nil, hs, List.filter_cons_of_pos, List.filter_nil]
        refine ⟨by omega, fun i p hi => ?_⟩
        rcases Nat.lt_trichotomy i (lksF (L.take n)).length with hlt | heq | hgt
        · rw [List.getElem?_append_left hlt] at hi
          rw [List.getElem?_append_left (by omega)]
          exact h2 i p hi
        · rw [List.getElem?_append_right (by omega), heq] at hi
          simp at hi
          subst hi
          refine ⟨L[n], ?_, hc, hs, rfl⟩
          rw [List.getElem?_append_right (by omega), heq, h1]; simp
        · rw [List.getElem?_append_right (by omega)] at hi
          have : i - (lksF (L.take n)).length ≠ 0 := by omega
          rw [List.getElem?_eq_none (by simp; omega)] at hi; cases hi
  obtain ⟨h1, h2⟩ := key L.length (Nat.le_refl _)
  rw [List.take_length] at h1 h2
  refine ⟨h1, fun i p hi => ?_⟩
  obtain ⟨c, hc, ha, hs, h0⟩ := h2 i p hi
  exact ⟨c, hc, ha, hs, by omega, by rw [h0]; simp⟩
theorem own_base {w : World} {B B' : Nat} {e : TypeId} {size n : Nat} {v : Value} {xs : List Value} (h : w.ownsRow B e size v n xs) (hb : B' ≤ B) : w.ownsRow B' e size v n xs := by
  refine ⟨h.1, ?_⟩
  rcases h.2 with hn | ⟨g, cap, cur, e1, hbg, rest⟩
  · exact .inl hn
  · exact .inr ⟨g, cap, cur, e1, Nat.le_trans hb hbg, rest⟩
set_option maxHeartbeats 2000000 in
set_option maxRecDepth 100000 in
theorem locks_w (B q mb : Nat) (lv kv : Value) (L : List Cp) (hl : L.length < 100000) (w : World) (hg : Gr w B q mb lv kv L L (keysOf L)) :
    Calls Try.prog 37 #[.pointer (some ⟨q, 0, none⟩)] w fun e w' => ∃ v, e = .returned v ∧ OwnS w' w.heap.size v (lksF L) ∧ Fr w w' (fun _ => False) := by
  obtain ⟨A, cap, rfl, hcap, hrd, _⟩ := hg.list.rd
  have HR := Lib.hid hrd
  obtain ⟨c0, c1, c2⟩ := hg.cells
  have hq := hg.q_lt
  clear hg hrd
  go_enter Try.func37, Try.ntmps37
  go_wp2
  go_loopw [3, 11] (fun s i wr => ∃ (k : Nat) (v : Value), k ≤ L.length ∧ i = .int .i64 k ∧ v = s ∧ OwnS wr w.heap.size v (lksF (L.take k)) ∧ Fr w wr (fun _ => False)) (fun _ i _ => L.length - (intOf i).toNat)
  case atStart => exact ⟨0, _, Nat.zero_le _, rfl, rfl, OwnS.nil _ _, Fr.refl _ _⟩
  case round =>
    obtain ⟨k, v, hk, rfl, rfl, hown, hfr⟩ := hrel
    have HF := Lib.hid hfr
    have HO := Lib.hid hown
    have hws : w.heap.size ≤ wr.heap.size := hfr.size
    clear hfr hown c0 c1 c2
    by_cases hlt : k < L.length
    · obtain ⟨b, o, rfl, hb, c, hc, hr⟩ := (HR.out.keep (w' := wr) (fun p hp => (HF.out.bl (Nat.le_refl _) (fun _ h => h.elim)).cell hp)).at_ hlt
      obtain ⟨r0, r1, r2, r3, r4, r5, r6, r7, r8⟩ := hr.out
      have hlen : (L.take k).length = k := by rw [List.length_take]; omega
      have hstep : lksF (L.take (k + 1)) = if c.sealed then lksF (L.take k) ++ [(k, 0)] else lksF (L.take k) := by
        rw [List.take_add_one, hc]; simp only [Option.toList_some]; rw [lksF_snoc, hlen]
      have hle : (lksF (L.take k)).length ≤ k := by have := lksF_len (L.take k); omega
      have HST := Lib.hid hstep
      have hb' : b < wr.heap.size := by omega
      clear hstep hr hc
      cases hs : c.sealed
      all_goals
        have HSE : Hid (sealedB c.ty = _) := Lib.hid hs
        have HS := Lib.hid hs
        clear hs
        go_wp2_with (first
          | (go_at_call 34; (with_reducible refine (sealed_w c.tg c.pe c.ty c.mo c.e c.b c.t c.g c.a _ HSE.out _).mono ?_); rintro e' w1 ⟨rfl, qk⟩; have HKw1 := Lib.hid qk; have h1 : wr.heap.size + 1 ≤ w1.heap.size := (by have := qk.size; (try simp at this); omega); have HO1 := Lib.hid (own_fr HO.out (((Fr.refl wr (fun _ => False)).alloc _).kp qk) (fun _ _ h => h)); have HF1 := Lib.hid ((HF.out.alloc _).kp qk); clear qk)          | (at_builtin; refine app_s rfl (.tmp 18) (.tmp 21) rfl w.heap.size _ (lksF (L.take k)) rfl (own_fr HO1.out ((Fr.refl w1 (fun _ => False)).alloc _) (fun _ _ h => h)) ⟨w1.heap.size, 0, none⟩ 1 (k, 0) rfl (World.news_of_block (heap_alloc_new w1 _)) (by omega) (by simp; omega) (w1.heap.size + 1) (by simp) ?_; intro g cap' w2 hown2 hg2 hat2 hlt2; have HO2 := Lib.hid hown2; have HF2 := Lib.hid ((HF1.out.alloc _).grown hg2 (fun g hg => .inl (HO.out.lt g hg).1)); clear hown2 hg2 hat2))
        go_roundw
        case rel => first
          | exact ⟨k + 1, _, by omega, by go_num, rfl, by rw [HST.out, if_pos HS.out]; exact HO2.out, HF2.out⟩
          | exact ⟨k + 1, _, by omega, by go_num, rfl, by rw [HST.out, if_neg (by rw [HS.out]; decide)]; exact HO1.out, HF1.out⟩
        case measure => simp [intOf]; omega
    · go_wp2
      go_ret
      exact ⟨_, rfl, by have e0 : L.take k = L := List.take_of_length_le (by omega); rw [e0] at HO; exact HO.out, HF.out⟩
end Go.Proofs.Ytkddgjaflcjhiaa
namespace Go.Proofs.Ytkddgjaflcjhiaa
open Go.ChangeShapes Go.WideShapes Go.ChangeAt Go.RowKit Go.Maps
set_option linter.unusedVariables false
set_option linter.unusedSimpArgs false

theorem Blk.set21 {w : World} {g : Nat} {t : TypeId} {a b : Value} (h : Blk w g t [a, b]) (u : Value) : Blk (w.setCell ⟨g, 1, none⟩ u) g t [a, u] := h.set_ 1 u
theorem Blk.out2 {w : World} {g : Nat} {t : TypeId} {a b : Value} (h : Blk w g t [a, b]) : w.cell? ⟨g, 0, none⟩ = some a ∧ w.cell? ⟨g, 1, none⟩ = some b := ⟨h.at_ 0 _ rfl, h.at_ 1 _ rfl⟩
def trOf (w : World) (s : Nat) : Nat := match w.cell? ⟨s, 1, none⟩ with
  | some v => (intOf v).toNat
  | none => 0
theorem trOf_blk {w : World} {s : Nat} {t : TypeId} {a : Value} {tr : Int} (h : Blk w s t [a, .int .i64 tr]) : trOf w s = tr.toNat := by
  unfold trOf; rw [h.out2.2]; rfl
theorem LkI.next {L : List Cp} {a tr : Nat} {c x : Cp} (h : LkI L (a, tr) c) (hx : (keysOf L)[tr]? = some x) (hn : rngIn x c.ty = false) : LkI L (a, tr + 1) c := by
  refine ⟨h.at_, h.sl, (List.getElem?_eq_some_iff.1 hx).1, ?_⟩
  show ∀ y ∈ (keysOf L).take (tr + 1), _
  rw [List.take_add_one, hx]
  intro y hy
  rcases List.mem_append.1 hy with hy | hy
  · exact h.nay y hy
  · have : y = x := by simpa using hy
    subst this; exact hn
theorem opens_true {L : List Cp} {tr : Nat} {c x : Cp} (hx : (keysOf L)[tr]? = some x) (hn : rngIn x c.ty = true) : opensB L c = true := by
  rw [opensB, keyB_keys, List.any_eq_true.2 ⟨x, List.mem_of_getElem? hx, hn⟩, Bool.or_true]
theorem opens_false {L : List Cp} {a tr : Nat} {c : Cp} (h : LkI L (a, tr) c) (ht : tr = (keysOf L).length) (e : (c.ty == 262142) = false) : opensB L c = false := by
  have h2 := h.nay
  rw [show ((a, tr) : Lk).2 = tr from rfl, ht, List.take_length] at h2
  rw [opensB, e, keyB_keys, Bool.false_or, List.any_eq_false]
  intro x hx; rw [h2 x hx]; decide
def OpP (L : List Cp) (p : Lk) (c : Cp) (s : Nat) (w w' : World) : Prop := ∃ tr : Nat, Blk w' s 61 [.int .i64 p.1, .int .i64 tr] ∧ Fr w w' (fun k => k = s) ∧ (opensB L c = false → LkI L (p.1, tr) c)
set_option maxHeartbeats 2000000 in
set_option maxRecDepth 100000 in
theorem opens_w (B q mb s : Nat) (lv kv : Value) (L : List Cp) (p : Lk) (c : Cp) (hi : LkI L p c) (hc : RC c) (hK : ∀ x ∈ L, RC x) (hl : L.length < 100000) (v : Bool) (hv : opensB L c = v) (w : World) (hg : Gr w B q mb lv kv L L (keysOf L)) (hs : Blk w s 61 [.int .i64 p.1, .int .i64 p.2]) :
    Calls Try.prog 38 #[.pointer (some ⟨q, 0, none⟩), .pointer (some ⟨s, 0, none⟩)] w fun e w' => e = .returned (.bool v) ∧ OpP L p c s w w' := by
  obtain ⟨A, cap, rfl, hcap, hrd, _⟩ := hg.list.rd
  obtain ⟨AK, capK, rfl, hrk⟩ := hg.keys.rd
  have hat := hi.at_
  have hlt : p.1 < L.length := (List.getElem?_eq_some_iff.1 hat).1
  obtain ⟨b, o, rfl, hb, c', hc', hr⟩ := hrd.at_ hlt
  obtain rfl : c' = c := by rw [hc'] at hat; exact Option.some.inj hat
  obtain ⟨r0, r1, r2, r3, r4, r5, r6, r7, r8⟩ := hr.out
  obtain ⟨c0, c1, c2⟩ := hg.cells
  obtain ⟨s0, s1⟩ := hs.out2
  have ne : q ≠ s := Blk.ne_ hg.blk hs (by decide)
  have y0 := hc.y0
  have y1 := hc.y1
  have HI := Lib.hid hi
  have HS := Lib.hid hs
  have HG := Lib.hid hg
  have HRK := Lib.hid hrk
  have HKR := Lib.hid hK
  clear hi hs hat hc' hr hrd hrk hc hK
  go_enter Try.func38, Try.ntmps38
  go_wp2
  go_quiet (fail)
  by_cases hse : c'.ty = 262142
  · have e : v = true := by rw [← hv, opensB, hse]; rfl
    subst e
    go_wp2
    go_ret
    exact ⟨rfl, p.2, HS.out, ⟨rfl, rfl, rfl, Nat.le_refl _, fun _ _ _ => rfl⟩, fun h => by rw [hv] at h; cases h⟩
  · have e262 : (c'.ty == 262142) = false := by simpa using hse
    have nm : s ≠ mb := MS.blk_ne HS.out HG.out.map
    have nl := own_blk HG.out.list HS.out (by decide)
    have nk := own_blk HG.out.keys HS.out (by decide)
    go_wp2
    go_loopw [] (fun wr => ∃ tr : Nat, Blk wr s 61 [.int .i64 p.1, .int .i64 tr] ∧ Fr w wr (fun k => k = s) ∧ LkI L (p.1, tr) c') (fun wr => (keysOf L).length - trOf wr s)
    case atStart => exact ⟨p.2, HS.out, (Fr.refl w _).drewN _, HI.out⟩
    case round =>
      obtain ⟨tr, hbk, hfr, hli⟩ := hrel
      have HB := Lib.hid hbk
      have HF := Lib.hid hfr
      have HL := Lib.hid hli
      have HGR := Lib.hid (HG.out.fr HF.out ne (fun e => nm e.symm) (fun g hg e => nl (e ▸ hg)) (fun g hg e => nk (e ▸ hg)))
      obtain ⟨AK', capK', e, hrk'⟩ := HGR.out.keys.rd
      cases e
      obtain ⟨d0, d1, d2⟩ := HGR.out.cells
      obtain ⟨t0, t1⟩ := hbk.out2
      have hle := hli.le
      have hq := HGR.out.q_lt
      have hsl := hbk.lt
      have frz := hbk.frozen 1
      have hkl := keysOf_len L
      clear hbk hfr hli c0 c1 c2 s0 s1 r0 r1 r2 r3 r4 r5 r6 r7 r8
      by_cases htr : tr < (keysOf L).length
      · obtain ⟨x, hx⟩ : ∃ x, (keysOf L)[tr]? = some x := ⟨_, List.getElem?_eq_getElem htr⟩
        obtain ⟨bk, rfl, hbk, _, k0, k1, k2⟩ := hrk' tr x hx
        have hxr : RC x := HKR.out x (List.mem_filter.1 (List.mem_of_getElem? hx)).1
        obtain ⟨T0, T1⟩ := ofs_bd x.e x.b x.t x.g x.a
        obtain ⟨nb, hnb⟩ : ∃ nb, rngIn x c'.ty = nb := ⟨_, rfl⟩
        have HN := Lib.hid (fun w1 => names_w _ _ (ofO x.e x.b x.t x.g x.a) _ T0 T1 y0 y1 nb hnb w1)
        have HX := Lib.hid hx
        have HNB := Lib.hid hnb
        clear hx hnb hxr hrk'
        go_wp2
        go_quiet (fail)
        go_wp2
        generalize hwy : wr.drewN _ = wy
        have HBy : Hid (Blk wy s 61 [.int .i64 p.1, .int .i64 tr]) := Lib.hid (by rw [← hwy]; exact HB.out)
        have HFy : Hid (Fr w wy (fun k => k = s)) := Lib.hid (by rw [← hwy]; exact HF.out.drewN _)
        have hsz : wy.heap.size = wr.heap.size := by rw [← hwy]; rfl
        have ey : ∀ p, wy.cell? p = wr.cell? p := by rw [← hwy]; exact fun _ => rfl
        have d0y := (ey _).trans d0
        have d1y := (ey _).trans d1
        have d2y := (ey _).trans d2
        have t0y := (ey _).trans t0
        have t1y := (ey _).trans t1
        have k0y := (ey _).trans k0
        have k1y := (ey _).trans k1
        have k2y := (ey _).trans k2
        have frzy := HBy.out.frozen 1
        rw [← hsz] at hbk hsl hq
        clear hwy ey d0 d1 d2 t0 t1 k0 k1 k2 frz hsz
        go_cut [6] (fun s6 wx => ∃ H : Nat, s6 = .pointer (some ⟨H, 0, none⟩) ∧ At H (rngV x) wx ∧ H < wx.heap.size ∧ H ≠ s ∧ Blk wx s 61 [.int .i64 p.1, .int .i64 tr] ∧ Fr w wx (fun k => k = s))
        case first =>
          go_region
          all_goals
            go_wp2
            go_meet
            refine ⟨_, rfl, At.new wy (rngV x) _, by simp, by omega, HBy.out.alloc _, (HFy.out.alloc _).drew⟩
        case rest =>
          obtain ⟨H, rfl, hat, hH, hHs, hbx, hfx⟩ := hcut
          obtain ⟨z0, z1, z2⟩ := hat.out3
          obtain ⟨t0, t1⟩ := hbx.out2
          have frz := hbx.frozen 1
          have HBX := Lib.hid hbx.set21
          have HFX := Lib.hid hfx
          have hsx := hbx.lt
          clear hat hbx hfx
          cases nb
          · go_wp2_with (first | (go_at_call 74; (with_reducible refine (HN.out _).mono ?_); rintro e' w1 ⟨rfl, qk⟩; have HF1 := Lib.hid ((HFX.out.setCell (.inr rfl) _).kp qk); have HB1 := Lib.hid ((HBX.out _).fr (Fr.of_kp qk (fun _ => False)) id); clear qk))
            go_roundw
            case rel => exact ⟨tr + 1, HB1.out, HF1.out, HL.out.next HX.out HNB.out⟩
            case measure => rw [trOf_blk HB1.out, trOf_blk HB.out]; omega
          · go_wp2_with (first | (go_at_call 74; (with_reducible refine (HN.out _).mono ?_); rintro e' w1 ⟨rfl, qk⟩; have HF1 := Lib.hid ((HFX.out.setCell (.inr rfl) _).kp qk); have HB1 := Lib.hid ((HBX.out _).fr (Fr.of_kp qk (fun _ => False)) id); clear qk))
            go_ret
            have eo := opens_true HX.out HNB.out
            exact ⟨ret_bool (by rw [← hv, eo]), tr + 1, HB1.out, HF1.out, fun h => by rw [eo] at h; cases h⟩
      · have eo := opens_false HL.out (by omega) e262
        go_wp2
        go_quiet (fail)
        go_wp2
        go_ret
        exact ⟨ret_bool (by rw [← hv, eo]), tr, HB.out, HF.out.drewN _, fun _ => HL.out⟩
end Go.Proofs.Ytkddgjaflcjhiaa
namespace Go.Proofs.Ytkddgjaflcjhiaa
open Go.ChangeShapes Go.WideShapes Go.ChangeAt Go.RowKit Go.Maps
set_option linter.unusedVariables false
set_option linter.unusedSimpArgs false

theorem LkOK.more {L : List Cp} {E : List Lk} {cs : List Cp} (h : LkOK L E cs) (u : List Cp) : LkOK (L ++ u) E cs :=
  ⟨h.len, fun i p hi => by obtain ⟨c, hc, hl⟩ := h.each i p hi; exact ⟨c, hc, hl.more u⟩⟩
theorem LkOK.nil (L : List Cp) : LkOK L [] [] := ⟨rfl, fun i p hi => by simp at hi⟩
theorem LkOK.snoc {L : List Cp} {E : List Lk} {cs : List Cp} {p : Lk} {c : Cp} (h : LkOK L E cs) (hi : LkI L p c) : LkOK L (E ++ [p]) (cs ++ [c]) := by
  refine ⟨by simp [h.len], fun i r hr => ?_⟩
  rcases Nat.lt_trichotomy i E.length with hlt | heq | hgt
  · rw [List.getElem?_append_left hlt] at hr
    rw [List.getElem?_append_left (by rw [← h.len]; exact hlt)]
    exact h.each i r hr
  · rw [List.getElem?_append_right (by omega), heq] at hr
    simp at hr
    subst hr
    refine ⟨c, ?_, hi⟩
    rw [List.getElem?_append_right (by rw [← h.len]; omega), heq, h.len]; simp
  · rw [List.getElem?_append_right (by omega), List.getElem?_eq_none (by simp; omega)] at hr; cases hr
theorem take_set_snoc {α : Type} (E : List α) (j : Nat) (p : α) (hj : j < E.length) : (E.set j p).take (j + 1) = E.take j ++ [p] := by
  rw [List.take_add_one, List.take_set_of_le (Nat.le_refl _), List.getElem?_set_self hj]; rfl
theorem step_of {cs out : List Cp} {k : Nat} {c : Cp} (hc : cs[k]? = some c) : roundC (cs.take (k + 1)) out = stepC (roundC (cs.take k) out) c := foldl_take _ _ _ _ _ hc
theorem drop_of {cs : List Cp} {k : Nat} {c : Cp} (hc : cs[k]? = some c) : cs.drop k = c :: cs.drop (k + 1) := by
  obtain ⟨hk, rfl⟩ := List.getElem?_eq_some_iff.1 hc
  exact List.drop_eq_getElem_cons hk
/-- What holds at the head of a round of growing. -/
structure CO (w wr : World) (q mb : Nat) (bs : List Cp) (v : Value) (E : List Lk) (cs out : List Cp) (lv kv : Value) : Prop where
  own : OwnS wr w.heap.size v E
  ok : LkOK out E cs
  rd : ∃ m, out = rounds bs m
  gr6 : Grown6 bs out
  skip : Skip out bs cs
  gr : Gr wr w.heap.size q mb lv kv out out (keysOf out)
  bl : Below w.heap.size w wr
/-- What holds within it. -/
structure CI (w wx : World) (q mb sb cap : Nat) (bs : List Cp) (E : List Lk) (cs out : List Cp) (k j : Nat) (E' : List Lk) (cur cl : List Cp) (lv kv : Value) : Prop where
  kE : k ≤ E.length
  jk : j ≤ k
  len : E'.length = E.length
  own : OwnS wx w.heap.size (.slice (some ⟨sb, 0, none⟩) E'.length cap) E'
  rest : ∀ i, k ≤ i → E'[i]? = E[i]?
  ok : LkOK cur (E'.take j) cl
  cur_ : cur = roundC (cs.take k) out
  skip : Skip cur bs (cl ++ cs.drop k)
  same : j = k → cur = out
  gr : Gr wx w.heap.size q mb lv kv cur cur (keysOf cur)
  bl : Below w.heap.size w wx
section
variable {w wr wx : World} {q mb sb cap k j : Nat} {bs cs out cur cl : List Cp} {E E' : List Lk} {lv kv : Value} {c : Cp} {p : Lk}
theorem CO.begin (h : CO w wr q mb bs (.slice (some ⟨sb, 0, none⟩) E.length cap) E cs out lv kv) : CI w wr q mb sb cap bs E cs out 0 0 E out [] lv kv :=
  ⟨Nat.zero_le _, Nat.le_refl _, rfl, h.own, fun _ _ => rfl, by simpa using LkOK.nil out, by simp [roundC], by simpa using h.skip, fun _ => rfl, h.gr, h.bl⟩
theorem CI.g6 (h : CI w wx q mb sb cap bs E cs out k j E' cur cl lv kv) (hg : Grown6 bs out) (hs : Skip out bs cs) : Grown6 bs cur := by
  rw [h.cur_]; exact hg.round _ (fun c hc => hs.mem c (List.mem_of_mem_take hc))
/-- A lock that does not open is kept. -/
theorem CI.keep {w' : World} {tr : Nat} (h : CI w wx q mb sb cap bs E cs out k j E' cur cl lv kv) (hk : k < E.length) (hc : cs[k]? = some c) (hi : LkI cur (p.1, tr) c) (ho : opensB cur c = false)
    (hown : OwnS w' w.heap.size (.slice (some ⟨sb, 0, none⟩) E'.length cap) (E'.set j (p.1, tr))) (hg : Gr w' w.heap.size q mb lv kv cur cur (keysOf cur)) (hb : Below w.heap.size w w') :
    CI w w' q mb sb cap bs E cs out (k + 1) (j + 1) (E'.set j (p.1, tr)) cur (cl ++ [c]) lv kv := by
  have hj := h.jk
  have hl := h.len
  have es : stepC cur c = cur := by simp [stepC, ho]
  refine ⟨hk, by omega, by rw [List.length_set]; exact hl, by rw [List.length_set]; exact hown, fun i hi => ?_, ?_, ?_, ?_, fun e => h.same (by omega), hg, hb⟩
  · rw [List.getElem?_set_ne (by omega)]; exact h.rest i (by omega)
  · rw [take_set_snoc _ _ _ (by omega)]; exact h.ok.snoc hi
  · rw [step_of hc, ← h.cur_, es]
  · have := h.skip
    rw [drop_of hc] at this
    simpa using this
/-- A lock that opens is left out. -/
theorem CI.open_ {w' : World} {lv' kv' : Value} (h : CI w wx q mb sb cap bs E cs out k j E' cur cl lv kv) (hk : k < E.length) (hc : cs[k]? = some c) (ho : opensB cur c = true)
    (hown : OwnS w' w.heap.size (.slice (some ⟨sb, 0, none⟩) E'.length cap) E') (hg : Gr w' w.heap.size q mb lv' kv' (addC cur (uns c)) (addC cur (uns c)) (keysOf (addC cur (uns c)))) (hb : Below w.heap.size w w') :
    CI w w' q mb sb cap bs E cs out (k + 1) j E' (addC cur (uns c)) cl lv' kv' := by
  have hj := h.jk
  obtain ⟨u, eu, _⟩ := addC_pre cur (uns c)
  have es : stepC cur c = addC cur (uns c) := by simp [stepC, ho]
  refine ⟨hk, by omega, h.len, hown, fun i hi => h.rest i (by omega), by rw [eu]; exact h.ok.more u, ?_, ?_, fun e => by omega, hg, hb⟩
  · rw [step_of hc, ← h.cur_, es]
  · have h1 := h.skip.mono (out' := addC cur (uns c)) (fun x hx => (mem_addC _ _ _).2 (.inl hx))
    rw [drop_of hc] at h1
    exact Skip.out_ cl c _ h1 ((mem_addC _ _ _).2 (.inr rfl))
theorem CI.all_ {lv2 kv2 : Value} (h : CI w wx q mb sb cap bs E cs out k j E' cur cl lv kv) (hk : k = E.length) (ho : CO w wr q mb bs (.slice (some ⟨sb, 0, none⟩) E.length cap) E cs out lv2 kv2) : cur = roundC bs out := by
  rw [ho.skip.round out (fun _ h => h), h.cur_, List.take_of_length_le]
  rw [hk, ho.ok.len]; exact Nat.le_refl _
end
theorem Skip.len {out bs cs : List Cp} (h : Skip out bs cs) : cs.length ≤ bs.length := by
  induction h with
  | nil => simp
  | keep c _ ih => simp only [List.length_cons]; omega
  | drop c _ _ ih => simp only [List.length_cons]; omega
theorem gs_apart {w : World} {B q mb : Nat} {lv kv v : Value} {L M K : List Cp} {E : List Lk} (g : Gr w B q mb lv kv L M K) (o : OwnS w B v E) : ∀ k, v.ownBlock = some k → ¬ GS q mb lv kv k := by
  rintro k hk (rfl | rfl | h | h)
  · exact own_blk o g.blk (by decide) hk
  · exact own_map o g.map hk
  · exact own_own o hk g.list (by decide) h
  · exact own_own o hk g.keys (by decide) h
theorem CO.last {w wr : World} {q mb : Nat} {l bs cs out : List Cp} {v lv kv : Value} {E : List Lk} (h : CO w wr q mb bs v E cs out lv kv) (hs : roundC cs out = out) (hb : baseL l = bs) : IsClo l out := by
  obtain ⟨m, e⟩ := h.rd
  exact ⟨⟨m, by rw [hb]; exact e⟩, by rw [hb, h.skip.round out (fun _ h => h)]; exact hs⟩
theorem CI.next {w wr wx : World} {q mb sb cap k j : Nat} {bs cs out cur cl : List Cp} {E E' : List Lk} {lv kv lv' kv' : Value} (h : CI w wx q mb sb cap bs E cs out k j E' cur cl lv' kv') (hk : k = E.length) (ho : CO w wr q mb bs (.slice (some ⟨sb, 0, none⟩) E.length cap) E cs out lv kv) :
    CO w wx q mb bs (.slice (some ⟨sb, 0, none⟩) j cap) (E'.take j) cl cur lv' kv' := by
  have hj := h.jk
  have hl := h.len
  refine ⟨h.own.pre j (by omega), h.ok, ?_, h.g6 ho.gr6 ho.skip, ?_, h.gr, h.bl⟩
  · obtain ⟨m, e⟩ := ho.rd
    exact ⟨m + 1, by rw [h.all_ hk ho, e]; rfl⟩
  · have := h.skip
    rw [List.drop_of_length_le (by rw [hk, ho.ok.len]; exact Nat.le_refl _), List.append_nil] at this
    exact this
theorem CI.done {w wr wx : World} {q mb sb cap k j : Nat} {l bs cs out cur cl : List Cp} {E E' : List Lk} {lv kv lv' kv' : Value} (h : CI w wx q mb sb cap bs E cs out k j E' cur cl lv' kv') (hk : k = E.length) (hj : j = k) (ho : CO w wr q mb bs (.slice (some ⟨sb, 0, none⟩) E.length cap) E cs out lv kv) (hb : baseL l = bs) : IsClo l cur := by
  have e1 := h.same hj
  have e2 := h.all_ hk ho
  obtain ⟨m, e⟩ := ho.rd
  subst hb
  exact ⟨⟨m, e1.trans e⟩, by rw [← e1] at e2; exact e2.symm⟩
set_option maxHeartbeats 2000000 in
set_option maxRecDepth 100000 in
theorem close_w (l : List Cp) (A : Option Addr) (n : Nat) (hL : ∀ c ∈ l, RC c) (hl : l.length ≤ 1000) (w : World) (h : Rd w w.heap.size A l) :
    Calls Try.prog 12 #[.slice A l.length n] w (CloPost l w) := by
  have HBEG := Lib.hid (begin_w l A n hL hl w h)
  have hAll := Lib.hid (base_all l hL)
  have hbl := base_len l
  have HL := Lib.hid hL
  clear h hL
  obtain ⟨bs, hbs⟩ : ∃ bs, baseL l = bs := ⟨_, rfl⟩
  rw [hbs] at HBEG hAll hbl
  have HBS := Lib.hid hbs
  clear hbs
  go_enter Try.func12, Try.ntmps12
  go_wp2
  go_step3
  go_wp2_with (first
    | (go_at_call 36; (with_reducible refine HBEG.out.mono ?_); rintro e' w1 ⟨lv, mb, kv, rfl, o1, m1, k1, hmb, bl1⟩; obtain ⟨Al, capl, el, hcl, _, _⟩ := o1.rd; obtain ⟨Ak, capk, ek, _⟩ := k1.rd; subst el ek; have HO1 := Lib.hid o1; have HM1 := Lib.hid m1; have HK1 := Lib.hid k1; have HB1 := Lib.hid bl1; clear o1 m1 k1 bl1)
    | (have HG1 : Hid (Gr (w1.alloc (.cells #[.slice Al bs.length capl, .map (some mb), .slice Ak (keysOf bs).length capk] 56)) w.heap.size w1.heap.size mb (.slice Al bs.length capl) (.slice Ak (keysOf bs).length capk) bs bs (keysOf bs)) := Lib.hid ⟨Blk.new w1 _ [_, _, _], own_fr HO1.out ((Fr.refl w1 (fun _ => False)).alloc _) (fun _ _ h => h), HM1.out.alloc _, own_fr HK1.out ((Fr.refl w1 (fun _ => False)).alloc _) (fun _ _ h => h)⟩; go_at_call 37; (with_reducible refine (locks_w w.heap.size w1.heap.size mb _ _ bs (by omega) _ HG1.out).mono ?_); rintro e' w2 ⟨v, rfl, ov, fv⟩; have HOV := Lib.hid (own_base ov (B' := w.heap.size) (by have := HB1.out.size; simp; omega)); have HG2 := Lib.hid (HG1.out.fr fv id id (fun _ _ => id) (fun _ _ => id)); have HB2 := Lib.hid ((HB1.out.alloc HB1.out.size _).trans (fv.bl (by have := HB1.out.size; simp; omega) (fun _ h => h.elim))); clear ov fv))
  go_step3
  go_wp2
  go_loopw [4] (fun s wr => ∃ v E cs out lv kv, v = s ∧ CO w wr w1.heap.size mb bs v E cs out lv kv) (fun s _ => sliceLen s)
  case atStart => exact ⟨_, _, _, bs, _, _, rfl, HOV.out, LkOK.start bs, ⟨0, rfl⟩, Grown6.refl bs, Skip.sealed bs bs, HG2.out, HB2.out⟩
  case round =>
    have hqB := HB1.out.size
    clear HBEG HO1 HM1 HK1 HB1 HG1 HOV HG2 HB2
    obtain ⟨v, E, cs, out, lv, kv, rfl, hco⟩ := hrel
    have HC := Lib.hid hco
    have hol : out.length ≤ 2000 := by have := hco.gr6.len; omega
    have hEl : E.length ≤ 2000 := by have := hco.ok.len; have := hco.skip.len; omega
    rcases hco.own.form with ⟨rfl, rfl⟩ | ⟨sb, cap, rfl, hcap, hB, hsb⟩
    · clear hco
      go_wp2
      go_loopw [5, 15] (fun s i wx => s = .slice none 0 0 ∧ i = .int .i64 0 ∧ wx = wr) (fun _ _ _ => 0)
      case atStart => exact ⟨rfl, rfl, rfl⟩
      case round =>
        obtain ⟨rfl, rfl, rfl⟩ := hrel
        have d0 := HC.out.gr.cells.1
        go_wp2
        go_ret
        have e0 : cs = [] := List.eq_nil_of_length_eq_zero (by have := HC.out.ok.len; simpa using this.symm)
        exact ⟨_, out, rfl, HC.out.last (by rw [e0]; rfl) HBS.out, HC.out.gr.list, HC.out.bl⟩
    · clear hco
      go_wp2
      go_loopw [5, 15] (fun s i wx => ∃ (k j : Nat) (E' : List Lk) (cur cl : List Cp) (lv kv : Value), i = .int .i64 k ∧ s = .slice (some ⟨sb, 0, none⟩) j cap ∧ CI w wx w1.heap.size mb sb cap bs E cs out k j E' cur cl lv kv) (fun _ i _ => E.length - (intOf i).toNat)
      case atStart => exact ⟨0, 0, E, out, [], lv, kv, rfl, rfl, HC.out.begin⟩
      case round =>
        obtain ⟨k, j, E', cur, cl, lv', kv', rfl, rfl, hci⟩ := hrel
        have HI := Lib.hid hci
        have HG := Lib.hid hci.gr
        have hkE := hci.kE
        have hjk := hci.jk
        have hlen := hci.len
        have hws := hci.bl.size
        have hq := hci.gr.q_lt
        have hg6 := hci.g6 HC.out.gr6 HC.out.skip
        have hcur : cur.length ≤ 2000 := by have := hg6.len; omega
        have HALL := Lib.hid (hg6.all_ hAll.out)
        have hsb' : sb < wr.heap.size := (hci.own.lt sb rfl).2
        have hmlt := hci.gr.map.lt
        clear hci hg6
        by_cases hlt : k < E.length
        · obtain ⟨p, hp⟩ : ∃ p, E[k]? = some p := ⟨_, List.getElem?_eq_getElem hlt⟩
          obtain ⟨c, hcs, hli0⟩ := HC.out.ok.each k p hp
          have hli : LkI cur p c := by
            obtain ⟨u, eu, _⟩ := fold_pre (cs.take k) out
            rw [HI.out.cur_, eu]; exact hli0.more u
          obtain ⟨p0, p1⟩ := HI.out.own.at_ k p ((HI.out.rest k (Nat.le_refl _)).trans hp)
          have HCS := Lib.hid hcs
          have HLI := Lib.hid hli
          have HCR := Lib.hid (HALL.out c (List.mem_of_getElem? hli.at_)).1
          have HKR : Hid (∀ x ∈ cur, RC x) := Lib.hid (fun x hx => (HALL.out x hx).1)
          have hpl : p.1 < cur.length := (List.getElem?_eq_some_iff.1 hli.at_).1
          obtain ⟨ov, hov⟩ : ∃ ov, opensB cur c = ov := ⟨_, rfl⟩
          have HOV := Lib.hid hov
          obtain ⟨Al', capl', el, hcl', _, _⟩ := HG.out.list.rd
          subst el
          have HEC : Hid (E'.length ≤ cap) := Lib.hid (by omega)
          clear hp hcs hli0 hli hov
          cases ov
          · go_upto_region 9 with (first | (go_at_call 38; (with_reducible refine (opens_w w.heap.size w1.heap.size mb wr.heap.size _ _ cur p c HLI.out HCR.out HKR.out (by omega) _ HOV.out _ (HG.out.alloc _) (Blk.new wr _ [_, _])).mono ?_); rintro e' w3 ⟨rfl, tr, hb3, hf3, hn3⟩; have HN3 := Lib.hid hn3; have HB3 := Lib.hid hb3; have HG3 := Lib.hid ((HG.out.alloc _).fr hf3 (by omega) (by omega) (fun g hg e => by have := (HG.out.list.lt g hg).2; omega) (fun g hg e => by have := (HG.out.keys.lt g hg).2; omega)); have OS3 := Lib.hid (own_fr (own_fr HI.out.own ((Fr.refl wr (fun _ => False)).alloc _) (fun _ _ h => h)) hf3 (fun g hg e => by have := (HI.out.own.lt g hg).2; omega)); have BL3 := Lib.hid ((HI.out.bl.alloc hws _).trans (hf3.bl (by simp; omega) (fun i hi => hi ▸ hws))); have hw3 := hf3.size; clear hb3 hf3 hn3))
            obtain ⟨t0, t1⟩ := HB3.out.out2
            have hHs := HB3.out.lt
            have HE3 : Hid (OwnS (w3.alloc (.cells #[.int .i64 p.1, .int .i64 tr] 61)) w.heap.size (.slice (some ⟨sb, 0, none⟩) E'.length cap) E') := Lib.hid (own_fr OS3.out ((Fr.refl w3 (fun _ => False)).alloc _) (fun _ _ h => h))
            have HF4 : Hid (Fr (w3.alloc (.cells #[.int .i64 p.1, .int .i64 tr] 61)) ((w3.alloc (.cells #[.int .i64 p.1, .int .i64 tr] 61)).setCells sb (j * 2) (lkV (p.1, tr))) (fun k => k = sb)) := Lib.hid (((Fr.refl _ (fun k => k = sb)).setCell (p := ⟨sb, j * 2, none⟩) (.inr rfl) _).setCell (p := ⟨sb, j * 2 + 1, none⟩) (.inr rfl) _)
            have HG4 : Hid (Gr ((w3.alloc (.cells #[.int .i64 p.1, .int .i64 tr] 61)).setCells sb (j * 2) (lkV (p.1, tr))) w.heap.size w1.heap.size mb _ _ cur cur (keysOf cur)) := Lib.hid (by
              have ga := gs_apart (HG3.out.alloc _) HE3.out sb rfl
              exact (HG3.out.alloc _).fr HF4.out (fun e => ga (.inl e.symm)) (fun e => ga (.inr (.inl e.symm))) (fun g hg e => ga (.inr (.inr (.inl (e ▸ hg))))) (fun g hg e => ga (.inr (.inr (.inr (e ▸ hg))))))
            have HO4 := Lib.hid (HE3.out.put j (by omega) (p.1, tr))
            have HB4 := Lib.hid ((BL3.out.alloc (by simp at hw3; omega) _).trans (HF4.out.bl (n := w.heap.size) (by simp at hw3; simp; omega) (fun i hi => hi ▸ hB)))
            have HOF := Lib.hid HOV.out
            go_wp2_with (first | (at_builtin; refine app_room rfl (.tmp 28) (.tmp 30) rfl w.heap.size sb cap j E' rfl HE3.out (by omega) HEC.out ⟨w3.heap.size, 0, none⟩ 1 (p.1, tr) rfl (World.news_of_block (heap_alloc_new w3 _)) ?_; generalize (w3.alloc (.cells #[.int .i64 p.1, .int .i64 tr] 61)).setCells sb (j * 2) (lkV (p.1, tr)) = w4 at HF4 HG4 HO4 HB4 ⊢; clear HF4))
            go_roundw
            case rel => exact ⟨k + 1, j + 1, _, cur, _, _, _, by go_num, rfl, HI.out.keep hlt HCS.out (HN3.out HOV.out) HOV.out HO4.out HG4.out HB4.out⟩
            case measure => simp [intOf]; omega
          · go_upto_region 8 with (first | (go_at_call 38; (with_reducible refine (opens_w w.heap.size w1.heap.size mb wr.heap.size _ _ cur p c HLI.out HCR.out HKR.out (by omega) _ HOV.out _ (HG.out.alloc _) (Blk.new wr _ [_, _])).mono ?_); rintro e' w3 ⟨rfl, tr, hb3, hf3, hn3⟩; have HN3 := Lib.hid hn3; have HB3 := Lib.hid hb3; have HG3 := Lib.hid ((HG.out.alloc _).fr hf3 (by omega) (by omega) (fun g hg e => by have := (HG.out.list.lt g hg).2; omega) (fun g hg e => by have := (HG.out.keys.lt g hg).2; omega)); have OS3 := Lib.hid (own_fr (own_fr HI.out.own ((Fr.refl wr (fun _ => False)).alloc _) (fun _ _ h => h)) hf3 (fun g hg e => by have := (HI.out.own.lt g hg).2; omega)); have BL3 := Lib.hid ((HI.out.bl.alloc hws _).trans (hf3.bl (by simp; omega) (fun i hi => hi ▸ hws))); have hw3 := hf3.size; clear hb3 hf3 hn3))
            obtain ⟨t0, t1⟩ := HB3.out.out2
            have hHs := HB3.out.lt
            obtain ⟨d0, d1, d2⟩ := HG3.out.cells
            obtain ⟨A3, cap3, e3, hc3, hr3, _⟩ := HG3.out.list.rd
            cases e3
            obtain ⟨b, o, rfl, hb, c', hc', hr⟩ := hr3.at_ hpl
            obtain rfl : c' = c := by have := HLI.out.at_; rw [hc'] at this; exact Option.some.inj this
            obtain ⟨r0, r1, r2, r3, r4, r5, r6, r7, r8⟩ := hr.out
            clear hc' hr hr3
            go_wp2_with (first
              | (go_at_call 40; (with_reducible refine (unsealed_w c' _).mono ?_); rintro e' w4 ⟨rfl, qk⟩; have HG4 := Lib.hid (HG3.out.kp qk); have OS4 := Lib.hid (own_fr OS3.out (Fr.of_kp qk (fun _ => False)) (fun _ _ h => h)); have BL4 := Lib.hid (BL3.out.trans (qk.1.mono BL3.out.size)); clear qk)
              | (go_at_call 39; (with_reducible refine (glay_w w.heap.size w1.heap.size mb _ _ cur (uns c') HCR.out.uns (by omega) _ BL4.out.size HG4.out).mono ?_); rintro e' w5 ⟨rfl, lv5, kv5, g5, f5⟩; have HG5 := Lib.hid g5; have OS5 := Lib.hid (own_fr OS4.out f5 (gs_apart HG4.out OS4.out)); have BL5 := Lib.hid (BL4.out.trans (f5.bl BL4.out.size (fun i hi => by
                  rcases hi with rfl | rfl | hi | hi
                  · exact hqB
                  · exact hmb
                  · exact (HG4.out.list.lt _ hi).1
                  · exact (HG4.out.keys.lt _ hi).1))); clear g5 f5))
            go_roundw
            case rel => exact ⟨k + 1, j, E', _, cl, lv5, kv5, by go_num, rfl, HI.out.open_ hlt HCS.out HOV.out OS5.out HG5.out BL5.out⟩
            case measure => simp [intOf]; omega
        · have hkk : k = E.length := by omega
          have d0 := HG.out.cells.1
          by_cases hj : j = E.length
          · have eb : ((j : Int) == (E.length : Int)) = true := by rw [hj]; simp
            go_wp2
            go_ret
            exact ⟨_, cur, rfl, HI.out.done hkk (by omega) HC.out HBS.out, HG.out.list, HI.out.bl⟩
          · have eb : ((j : Int) == (E.length : Int)) = false := by simp; omega
            go_wp2
            go_roundw
            case rel => exact ⟨_, _, _, _, _, _, rfl, HI.out.next hkk HC.out⟩
            case measure => simp [sliceLen]; omega
end Go.Proofs.Ytkddgjaflcjhiaa
