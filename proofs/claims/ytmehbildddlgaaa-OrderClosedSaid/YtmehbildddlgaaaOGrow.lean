/-
  A growth: its list, its map, its keys; the contract of order's lay. Capabilities' numbers are in their places; at most a hundred thousand of them.
-/
import Derived.Test.YtmehbildddlgaaaOFr
import Derived.Test.YtmehbildddlgaaaOSmall
import Derived.Test.YtmehbildddlgaaaOClo
import Derived.Deep.RegionLaw
namespace Go.Proofs.Ytmehbildddlgaaa
open Go.ChangeShapes Go.WideShapes Go.ChangeAt Go.RowKit Go.Maps
set_option linter.unusedVariables false
set_option linter.unusedSimpArgs false

/-- A capability's bounds, as a range's three values. -/
def rngV (c : Cp) : List Value := [.int .u64 (ofB c.e c.b c.a), .int .u64 (ofT c.e c.b c.t c.g c.a), .bool (ofO c.e c.b c.t c.g c.a)]
def vsK (K : List Cp) : List Value := K.flatMap rngV
theorem vsK_snoc (K : List Cp) (c : Cp) : vsK (K ++ [c]) = vsK K ++ rngV c := by simp [vsK]
theorem vsK_at (K : List Cp) (i : Nat) (c : Cp) (h : K[i]? = some c) (k : Nat) (v : Value) (hk : (rngV c)[k]? = some v) : (vsK K)[i * 3 + k]? = some v := by
  induction K generalizing i with
  | nil => simp at h
  | cons d K ih =>
    have e : vsK (d :: K) = rngV d ++ vsK K := rfl
    have l3 : ∀ y, (rngV y).length = 3 := fun _ => rfl
    rw [e]
    cases i with
    | zero =>
      simp only [List.getElem?_cons_zero, Option.some.injEq] at h
      subst h
      have hl : k < (rngV d).length := (List.getElem?_eq_some_iff.1 hk).1
      rw [List.getElem?_append_left (by omega)]; simpa using hk
    | succ i =>
      rw [List.getElem?_append_right (by rw [l3]; omega), l3]
      have := ih i (by simpa using h)
      rw [show (i + 1) * 3 + k - 3 = i * 3 + k by omega]; exact this
/-- A slice of ranges of the call's own. -/
abbrev OwnK (w : World) (B : Nat) (v : Value) (K : List Cp) : Prop := w.ownsRow B 66 3 v K.length (vsK K)
theorem OwnK.nil (w : World) (B : Nat) : OwnK w B (.slice none 0 0) [] := World.ownsRow_nil w B _ 3
theorem OwnK.rd {w : World} {B : Nat} {v : Value} {K : List Cp} (h : OwnK w B v K) : ∃ A cap, v = .slice A K.length cap ∧ ∀ i c, K[i]? = some c → ∃ b, A = some ⟨b, 0, none⟩ ∧ b < w.heap.size ∧ v.ownBlock = some b ∧
    w.cell? ⟨b, i * 3, none⟩ = some (.int .u64 (ofB c.e c.b c.a)) ∧ w.cell? ⟨b, i * 3 + 1, none⟩ = some (.int .u64 (ofT c.e c.b c.t c.g c.a)) ∧ w.cell? ⟨b, i * 3 + 2, none⟩ = some (.bool (ofO c.e c.b c.t c.g c.a)) := by
  rcases id h.2 with ⟨rfl, h0⟩ | ⟨g, cap, cur, rfl, hb, hg, hc, _⟩
  · have : K = [] := List.eq_nil_of_length_eq_zero h0
    subst this
    exact ⟨none, 0, rfl, fun i c hi => by simp at hi⟩
  · refine ⟨_, cap, rfl, fun i c hi => ⟨g, rfl, (h.lt g rfl).2, rfl, ?_⟩⟩
    have k : ∀ j v, (rngV c)[j]? = some v → w.cell? ⟨g, i * 3 + j, none⟩ = some v := fun j v hj => by
      have := h.cells (g := g) rfl _ _ (vsK_at K i c hi j v hj)
      rw [Addr.add_lit] at this
      rw [← this]; congr 2; omega
    exact ⟨k 0 _ rfl, k 1 _ rfl, k 2 _ rfl⟩
theorem rng_info : (Try.prog.info? 66).map (fun i => (i.zero, i.size, i.bytes)) = some (some (.agg #[.int .u64 0, .int .u64 0, .bool false]), 3, 24) := by kernel_rfl
theorem rng_one (c : Cp) : ∀ u ∈ rngV c, u.oneCell' = true := by
  intro u hu
  simp only [rngV, List.mem_cons, List.not_mem_nil, or_false] at hu
  rcases hu with rfl | rfl | rfl <;> rfl
theorem app_ks {w : World} {ops : Array Oper} {o : Oper} {a : Act} {K : Act → World → Prop} {Q : Exit → Act → World → Prop} {E : Prop} (hgd : o.guard = none) (s x : Operand)
    (ho : o.op = .call { callee := .builtin .append, args := #[s, x], argTypes := #[51, 51] }) (B : Nat) (v : Value) (L : List Cp) (hs : a.eval s = v) (hown : OwnK w B v L)
    (ad : Addr) (c : Nat) (d : Cp) (hx : a.eval x = .slice (some ad) 1 c) (hnews : ∀ j u, (rngV d)[j]? = some u → w.cell? (ad.add j) = some u) (hl : L.length < 1000000) (hbase : B ≤ w.heap.size) (H : Nat) (hH : w.heap.size = H)
    (h : ∀ g cap w', OwnK w' B (.slice (some ⟨g, 0, none⟩) (L.length + 1) cap) (L ++ [d]) → w.grownBy w' v.ownBlock → (v.ownBlock = some g ∨ g = H) → g < w'.heap.size → K (a.put o.dst (.slice (some ⟨g, 0, none⟩) (L.length + 1) cap)) w') :
    if Region.wanted o (yielded ops a.tmps) = true then Oper.wp Try.prog o a w K Q else E := by
  obtain ⟨i0, hi, hz0, hz1, hz2⟩ := info_parts rng_info
  refine step_append_lies w hgd s x _ ho B _ i0 _ 3 24 Try.underlying51 hi hz0 hz1 hz2 rfl (by omega) v L.length (vsK L) hs hown ad 1 c (rngV d) hx rfl hnews (rng_one d) (by omega) (by unfold maxLen; omega) (by omega) hbase H hH ?_
  intro g cap w1 hown1 hg h1 h2
  exact h g cap w1 (by unfold OwnK; rw [vsK_snoc, List.length_append]; exact hown1) hg h1 h2
/-- Those that unseal. -/
def keyR (c : Cp) : Bool := !c.sealed && hasP c.pe 256
def keysOf (L : List Cp) : List Cp := L.filter keyR
theorem keysOf_snoc (L : List Cp) (x : Cp) : keysOf (L ++ [x]) = if keyR x then keysOf L ++ [x] else keysOf L := by
  unfold keysOf; rw [List.filter_append]; cases h : keyR x <;> simp [h]
theorem keysOf_len (L : List Cp) : (keysOf L).length ≤ L.length := List.length_filter_le _ _
theorem keyB_keys (L : List Cp) (k : Int) : keyB L k = (keysOf L).any (fun x => rngIn x k) := by
  rw [keyB, keysOf, List.any_filter]
  congr 1
/-- A growth, in block q. -/
structure Gr (w : World) (B q mb : Nat) (lv kv : Value) (L M K : List Cp) : Prop where
  blk : Blk w q 53 [lv, .map (some mb), kv]
  list : OwnC w B lv L
  map : MS w mb M
  keys : OwnK w B kv K
def GS (q mb : Nat) (lv kv : Value) : Nat → Prop := fun k => k = q ∨ k = mb ∨ lv.ownBlock = some k ∨ kv.ownBlock = some k
theorem Gr.fr {w w' : World} {B q mb : Nat} {lv kv : Value} {L M K : List Cp} {S : Nat → Prop} (h : Gr w B q mb lv kv L M K) (k : Fr w w' S) (h1 : ¬ S q) (h2 : ¬ S mb) (h3 : ∀ g, lv.ownBlock = some g → ¬ S g) (h4 : ∀ g, kv.ownBlock = some g → ¬ S g) : Gr w' B q mb lv kv L M K :=
  ⟨h.blk.fr k h1, own_fr h.list k h3, h.map.fr k h2, own_fr h.keys k h4⟩
theorem Gr.kp {w w' : World} {B q mb : Nat} {lv kv : Value} {L M K : List Cp} (h : Gr w B q mb lv kv L M K) (k : Kp w w') : Gr w' B q mb lv kv L M K :=
  h.fr (Fr.of_kp k (fun _ => False)) id id (fun _ _ => id) (fun _ _ => id)
theorem Gr.alloc {w : World} {B q mb : Nat} {lv kv : Value} {L M K : List Cp} (h : Gr w B q mb lv kv L M K) (o : Obj) : Gr (w.alloc o) B q mb lv kv L M K :=
  h.fr ((Fr.refl w (fun _ => False)).alloc o) id id (fun _ _ => id) (fun _ _ => id)
theorem Gr.drew {w : World} {B q mb : Nat} {lv kv : Value} {L M K : List Cp} (h : Gr w B q mb lv kv L M K) : Gr w.drew B q mb lv kv L M K := ⟨h.blk, h.list, h.map, h.keys⟩
theorem Gr.cells {w : World} {B q mb : Nat} {lv kv : Value} {L M K : List Cp} (h : Gr w B q mb lv kv L M K) : w.cell? ⟨q, 0, none⟩ = some lv ∧ w.cell? ⟨q, 1, none⟩ = some (.map (some mb)) ∧ w.cell? ⟨q, 2, none⟩ = some kv := (h.blk.at_).out3
theorem Gr.q_lt {w : World} {B q mb : Nat} {lv kv : Value} {L M K : List Cp} (h : Gr w B q mb lv kv L M K) : q < w.heap.size := h.blk.lt
theorem Gr.apart {w : World} {B q mb : Nat} {lv kv : Value} {L M K : List Cp} (h : Gr w B q mb lv kv L M K) : q ≠ mb ∧ lv.ownBlock ≠ some q ∧ kv.ownBlock ≠ some q ∧ lv.ownBlock ≠ some mb ∧ kv.ownBlock ≠ some mb ∧ (∀ g, lv.ownBlock = some g → kv.ownBlock ≠ some g) :=
  ⟨MS.blk_ne h.blk h.map, own_blk h.list h.blk (by decide), own_blk h.keys h.blk (by decide), own_map h.list h.map, own_map h.keys h.map, fun g hg => own_own h.list hg h.keys (by decide)⟩
/-- What a call of lay has before it: the growth, the capability in a block X; behind w nothing has turned but what it may. -/
structure LM (w wx : World) (B q mb X : Nat) (lv kv : Value) (L M K : List Cp) (x : Cp) (S : Nat → Prop) : Prop where
  gr : Gr wx B q mb lv kv L M K
  row : At X x.vs wx
  fr : Fr w wx S
  lt : X < wx.heap.size
  ne : S X → False
  sq : S q
  sm : S mb
  sk : ∀ g, kv.ownBlock = some g → w.heap.size ≤ g ∨ S g
  xw : w.heap.size ≤ X
  nl : ∀ g, lv.ownBlock = some g → g ≠ X
  nk : ∀ g, kv.ownBlock = some g → g ≠ X
section
variable {w wx wy : World} {B q mb X : Nat} {lv kv : Value} {L M K : List Cp} {x : Cp} {S : Nat → Prop}
theorem LM.drew (h : LM w wx B q mb X lv kv L M K x S) : LM w wx.drew B q mb X lv kv L M K x S := ⟨h.gr.drew, h.row, h.fr.drew, h.lt, h.ne, h.sq, h.sm, h.sk, h.xw, h.nl, h.nk⟩
theorem LM.kp (h : LM w wx B q mb X lv kv L M K x S) (k : Kp wx wy) : LM w wy B q mb X lv kv L M K x S := ⟨h.gr.kp k, h.row.kp k h.lt, h.fr.kp k, Nat.lt_of_lt_of_le h.lt k.size, h.ne, h.sq, h.sm, h.sk, h.xw, h.nl, h.nk⟩
theorem LM.alloc (h : LM w wx B q mb X lv kv L M K x S) (c : Array Value) (t : TypeId) : LM w (wx.alloc (.cells c t)) B q mb X lv kv L M K x S := h.kp (Kp.alloc wx c t)
theorem LM.nX (h : LM w wx B q mb X lv kv L M K x S) : q ≠ X ∧ mb ≠ X := ⟨fun e => h.ne (e ▸ h.sq), fun e => h.ne (e ▸ h.sm)⟩
/-- The map has turned. -/
theorem LM.map (h : LM w wx B q mb X lv kv L M K x S) {M' : List Cp} (hm : MS wy mb M') (ht : wx.mapTurned wy mb) : LM w wy B q mb X lv kv L M' K x S := by
  have ap := h.gr.apart
  have f : Fr wx wy (fun k => k = mb) := (Fr.refl wx _).turned ht (.inr rfl)
  exact ⟨⟨h.gr.blk.fr f ap.1, own_fr h.gr.list f (fun g hg e => ap.2.2.2.1 (e ▸ hg)), hm, own_fr h.gr.keys f (fun g hg e => ap.2.2.2.2.1 (e ▸ hg))⟩,
    fun i v hi => by rw [World.cell?_of_block (w := wx) (f.block X h.lt (fun e => h.nX.2 e.symm))]; exact h.row i v hi, h.fr.turned ht (.inr h.sm), Nat.lt_of_lt_of_le h.lt f.size, h.ne, h.sq, h.sm, h.sk, h.xw, h.nl, h.nk⟩
/-- The list has grown, and is laid. -/
theorem LM.list (h : LM w wx B q mb X lv kv L M K x S) (hS : ∀ g, lv.ownBlock = some g → w.heap.size ≤ g ∨ S g) {L' : List Cp} {g cap n : Nat} (ho : OwnC wy B (.slice (some ⟨g, 0, none⟩) n cap) L') (hg : wx.grownBy wy lv.ownBlock) (hat : lv.ownBlock = some g ∨ g = wx.heap.size) :
    wy.cell? ⟨q, 0, none⟩ = some lv ∧ wy.frozen? ⟨q, 0, none⟩ = false ∧ LM w (wy.setCell ⟨q, 0, none⟩ (.slice (some ⟨g, 0, none⟩) n cap)) B q mb X (.slice (some ⟨g, 0, none⟩) n cap) kv L' M K x S := by
  have ap := h.gr.apart
  have f : Fr wx wy (fun k => lv.ownBlock = some k) := (Fr.refl wx _).grown hg (fun _ e => .inr e)
  have b1 : Blk wy q 53 [lv, .map (some mb), kv] := h.gr.blk.fr f ap.2.1
  have k1 : OwnK wy B kv K := own_fr h.gr.keys f (fun k hk e => ap.2.2.2.2.2 k e hk)
  have m1 : MS wy mb M := h.gr.map.fr f ap.2.2.2.1
  have r1 : At X x.vs wy := fun i v hi => by rw [World.cell?_of_block (w := wx) (f.block X h.lt (fun e => h.nl _ e rfl))]; exact h.row i v hi
  have gq : g ≠ q := by rintro rfl; rcases hat with e | e; exact ap.2.1 e; exact Nat.ne_of_lt h.gr.q_lt e
  refine ⟨(b1.at_).out3.1, b1.frozen 0, ⟨⟨b1.set_ 0 _, own_fr ho ((Fr.refl wy (fun k => k = q)).setCell (.inr rfl) _) (fun k hk e => ?_), m1.setCell (Ne.symm ap.1) _, own_fr k1 ((Fr.refl wy (fun k => k = q)).setCell (.inr rfl) _) (fun k hk e => ap.2.2.1 (e ▸ hk))⟩, r1.set (h.nX.1) _, (h.fr.grown hg hS).setCell (.inr h.sq) _, ?_, h.ne, h.sq, h.sm, h.sk, h.xw, ?_, h.nk⟩⟩
  · have : g = k := by simpa [Value.ownBlock] using hk
    exact gq (this.trans e)
  · have := f.size; have := h.lt; simp [World.setCell]; omega
  · intro k hk
    have : g = k := by simpa [Value.ownBlock] using hk
    subst this
    rcases hat with e | e
    · exact h.nl _ e
    · have := h.lt; omega
/-- The keys have grown, and are laid. -/
theorem LM.keys (h : LM w wx B q mb X lv kv L M K x S) {K' : List Cp} {g cap n : Nat} (ho : OwnK wy B (.slice (some ⟨g, 0, none⟩) n cap) K') (hg : wx.grownBy wy kv.ownBlock) (hat : kv.ownBlock = some g ∨ g = wx.heap.size) :
    wy.cell? ⟨q, 2, none⟩ = some kv ∧ wy.frozen? ⟨q, 2, none⟩ = false ∧ Gr (wy.setCell ⟨q, 2, none⟩ (.slice (some ⟨g, 0, none⟩) n cap)) B q mb lv (.slice (some ⟨g, 0, none⟩) n cap) L M K' ∧ Fr w (wy.setCell ⟨q, 2, none⟩ (.slice (some ⟨g, 0, none⟩) n cap)) S := by
  have ap := h.gr.apart
  have f : Fr wx wy (fun k => kv.ownBlock = some k) := (Fr.refl wx _).grown hg (fun _ e => .inr e)
  have b1 : Blk wy q 53 [lv, .map (some mb), kv] := h.gr.blk.fr f ap.2.2.1
  have l1 : OwnC wy B lv L := own_fr h.gr.list f (fun k hk e => ap.2.2.2.2.2 k hk e)
  have m1 : MS wy mb M := h.gr.map.fr f ap.2.2.2.2.1
  have gq : g ≠ q := by rintro rfl; rcases hat with e | e; exact ap.2.2.1 e; exact Nat.ne_of_lt h.gr.q_lt e
  refine ⟨(b1.at_).out3.2.2, b1.frozen 2, ⟨b1.set_ 2 _, own_fr l1 ((Fr.refl wy (fun k => k = q)).setCell (.inr rfl) _) (fun k hk e => ap.2.1 (e ▸ hk)), m1.setCell (Ne.symm ap.1) _, own_fr ho ((Fr.refl wy (fun k => k = q)).setCell (.inr rfl) _) (fun k hk e => ?_)⟩, (h.fr.grown hg h.sk).setCell (.inr h.sq) _⟩
  have : g = k := by simpa [Value.ownBlock] using hk
  exact gq (this.trans e)
end
def LayP (B q mb : Nat) (lv kv : Value) (L' : List Cp) (w w' : World) : Prop := ∃ lv' kv', Gr w' B q mb lv' kv' L' L' (keysOf L') ∧ Fr w w' (GS q mb lv kv)
set_option maxHeartbeats 2000000 in
set_option maxRecDepth 100000 in
theorem glay_w (B q mb : Nat) (lv kv : Value) (L : List Cp) (x : Cp) (hx : RC x) (hl : L.length < 100000) (w : World) (hB : B ≤ w.heap.size) (hg : Gr w B q mb lv kv L L (keysOf L)) :
    Calls Try.prog 38 #[.pointer (some ⟨q, 0, none⟩), .agg #[.bool x.tg, .int .i64 x.pe, .int .i64 x.ty, .int .i64 x.mo, .int .i64 x.e, .int .i64 x.b, .int .i64 x.t, .bool x.g, .int .u64 x.a]] w fun e w' => e = .returned (.tuple #[]) ∧ LayP B q mb lv kv (addC L x) w w' := by
  obtain ⟨m, hm⟩ : ∃ m, decide (x ∈ L) = m := ⟨_, rfl⟩
  have hSX : ∀ k, GS q mb lv kv k → k < w.heap.size := by
    rintro k (rfl | rfl | h | h)
    · exact hg.q_lt
    · exact hg.map.lt
    · exact (hg.list.lt k h).2
    · exact (hg.keys.lt k h).2
  have HM := Lib.hid hm
  have HG := Lib.hid hg
  have HX := Lib.hid hx
  have HS := Lib.hid hSX
  clear hm hg hx hSX
  have l1 : Hid (LM w (w.alloc (.cells #[.bool x.tg, .int .i64 x.pe, .int .i64 x.ty, .int .i64 x.mo, .int .i64 x.e, .int .i64 x.b, .int .i64 x.t, .bool x.g, .int .u64 x.a] 25)) B q mb w.heap.size lv kv L L (keysOf L) x (GS q mb lv kv)) := Lib.hid ⟨HG.out.alloc _, At.new w x.vs _, (Fr.refl w _).alloc _, by simp, fun h => Nat.lt_irrefl _ (HS.out _ h), .inl rfl, .inr (.inl rfl), fun g hg => .inr (.inr (.inr (.inr hg))), Nat.le_refl _, fun g hg => Nat.ne_of_lt (HG.out.list.lt g hg).2, fun g hg => Nat.ne_of_lt (HG.out.keys.lt g hg).2⟩
  have hSl : Hid (∀ g, lv.ownBlock = some g → w.heap.size ≤ g ∨ GS q mb lv kv g) := Lib.hid (fun g hg => .inr (.inr (.inr (.inl hg))))
  obtain ⟨X, hX⟩ : ∃ X, w.heap.size = X := ⟨_, rfl⟩
  go_enter Try.func38, Try.ntmps38
  go_upto_region 1 with fail
  rw [hX] at l1
  go_cut [5] (fun s wx => s = .bool m ∧ LM w wx B q mb X lv kv L L (keysOf L) x (GS q mb lv kv))
  case first =>
    generalize hw1 : w.alloc (.cells #[.bool x.tg, .int .i64 x.pe, .int .i64 x.ty, .int .i64 x.mo, .int .i64 x.e, .int .i64 x.b, .int .i64 x.t, .bool x.g, .int .u64 x.a] 25) = w1 at l1 ⊢
    clear hw1
    obtain ⟨c0, c1, c2⟩ := l1.out.gr.cells
    obtain ⟨x0, x1, x2, x3, x4, x5, x6, x7, x8⟩ := l1.out.row.out9
    have E1 := l1.out.gr.map.look x HX.out m HM.out
    have E2 := (l1.out.gr.map.drew).look x HX.out m HM.out
    have E3 := (((l1.out.gr.map.alloc (.cells #[] 76))).drew).look x HX.out m HM.out
    have hX := l1.out.lt
    have hq := l1.out.gr.q_lt
    go_region
    all_goals
      go_wp2
      go_meet
      refine ⟨rfl, ?_⟩
      repeat' (first | exact l1.out | with_reducible refine LM.drew ?_ | with_reducible refine LM.alloc ?_ _ _)
  case rest =>
    obtain ⟨rfl, hl2⟩ := hcut
    cases m
    · go_upto_region 3 with fail
      obtain ⟨w2, e2, hm2, ht2⟩ := (hl2.drew.gr.map).put x HX.out (by omega)
      have l3 := Lib.hid (hl2.drew.map hm2 ht2)
      obtain ⟨c0, c1, c2⟩ := hl2.gr.cells
      obtain ⟨x0, x1, x2, x3, x4, x5, x6, x7, x8⟩ := hl2.row.out9
      clear hm2 ht2 hl2
      go_region
      go_upto_region 4 with fail
      clear c0 c1 c2 x0 x1 x2 x3 x4 x5 x6 x7 x8
      go_cut [] (fun wx => ∃ lv', LM w wx B q mb X lv' kv (L ++ [x]) (L ++ [x]) (keysOf L) x (GS q mb lv kv))
      case first =>
        obtain ⟨c0, c1, c2⟩ := l3.out.gr.cells
        obtain ⟨x0, x1, x2, x3, x4, x5, x6, x7, x8⟩ := l3.out.row.out9
        have l4 := Lib.hid (LM.drew (l3.out.alloc #[.bool x.tg, .int .i64 x.pe, .int .i64 x.ty, .int .i64 x.mo, .int .i64 x.e, .int .i64 x.b, .int .i64 x.t, .bool x.g, .int .u64 x.a] 25))
        have hX := l3.out.lt
        have hq := l3.out.gr.q_lt
        go_region_law (first | (refine app_cs rfl (.tmp 26) (.tmp 28) rfl B lv L rfl l4.out.gr.list ⟨w2.heap.size, 0, none⟩ 1 x rfl (World.news_of_block (heap_alloc_new w2 _)) (by omega) (by have := l4.out.fr.size; omega) _ rfl ?_; intro g cap w4 hown4 hg4 hat4 hlt4; obtain ⟨q0, z0, l5⟩ := l4.out.list hSl.out hown4 hg4 hat4; have L5 := Lib.hid l5; clear l5 hown4 hg4 hat4 hlt4))
        all_goals
          go_wp2
          go_meet
          exact ⟨_, L5.out⟩
      case rest =>
        obtain ⟨lv', l6'⟩ := hcut
        have l6 := Lib.hid l6'
        clear l6' l3
        obtain ⟨x0, x1, x2, x3, x4, x5, x6, x7, x8⟩ := l6.out.row.out9
        have hXlt := l6.out.lt
        have HA : Hid (addC L x = L ++ [x]) := Lib.hid (by rw [addC, if_neg (of_decide_eq_false HM.out)])
        have HK := Lib.hid (keysOf_snoc L x)
        cases hs : x.sealed <;> cases hp : hasP x.pe 256
        all_goals
          have HSE : Hid (sealedB x.ty = _) := Lib.hid hs
          have HP := Lib.hid hp
          have HR := Lib.hid (show keyR x = _ by rw [keyR, hs, hp])
          clear hs hp
        case' false.true => go_upto_region 6 with (first | (go_at_call 25; (with_reducible refine (sealed_w x.tg x.pe x.ty x.mo x.e x.b x.t x.g x.a _ HSE.out _).mono ?_); rintro e' w1 ⟨rfl, qk⟩; have HKw1 := Lib.hid qk; have qw10 : w1.cell? ⟨X, 0, none⟩ = some (.bool x.tg) := (qk.cell (p := ⟨X, 0, none⟩) (by first | (simp; done) | (simp; omega) | omega)).trans (by simp [go_sem, *]); have qw11 : w1.cell? ⟨X, 1, none⟩ = some (.int .i64 x.pe) := (qk.cell (p := ⟨X, 1, none⟩) (by first | (simp; done) | (simp; omega) | omega)).trans (by simp [go_sem, *]); have qw12 : w1.cell? ⟨X, 2, none⟩ = some (.int .i64 x.ty) := (qk.cell (p := ⟨X, 2, none⟩) (by first | (simp; done) | (simp; omega) | omega)).trans (by simp [go_sem, *]); have qw13 : w1.cell? ⟨X, 3, none⟩ = some (.int .i64 x.mo) := (qk.cell (p := ⟨X, 3, none⟩) (by first | (simp; done) | (simp; omega) | omega)).trans (by simp [go_sem, *]); have qw14 : w1.cell? ⟨X, 4, none⟩ = some (.int .i64 x.e) := (qk.cell (p := ⟨X, 4, none⟩) (by first | (simp; done) | (simp; omega) | omega)).trans (by simp [go_sem, *]); have qw15 : w1.cell? ⟨X, 5, none⟩ = some (.int .i64 x.b) := (qk.cell (p := ⟨X, 5, none⟩) (by first | (simp; done) | (simp; omega) | omega)).trans (by simp [go_sem, *]); have qw16 : w1.cell? ⟨X, 6, none⟩ = some (.int .i64 x.t) := (qk.cell (p := ⟨X, 6, none⟩) (by first | (simp; done) | (simp; omega) | omega)).trans (by simp [go_sem, *]); have qw17 : w1.cell? ⟨X, 7, none⟩ = some (.bool x.g) := (qk.cell (p := ⟨X, 7, none⟩) (by first | (simp; done) | (simp; omega) | omega)).trans (by simp [go_sem, *]); have qw18 : w1.cell? ⟨X, 8, none⟩ = some (.int .u64 x.a) := (qk.cell (p := ⟨X, 8, none⟩) (by first | (simp; done) | (simp; omega) | omega)).trans (by simp [go_sem, *]); have l7 := Lib.hid (l6.out.kp qk); have hX1 := l7.out.lt; clear qk)          | (go_at_call 49; (with_reducible refine (permits_o x 256 _ HP.out _).mono ?_); rintro e' w2 ⟨rfl, qk⟩; have HKw2 := Lib.hid qk; have qw20 : w2.cell? ⟨X, 0, none⟩ = some (.bool x.tg) := (qk.cell (p := ⟨X, 0, none⟩) (by first | (simp; done) | (simp; omega) | omega)).trans (by simp [go_sem, *]); have qw21 : w2.cell? ⟨X, 1, none⟩ = some (.int .i64 x.pe) := (qk.cell (p := ⟨X, 1, none⟩) (by first | (simp; done) | (simp; omega) | omega)).trans (by simp [go_sem, *]); have qw22 : w2.cell? ⟨X, 2, none⟩ = some (.int .i64 x.ty) := (qk.cell (p := ⟨X, 2, none⟩) (by first | (simp; done) | (simp; omega) | omega)).trans (by simp [go_sem, *]); have qw23 : w2.cell? ⟨X, 3, none⟩ = some (.int .i64 x.mo) := (qk.cell (p := ⟨X, 3, none⟩) (by first | (simp; done) | (simp; omega) | omega)).trans (by simp [go_sem, *]); have qw24 : w2.cell? ⟨X, 4, none⟩ = some (.int .i64 x.e) := (qk.cell (p := ⟨X, 4, none⟩) (by first | (simp; done) | (simp; omega) | omega)).trans (by simp [go_sem, *]); have qw25 : w2.cell? ⟨X, 5, none⟩ = some (.int .i64 x.b) := (qk.cell (p := ⟨X, 5, none⟩) (by first | (simp; done) | (simp; omega) | omega)).trans (by simp [go_sem, *]); have qw26 : w2.cell? ⟨X, 6, none⟩ = some (.int .i64 x.t) := (qk.cell (p := ⟨X, 6, none⟩) (by first | (simp; done) | (simp; omega) | omega)).trans (by simp [go_sem, *]); have qw27 : w2.cell? ⟨X, 7, none⟩ = some (.bool x.g) := (qk.cell (p := ⟨X, 7, none⟩) (by first | (simp; done) | (simp; omega) | omega)).trans (by simp [go_sem, *]); have qw28 : w2.cell? ⟨X, 8, none⟩ = some (.int .u64 x.a) := (qk.cell (p := ⟨X, 8, none⟩) (by first | (simp; done) | (simp; omega) | omega)).trans (by simp [go_sem, *]); have l8 := Lib.hid (l7.out.kp qk); have hX2 := l8.out.lt; clear qk)          )
        all_goals try go_wp2_with (first | (go_at_call 25; (with_reducible refine (sealed_w x.tg x.pe x.ty x.mo x.e x.b x.t x.g x.a _ HSE.out _).mono ?_); rintro e' w1 ⟨rfl, qk⟩; have HKw1 := Lib.hid qk; have qw10 : w1.cell? ⟨X, 0, none⟩ = some (.bool x.tg) := (qk.cell (p := ⟨X, 0, none⟩) (by first | (simp; done) | (simp; omega) | omega)).trans (by simp [go_sem, *]); have qw11 : w1.cell? ⟨X, 1, none⟩ = some (.int .i64 x.pe) := (qk.cell (p := ⟨X, 1, none⟩) (by first | (simp; done) | (simp; omega) | omega)).trans (by simp [go_sem, *]); have qw12 : w1.cell? ⟨X, 2, none⟩ = some (.int .i64 x.ty) := (qk.cell (p := ⟨X, 2, none⟩) (by first | (simp; done) | (simp; omega) | omega)).trans (by simp [go_sem, *]); have qw13 : w1.cell? ⟨X, 3, none⟩ = some (.int .i64 x.mo) := (qk.cell (p := ⟨X, 3, none⟩) (by first | (simp; done) | (simp; omega) | omega)).trans (by simp [go_sem, *]); have qw14 : w1.cell? ⟨X, 4, none⟩ = some (.int .i64 x.e) := (qk.cell (p := ⟨X, 4, none⟩) (by first | (simp; done) | (simp; omega) | omega)).trans (by simp [go_sem, *]); have qw15 : w1.cell? ⟨X, 5, none⟩ = some (.int .i64 x.b) := (qk.cell (p := ⟨X, 5, none⟩) (by first | (simp; done) | (simp; omega) | omega)).trans (by simp [go_sem, *]); have qw16 : w1.cell? ⟨X, 6, none⟩ = some (.int .i64 x.t) := (qk.cell (p := ⟨X, 6, none⟩) (by first | (simp; done) | (simp; omega) | omega)).trans (by simp [go_sem, *]); have qw17 : w1.cell? ⟨X, 7, none⟩ = some (.bool x.g) := (qk.cell (p := ⟨X, 7, none⟩) (by first | (simp; done) | (simp; omega) | omega)).trans (by simp [go_sem, *]); have qw18 : w1.cell? ⟨X, 8, none⟩ = some (.int .u64 x.a) := (qk.cell (p := ⟨X, 8, none⟩) (by first | (simp; done) | (simp; omega) | omega)).trans (by simp [go_sem, *]); have l7 := Lib.hid (l6.out.kp qk); have hX1 := l7.out.lt; clear qk)          | (go_at_call 49; (with_reducible refine (permits_o x 256 _ HP.out _).mono ?_); rintro e' w2 ⟨rfl, qk⟩; have HKw2 := Lib.hid qk; have qw20 : w2.cell? ⟨X, 0, none⟩ = some (.bool x.tg) := (qk.cell (p := ⟨X, 0, none⟩) (by first | (simp; done) | (simp; omega) | omega)).trans (by simp [go_sem, *]); have qw21 : w2.cell? ⟨X, 1, none⟩ = some (.int .i64 x.pe) := (qk.cell (p := ⟨X, 1, none⟩) (by first | (simp; done) | (simp; omega) | omega)).trans (by simp [go_sem, *]); have qw22 : w2.cell? ⟨X, 2, none⟩ = some (.int .i64 x.ty) := (qk.cell (p := ⟨X, 2, none⟩) (by first | (simp; done) | (simp; omega) | omega)).trans (by simp [go_sem, *]); have qw23 : w2.cell? ⟨X, 3, none⟩ = some (.int .i64 x.mo) := (qk.cell (p := ⟨X, 3, none⟩) (by first | (simp; done) | (simp; omega) | omega)).trans (by simp [go_sem, *]); have qw24 : w2.cell? ⟨X, 4, none⟩ = some (.int .i64 x.e) := (qk.cell (p := ⟨X, 4, none⟩) (by first | (simp; done) | (simp; omega) | omega)).trans (by simp [go_sem, *]); have qw25 : w2.cell? ⟨X, 5, none⟩ = some (.int .i64 x.b) := (qk.cell (p := ⟨X, 5, none⟩) (by first | (simp; done) | (simp; omega) | omega)).trans (by simp [go_sem, *]); have qw26 : w2.cell? ⟨X, 6, none⟩ = some (.int .i64 x.t) := (qk.cell (p := ⟨X, 6, none⟩) (by first | (simp; done) | (simp; omega) | omega)).trans (by simp [go_sem, *]); have qw27 : w2.cell? ⟨X, 7, none⟩ = some (.bool x.g) := (qk.cell (p := ⟨X, 7, none⟩) (by first | (simp; done) | (simp; omega) | omega)).trans (by simp [go_sem, *]); have qw28 : w2.cell? ⟨X, 8, none⟩ = some (.int .u64 x.a) := (qk.cell (p := ⟨X, 8, none⟩) (by first | (simp; done) | (simp; omega) | omega)).trans (by simp [go_sem, *]); have l8 := Lib.hid (l7.out.kp qk); have hX2 := l8.out.lt; clear qk)          )
        case false.true =>
          obtain ⟨c0, c1, c2⟩ := l8.out.gr.cells
          obtain ⟨x0, x1, x2, x3, x4, x5, x6, x7, x8⟩ := l8.out.row.out9
          have hq := l8.out.gr.q_lt
          have HF := Lib.hid HX.out.f
          go_region_law (first
            | (refine app_ks rfl (.tmp 43) (.tmp 46) rfl B kv (keysOf L) rfl l10.out.gr.keys ⟨w3.heap.size, 0, none⟩ 1 x rfl (World.news_of_block (heap_alloc_new w3 _)) (by have := keysOf_len L; omega) (by have := l10.out.fr.size; omega) _ rfl ?_; intro g cap w4 hown4 hg4 hat4 hlt4; obtain ⟨q0, z0, l11⟩ := l10.out.keys hown4 hg4 hat4; have L11 := Lib.hid l11; clear l11 hown4 hg4 hat4 hlt4)
            | (go_simp; go_at_call 63; (with_reducible refine (of_c x.tg x.pe x.ty x.mo x.e x.b x.t x.g x.a HF.out _).mono ?_); rintro e' w3 ⟨rfl, qk⟩; have l9 := Lib.hid (l8.out.drew.kp qk); have l10 := Lib.hid (l9.out.alloc #[.int .u64 (ofB x.e x.b x.a), .int .u64 (ofT x.e x.b x.t x.g x.a), .bool (ofO x.e x.b x.t x.g x.a)] 66); obtain ⟨d0, d1, d2⟩ := l9.out.gr.cells; have hq3 := l9.out.gr.q_lt; clear qk))
          all_goals
            go_wp2
            refine bodyPost_end (v := .tuple #[]) (by simp [results, Try.results38, go_sem]) rfl ⟨rfl, ?_⟩
            unfold LayP
            rw [HA.out, HK.out, if_pos (show keyR x = true from HR.out)]
            exact ⟨_, _, L11.out.1, L11.out.2⟩
        all_goals
          refine bodyPost_end (v := .tuple #[]) (by simp [results, Try.results38, go_sem]) rfl ⟨rfl, ?_⟩
          unfold LayP
          rw [HA.out, HK.out, if_neg (by rw [HR.out]; decide)]
          first | exact ⟨_, _, l8.out.gr, l8.out.fr⟩ | exact ⟨_, _, l7.out.gr, l7.out.fr⟩
    · go_wp2
      refine bodyPost_ret (v := .tuple #[]) (by simp [results, Try.results38, go_sem]) rfl ⟨rfl, lv, kv, ?_, hl2.fr⟩
      rw [addC, if_pos (of_decide_eq_true HM.out)]
      exact hl2.gr
end Go.Proofs.Ytmehbildddlgaaa
