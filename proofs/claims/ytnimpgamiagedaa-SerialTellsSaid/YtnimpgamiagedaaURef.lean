/-
  The document's UART: a row of bytes of its own, two cells; its switch. No condition.
-/
import Derived.Test.YtnimpgamiagedaaUSpec
import Derived.Test.YtnimpgamiagedaaUBytes
import Derived.StillTailTactics
namespace Go.Proofs.Ytnimpgamiagedaa
open Go.ChangeShapes Go.WideShapes Go.ChangeAt Go.RowKit
set_option linter.unusedVariables false
set_option linter.unusedSimpArgs false
/-- The document's: a slice of bytes, whose row stands from B on; whether it is enabled; the byte that was told. -/
structure RU (w : World) (B g : Nat) (v : Value) (S : US) : Prop where
  lt : g < w.heap.size
  gB : g < B
  fz : ∀ j, w.frozen? ⟨g, j, none⟩ = false
  c0 : w.cell? ⟨g, 0, none⟩ = some v
  c1 : w.cell? ⟨g, 1, none⟩ = some (.bool S.en)
  c2 : w.cell? ⟨g, 2, none⟩ = some (.int .i64 S.told)
  own : OwnB w B v S.l
theorem RU.fr {w w' : World} {B g : Nat} {v : Value} {S : US} {T : Nat → Prop} (m : RU w B g v S) (k : Fr w w' T) (h : ¬ T g) (hv : ∀ i, v.ownBlock = some i → ¬ T i) : RU w' B g v S := by
  have e := k.block g m.lt h
  have c : ∀ j, w'.cell? ⟨g, j, none⟩ = w.cell? ⟨g, j, none⟩ := fun j => World.cell?_of_block e
  exact ⟨Nat.lt_of_lt_of_le m.lt k.size, m.gB, fun j => (World.frozen?_of_block (a := ⟨g, j, none⟩) e).trans (m.fz j), (c _).trans m.c0, (c _).trans m.c1, (c _).trans m.c2, m.own.fr k hv⟩
theorem RU.below {w w' : World} {B g : Nat} {v : Value} {S : US} (m : RU w B g v S) (k : Below w.heap.size w w') : RU w' B g v S := m.fr ((Fr.refl w (fun _ => False)).below k (fun _ hi _ => hi)) id (fun _ _ h => h)
theorem RU.kp {w w' : World} {B g : Nat} {v : Value} {S : US} (m : RU w B g v S) (k : Kp w w') : RU w' B g v S := m.below k.1
theorem RU.blk {w : World} {B g : Nat} {v : Value} {S : US} (m : RU w B g v S) {i : Nat} (e : v.ownBlock = some i) : B ≤ i ∧ i < w.heap.size := m.own.blk e
theorem cell_othU {w : World} {g i j : Nat} {u : Value} {v : Option Value} (h : w.cell? ⟨g, i, none⟩ = v) (e : i ≠ j) : (w.setCell ⟨g, j, none⟩ u).cell? ⟨g, i, none⟩ = v := by
  rw [World.cell?_setCell_other w ⟨g, j, none⟩ ⟨g, i, none⟩ u (fun x => e (by cases x; rfl))]; exact h
theorem cell_selfU {w : World} {g i : Nat} {u v : Value} (h : w.cell? ⟨g, i, none⟩ = some v) : (w.setCell ⟨g, i, none⟩ u).cell? ⟨g, i, none⟩ = some u := by simp [go_sem, h]
theorem fr_set (w : World) (g j : Nat) (u : Value) : Fr w (w.setCell ⟨g, j, none⟩ u) (fun i => i = g) := (Fr.refl w (fun i => i = g)).setCell (p := ⟨g, j, none⟩) (.inr rfl) u
theorem RU.row {w : World} {B g : Nat} {v : Value} {S : US} (m : RU w B g v S) (j : Nat) (u : Value) : OwnB (w.setCell ⟨g, j, none⟩ u) B v S.l := m.own.fr (fr_set w g j u) (fun i e h => by have := (m.blk e).1; have := m.gB; omega)
theorem RU.set1 {w : World} {B g : Nat} {v : Value} {S : US} (m : RU w B g v S) (x : Bool) : RU (w.setCell ⟨g, 1, none⟩ (.bool x)) B g v { S with en := x } :=
  ⟨by simpa [World.setCell] using m.lt, m.gB, fun j => by rw [World.frozen?_setCell]; exact m.fz j, cell_othU m.c0 (by decide), cell_selfU m.c1, cell_othU m.c2 (by decide), m.row 1 _⟩
theorem RU.set2 {w : World} {B g : Nat} {v : Value} {S : US} (m : RU w B g v S) (x : Int) : RU (w.setCell ⟨g, 2, none⟩ (.int .i64 x)) B g v { S with told := x } :=
  ⟨by simpa [World.setCell] using m.lt, m.gB, fun j => by rw [World.frozen?_setCell]; exact m.fz j, cell_othU m.c0 (by decide), cell_othU m.c1 (by decide), cell_selfU m.c2, m.row 2 _⟩
/-- Another row. -/
theorem RU.set0 {w : World} {B g : Nat} {v v' : Value} {S : US} {l : List Int} (hlt : g < w.heap.size) (gB : g < B) (fz : ∀ j, w.frozen? ⟨g, j, none⟩ = false) (c0 : w.cell? ⟨g, 0, none⟩ = some v) (c1 : w.cell? ⟨g, 1, none⟩ = some (.bool S.en)) (c2 : w.cell? ⟨g, 2, none⟩ = some (.int .i64 S.told)) (own : OwnB w B v' l) : RU (w.setCell ⟨g, 0, none⟩ v') B g v' { S with l := l } :=
  ⟨by simpa [World.setCell] using hlt, gB, fun j => by rw [World.frozen?_setCell]; exact fz j, cell_selfU c0, cell_othU c1 (by decide), cell_othU c2 (by decide), own.fr (fr_set w g 0 v') (fun i e h => by have := (own.blk e).1; omega)⟩
set_option maxHeartbeats 4000000 in
theorem runew_w (w : World) : Calls Try.prog 10 #[] w fun e w' => ∃ g, e = .returned (.pointer (some ⟨g, 0, none⟩)) ∧ (∀ B, g < B → RU w' B g (.slice none 0 0) US.new) ∧ Below w.heap.size w w' ∧ w.heap.size ≤ g := by
  go_enter Try.func10, Try.ntmps10
  go_wp2
  have b := Blk.new w 57 [.slice none 0 0, .bool false, .int .i64 (-1)]
  have a := b.at_
  refine bodyPost_ret (v := .pointer (some ⟨w.heap.size, 0, none⟩)) ?_ rfl ⟨_, rfl, fun B hB => ⟨b.lt, hB, b.frozen, a 0 _ rfl, a 1 _ rfl, a 2 _ rfl, OwnB.nil _ _⟩, (Below.refl _ w).alloc (Nat.le_refl _) _, Nat.le_refl _⟩
  simp [results, Try.results10, go_sem]
theorem ruwaits_w {w : World} {B g : Nat} {v : Value} {S : US} (m : RU w B g v S) : Calls Try.prog 26 #[.pointer (some ⟨g, 0, none⟩)] w fun e w' => e = .returned (.int .i64 (S.l.length : Int)) ∧ Kp w w' := by
  have c0 := m.c0
  obtain ⟨A, n, rfl⟩ := m.own.len_v
  go_enter Try.func26, Try.ntmps26
  go_wp2
  go_ret
  exact ⟨rfl, Kp.refl w⟩
theorem ruout_w {w : World} {B g : Nat} {v : Value} {S : US} (m : RU w B g v S) : Calls Try.prog 16 #[.pointer (some ⟨g, 0, none⟩)] w fun e w' => e = .returned (.int .i64 S.told) ∧ RU w' B g v S.out ∧ Fr w w' (fun i => i = g ∨ v.ownBlock = some i) := by
  have c2 := m.c2
  have z2 := m.fz 2
  have HS := Lib.hid (m.set2 (-1))
  go_enter Try.func16, Try.ntmps16
  go_wp2
  go_ret
  exact ⟨rfl, HS.out, (fr_set w g 2 _).mono (fun i _ h => .inl h)⟩
/-- The UART's cells through a growth of its row. -/
theorem ru_row {w w7 : World} {B g : Nat} {v : Value} {S : US} {x : Obj} (m : RU w B g v S) (k : (w.alloc x).grownBy w7 v.ownBlock) : w7.cell? ⟨g, 0, none⟩ = some v ∧ w7.cell? ⟨g, 1, none⟩ = some (.bool S.en) ∧ w7.cell? ⟨g, 2, none⟩ = some (.int .i64 S.told) ∧ ∀ j, w7.frozen? ⟨g, j, none⟩ = false := by
  have f : Fr w w7 (fun i => v.ownBlock = some i) := ((Fr.refl w (fun i => v.ownBlock = some i)).alloc x).grown k (fun g h => .inr h)
  have e := f.block g m.lt (fun h => by have := (m.blk h).1; have := m.gB; omega)
  have c : ∀ j, w7.cell? ⟨g, j, none⟩ = w.cell? ⟨g, j, none⟩ := fun j => World.cell?_of_block e
  exact ⟨(c _).trans m.c0, (c _).trans m.c1, (c _).trans m.c2, fun j => (World.frozen?_of_block (a := ⟨g, j, none⟩) e).trans (m.fz j)⟩
set_option maxHeartbeats 4000000 in
theorem ruin_w {w : World} {B g : Nat} {v : Value} {S : US} (m : RU w B g v S) (ok : S.Ok) (hB : B ≤ w.heap.size) (b : Int) (b0 : 0 ≤ b) (b1 : b < 256) : Calls Try.prog 14 #[.pointer (some ⟨g, 0, none⟩), .int .u8 b] w fun e w' => e = .returned (.bool S.inO) ∧ (∃ v', RU w' B g v' (S.inp b) ∧ ∀ i, v'.ownBlock = some i → v.ownBlock = some i ∨ w.heap.size ≤ i) ∧ Fr w w' (fun i => i = g ∨ v.ownBlock = some i) := by
  have c0 := m.c0
  have z0 := m.fz 0
  have HM := Lib.hid m
  have hlen := ok.len
  have hg := m.lt
  obtain ⟨A, n, rfl⟩ := m.own.len_v
  clear m
  unfold US.inO US.inp
  by_cases h : S.l.length < 16
  · rw [if_pos h]
    have t : decide (16 ≤ (S.l.length : Int)) = false := by simp; omega
    have t2 : decide (S.l.length < 16) = true := by simpa using h
    rw [t2]
    clear t2
    go_enter Try.func14, Try.ntmps14
    go_wp2_with (at_builtin; refine app_b rfl (.tmp 15) (.tmp 17) rfl B _ _ rfl (HM.out.own.below ((Below.refl _ w).alloc (Nat.le_refl _) _)) ⟨w.heap.size, 0, none⟩ 1 b rfl (by simp [go_sem]) (by omega) (by simp; omega) (w.heap.size + 1) (by simp) ?_; intro gg cap w7 hown hgr hat hlt7; have HO7 := Lib.hid hown; have HG7 := Lib.hid hgr; have HT7 := Lib.hid hat; have HC7 := Lib.hid (ru_row HM.out hgr); have d0 := HC7.out.1; have y0 := HC7.out.2.2.2 0; clear hown hgr hat)
    go_ret
    refine ⟨rfl, ⟨_, RU.set0 (by have := HG7.out.size; simp at this; omega) HM.out.gB HC7.out.2.2.2 HC7.out.1 HC7.out.2.1 HC7.out.2.2.1 HO7.out, fun i e => ?_⟩, ?_⟩
    · have e' : gg = i := by simpa [Value.ownBlock] using e
      subst e'
      rcases HT7.out with x | x
      · exact .inl x
      · exact .inr (by omega)
    · exact ((((Fr.refl w (fun i => i = g ∨ (Value.slice A S.l.length n).ownBlock = some i)).alloc _).grown HG7.out (fun g h => .inr (.inr h)))).setCell (p := ⟨g, 0, none⟩) (.inr (.inl rfl)) _
  · rw [if_neg h]
    have t : decide (16 ≤ (S.l.length : Int)) = true := by simp; omega
    have t2 : decide (S.l.length < 16) = false := by simpa using h
    rw [t2]
    clear t2
    go_enter Try.func14, Try.ntmps14
    go_wp2
    go_ret
    exact ⟨rfl, ⟨_, HM.out, fun i e => .inl e⟩, Fr.refl _ _⟩
set_option maxHeartbeats 8000000 in
theorem ruload_0 {w : World} {B g : Nat} {v : Value} {S : US} (m : RU w B g v S) (ok : S.Ok) (hB : B ≤ w.heap.size) : Calls Try.prog 18 #[.pointer (some ⟨g, 0, none⟩), .int .i64 0, .int .i64 1] w fun e w' => e = .returned (.tuple #[.int .u64 (S.l.headD 0), .bool true]) ∧ (∃ v', RU w' B g v' { S with l := S.l.tail } ∧ ∀ i, v'.ownBlock = some i → v.ownBlock = some i ∨ w.heap.size ≤ i) ∧ Fr w w' (fun i => i = g ∨ v.ownBlock = some i) := by
  have hlen := ok.len
  have hh := ok.head_bd
  clear ok
  obtain ⟨l, en, told⟩ := S
  dsimp only at hlen hh ⊢
  have c0 := m.c0
  have z0 := m.fz 0
  have HM := Lib.hid m
  have hg := m.lt
  cases l with
  | nil =>
    obtain ⟨A, n, rfl⟩ := m.own.len_v
    clear m
    go_enter Try.func18, Try.ntmps18
    go_wp2
    go_ret2
    exact ⟨rfl, ⟨_, HM.out, fun i e => .inl e⟩, Fr.refl _ _⟩
  | cons x r =>
    obtain ⟨A, cap, rfl, hcap, hr⟩ := m.own.rd
    obtain ⟨gb, rfl, hgb, cx⟩ := hr 0 x rfl
    have HR := Lib.hid hr
    have hx0 : 0 ≤ x := hh.1
    have hx1 : x < 256 := hh.2
    have hl1 : (0 : Int) < (((x :: r).length : Nat) : Int) := by simp
    obtain ⟨n, hn⟩ : ∃ n, (x :: r).length = n := ⟨_, rfl⟩
    have hrn : r.length + 1 = n := by rw [← hn]; rfl
    have HN := Lib.hid hn
    rw [hn] at c0 hl1 hlen
    dsimp only [List.headD_cons, List.tail_cons]
    clear m hr hh hcap hn
    go_enter Try.func18, Try.ntmps18
    go_wp2
    go_loopw [9, 10] (fun lv i wr => ∃ k : Nat, 1 ≤ k ∧ k ≤ n ∧ i = .int .i64 (k : Int) ∧ OwnB wr w.heap.size lv (r.take (k - 1)) ∧ Below w.heap.size w wr) (fun _ i _ => n - (intOf i).toNat)
    case atStart => exact ⟨1, by omega, by omega, rfl, OwnB.nil _ _, Below.refl _ _⟩
    case round =>
      obtain ⟨k, hk1, hk, rfl, ho, hkp⟩ := hrel
      have HO := Lib.hid ho
      have HK := Lib.hid hkp
      have hsz := hkp.size
      have d0 := (hkp.cell (p := ⟨g, 0, none⟩) hg).trans c0
      obtain ⟨A', cap', hsh, hcap'⟩ := ho.shape
      subst hsh
      clear ho hkp
      by_cases hlt : k < n
      · obtain ⟨y, hy⟩ : ∃ y, (x :: r)[k]? = some y := ⟨_, List.getElem?_eq_getElem (by rw [HN.out]; exact hlt)⟩
        obtain ⟨gb', egb, hgb', cy⟩ := HR.out k y hy
        have egb2 : gb = gb' := by cases egb; rfl
        subst egb2
        have dy := (HK.out.cell (p := ⟨gb, k, none⟩) hgb').trans cy
        have ht : r.take (k - 1) ++ [y] = r.take k := by
          have : r[k - 1]? = some y := by rw [← hy]; cases k with
            | zero => omega
            | succ k => simp
          rw [show k = (k - 1) + 1 by omega, List.take_add_one, this, show k - 1 + 1 - 1 = k - 1 by omega]; rfl
        have hll : (r.take (k - 1)).length = k - 1 := by rw [List.length_take]; omega
        have HT := Lib.hid ht
        clear ht hy cy egb
        go_wp2_with (at_builtin; refine app_b rfl (.tmp 46) (.tmp 54) rfl w.heap.size _ _ rfl (HO.out.below ((Below.refl _ wr).alloc (Nat.le_refl _) _)) ⟨wr.heap.size, 0, none⟩ 1 y rfl (by simp [go_sem]) (by omega) (by simp; omega) (wr.heap.size + 1) (by simp) ?_; intro gg cap2 w7 hown hgr hat hlt7; have HO7 := Lib.hid hown; have HG7 := Lib.hid hgr; clear hown hgr hat)
        go_roundw
        case rel => exact ⟨k + 1, by omega, by omega, by go_num, by have h := HO7.out; rw [show (r.take (k - 1)).length + 1 = k by rw [List.length_take]; omega, HT.out] at h; rw [show k + 1 - 1 = k by omega]; exact h, (HK.out.alloc hsz _).grown HG7.out (by simp; omega) (fun b hb => (HO.out.blk hb).1)⟩
        case measure => simp [intOf]; omega
      · obtain rfl : k = n := by omega
        have z0' : wr.frozen? ⟨g, 0, none⟩ = false := (World.frozen?_of_block (a := ⟨g, 0, none⟩) (HK.out.block g hg)).trans z0
        have HB := Lib.hid (HM.out.below HK.out)
        have ht : r.take (k - 1) = r := List.take_of_length_le (by omega)
        rw [ht] at HO
        rw [ht]
        clear ht
        go_wp2
        go_ret2
        refine ⟨rfl, ⟨_, RU.set0 HB.out.lt HB.out.gB HB.out.fz HB.out.c0 HB.out.c1 HB.out.c2 (HO.out.mono (by omega)), fun i e => .inr (HO.out.blk e).1⟩, ?_⟩
        exact (((Fr.refl w (fun i => i = g ∨ (Value.slice (some ⟨gb, 0, none⟩) (x :: r).length cap).ownBlock = some i)).below HK.out (fun _ h _ => h)).setCell (p := ⟨g, 0, none⟩) (.inr (.inl rfl)) _)
set_option maxHeartbeats 4000000 in
theorem ruload_1 {w : World} {B g : Nat} {v : Value} {S : US} (m : RU w B g v S) : Calls Try.prog 18 #[.pointer (some ⟨g, 0, none⟩), .int .i64 1, .int .i64 1] w fun e w' => e = .returned (.tuple #[.int .u64 (if S.en = true then 1 else 0), .bool true]) ∧ (∃ v', RU w' B g v' S ∧ ∀ i, v'.ownBlock = some i → v.ownBlock = some i ∨ w.heap.size ≤ i) ∧ Fr w w' (fun i => i = g ∨ v.ownBlock = some i) := by
  have c1 := m.c1
  have HM := Lib.hid m
  cases he : S.en
  all_goals
    rw [he] at c1
    clear m he
    go_enter Try.func18, Try.ntmps18
    go_wp2
    go_ret2
    exact ⟨rfl, ⟨_, HM.out, fun i e => .inl e⟩, Fr.refl _ _⟩
set_option maxHeartbeats 4000000 in
theorem ruload_2 {w : World} {B g : Nat} {v : Value} {S : US} (m : RU w B g v S) : Calls Try.prog 18 #[.pointer (some ⟨g, 0, none⟩), .int .i64 2, .int .i64 1] w fun e w' => e = .returned (.tuple #[.int .u64 (0), .bool true]) ∧ (∃ v', RU w' B g v' S ∧ ∀ i, v'.ownBlock = some i → v.ownBlock = some i ∨ w.heap.size ≤ i) ∧ Fr w w' (fun i => i = g ∨ v.ownBlock = some i) := by
  have HM := Lib.hid m
  clear m
  go_enter Try.func18, Try.ntmps18
  go_wp2
  go_ret2
  exact ⟨rfl, ⟨_, HM.out, fun i e => .inl e⟩, Fr.refl _ _⟩
set_option maxHeartbeats 4000000 in
theorem ruload_3 {w : World} {B g : Nat} {v : Value} {S : US} (m : RU w B g v S) : Calls Try.prog 18 #[.pointer (some ⟨g, 0, none⟩), .int .i64 3, .int .i64 1] w fun e w' => e = .returned (.tuple #[.int .u64 (0), .bool true]) ∧ (∃ v', RU w' B g v' S ∧ ∀ i, v'.ownBlock = some i → v.ownBlock = some i ∨ w.heap.size ≤ i) ∧ Fr w w' (fun i => i = g ∨ v.ownBlock = some i) := by
  have HM := Lib.hid m
  clear m
  go_enter Try.func18, Try.ntmps18
  go_wp2
  go_ret2
  exact ⟨rfl, ⟨_, HM.out, fun i e => .inl e⟩, Fr.refl _ _⟩
set_option maxHeartbeats 4000000 in
theorem ruload_4 {w : World} {B g : Nat} {v : Value} {S : US} (m : RU w B g v S) : Calls Try.prog 18 #[.pointer (some ⟨g, 0, none⟩), .int .i64 4, .int .i64 1] w fun e w' => e = .returned (.tuple #[.int .u64 (0), .bool true]) ∧ (∃ v', RU w' B g v' S ∧ ∀ i, v'.ownBlock = some i → v.ownBlock = some i ∨ w.heap.size ≤ i) ∧ Fr w w' (fun i => i = g ∨ v.ownBlock = some i) := by
  have HM := Lib.hid m
  clear m
  go_enter Try.func18, Try.ntmps18
  go_wp2
  go_ret2
  exact ⟨rfl, ⟨_, HM.out, fun i e => .inl e⟩, Fr.refl _ _⟩
set_option maxHeartbeats 4000000 in
theorem ruload_5 {w : World} {B g : Nat} {v : Value} {S : US} (m : RU w B g v S) : Calls Try.prog 18 #[.pointer (some ⟨g, 0, none⟩), .int .i64 5, .int .i64 1] w fun e w' => e = .returned (.tuple #[.int .u64 (if S.l = [] then 96 else 97), .bool true]) ∧ (∃ v', RU w' B g v' S ∧ ∀ i, v'.ownBlock = some i → v.ownBlock = some i ∨ w.heap.size ≤ i) ∧ Fr w w' (fun i => i = g ∨ v.ownBlock = some i) := by
  have c0 := m.c0
  have HM := Lib.hid m
  obtain ⟨A, n, rfl⟩ := m.own.len_v
  clear m
  by_cases h : S.l = []
  · rw [if_pos h]
    have e0 : (S.l.length : Int) = 0 := by rw [h]; rfl
    have e1 : S.l.length = 0 := by rw [h]; rfl
    rw [e1] at c0
    clear h e0
    go_enter Try.func18, Try.ntmps18
    go_wp2
    go_ret2
    exact ⟨rfl, ⟨_, HM.out, fun i e => .inl e⟩, Fr.refl _ _⟩
  · rw [if_neg h]
    have e0 : 0 < S.l.length := List.length_pos_iff.2 h
    have e1 : decide ((0 : Int) < (S.l.length : Int)) = true := by simp; omega
    clear h
    go_enter Try.func18, Try.ntmps18
    go_wp2
    go_ret2
    exact ⟨rfl, ⟨_, HM.out, fun i e => .inl e⟩, Fr.refl _ _⟩
set_option maxHeartbeats 4000000 in
theorem ruload_6 {w : World} {B g : Nat} {v : Value} {S : US} (m : RU w B g v S) : Calls Try.prog 18 #[.pointer (some ⟨g, 0, none⟩), .int .i64 6, .int .i64 1] w fun e w' => e = .returned (.tuple #[.int .u64 (0), .bool true]) ∧ (∃ v', RU w' B g v' S ∧ ∀ i, v'.ownBlock = some i → v.ownBlock = some i ∨ w.heap.size ≤ i) ∧ Fr w w' (fun i => i = g ∨ v.ownBlock = some i) := by
  have HM := Lib.hid m
  clear m
  go_enter Try.func18, Try.ntmps18
  go_wp2
  go_ret2
  exact ⟨rfl, ⟨_, HM.out, fun i e => .inl e⟩, Fr.refl _ _⟩
set_option maxHeartbeats 4000000 in
theorem ruload_7 {w : World} {B g : Nat} {v : Value} {S : US} (m : RU w B g v S) : Calls Try.prog 18 #[.pointer (some ⟨g, 0, none⟩), .int .i64 7, .int .i64 1] w fun e w' => e = .returned (.tuple #[.int .u64 (0), .bool true]) ∧ (∃ v', RU w' B g v' S ∧ ∀ i, v'.ownBlock = some i → v.ownBlock = some i ∨ w.heap.size ≤ i) ∧ Fr w w' (fun i => i = g ∨ v.ownBlock = some i) := by
  have HM := Lib.hid m
  clear m
  go_enter Try.func18, Try.ntmps18
  go_wp2
  go_ret2
  exact ⟨rfl, ⟨_, HM.out, fun i e => .inl e⟩, Fr.refl _ _⟩
set_option maxHeartbeats 4000000 in
theorem ruload_no (w : World) (g : Nat) (off size : Int) (h : rgU off size = false) : Calls Try.prog 18 #[.pointer (some ⟨g, 0, none⟩), .int .i64 off, .int .i64 size] w fun e w' => e = .returned (.tuple #[.int .u64 0, .bool false]) ∧ Kp w w' := by
  rcases rgU_no h with a0 | ⟨rfl, a0⟩ | ⟨rfl, a0, a1⟩
  · have a2 : (size != 1) = true := by simpa using a0
    clear h
    go_enter Try.func18, Try.ntmps18
    go_wp2
    go_ret2
    exact ⟨rfl, Kp.refl w⟩
  all_goals
    clear h
    go_enter Try.func18, Try.ntmps18
    go_wp2
    go_ret2
    exact ⟨rfl, Kp.refl w⟩
theorem ruload_w {w : World} {B g : Nat} {v : Value} {S : US} (m : RU w B g v S) (ok : S.Ok) (hB : B ≤ w.heap.size) (off size : Int) : Calls Try.prog 18 #[.pointer (some ⟨g, 0, none⟩), .int .i64 off, .int .i64 size] w fun e w' => e = .returned (.tuple #[.int .u64 (S.ldV off size), .bool (rgU off size)]) ∧ (∃ v', RU w' B g v' (S.ldS off size) ∧ ∀ i, v'.ownBlock = some i → v.ownBlock = some i ∨ w.heap.size ≤ i) ∧ Fr w w' (fun i => i = g ∨ v.ownBlock = some i) := by
  cases h : rgU off size with
  | true =>
    obtain ⟨rfl, hh⟩ := rgU_yes h
    rw [US.ldV, h, if_pos rfl]
    rcases hh with rfl | rfl | rfl | rfl | rfl | rfl | rfl | rfl
    · rw [show S.ldS 0 1 = { S with l := S.l.tail } from rfl]; exact ruload_0 m ok hB
    · rw [show S.ldS 1 1 = S from rfl]; exact ruload_1 m
    · rw [show S.ldS 2 1 = S from rfl]; exact ruload_2 m
    · rw [show S.ldS 3 1 = S from rfl]; exact ruload_3 m
    · rw [show S.ldS 4 1 = S from rfl]; exact ruload_4 m
    · rw [show S.ldS 5 1 = S from rfl]; exact ruload_5 m
    · rw [show S.ldS 6 1 = S from rfl]; exact ruload_6 m
    · rw [show S.ldS 7 1 = S from rfl]; exact ruload_7 m
  | false =>
    rw [US.ldV, US.ldS, h, if_neg (by decide), if_neg (by simp)]
    exact (ruload_no w g off size h).mono fun e w' x => ⟨x.1, ⟨v, m.kp x.2, fun i e => .inl e⟩, Fr.of_kp x.2 _⟩
set_option maxHeartbeats 4000000 in
theorem rustore_0 {w : World} {B g : Nat} {v : Value} {S : US} (m : RU w B g v S) (x : Int) (x0 : 0 ≤ x) (x1 : x < 18446744073709551616) : Calls Try.prog 20 #[.pointer (some ⟨g, 0, none⟩), .int .i64 0, .int .i64 1, .int .u64 x] w fun e w' => e = .returned (.bool true) ∧ RU w' B g v { S with told := x % 256 } ∧ Fr w w' (fun i => i = g ∨ v.ownBlock = some i) := by
  have c2 := m.c2
  have z2 := m.fz 2
  have HM := Lib.hid m
  clear m
  go_enter Try.func20, Try.ntmps20
  go_wp2
  go_ret
  exact ⟨rfl, HM.out.set2 _, (fr_set w g 2 _).mono (fun i _ h => .inl h)⟩
set_option maxHeartbeats 4000000 in
theorem rustore_1 {w : World} {B g : Nat} {v : Value} {S : US} (m : RU w B g v S) (x : Int) (x0 : 0 ≤ x) (x1 : x < 18446744073709551616) : Calls Try.prog 20 #[.pointer (some ⟨g, 0, none⟩), .int .i64 1, .int .i64 1, .int .u64 x] w fun e w' => e = .returned (.bool true) ∧ RU w' B g v { S with en := x % 2 == 1 } ∧ Fr w w' (fun i => i = g ∨ v.ownBlock = some i) := by
  have c1 := m.c1
  have z1 := m.fz 1
  have HM := Lib.hid m
  clear m
  go_enter Try.func20, Try.ntmps20
  go_wp2
  go_ret
  exact ⟨rfl, HM.out.set1 _, (fr_set w g 1 _).mono (fun i _ h => .inl h)⟩
set_option maxHeartbeats 4000000 in
theorem rustore_2 {w : World} {B g : Nat} {v : Value} {S : US} (m : RU w B g v S) (x : Int) (x0 : 0 ≤ x) (x1 : x < 18446744073709551616) : Calls Try.prog 20 #[.pointer (some ⟨g, 0, none⟩), .int .i64 2, .int .i64 1, .int .u64 x] w fun e w' => e = .returned (.bool true) ∧ RU w' B g v S ∧ Fr w w' (fun i => i = g ∨ v.ownBlock = some i) := by
  have HM := Lib.hid m
  clear m
  go_enter Try.func20, Try.ntmps20
  go_wp2
  go_ret
  exact ⟨rfl, HM.out, Fr.refl _ _⟩
set_option maxHeartbeats 4000000 in
theorem rustore_3 {w : World} {B g : Nat} {v : Value} {S : US} (m : RU w B g v S) (x : Int) (x0 : 0 ≤ x) (x1 : x < 18446744073709551616) : Calls Try.prog 20 #[.pointer (some ⟨g, 0, none⟩), .int .i64 3, .int .i64 1, .int .u64 x] w fun e w' => e = .returned (.bool true) ∧ RU w' B g v S ∧ Fr w w' (fun i => i = g ∨ v.ownBlock = some i) := by
  have HM := Lib.hid m
  clear m
  go_enter Try.func20, Try.ntmps20
  go_wp2
  go_ret
  exact ⟨rfl, HM.out, Fr.refl _ _⟩
set_option maxHeartbeats 4000000 in
theorem rustore_4 {w : World} {B g : Nat} {v : Value} {S : US} (m : RU w B g v S) (x : Int) (x0 : 0 ≤ x) (x1 : x < 18446744073709551616) : Calls Try.prog 20 #[.pointer (some ⟨g, 0, none⟩), .int .i64 4, .int .i64 1, .int .u64 x] w fun e w' => e = .returned (.bool true) ∧ RU w' B g v S ∧ Fr w w' (fun i => i = g ∨ v.ownBlock = some i) := by
  have HM := Lib.hid m
  clear m
  go_enter Try.func20, Try.ntmps20
  go_wp2
  go_ret
  exact ⟨rfl, HM.out, Fr.refl _ _⟩
set_option maxHeartbeats 4000000 in
theorem rustore_5 {w : World} {B g : Nat} {v : Value} {S : US} (m : RU w B g v S) (x : Int) (x0 : 0 ≤ x) (x1 : x < 18446744073709551616) : Calls Try.prog 20 #[.pointer (some ⟨g, 0, none⟩), .int .i64 5, .int .i64 1, .int .u64 x] w fun e w' => e = .returned (.bool true) ∧ RU w' B g v S ∧ Fr w w' (fun i => i = g ∨ v.ownBlock = some i) := by
  have HM := Lib.hid m
  clear m
  go_enter Try.func20, Try.ntmps20
  go_wp2
  go_ret
  exact ⟨rfl, HM.out, Fr.refl _ _⟩
set_option maxHeartbeats 4000000 in
theorem rustore_6 {w : World} {B g : Nat} {v : Value} {S : US} (m : RU w B g v S) (x : Int) (x0 : 0 ≤ x) (x1 : x < 18446744073709551616) : Calls Try.prog 20 #[.pointer (some ⟨g, 0, none⟩), .int .i64 6, .int .i64 1, .int .u64 x] w fun e w' => e = .returned (.bool true) ∧ RU w' B g v S ∧ Fr w w' (fun i => i = g ∨ v.ownBlock = some i) := by
  have HM := Lib.hid m
  clear m
  go_enter Try.func20, Try.ntmps20
  go_wp2
  go_ret
  exact ⟨rfl, HM.out, Fr.refl _ _⟩
set_option maxHeartbeats 4000000 in
theorem rustore_7 {w : World} {B g : Nat} {v : Value} {S : US} (m : RU w B g v S) (x : Int) (x0 : 0 ≤ x) (x1 : x < 18446744073709551616) : Calls Try.prog 20 #[.pointer (some ⟨g, 0, none⟩), .int .i64 7, .int .i64 1, .int .u64 x] w fun e w' => e = .returned (.bool true) ∧ RU w' B g v S ∧ Fr w w' (fun i => i = g ∨ v.ownBlock = some i) := by
  have HM := Lib.hid m
  clear m
  go_enter Try.func20, Try.ntmps20
  go_wp2
  go_ret
  exact ⟨rfl, HM.out, Fr.refl _ _⟩
set_option maxHeartbeats 4000000 in
theorem rustore_no (w : World) (g : Nat) (off size x : Int) (h : rgU off size = false) : Calls Try.prog 20 #[.pointer (some ⟨g, 0, none⟩), .int .i64 off, .int .i64 size, .int .u64 x] w fun e w' => e = .returned (.bool false) ∧ Kp w w' := by
  rcases rgU_no h with a0 | ⟨rfl, a0⟩ | ⟨rfl, a0, a1⟩
  · have a2 : (size != 1) = true := by simpa using a0
    clear h
    go_enter Try.func20, Try.ntmps20
    go_wp2
    go_ret
    exact ⟨rfl, Kp.refl w⟩
  all_goals
    clear h
    go_enter Try.func20, Try.ntmps20
    go_wp2
    go_ret
    exact ⟨rfl, Kp.refl w⟩
theorem rustore_w {w : World} {B g : Nat} {v : Value} {S : US} (m : RU w B g v S) (off size x : Int) (x0 : 0 ≤ x) (x1 : x < 18446744073709551616) : Calls Try.prog 20 #[.pointer (some ⟨g, 0, none⟩), .int .i64 off, .int .i64 size, .int .u64 x] w fun e w' => e = .returned (.bool (rgU off size)) ∧ RU w' B g v (S.stS off size x) ∧ Fr w w' (fun i => i = g ∨ v.ownBlock = some i) := by
  cases h : rgU off size with
  | true =>
    obtain ⟨rfl, hh⟩ := rgU_yes h
    rcases hh with rfl | rfl | rfl | rfl | rfl | rfl | rfl | rfl
    · exact rustore_0 m x x0 x1
    · exact rustore_1 m x x0 x1
    · exact rustore_2 m x x0 x1
    · exact rustore_3 m x x0 x1
    · exact rustore_4 m x x0 x1
    · exact rustore_5 m x x0 x1
    · exact rustore_6 m x x0 x1
    · exact rustore_7 m x x0 x1
  | false =>
    rw [US.stS, h, if_neg (by decide)]
    exact (rustore_no w g off size x h).mono fun e w' y => ⟨y.1, m.kp y.2, Fr.of_kp y.2 _⟩
/-- The document's switch. -/
structure RW (w : World) (g : Nat) (p : Bool) : Prop where
  lt : g < w.heap.size
  fz : ∀ j, w.frozen? ⟨g, j, none⟩ = false
  c0 : w.cell? ⟨g, 0, none⟩ = some (.bool p)
theorem RW.fr {w w' : World} {g : Nat} {p : Bool} {T : Nat → Prop} (m : RW w g p) (k : Fr w w' T) (h : ¬ T g) : RW w' g p := by
  have e := k.block g m.lt h
  exact ⟨Nat.lt_of_lt_of_le m.lt k.size, fun j => (World.frozen?_of_block (a := ⟨g, j, none⟩) e).trans (m.fz j), (World.cell?_of_block e).trans m.c0⟩
theorem RW.below {w w' : World} {g : Nat} {p : Bool} (m : RW w g p) (k : Below w.heap.size w w') : RW w' g p := m.fr ((Fr.refl w (fun _ => False)).below k (fun _ hi _ => hi)) id
theorem RW.kp {w w' : World} {g : Nat} {p : Bool} (m : RW w g p) (k : Kp w w') : RW w' g p := m.below k.1
theorem rwnew_w (w : World) : Calls Try.prog 12 #[] w fun e w' => ∃ g, e = .returned (.pointer (some ⟨g, 0, none⟩)) ∧ RW w' g false ∧ Below w.heap.size w w' ∧ w.heap.size ≤ g := by
  go_enter Try.func12, Try.ntmps12
  go_wp2
  have b := Blk.new w 61 [.bool false]
  refine bodyPost_ret (v := .pointer (some ⟨w.heap.size, 0, none⟩)) ?_ rfl ⟨_, rfl, ⟨b.lt, b.frozen, b.at_ 0 _ rfl⟩, (Below.refl _ w).alloc (Nat.le_refl _) _, Nat.le_refl _⟩
  simp [results, Try.results12, go_sem]
theorem rwoff_w {w : World} {g : Nat} {p : Bool} (m : RW w g p) : Calls Try.prog 28 #[.pointer (some ⟨g, 0, none⟩)] w fun e w' => e = .returned (.bool p) ∧ Kp w w' := by
  have c0 := m.c0
  go_enter Try.func28, Try.ntmps28
  go_wp2
  go_ret
  exact ⟨rfl, Kp.refl w⟩
theorem rwload_w (w : World) (g : Nat) (off size : Int) : Calls Try.prog 22 #[.pointer (some ⟨g, 0, none⟩), .int .i64 off, .int .i64 size] w fun e w' => e = .returned (.tuple #[.int .u64 0, .bool (pwO off size)]) ∧ Kp w w' := by
  cases h : pwO off size with
  | true =>
    simp only [pwO, Bool.and_eq_true, beq_iff_eq] at h
    obtain ⟨rfl, rfl⟩ := h
    go_enter Try.func22, Try.ntmps22
    go_wp2
    go_ret2
    exact ⟨rfl, Kp.refl w⟩
  | false =>
    by_cases a : off = 0
    · subst a
      rcases pwO_no h with b | ⟨rfl, b⟩
      · clear h
        go_enter Try.func22, Try.ntmps22
        go_wp2
        go_ret2
        exact ⟨rfl, Kp.refl w⟩
      · cases b
    · have b : (off == 0) = false := by simpa using a
      clear h a
      go_enter Try.func22, Try.ntmps22
      go_wp2
      go_ret2
      exact ⟨rfl, Kp.refl w⟩
theorem rwstore_w {w : World} {g : Nat} {p : Bool} (m : RW w g p) (off size x : Int) (x0 : 0 ≤ x) (x1 : x < 18446744073709551616) : Calls Try.prog 24 #[.pointer (some ⟨g, 0, none⟩), .int .i64 off, .int .i64 size, .int .u64 x] w fun e w' => e = .returned (.bool (pwO off size)) ∧ RW w' g (pwS p off size x) ∧ Fr w w' (fun i => i = g) := by
  have c0 := m.c0
  have z0 := m.fz 0
  have HM := Lib.hid m
  cases h : pwO off size with
  | true =>
    have h' := h
    simp only [pwO, Bool.and_eq_true, beq_iff_eq] at h
    obtain ⟨rfl, rfl⟩ := h
    rw [pwS, h', if_pos rfl]
    clear m h'
    cases t : (x % 4294967296 == 21845)
    · rw [Bool.or_false]
      go_enter Try.func24, Try.ntmps24
      go_wp2
      go_ret
      exact ⟨rfl, HM.out, Fr.refl _ _⟩
    · rw [Bool.or_true]
      go_enter Try.func24, Try.ntmps24
      go_wp2
      go_ret
      exact ⟨rfl, ⟨by simpa [World.setCell] using HM.out.lt, fun j => by rw [World.frozen?_setCell]; exact HM.out.fz j, cell_selfU HM.out.c0⟩, fr_set w g 0 _⟩
  | false =>
    rw [pwS, h, if_neg (by decide)]
    clear m
    by_cases a : off = 0
    · subst a
      rcases pwO_no h with b | ⟨rfl, b⟩
      · have b2 : (size != 4) = true := by simpa using b
        clear h
        go_enter Try.func24, Try.ntmps24
        go_wp2
        go_ret
        exact ⟨rfl, HM.out, Fr.refl _ _⟩
      · cases b
    · have b : (off == 0) = false := by simpa using a
      have b2 : (off != 0) = true := by simpa using a
      clear h a
      go_enter Try.func24, Try.ntmps24
      go_wp2
      go_ret
      exact ⟨rfl, HM.out, Fr.refl _ _⟩
end Go.Proofs.Ytnimpgamiagedaa
