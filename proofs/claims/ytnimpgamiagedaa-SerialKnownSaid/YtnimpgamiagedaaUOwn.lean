/-
  Rows of calls that a call owns: appended to, read as lists that come in, cut. No condition.
-/
import Derived.Test.YtnimpgamiagedaaURuns
import Derived.Test.YtnimpgamiagedaaUPower
import Derived.Test.YtnimpgamiagedaaUTells
import Derived.Test.YtnimpgamiagedaaUOrder
namespace Go.Proofs.Ytnimpgamiagedaa
open Go.ChangeShapes Go.WideShapes Go.ChangeAt Go.RowKit
set_option linter.unusedVariables false
set_option linter.unusedSimpArgs false
/-- The cells of a list of calls. -/
def fu : List Uo → List Value
  | [] => []
  | c :: l => c.vs ++ fu l
theorem fu_len (L : List Uo) : (fu L).length = L.length * 4 := by
  induction L with
  | nil => rfl
  | cons c l ih => rw [fu, List.length_append, ih, Uo.vs_len, List.length_cons]; omega
theorem fu_app (L M : List Uo) : fu (L ++ M) = fu L ++ fu M := by
  induction L with
  | nil => rfl
  | cons c l ih => rw [List.cons_append, fu, ih, fu, List.append_assoc]
theorem fu_at (L : List Uo) (i j : Nat) (c : Uo) (u : Value) (hi : L[i]? = some c) (hj : c.vs[j]? = some u) : (fu L)[i * 4 + j]? = some u := by
  have h4 : j < 4 := by have := (List.getElem?_eq_some_iff.1 hj).1; rwa [Uo.vs_len] at this
  induction L generalizing i with
  | nil => simp at hi
  | cons d l ih =>
    rw [fu]
    cases i with
    | zero =>
      simp only [List.getElem?_cons_zero, Option.some.injEq] at hi
      subst hi
      rw [Nat.zero_mul, Nat.zero_add, List.getElem?_append_left (by rw [Uo.vs_len]; exact h4)]; exact hj
    | succ i =>
      rw [List.getElem?_cons_succ] at hi
      rw [List.getElem?_append_right (by rw [Uo.vs_len]; omega), Uo.vs_len, show (i + 1) * 4 + j - 4 = i * 4 + j by omega]
      exact ih i hi
theorem fu_one (L : List Uo) : ∀ u ∈ fu L, u.oneCell' = true := by
  induction L with
  | nil => intro u hu; simp [fu] at hu
  | cons c l ih =>
    intro u hu
    rw [fu, List.mem_append] at hu
    rcases hu with hu | hu
    · simp only [Uo.vs, List.mem_cons, List.not_mem_nil, or_false] at hu
      rcases hu with rfl | rfl | rfl | rfl <;> rfl
    · exact ih u hu
/-- A row of calls that a call owns. -/
def OwnO (w : World) (B : Nat) (v : Value) (L : List Uo) : Prop := w.ownsRow B 34 4 v L.length (fu L)
theorem OwnO.nil (w : World) (B : Nat) : OwnO w B (.slice none 0 0) [] := World.ownsRow_nil w B _ 4
theorem OwnO.rd {w : World} {B : Nat} {v : Value} {L : List Uo} (h : OwnO w B v L) (hn : 0 < L.length) : ∃ g cap, v = .slice (some ⟨g, 0, none⟩) L.length cap ∧ L.length ≤ cap ∧ cap ≤ 9223372036854775807 ∧ B ≤ g ∧ g < w.heap.size ∧ ∀ (i : Nat) (c : Uo), L[i]? = some c → RowUo w g (i * 4) c := by
  obtain ⟨hx, ⟨rfl, h0⟩ | ⟨g, cap, cur, rfl, hb, hg, hc, hm, hs, ht⟩⟩ := h
  · omega
  · refine ⟨g, cap, rfl, hc, hm, hb, ?_, fun i c hi j u hj => ?_⟩
    · rcases Nat.lt_or_ge g w.heap.size with l | l
      · exact l
      · rw [Array.getElem?_eq_none l] at hg; cases hg
    · rw [cell_of_row w g (i * 4 + j) _ _ (0, 0) hg, ← Array.getElem?_toList]
      have e := fu_at L i j c u hi hj
      rw [← ht] at e
      have hlt : i * 4 + j < L.length * 4 := by
        have a := (List.getElem?_eq_some_iff.1 hi).1
        have b := (List.getElem?_eq_some_iff.1 hj).1
        rw [Uo.vs_len] at b
        omega
      rwa [List.getElem?_take_of_lt hlt] at e
theorem OwnO.below {w w' : World} {B : Nat} {v : Value} {L : List Uo} (h : OwnO w B v L) (k : Below w.heap.size w w') : OwnO w' B v L := by
  obtain ⟨hx, ⟨rfl, h0⟩ | ⟨g, cap, cur, rfl, hb, hg, hc, hm, hs, ht⟩⟩ := h
  · exact ⟨hx, .inl ⟨rfl, h0⟩⟩
  · refine ⟨hx, .inr ⟨g, cap, cur, rfl, hb, ?_, hc, hm, hs, ht⟩⟩
    have hlt : g < w.heap.size := by
      rcases Nat.lt_or_ge g w.heap.size with l | l
      · exact l
      · rw [Array.getElem?_eq_none l] at hg; cases hg
    rw [k.block g hlt]; exact hg
theorem OwnO.alloc {w : World} {B : Nat} {v : Value} {L : List Uo} (h : OwnO w B v L) (o : Obj) : OwnO (w.alloc o) B v L := h.below ((Below.refl _ w).alloc (Nat.le_refl _) o)
/-- A piece of such a row, as a list that comes in. -/
theorem rd_cutu {w : World} {g : Nat} {L : List Uo} (hg : g < w.heap.size) (h : ∀ (i : Nat) (c : Uo), L[i]? = some c → RowUo w g (i * 4) c) (d n : Nat) : RdUo w w.heap.size (some ⟨g, d * 4, none⟩) ((L.drop d).take n) := fun _ => by
  refine ⟨g, d * 4, rfl, hg, fun i c hi => ?_⟩
  have hlt : i < n := by
    rcases Nat.lt_or_ge i n with l | l
    · exact l
    · rw [List.getElem?_eq_none (by rw [List.length_take]; omega)] at hi; cases hi
  rw [List.getElem?_take_of_lt hlt, List.getElem?_drop] at hi
  have := h (d + i) c hi
  rwa [Nat.add_mul] at this
theorem opu_info : (Try.prog.info? 34).map (fun i => (i.zero, i.size, i.bytes)) = some (some (.agg #[.int .i64 0, .int .i64 0, .int .i64 0, .int .u64 0]), 4, 32) := by kernel_rfl
/-- append of some calls to a row of the call's own. -/
theorem app_u {w : World} {ops : Array Oper} {rest : List Oper} {o : Oper} {a : Act} {Q : Exit → Act → World → Prop} (hgd : o.guard = none) (s x : Operand)
    (ho : o.op = .call { callee := .builtin .append, args := #[s, x], argTypes := #[22, 22] }) (B : Nat) (v : Value) (L N : List Uo) (hs : a.eval s = v) (hown : OwnO w B v L)
    (ad : Addr) (m c : Nat) (hm : N.length = m) (h0 : 0 < m) (hx : a.eval x = .slice (some ad) m c) (hnews : ∀ j u, (fu N)[j]? = some u → w.cell? (ad.add j) = some u) (hl : L.length + m < 1000000) (hbase : B ≤ w.heap.size) (H : Nat) (hH : w.heap.size = H)
    (h : ∀ g cap w', OwnO w' B (.slice (some ⟨g, 0, none⟩) (L.length + m) cap) (L ++ N) → w.grownBy w' v.ownBlock → (v.ownBlock = some g ∨ g = H) → g < w'.heap.size → wpList Try.prog ops Q rest (a.put o.dst (.slice (some ⟨g, 0, none⟩) (L.length + m) cap)) w') :
    wpList Try.prog ops Q (o :: rest) a w := by
  obtain ⟨i0, hi, hz0, hz1, hz2⟩ := info_parts opu_info
  refine wpList_append_lies w hgd s x _ ho B _ i0 _ 4 32 Try.underlying22 hi hz0 hz1 hz2 rfl (by omega) v L.length (fu L) hs hown ad m c (fu N) hx (by rw [fu_len, hm]) hnews (fu_one N) h0 (by unfold maxLen; omega) (by omega) hbase H hH ?_
  intro g cap w1 hown1 hg h1 h2
  exact h g cap w1 (by unfold OwnO; rw [fu_app, List.length_append, hm]; exact hown1) hg h1 h2
/-- The same at a step of a region that draws its order. -/
theorem app_us {w : World} {ops : Array Oper} {o : Oper} {a : Act} {K : Act → World → Prop} {Q : Exit → Act → World → Prop} {E : Prop} (hgd : o.guard = none) (s x : Operand)
    (ho : o.op = .call { callee := .builtin .append, args := #[s, x], argTypes := #[22, 22] }) (B : Nat) (v : Value) (L N : List Uo) (hs : a.eval s = v) (hown : OwnO w B v L)
    (ad : Addr) (m c : Nat) (hm : N.length = m) (h0 : 0 < m) (hx : a.eval x = .slice (some ad) m c) (hnews : ∀ j u, (fu N)[j]? = some u → w.cell? (ad.add j) = some u) (hl : L.length + m < 1000000) (hbase : B ≤ w.heap.size) (H : Nat) (hH : w.heap.size = H)
    (h : ∀ g cap w', OwnO w' B (.slice (some ⟨g, 0, none⟩) (L.length + m) cap) (L ++ N) → w.grownBy w' v.ownBlock → (v.ownBlock = some g ∨ g = H) → g < w'.heap.size → K (a.put o.dst (.slice (some ⟨g, 0, none⟩) (L.length + m) cap)) w') :
    if Region.wanted o (yielded ops a.tmps) = true then Oper.wp Try.prog o a w K Q else E := by
  obtain ⟨i0, hi, hz0, hz1, hz2⟩ := info_parts opu_info
  refine step_append_lies w hgd s x _ ho B _ i0 _ 4 32 Try.underlying22 hi hz0 hz1 hz2 rfl (by omega) v L.length (fu L) hs hown ad m c (fu N) hx (by rw [fu_len, hm]) hnews (fu_one N) h0 (by unfold maxLen; omega) (by omega) hbase H hH ?_
  intro g cap w1 hown1 hg h1 h2
  exact h g cap w1 (by unfold OwnO; rw [fu_app, List.length_append, hm]; exact hown1) hg h1 h2
/-- A row of bytes that a call owns, as a list that comes in. -/
theorem ownB_rd {w : World} {B : Nat} {v : Value} {L : List Int} (h : OwnB w B v L) : ∃ A cap, v = .slice A L.length cap ∧ RdUb w w.heap.size A (L.map Ub.mk) := by
  obtain ⟨A, cap, e, hc, hr⟩ := h.rd
  refine ⟨A, cap, e, fun hn => ?_⟩
  rw [List.length_map] at hn
  obtain ⟨g, hA, hg, h0⟩ := hr 0 _ (List.getElem?_eq_getElem hn)
  refine ⟨g, 0, hA, hg, fun i c hi j u hj => ?_⟩
  obtain rfl : j = 0 := by have := (List.getElem?_eq_some_iff.1 hj).1; rw [Ub.vs_len] at this; omega
  obtain rfl : Value.int .u8 c.x = u := by simpa [Ub.vs] using hj
  rw [List.getElem?_map] at hi
  obtain ⟨x, hx, rfl⟩ := Option.map_eq_some_iff.1 hi
  obtain ⟨g', hA', hg', hcell⟩ := hr i x hx
  rw [hA] at hA'
  cases hA'
  rw [Nat.zero_add, Nat.mul_one, Nat.add_zero]
  exact hcell
set_option maxHeartbeats 4000000 in
/-- Row, of 40: some bytes. -/
theorem row40_w (w : World) : Calls Try.prog 32 #[.int .i64 40] w fun e w' => ∃ v L, e = .returned v ∧ OwnB w' w.heap.size v L ∧ L.length = 40 ∧ (∀ x ∈ L, 0 ≤ x ∧ x < 256) ∧ Below w.heap.size w w' := by
  go_enter Try.func32, Try.ntmps32
  go_wp2
  go_loopw [3, 4] (fun v i wr => ∃ (k : Nat) (L : List Int), k ≤ 40 ∧ i = .int .i64 (k : Int) ∧ L.length = k ∧ (∀ x ∈ L, 0 ≤ x ∧ x < 256) ∧ OwnB wr w.heap.size v L ∧ Below w.heap.size w wr) (fun _ i _ => 40 - (intOf i).toNat)
  case atStart => exact ⟨0, [], by omega, rfl, rfl, by simp, OwnB.nil _ _, Below.refl _ _⟩
  case round =>
    obtain ⟨k, L, hk, rfl, hl, hb, ho, hkp⟩ := hrel
    have HO := Lib.hid ho
    have HK := Lib.hid hkp
    have HB := Lib.hid hb
    have hsz := hkp.size
    clear ho hkp hb
    by_cases hlt : k < 40
    · have b1 : (k : Int) < 40 := by omega
      have ew : IntKind.u8.wrap (3 + 5 * (k : Int)) = 3 + 5 * (k : Int) := by rw [IntKind.wrap_u8']; omega
      go_wp2_with (at_builtin; refine app_b rfl (.tmp 10) (.tmp 15) rfl w.heap.size _ _ rfl (HO.out.below ((Below.refl _ wr).alloc (Nat.le_refl _) _)) ⟨wr.heap.size, 0, none⟩ 1 (3 + 5 * (k : Int)) rfl (by simp [go_sem]) (by omega) (by simp; omega) (wr.heap.size + 1) (by simp) ?_; intro gg cap2 w7 hown hgr hat hlt7; have HO7 := Lib.hid hown; have HG7 := Lib.hid hgr; clear hown hgr hat)
      go_roundw
      case rel => exact ⟨k + 1, L ++ [3 + 5 * (k : Int)], by omega, by go_num, by simp; omega, by
        intro x hx
        rcases List.mem_append.1 hx with hx | hx
        · exact HB.out x hx
        · simp only [List.mem_singleton] at hx; subst hx; omega, by have h := HO7.out; rw [hl] at h; exact h, (HK.out.alloc hsz _).grown HG7.out (by simp; omega) (fun b hb => (HO.out.blk hb).1)⟩
      case measure => simp [intOf]; omega
    · obtain rfl : k = 40 := by omega
      go_wp2
      go_ret
      exact ⟨_, L, rfl, HO.out, hl, HB.out, HK.out⟩
end Go.Proofs.Ytnimpgamiagedaa
