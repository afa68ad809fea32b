/-
  The plain mathematics of one field that is turned: the masks that CapencFields asks. No condition; nothing of a program.
-/
import Derived.Test.YtmakfbpflfdkkaaECapM
import Derived.Test.YtmakfbpflfdkkaaEMask
namespace Go.Proofs.Ytmakfbpflfdkkaa
open Go.ChangeShapes Go.WideShapes Go.ChangeAt Go.RowKit
set_option linter.unusedVariables false
set_option linter.unusedSimpArgs false
theorem math_0 (cpe cty cmo cb ct dpe dty dmo db dt : Int) (hc : RightP cpe cty cmo 0 cb ct false) (hd : RightP dpe dty dmo 0 db dt false) :
    RightP cpe cty cmo 0 db ct false ∧ (bits .andNot .u64 (xk (bitsV cpe cty cmo 0 cb ct false)) 16383 == bits .andNot .u64 (xk (bitsV cpe cty cmo 0 db ct false)) 16383) = true ∧
      (bits .and .u64 (xk (bitsV cpe cty cmo 0 db ct false)) 16383 == bits .or .u64 (bits .and .u64 (xk (bitsV dpe dty dmo 0 db dt false)) 16383) (bits .andNot .u64 (bits .and .u64 (xk (bitsV cpe cty cmo 0 cb ct false)) 16383) 16383)) = true := by
  have hx : RightP cpe cty cmo 0 db ct false := by
    obtain ⟨p0, p1, y0, y1, o0, o1, b0, b1, t0, t1, e0, e1, no, b8, t8⟩ := hc
    obtain ⟨p0', p1', y0', y1', o0', o1', b0', b1', t0', t1', e0', e1', no', b8', t8'⟩ := hd
    constructor <;> first | assumption | omega
  have b1 := bits_bd hc
  have b2 := bits_bd hd
  have b3 := bits_bd hx
  refine ⟨hx, ?_⟩
  refine field_masks' 0 14 1 16384 16384 16383 _ _ _ (by decide) (by decide) (by decide) (by decide) (by omega) b1.1 b1.2 b3.1 b3.2 b2.1 b2.2 ?_ ?_ ?_
  all_goals
    clear b1 b2 b3
    obtain ⟨p0, p1, y0, y1, o0, o1, b0, b1, t0, t1, e0, e1, no, b8, t8⟩ := hc
    obtain ⟨p0', p1', y0', y1', o0', o1', b0', b1', t0', t1', e0', e1', no', b8', t8'⟩ := hd
    clear hx no b8 t8 no' b8' t8'
    simp only [bits_no] <;> omega
theorem math_1 (cpe cty cmo cb ct dpe dty dmo db dt : Int) (hc : RightP cpe cty cmo 0 cb ct false) (hd : RightP dpe dty dmo 0 db dt false) :
    RightP cpe cty cmo 0 cb dt false ∧ (bits .andNot .u64 (xk (bitsV cpe cty cmo 0 cb ct false)) 67092480 == bits .andNot .u64 (xk (bitsV cpe cty cmo 0 cb dt false)) 67092480) = true ∧
      (bits .and .u64 (xk (bitsV cpe cty cmo 0 cb dt false)) 67092480 == bits .or .u64 (bits .and .u64 (xk (bitsV dpe dty dmo 0 db dt false)) 67092480) (bits .andNot .u64 (bits .and .u64 (xk (bitsV cpe cty cmo 0 cb ct false)) 67092480) 67092480)) = true := by
  have hx : RightP cpe cty cmo 0 cb dt false := by
    obtain ⟨p0, p1, y0, y1, o0, o1, b0, b1, t0, t1, e0, e1, no, b8, t8⟩ := hc
    obtain ⟨p0', p1', y0', y1', o0', o1', b0', b1', t0', t1', e0', e1', no', b8', t8'⟩ := hd
    constructor <;> first | assumption | omega
  have b1 := bits_bd hc
  have b2 := bits_bd hd
  have b3 := bits_bd hx
  refine ⟨hx, ?_⟩
  refine field_masks' 14 12 16384 67108864 4096 67092480 _ _ _ (by decide) (by decide) (by decide) (by decide) (by omega) b1.1 b1.2 b3.1 b3.2 b2.1 b2.2 ?_ ?_ ?_
  all_goals
    clear b1 b2 b3
    obtain ⟨p0, p1, y0, y1, o0, o1, b0, b1, t0, t1, e0, e1, no, b8, t8⟩ := hc
    obtain ⟨p0', p1', y0', y1', o0', o1', b0', b1', t0', t1', e0', e1', no', b8', t8'⟩ := hd
    clear hx no b8 t8 no' b8' t8'
    simp only [bits_no] <;> omega
theorem math_2 (cpe cty cmo cb ct dpe dty dmo db dt : Int) (hc : RightP cpe cty cmo 0 cb ct false) (hd : RightP dpe dty dmo 0 db dt false) :
    RightP cpe dty cmo 0 cb ct false ∧ (bits .andNot .u64 (xk (bitsV cpe cty cmo 0 cb ct false)) 35184237871104 == bits .andNot .u64 (xk (bitsV cpe dty cmo 0 cb ct false)) 35184237871104) = true ∧
      (bits .and .u64 (xk (bitsV cpe dty cmo 0 cb ct false)) 35184237871104 == bits .or .u64 (bits .and .u64 (xk (bitsV dpe dty dmo 0 db dt false)) 35184237871104) (bits .andNot .u64 (bits .and .u64 (xk (bitsV cpe cty cmo 0 cb ct false)) 35184237871104) 35184237871104)) = true := by
  have hx : RightP cpe dty cmo 0 cb ct false := by
    obtain ⟨p0, p1, y0, y1, o0, o1, b0, b1, t0, t1, e0, e1, no, b8, t8⟩ := hc
    obtain ⟨p0', p1', y0', y1', o0', o1', b0', b1', t0', t1', e0', e1', no', b8', t8'⟩ := hd
    constructor <;> first | assumption | omega
  have b1 := bits_bd hc
  have b2 := bits_bd hd
  have b3 := bits_bd hx
  refine ⟨hx, ?_⟩
  refine field_masks' 27 18 134217728 35184372088832 262144 35184237871104 _ _ _ (by decide) (by decide) (by decide) (by decide) (by omega) b1.1 b1.2 b3.1 b3.2 b2.1 b2.2 ?_ ?_ ?_
  all_goals
    clear b1 b2 b3
    obtain ⟨p0, p1, y0, y1, o0, o1, b0, b1, t0, t1, e0, e1, no, b8, t8⟩ := hc
    obtain ⟨p0', p1', y0', y1', o0', o1', b0', b1', t0', t1', e0', e1', no', b8', t8'⟩ := hd
    clear hx no b8 t8 no' b8' t8'
    simp only [bits_no] <;> omega
theorem math_3 (cpe cty cmo cb ct dpe dty dmo db dt : Int) (hc : RightP cpe cty cmo 0 cb ct false) (hd : RightP dpe dty dmo 0 db dt false) :
    RightP cpe cty dmo 0 cb ct false ∧ (bits .andNot .u64 (xk (bitsV cpe cty cmo 0 cb ct false)) 35184372088832 == bits .andNot .u64 (xk (bitsV cpe cty dmo 0 cb ct false)) 35184372088832) = true ∧
      (bits .and .u64 (xk (bitsV cpe cty dmo 0 cb ct false)) 35184372088832 == bits .or .u64 (bits .and .u64 (xk (bitsV dpe dty dmo 0 db dt false)) 35184372088832) (bits .andNot .u64 (bits .and .u64 (xk (bitsV cpe cty cmo 0 cb ct false)) 35184372088832) 35184372088832)) = true := by
  have hx : RightP cpe cty dmo 0 cb ct false := by
    obtain ⟨p0, p1, y0, y1, o0, o1, b0, b1, t0, t1, e0, e1, no, b8, t8⟩ := hc
    obtain ⟨p0', p1', y0', y1', o0', o1', b0', b1', t0', t1', e0', e1', no', b8', t8'⟩ := hd
    constructor <;> first | assumption | omega
  have b1 := bits_bd hc
  have b2 := bits_bd hd
  have b3 := bits_bd hx
  refine ⟨hx, ?_⟩
  refine field_masks' 45 1 35184372088832 70368744177664 2 35184372088832 _ _ _ (by decide) (by decide) (by decide) (by decide) (by omega) b1.1 b1.2 b3.1 b3.2 b2.1 b2.2 ?_ ?_ ?_
  all_goals
    clear b1 b2 b3
    obtain ⟨p0, p1, y0, y1, o0, o1, b0, b1, t0, t1, e0, e1, no, b8, t8⟩ := hc
    obtain ⟨p0', p1', y0', y1', o0', o1', b0', b1', t0', t1', e0', e1', no', b8', t8'⟩ := hd
    clear hx no b8 t8 no' b8' t8'
    simp only [bits_no] <;> omega
theorem math_4 (cpe cty cmo cb ct dpe dty dmo db dt : Int) (hc : RightP cpe cty cmo 0 cb ct false) (hd : RightP dpe dty dmo 0 db dt false) :
    RightP dpe cty cmo 0 cb ct false ∧ (bits .andNot .u64 (xk (bitsV cpe cty cmo 0 cb ct false)) 4611615649683210240 == bits .andNot .u64 (xk (bitsV dpe cty cmo 0 cb ct false)) 4611615649683210240) = true ∧
      (bits .and .u64 (xk (bitsV dpe cty cmo 0 cb ct false)) 4611615649683210240 == bits .or .u64 (bits .and .u64 (xk (bitsV dpe dty dmo 0 db dt false)) 4611615649683210240) (bits .andNot .u64 (bits .and .u64 (xk (bitsV cpe cty cmo 0 cb ct false)) 4611615649683210240) 4611615649683210240)) = true := by
  have hx : RightP dpe cty cmo 0 cb ct false := by
    obtain ⟨p0, p1, y0, y1, o0, o1, b0, b1, t0, t1, e0, e1, no, b8, t8⟩ := hc
    obtain ⟨p0', p1', y0', y1', o0', o1', b0', b1', t0', t1', e0', e1', no', b8', t8'⟩ := hd
    constructor <;> first | assumption | omega
  have b1 := bits_bd hc
  have b2 := bits_bd hd
  have b3 := bits_bd hx
  refine ⟨hx, ?_⟩
  refine field_masks' 46 16 70368744177664 4611686018427387904 65536 4611615649683210240 _ _ _ (by decide) (by decide) (by decide) (by decide) (by omega) b1.1 b1.2 b3.1 b3.2 b2.1 b2.2 ?_ ?_ ?_
  all_goals
    clear b1 b2 b3
    obtain ⟨p0, p1, y0, y1, o0, o1, b0, b1, t0, t1, e0, e1, no, b8, t8⟩ := hc
    obtain ⟨p0', p1', y0', y1', o0', o1', b0', b1', t0', t1', e0', e1', no', b8', t8'⟩ := hd
    clear hx no b8 t8 no' b8' t8'
    simp only [bits_no] <;> omega
theorem math_n (cpe cty cmo cb ct dpe dty dmo db dt : Int) (hc : RightP cpe cty cmo 0 cb ct false) (hd : RightP dpe dty dmo 0 db dt false) :
    RightP cpe cty cmo 0 cb ct false ∧ (bits .andNot .u64 (xk (bitsV cpe cty cmo 0 cb ct false)) 0 == bits .andNot .u64 (xk (bitsV cpe cty cmo 0 cb ct false)) 0) = true ∧
      (bits .and .u64 (xk (bitsV cpe cty cmo 0 cb ct false)) 0 == bits .or .u64 (bits .and .u64 (xk (bitsV dpe dty dmo 0 db dt false)) 0) (bits .andNot .u64 (bits .and .u64 (xk (bitsV cpe cty cmo 0 cb ct false)) 0) 0)) = true := by
  have hx : RightP cpe cty cmo 0 cb ct false := by
    obtain ⟨p0, p1, y0, y1, o0, o1, b0, b1, t0, t1, e0, e1, no, b8, t8⟩ := hc
    obtain ⟨p0', p1', y0', y1', o0', o1', b0', b1', t0', t1', e0', e1', no', b8', t8'⟩ := hd
    constructor <;> first | assumption | omega
  have b1 := bits_bd hc
  have b2 := bits_bd hd
  have b3 := bits_bd hx
  refine ⟨hx, ?_⟩
  refine field_masks' 0 0 1 1 1 0 _ _ _ (by decide) (by decide) (by decide) (by decide) (by omega) b1.1 b1.2 b3.1 b3.2 b2.1 b2.2 ?_ ?_ ?_
  all_goals
    clear b1 b2 b3
    obtain ⟨p0, p1, y0, y1, o0, o1, b0, b1, t0, t1, e0, e1, no, b8, t8⟩ := hc
    obtain ⟨p0', p1', y0', y1', o0', o1', b0', b1', t0', t1', e0', e1', no', b8', t8'⟩ := hd
    clear hx no b8 t8 no' b8' t8'
    simp only [bits_no] <;> omega
end Go.Proofs.Ytmakfbpflfdkkaa
