/- Package instr: the word of an instruction that may be. -/
import Derived.Test.YtcijjmmckofckaaDoorInstrC
import Derived.Test.YtcijjmmckofckaaDoorInstrD
import Derived.Test.YtcijjmmckofckaaDoorInstrG
import Derived.Test.YtcijjmmckofckaaDoorBitsPlain
import Derived.Deep.Light
import Derived.Deep.RegionHeld3
namespace Go.Proofs.YtcijjmmckofckaaDoor
open Go.ChangeShapes Go.WideShapes Go.ChangeAt Go.RowKit
set_option linter.unusedVariables false

theorem wordBits {op a b c n : Int} (hs : shapeOf op ≠ -1) (hg : GoodP (shapeOf op) a b c n) :
    bits .or .u32 (bits .or .u32 (IntKind.u32.wrap (IntKind.u32.wrap op * 16777216)) (bits .or .u32 (bits .or .u32 (a * 1048576) (b * 65536)) c)) (bits .and .u32 (IntKind.u32.wrap n) (maskOf (shapeOf op))) = wordOf op a b c n := by
  obtain ⟨o1, o2⟩ := shapeOf_some hs
  obtain ⟨a0, a1, b0, b1, c0, c1, ha, hb, hc, n0, n1⟩ := hg
  have e1 : IntKind.u32.wrap (IntKind.u32.wrap op * 16777216) = op * 16777216 := by
    rw [IntKind.wrap_u32, IntKind.wrap_u32]
    omega
  have e2 : bits .or .u32 (a * 1048576) (b * 65536) = a * 1048576 + b * 65536 := join32 20 _ _ (by decide) (by omega) (by simp <;> omega) (by omega) (by omega) (by simp <;> omega) (by omega)
  have e3 : bits .or .u32 (a * 1048576 + b * 65536) c = a * 1048576 + b * 65536 + c := join32 16 _ _ (by decide) (by omega) (by simp <;> omega) (by omega) (by omega) (by simp <;> omega) (by omega)
  have e4 : bits .or .u32 (op * 16777216) (a * 1048576 + b * 65536 + c) = op * 16777216 + (a * 1048576 + b * 65536 + c) := join32 24 _ _ (by decide) (by omega) (by simp) (by omega) (by omega) (by simp <;> omega) (by omega)
  rw [e1, e2, e3, e4, IntKind.wrap_u32]
  have hr := shapeOf_range op
  unfold wordOf maskOf
  unfold lowOf at n0
  unfold highOf at n1
  unfold regsOf at ha hb hc
  generalize shapeOf op = s at *
  rcases (show bitsOf s = 16 ∨ bitsOf s = 24 ∨ bitsOf s = 0 by unfold bitsOf; omega) with h | h | h
  · rw [h, if_pos rfl, and_mask16, join32 16 _ _ (by decide) (by omega) (by unfold bitsOf at h; simp; omega) (by omega) (by omega) (by simp <;> omega) (by omega)]
    unfold bitsOf at h
    omega
  · rw [h, if_neg (by decide), if_pos rfl, and_mask24, join32 24 _ _ (by decide) (by omega) (by unfold bitsOf at h; simp; omega) (by omega) (by omega) (by simp <;> omega) (by omega)]
    unfold bitsOf at h
    omega
  · rw [h, if_neg (by decide), if_neg (by decide), and_mask0, or_zero32 _ (by omega) (by omega)]
    unfold bitsOf at h
    omega

/-- What the region that puts the word together reads: cells of the instruction, cells of its fields. -/
theorem keepE {w x y : World} {B c : Nat} {v0 v4 f0 f1 f2 : Value}
    (hS : x.cell? ⟨B, 0, none⟩ = some v0 ∧ x.cell? ⟨B, 4, none⟩ = some v4 ∧ x.cell? ⟨c, 0, none⟩ = some f0 ∧ x.cell? ⟨c, 1, none⟩ = some f1 ∧ x.cell? ⟨c, 2, none⟩ = some f2 ∧ Below B w x) (hb : Below x.heap.size x y) :
    y.cell? ⟨B, 0, none⟩ = some v0 ∧ y.cell? ⟨B, 4, none⟩ = some v4 ∧ y.cell? ⟨c, 0, none⟩ = some f0 ∧ y.cell? ⟨c, 1, none⟩ = some f1 ∧ y.cell? ⟨c, 2, none⟩ = some f2 ∧ Below B w y := by
  obtain ⟨h0, h4, g0, g1, g2, hB⟩ := hS
  have l0 : B < x.heap.size := block_lt h0
  have l1 : c < x.heap.size := block_lt g0
  refine ⟨?_, ?_, ?_, ?_, ?_, hB.trans (hb.mono (by omega))⟩
  · exact (hb.cell (p := ⟨B, 0, none⟩) l0).trans h0
  · exact (hb.cell (p := ⟨B, 4, none⟩) l0).trans h4
  · exact (hb.cell (p := ⟨c, 0, none⟩) l1).trans g0
  · exact (hb.cell (p := ⟨c, 1, none⟩) l1).trans g1
  · exact (hb.cell (p := ⟨c, 2, none⟩) l1).trans g2

set_option maxHeartbeats 4000000 in
set_option maxRecDepth 100000 in
theorem encoded_any (op a b c n : Int) (w : World) (hS : ShapesIn w) (h : shapeOf op ≠ -1) (hg : GoodP (shapeOf op) a b c n) :
    Calls Tryd.prog 68 #[instrV op a b c n] w fun e w' => e = .returned (.int .u32 (wordOf op a b c n)) ∧ Below w.heap.size w w' := by
  obtain ⟨o1, o2⟩ := shapeOf_some h
  obtain ⟨a0, a1, b0, b1, c0, c1, ha, hb, hc, n0, n1⟩ := hg
  have n0' : -8388608 ≤ n := by unfold lowOf at n0; omega
  have n1' : n ≤ 8388607 := by unfold highOf at n1; omega
  have M := Lib.hid (fun w => mask_any (shapeOf op) w (by have := shapeOf_range op; omega) (shapeOf_range op).2)
  have HS := Lib.hid hS
  have H := Lib.hid h
  have A := Lib.hid ha
  have B := Lib.hid hb
  have C := Lib.hid hc
  have N0 := Lib.hid n0
  have N1 := Lib.hid n1
  have R := Lib.hid (show fieldsR op = .tuple #[fieldsV (shapeOf op), .bool true] by unfold fieldsR; simp [h])
  clear hS h ha hb hc n0 n1
  unfold instrV
  go_enter Tryd.func68, Tryd.ntmps68
  go_wp2_with fail
  refine (fieldsOf_any _ _ (HS.out.alloc _)).mono ?_
  rintro e w1 ⟨rfl, hb1⟩
  obtain ⟨hk, hf⟩ := kept_cells hb1
  have hz : w.heap.size < w1.heap.size := by have := hb1.size; simp at this; omega
  have B1 := Lib.hid (((Below.refl _ _).alloc (Nat.le_refl _) _).trans (hb1.mono (show w.heap.size ≤ _ by simp)))
  clear hb1
  rw [R.out]
  unfold fieldsV
  go_wp2_with fail
  have K : (w1.alloc (.cells #[.int .i64 (regsOf (shapeOf op)), .int .i64 (bitsOf (shapeOf op)), .bool (signOf (shapeOf op))] 106)).cell? ⟨w.heap.size, 0, none⟩ = some (.int .i64 op) ∧
      (w1.alloc (.cells #[.int .i64 (regsOf (shapeOf op)), .int .i64 (bitsOf (shapeOf op)), .bool (signOf (shapeOf op))] 106)).cell? ⟨w.heap.size, 4, none⟩ = some (.int .i64 n) ∧
      (w1.alloc (.cells #[.int .i64 (regsOf (shapeOf op)), .int .i64 (bitsOf (shapeOf op)), .bool (signOf (shapeOf op))] 106)).cell? ⟨w1.heap.size, 0, none⟩ = some (.int .i64 (regsOf (shapeOf op))) ∧
      (w1.alloc (.cells #[.int .i64 (regsOf (shapeOf op)), .int .i64 (bitsOf (shapeOf op)), .bool (signOf (shapeOf op))] 106)).cell? ⟨w1.heap.size, 1, none⟩ = some (.int .i64 (bitsOf (shapeOf op))) ∧
      (w1.alloc (.cells #[.int .i64 (regsOf (shapeOf op)), .int .i64 (bitsOf (shapeOf op)), .bool (signOf (shapeOf op))] 106)).cell? ⟨w1.heap.size, 2, none⟩ = some (.bool (signOf (shapeOf op))) ∧
      Below w.heap.size w (w1.alloc (.cells #[.int .i64 (regsOf (shapeOf op)), .int .i64 (bitsOf (shapeOf op)), .bool (signOf (shapeOf op))] 106)) := by
    refine ⟨?_, ?_, ?_, ?_, ?_, B1.out.alloc (by omega) _⟩ <;> simp [go_sem, *]
  generalize w1.alloc (.cells #[.int .i64 (regsOf (shapeOf op)), .int .i64 (bitsOf (shapeOf op)), .bool (signOf (shapeOf op))] 106) = x at K ⊢
  clear hk hf
  unfold fieldsV at M
  go_region_held3 (fun y => y.cell? ⟨w.heap.size, 0, none⟩ = some (.int .i64 op) ∧ y.cell? ⟨w.heap.size, 4, none⟩ = some (.int .i64 n) ∧ y.cell? ⟨w1.heap.size, 0, none⟩ = some (.int .i64 (regsOf (shapeOf op))) ∧
      y.cell? ⟨w1.heap.size, 1, none⟩ = some (.int .i64 (bitsOf (shapeOf op))) ∧ y.cell? ⟨w1.heap.size, 2, none⟩ = some (.bool (signOf (shapeOf op))) ∧ Below w.heap.size w y)
    (first
      | assumption
      | exact keepE (by assumption) (Below.refl _ _).drew
      | exact keepE (by assumption) hbm)
    (first | (go_at_call 73; refine (M.out _).mono ?_; rintro e w' ⟨rfl, hbm⟩))
  obtain ⟨_, _, _, _, _, hfin⟩ := (show _ ∧ _ ∧ _ ∧ _ ∧ _ ∧ Below w.heap.size w w' from by assumption)
  go_wp2_with fail
  go_ret
  exact ⟨congrArg (fun z => Ending.returned (.int .u32 z)) (wordBits H.out ⟨a0, a1, b0, b1, c0, c1, A.out, B.out, C.out, N0.out, N1.out⟩), hfin⟩

/-- What Encode answers. -/
def encOf (op a b c n : Int) : Int := if checkOf op a b c n = 0 then wordOf op a b c n else 0

def encR (op a b c n : Int) : Value := .tuple #[.int .u32 (encOf op a b c n), .int .i64 (checkOf op a b c n)]

set_option maxHeartbeats 1000000 in
theorem encode_any (op a b c n : Int) (w : World) (hS : ShapesIn w) (ha : I64 a) (hb : I64 b) (hc : I64 c) (hn : I64 n) :
    Calls Tryd.prog 59 #[instrV op a b c n] w fun e w' => e = .returned (encR op a b c n) ∧ Below w.heap.size w w' := by
  have HS := Lib.hid hS
  have K := Lib.hid (fun w h => check_any op a b c n w h ha hb hc hn)
  clear hS ha hb hc hn
  unfold instrV at *
  go_enter Tryd.func59, Tryd.ntmps59
  go_wp2_with fail
  refine (K.out _ (HS.out.alloc _)).mono ?_
  rintro e w1 ⟨rfl, hb1⟩
  by_cases h : checkOf op a b c n = 0
  · obtain ⟨hk, hf⟩ := kept_cells hb1
    have hz : w.heap.size < w1.heap.size := by have := hb1.size; simp at this; omega
    have B1 := Lib.hid (((Below.refl _ _).alloc (Nat.le_refl _) _).trans (hb1.mono (show w.heap.size ≤ _ by simp)))
    have G := Lib.hid (good_of_check h)
    have HS1 := Lib.hid ((HS.out.alloc _).below hb1 (Nat.le_refl _))
    have R := Lib.hid (show encR op a b c n = .tuple #[.int .u32 (wordOf op a b c n), .int .i64 0] by unfold encR encOf; rw [h, if_pos rfl])
    have E := Lib.hid (encoded_any op a b c n w1 HS1.out G.out.1 G.out.2)
    unfold instrV at E
    rw [h]
    clear hb1 h
    go_wp2_with fail
    refine E.out.mono ?_
    rintro e w2 ⟨rfl, hb2⟩
    have hfin := B1.out.trans (hb2.mono B1.out.size)
    clear hb2
    go_wp2
    go_ret2
    exact ⟨congrArg Ending.returned R.out.symm, hfin⟩
  · have hne : (checkOf op a b c n != 0) = true := by simpa using h
    have R := Lib.hid (show encR op a b c n = .tuple #[.int .u32 0, .int .i64 (checkOf op a b c n)] by unfold encR encOf; rw [if_neg h])
    have hfin := ((Below.refl _ _).alloc (Nat.le_refl _) _).trans (hb1.mono (show w.heap.size ≤ _ by simp))
    clear hb1 h
    go_wp2
    go_ret2
    exact ⟨congrArg Ending.returned R.out.symm, hfin⟩

set_option maxHeartbeats 1000000 in
theorem refencode_any (op a b c n : Int) (w : World) :
    Calls Tryd.prog 30 #[instrV op a b c n] w fun e w' => e = .returned (encR op a b c n) ∧ Below w.heap.size w w' := by
  have K := Lib.hid (fun w => refcheck_any op a b c n w)
  unfold instrV at *
  go_enter Tryd.func30, Tryd.ntmps30
  go_wp2_with fail
  refine (K.out _).mono ?_
  rintro e w1 ⟨rfl, hb1⟩
  by_cases h : checkOf op a b c n = 0
  · obtain ⟨hk, hf⟩ := kept_cells hb1
    have hz : w.heap.size < w1.heap.size := by have := hb1.size; simp at this; omega
    have B1 := Lib.hid (((Below.refl _ _).alloc (Nat.le_refl _) _).trans (hb1.mono (show w.heap.size ≤ _ by simp)))
    obtain ⟨h1, g0⟩ := good_of_check h
    obtain ⟨o1, o2⟩ := shapeOf_some h1
    obtain ⟨a0, a1, b0, b1, c0, c1, ga, gb, gc, n0, n1⟩ := g0
    have n2 : -8388608 ≤ n := by unfold lowOf at n0; omega
    have n3 : n ≤ 8388607 := by unfold highOf at n1; omega
    have R := Lib.hid (show encR op a b c n = .tuple #[.int .u32 (wordOf op a b c n), .int .i64 0] by unfold encR encOf; rw [h, if_pos rfl])
    have hs : shapeOf op ≠ 7 → -65536 ≤ n ∧ n ≤ 65535 := by unfold lowOf at n0; unfold highOf at n1; omega
    have hw : wordOf op a b c n = if shapeOf op = 7 then op * 16777216 + (n + 16777216) % 16777216 else op * 16777216 + a * 1048576 + b * 65536 + (n + 65536) % 65536 + c := rfl
    rw [h]
    have HW := Lib.hid hw
    clear hb1 h h1 ga gb gc n0 n1 hw
    by_cases h7 : shapeOf op = 7
    · have H := Lib.hid h7
      clear h7 hs
      go_wp2_with fail
      refine (refshape_any _ _).mono ?_
      rintro e w' ⟨rfl, rfl⟩
      rw [H.out]
      go_wp2
      go_ret2
      refine ⟨?_, B1.out⟩
      rw [R.out]
      refine congrArg (fun z => Ending.returned (.tuple #[.int .u32 z, .int .i64 0])) ?_
      rw [HW.out, if_pos H.out]
      omega
    · obtain ⟨n4, n5⟩ := hs h7
      have H := Lib.hid h7
      have h7' : (shapeOf op == 7) = false := by simpa using h7
      clear h7 hs
      go_wp2_with fail
      refine (refshape_any _ _).mono ?_
      rintro e w' ⟨rfl, rfl⟩
      go_wp2
      go_ret2
      refine ⟨?_, B1.out⟩
      rw [R.out]
      refine congrArg (fun z => Ending.returned (.tuple #[.int .u32 z, .int .i64 0])) ?_
      rw [HW.out, if_neg H.out]
      omega
  · have hne : (checkOf op a b c n != 0) = true := by simpa using h
    have R := Lib.hid (show encR op a b c n = .tuple #[.int .u32 0, .int .i64 (checkOf op a b c n)] by unfold encR encOf; rw [if_neg h])
    have hfin := ((Below.refl _ _).alloc (Nat.le_refl _) _).trans (hb1.mono (show w.heap.size ≤ _ by simp))
    clear hb1 h
    go_wp2
    go_ret2
    exact ⟨congrArg Ending.returned R.out.symm, hfin⟩
end Go.Proofs.YtcijjmmckofckaaDoor
