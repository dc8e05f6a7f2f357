/- Package memory: Layout. -/
import Derived.Test.YtinpdgjbiimgkaaDoorMemC
namespace Go.Proofs.YtinpdgjbiimgkaaDoor
open Go.ChangeShapes Go.WideShapes Go.ChangeAt Go.RowKit
set_option linter.unusedVariables false

theorem keepL {x y : World} {p : Nat} {v0 v1 v2 v3 v4 : Value} (h : x.cell? ⟨p, 0, none⟩ = some v0 ∧ x.cell? ⟨p, 1, none⟩ = some v1 ∧ x.cell? ⟨p, 2, none⟩ = some v2 ∧ x.cell? ⟨p, 3, none⟩ = some v3 ∧ x.cell? ⟨p, 4, none⟩ = some v4) (hb : Below x.heap.size x y) :
    y.cell? ⟨p, 0, none⟩ = some v0 ∧ y.cell? ⟨p, 1, none⟩ = some v1 ∧ y.cell? ⟨p, 2, none⟩ = some v2 ∧ y.cell? ⟨p, 3, none⟩ = some v3 ∧ y.cell? ⟨p, 4, none⟩ = some v4 := by
  obtain ⟨h0, h1, h2, h3, h4⟩ := h
  have lp : p < x.heap.size := block_lt h0
  exact ⟨(hb.cell (p := ⟨p, 0, none⟩) lp).trans h0, (hb.cell (p := ⟨p, 1, none⟩) lp).trans h1, (hb.cell (p := ⟨p, 2, none⟩) lp).trans h2, (hb.cell (p := ⟨p, 3, none⟩) lp).trans h3, (hb.cell (p := ⟨p, 4, none⟩) lp).trans h4⟩

theorem keepL_set {y : World} {p q : Nat} {u0 u1 u2 u3 u4 v0 v1 v2 v3 v4 : Value} (h : y.cell? ⟨q, 0, none⟩ = some u0 ∧ y.cell? ⟨q, 1, none⟩ = some u1 ∧ y.cell? ⟨q, 2, none⟩ = some u2 ∧ y.cell? ⟨q, 3, none⟩ = some u3 ∧ y.cell? ⟨q, 4, none⟩ = some u4) (hne : p ≠ q) :
    (((((y.setCell ⟨p, 0, none⟩ v0).setCell ⟨p, 1, none⟩ v1).setCell ⟨p, 2, none⟩ v2).setCell ⟨p, 3, none⟩ v3).setCell ⟨p, 4, none⟩ v4).cell? ⟨q, 0, none⟩ = some u0 ∧ (((((y.setCell ⟨p, 0, none⟩ v0).setCell ⟨p, 1, none⟩ v1).setCell ⟨p, 2, none⟩ v2).setCell ⟨p, 3, none⟩ v3).setCell ⟨p, 4, none⟩ v4).cell? ⟨q, 1, none⟩ = some u1 ∧ (((((y.setCell ⟨p, 0, none⟩ v0).setCell ⟨p, 1, none⟩ v1).setCell ⟨p, 2, none⟩ v2).setCell ⟨p, 3, none⟩ v3).setCell ⟨p, 4, none⟩ v4).cell? ⟨q, 2, none⟩ = some u2 ∧ (((((y.setCell ⟨p, 0, none⟩ v0).setCell ⟨p, 1, none⟩ v1).setCell ⟨p, 2, none⟩ v2).setCell ⟨p, 3, none⟩ v3).setCell ⟨p, 4, none⟩ v4).cell? ⟨q, 3, none⟩ = some u3 ∧ (((((y.setCell ⟨p, 0, none⟩ v0).setCell ⟨p, 1, none⟩ v1).setCell ⟨p, 2, none⟩ v2).setCell ⟨p, 3, none⟩ v3).setCell ⟨p, 4, none⟩ v4).cell? ⟨q, 4, none⟩ = some u4 := by
  obtain ⟨h0, h1, h2, h3, h4⟩ := h
  have far : ∀ (y : World) (i j : Nat) (v : Value), (y.setCell ⟨p, i, none⟩ v).cell? ⟨q, j, none⟩ = y.cell? ⟨q, j, none⟩ := fun y i j v => World.cell?_setCell_far y ⟨p, i, none⟩ ⟨q, j, none⟩ v hne
  refine ⟨?_, ?_, ?_, ?_, ?_⟩
  · rw [far, far, far, far, far]
    exact h0
  · rw [far, far, far, far, far]
    exact h1
  · rw [far, far, far, far, far]
    exact h2
  · rw [far, far, far, far, far]
    exact h3
  · rw [far, far, far, far, far]
    exact h4

set_option maxHeartbeats 4000000 in
set_option maxRecDepth 100000 in
theorem layout_any (p h n : Nat) (e0 e1 e2 e3 e4 : Int) (w : World) (hm : Whole w p 88 (memCells e0 e1 e2 e3 e4 h n)) :
    Calls Tryd.prog 31 #[.pointer (some ⟨p, 0, none⟩)] w fun e w' => e = .returned (endsV e0 e1 e2 e3 e4) ∧ Below w.heap.size w w' := by
  have hp := hm.lt
  have hne : w.heap.size ≠ p := Nat.ne_of_gt hp
  have LS : w.cell? ⟨p, 0, none⟩ = some (.int .u32 e0) ∧ w.cell? ⟨p, 1, none⟩ = some (.int .u32 e1) ∧ w.cell? ⟨p, 2, none⟩ = some (.int .u32 e2) ∧ w.cell? ⟨p, 3, none⟩ = some (.int .u32 e3) ∧ w.cell? ⟨p, 4, none⟩ = some (.int .u32 e4) := ⟨hm.cell 0, hm.cell 1, hm.cell 2, hm.cell 3, hm.cell 4⟩
  have LA := keepL LS ((Below.refl _ _).alloc (Nat.le_refl _) (.cells #[.int .u32 0, .int .u32 0, .int .u32 0, .int .u32 0, .int .u32 0] 24))
  have T2 := Lib.hid (Whole.made w 24 #[.int .u32 0, .int .u32 0, .int .u32 0, .int .u32 0, .int .u32 0] _ rfl)
  have B0 := Lib.hid ((Below.refl w.heap.size w).alloc (Nat.le_refl _) (.cells #[.int .u32 0, .int .u32 0, .int .u32 0, .int .u32 0, .int .u32 0] 24))
  unfold endsV
  clear hm LS
  go_enter Tryd.func31, Tryd.ntmps31
  go_wp2_with fail
  generalize w.alloc (.cells #[.int .u32 0, .int .u32 0, .int .u32 0, .int .u32 0, .int .u32 0] 24) = V at *
  have t0 : V.cell? ⟨w.heap.size, 0, none⟩ = some (.int .u32 0) := T2.out.cell 0
  have t1 : V.cell? ⟨w.heap.size, 1, none⟩ = some (.int .u32 0) := T2.out.cell 1
  have t2 : V.cell? ⟨w.heap.size, 2, none⟩ = some (.int .u32 0) := T2.out.cell 2
  have t3 : V.cell? ⟨w.heap.size, 3, none⟩ = some (.int .u32 0) := T2.out.cell 3
  have t4 : V.cell? ⟨w.heap.size, 4, none⟩ = some (.int .u32 0) := T2.out.cell 4
  have tf : ∀ i, V.frozen? ⟨w.heap.size, i, none⟩ = false := T2.out.free
  go_region_held3 (fun y => y.cell? ⟨p, 0, none⟩ = some (.int .u32 e0) ∧ y.cell? ⟨p, 1, none⟩ = some (.int .u32 e1) ∧ y.cell? ⟨p, 2, none⟩ = some (.int .u32 e2) ∧ y.cell? ⟨p, 3, none⟩ = some (.int .u32 e3) ∧ y.cell? ⟨p, 4, none⟩ = some (.int .u32 e4))
    (first
      | with_reducible assumption
      | with_reducible exact keepL (by assumption) (Below.refl _ _).drew
      | with_reducible exact keepL (keepL_set LA hne) (Below.refl _ _).drew)
    (fail)
  go_wp2_with fail
  refine bodyPost_ret (v := .agg #[.int .u32 e0, .int .u32 e1, .int .u32 e2, .int .u32 e3, .int .u32 e4]) (by simp [results, Tryd.results31, go_sem, t0, t1, t2, t3, t4]) rfl ⟨rfl, ?_⟩
  refine Below.drew ?_
  repeat (first | exact B0.out | refine Below.setCell ?_ (Nat.le_refl w.heap.size) _)

end Go.Proofs.YtinpdgjbiimgkaaDoor
