/- What a region that only reads two cells keeps. -/
import Derived.Test.YtnmpamfgkidmiaaDoorInstrV
namespace Go.Proofs.YtnmpamfgkidmiaaDoor
open Go.ChangeShapes Go.WideShapes Go.ChangeAt Go.RowKit
set_option linter.unusedVariables false

theorem keepG_call {y z : World} {a d : Addr} {u v : Value} (h : y.cell? a = some u ∧ y.cell? d = some v) (hb : Below y.heap.size y z) : z.cell? a = some u ∧ z.cell? d = some v :=
  ⟨(hb.cell (block_lt h.1)).trans h.1, (hb.cell (block_lt h.2)).trans h.2⟩

theorem heldAt_some {y : World} {a : Addr} (h : (y.cell? a).isSome = true) : y.cell? a = some (heldAt y a) := by
  obtain ⟨u, hu⟩ := Option.isSome_iff_exists.1 h
  exact heldAt_of hu

theorem isSome_set {y : World} {a d : Addr} {v : Value} (h : (y.cell? a).isSome = true) : ((y.setCell d v).cell? a).isSome = true := by
  by_cases e : d = a
  · subst e
    rw [World.cell?_setCell_same' y d v h]
    rfl
  · rw [show (y.setCell d v).cell? a = y.cell? a from World.cell?_setCell_other (h := e) ..]
    exact h

theorem keepR_drew {y : World} {p q : Nat} {u0 u1 u2 u3 u4 : Value} (h : y.cell? ⟨q, 0, none⟩ = some u0 ∧ y.cell? ⟨q, 1, none⟩ = some u1 ∧ y.cell? ⟨q, 2, none⟩ = some u2 ∧ y.cell? ⟨q, 3, none⟩ = some u3 ∧ y.cell? ⟨q, 4, none⟩ = some u4 ∧ y.cell? ⟨p, 0, none⟩ = some (heldAt y ⟨p, 0, none⟩) ∧ y.cell? ⟨p, 1, none⟩ = some (heldAt y ⟨p, 1, none⟩) ∧ y.cell? ⟨p, 2, none⟩ = some (heldAt y ⟨p, 2, none⟩) ∧ y.cell? ⟨p, 3, none⟩ = some (heldAt y ⟨p, 3, none⟩) ∧ y.cell? ⟨p, 4, none⟩ = some (heldAt y ⟨p, 4, none⟩) ∧ y.frozen? ⟨p, 0, none⟩ = false ∧ y.frozen? ⟨p, 1, none⟩ = false ∧ y.frozen? ⟨p, 2, none⟩ = false ∧ y.frozen? ⟨p, 3, none⟩ = false ∧ y.frozen? ⟨p, 4, none⟩ = false) : y.drew.cell? ⟨q, 0, none⟩ = some u0 ∧ y.drew.cell? ⟨q, 1, none⟩ = some u1 ∧ y.drew.cell? ⟨q, 2, none⟩ = some u2 ∧ y.drew.cell? ⟨q, 3, none⟩ = some u3 ∧ y.drew.cell? ⟨q, 4, none⟩ = some u4 ∧ y.drew.cell? ⟨p, 0, none⟩ = some (heldAt y.drew ⟨p, 0, none⟩) ∧ y.drew.cell? ⟨p, 1, none⟩ = some (heldAt y.drew ⟨p, 1, none⟩) ∧ y.drew.cell? ⟨p, 2, none⟩ = some (heldAt y.drew ⟨p, 2, none⟩) ∧ y.drew.cell? ⟨p, 3, none⟩ = some (heldAt y.drew ⟨p, 3, none⟩) ∧ y.drew.cell? ⟨p, 4, none⟩ = some (heldAt y.drew ⟨p, 4, none⟩) ∧ y.drew.frozen? ⟨p, 0, none⟩ = false ∧ y.drew.frozen? ⟨p, 1, none⟩ = false ∧ y.drew.frozen? ⟨p, 2, none⟩ = false ∧ y.drew.frozen? ⟨p, 3, none⟩ = false ∧ y.drew.frozen? ⟨p, 4, none⟩ = false := h

theorem keepR_call {y z : World} {p q : Nat} {u0 u1 u2 u3 u4 : Value} (h : y.cell? ⟨q, 0, none⟩ = some u0 ∧ y.cell? ⟨q, 1, none⟩ = some u1 ∧ y.cell? ⟨q, 2, none⟩ = some u2 ∧ y.cell? ⟨q, 3, none⟩ = some u3 ∧ y.cell? ⟨q, 4, none⟩ = some u4 ∧ y.cell? ⟨p, 0, none⟩ = some (heldAt y ⟨p, 0, none⟩) ∧ y.cell? ⟨p, 1, none⟩ = some (heldAt y ⟨p, 1, none⟩) ∧ y.cell? ⟨p, 2, none⟩ = some (heldAt y ⟨p, 2, none⟩) ∧ y.cell? ⟨p, 3, none⟩ = some (heldAt y ⟨p, 3, none⟩) ∧ y.cell? ⟨p, 4, none⟩ = some (heldAt y ⟨p, 4, none⟩) ∧ y.frozen? ⟨p, 0, none⟩ = false ∧ y.frozen? ⟨p, 1, none⟩ = false ∧ y.frozen? ⟨p, 2, none⟩ = false ∧ y.frozen? ⟨p, 3, none⟩ = false ∧ y.frozen? ⟨p, 4, none⟩ = false) (hb : Below y.heap.size y z) : z.cell? ⟨q, 0, none⟩ = some u0 ∧ z.cell? ⟨q, 1, none⟩ = some u1 ∧ z.cell? ⟨q, 2, none⟩ = some u2 ∧ z.cell? ⟨q, 3, none⟩ = some u3 ∧ z.cell? ⟨q, 4, none⟩ = some u4 ∧ z.cell? ⟨p, 0, none⟩ = some (heldAt z ⟨p, 0, none⟩) ∧ z.cell? ⟨p, 1, none⟩ = some (heldAt z ⟨p, 1, none⟩) ∧ z.cell? ⟨p, 2, none⟩ = some (heldAt z ⟨p, 2, none⟩) ∧ z.cell? ⟨p, 3, none⟩ = some (heldAt z ⟨p, 3, none⟩) ∧ z.cell? ⟨p, 4, none⟩ = some (heldAt z ⟨p, 4, none⟩) ∧ z.frozen? ⟨p, 0, none⟩ = false ∧ z.frozen? ⟨p, 1, none⟩ = false ∧ z.frozen? ⟨p, 2, none⟩ = false ∧ z.frozen? ⟨p, 3, none⟩ = false ∧ z.frozen? ⟨p, 4, none⟩ = false := by
  obtain ⟨h0, h1, h2, h3, h4, g0, g1, g2, g3, g4, f0, f1, f2, f3, f4⟩ := h
  have lq : q < y.heap.size := block_lt h0
  have lp : p < y.heap.size := block_lt g0
  have kc : ∀ i, z.cell? ⟨q, i, none⟩ = y.cell? ⟨q, i, none⟩ := fun i => hb.cell (p := ⟨q, i, none⟩) lq
  have kp : ∀ i, z.cell? ⟨p, i, none⟩ = y.cell? ⟨p, i, none⟩ := fun i => hb.cell (p := ⟨p, i, none⟩) lp
  have kf : ∀ i, z.frozen? ⟨p, i, none⟩ = y.frozen? ⟨p, i, none⟩ := fun i => hb.frozen (p := ⟨p, i, none⟩) lp
  exact ⟨(kc 0).trans h0, (kc 1).trans h1, (kc 2).trans h2, (kc 3).trans h3, (kc 4).trans h4, heldAt_of ((kp 0).trans g0), heldAt_of ((kp 1).trans g1), heldAt_of ((kp 2).trans g2), heldAt_of ((kp 3).trans g3), heldAt_of ((kp 4).trans g4), (kf 0).trans f0, (kf 1).trans f1, (kf 2).trans f2, (kf 3).trans f3, (kf 4).trans f4⟩

theorem keepR_set {y : World} {p q : Nat} {u0 u1 u2 u3 u4 v0 v1 v2 v3 v4 : Value} (h : y.cell? ⟨q, 0, none⟩ = some u0 ∧ y.cell? ⟨q, 1, none⟩ = some u1 ∧ y.cell? ⟨q, 2, none⟩ = some u2 ∧ y.cell? ⟨q, 3, none⟩ = some u3 ∧ y.cell? ⟨q, 4, none⟩ = some u4 ∧ y.cell? ⟨p, 0, none⟩ = some (heldAt y ⟨p, 0, none⟩) ∧ y.cell? ⟨p, 1, none⟩ = some (heldAt y ⟨p, 1, none⟩) ∧ y.cell? ⟨p, 2, none⟩ = some (heldAt y ⟨p, 2, none⟩) ∧ y.cell? ⟨p, 3, none⟩ = some (heldAt y ⟨p, 3, none⟩) ∧ y.cell? ⟨p, 4, none⟩ = some (heldAt y ⟨p, 4, none⟩) ∧ y.frozen? ⟨p, 0, none⟩ = false ∧ y.frozen? ⟨p, 1, none⟩ = false ∧ y.frozen? ⟨p, 2, none⟩ = false ∧ y.frozen? ⟨p, 3, none⟩ = false ∧ y.frozen? ⟨p, 4, none⟩ = false) (hne : p ≠ q) :
    (((((y.setCell ⟨p, 0, none⟩ v0).setCell ⟨p, 1, none⟩ v1).setCell ⟨p, 2, none⟩ v2).setCell ⟨p, 3, none⟩ v3).setCell ⟨p, 4, none⟩ v4).cell? ⟨q, 0, none⟩ = some u0 ∧ (((((y.setCell ⟨p, 0, none⟩ v0).setCell ⟨p, 1, none⟩ v1).setCell ⟨p, 2, none⟩ v2).setCell ⟨p, 3, none⟩ v3).setCell ⟨p, 4, none⟩ v4).cell? ⟨q, 1, none⟩ = some u1 ∧ (((((y.setCell ⟨p, 0, none⟩ v0).setCell ⟨p, 1, none⟩ v1).setCell ⟨p, 2, none⟩ v2).setCell ⟨p, 3, none⟩ v3).setCell ⟨p, 4, none⟩ v4).cell? ⟨q, 2, none⟩ = some u2 ∧ (((((y.setCell ⟨p, 0, none⟩ v0).setCell ⟨p, 1, none⟩ v1).setCell ⟨p, 2, none⟩ v2).setCell ⟨p, 3, none⟩ v3).setCell ⟨p, 4, none⟩ v4).cell? ⟨q, 3, none⟩ = some u3 ∧ (((((y.setCell ⟨p, 0, none⟩ v0).setCell ⟨p, 1, none⟩ v1).setCell ⟨p, 2, none⟩ v2).setCell ⟨p, 3, none⟩ v3).setCell ⟨p, 4, none⟩ v4).cell? ⟨q, 4, none⟩ = some u4 ∧ (((((y.setCell ⟨p, 0, none⟩ v0).setCell ⟨p, 1, none⟩ v1).setCell ⟨p, 2, none⟩ v2).setCell ⟨p, 3, none⟩ v3).setCell ⟨p, 4, none⟩ v4).cell? ⟨p, 0, none⟩ = some (heldAt (((((y.setCell ⟨p, 0, none⟩ v0).setCell ⟨p, 1, none⟩ v1).setCell ⟨p, 2, none⟩ v2).setCell ⟨p, 3, none⟩ v3).setCell ⟨p, 4, none⟩ v4) ⟨p, 0, none⟩) ∧ (((((y.setCell ⟨p, 0, none⟩ v0).setCell ⟨p, 1, none⟩ v1).setCell ⟨p, 2, none⟩ v2).setCell ⟨p, 3, none⟩ v3).setCell ⟨p, 4, none⟩ v4).cell? ⟨p, 1, none⟩ = some (heldAt (((((y.setCell ⟨p, 0, none⟩ v0).setCell ⟨p, 1, none⟩ v1).setCell ⟨p, 2, none⟩ v2).setCell ⟨p, 3, none⟩ v3).setCell ⟨p, 4, none⟩ v4) ⟨p, 1, none⟩) ∧ (((((y.setCell ⟨p, 0, none⟩ v0).setCell ⟨p, 1, none⟩ v1).setCell ⟨p, 2, none⟩ v2).setCell ⟨p, 3, none⟩ v3).setCell ⟨p, 4, none⟩ v4).cell? ⟨p, 2, none⟩ = some (heldAt (((((y.setCell ⟨p, 0, none⟩ v0).setCell ⟨p, 1, none⟩ v1).setCell ⟨p, 2, none⟩ v2).setCell ⟨p, 3, none⟩ v3).setCell ⟨p, 4, none⟩ v4) ⟨p, 2, none⟩) ∧ (((((y.setCell ⟨p, 0, none⟩ v0).setCell ⟨p, 1, none⟩ v1).setCell ⟨p, 2, none⟩ v2).setCell ⟨p, 3, none⟩ v3).setCell ⟨p, 4, none⟩ v4).cell? ⟨p, 3, none⟩ = some (heldAt (((((y.setCell ⟨p, 0, none⟩ v0).setCell ⟨p, 1, none⟩ v1).setCell ⟨p, 2, none⟩ v2).setCell ⟨p, 3, none⟩ v3).setCell ⟨p, 4, none⟩ v4) ⟨p, 3, none⟩) ∧ (((((y.setCell ⟨p, 0, none⟩ v0).setCell ⟨p, 1, none⟩ v1).setCell ⟨p, 2, none⟩ v2).setCell ⟨p, 3, none⟩ v3).setCell ⟨p, 4, none⟩ v4).cell? ⟨p, 4, none⟩ = some (heldAt (((((y.setCell ⟨p, 0, none⟩ v0).setCell ⟨p, 1, none⟩ v1).setCell ⟨p, 2, none⟩ v2).setCell ⟨p, 3, none⟩ v3).setCell ⟨p, 4, none⟩ v4) ⟨p, 4, none⟩) ∧ (((((y.setCell ⟨p, 0, none⟩ v0).setCell ⟨p, 1, none⟩ v1).setCell ⟨p, 2, none⟩ v2).setCell ⟨p, 3, none⟩ v3).setCell ⟨p, 4, none⟩ v4).frozen? ⟨p, 0, none⟩ = false ∧ (((((y.setCell ⟨p, 0, none⟩ v0).setCell ⟨p, 1, none⟩ v1).setCell ⟨p, 2, none⟩ v2).setCell ⟨p, 3, none⟩ v3).setCell ⟨p, 4, none⟩ v4).frozen? ⟨p, 1, none⟩ = false ∧ (((((y.setCell ⟨p, 0, none⟩ v0).setCell ⟨p, 1, none⟩ v1).setCell ⟨p, 2, none⟩ v2).setCell ⟨p, 3, none⟩ v3).setCell ⟨p, 4, none⟩ v4).frozen? ⟨p, 2, none⟩ = false ∧ (((((y.setCell ⟨p, 0, none⟩ v0).setCell ⟨p, 1, none⟩ v1).setCell ⟨p, 2, none⟩ v2).setCell ⟨p, 3, none⟩ v3).setCell ⟨p, 4, none⟩ v4).frozen? ⟨p, 3, none⟩ = false ∧ (((((y.setCell ⟨p, 0, none⟩ v0).setCell ⟨p, 1, none⟩ v1).setCell ⟨p, 2, none⟩ v2).setCell ⟨p, 3, none⟩ v3).setCell ⟨p, 4, none⟩ v4).frozen? ⟨p, 4, none⟩ = false := by
  obtain ⟨h0, h1, h2, h3, h4, g0, g1, g2, g3, g4, f0, f1, f2, f3, f4⟩ := h
  have far : ∀ (y : World) (i j : Nat) (v : Value), (y.setCell ⟨p, i, none⟩ v).cell? ⟨q, j, none⟩ = y.cell? ⟨q, j, none⟩ := fun y i j v => World.cell?_setCell_far y ⟨p, i, none⟩ ⟨q, j, none⟩ v hne
  refine ⟨?_, ?_, ?_, ?_, ?_, ?_, ?_, ?_, ?_, ?_, ?_, ?_, ?_, ?_, ?_⟩
  · rw [far, far, far, far, far]
    exact h0
  · rw [far, far, far, far, far]
    exact h1
  · rw [far, far, far, far, far]
    exact h2
  · rw [far, far, far, far, far]
    exact h3
  · rw [far, far, far, far, far]
    exact h4
  · exact heldAt_some (isSome_set (isSome_set (isSome_set (isSome_set (isSome_set (by rw [g0]; rfl))))))
  · exact heldAt_some (isSome_set (isSome_set (isSome_set (isSome_set (isSome_set (by rw [g1]; rfl))))))
  · exact heldAt_some (isSome_set (isSome_set (isSome_set (isSome_set (isSome_set (by rw [g2]; rfl))))))
  · exact heldAt_some (isSome_set (isSome_set (isSome_set (isSome_set (isSome_set (by rw [g3]; rfl))))))
  · exact heldAt_some (isSome_set (isSome_set (isSome_set (isSome_set (isSome_set (by rw [g4]; rfl))))))
  · rw [World.frozen?_setCell, World.frozen?_setCell, World.frozen?_setCell, World.frozen?_setCell, World.frozen?_setCell]
    exact f0
  · rw [World.frozen?_setCell, World.frozen?_setCell, World.frozen?_setCell, World.frozen?_setCell, World.frozen?_setCell]
    exact f1
  · rw [World.frozen?_setCell, World.frozen?_setCell, World.frozen?_setCell, World.frozen?_setCell, World.frozen?_setCell]
    exact f2
  · rw [World.frozen?_setCell, World.frozen?_setCell, World.frozen?_setCell, World.frozen?_setCell, World.frozen?_setCell]
    exact f3
  · rw [World.frozen?_setCell, World.frozen?_setCell, World.frozen?_setCell, World.frozen?_setCell, World.frozen?_setCell]
    exact f4
end Go.Proofs.YtnmpamfgkidmiaaDoor
