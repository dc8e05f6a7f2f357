/- Finger: the program's readExport. -/
import Derived.Test.YtdakooipelligaaFngL
import Derived.Test.YtdakooipelligaaRowSet
import Derived.Maps.AppendAt
import Derived.Deep.RegionHeld3
import Derived.BigRegion
namespace Go.Proofs.Ytdakooipelligaa
open Go.ChangeShapes Go.WideShapes Go.ChangeAt Go.RowKit
set_option linter.unusedVariables false
set_option linter.unusedSimpArgs false

theorem rdAt_store {w : World} {g D x i : Nat} {zs : List Int} {err : Int} {u : Value} (h : RdAt w g D zs err) (hg : g ≠ x) (hD : D ≠ x) : RdAt (w.setCell ⟨x, i, none⟩ u) g D zs err :=
  h.keep (S := fun b => b = x) (KeptS.set rfl) hg hD

theorem set_five {w : World} {g : Nat} {t : TypeId} {c0 c1 c2 c3 c4 : Value} (h : Whole w g t #[c0, c1, c2, c3, c4]) (u0 u1 u2 u3 u4 : Value) :
    Whole (((((w.setCell ⟨g, 0, none⟩ u0).setCell ⟨g, 1, none⟩ u1).setCell ⟨g, 2, none⟩ u2).setCell ⟨g, 3, none⟩ u3).setCell ⟨g, 4, none⟩ u4) g t #[u0, u1, u2, u3, u4] ∧ w.grownBy (((((w.setCell ⟨g, 0, none⟩ u0).setCell ⟨g, 1, none⟩ u1).setCell ⟨g, 2, none⟩ u2).setCell ⟨g, 3, none⟩ u3).setCell ⟨g, 4, none⟩ u4) (some g) :=
  ⟨((((h.store 0 u0).store 1 u1).store 2 u2).store 3 u3).store 4 u4, ((((grown_set w g 0 u0).trans (grown_set _ g 1 u1)).trans (grown_set _ g 2 u2)).trans (grown_set _ g 3 u3)).trans (grown_set _ g 4 u4)⟩

/-- In the middle of an export that is read: the Reader at g; the export's box x, the result's box q; the row of its parameters. -/
structure RxF (w0 w : World) (g D : Nat) (zs : List Int) (err : Int) (x q : Nat) (xc : Array Value) (pv : Value) (ps : List (Int × Bool)) : Prop where
  R : RdAt w g D zs err
  X : Whole w x pE xc
  Q : Whole w q pE #[.string ⟨#[]⟩, .int .i64 0, .int .i64 0, .int .i32 0, .slice none 0 0]
  K : KeptS (RdS g) w0 w
  P : w.ownsRow w0.heap.size pP 2 pv ps.length (ps.flatMap parCells)
  lg : g < w0.heap.size
  lD : D < w0.heap.size
  lx : w0.heap.size ≤ x
  lq : w0.heap.size ≤ q
  ne : x ≠ q

section
variable {w0 w w' : World} {g D : Nat} {zs zs' : List Int} {err err' : Int} {x q : Nat} {xc : Array Value} {pv pv' : Value} {ps : List (Int × Bool)}

theorem RxF.call (h : RxF w0 w g D zs err x q xc pv ps) (hr : RdAt w' g D zs' err') (hk : KeptS (RdS g) w w') : RxF w0 w' g D zs' err' x q xc pv ps :=
  ⟨hr, hk.whole h.X (by have := h.lg; have := h.lx; show ¬ x = g; omega), hk.whole h.Q (by have := h.lg; have := h.lq; show ¬ q = g; omega), h.K.trans hk (fun i hi => .inl hi), hk.row h.P (fun b hb hs => by have := (World.ownsRow.lt h.P b hb).1; have := h.lg; have hs : b = g := hs; omega), h.lg, h.lD, h.lx, h.lq, h.ne⟩

theorem RxF.put (h : RxF w0 w g D zs err x q xc pv ps) (i : Nat) (u : Value) : RxF w0 (w.setCell ⟨x, i, none⟩ u) g D zs err x q (xc.setIfInBounds i u) pv ps :=
  ⟨rdAt_store h.R (by have := h.lg; have := h.lx; omega) (by have := h.lD; have := h.lx; omega), h.X.store i u, h.Q.far h.ne.symm u,
    h.K.trans (S' := fun b => b = x) (KeptS.set rfl) (fun i hi => .inr (by have := h.lx; omega)),
    (KeptS.set (S := fun b => b = x) (w := w) (g := x) (j := i) (u := u) rfl).row h.P (fun b hb hs => by subst hs; exact row_ne h.P h.X (fun _ _ e => by injection e with _ e _; exact absurd e (by decide)) hb), h.lg, h.lD, h.lx, h.lq, h.ne⟩

theorem RxF.below (h : RxF w0 w g D zs err x q xc pv ps) (hb : Below w.heap.size w w') : RxF w0 w' g D zs err x q xc pv ps :=
  ⟨h.R.below hb, h.X.below hb h.X.lt, h.Q.below hb h.Q.lt, h.K.trans (S' := fun _ => False) (KeptS.ofBelow hb) (fun i hi => hi.elim), row_below h.P hb, h.lg, h.lD, h.lx, h.lq, h.ne⟩

/-- A store into a box of another. -/
theorem RxF.far (h : RxF w0 w g D zs err x q xc pv ps) {p i : Nat} {u : Value} (hp : w0.heap.size ≤ p) (hx : x ≠ p) (hq : q ≠ p) (ho : pv.ownBlock ≠ some p) : RxF w0 (w.setCell ⟨p, i, none⟩ u) g D zs err x q xc pv ps :=
  ⟨rdAt_store h.R (by have := h.lg; omega) (by have := h.lD; omega), h.X.far hx u, h.Q.far hq u,
    h.K.trans (S' := fun b => b = p) (KeptS.set rfl) (fun i hi => .inr (by omega)),
    (KeptS.set (S := fun b => b = p) (w := w) (g := p) (j := i) (u := u) rfl).row h.P (fun b hb hs => by subst hs; exact ho hb), h.lg, h.lD, h.lx, h.lq, h.ne⟩

/-- The row of the parameters grown. -/
theorem RxF.grown (h : RxF w0 w g D zs err x q xc pv ps) {p : Int × Bool} (hg : w.grownBy w' pv.ownBlock) (ho : w'.ownsRow w0.heap.size pP 2 pv' (ps.length + 1) (ps.flatMap parCells ++ parCells p)) : RxF w0 w' g D zs err x q xc pv' (ps ++ [p]) := by
  have hne : ∀ b, pv.ownBlock = some b → w0.heap.size ≤ b := fun b hb => (World.ownsRow.lt h.P b hb).1
  have hk : KeptS (fun b => pv.ownBlock = some b) w w' := KeptS.grown hg (fun b hb => hb)
  refine ⟨h.R.keep hk (fun hs => ?_) (fun hs => ?_), hk.whole h.X (fun hs => ?_), hk.whole h.Q (fun hs => ?_), h.K.trans hk (fun i hi => .inr (hne i hi)), by rw [List.length_append, List.flatMap_append, List.length_singleton, List.flatMap_singleton]; exact ho, h.lg, h.lD, h.lx, h.lq, h.ne⟩
  · have := hne g hs
    have := h.lg
    omega
  · have := hne D hs
    have := h.lD
    omega
  · exact row_ne h.P h.X (fun _ _ e => by injection e with _ e _; exact absurd e (by decide)) hs
  · exact row_ne h.P h.Q (fun _ _ e => by injection e with _ e _; exact absurd e (by decide)) hs
end

end Go.Proofs.Ytdakooipelligaa