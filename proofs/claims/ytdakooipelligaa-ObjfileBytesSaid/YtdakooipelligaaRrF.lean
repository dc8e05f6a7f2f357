/- A list that is read by a codec.Reader, one element a round (any element type); a list that is written, beside a codec.Writer. -/
import Derived.Test.YtdakooipelligaaLstV
import Derived.Test.YtdakooipelligaaFngM
namespace Go.Proofs.Ytdakooipelligaa
open Go.ChangeShapes Go.WideShapes Go.ChangeAt Go.RowKit
set_option linter.unusedVariables false
set_option linter.unusedSimpArgs false

/-- In the middle of a list that is read: the Reader at g, its bytes in block D, the row. -/
structure RrF {α : Type} (f : α → List Value) (e : TypeId) (sz : Nat) (w0 w : World) (g D : Nat) (zs : List Int) (err : Int) (v : Value) (l : List α) : Prop where
  R : RdAt w g D zs err
  K : KeptS (RdS g) w0 w
  P : w.ownsRow w0.heap.size e sz v l.length (l.flatMap f)
  lg : g < w0.heap.size
  lD : D < w0.heap.size

section
variable {α : Type} {f : α → List Value} {e : TypeId} {sz : Nat} {w0 w w' : World} {g D : Nat} {zs zs' : List Int} {err err' : Int} {v v' : Value} {l : List α}

theorem RrF.start (hr : RdAt w g D zs err) (hk : KeptS (RdS g) w0 w) (h0 : RdAt w0 g D zs' err') : RrF f e sz w0 w g D zs err (.slice none 0 0) [] :=
  ⟨hr, hk, row_nil _ _ _ _, h0.lt.1, h0.lt.2⟩

theorem RrF.call (h : RrF f e sz w0 w g D zs err v l) (hr : RdAt w' g D zs' err') (hk : KeptS (RdS g) w w') : RrF f e sz w0 w' g D zs' err' v l :=
  ⟨hr, h.K.trans hk (fun i hi => .inl hi), hk.row h.P (fun b hb hs => by have := (World.ownsRow.lt h.P b hb).1; have := h.lg; have hs : b = g := hs; omega), h.lg, h.lD⟩

theorem RrF.below (h : RrF f e sz w0 w g D zs err v l) (hb : Below w.heap.size w w') : RrF f e sz w0 w' g D zs err v l :=
  ⟨h.R.below hb, h.K.trans (S' := fun _ => False) (KeptS.ofBelow hb) (fun i hi => hi.elim), row_below h.P hb, h.lg, h.lD⟩

/-- A store into a box of another. -/
theorem RrF.far (h : RrF f e sz w0 w g D zs err v l) {p i : Nat} {u : Value} (hp : w0.heap.size ≤ p) (ho : v.ownBlock ≠ some p) : RrF f e sz w0 (w.setCell ⟨p, i, none⟩ u) g D zs err v l :=
  ⟨rdAt_store h.R (by have := h.lg; omega) (by have := h.lD; omega),
    h.K.trans (S' := fun b => b = p) (KeptS.set rfl) (fun i hi => .inr (by omega)),
    (KeptS.set (S := fun b => b = p) (w := w) (g := p) (j := i) (u := u) rfl).row h.P (fun b hb hs => by subst hs; exact ho hb), h.lg, h.lD⟩

/-- The row grown. -/
theorem RrF.grown (h : RrF f e sz w0 w g D zs err v l) {x : α} (hg : w.grownBy w' v.ownBlock) (ho : w'.ownsRow w0.heap.size e sz v' (l.length + 1) (l.flatMap f ++ f x)) : RrF f e sz w0 w' g D zs err v' (l ++ [x]) := by
  have hne : ∀ b, v.ownBlock = some b → w0.heap.size ≤ b := fun b hb => (World.ownsRow.lt h.P b hb).1
  have hk : KeptS (fun b => v.ownBlock = some b) w w' := KeptS.grown hg (fun b hb => hb)
  refine ⟨h.R.keep hk (fun hs => ?_) (fun hs => ?_), h.K.trans hk (fun i hi => .inr (hne i hi)), row_snoc ho, h.lg, h.lD⟩
  · have := hne g hs
    have := h.lg
    omega
  · have := hne D hs
    have := h.lD
    omega

/-- What stood ahead of the reading stands behind it: another row, a box. -/
theorem RrF.row (h : RrF f e sz w0 w g D zs err v l) {B : Nat} {e' : TypeId} {sz' n : Nat} {v2 : Value} {xs : List Value} (hr : w0.ownsRow B e' sz' v2 n xs) (hB : g < B) : w.ownsRow B e' sz' v2 n xs :=
  h.K.row hr (fun b hb hs => by have := (World.ownsRow.lt hr b hb).1; have hs : b = g := hs; omega)

theorem RrF.box (h : RrF f e sz w0 w g D zs err v l) {p : Nat} {t : TypeId} {cs : Array Value} (hp : Whole w0 p t cs) (hne : p ≠ g) : Whole w p t cs := h.K.whole hp hne
end
end Go.Proofs.Ytdakooipelligaa
