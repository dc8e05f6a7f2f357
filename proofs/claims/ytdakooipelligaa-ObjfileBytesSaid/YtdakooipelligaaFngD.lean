/- Finger: the answers' Bytes, Key. -/
import Derived.Test.YtdakooipelligaaFngC
namespace Go.Proofs.Ytdakooipelligaa
open Go.ChangeShapes Go.WideShapes Go.ChangeAt Go.RowKit
set_option linter.unusedVariables false
set_option linter.unusedSimpArgs false

/-- An own row of bytes, and a box of an export beside it. -/
structure OutF (W w : World) (x : Nat) (xc : Array Value) (v : Value) (bs : List Int) : Prop where
  own : Owns .u8 u8T w W.heap.size v bs.length bs
  bel : Below W.heap.size W w
  box : Whole w x pE xc

theorem OutF.below {W w w' : World} {x : Nat} {xc : Array Value} {v : Value} {bs : List Int} (h : OutF W w x xc v bs) (hb : Below w.heap.size w w') : OutF W w' x xc v bs :=
  ⟨h.own.keepS (S := fun _ => False) (KeptS.ofBelow hb) (fun _ _ h => h), h.bel.trans (hb.mono h.bel.size), h.box.below hb h.box.lt⟩

theorem OutF.grown {W w w' : World} {x : Nat} {xc : Array Value} {v v' : Value} {bs zs : List Int} (h : OutF W w x xc v bs) (hg : w.grownBy w' v.ownBlock) (ho : Owns .u8 u8T w' W.heap.size v' (bs.length + zs.length) (bs ++ zs)) : OutF W w' x xc v' (bs ++ zs) :=
  ⟨by rw [List.length_append]; exact ho, Owns.grown_below h.bel h.own hg h.bel.size, (hg.block x h.box.lt (fun e => row_ne h.own h.box (fun _ _ e => by injection e with _ e _; exact absurd e (by decide)) e.symm)).trans h.box⟩

/-- A row of bytes that was just made. -/
theorem nums_len {w : World} {A : Option Addr} {n : Nat} {zs : List Int} (h : Nums .u8 w A n zs) : Nums .u8 w A zs.length zs := by
  rw [h.1]
  exact h

end Go.Proofs.Ytdakooipelligaa