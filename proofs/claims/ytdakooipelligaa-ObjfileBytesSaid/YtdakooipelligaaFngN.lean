/- Finger: a Reader's Err, Left; the program's Read. -/
import Derived.Test.YtdakooipelligaaFngM
namespace Go.Proofs.Ytdakooipelligaa
open Go.ChangeShapes Go.WideShapes Go.ChangeAt Go.RowKit
set_option linter.unusedVariables false
set_option linter.unusedSimpArgs false

set_option maxHeartbeats 1000000 in
set_option maxRecDepth 100000 in
theorem rerr_any (g D : Nat) (zs : List Int) (err : Int) (w : World) (h : RdAt w g D zs err) :
    Calls Try.prog 56 #[.pointer (some ⟨g, 0, none⟩)] w fun e w' => e = .returned (.int .i64 err) ∧ w = w' := by
  obtain ⟨A, c, hW, hc, hD, hz⟩ := h
  have c1 : w.cell? ⟨g, 1, none⟩ = some (.int .i64 err) := hW.cell 1
  clear hW hc hD hz
  go_enter Try.func56, Try.ntmps56
  go_wp2_with fail
  go_ret
  exact ⟨rfl, rfl⟩

/-- A made list beside a Reader's call. -/
theorem RowE.keepRd {w w' : World} {B' g D : Nat} {v : Value} {l : List Exx} {zs : List Int} {err : Int} (h : RowE w 0 B' v l) (hr : RdAt w g D zs err) (k : KeptS (RdS g) w w') (hg : g < B') : RowE w' 0 B' v l := by
  refine ⟨k.row h.row (fun b hb hs => ?_), fun x hx => (h.par x hx).keep (Nat.le_refl _) k.size (fun b hb ht => k.block b hb (fun hs => ?_))⟩
  · have := (World.ownsRow.lt h.row b hb).1
    have hs : b = g := hs
    omega
  · have hs : b = g := hs
    subst hs
    obtain ⟨A, c, hW, _⟩ := hr
    rcases ht with ht | ⟨cs, fz, e⟩
    · omega
    · have hW : w.heap[b]? = some (.cells _ rdT (0, 0)) := hW
      rw [hW] at e
      injection e with e
      injection e with _ e _
      exact absurd e (by decide)

/-- What Read leaves. -/
def RdList (w : World) (g D : Nat) (st : RSt) (e : Ending) (w' : World) : Prop :=
  ∃ v l, e = .returned v ∧ RowE w' 0 w.heap.size v l ∧ l.map (·.1) = (rdAll st).1 ∧ RdAt w' g D (rdAll st).2.1 (rdAll st).2.2 ∧ KeptS (RdS g) w w'

end Go.Proofs.Ytdakooipelligaa