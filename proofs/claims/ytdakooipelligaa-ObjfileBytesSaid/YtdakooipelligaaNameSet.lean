/- A set of names in a map that a call makes (keys: texts; elements read by R): which names are in it. Over any program. -/
import Derived.Test.YtdakooipelligaaRowLib
import Derived.Maps.OwnSet
import Derived.Maps.OwnOps
import Derived.StringKeys
namespace Go.Proofs.Ytdakooipelligaa
open Go.ChangeShapes Go.WideShapes Go.ChangeAt Go.RowKit
set_option linter.unusedVariables false
set_option linter.unusedSimpArgs false

/-- A name, as a map's key. -/
abbrev nmKey (s : ByteArray) : Lit := .string s.data.toList

theorem nmKey_inj {s t : ByteArray} (h : nmKey s = nmKey t) : s = t := by
  unfold nmKey at h
  injection h with h
  exact ByteArray.ext (Array.ext' h)

section
variable {P : Program} {k : TypeId} {R : Value → Option (DataW Unit × List MemPlace)} {w w' : World} {b n : Nat} {L : List ByteArray}

/-- Block b is a map of n entries at most, and its keys are these names. -/
def NameSet (P : Program) (k : TypeId) (R : Value → Option (DataW Unit × List MemPlace)) (w : World) (b n : Nat) (L : List ByteArray) : Prop :=
  ∃ D : DataW Unit, w.ownsMap P k R b n D ∧ Maps.IsMap D ∧ ∀ s, Maps.has D (nmKey s) = true ↔ s ∈ L

theorem NameSet.made (P : Program) (k : TypeId) (R : Value → Option (DataW Unit × List MemPlace)) (w : World) : NameSet P k R (w.alloc (.map #[] 0)) w.heap.size 0 [] :=
  ⟨.map [], World.ownsMap_made w P k R, Maps.isMap_empty, fun s => by simp [Maps.has]⟩

theorem NameSet.lt (h : NameSet P k R w b n L) : b < w.heap.size := by
  obtain ⟨D, h1, _⟩ := h
  exact h1.lt

theorem NameSet.kept {row : Option Nat} (h : NameSet P k R w b n L) (hg : w.grownBy w' row) (hne : some b ≠ row) : NameSet P k R w' b n L := by
  obtain ⟨D, h1, h2, h3⟩ := h
  exact ⟨D, h1.kept hg hne, h2, h3⟩

theorem NameSet.below (h : NameSet P k R w b n L) (hb : Below w.heap.size w w') : NameSet P k R w' b n L := by
  have hl := h.lt
  obtain ⟨D, ⟨es, clock, h1, h2⟩, h3⟩ := h
  exact ⟨D, ⟨es, clock, (hb.block b hl).trans h1, h2⟩, h3⟩

/-- Is a name in it? -/
theorem NameSet.has {D : DataW Unit} (h3 : ∀ s, Maps.has D (nmKey s) = true ↔ s ∈ L) (s : ByteArray) : (s ∈ L → Maps.has D (nmKey s) = true) ∧ (s ∉ L → Maps.has D (nmKey s) = false) :=
  ⟨(h3 s).2, fun h => by
    cases e : Maps.has D (nmKey s)
    · rfl
    · exact absurd ((h3 s).1 e) h⟩

/-- A name more. -/
theorem NameSet.put {D d : DataW Unit} {s : ByteArray} (h2 : Maps.IsMap D) (h3 : ∀ t, Maps.has D (nmKey t) = true ↔ t ∈ L) (ho : w.ownsMap P k R b n (D.put (nmKey s) d)) : NameSet P k R w b n (L ++ [s]) := by
  refine ⟨_, ho, h2.put _ _, fun t => ?_⟩
  by_cases e : t = s
  · subst e
    rw [Maps.has_put_same h2 (by trivial) d]
    simp
  · rw [Maps.has_put_other (fun h => e (nmKey_inj h)) d, h3 t]
    simp [e]
end
end Go.Proofs.Ytdakooipelligaa
