/- Symfile: rows of structs: how many cells; an import's type. -/
import Derived.Test.YtdakooipelligaaSymE
namespace Go.Proofs.Ytdakooipelligaa
open Go.ChangeShapes Go.WideShapes Go.ChangeAt Go.RowKit
set_option linter.unusedVariables false
set_option linter.unusedSimpArgs false

theorem one_flat {α : Type} {f : α → List Value} (h : ∀ x, ∀ u ∈ f x, u.oneCell' = true) (l : List α) : ∀ u ∈ l.flatMap f, u.oneCell' = true := by
  intro u hu
  obtain ⟨x, _, hx⟩ := List.mem_flatMap.1 hu
  exact h x u hx

theorem flat_len {α : Type} {f : α → List Value} {k : Nat} (h : ∀ x, (f x).length = k) (l : List α) : (l.flatMap f).length = l.length * k := by
  induction l with
  | nil => simp
  | cons x l ih => rw [List.flatMap_cons, List.length_append, ih, List.length_cons, h, Nat.add_mul]; omega

theorem im_one (x : Im) : ∀ u ∈ imCells x, u.oneCell' = true := by
  intro u hu
  simp [imCells] at hu
  rcases hu with rfl | rfl <;> rfl

theorem im_len (l : List Im) : (l.flatMap imCells).length = l.length * 2 := flat_len (f := imCells) (k := 2) (fun _ => rfl) l

theorem imInfo : (Try.prog.info? pI).map (fun i => (i.zero, i.size, i.bytes)) = some (some (.agg #[.string ⟨#[]⟩, .int .u32 0]), 2, 24) := by kernel_rfl
end Go.Proofs.Ytdakooipelligaa
