/- Lists, plainly: the cells of a row counted; the next element; what decides. -/
import Derived.Test.YtcijjmmckofckaaDoorRowLib
namespace Go.Proofs.YtcijjmmckofckaaDoor
open Go.ChangeShapes Go.WideShapes Go.ChangeAt Go.RowKit
set_option linter.unusedVariables false
set_option linter.unusedSimpArgs false

theorem one_flat {α : Type} {f : α → List Value} (h : ∀ x, ∀ u ∈ f x, u.oneCell' = true) (l : List α) : ∀ u ∈ l.flatMap f, u.oneCell' = true := by
  intro u hu
  obtain ⟨x, _, hx⟩ := List.mem_flatMap.1 hu
  exact h x u hx

theorem flat_len {α : Type} {f : α → List Value} {k : Nat} (h : ∀ x, (f x).length = k) (l : List α) : (l.flatMap f).length = l.length * k := by
  induction l with
  | nil => simp
  | cons x l ih => rw [List.flatMap_cons, List.length_append, ih, List.length_cons, h, Nat.add_mul]; omega

theorem dropL {α : Type} (l : List α) (d : α) {t : Nat} (h : t < l.length) : l.drop t = l.getD t d :: l.drop (t + 1) := by
  rw [List.drop_eq_getElem_cons h, List.getD_eq_getElem?_getD, List.getElem?_eq_getElem h]
  rfl

theorem takeL {α : Type} (l : List α) (d : α) {t : Nat} (h : t < l.length) : l.take (t + 1) = l.take t ++ [l.getD t d] := by
  rw [List.take_add_one, List.getD_eq_getElem?_getD, List.getElem?_eq_getElem h]
  rfl

theorem dec_no {p : Prop} [Decidable p] {r : Bool} (h : r = decide p) (h2 : ¬ p) : r = false := h.trans (decide_eq_false h2)

theorem dec_yes {p : Prop} [Decidable p] {r : Bool} (h : r = decide p) (h2 : p) : r = true := h.trans (decide_eq_true h2)

theorem dec_iff {p q : Prop} [Decidable p] [Decidable q] {r : Bool} (h : r = decide p) (h2 : p ↔ q) : r = decide q := h.trans (by simp [h2])
end Go.Proofs.YtcijjmmckofckaaDoor
