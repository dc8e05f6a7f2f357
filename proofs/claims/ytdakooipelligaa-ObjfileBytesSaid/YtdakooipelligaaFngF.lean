/- Finger: which exports are alike, plainly. -/
import Derived.Test.YtdakooipelligaaFngE
import Derived.Deep.RegionHeld3
import Derived.BigRegion
namespace Go.Proofs.Ytdakooipelligaa
open Go.ChangeShapes Go.WideShapes Go.ChangeAt Go.RowKit
set_option linter.unusedVariables false
set_option linter.unusedSimpArgs false

/-- Are they alike? -/
noncomputable def alike (l m : List Ex) : Bool := @decide (l = m) (Classical.propDecidable _)

theorem alike_yes {l m : List Ex} (h : l = m) : alike l m = true := @decide_eq_true _ (Classical.propDecidable _) h

theorem alike_no {l m : List Ex} (h : l ≠ m) : alike l m = false := @decide_eq_false _ (Classical.propDecidable _) h

theorem alike_eq {l m : List Ex} (h : alike l m = true) : l = m := @of_decide_eq_true _ (Classical.propDecidable _) h

theorem nm_ne {a b : ByteArray} (h : a ≠ b) : (a.toList == b.toList) = false := by
  rw [ByteArray.toList_eq, ByteArray.toList_eq]
  obtain ⟨⟨x⟩⟩ := a
  obtain ⟨⟨y⟩⟩ := b
  simp only [beq_eq_false_iff_ne, ne_eq]
  intro e
  exact h (by rw [e])

/-- In what two exports differ. -/
inductive DifX (x y : Ex) : Prop
  | nm (h : x.nm ≠ y.nm)
  | kd (h0 : x.nm = y.nm) (h : x.kd ≠ y.kd)
  | ty (h0 : x.nm = y.nm) (h1 : x.kd = y.kd) (h : x.ty ≠ y.ty)
  | vl (h0 : x.nm = y.nm) (h1 : x.kd = y.kd) (h2 : x.ty = y.ty) (h : x.vl ≠ y.vl)
  | ps (h0 : x.nm = y.nm) (h1 : x.kd = y.kd) (h2 : x.ty = y.ty) (h3 : x.vl = y.vl) (h : x.ps ≠ y.ps)

theorem difX {x y : Ex} (h : x ≠ y) : DifX x y := by
  by_cases h0 : x.nm = y.nm
  · by_cases h1 : x.kd = y.kd
    · by_cases h2 : x.ty = y.ty
      · by_cases h3 : x.vl = y.vl
        · by_cases h4 : x.ps = y.ps
          · obtain ⟨a, b, c, d, e⟩ := x
            obtain ⟨a', b', c', d', e'⟩ := y
            simp only at h0 h1 h2 h3 h4
            subst h0 h1 h2 h3 h4
            exact absurd rfl h
          · exact .ps h0 h1 h2 h3 h4
        · exact .vl h0 h1 h2 h3
      · exact .ty h0 h1 h2
    · exact .kd h0 h1
  · exact .nm h0

theorem map_take_same {l1 l2 : List Exx} {t : Nat} (h1 : t < l1.length) (h2 : t < l2.length) (h : (l1.take t).map (·.1) = (l2.take t).map (·.1)) (he : (l1.getD t zEx).1 = (l2.getD t zEx).1) : (l1.take (t + 1)).map (·.1) = (l2.take (t + 1)).map (·.1) := by
  rw [List.map_take, List.map_take] at h ⊢
  refine take_same zE (by rw [List.length_map]; exact h1) (by rw [List.length_map]; exact h2) h ?_
  rw [getD_map (·.1) l1 zEx zE h1, getD_map (·.1) l2 zEx zE h2]
  exact he

theorem map_dif {l1 l2 : List Exx} {t : Nat} (h1 : t < l1.length) (h2 : t < l2.length) (he : (l1.getD t zEx).1 ≠ (l2.getD t zEx).1) : l1.map (·.1) ≠ l2.map (·.1) := fun e => he (by
  rw [← getD_map (·.1) l1 zEx zE h1, ← getD_map (·.1) l2 zEx zE h2, e])
end Go.Proofs.Ytdakooipelligaa
