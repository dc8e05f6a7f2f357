/- Ranges: the law's few, rising; lists alike; slices.Clone of segments. -/
import Derived.Test.YtcijjmmckofckaaDoorRngA
import Derived.Test.YtcijjmmckofckaaDoorRowCnt
import Derived.Test.YtcijjmmckofckaaDoorLaid
import Derived.Deep.QuietTactic
import Derived.Deep.RegionHeld3
import Derived.BigQuiet
import Derived.Laws.Cover3
namespace Go.Proofs.YtcijjmmckofckaaDoor
open Go.ChangeShapes Go.WideShapes Go.ChangeAt Go.RowKit
set_option linter.unusedVariables false
set_option linter.unusedSimpArgs false

/-- A segment that is tried. -/
def okS (s : Sg) : Prop := ((-1000000 ≤ s.st ∧ s.st ≤ 1000000) ∧ -1000000 ≤ s.pd) ∧ s.pd ≤ 1000000

instance (s : Sg) : Decidable (okS s) := by unfold okS; infer_instance

def okAll (l : List Sg) : Prop := ∀ s ∈ l, okS s

instance decOkAll (l : List Sg) : Decidable (okAll l) := by unfold okAll; infer_instance

/-- Segments that are tried. -/
def FewS (l : List Sg) : Prop := l.length ≤ 100 ∧ okAll l

instance (l : List Sg) : Decidable (FewS l) := by unfold FewS; infer_instance

instance (l : List Sg) : Decidable (riseS l) := by unfold riseS; infer_instance

/-- Each start below the next one. -/
def riseC : List Sg → Prop
  | a :: b :: l => a.st < b.st ∧ riseC (b :: l)
  | _ => True

instance decRise : ∀ l : List Sg, Decidable (riseC l)
  | [] => isTrue trivial
  | [_] => isTrue trivial
  | a :: b :: l => @instDecidableAnd _ _ (inferInstanceAs (Decidable (a.st < b.st))) (decRise (b :: l))

theorem rise_iff : ∀ l : List Sg, riseS l ↔ riseC l
  | [] => ⟨fun _ => trivial, fun _ => List.Pairwise.nil⟩
  | [a] => ⟨fun _ => trivial, fun _ => List.pairwise_singleton _ _⟩
  | a :: b :: l => by
    have ih := rise_iff (b :: l)
    constructor
    · intro h
      obtain ⟨h1, h2⟩ := List.pairwise_cons.1 h
      exact ⟨h1 b (by simp), ih.1 h2⟩
    · rintro ⟨h1, h2⟩
      have h3 := ih.2 h2
      refine List.pairwise_cons.2 ⟨fun x hx => ?_, h3⟩
      rcases List.mem_cons.1 hx with rfl | hx
      · exact h1
      · have := (List.pairwise_cons.1 h3).1 x hx
        show a.st < x.st
        have h4 : b.st < x.st := this
        omega

theorem riseC_drop (l : List Sg) {t : Nat} (ht : t + 1 < l.length) : riseC (l.drop t) ↔ (l.getD t zSg).st < (l.getD (t + 1) zSg).st ∧ riseC (l.drop (t + 1)) := by
  rw [dropL l zSg (show t < l.length by omega), dropL l zSg ht]
  exact Iff.rfl

theorem riseC_end (l : List Sg) {t : Nat} (ht : l.length ≤ t + 1) : riseC (l.drop t) := by
  by_cases h : t < l.length
  · rw [dropL l zSg h, List.drop_of_length_le ht]
    trivial
  · rw [List.drop_of_length_le (by omega)]
    trivial

theorem few_drop (l : List Sg) {t : Nat} (ht : t < l.length) : okAll (l.drop t) ↔ okS (l.getD t zSg) ∧ okAll (l.drop (t + 1)) := by
  rw [dropL l zSg ht]
  exact List.forall_mem_cons

theorem few_at {l : List Sg} (h : FewS l) {t : Nat} (ht : t < l.length) : okS (l.getD t zSg) := h.2 _ (getD_memS ht)

theorem sg_one (x : Sg) : ∀ u ∈ sgCells x, u.oneCell' = true := by
  intro u hu
  simp [sgCells] at hu
  rcases hu with rfl | rfl <;> rfl

theorem sg_len (l : List Sg) : (l.flatMap sgCells).length = l.length * 2 := flat_len (f := sgCells) (k := 2) (fun _ => rfl) l

set_option maxHeartbeats 16000000 in
set_option maxRecDepth 100000 in
/-- slices.Clone of segments: a row of its own. -/
theorem sgclone_any (v : Value) (B : Nat) (l : List Sg) (w : World) (h : LstV sgCells B w v l) (hn : l.length * 16 ≤ 140737488355328) :
    Calls Tryd.prog 66 #[v] w fun e w' => ∃ v', e = .returned v' ∧ Below w.heap.size w w' ∧ w'.ownsRow w.heap.size sgT 2 v' l.length (l.flatMap sgCells) := by
  obtain ⟨i0, hi, hz0, hz1, hz2⟩ := info_parts sgInfo
  obtain ⟨A, c, rfl, hcell⟩ := h
  have HN := Lib.hid hn
  clear hn
  cases A with
  | none =>
    have hl : l = [] := Classical.byContradiction fun h => by
      obtain ⟨b, off, e, _⟩ := hcell h
      cases e
    subst hl
    have hnil : ∀ W : World, (binOp .eql 34 (.slice none 0 c) (.slice none 0 0)).run Tryd.prog W = .ok (.bool true) W := fun W => by
      simp only [binOp]
      simp [run_equal_slice_nil W 34 sgT none 0 c Tryd.underlying34]
    clear hcell
    go_enter Tryd.func66, Tryd.ntmps66
    go_wp2_with fail
    go_ret
    exact ⟨_, rfl, Below.refl _ _, row_nil _ _ _ _⟩
  | some a =>
    have hnil : ∀ W : World, (binOp .eql 34 (.slice (some a) l.length c) (.slice none 0 0)).run Tryd.prog W = .ok (.bool false) W := fun W => by
      simp only [binOp]
      simp [run_equal_slice_nil W 34 sgT (some a) l.length c Tryd.underlying34]
    have BA := Lib.hid ((Below.refl w.heap.size w).alloc (Nat.le_refl _) (.cells #[] sgT))
    have OE := Lib.hid (row_built (e := sgT) (sz := 2) w #[] 0 0 rfl (Nat.le_refl _) (Nat.zero_le _) w.heap.size (Nat.le_refl _) _ rfl [] rfl)
    have hzz : w.heap.size ≤ (w.alloc (.cells #[] sgT)).heap.size := BA.out.size
    have NC := Lib.hid (show ∀ (j : Nat) u, (l.flatMap sgCells)[j]? = some u → (w.alloc (.cells #[] sgT)).cell? (a.add j) = some u from fun j u hj => by
      by_cases hp : l = []
      · subst hp
        simp at hj
      · obtain ⟨b, off, hA, _, hb, hc⟩ := hcell hp
        injection hA with hA
        subst hA
        rw [Go.WideShapes.add_plain]
        exact (BA.out.cell (p := ⟨b, off + j, none⟩) hb).trans (hc j u hj))
    clear hcell
    go_enter Tryd.func66, Tryd.ntmps66
    go_wp2_with (first | (at_builtin; refine wpList_append_own_at _ rfl _ _ 34 rfl w.heap.size sgT i0 _ 2 16 Tryd.underlying34 hi hz0 hz1 hz2 rfl (by decide) (.slice (some ⟨w.heap.size, 0, none⟩) 0 0) 0 [] rfl OE.out a l.length c (l.flatMap sgCells) rfl (sg_len l) NC.out (one_flat sg_one _) (by have := HN.out; unfold maxLen; omega) (by have := HN.out; omega) hzz ?_; intro v3 w3 ho3 hg3 hnl hat; have B3 := Lib.hid (BA.out.grown hg3 hzz (fun b hb => (World.ownsRow.lt OE.out b hb).1)); have O3 := Lib.hid ho3; clear ho3 hg3 hat hnl))
    go_ret
    exact ⟨_, rfl, B3.out, by have := O3.out; rwa [Nat.zero_add, List.nil_append] at this⟩
end Go.Proofs.YtcijjmmckofckaaDoor
