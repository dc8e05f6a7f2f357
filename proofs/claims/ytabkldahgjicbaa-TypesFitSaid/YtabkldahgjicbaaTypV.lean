/- Types: fields don't overlap, and stand within their record: plainly. -/
import Derived.Test.YtabkldahgjicbaaTypX
namespace Go.Proofs.Ytabkldahgjicbaa
open Go.ChangeShapes Go.WideShapes Go.ChangeAt Go.RowKit
set_option linter.unusedVariables false
set_option linter.unusedSimpArgs false

/-- The sizes of fields together. -/
def sumS (L : List Ty) : List Fd → Int
  | [] => 0
  | f :: l => (getT L f.ty).size + sumS L l

theorem sumS_append (L : List Ty) : ∀ (a b : List Fd), sumS L (a ++ b) = sumS L a + sumS L b
  | [], b => by simp [sumS]
  | f :: a, b => by
    show (getT L f.ty).size + sumS L (a ++ b) = (getT L f.ty).size + sumS L a + sumS L b
    rw [sumS_append L a b]
    omega

theorem sumS_keep {L L' : List Ty} : ∀ {l : List Fd}, (∀ f ∈ l, getT L' f.ty = getT L f.ty) → sumS L' l = sumS L l
  | [], _ => rfl
  | f :: l, h => by
    show (getT L' f.ty).size + sumS L' l = (getT L f.ty).size + sumS L l
    rw [h f (by simp), sumS_keep (fun g hg => h g (by simp [hg]))]

theorem sumS_bound {n : Nat} {L : List Ty} (h : Inv n L) : ∀ (l : List Fd), 0 ≤ sumS L l ∧ sumS L l ≤ 16384 * l.length
  | [] => ⟨Int.le_refl _, by simp [sumS]⟩
  | f :: l => by
    have h1 := h.get f.ty
    have h2 := sumS_bound h l
    show 0 ≤ (getT L f.ty).size + sumS L l ∧ (getT L f.ty).size + sumS L l ≤ 16384 * ((f :: l).length : Int)
    rw [List.length_cons]
    omega

theorem whole_in {L : List Ty} {id : Int} (h : wholeB (getT L id) = true) : 0 ≤ id ∧ id < L.length := by
  by_cases hi : 0 ≤ id ∧ id < L.length
  · exact hi
  · rw [getT_out hi] at h
    exact absurd h (by decide)

/-- A type fits. -/
structure FitX (L : List Ty) (x : Ty) : Prop where
  whole : ∀ f ∈ x.fds, wholeB (getT L f.ty) = true
  off : ∀ i, i < x.fds.length → (x.fds.getD i zF).off = sumS L (x.fds.take i)
  sum : x.kind = 6 → sumS L x.fds = x.size
  arr : x.kind = 5 → x.size = x.len * (getT L x.base).size ∧ wholeB (getT L x.base) = true

theorem FitX.keep {L L' : List Ty} {x : Ty} (h : FitX L x) (hk : ∀ id, wholeB (getT L id) = true → getT L' id = getT L id) : FitX L' x := by
  refine ⟨fun f hf => ?_, fun i hi => ?_, fun h6 => ?_, fun h5 => ?_⟩
  · rw [hk _ (h.whole f hf)]
    exact h.whole f hf
  · rw [h.off i hi]
    exact (sumS_keep (fun f hf => hk _ (h.whole f (List.mem_of_mem_take hf)))).symm
  · rw [sumS_keep (fun f hf => hk _ (h.whole f hf))]
    exact h.sum h6
  · obtain ⟨h1, h2⟩ := h.arr h5
    rw [hk _ h2]
    exact ⟨h1, h2⟩

def Fit (L : List Ty) : Prop := ∀ x ∈ L, FitX L x

theorem Fit.start : Fit newL := by
  intro x hx
  simp [newL] at hx
  rcases hx with rfl | rfl | rfl | rfl | rfl <;> exact ⟨fun f hf => (List.not_mem_nil hf).elim, fun i hi => absurd hi (by simp), (fun h => by cases h), (fun h => by cases h)⟩

theorem Fit.get {L : List Ty} (h : Fit L) (id : Int) : FitX L (getT L id) := by
  by_cases hi : 0 ≤ id ∧ id < L.length
  · exact h _ (getT_mem hi)
  · rw [getT_out hi]
    exact ⟨fun f hf => (List.not_mem_nil hf).elim, fun i hi => absurd hi (by simp [zT]), (fun h => by cases h), (fun h => by cases h)⟩

theorem Fit.add {L : List Ty} (h : Fit L) {x : Ty} (hf : x.fds = []) (h6 : x.kind = 6 → x.size = 0) (h5 : x.kind = 5 → x.size = x.len * (getT L x.base).size ∧ wholeB (getT L x.base) = true) : Fit (addP L x).1 := by
  unfold addP
  split
  · exact h
  · have hk : ∀ id, wholeB (getT L id) = true → getT (L ++ [x]) id = getT L id := fun id hid => getT_append (whole_in hid)
    intro y hy
    rcases List.mem_append.1 hy with hy | hy
    · exact (h y hy).keep hk
    · obtain rfl := List.mem_singleton.1 hy
      refine FitX.keep (L := L) ⟨by rw [hf]; exact fun f hf => (List.not_mem_nil hf).elim, by rw [hf]; exact fun i hi => absurd hi (by simp), fun h => by rw [hf, h6 h]; rfl, h5⟩ hk

theorem Fit.set {L : List Ty} (h : Fit L) {id : Int} (hop : (getT L id).opn = true) {y : Ty} (hy : FitX L y) : Fit (L.set id.toNat y) := by
  have hin : 0 ≤ id ∧ id < L.length := by
    by_cases hi : 0 ≤ id ∧ id < L.length
    · exact hi
    · rw [getT_out hi] at hop
      cases hop
  have ht : id.toNat < L.length := by omega
  have hk : ∀ j, wholeB (getT L j) = true → getT (L.set id.toNat y) j = getT L j := fun j hj => by
    rw [getT_set ht, if_neg ?_]
    intro e
    have e2 : j = id := by omega
    rw [e2] at hj
    unfold wholeB at hj
    rw [hop] at hj
    simp at hj
  intro z hz
  rcases List.mem_or_eq_of_mem_set hz with hz | rfl
  · exact (h z hz).keep hk
  · exact hy.keep hk

theorem Fit.step {n : Nat} {L : List Ty} (h : Fit L) (hI : Inv n L) (o : OpT) : Fit (doP L o) := by
  unfold doP
  split
  · unfold arrayP
    split
    · exact h
    · rename_i hw
      split
      · exact h
      · exact h.add rfl (fun e => by cases e) (fun _ => ⟨rfl, by simpa using hw⟩)
  · split
    · unfold openP
      exact h.add rfl (fun _ => rfl) (fun e => by cases e)
    · split
      · unfold fieldP
        split
        · exact h
        · rename_i h1
          split
          · exact h
          · rename_i hw
            split
            · exact h
            · split
              · exact h
              · have hop : (getT L o.a).opn = true := by simpa using h1
                have h6 := (hI.get o.a).2.2.2.2 hop
                have F := h.get o.a
                refine h.set hop ⟨fun f hf => ?_, fun i hi => ?_, fun _ => ?_, fun e => ?_⟩
                · rcases List.mem_append.1 hf with hf | hf
                  · exact F.whole f hf
                  · obtain rfl := List.mem_singleton.1 hf
                    simpa using hw
                · have hi : i < ((getT L o.a).fds ++ [_]).length := hi
                  rw [List.length_append, List.length_singleton] at hi
                  show (((getT L o.a).fds ++ [_]).getD i zF).off = sumS L (((getT L o.a).fds ++ [_]).take i)
                  by_cases hl : i < (getT L o.a).fds.length
                  · rw [getD_left _ hl, List.take_append_of_le_length (by omega)]
                    exact F.off i hl
                  · have : i = (getT L o.a).fds.length := by omega
                    subst this
                    rw [getD_last, List.take_append_of_le_length (Nat.le_refl _), List.take_length, F.sum h6]
                · show sumS L ((getT L o.a).fds ++ [_]) = (getT L o.a).size + (getT L o.b).size
                  rw [sumS_append, F.sum h6]
                  simp [sumS]
                · have e : (getT L o.a).kind = 5 := e
                  rw [h6] at e
                  cases e
      · split
        · unfold closeP
          split
          · exact h
          · rename_i h1
            have F := h.get o.a
            exact h.set (by simpa using h1) ⟨F.whole, F.off, F.sum, F.arr⟩
        · split
          · unfold pointerP
            split
            · exact h
            · split
              · exact h
              · exact h.add rfl (fun e => by cases e) (fun e => by cases e)
          · exact h

theorem Reached.fit {n : Nat} {L : List Ty} (h : Reached n L) : Fit L := by
  induction h with
  | start => exact Fit.start
  | step hr hs ih => exact ih.step hr.inv _
end Go.Proofs.Ytabkldahgjicbaa
