/- Types: what calls come to, plainly; what is kept. -/
import Derived.Test.YtabkldahgjicbaaTypS
import Derived.Test.YtabkldahgjicbaaTypI
import Derived.Test.YtabkldahgjicbaaTypL
import Derived.Test.YtabkldahgjicbaaTypK
namespace Go.Proofs.Ytabkldahgjicbaa
open Go.ChangeShapes Go.WideShapes Go.ChangeAt Go.RowKit
set_option linter.unusedVariables false
set_option linter.unusedSimpArgs false

/-- The types behind a call. -/
def doP (L : List Ty) (o : OpT) : List Ty :=
  if o.kind = 0 then (arrayP L o.a o.b).1
  else if o.kind = 1 then (openP L).1
  else if o.kind = 2 then (fieldP L o.a o.name o.b).1
  else if o.kind = 3 then (closeP L o.a).1
  else if o.kind = 4 then (pointerP L o.a).1
  else L

theorem getT_nat {L : List Ty} {t : Nat} (ht : t < L.length) : getT L t = L.getD t zT := if_pos ⟨by omega, by omega⟩

theorem getT_mem {L : List Ty} {id : Int} (h : 0 ≤ id ∧ id < L.length) : getT L id ∈ L := by
  unfold getT
  rw [if_pos h]
  have : id.toNat < L.length := by omega
  rw [List.getD_eq_getElem?_getD, List.getElem?_eq_getElem this]
  exact List.getElem_mem this

theorem getT_append {L M : List Ty} {id : Int} (h : 0 ≤ id ∧ id < L.length) : getT (L ++ M) id = getT L id := by
  unfold getT
  rw [if_pos h, if_pos ⟨h.1, by rw [List.length_append]; omega⟩]
  exact getD_left _ (by omega)

theorem getT_set {L : List Ty} {t : Nat} (ht : t < L.length) (y : Ty) (id : Int) : getT (L.set t y) id = if id = t then y else getT L id := by
  unfold getT
  rw [List.length_set]
  by_cases h : 0 ≤ id ∧ id < L.length
  · rw [if_pos h, if_pos h, getD_set _ _ _ _ _ (by omega)]
    by_cases e : id = t
    · rw [if_pos e, if_pos (by omega)]
    · rw [if_neg e, if_neg (by omega)]
  · rw [if_neg h, if_neg h, if_neg (by omega)]

theorem getT_out {L : List Ty} {id : Int} (h : ¬ (0 ≤ id ∧ id < L.length)) : getT L id = zT := if_neg h

/-- What is kept of the types, behind n calls. -/
structure Inv (n : Nat) (L : List Ty) : Prop where
  five : 5 ≤ L.length
  len : L.length ≤ 5 + n
  nil : (getT L 4).kind = 4
  each : ∀ x ∈ L, 0 ≤ x.size ∧ x.size ≤ 16384 ∧ x.fds.length ≤ n ∧ NamesOk x.fds ∧ (x.opn = true → x.kind = 6)

theorem Inv.start : Inv 0 newL := by
  refine ⟨by decide, by decide, by rfl, ?_⟩
  intro x hx
  simp [newL] at hx
  rcases hx with rfl | rfl | rfl | rfl | rfl <;> exact ⟨by decide, by decide, by decide, fun f hf => (List.not_mem_nil hf).elim, by decide⟩

theorem Inv.more {n : Nat} {L : List Ty} (h : Inv n L) : Inv (n + 1) L :=
  ⟨h.five, by have := h.len; omega, h.nil, fun x hx => by
    obtain ⟨h1, h2, h3, h4, h5⟩ := h.each x hx
    exact ⟨h1, h2, by omega, h4, h5⟩⟩

theorem Inv.get {n : Nat} {L : List Ty} (h : Inv n L) (id : Int) : 0 ≤ (getT L id).size ∧ (getT L id).size ≤ 16384 ∧ (getT L id).fds.length ≤ n ∧ NamesOk (getT L id).fds ∧ ((getT L id).opn = true → (getT L id).kind = 6) := by
  by_cases hi : 0 ≤ id ∧ id < L.length
  · exact h.each _ (getT_mem hi)
  · rw [getT_out hi]
    exact ⟨by decide, by decide, Nat.zero_le _, fun f hf => (List.not_mem_nil hf).elim, by decide⟩

theorem Inv.sizes {n : Nat} {L : List Ty} (h : Inv n L) : SizesOk L := fun x hx => ⟨(h.each x hx).1, (h.each x hx).2.1⟩

theorem Inv.add {n : Nat} {L : List Ty} (h : Inv n L) {x : Ty} (h0 : 0 ≤ x.size) (h1 : x.size ≤ 16384) (hf : x.fds = []) (ho : x.opn = true → x.kind = 6) : Inv (n + 1) (addP L x).1 := by
  unfold addP
  split
  · exact h.more
  · refine ⟨by rw [List.length_append]; have := h.five; omega, by rw [List.length_append, List.length_singleton]; have := h.len; omega, ?_, ?_⟩
    · rw [getT_append ⟨by decide, by have := h.five; omega⟩]
      exact h.nil
    · intro y hy
      rcases List.mem_append.1 hy with hy | hy
      · exact h.more.each y hy
      · obtain rfl := List.mem_singleton.1 hy
        exact ⟨h0, h1, by rw [hf]; exact Nat.zero_le _, by rw [hf]; exact fun f hf => (List.not_mem_nil hf).elim, ho⟩

theorem Inv.set {n : Nat} {L : List Ty} (h : Inv n L) {id : Int} (hop : (getT L id).opn = true) {y : Ty} (hy : 0 ≤ y.size ∧ y.size ≤ 16384 ∧ y.fds.length ≤ n + 1 ∧ NamesOk y.fds ∧ (y.opn = true → y.kind = 6)) : Inv (n + 1) (L.set id.toNat y) := by
  have hin : 0 ≤ id ∧ id < L.length := by
    by_cases hi : 0 ≤ id ∧ id < L.length
    · exact hi
    · rw [getT_out hi] at hop
      cases hop
  have ht : id.toNat < L.length := by omega
  refine ⟨by rw [List.length_set]; exact h.five, by rw [List.length_set]; have := h.len; omega, ?_, ?_⟩
  · rw [getT_set ht, if_neg ?_]
    · exact h.nil
    · intro e
      have e4 : id = 4 := by omega
      rw [e4] at hop
      have := (h.get 4).2.2.2.2 hop
      rw [h.nil] at this
      cases this
  · intro z hz
    rcases List.mem_or_eq_of_mem_set hz with hz | rfl
    · exact h.more.each z hz
    · exact hy

theorem Inv.step {n : Nat} {L : List Ty} (h : Inv n L) (o : OpT) (hs : o.name.size ≤ 140737488355328) : Inv (n + 1) (doP L o) := by
  unfold doP
  split
  · unfold arrayP
    split
    · exact h.more
    · split
      · exact h.more
      · rename_i h2
        have := (h.get o.b).1
        refine h.add ?_ (by show o.a * (getT L o.b).size ≤ 16384; omega) rfl (fun e => by cases e)
        exact Int.mul_nonneg (by omega) this
  · split
    · unfold openP
      exact h.add (by decide) (by decide) rfl (fun _ => rfl)
    · split
      · unfold fieldP
        split
        · exact h.more
        · rename_i h1
          split
          · exact h.more
          · split
            · exact h.more
            · split
              · exact h.more
              · rename_i h4
                have g1 := h.get o.a
                have g2 := h.get o.b
                refine h.set (by simpa using h1) ⟨by show 0 ≤ (getT L o.a).size + (getT L o.b).size; omega, by show (getT L o.a).size + (getT L o.b).size ≤ 16384; omega, ?_, ?_, ?_⟩
                · show ((getT L o.a).fds ++ [_]).length ≤ n + 1
                  rw [List.length_append, List.length_singleton]
                  omega
                · intro f hf
                  rcases List.mem_append.1 hf with hf | hf
                  · exact g1.2.2.2.1 f hf
                  · obtain rfl := List.mem_singleton.1 hf
                    exact hs
                · exact g1.2.2.2.2
      · split
        · unfold closeP
          split
          · exact h.more
          · rename_i h1
            have g1 := h.more.get o.a
            exact h.set (by simpa using h1) ⟨g1.1, g1.2.1, g1.2.2.1, g1.2.2.2.1, fun e => by cases e⟩
        · split
          · unfold pointerP
            split
            · exact h.more
            · split
              · exact h.more
              · exact h.add (by show (0 : Int) ≤ 4; decide) (by show (4 : Int) ≤ 16384; decide) rfl (fun e => by cases e)
          · exact h.more

theorem takes_same {n : Nat} {L : List Ty} (h : Inv n L) (a b : Int) : takesB L a b = takesR L a b := by
  unfold takesB takesR
  rw [simple_same]
  by_cases hb : b = 4
  · rw [if_pos hb]
    by_cases hab : a = b
    · rw [if_pos hab, hab, hb, h.nil]
      simp
    · rw [if_neg hab, hb]
      simp
  · rw [if_neg hb]
    by_cases hab : a = b
    · rw [if_pos hab, hab]
      have : (b != 4) = true := by simpa using hb
      rw [this]
      simp
    · rw [if_neg hab]
      have h1 : (a == b) = false := beq_eq_false_iff_ne.2 hab
      have h2 : (b == 4) = false := beq_eq_false_iff_ne.2 hb
      rw [h1, h2]
      simp

theorem equals_same {n : Nat} {L : List Ty} (h : Inv n L) (a b : Int) : equalsB L a b = equalsR L a b := by
  unfold equalsB equalsR
  rw [takes_same h a b, takes_same h b a]
end Go.Proofs.Ytabkldahgjicbaa
