/- Scan, plain: signs stand one behind the other, and each one's text is what stands at its place. -/
import Derived.Test.YtbkagnhficmdhaaDoorScnT
namespace Go.Proofs.YtbkagnhficmdhaaDoor
open Go.ChangeShapes Go.WideShapes Go.ChangeAt Go.RowKit
set_option linter.unusedVariables false
set_option linter.unusedSimpArgs false

/-- A sign stands behind a place, and its text is what stands there. -/
def Fits (s : ByteArray) (k : Nat) (x : Sgn) : Prop :=
  k ≤ x.frm ∧ x.frm ≤ x.to ∧ x.to ≤ s.size ∧ x.kind ≠ 7 ∧ (x.kind ≠ 4 → x.text = s.extract x.frm x.to) ∧ (x.kind = 4 → x.frm + 2 ≤ x.to ∧ x.text = s.extract (x.frm + 1) (x.to - 1))

/-- Signs one behind the other; the last one, and no other, is the end. -/
def CoverL (s : ByteArray) : Nat → List Sgn → Prop
  | _, [] => False
  | k, [x] => Fits s k x ∧ x.kind = 0
  | k, x :: y :: l => (Fits s k x ∧ x.kind ≠ 0) ∧ CoverL s x.to (y :: l)

theorem extract_zero (s : ByteArray) (n : Nat) : s.extract n n = ⟨#[]⟩ := by
  apply ByteArray.ext
  rw [ByteArray.data_extract]
  simp
  omega

theorem nextP_fits (s : ByteArray) {k : Nat} (h : k ≤ s.size) (h0 : (nextP s k).2 = 0) : Fits s k (nextP s k).1 := by
  have hb := blanks_bound h
  unfold nextP at h0 ⊢
  split at h0
  · exact absurd h0 (by show (81 : Int) ≠ 0; decide)
  · rename_i h1
    rw [if_neg h1]
    split at h0
    · rename_i h2
      rw [if_pos h2]
      exact ⟨h, Nat.le_refl _, Nat.le_refl _, by show (0 : Int) ≠ 7; decide, fun _ => (extract_zero s _).symm, fun h => by have : (0 : Int) = 4 := h; omega⟩
    · rename_i h2
      rw [if_neg h2]
      obtain ⟨a1, a2, a3, a4, a5, a6, a7, a8, a9, a10⟩ := signP_ok s (f := (blanksP s k).1) (by omega)
      obtain ⟨b1, b2, b3⟩ := a9 h0
      exact ⟨by omega, by omega, a3, b1, fun h => by rw [a1]; exact b2 h, fun h => by rw [a1]; exact b3 h⟩

theorem allF_cover : ∀ (f : Nat) (s : ByteArray) (k : Nat) (acc : List Sgn), k ≤ s.size → s.size - k < f →
    ((allF f s k acc).2.2 ≠ 0 → (allF f s k acc).1 = []) ∧ ((allF f s k acc).2.2 = 0 → ∃ l, (allF f s k acc).1 = acc ++ l ∧ CoverL s k l)
  | 0, s, k, acc, h, hf => by omega
  | f + 1, s, k, acc, h, hf => by
    by_cases h0 : (nextP s k).2 = 0
    · have hfit := nextP_fits s h h0
      by_cases h1 : (nextP s k).1.kind = 0
      · rw [allF_end h0 h1]
        exact ⟨fun h => absurd rfl h, fun _ => ⟨[(nextP s k).1], rfl, hfit, h1⟩⟩
      · rw [allF_go h0 h1]
        obtain ⟨n1, n2, n3, n4, n5, n6, n7, n8⟩ := nextP_ok s h
        have hk := n8 h0 h1
        obtain ⟨i1, i2⟩ := allF_cover f s (nextP s k).1.to (acc ++ [(nextP s k).1]) n3 (by omega)
        refine ⟨i1, fun h => ?_⟩
        obtain ⟨l, e, hc⟩ := i2 h
        refine ⟨(nextP s k).1 :: l, by rw [e, List.append_assoc]; rfl, ?_⟩
        cases l with
        | nil => exact hc.elim
        | cons y l => exact ⟨⟨hfit, h1⟩, hc⟩
    · rw [allF_bad h0]
      exact ⟨fun _ => rfl, fun h => absurd h h0⟩

theorem allP_cover (s : ByteArray) : ((allP s).2.2 ≠ 0 → (allP s).1 = []) ∧ ((allP s).2.2 = 0 → CoverL s 0 (allP s).1) := by
  unfold allP
  split
  · exact ⟨fun _ => rfl, fun h => by have : (242 : Int) = 0 := h; omega⟩
  · obtain ⟨h1, h2⟩ := allF_cover (s.size + 1) s 0 [] (Nat.zero_le _) (by omega)
    refine ⟨h1, fun h => ?_⟩
    obtain ⟨l, e, hc⟩ := h2 h
    rw [e, List.nil_append]
    exact hc

theorem cover_pos {s : ByteArray} {k : Nat} : ∀ {l : List Sgn}, CoverL s k l → 0 < l.length
  | [], h => h.elim
  | _ :: _, _ => Nat.succ_pos _

/-- The first sign, and what follows. -/
theorem cover_head {s : ByteArray} {k : Nat} {x : Sgn} {l : List Sgn} (h : CoverL s k (x :: l)) : Fits s k x ∧ ((x.kind = 0 ∧ l = []) ∨ (x.kind ≠ 0 ∧ l ≠ [] ∧ CoverL s x.to l)) := by
  cases l with
  | nil => exact ⟨h.1, .inl ⟨h.2, rfl⟩⟩
  | cons y l => exact ⟨h.1.1, .inr ⟨h.1.2, List.cons_ne_nil _ _, h.2⟩⟩

/-- A text without its quotation marks. -/
theorem inner_extract (s : ByteArray) {a b : Nat} (h1 : a + 2 ≤ b) (h2 : b ≤ s.size) : (s.extract a b).extract 1 (b - a - 1) = s.extract (a + 1) (b - 1) ∧ (s.extract a b).size = b - a := by
  refine ⟨?_, by rw [ByteArray.size_extract]; omega⟩
  rw [ByteArray.extract_extract]
  congr 1
  omega
end Go.Proofs.YtbkagnhficmdhaaDoor
