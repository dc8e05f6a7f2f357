/- Scan, plain: all signs of a text; how a sign stands behind the place. -/
import Derived.Test.YtbkagnhficmdhaaDoorScnA
namespace Go.Proofs.YtbkagnhficmdhaaDoor
open Go.ChangeShapes Go.WideShapes Go.ChangeAt Go.RowKit
set_option linter.unusedVariables false
set_option linter.unusedSimpArgs false

/-- All signs from a place on, behind those that there are: the signs, where the first that is wrong begins, the error's number. -/
def allF : Nat → ByteArray → Nat → List Sgn → List Sgn × Nat × Int
  | 0, _, _, acc => (acc, 0, 0)
  | f + 1, s, k, acc =>
    if (nextP s k).2 ≠ 0 then ([], (nextP s k).1.frm, (nextP s k).2)
    else if (nextP s k).1.kind = 0 then (acc ++ [(nextP s k).1], 0, 0)
    else allF f s (nextP s k).1.to (acc ++ [(nextP s k).1])

def allP (s : ByteArray) : List Sgn × Nat × Int := if 65536 < s.size then ([], 0, 242) else allF (s.size + 1) s 0 []

theorem allF_bad {f : Nat} {s : ByteArray} {k : Nat} {acc : List Sgn} (h : (nextP s k).2 ≠ 0) : allF (f + 1) s k acc = ([], (nextP s k).1.frm, (nextP s k).2) := by
  conv => lhs; unfold allF
  rw [if_pos h]

theorem allF_end {f : Nat} {s : ByteArray} {k : Nat} {acc : List Sgn} (h : (nextP s k).2 = 0) (h0 : (nextP s k).1.kind = 0) : allF (f + 1) s k acc = (acc ++ [(nextP s k).1], 0, 0) := by
  conv => lhs; unfold allF
  rw [if_neg (by rw [h]; decide), if_pos h0]

theorem allF_go {f : Nat} {s : ByteArray} {k : Nat} {acc : List Sgn} (h : (nextP s k).2 = 0) (h0 : (nextP s k).1.kind ≠ 0) : allF (f + 1) s k acc = allF f s (nextP s k).1.to (acc ++ [(nextP s k).1]) := by
  conv => lhs; unfold allF
  rw [if_neg (by rw [h]; decide), if_neg h0]

/-- What a sign is like that begins at a place. -/
def SignOk (s : ByteArray) (f : Nat) (r : Sgn × Int) : Prop :=
  r.1.frm = f ∧ f < r.1.to ∧ r.1.to ≤ s.size ∧ 1 ≤ r.1.kind ∧ r.1.kind ≤ 7 ∧ (-2147483648 ≤ r.1.n ∧ r.1.n ≤ 2147483647) ∧ (0 ≤ r.2 ∧ r.2 ≤ 242) ∧ r.1.text.size ≤ s.size ∧ (r.2 = 0 → r.1.kind ≠ 7 ∧ (r.1.kind ≠ 4 → r.1.text = s.extract f r.1.to) ∧ (r.1.kind = 4 → f + 2 ≤ r.1.to ∧ r.1.text = s.extract (f + 1) (r.1.to - 1))) ∧ (r.2 ≠ 0 → r.1.kind = 7)

theorem extract_size_le (s : ByteArray) (a b : Nat) : (s.extract a b).size ≤ s.size := by
  rw [ByteArray.size_extract]
  omega

theorem runF_first (p : Nat → Bool) {f : Nat} {s : ByteArray} {k : Nat} (hf : 0 < f) (h : k < s.size) (hp : p (byN s k) = true) : k < runF p f s k := by
  obtain ⟨f, rfl⟩ : ∃ g, f = g + 1 := ⟨f - 1, by omega⟩
  rw [runF_go h hp]
  have := (runF_bound p f s (k + 1) h).1
  omega

theorem satF_first {f : Nat} {s : ByteArray} {k n : Nat} (hf : 0 < f) (h : k < s.size) (hp : digN (byN s k) = true) : k < (satF f s k n).1 := by
  obtain ⟨f, rfl⟩ : ∃ g, f = g + 1 := ⟨f - 1, by omega⟩
  rw [satF_go h hp]
  have := (satF_bound f s (k + 1) (if n < 1099511627776 then n * 10 + (byN s k - 48) else n) h).1
  omega

theorem bad_ok {s : ByteArray} {f t : Nat} {c : Int} (h1 : f < t) (h2 : t ≤ s.size) (hc : 0 < c ∧ c ≤ 242) : SignOk s f (badS f t, c) :=
  ⟨rfl, h1, h2, by show (1 : Int) ≤ 7; decide, by show (7 : Int) ≤ 7; decide, by show (-2147483648 : Int) ≤ 0 ∧ (0 : Int) ≤ 2147483647; decide, ⟨by show (0 : Int) ≤ c; omega, hc.2⟩, Nat.zero_le _, fun h => by have : c = 0 := h; omega, fun _ => rfl⟩

theorem good_ok {s : ByteArray} {f t : Nat} {k n : Int} (h1 : f < t) (h2 : t ≤ s.size) (hk : 1 ≤ k ∧ k ≤ 6) (h4 : k ≠ 4) (hn : -2147483648 ≤ n ∧ n ≤ 2147483647) : SignOk s f (⟨k, f, t, s.extract f t, n⟩, 0) :=
  ⟨rfl, h1, h2, hk.1, by show k ≤ 7; omega, hn, ⟨by show (0 : Int) ≤ 0; decide, by show (0 : Int) ≤ 242; decide⟩, extract_size_le _ _ _, fun _ => ⟨by show k ≠ 7; omega, fun _ => rfl, fun h => absurd h h4⟩, fun h => absurd rfl h⟩

theorem signP_ok (s : ByteArray) {f : Nat} (h : f < s.size) : SignOk s f (signP s f) := by
  have h8 := byN_lt s (f + 1)
  unfold signP
  split
  · rename_i hl
    have hw : wordN (byN s f) = true := by unfold wordN; rw [hl]; rfl
    have h1 : f < endOf wordN s f := runF_first wordN (by omega) h hw
    have h2 := (endOf_bound wordN (Nat.le_of_lt h)).2
    split
    · exact bad_ok h1 h2 (by decide)
    · split
      · exact good_ok h1 h2 (by decide) (by decide) (by decide)
      · exact good_ok h1 h2 (by decide) (by decide) (by decide)
  · split
    · rename_i hd
      have h1 : f < (satF s.size s f 0).1 := satF_first (by omega) h hd
      have h2 := (satF_bound s.size s f 0 (Nat.le_of_lt h)).2
      unfold numP
      split
      · exact bad_ok h1 h2 (by decide)
      · exact good_ok h1 h2 (by decide) (by decide) (by omega)
    · split
      · have hb := hexF_bound s.size s (f + 1) 0 h (by decide) (by decide)
        unfold hexP
        split
        · exact bad_ok (by omega) hb.2.1 (by decide)
        · refine good_ok (by omega) hb.2.1 (by decide) (by decide) ?_
          unfold sgn32
          split <;> omega
      · split
        · split
          · exact good_ok (by omega) (by omega) (by decide) (by decide) (by omega)
          · exact bad_ok (by omega) h (by decide)
        · split
          · have hb := endOf_bound textN (s := s) (k := f + 1) h
            split
            · exact bad_ok (by omega) hb.2 (by decide)
            · rename_i hn
              have hlt : endOf textN s (f + 1) < s.size := by
                rcases Nat.lt_or_ge (endOf textN s (f + 1)) s.size with h' | h'
                · exact h'
                · exact absurd (Or.inl (by omega)) hn
              exact ⟨rfl, by show f < endOf textN s (f + 1) + 1; omega, by show endOf textN s (f + 1) + 1 ≤ s.size; omega, by show (1 : Int) ≤ 4; decide, by show (4 : Int) ≤ 7; decide, by show (-2147483648 : Int) ≤ 0 ∧ (0 : Int) ≤ 2147483647; decide, ⟨by show (0 : Int) ≤ 0; decide, by show (0 : Int) ≤ 242; decide⟩, extract_size_le _ _ _, fun _ => ⟨by show (4 : Int) ≠ 7; decide, fun h => absurd rfl h, fun _ => ⟨by show f + 2 ≤ endOf textN s (f + 1) + 1; omega, by show _ = s.extract (f + 1) (endOf textN s (f + 1) + 1 - 1); rw [Nat.add_sub_cancel]⟩⟩, fun h => absurd rfl h⟩
          · split
            · rename_i ht
              have hl : f + 1 < s.size := by rcases ht with ht | ht | ht <;> exact twoP_lt ht
              exact good_ok (by omega) (by omega) (by decide) (by decide) (by decide)
            · split
              · exact good_ok (by omega) h (by decide) (by decide) (by decide)
              · exact bad_ok (by omega) h (by decide)

/-- A sign behind a place: where it stands, how it goes on. -/
theorem nextP_ok (s : ByteArray) {k : Nat} (h : k ≤ s.size) :
    k ≤ (nextP s k).1.frm ∧ (nextP s k).1.frm ≤ (nextP s k).1.to ∧ (nextP s k).1.to ≤ s.size ∧ (0 ≤ (nextP s k).1.kind ∧ (nextP s k).1.kind ≤ 7) ∧ (-2147483648 ≤ (nextP s k).1.n ∧ (nextP s k).1.n ≤ 2147483647) ∧ (0 ≤ (nextP s k).2 ∧ (nextP s k).2 ≤ 242) ∧ (nextP s k).1.text.size ≤ s.size ∧ ((nextP s k).2 = 0 → (nextP s k).1.kind ≠ 0 → k < (nextP s k).1.to) := by
  have hb := blanks_bound h
  unfold nextP
  split
  · exact ⟨Nat.le_refl _, h, Nat.le_refl _, by show (0 : Int) ≤ 7 ∧ (7 : Int) ≤ 7; decide, by show (-2147483648 : Int) ≤ 0 ∧ (0 : Int) ≤ 2147483647; decide, by show (0 : Int) ≤ 81 ∧ (81 : Int) ≤ 242; decide, Nat.zero_le _, fun h => by have : (81 : Int) = 0 := h; omega⟩
  · split
    · exact ⟨h, Nat.le_refl _, Nat.le_refl _, by show (0 : Int) ≤ 0 ∧ (0 : Int) ≤ 7; decide, by show (-2147483648 : Int) ≤ 0 ∧ (0 : Int) ≤ 2147483647; decide, by show (0 : Int) ≤ 0 ∧ (0 : Int) ≤ 242; decide, Nat.zero_le _, fun _ h => absurd rfl h⟩
    · obtain ⟨h1, h2, h3, h4, h5, h6, h7, h8, h9⟩ := signP_ok s (f := (blanksP s k).1) (by omega)
      exact ⟨by omega, by omega, h3, ⟨by omega, h5⟩, h6, h7, h8, fun _ _ => by omega⟩
end Go.Proofs.YtbkagnhficmdhaaDoor
