/- Scan, plain: a text that stands within another, with a blank behind it or the end: it has the same signs there. -/
import Derived.Test.YtbkagnhficmdhaaDoorScnX
namespace Go.Proofs.YtbkagnhficmdhaaDoor
open Go.ChangeShapes Go.WideShapes Go.ChangeAt Go.RowKit
set_option linter.unusedVariables false
set_option linter.unusedSimpArgs false

/-- A text stands within another from a place on; behind it a blank, or nothing. -/
structure Look (s s' : ByteArray) (o : Nat) : Prop where
  size : o + s.size ≤ s'.size
  byte : ∀ i, i < s.size → byN s' (o + i) = byN s i
  stop : o + s.size < s'.size → byN s' (o + s.size) = 32

variable {s s' : ByteArray} {o : Nat}

theorem byN_ext {a b : ByteArray} (h : a.size = b.size) (hb : ∀ i, i < a.size → byN a i = byN b i) : a = b := by
  apply ByteArray.ext_getElem h
  intro i hi hi'
  have := hb i hi
  rw [byN_get hi, byN_get hi'] at this
  exact UInt8.toNat_inj.1 this

theorem byN_extract (s : ByteArray) {a b i : Nat} (h1 : b ≤ s.size) (h2 : a + i < b) : byN (s.extract a b) i = byN s (a + i) := by
  have h : i < (s.extract a b).size := by rw [ByteArray.size_extract]; omega
  rw [byN_get h, byN_get (show a + i < s.size by omega), ByteArray.getElem_extract h]

theorem Look.extract (h : Look s s' o) {i j : Nat} (hj : j ≤ s.size) : s'.extract (o + i) (o + j) = s.extract i j := by
  have hz := h.size
  apply byN_ext
  · rw [ByteArray.size_extract, ByteArray.size_extract]
    omega
  · intro m hm
    rw [ByteArray.size_extract] at hm
    rw [byN_extract s' (by omega) (by omega), byN_extract s hj (by omega), Nat.add_assoc, h.byte _ (by omega)]

theorem Look.two (h : Look s s' o) {i x y : Nat} (hi : i < s.size) (hy : y ≠ 32) : twoP s' (o + i) x y = twoP s i x y := by
  have hz := h.size
  unfold twoP
  rw [h.byte i hi]
  by_cases h1 : i + 1 < s.size
  · rw [Nat.add_assoc, h.byte _ h1, decide_eq_true (show o + (i + 1) < s'.size by omega), decide_eq_true h1]
  · rw [decide_eq_false h1, Bool.false_and]
    have e : o + i + 1 = o + s.size := by omega
    rw [e]
    by_cases h2 : o + s.size < s'.size
    · rw [h.stop h2, decide_eq_false (show ¬ 32 = y from fun e => hy e.symm), Bool.and_false, Bool.and_false]
    · rw [decide_eq_false h2, Bool.false_and]

theorem Look.run (h : Look s s' o) (p : Nat → Bool) : ∀ (g g' k : Nat), k ≤ s.size → s.size - k ≤ g → s'.size - (o + k) ≤ g' → (p 32 = false ∨ runF p g s k < s.size) → runF p g' s' (o + k) = o + runF p g s k := by
  have hz := h.size
  intro g
  induction g with
  | zero =>
    intro g' k hk hg hg' hp
    obtain rfl : k = s.size := by omega
    have e : runF p 0 s s.size = s.size := rfl
    rw [e] at hp ⊢
    rcases hp with hp | hp
    · rw [runF_stop]
      intro ⟨h1, h2⟩
      rw [h.stop h1, hp] at h2
      cases h2
    · omega
  | succ g ih =>
    intro g' k hk hg hg' hp
    by_cases hgo : k < s.size ∧ p (byN s k) = true
    · obtain ⟨g', rfl⟩ : ∃ z, g' = z + 1 := ⟨g' - 1, by omega⟩
      rw [runF_go hgo.1 hgo.2] at hp ⊢
      rw [runF_go (by omega) (by rw [h.byte k hgo.1]; exact hgo.2), Nat.add_assoc]
      exact ih g' (k + 1) hgo.1 (by omega) (by omega) hp
    · rw [runF_stop hgo] at hp ⊢
      rw [runF_stop]
      intro ⟨h1, h2⟩
      by_cases hks : k < s.size
      · rw [h.byte k hks] at h2
        exact hgo ⟨hks, h2⟩
      · obtain rfl : k = s.size := by omega
        rcases hp with hp | hp
        · rw [h.stop h1, hp] at h2
          cases h2
        · omega

theorem Look.end (h : Look s s' o) (p : Nat → Bool) {k : Nat} (hk : k ≤ s.size) (hp : p 32 = false ∨ endOf p s k < s.size) : endOf p s' (o + k) = o + endOf p s k :=
  h.run p _ _ k hk (by omega) (by omega) hp

theorem Look.sat (h : Look s s' o) : ∀ (g g' k n : Nat), k ≤ s.size → s.size - k ≤ g → s'.size - (o + k) ≤ g' → satF g' s' (o + k) n = (o + (satF g s k n).1, (satF g s k n).2) := by
  have hz := h.size
  have hs : ∀ {k : Nat}, ¬ k < s.size → k ≤ s.size → ¬ (o + k < s'.size ∧ digN (byN s' (o + k)) = true) := fun {k} hk hk2 ⟨h1, h2⟩ => by
    obtain rfl : k = s.size := by omega
    rw [h.stop h1] at h2
    cases h2
  intro g
  induction g with
  | zero =>
    intro g' k n hk hg hg'
    rw [satF_stop (hs (by omega) hk)]
    rfl
  | succ g ih =>
    intro g' k n hk hg hg'
    by_cases hgo : k < s.size ∧ digN (byN s k) = true
    · obtain ⟨g', rfl⟩ : ∃ z, g' = z + 1 := ⟨g' - 1, by omega⟩
      rw [satF_go hgo.1 hgo.2, satF_go (by omega) (by rw [h.byte k hgo.1]; exact hgo.2), Nat.add_assoc, h.byte k hgo.1]
      exact ih g' (k + 1) _ hgo.1 (by omega) (by omega)
    · rw [satF_stop hgo, satF_stop]
      by_cases hks : k < s.size
      · rw [h.byte k hks]
        exact fun h => hgo ⟨hks, h.2⟩
      · exact hs hks hk

theorem Look.hex (h : Look s s' o) : ∀ (g g' k : Nat) (n : Int), k ≤ s.size → s.size - k ≤ g → s'.size - (o + k) ≤ g' → hexF g' s' (o + k) n = (o + (hexF g s k n).1, (hexF g s k n).2) := by
  have hz := h.size
  have hs : ∀ {k : Nat}, ¬ k < s.size → k ≤ s.size → ¬ (o + k < s'.size ∧ 0 ≤ hexD (byN s' (o + k))) := fun {k} hk hk2 ⟨h1, h2⟩ => by
    obtain rfl : k = s.size := by omega
    rw [h.stop h1] at h2
    exact absurd h2 (by decide)
  intro g
  induction g with
  | zero =>
    intro g' k n hk hg hg'
    rw [hexF_stop (hs (by omega) hk)]
    rfl
  | succ g ih =>
    intro g' k n hk hg hg'
    by_cases hgo : k < s.size ∧ 0 ≤ hexD (byN s k)
    · obtain ⟨g', rfl⟩ : ∃ z, g' = z + 1 := ⟨g' - 1, by omega⟩
      rw [hexF_go hgo.1 hgo.2, hexF_go (by omega) (by rw [h.byte k hgo.1]; exact hgo.2), Nat.add_assoc, h.byte k hgo.1]
      exact ih g' (k + 1) _ hgo.1 (by omega) (by omega)
    · rw [hexF_stop hgo, hexF_stop]
      by_cases hks : k < s.size
      · rw [h.byte k hks]
        exact fun h => hgo ⟨hks, h.2⟩
      · exact hs hks hk

/-- Blanks that end ahead of the text's end, or with the end of both. -/
theorem Look.bl (h : Look s s' o) : ∀ (g g' k d : Nat), k ≤ s.size → s.size - k ≤ g → s'.size - (o + k) ≤ g' → (s'.size = o + s.size ∨ (blF g s k d).1 < s.size) → blF g' s' (o + k) d = (o + (blF g s k d).1, (blF g s k d).2) := by
  have hz := h.size
  intro g
  induction g with
  | zero =>
    intro g' k d hk hg hg' hp
    obtain rfl : k = s.size := by omega
    have e : blF 0 s s.size d = (s.size, decide (d = 0)) := rfl
    rw [e] at hp ⊢
    rcases hp with hp | hp
    · rw [blF_end (by omega)]
    · exact absurd hp (by show ¬ s.size < s.size; omega)
  | succ g ih =>
    intro g' k d hk hg hg' hp
    by_cases hks : k < s.size
    · obtain ⟨g', rfl⟩ : ∃ z, g' = z + 1 := ⟨g' - 1, by omega⟩
      have hks' : o + k < s'.size := by omega
      cases h1 : twoP s k 40 42
      · have h1' : twoP s' (o + k) 40 42 = false := by rw [h.two hks (by decide)]; exact h1
        by_cases h2 : 0 < d ∧ twoP s k 42 41 = true
        · have hl := twoP_lt h2.2
          rw [blF_close hks h1 h2.1 h2.2] at hp ⊢
          rw [blF_close hks' h1' h2.1 (by rw [h.two hks (by decide)]; exact h2.2), Nat.add_assoc]
          exact ih g' (k + 2) (d - 1) (by omega) (by omega) (by omega) hp
        · have h2' : ¬ (0 < d ∧ twoP s' (o + k) 42 41 = true) := by rw [h.two hks (by decide)]; exact h2
          by_cases h3 : 0 < d ∨ isBl (byN s k) = true
          · rw [blF_skip hks h1 h2 h3] at hp ⊢
            rw [blF_skip hks' h1' h2' (by rw [h.byte k hks]; exact h3), Nat.add_assoc]
            exact ih g' (k + 1) d (by omega) (by omega) (by omega) hp
          · obtain ⟨rfl, h4⟩ : d = 0 ∧ isBl (byN s k) = false := ⟨by omega, by cases hb : isBl (byN s k) <;> simp_all⟩
            rw [blF_stop hks h1 h4, blF_stop hks' h1' (by rw [h.byte k hks]; exact h4)]
      · have hl := twoP_lt h1
        rw [blF_open hks h1] at hp ⊢
        rw [blF_open hks' (by rw [h.two hks (by decide)]; exact h1), Nat.add_assoc]
        exact ih g' (k + 2) (d + 1) (by omega) (by omega) (by omega) hp
    · obtain rfl : k = s.size := by omega
      rw [blF_end hks] at hp ⊢
      rcases hp with hp | hp
      · rw [blF_end (by omega)]
      · exact absurd hp (by show ¬ s.size < s.size; omega)

/-- Blanks up to the text's end go on behind it. -/
theorem Look.blEnd (h : Look s s' o) : ∀ (g g' k d : Nat), k ≤ s.size → s.size - k ≤ g → s'.size - (o + k) ≤ g' → blF g s k d = (s.size, true) → ∃ g'', s'.size - (o + s.size) ≤ g'' ∧ blF g' s' (o + k) d = blF g'' s' (o + s.size) 0 := by
  have hz := h.size
  intro g
  induction g with
  | zero =>
    intro g' k d hk hg hg' hp
    obtain rfl : k = s.size := by omega
    have e : blF 0 s s.size d = (s.size, decide (d = 0)) := rfl
    rw [e] at hp
    obtain rfl : d = 0 := by simpa using hp
    exact ⟨g', hg', rfl⟩
  | succ g ih =>
    intro g' k d hk hg hg' hp
    by_cases hks : k < s.size
    · obtain ⟨g', rfl⟩ : ∃ z, g' = z + 1 := ⟨g' - 1, by omega⟩
      have hks' : o + k < s'.size := by omega
      cases h1 : twoP s k 40 42
      · have h1' : twoP s' (o + k) 40 42 = false := by rw [h.two hks (by decide)]; exact h1
        by_cases h2 : 0 < d ∧ twoP s k 42 41 = true
        · have hl := twoP_lt h2.2
          rw [blF_close hks h1 h2.1 h2.2] at hp
          rw [blF_close hks' h1' h2.1 (by rw [h.two hks (by decide)]; exact h2.2), Nat.add_assoc]
          exact ih g' (k + 2) (d - 1) (by omega) (by omega) (by omega) hp
        · have h2' : ¬ (0 < d ∧ twoP s' (o + k) 42 41 = true) := by rw [h.two hks (by decide)]; exact h2
          by_cases h3 : 0 < d ∨ isBl (byN s k) = true
          · rw [blF_skip hks h1 h2 h3] at hp
            rw [blF_skip hks' h1' h2' (by rw [h.byte k hks]; exact h3), Nat.add_assoc]
            exact ih g' (k + 1) d (by omega) (by omega) (by omega) hp
          · obtain ⟨rfl, h4⟩ : d = 0 ∧ isBl (byN s k) = false := ⟨by omega, by cases hb : isBl (byN s k) <;> simp_all⟩
            rw [blF_stop hks h1 h4] at hp
            have : k = s.size := congrArg Prod.fst hp
            omega
      · have hl := twoP_lt h1
        rw [blF_open hks h1] at hp
        rw [blF_open hks' (by rw [h.two hks (by decide)]; exact h1), Nat.add_assoc]
        exact ih g' (k + 2) (d + 1) (by omega) (by omega) (by omega) hp
    · obtain rfl : k = s.size := by omega
      rw [blF_end hks] at hp
      obtain rfl : d = 0 := by simpa using hp
      exact ⟨g', hg', rfl⟩

theorem Look.self (s : ByteArray) : Look s s 0 := ⟨by omega, fun i _ => by rw [Nat.zero_add], fun h => absurd h (by omega)⟩

theorem blF_fuel (s : ByteArray) {g g' k d : Nat} (hk : k ≤ s.size) (hg : s.size - k ≤ g) (hg' : s.size - k ≤ g') : blF g s k d = blF g' s k d := by
  have := (Look.self s).bl g' g k d hk hg' (by omega) (.inl (by omega))
  rw [Nat.zero_add, Nat.zero_add] at this
  exact this

/-- A sign that stands further behind. -/
def shf (o : Nat) (x : Sgn) : Sgn := ⟨x.kind, o + x.frm, o + x.to, x.text, x.n⟩

theorem Look.sign (h : Look s s' o) {f : Nat} (hf : f < s.size) (h0 : (signP s f).2 = 0) : signP s' (o + f) = (shf o (signP s f).1, 0) := by
  have hz := h.size
  have hw := h.end wordN (Nat.le_of_lt hf) (.inl rfl)
  have hwb := endOf_bound wordN (Nat.le_of_lt hf)
  have hn := h.sat s.size s'.size f 0 (Nat.le_of_lt hf) (by omega) (by omega)
  have hnb := satF_bound s.size s f 0 (Nat.le_of_lt hf)
  have hx := h.hex s.size s'.size (f + 1) 0 hf (by omega) (by omega)
  have hxb := hexF_bound s.size s (f + 1) 0 hf (by omega) (by omega)
  have htb := endOf_bound textN (show f + 1 ≤ s.size from hf)
  unfold signP at h0 ⊢
  rw [h.byte f hf]
  by_cases hL : letN (byN s f) = true
  · rw [if_pos hL] at h0 ⊢
    rw [if_pos hL, hw]
    by_cases h32 : 32 < endOf wordN s f - f
    · rw [if_pos h32] at h0
      exact absurd h0 (by show ¬ (140 : Int) = 0; decide)
    · rw [if_neg h32] at h0 ⊢
      rw [if_neg (show ¬ 32 < o + endOf wordN s f - (o + f) by omega), h.extract hwb.2]
      by_cases hk : keyB (s.extract f (endOf wordN s f)) = true
      · rw [if_pos hk, if_pos hk]
        rfl
      · rw [if_neg hk, if_neg hk]
        rfl
  · rw [if_neg hL] at h0 ⊢
    rw [if_neg hL]
    by_cases hD : digN (byN s f) = true
    · rw [if_pos hD] at h0 ⊢
      rw [if_pos hD]
      unfold numP at h0 ⊢
      rw [hn]
      by_cases hb : 2147483647 < (satF s.size s f 0).2
      · rw [if_pos hb] at h0
        exact absurd h0 (by show ¬ (80 : Int) = 0; decide)
      · rw [if_neg hb, if_neg hb]
        show ((⟨2, o + f, o + (satF s.size s f 0).1, s'.extract (o + f) (o + (satF s.size s f 0).1), _⟩, 0) : Sgn × Int) = _
        rw [h.extract hnb.2]
        rfl
    · rw [if_neg hD] at h0 ⊢
      rw [if_neg hD]
      by_cases h36 : byN s f = 36
      · rw [if_pos h36] at h0 ⊢
        rw [if_pos h36]
        unfold hexP at h0 ⊢
        rw [Nat.add_assoc, hx]
        by_cases hb : (hexF s.size s (f + 1) 0).1 = f + 1 ∨ f + 9 < (hexF s.size s (f + 1) 0).1
        · rw [if_pos hb] at h0
          exact absurd h0 (by show ¬ (80 : Int) = 0; decide)
        · rw [if_neg hb]
          show (if o + (hexF s.size s (f + 1) 0).1 = o + (f + 1) ∨ o + f + 9 < o + (hexF s.size s (f + 1) 0).1 then _ else _) = _
          rw [if_neg (by omega)]
          show ((⟨2, o + f, o + (hexF s.size s (f + 1) 0).1, s'.extract (o + f) (o + (hexF s.size s (f + 1) 0).1), _⟩, 0) : Sgn × Int) = _
          rw [h.extract hxb.2.1]
          rfl
      · rw [if_neg h36] at h0 ⊢
        rw [if_neg h36]
        by_cases h39 : byN s f = 39
        · rw [if_pos h39] at h0 ⊢
          rw [if_pos h39]
          by_cases hb : f + 2 < s.size ∧ 32 ≤ byN s (f + 1) ∧ byN s (f + 1) ≤ 126 ∧ byN s (f + 2) = 39
          · rw [if_pos hb]
            obtain ⟨b1, b2⟩ := hb
            rw [Nat.add_assoc, Nat.add_assoc, Nat.add_assoc, h.byte (f + 1) (by omega), h.byte (f + 2) b1, if_pos ⟨by omega, b2⟩, h.extract (by omega)]
            rfl
          · rw [if_neg hb] at h0
            exact absurd h0 (by show ¬ (82 : Int) = 0; decide)
        · rw [if_neg h39] at h0 ⊢
          rw [if_neg h39]
          by_cases h34 : byN s f = 34
          · rw [if_pos h34] at h0 ⊢
            rw [if_pos h34]
            by_cases hb : endOf textN s (f + 1) = s.size ∨ byN s (endOf textN s (f + 1)) ≠ 34
            · rw [if_pos hb] at h0
              exact absurd h0 (by show ¬ (82 : Int) = 0; decide)
            · rw [if_neg hb]
              have he : endOf textN s (f + 1) < s.size := by omega
              rw [Nat.add_assoc, h.end textN (k := f + 1) hf (.inr he), h.byte _ he, if_neg (by omega), h.extract (by omega)]
              rfl
          · rw [if_neg h34] at h0 ⊢
            rw [if_neg h34, h.two hf (by decide), h.two hf (by decide), h.two hf (by decide)]
            by_cases hb : twoP s f 58 61 = true ∨ twoP s f 60 61 = true ∨ twoP s f 62 61 = true
            · have hf2 : f + 2 ≤ s.size := by rcases hb with h | h | h <;> exact twoP_lt h
              rw [if_pos hb, if_pos hb, Nat.add_assoc, h.extract hf2]
              rfl
            · rw [if_neg hb] at h0 ⊢
              rw [if_neg hb]
              by_cases hm : markRow.contains (byN s f) = true
              · rw [if_pos hm, if_pos hm, Nat.add_assoc, h.extract (show f + 1 ≤ s.size from hf)]
                rfl
              · rw [if_neg hm] at h0
                exact absurd h0 (by show ¬ (83 : Int) = 0; decide)

/-- What a sign that is right tells of the blanks ahead of it. -/
theorem next_open {s : ByteArray} {k : Nat} (h0 : (nextP s k).2 = 0) : (blanksP s k).2 = true := by
  cases hb : (blanksP s k).2
  · unfold nextP at h0
    rw [if_pos hb] at h0
    exact absurd h0 (by show ¬ (81 : Int) = 0; decide)
  · rfl

theorem nextP_open {s : ByteArray} {k : Nat} (h : (blanksP s k).2 = true) : nextP s k = if (blanksP s k).1 = s.size then (⟨0, s.size, s.size, ⟨#[]⟩, 0⟩, 0) else signP s (blanksP s k).1 := by
  unfold nextP
  rw [if_neg (by rw [h]; decide)]

theorem Look.next (h : Look s s' o) {k : Nat} (hk : k ≤ s.size) (h0 : (nextP s k).2 = 0) (hp : s'.size = o + s.size ∨ (nextP s k).1.kind ≠ 0) : nextP s' (o + k) = (shf o (nextP s k).1, 0) := by
  have hz := h.size
  have hop := next_open h0
  have hbd := blanks_bound hk
  have hlt : s'.size = o + s.size ∨ (blanksP s k).1 < s.size := by
    rcases hp with hp | hp
    · exact .inl hp
    · right
      rcases Nat.lt_or_ge (blanksP s k).1 s.size with h | h
      · exact h
      · have e : (blanksP s k).1 = s.size := by omega
        unfold nextP at hp
        rw [if_neg (by rw [hop]; decide), if_pos e] at hp
        exact absurd rfl hp
  have hb := h.bl s.size s'.size k 0 hk (by omega) (by omega) hlt
  have hb' : blanksP s' (o + k) = (o + (blanksP s k).1, (blanksP s k).2) := hb
  rw [nextP_open hop] at h0 ⊢
  rw [nextP_open (by rw [hb']; exact hop), hb']
  by_cases he : (blanksP s k).1 = s.size
  · have hs : s'.size = o + s.size := by omega
    rw [if_pos he, if_pos (show o + (blanksP s k).1 = s'.size by omega), hs]
    rfl
  · rw [if_neg he] at h0 ⊢
    rw [if_neg (show ¬ o + (blanksP s k).1 = s'.size by omega)]
    exact h.sign (by omega) h0

/-- Blanks alone up to the end of a text: what follows behind the blank is next. -/
theorem next_past {a c : ByteArray} (h : Look a c 0) (hs : a.size < c.size) {k : Nat} (hk : k ≤ a.size) (h0 : (nextP a k).2 = 0) (h1 : (nextP a k).1.kind = 0) (hn : (nextP c (a.size + 1)).2 = 0) : nextP c k = nextP c (a.size + 1) := by
  have hop := next_open h0
  have hbd := blanks_bound hk
  have he : (blanksP a k).1 = a.size := by
    rcases Nat.lt_or_ge (blanksP a k).1 a.size with h | h
    · unfold nextP at h0 h1
      rw [if_neg (by rw [hop]; decide), if_neg (show ¬ (blanksP a k).1 = a.size by omega)] at h0 h1
      have := (signP_ok a h).2.2.2.1
      omega
    · omega
  obtain ⟨g, hg, e⟩ := h.blEnd a.size c.size k 0 hk (by omega) (by omega) (Prod.ext he hop)
  rw [Nat.zero_add, Nat.zero_add] at e
  rw [Nat.zero_add] at hg
  obtain ⟨g, rfl⟩ : ∃ z, g = z + 1 := ⟨g - 1, by omega⟩
  have h32 := h.stop (by omega)
  rw [Nat.zero_add] at h32
  have hb : blanksP c k = blanksP c (a.size + 1) := by
    show blF c.size c k 0 = blF c.size c (a.size + 1) 0
    rw [e, blF_skip hs (by unfold twoP; rw [h32]; simp) (by omega) (.inr (by rw [h32]; rfl))]
    exact blF_fuel c hs (by omega) (by omega)
  have hop2 := next_open hn
  rw [nextP_open (by rw [hb]; exact hop2), nextP_open hop2, hb]

/-- The signs of the second text. -/
theorem all_second {b c : ByteArray} {o : Nat} (h : Look b c o) (hs : c.size = o + b.size) : ∀ (f k : Nat) (acc acc' : List Sgn) (fc : Nat), k ≤ b.size → b.size - k < f → c.size - (o + k) < fc → (allF f b k acc).2.2 = 0 →
    ∃ l, (allF f b k acc).1 = acc ++ l ∧ allF fc c (o + k) acc' = (acc' ++ l.map (shf o), 0, 0)
  | 0, k, acc, acc', fc, hk, hf, hfc, h0 => by omega
  | f + 1, k, acc, acc', fc, hk, hf, hfc, h0 => by
    obtain ⟨fc, rfl⟩ : ∃ z, fc = z + 1 := ⟨fc - 1, by omega⟩
    by_cases h1 : (nextP b k).2 = 0
    · have hn := h.next hk h1 (.inl hs)
      by_cases h2 : (nextP b k).1.kind = 0
      · rw [allF_end h1 h2, allF_end (by rw [hn]) (by rw [hn]; exact h2), hn]
        exact ⟨[(nextP b k).1], rfl, rfl⟩
      · obtain ⟨n1, n2, n3, n4, n5, n6, n7, n8⟩ := nextP_ok b hk
        have hkt := n8 h1 h2
        rw [allF_go h1 h2] at h0 ⊢
        rw [allF_go (by rw [hn]) (by rw [hn]; exact h2), hn]
        obtain ⟨l, e1, e2⟩ := all_second h hs f (nextP b k).1.to (acc ++ [(nextP b k).1]) (acc' ++ [shf o (nextP b k).1]) fc n3 (by omega) (by omega) h0
        exact ⟨(nextP b k).1 :: l, by rw [e1, List.append_assoc]; rfl, by
          show allF fc c (o + (nextP b k).1.to) _ = _
          rw [e2, List.append_assoc]; rfl⟩
    · rw [allF_bad h1] at h0
      exact absurd h0 h1

/-- The signs of the first text, up to its end. -/
theorem all_first {a c : ByteArray} (h : Look a c 0) (hs : a.size < c.size) (hn : (nextP c (a.size + 1)).2 = 0) : ∀ (f k : Nat) (acc acc' : List Sgn) (fc : Nat), k ≤ a.size → a.size - k < f → c.size - k < fc → (allF f a k acc).2.2 = 0 →
    ∃ pre e fc', (allF f a k acc).1 = acc ++ (pre ++ [e]) ∧ allF fc c k acc' = allF fc' c (a.size + 1) (acc' ++ pre) ∧ c.size - (a.size + 1) < fc'
  | 0, k, acc, acc', fc, hk, hf, hfc, h0 => by omega
  | f + 1, k, acc, acc', fc, hk, hf, hfc, h0 => by
    obtain ⟨fc, rfl⟩ : ∃ z, fc = z + 1 := ⟨fc - 1, by omega⟩
    by_cases h1 : (nextP a k).2 = 0
    · by_cases h2 : (nextP a k).1.kind = 0
      · have hp := next_past h hs hk h1 h2 hn
        rw [allF_end h1 h2]
        refine ⟨[], (nextP a k).1, fc + 1, rfl, ?_, by omega⟩
        rw [List.append_nil]
        conv => lhs; unfold allF
        conv => rhs; unfold allF
        rw [hp]
      · have hnx := h.next hk h1 (.inr h2)
        rw [Nat.zero_add] at hnx
        have hsh : shf 0 (nextP a k).1 = (nextP a k).1 := by
          unfold shf
          rw [Nat.zero_add, Nat.zero_add]
        rw [hsh] at hnx
        obtain ⟨n1, n2, n3, n4, n5, n6, n7, n8⟩ := nextP_ok a hk
        have hkt := n8 h1 h2
        rw [allF_go h1 h2] at h0 ⊢
        rw [allF_go (by rw [hnx]) (by rw [hnx]; exact h2), hnx]
        obtain ⟨pre, e, fc', e1, e2, e3⟩ := all_first h hs hn f (nextP a k).1.to (acc ++ [(nextP a k).1]) (acc' ++ [(nextP a k).1]) fc n3 (by omega) (by omega) h0
        refine ⟨(nextP a k).1 :: pre, e, fc', by rw [e1, List.append_assoc]; rfl, ?_, e3⟩
        show allF fc c (nextP a k).1.to _ = _
        rw [e2, List.append_assoc]
        rfl
    · rw [allF_bad h1] at h0
      exact absurd h0 h1

/-- Two texts with a blank between them. -/
def both (a b : ByteArray) : ByteArray := (a ++ ⟨#[32]⟩) ++ b

theorem both_size (a b : ByteArray) : (both a b).size = a.size + 1 + b.size := by
  unfold both
  rw [ByteArray.size_append, ByteArray.size_append]
  rfl

theorem both_first (a b : ByteArray) {i : Nat} (h : i < a.size) : byN (both a b) i = byN a i := by
  have h1 : i < (a ++ (⟨#[32]⟩ : ByteArray)).size := by rw [ByteArray.size_append]; omega
  rw [byN_get (by rw [both_size]; omega), byN_get h]
  unfold both
  rw [ByteArray.getElem_append_left h1, ByteArray.getElem_append_left h]

theorem both_mid (a b : ByteArray) : byN (both a b) a.size = 32 := by
  have h1 : a.size < (a ++ (⟨#[32]⟩ : ByteArray)).size := by rw [ByteArray.size_append]; show a.size < a.size + 1; omega
  rw [byN_get (by rw [both_size]; omega)]
  unfold both
  rw [ByteArray.getElem_append_left h1, ByteArray.getElem_append_right (Nat.le_refl _)]
  have e : ∀ (j : Nat) (hj : j < (⟨#[32]⟩ : ByteArray).size), j = 0 → ((⟨#[32]⟩ : ByteArray)[j]'hj).toNat = 32 := fun j hj e => by subst e; rfl
  exact e _ _ (by omega)

theorem both_second (a b : ByteArray) {i : Nat} (h : i < b.size) : byN (both a b) (a.size + 1 + i) = byN b i := by
  have h1 : (a ++ (⟨#[32]⟩ : ByteArray)).size = a.size + 1 := by rw [ByteArray.size_append]; rfl
  rw [byN_get (by rw [both_size]; omega), byN_get h]
  unfold both
  rw [ByteArray.getElem_append_right (by omega)]
  have e : ∀ (j : Nat) (hj : j < b.size), j = i → (b[j]'hj).toNat = (b[i]'h).toNat := fun j hj e => by subst e; rfl
  exact e _ _ (by omega)

theorem look_first (a b : ByteArray) : Look a (both a b) 0 :=
  ⟨by rw [both_size]; omega, fun i hi => by rw [Nat.zero_add]; exact both_first a b hi, fun _ => by rw [Nat.zero_add]; exact both_mid a b⟩

theorem look_second (a b : ByteArray) : Look b (both a b) (a.size + 1) :=
  ⟨by rw [both_size]; omega, fun i hi => both_second a b hi, fun h => absurd h (by rw [both_size]; omega)⟩

theorem allF_first0 {f : Nat} {s : ByteArray} {acc : List Sgn} (h : (allF (f + 1) s 0 acc).2.2 = 0) : (nextP s 0).2 = 0 := by
  by_cases h1 : (nextP s 0).2 = 0
  · exact h1
  · rw [allF_bad h1] at h
    exact absurd h h1

/-- The signs of two texts with a blank between them. -/
theorem all_both {a b : ByteArray} (ha : a.size ≤ 2000) (hb : b.size ≤ 2000) (h1 : (allP a).2.2 = 0) (h2 : (allP b).2.2 = 0) :
    ∃ pre e, (allP a).1 = pre ++ [e] ∧ allP (both a b) = (pre ++ (allP b).1.map (shf (a.size + 1)), 0, 0) := by
  have E : ∀ s : ByteArray, s.size ≤ 65536 → allP s = allF (s.size + 1) s 0 [] := fun s h => by unfold allP; rw [if_neg (by omega)]
  have hz := both_size a b
  rw [E a (by omega)] at h1 ⊢
  rw [E b (by omega)] at h2 ⊢
  rw [E (both a b) (by omega)]
  have hn : (nextP (both a b) (a.size + 1)).2 = 0 := by
    have := (look_second a b).next (Nat.zero_le _) (allF_first0 h2) (.inl hz)
    rw [Nat.add_zero] at this
    rw [this]
  obtain ⟨pre, e, fc', e1, e2, e3⟩ := all_first (look_first a b) (by omega) hn (a.size + 1) 0 [] [] ((both a b).size + 1) (Nat.zero_le _) (by omega) (by omega) h1
  obtain ⟨l, e4, e5⟩ := all_second (look_second a b) hz (b.size + 1) 0 [] ([] ++ pre) fc' (Nat.zero_le _) (by omega) (by omega) h2
  refine ⟨pre, e, by rw [e1]; rfl, ?_⟩
  rw [Nat.add_zero] at e5
  rw [e2, e5, e4]
  rfl
end Go.Proofs.YtbkagnhficmdhaaDoor
