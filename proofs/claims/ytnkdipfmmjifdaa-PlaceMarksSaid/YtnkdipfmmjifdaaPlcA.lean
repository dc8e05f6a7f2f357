/- Place, plain: where the line feeds of a text are; where its lines begin and end; what a rune of the text tells of its bytes. -/
import Derived.Lib.DecodeN
namespace Go.Proofs.Ytnkdipfmmjifdaa
set_option linter.unusedVariables false

/-- Place i holds a line feed. -/
def feedAt (s : ByteArray) (i : Nat) : Bool := (s.get! i).toNat == 10

/-- The line feeds before place k. -/
def feedsTo (s : ByteArray) (k : Nat) : List Nat := (List.range k).filter (feedAt s)

def cnt (s : ByteArray) (k : Nat) : Nat := (feedsTo s k).length

/-- All line feeds. -/
def fd (s : ByteArray) : List Nat := feedsTo s s.size

/-- Where line j (from 0 on) begins. -/
def lo (s : ByteArray) (j : Nat) : Nat := if j = 0 then 0 else (fd s).getD (j - 1) 0 + 1

/-- Where it ends. -/
def hi (s : ByteArray) (j : Nat) : Nat := if j < (fd s).length then (fd s).getD j 0 else s.size

theorem feedsTo_yes {s : ByteArray} {k : Nat} (h : feedAt s k = true) : feedsTo s (k + 1) = feedsTo s k ++ [k] := by
  unfold feedsTo
  rw [List.range_succ, List.filter_append]
  simp [h]

theorem feedsTo_no {s : ByteArray} {k : Nat} (h : feedAt s k = false) : feedsTo s (k + 1) = feedsTo s k := by
  unfold feedsTo
  rw [List.range_succ, List.filter_append]
  simp [h]

theorem feedsTo_gap {s : ByteArray} {k : Nat} (n : Nat) (h : ∀ i, k ≤ i → i < k + n → feedAt s i = false) : feedsTo s (k + n) = feedsTo s k := by
  induction n with
  | zero => rfl
  | succ n ih => rw [← Nat.add_assoc, feedsTo_no (h (k + n) (by omega) (by omega)), ih (fun i h1 h2 => h i h1 (by omega))]

/-- The line feeds before k, and those from k on. -/
theorem feeds_split (s : ByteArray) {k n : Nat} (h : k ≤ n) : ∃ rest, feedsTo s n = feedsTo s k ++ rest ∧ ∀ x ∈ rest, k ≤ x := by
  obtain ⟨m, rfl⟩ := Nat.le.dest h
  refine ⟨((List.range m).map (k + ·)).filter (feedAt s), ?_, fun x hx => ?_⟩
  · unfold feedsTo
    rw [List.range_add, List.filter_append]
  · have := (List.mem_filter.1 hx).1
    obtain ⟨y, _, rfl⟩ := List.mem_map.1 this
    omega

theorem feeds_lt' {s : ByteArray} {k : Nat} {x : Nat} (h : x ∈ feedsTo s k) : x < k := List.mem_range.1 (List.mem_filter.1 h).1

theorem cnt_le (s : ByteArray) {k : Nat} (h : k ≤ s.size) : cnt s k ≤ (fd s).length := by
  obtain ⟨r, h1, _⟩ := feeds_split s h
  unfold cnt fd
  rw [h1, List.length_append]
  omega

theorem cnt_le_self (s : ByteArray) (k : Nat) : cnt s k ≤ k := by
  unfold cnt feedsTo
  exact Nat.le_trans (List.length_filter_le _ _) (by simp)

theorem fd_take (s : ByteArray) {k : Nat} (h : k ≤ s.size) : (fd s).take (cnt s k) = feedsTo s k := by
  obtain ⟨r, h1, _⟩ := feeds_split s h
  unfold cnt fd
  rw [h1, List.take_left']
  rfl

theorem fd_lt {s : ByteArray} {k t : Nat} (h : k ≤ s.size) (ht : t < cnt s k) : (fd s).getD t 0 < k := by
  have h1 : (fd s).getD t 0 = (feedsTo s k).getD t 0 := by
    rw [← fd_take s h, List.getD_eq_getElem?_getD, List.getD_eq_getElem?_getD, List.getElem?_take_of_lt ht]
  rw [h1, List.getD_eq_getElem?_getD, List.getElem?_eq_getElem ht]
  exact feeds_lt' (List.getElem_mem _)

theorem fd_ge {s : ByteArray} {k t : Nat} (h : k ≤ s.size) (h1 : cnt s k ≤ t) (h2 : t < (fd s).length) : k ≤ (fd s).getD t 0 := by
  obtain ⟨r, e, hr⟩ := feeds_split s h
  have e' : fd s = feedsTo s k ++ r := e
  have hl : cnt s k = (feedsTo s k).length := rfl
  rw [e', List.length_append] at h2
  rw [e', List.getD_eq_getElem?_getD, List.getElem?_append_right (by omega), List.getElem?_eq_getElem (by omega)]
  exact hr _ (List.getElem_mem _)

theorem fd_size {s : ByteArray} {t : Nat} (h : t < (fd s).length) : (fd s).getD t 0 < s.size := fd_lt (Nat.le_refl _) h

theorem fd_sorted (s : ByteArray) : (fd s).Pairwise (· < ·) := List.Pairwise.filter _ List.pairwise_lt_range

theorem fd_mono {s : ByteArray} {a b : Nat} (h : a < b) (hb : b < (fd s).length) : (fd s).getD a 0 < (fd s).getD b 0 := by
  have := List.pairwise_iff_getElem.1 (fd_sorted s) a b (by omega) hb h
  rw [List.getD_eq_getElem?_getD, List.getD_eq_getElem?_getD, List.getElem?_eq_getElem (by omega), List.getElem?_eq_getElem hb]
  exact this

theorem lo_le (s : ByteArray) {j : Nat} (h : j ≤ (fd s).length) : lo s j ≤ s.size := by
  unfold lo
  split
  · omega
  · have := fd_size (s := s) (t := j - 1) (by omega)
    omega

theorem hi_le (s : ByteArray) (j : Nat) : hi s j ≤ s.size := by
  unfold hi
  split
  · rename_i h
    exact Nat.le_of_lt (fd_size h)
  · omega

theorem lo_hi (s : ByteArray) {j : Nat} (h : j ≤ (fd s).length) : lo s j ≤ hi s j := by
  have h0 := lo_le s h
  unfold hi
  split
  · rename_i hj
    unfold lo
    split
    · omega
    · exact fd_mono (s := s) (by omega) hj
  · exact h0

theorem lo_cnt (s : ByteArray) {k : Nat} (h : k ≤ s.size) : lo s (cnt s k) ≤ k := by
  unfold lo
  split
  · omega
  · exact fd_lt h (by omega)

theorem hi_cnt (s : ByteArray) {k : Nat} (h : k ≤ s.size) : k ≤ hi s (cnt s k) := by
  unfold hi
  split
  · exact fd_ge h (Nat.le_refl _) ‹_›
  · exact h

/-- In which line a place is. -/
theorem cnt_of {s : ByteArray} {k j : Nat} (h : k ≤ s.size) (hj : j ≤ (fd s).length) (h1 : lo s j ≤ k) (h2 : k ≤ hi s j) : cnt s k = j := by
  have hc := cnt_le s h
  rcases Nat.lt_trichotomy (cnt s k) j with hlt | he | hgt
  · have h3 := fd_ge h (t := j - 1) (by omega) (by omega)
    unfold lo at h1
    rw [if_neg (by omega)] at h1
    omega
  · exact he
  · have h3 := fd_lt h (t := j) hgt
    unfold hi at h2
    rw [if_pos (by omega)] at h2
    omega

theorem cnt_succ_yes {s : ByteArray} {k : Nat} (h : feedAt s k = true) : cnt s (k + 1) = cnt s k + 1 := by
  unfold cnt
  rw [feedsTo_yes h]
  simp

theorem cnt_succ_no {s : ByteArray} {k : Nat} (h : feedAt s k = false) : cnt s (k + 1) = cnt s k := by
  unfold cnt
  rw [feedsTo_no h]

theorem fd_at {s : ByteArray} {k : Nat} (hk : k < s.size) (h : feedAt s k = true) : (fd s).getD (cnt s k) 0 = k ∧ cnt s k < (fd s).length := by
  have h1 : cnt s (k + 1) = cnt s k + 1 := cnt_succ_yes h
  have h2 := cnt_le s (show k + 1 ≤ s.size by omega)
  have h3 := fd_lt (s := s) (k := k + 1) (t := cnt s k) (by omega) (by omega)
  have h4 := fd_ge (s := s) (k := k) (t := cnt s k) (by omega) (Nat.le_refl _) (by omega)
  exact ⟨by omega, by omega⟩

theorem lo_succ {s : ByteArray} {k : Nat} (hk : k < s.size) (h : feedAt s k = true) : lo s (cnt s k + 1) = k + 1 := by
  unfold lo
  rw [if_neg (by omega), Nat.add_sub_cancel, (fd_at hk h).1]

theorem cnt_end (s : ByteArray) : cnt s s.size = (fd s).length := rfl

theorem cnt_zero (s : ByteArray) : cnt s 0 = 0 := rfl

theorem lo_zero (s : ByteArray) : lo s 0 = 0 := rfl

/-- How many line feeds are below a place: what a search in the list of all of them counts. -/
theorem countP_fd (s : ByteArray) {k : Nat} (h : k ≤ s.size) : ((fd s).map Int.ofNat).countP (· < (k : Int)) = cnt s k := by
  obtain ⟨r, e, hr⟩ := feeds_split s h
  have e' : fd s = feedsTo s k ++ r := e
  rw [e', List.countP_map, List.countP_append]
  have h1 : (feedsTo s k).countP ((fun x : Int => decide (x < (k : Int))) ∘ Int.ofNat) = (feedsTo s k).length := by
    apply List.countP_eq_length.2
    intro x hx
    have := feeds_lt' hx
    simp
    omega
  have h2 : r.countP ((fun x : Int => decide (x < (k : Int))) ∘ Int.ofNat) = 0 := by
    apply List.countP_eq_zero.2
    intro x hx
    have := hr x hx
    simp
    omega
  rw [h1, h2]
  rfl

theorem fd_le_pairwise (s : ByteArray) : ((fd s).map Int.ofNat).Pairwise (· ≤ ·) := by
  rw [List.pairwise_map]
  exact (fd_sorted s).imp fun h => by
    simp only [Int.ofNat_eq_natCast]
    omega

/-- A line. -/
def lineAt (s : ByteArray) (j : Nat) : ByteArray := s.extract (lo s j) (hi s j)

/-- All lines. -/
def linesOf (s : ByteArray) : List ByteArray := (List.range ((fd s).length + 1)).map (lineAt s)

/-- The lines that end before place k. -/
def linesTo (s : ByteArray) (k : Nat) : List ByteArray := (List.range (cnt s k)).map (lineAt s)

theorem linesTo_yes {s : ByteArray} {k : Nat} (hk : k < s.size) (h : feedAt s k = true) : linesTo s (k + 1) = linesTo s k ++ [s.extract (lo s (cnt s k)) k] := by
  have := fd_at hk h
  unfold linesTo
  rw [cnt_succ_yes h, List.range_succ, List.map_append]
  simp only [List.map_cons, List.map_nil, lineAt, hi, if_pos this.2, this.1]

theorem linesTo_no {s : ByteArray} {k : Nat} (h : feedAt s k = false) : linesTo s (k + 1) = linesTo s k := by
  unfold linesTo
  rw [cnt_succ_no h]

theorem linesOf_eq (s : ByteArray) : linesOf s = linesTo s s.size ++ [s.extract (lo s (cnt s s.size)) s.size] := by
  unfold linesOf linesTo
  rw [← cnt_end, List.range_succ, List.map_append]
  simp [lineAt, hi, cnt_end]

theorem linesOf_len (s : ByteArray) : (linesOf s).length = (fd s).length + 1 := by simp [linesOf]

theorem linesOf_get {s : ByteArray} {j : Nat} (h : j ≤ (fd s).length) : (linesOf s).getD j ⟨#[]⟩ = lineAt s j := by
  unfold linesOf
  rw [List.getD_eq_getElem?_getD, List.getElem?_map, List.getElem?_range (by omega)]
  rfl

/-- A rune of the text: it is a line feed just where its byte is one, and its further bytes are none. -/
theorem rune_feed (s : ByteArray) (p : Nat) (h : p < s.size) : 1 ≤ (Utf8.decode s p).2 ∧ p + (Utf8.decode s p).2 ≤ s.size ∧ ((Utf8.decode s p).1 = 10 ↔ feedAt s p = true) ∧ ∀ i, p + 1 ≤ i → i < p + (Utf8.decode s p).2 → feedAt s i = false := by
  have key : ∀ x : UInt8, (x.toNat == 10) = true ↔ x.toNat = 10 := fun x => by simp
  unfold feedAt
  rw [Lib.decode_at]
  unfold Lib.decodeN
  have hb : ∀ i, (s.get! i).toNat < 256 := fun i => (s.get! i).toNat_lt
  repeat' split
  all_goals refine ⟨by simp only; omega, by simp only; omega, ?_, fun i h1 h2 => ?_⟩
  all_goals first
    | (simp only [beq_iff_eq]; omega)
    | (simp only [beq_iff_eq]; done)
    | (simp only at h2; exfalso; omega)
    | (simp only at h2
       have hi : i = p + 1 ∨ i = p + 2 ∨ i = p + 3 := by omega
       rcases hi with rfl | rfl | rfl <;> simp only [beq_eq_false_iff_ne, ne_eq] <;> omega)
end Go.Proofs.Ytnkdipfmmjifdaa
