/- Codec: pieces that were put are taken again, plainly. -/
import Derived.Test.YtcoinciednbeaaaCdcJ
namespace Go.Proofs.Ytcoinciednbeaaa
open Go.ChangeShapes Go.WideShapes Go.ChangeAt Go.RowKit
set_option linter.unusedVariables false
set_option linter.unusedSimpArgs false

theorem bytesOf_bytes (n : Int) : ∀ b ∈ bytesOf n, 0 ≤ b ∧ b ≤ 255 := by
  intro b hb
  unfold bytesOf at hb
  simp only [List.mem_cons, List.not_mem_nil, or_false] at hb
  rcases hb with rfl | rfl | rfl | rfl <;> omega

theorem pieceB_bytes (p : Pc) : ∀ b ∈ pieceB p, 0 ≤ b ∧ b ≤ 255 := by
  intro b hb
  unfold pieceB at hb
  split at hb
  · obtain rfl := List.mem_singleton.1 hb
    omega
  · split at hb
    · exact cntB_bytes _ b hb
    · split at hb
      · exact cntB_bytes _ b hb
      · split at hb
        · exact bytesOf_bytes _ b hb
        · split at hb
          · rcases List.mem_append.1 hb with h | h
            · exact cntB_bytes _ b h
            · exact strI_bytes _ b h
          · cases hb

/-- What is put for the first t pieces. -/
def pcsB (f : Nat → Pc) (t : Nat) : List Int := (List.range t).flatMap fun j => pieceB (f j)

/-- What is put for those from the t-th to the T-th. -/
def restB (f : Nat → Pc) (T t : Nat) : List Int := ((List.range T).drop t).flatMap fun j => pieceB (f j)

theorem pcsB_succ (f : Nat → Pc) (t : Nat) : pcsB f (t + 1) = pcsB f t ++ pieceB (f t) := by
  unfold pcsB
  rw [List.range_succ, List.flatMap_append, List.flatMap_cons, List.flatMap_nil, List.append_nil]

theorem restB_zero (f : Nat → Pc) (T : Nat) : restB f T 0 = pcsB f T := rfl

theorem restB_end (f : Nat → Pc) (T : Nat) : restB f T T = [] := by
  unfold restB
  rw [List.drop_of_length_le (by simp)]
  rfl

theorem restB_step (f : Nat → Pc) {T t : Nat} (h : t < T) : restB f T t = pieceB (f t) ++ restB f T (t + 1) := by
  unfold restB
  rw [List.drop_eq_getElem_cons (by simpa using h), List.flatMap_cons]
  simp

theorem restB_bytes (f : Nat → Pc) (T t : Nat) : ∀ b ∈ restB f T t, 0 ≤ b ∧ b ≤ 255 := by
  intro b hb
  unfold restB at hb
  obtain ⟨j, _, hj⟩ := List.mem_flatMap.1 hb
  exact pieceB_bytes _ b hj

theorem pcsB_len (f : Nat → Pc) : ∀ (T : Nat), (∀ j, j < T → (pieceB (f j)).length ≤ 1010) → (pcsB f T).length ≤ 1010 * T
  | 0, _ => Nat.le_refl _
  | T + 1, h => by
    rw [pcsB_succ, List.length_append]
    have h1 := pcsB_len f T (fun j hj => h j (by omega))
    have h2 := h T (by omega)
    omega

theorem restB_len (f : Nat → Pc) (T t : Nat) (h : t ≤ T) : (restB f T t).length ≤ (pcsB f T).length := by
  have e : pcsB f T = ((List.range T).take t).flatMap (fun j => pieceB (f j)) ++ restB f T t := by
    unfold pcsB restB
    rw [← List.flatMap_append, List.take_append_drop]
  rw [e, List.length_append]
  omega

theorem count_back (n most : Nat) (r : List Int) (hn : n < 9223372036854775808) (hm : n ≤ most) : groupsP (cntB n ++ r) 0 most = (n, r, 0) :=
  groupsP_ok (takeG_back 9 0 n r rfl (by decide) (Nat.lt_of_lt_of_le hn (by decide)) (.inl rfl)) (by omega)

theorem ofNums_strI (s : ByteArray) : strOfNums (strI s) = s := by
  apply ByteArray.ext
  apply Array.ext'
  unfold strOfNums strI
  simp only [List.map_map]
  have : ((fun n : Int => UInt8.ofNat n.toNat) ∘ fun b : UInt8 => ((b.toNat : Nat) : Int)) = id := by
    funext b
    simp
  rw [this, List.map_id]

theorem text_back (s : ByteArray) (r : List Int) (hs : s.size ≤ 1000) : textP (cntB s.size ++ strI s ++ r) 0 1000 = (s, r, 0) := by
  rw [List.append_assoc, textP_yes (count_back s.size 1000 (strI s ++ r) (by omega) hs) (by rw [List.length_append, strI_len]; omega)]
  have hl := strI_len s
  rw [← hl, List.take_left, List.drop_left, ofNums_strI]

theorem word_back (n : Int) (h0 : 0 ≤ n) (h1 : n ≤ 4294967295) : word4 (n % 256) (n / 256 % 256) (n / 65536 % 256) (n / 16777216 % 256) = n := by
  unfold word4
  omega
end Go.Proofs.Ytcoinciednbeaaa
