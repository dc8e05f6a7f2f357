/- Scan, plain: what digits come to: as the answers reckon, and as word.Parse reads them. -/
import Derived.Test.YtbkagnhficmdhaaDoorScnA
import Derived.Test.YtbkagnhficmdhaaDoorParsePlain
import Derived.Test.YtbkagnhficmdhaaDoorWordE
import Derived.Lib.TrimByte
import Derived.Lib.Strings
namespace Go.Proofs.YtbkagnhficmdhaaDoor
open Go.ChangeShapes Go.WideShapes Go.ChangeAt Go.RowKit
set_option linter.unusedVariables false
set_option linter.unusedSimpArgs false

theorem data_len (s : ByteArray) : s.data.toList.length = s.size := Array.length_toList

theorem extract_data (s : ByteArray) (k e : Nat) : (s.extract k e).data.toList = (s.data.toList.drop k).take (e - k) := by
  rw [ByteArray.data_extract, Array.toList_extract, List.extract_eq_take_drop]

theorem bys_cons (s : ByteArray) {k e : Nat} (h : k < e) (he : e ≤ s.size) : bys (s.extract k e) = (byN s k : Int) :: bys (s.extract (k + 1) e) := by
  unfold bys
  rw [extract_data, extract_data, List.drop_eq_getElem_cons (by rw [data_len]; omega), show e - k = (e - (k + 1)) + 1 by omega, List.take_succ_cons, List.map_cons]
  congr 1
  rw [byN_get (by omega)]
  rfl

theorem bys_nil (s : ByteArray) (k : Nat) : bys (s.extract k k) = [] := by
  unfold bys
  rw [extract_data, Nat.sub_self, List.take_zero]
  rfl

/-- The bytes of a run are of the kind. -/
theorem run_all (p : Nat → Bool) : ∀ (f : Nat) (s : ByteArray) (k : Nat), k ≤ s.size → ∀ c ∈ bys (s.extract k (runF p f s k)), ∃ b : Nat, c = b ∧ p b = true
  | 0, s, k, h => by
    unfold runF
    rw [bys_nil]
    intro c hc
    exact absurd hc (List.not_mem_nil)
  | f + 1, s, k, h => by
    unfold runF
    split
    · rename_i h1
      have hb := runF_bound p f s (k + 1) h1.1
      rw [bys_cons s (by omega) hb.2]
      intro c hc
      rcases List.mem_cons.1 hc with rfl | hc
      · exact ⟨_, rfl, h1.2⟩
      · exact run_all p f s (k + 1) h1.1 c hc
    · rw [bys_nil]
      intro c hc
      exact absurd hc (List.not_mem_nil)

/-- What digits come to, without a limit. -/
def realF : Nat → ByteArray → Nat → Nat → Nat
  | 0, _, _, v => v
  | f + 1, s, k, v => if k < s.size ∧ digN (byN s k) = true then realF f s (k + 1) (v * 10 + (byN s k - 48)) else v

theorem digN_iff {c : Nat} : digN c = true ↔ 48 ≤ c ∧ c ≤ 57 := by
  unfold digN
  simp only [Bool.and_eq_true, decide_eq_true_eq]

theorem realF_sum : ∀ (f : Nat) (s : ByteArray) (k v : Nat), k ≤ s.size → (realF f s k v : Int) = (bys (s.extract k (runF digN f s k))).foldl (fun n c => 10 * n + (c - 48)) (v : Int)
  | 0, s, k, v, h => by
    unfold runF realF
    rw [bys_nil]
    rfl
  | f + 1, s, k, v, h => by
    unfold runF realF
    split
    · rename_i h1
      have hb := runF_bound digN f s (k + 1) h1.1
      have hd := digN_iff.1 h1.2
      rw [bys_cons s (by omega) hb.2, List.foldl_cons, realF_sum f s (k + 1) _ h1.1]
      congr 1
      omega
    · rw [bys_nil]
      rfl

/-- As the answers reckon: the number, or both are too large. -/
def Near (n v : Nat) : Prop := n = v ∨ (2147483647 < n ∧ 2147483647 < v)

theorem satF_real : ∀ (f : Nat) (s : ByteArray) (k n v : Nat), Near n v → (satF f s k n).1 = runF digN f s k ∧ Near (satF f s k n).2 (realF f s k v)
  | 0, s, k, n, v, h => ⟨rfl, h⟩
  | f + 1, s, k, n, v, h => by
    unfold satF runF realF
    split
    · refine satF_real f s (k + 1) _ _ ?_
      unfold Near at h ⊢
      split <;> omega
    · exact ⟨rfl, h⟩

/-! ### Digits as word.Parse reads them -/
theorem decSum_low : ∀ (l : List Int) (a : Int), digAll l = true → 0 ≤ a → a * 10 ^ l.length ≤ l.foldl (fun n c => 10 * n + (c - 48)) a
  | [], a, _, _ => by simp
  | c :: l, a, h, ha => by
    have h' : (48 ≤ c ∧ c ≤ 57) ∧ digAll l = true := by
      unfold digAll at h ⊢
      simpa only [List.all_cons, Bool.and_eq_true, decide_eq_true_eq] using h
    have ih := decSum_low l (10 * a + (c - 48)) h'.2 (by omega)
    rw [List.foldl_cons, List.length_cons]
    refine Int.le_trans ?_ ih
    rw [Int.pow_succ, Int.mul_comm (10 ^ l.length) 10, ← Int.mul_assoc]
    exact Int.mul_le_mul_of_nonneg_right (by omega) (Int.pow_nonneg (by decide))

theorem digAll_cons {c : Int} {l : List Int} : digAll (c :: l) = true ↔ (48 ≤ c ∧ c ≤ 57) ∧ digAll l = true := by
  unfold digAll
  simp only [List.all_cons, Bool.and_eq_true, decide_eq_true_eq]

theorem decSum_zero (l : List Int) : decSum (48 :: l) = decSum l := rfl

/-- Digits that don't begin with a nought are written back. -/
theorem decF_back : ∀ (f : Nat) (l : List Int), digAll l = true → l ≠ [] → (l.head? ≠ some 48 ∨ l.length = 1) → l.length ≤ f → decF f (decSum l).toNat = l := by
  intro f
  induction f with
  | zero => exact fun l _ h _ hl => absurd (List.eq_nil_of_length_eq_zero (Nat.le_zero.1 hl)) h
  | succ f ih =>
    intro l h hne hh hl
    rcases List.eq_nil_or_concat l with rfl | ⟨l', c, rfl⟩
    · exact absurd rfl hne
    rw [List.concat_eq_append] at *
    have hd : digAll l' = true ∧ (48 ≤ c ∧ c ≤ 57) := by
      rw [digAll_snoc] at h
      simpa only [Bool.and_eq_true, decide_eq_true_eq] using h
    rw [decSum_snoc]
    rw [List.length_append, List.length_singleton] at hl
    match l', hd with
    | [], hd =>
      rw [show decSum [] = 0 from rfl, decF_last f _ (by omega)]
      simp only [List.nil_append, List.cons.injEq, and_true]
      omega
    | x :: l'', hd =>
      have hx := digAll_cons.1 hd.1
      have hx48 : x ≠ 48 := by
        rcases hh with hh | hh
        · exact fun e => hh (by rw [e]; rfl)
        · simp at hh
      have hpos : 1 ≤ decSum (x :: l'') := by
        have h1 := decSum_aux l'' (10 * 0 + (x - 48)) hx.2 (by omega)
        show (1 : Int) ≤ List.foldl (fun n c => 10 * n + (c - 48)) 0 (x :: l'')
        rw [List.foldl_cons]
        omega
      have ih' := ih (x :: l'') hd.1 (by simp) (.inl (by simpa using hx48)) (by omega)
      generalize decSum (x :: l'') = d at *
      rw [decF_more f _ (by omega), show (10 * d + (c - 48)).toNat / 10 = d.toNat by omega, show (10 * d + (c - 48)).toNat % 10 = (c - 48).toNat by omega, ih']
      congr 2
      omega

theorem decSum_ge {c : Int} {l : List Int} (h : digAll (c :: l) = true) (hc : c ≠ 48) : (10 : Int) ^ l.length ≤ decSum (c :: l) := by
  have hx := digAll_cons.1 h
  have h1 := decSum_low l (10 * 0 + (c - 48)) hx.2 (by omega)
  show _ ≤ List.foldl (fun n c => 10 * n + (c - 48)) 0 (c :: l)
  rw [List.foldl_cons]
  refine Int.le_trans ?_ h1
  have hp : (0 : Int) ≤ 10 ^ l.length := Int.pow_nonneg (by decide)
  have := Int.mul_le_mul_of_nonneg_right (show (1 : Int) ≤ 10 * 0 + (c - 48) by omega) hp
  rwa [Int.one_mul] at this

/-- Digits without a nought ahead, read. -/
theorem parse_digits {l : List Int} (h : digAll l = true) (hne : l ≠ []) (hh : l.head? ≠ some 48 ∨ l.length = 1) :
    parseRes l = if decSum l ≤ 2147483647 then .tuple #[.int .i32 (decSum l), .bool true] else .tuple #[.int .i32 0, .bool false] := by
  have h45 : l.head? ≠ some 45 := by
    intro e
    match l, e with
    | x :: l', e =>
      have := (digAll_cons.1 h).1
      simp at e
      omega
  have hdo : digitsOf l = l := if_neg h45
  have hpo : parseOf l = decSum l := by unfold parseOf; rw [if_neg h45, hdo]
  have h0 := decSum_nonneg l h
  split
  · rename_i hle
    rw [← hpo]
    refine parseRes_yes (yes_text (by rw [hdo]; exact h) (by omega) (by omega) ?_)
    rw [hpo]
    unfold textNums
    rw [if_neg (by omega), show (decSum l).natAbs = (decSum l).toNat by omega]
    refine decF_back 20 l h hne hh ?_
    rcases hh with hh | hh
    · match l, hne, hh with
      | c :: l', _, hh =>
        have hg := decSum_ge h (fun e => hh (by rw [e]; rfl))
        rw [List.length_cons]
        rcases Nat.lt_or_ge l'.length 10 with h10 | h10
        · omega
        · have : (10 : Int) ^ 10 ≤ 10 ^ l'.length := by
            have h2 := Nat.pow_le_pow_right (n := 10) (by decide) h10
            have h3 : ((10 ^ 10 : Nat) : Int) ≤ ((10 ^ l'.length : Nat) : Int) := by exact_mod_cast h2
            rwa [Int.natCast_pow, Int.natCast_pow] at h3
          omega
    · omega
  · exact parseRes_no (no_range (.inr (by rw [hpo]; omega)))
end Go.Proofs.YtbkagnhficmdhaaDoor
