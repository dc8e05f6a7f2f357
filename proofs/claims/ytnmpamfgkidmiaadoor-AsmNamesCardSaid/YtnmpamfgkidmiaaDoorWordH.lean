/- Contracts of the answers' Parse. -/
import Derived.Test.YtnmpamfgkidmiaaDoorWordG
namespace Go.Proofs.YtnmpamfgkidmiaaDoor
open Go.ChangeShapes Go.WideShapes Go.ChangeAt Go.RowKit
set_option linter.unusedVariables false

theorem head_first (s : ByteArray) (h : 1 ≤ s.size) : (bys s).head? = some 45 ↔ (s[0].toNat : Int) = 45 := by
  have h2 := bys_snoc s 0 h
  rw [List.take_zero, List.nil_append] at h2
  cases hb : bys s with
  | nil => rw [hb] at h2; simp at h2
  | cons c l =>
    rw [hb] at h2
    simp at h2
    rw [h2]; simp

theorem tail_snoc (s : ByteArray) (k : Nat) (hk : 1 ≤ k) (h : k < s.size) : (bys s).tail.take (k + 1 - 1) = (bys s).tail.take (k - 1) ++ [(s[k].toNat : Int)] := by
  have h2 := congrArg List.tail (bys_snoc s k h)
  have e : ∀ j, ((bys s).take (j + 1)).tail = (bys s).tail.take j := fun j => by cases bys s <;> simp
  obtain ⟨k, rfl⟩ : ∃ j, k = j + 1 := ⟨k - 1, by omega⟩
  rw [e] at h2
  rw [Nat.add_sub_cancel, h2, List.tail_append_of_ne_nil, e]
  · rfl
  · intro hn
    have := congrArg List.length hn
    rw [List.length_take, bys_length] at this
    simp only [List.length_nil] at this
    omega

theorem num_i64 {a b : Int} (h : a = b) : Value.int .i64 a = .int .i64 b := by rw [h]

theorem pow10_le (k : Nat) (h : k ≤ 11) : (10 : Int) ^ k ≤ 100000000000 := by
  have h2 : 10 ^ k ≤ 100000000000 := Nat.le_trans (Nat.pow_le_pow_right (n := 10) (by decide) h) (by decide)
  have h3 : ((10 ^ k : Nat) : Int) ≤ 100000000000 := by omega
  rwa [Int.natCast_pow] at h3

set_option maxHeartbeats 800000 in
set_option maxRecDepth 100000 in
theorem refparse_short (s : ByteArray) (w : World) (hm : s.size ≤ maxLen) (h : s.size < 1) :
    Calls Tryd.prog 110 #[.string s] w fun e w' => e = .returned (parseRes (bys s)) ∧ Below w.heap.size w w' := by
  have HN := Lib.hid (no_length (l := bys s) (by rw [bys_length]; omega))
  have hl1 : decide ((s.size : Int) < 1) = true := decide_eq_true (by omega)
  go_enter Tryd.func110, Tryd.ntmps110
  go_wp2
  go_ret2
  exact ⟨ret_val (by rw [parseRes_no HN.out]; rfl), Below.refl _ _⟩

set_option maxHeartbeats 800000 in
set_option maxRecDepth 100000 in
theorem refparse_long (s : ByteArray) (w : World) (hm : s.size ≤ maxLen) (h : 11 < s.size) :
    Calls Tryd.prog 110 #[.string s] w fun e w' => e = .returned (parseRes (bys s)) ∧ Below w.heap.size w w' := by
  have HN := Lib.hid (no_length (l := bys s) (by rw [bys_length]; omega))
  unfold maxLen at hm
  have hl1 : decide ((s.size : Int) < 1) = false := decide_eq_false (by omega)
  have hl2 : decide ((11 : Int) < (s.size : Int)) = true := decide_eq_true (by omega)
  go_enter Tryd.func110, Tryd.ntmps110
  go_wp2
  go_ret2
  exact ⟨ret_val (by rw [parseRes_no HN.out]; rfl), Below.refl _ _⟩

set_option maxHeartbeats 2000000 in
set_option maxRecDepth 100000 in
theorem refparse_plain (s : ByteArray) (w : World) (h1 : 1 ≤ s.size) (h2 : s.size ≤ 11) (hne : ¬ (bys s).head? = some 45) :
    Calls Tryd.prog 110 #[.string s] w fun e w' => e = .returned (parseRes (bys s)) ∧ Below w.heap.size w w' := by
  have hl1 : decide ((s.size : Int) < 1) = false := decide_eq_false (by omega)
  have hl2 : decide ((11 : Int) < (s.size : Int)) = false := decide_eq_false (by omega)
  have h45 : ((s[0].toNat : Int) == 45) = false := beq_eq_false_iff_ne.2 (fun h => hne ((head_first s h1).2 h))
  have HH := Lib.hid hne
  have HDS := Lib.hid (show digitsOf (bys s) = bys s by unfold digitsOf; rw [if_neg hne])
  clear hne
  go_enter Tryd.func110, Tryd.ntmps110
  go_wp2
  go_loop [4, 5] (fun v i => ∃ k : Nat, k ≤ s.size ∧ i = .int .i64 k ∧ v = .int .i64 (decSum ((bys s).take k)) ∧ Hid (digAll ((bys s).take k) = true)) (fun _ i => s.size - (intOf i).toNat)
  case atStart => exact ⟨0, Nat.zero_le _, rfl, by simp [decSum], by show digAll _ = true; simp [digAll]⟩
  case round =>
    obtain ⟨k, hk, rfl, rfl, HA⟩ := hrel
    have hmn := decSum_nonneg _ HA.out
    have hmx2 := decSum_lt _ HA.out
    have hmy2 : (10 : Int) ^ (((bys s).take k)).length ≤ 100000000000 := pow10_le _ (by rw [List.length_take]; omega)
    have hmz : decSum ((bys s).take k) < 100000000000 := by omega
    clear hmx2 hmy2
    by_cases hlt : k < s.size
    · rcases Nat.eq_zero_or_pos k with hk0 | hk0
      · have hk00 : k ≤ 0 := by omega
        have hb0 := byte_le s[k]
        have hb1 : (0 : Int) ≤ (s[k].toNat : Int) := by omega
        have HSN := Lib.hid (bys_snoc s k hlt)
        have hkb : ((k : Int) == 0) = true := beq_iff_eq.2 (by omega)
        clear hk0
        by_cases hdg : 48 ≤ (s[k].toNat : Int) ∧ (s[k].toNat : Int) ≤ 57
        · obtain ⟨d0, d1⟩ := hdg
          have HX := Lib.hid (show decSum ((bys s).take (k + 1)) = 10 * decSum ((bys s).take k) + ((s[k].toNat : Int) - 48) by rw [HSN.out, decSum_snoc])
          have HY := Lib.hid (show digAll ((bys s).take (k + 1)) = true by rw [HSN.out, digAll_snoc, HA.out, decide_eq_true d0, decide_eq_true d1]; rfl)
          have hd1 : decide ((s[k].toNat : Int) < 48) = false := decide_eq_false (by omega)
          have hd2 : decide ((57 : Int) < (s[k].toNat : Int)) = false := decide_eq_false (by omega)
          go_wp2
          go_round
          case rel => exact ⟨k + 1, by omega, by go_num, by rw [HX.out]; exact num_i64 (by omega), HY⟩
          case measure => simp [intOf]; omega
        · have HN := Lib.hid (show parseOk (bys s) = false from no_digits (by
            have hsn : digAll ((bys s).take (k + 1)) = false := by
              rw [HSN.out, digAll_snoc]
              have : (decide (48 ≤ (s[k].toNat : Int)) && decide ((s[k].toNat : Int) ≤ 57)) = false := by
                rw [Bool.and_eq_false_iff, decide_eq_false_iff_not, decide_eq_false_iff_not]
                omega
              rw [this, Bool.and_false]
            rw [HDS.out]
            exact digAll_false hsn))
          rcases (show (s[k].toNat : Int) < 48 ∨ 57 < (s[k].toNat : Int) by omega) with hv | hv
          · have hd1 : decide ((s[k].toNat : Int) < 48) = true := decide_eq_true hv
            go_wp2
            go_ret2
            exact ⟨ret_val (by rw [parseRes_no HN.out]; rfl), Below.refl _ _⟩
          · have hd1 : decide ((s[k].toNat : Int) < 48) = false := decide_eq_false (by omega)
            go_wp2
            go_ret2
            exact ⟨ret_val (by rw [parseRes_no HN.out]; rfl), Below.refl _ _⟩
      · have hb0 := byte_le s[k]
        have hb1 : (0 : Int) ≤ (s[k].toNat : Int) := by omega
        have HSN := Lib.hid (bys_snoc s k hlt)
        have hkb : ((k : Int) == 0) = false := beq_eq_false_iff_ne.2 (by omega)
        by_cases hdg : 48 ≤ (s[k].toNat : Int) ∧ (s[k].toNat : Int) ≤ 57
        · obtain ⟨d0, d1⟩ := hdg
          have HX := Lib.hid (show decSum ((bys s).take (k + 1)) = 10 * decSum ((bys s).take k) + ((s[k].toNat : Int) - 48) by rw [HSN.out, decSum_snoc])
          have HY := Lib.hid (show digAll ((bys s).take (k + 1)) = true by rw [HSN.out, digAll_snoc, HA.out, decide_eq_true d0, decide_eq_true d1]; rfl)
          have hd1 : decide ((s[k].toNat : Int) < 48) = false := decide_eq_false (by omega)
          have hd2 : decide ((57 : Int) < (s[k].toNat : Int)) = false := decide_eq_false (by omega)
          go_wp2
          go_round
          case rel => exact ⟨k + 1, by omega, by go_num, by rw [HX.out]; exact num_i64 (by omega), HY⟩
          case measure => simp [intOf]; omega
        · have HN := Lib.hid (show parseOk (bys s) = false from no_digits (by
            have hsn : digAll ((bys s).take (k + 1)) = false := by
              rw [HSN.out, digAll_snoc]
              have : (decide (48 ≤ (s[k].toNat : Int)) && decide ((s[k].toNat : Int) ≤ 57)) = false := by
                rw [Bool.and_eq_false_iff, decide_eq_false_iff_not, decide_eq_false_iff_not]
                omega
              rw [this, Bool.and_false]
            rw [HDS.out]
            exact digAll_false hsn))
          rcases (show (s[k].toNat : Int) < 48 ∨ 57 < (s[k].toNat : Int) by omega) with hv | hv
          · have hd1 : decide ((s[k].toNat : Int) < 48) = true := decide_eq_true hv
            go_wp2
            go_ret2
            exact ⟨ret_val (by rw [parseRes_no HN.out]; rfl), Below.refl _ _⟩
          · have hd1 : decide ((s[k].toNat : Int) < 48) = false := decide_eq_false (by omega)
            go_wp2
            go_ret2
            exact ⟨ret_val (by rw [parseRes_no HN.out]; rfl), Below.refl _ _⟩
    · have HT := Lib.hid (show ((bys s).take k) = (bys s) from List.take_of_length_le (by rw [bys_length]; omega))
      have HA2 := Lib.hid (show digAll (digitsOf (bys s)) = true by have := HA.out; rw [HT.out] at this; rw [HDS.out]; exact this)
      have hmx := decSum_lt (bys s) (by have := HA2.out; rw [HDS.out] at this; exact this)
      have hmy : (10 : Int) ^ (bys s).length ≤ 100000000000 := pow10_le _ (by rw [bys_length]; omega)
      rw [HT.out] at hmn
      rw [HT.out]
      have HP := Lib.hid (show parseOf (bys s) = decSum (bys s) by unfold parseOf; rw [HDS.out, if_neg HH.out])
      have hN1 : decSum (bys s) < 100000000000 := by omega
      clear hmx hmy
      generalize decSum (bys s) = N at *
      by_cases hr1 : N < -2147483648
      · have HY := Lib.hid (no_range (l := bys s) (by rw [HP.out]; omega))
        have hd1 : decide (N < -2147483648) = true := decide_eq_true hr1
        omega
      · have hd1 : decide (N < -2147483648) = false := decide_eq_false hr1
        by_cases hr2 : 2147483647 < N
        · have HY := Lib.hid (no_range (l := bys s) (by rw [HP.out]; omega))
          have hd2 : decide ((2147483647 : Int) < N) = true := decide_eq_true hr2
          go_wp2
          go_ret2
          exact ⟨ret_val (by rw [parseRes_no HY.out]; rfl), Below.refl _ _⟩
        · have hd2 : decide ((2147483647 : Int) < N) = false := decide_eq_false hr2
          have hb := textNums_byte (N)
          have HSS := Lib.hid (str_same (textNums (N)) s hb)
          clear hb
          by_cases ht : textNums (N) = bys s
          · have he : ((strOfNums (textNums (N))).toList == s.toList) = true := by rw [HSS.out]; exact decide_eq_true ht
            have HY := Lib.hid (yes_text HA2.out (by rw [HP.out]; omega) (by rw [HP.out]; omega) (by rw [HP.out]; exact ht))
            have HTT := Lib.hid ht
            clear ht
            go_wp2_with fail
            refine (reftext_any _ _ (by omega) (by omega)).mono ?_
            rintro e w1 ⟨rfl, hb1⟩
            go_wp2
            go_ret2
            exact ⟨ret_val (by rw [parseRes_yes HY.out, HP.out]; rfl), hb1⟩
          · have he : ((strOfNums (textNums (N))).toList == s.toList) = false := by rw [HSS.out]; exact decide_eq_false ht
            have HY := Lib.hid (no_text (l := bys s) (by rw [HP.out]; exact ht))
            have HTT := Lib.hid ht
            clear ht
            go_wp2_with fail
            refine (reftext_any _ _ (by omega) (by omega)).mono ?_
            rintro e w1 ⟨rfl, hb1⟩
            go_wp2
            go_ret2
            exact ⟨ret_val (by rw [parseRes_no HY.out]; rfl), hb1⟩

set_option maxHeartbeats 2000000 in
set_option maxRecDepth 100000 in
theorem refparse_minus (s : ByteArray) (w : World) (h1 : 1 ≤ s.size) (h2 : s.size ≤ 11) (hne : (bys s).head? = some 45) :
    Calls Tryd.prog 110 #[.string s] w fun e w' => e = .returned (parseRes (bys s)) ∧ Below w.heap.size w w' := by
  have hl1 : decide ((s.size : Int) < 1) = false := decide_eq_false (by omega)
  have hl2 : decide ((11 : Int) < (s.size : Int)) = false := decide_eq_false (by omega)
  have h45 : ((s[0].toNat : Int) == 45) = true := beq_iff_eq.2 ((head_first s h1).1 hne)
  have HH := Lib.hid hne
  have HDS := Lib.hid (show digitsOf (bys s) = (bys s).tail by unfold digitsOf; rw [if_pos hne])
  clear hne
  go_enter Tryd.func110, Tryd.ntmps110
  go_wp2
  go_loop [4, 5] (fun v i => ∃ k : Nat, k ≤ s.size ∧ i = .int .i64 k ∧ v = .int .i64 (decSum ((bys s).tail.take (k - 1))) ∧ Hid (digAll ((bys s).tail.take (k - 1)) = true)) (fun _ i => s.size - (intOf i).toNat)
  case atStart => exact ⟨0, Nat.zero_le _, rfl, by simp [decSum], by show digAll _ = true; simp [digAll]⟩
  case round =>
    obtain ⟨k, hk, rfl, rfl, HA⟩ := hrel
    have hmn := decSum_nonneg _ HA.out
    have hmx2 := decSum_lt _ HA.out
    have hmy2 : (10 : Int) ^ (((bys s).tail.take (k - 1))).length ≤ 100000000000 := pow10_le _ (by rw [List.length_take]; omega)
    have hmz : decSum ((bys s).tail.take (k - 1)) < 100000000000 := by omega
    clear hmx2 hmy2
    by_cases hlt : k < s.size
    · by_cases hk1 : 1 ≤ k
      · have hb0 := byte_le s[k]
        have hb1 : (0 : Int) ≤ (s[k].toNat : Int) := by omega
        have HSN := Lib.hid (tail_snoc s k hk1 hlt)
        have hkb : ((k : Int) == 0) = false := beq_eq_false_iff_ne.2 (by omega)
        by_cases hdg : 48 ≤ (s[k].toNat : Int) ∧ (s[k].toNat : Int) ≤ 57
        · obtain ⟨d0, d1⟩ := hdg
          have HX := Lib.hid (show decSum ((bys s).tail.take (k + 1 - 1)) = 10 * decSum ((bys s).tail.take (k - 1)) + ((s[k].toNat : Int) - 48) by rw [HSN.out, decSum_snoc])
          have HY := Lib.hid (show digAll ((bys s).tail.take (k + 1 - 1)) = true by rw [HSN.out, digAll_snoc, HA.out, decide_eq_true d0, decide_eq_true d1]; rfl)
          have hd1 : decide ((s[k].toNat : Int) < 48) = false := decide_eq_false (by omega)
          have hd2 : decide ((57 : Int) < (s[k].toNat : Int)) = false := decide_eq_false (by omega)
          go_wp2
          go_round
          case rel => exact ⟨k + 1, by omega, by go_num, by rw [HX.out]; exact num_i64 (by omega), HY⟩
          case measure => simp [intOf]; omega
        · have HN := Lib.hid (show parseOk (bys s) = false from no_digits (by
            have hsn : digAll ((bys s).tail.take (k + 1 - 1)) = false := by
              rw [HSN.out, digAll_snoc]
              have : (decide (48 ≤ (s[k].toNat : Int)) && decide ((s[k].toNat : Int) ≤ 57)) = false := by
                rw [Bool.and_eq_false_iff, decide_eq_false_iff_not, decide_eq_false_iff_not]
                omega
              rw [this, Bool.and_false]
            rw [HDS.out]
            exact digAll_false hsn))
          rcases (show (s[k].toNat : Int) < 48 ∨ 57 < (s[k].toNat : Int) by omega) with hv | hv
          · have hd1 : decide ((s[k].toNat : Int) < 48) = true := decide_eq_true hv
            go_wp2
            go_ret2
            exact ⟨ret_val (by rw [parseRes_no HN.out]; rfl), Below.refl _ _⟩
          · have hd1 : decide ((s[k].toNat : Int) < 48) = false := decide_eq_false (by omega)
            go_wp2
            go_ret2
            exact ⟨ret_val (by rw [parseRes_no HN.out]; rfl), Below.refl _ _⟩
      · obtain rfl : k = 0 := by omega
        go_wp2
        go_round
        case rel => exact ⟨0 + 1, by omega, by go_num, by simp, rfl⟩
        case measure => simp [intOf]; omega
    · have HT := Lib.hid (show ((bys s).tail.take (k - 1)) = (bys s).tail from List.take_of_length_le (by rw [List.length_tail, bys_length]; omega))
      have HA2 := Lib.hid (show digAll (digitsOf (bys s)) = true by have := HA.out; rw [HT.out] at this; rw [HDS.out]; exact this)
      have hmx := decSum_lt (bys s).tail (by have := HA2.out; rw [HDS.out] at this; exact this)
      have hmy : (10 : Int) ^ (bys s).tail.length ≤ 100000000000 := pow10_le _ (by rw [List.length_tail, bys_length]; omega)
      rw [HT.out] at hmn
      rw [HT.out]
      have HP := Lib.hid (show parseOf (bys s) = -decSum (bys s).tail by unfold parseOf; rw [HDS.out, if_pos HH.out])
      have hN1 : decSum (bys s).tail < 100000000000 := by omega
      clear hmx hmy
      generalize decSum (bys s).tail = N at *
      by_cases hr1 : -N < -2147483648
      · have HY := Lib.hid (no_range (l := bys s) (by rw [HP.out]; omega))
        have hd1 : decide (-N < -2147483648) = true := decide_eq_true hr1
        go_wp2
        go_ret2
        exact ⟨ret_val (by rw [parseRes_no HY.out]; rfl), Below.refl _ _⟩
      · have hd1 : decide (-N < -2147483648) = false := decide_eq_false hr1
        by_cases hr2 : 2147483647 < -N
        · have HY := Lib.hid (no_range (l := bys s) (by rw [HP.out]; omega))
          have hd2 : decide ((2147483647 : Int) < -N) = true := decide_eq_true hr2
          omega
        · have hd2 : decide ((2147483647 : Int) < -N) = false := decide_eq_false hr2
          have hb := textNums_byte (-N)
          have HSS := Lib.hid (str_same (textNums (-N)) s hb)
          clear hb
          by_cases ht : textNums (-N) = bys s
          · have he : ((strOfNums (textNums (-N))).toList == s.toList) = true := by rw [HSS.out]; exact decide_eq_true ht
            have HY := Lib.hid (yes_text HA2.out (by rw [HP.out]; omega) (by rw [HP.out]; omega) (by rw [HP.out]; exact ht))
            have HTT := Lib.hid ht
            clear ht
            go_wp2_with fail
            refine (reftext_any _ _ (by omega) (by omega)).mono ?_
            rintro e w1 ⟨rfl, hb1⟩
            go_wp2
            go_ret2
            exact ⟨ret_val (by rw [parseRes_yes HY.out, HP.out]; rfl), hb1⟩
          · have he : ((strOfNums (textNums (-N))).toList == s.toList) = false := by rw [HSS.out]; exact decide_eq_false ht
            have HY := Lib.hid (no_text (l := bys s) (by rw [HP.out]; exact ht))
            have HTT := Lib.hid ht
            clear ht
            go_wp2_with fail
            refine (reftext_any _ _ (by omega) (by omega)).mono ?_
            rintro e w1 ⟨rfl, hb1⟩
            go_wp2
            go_ret2
            exact ⟨ret_val (by rw [parseRes_no HY.out]; rfl), hb1⟩

theorem refparse_any (s : ByteArray) (w : World) (hm : s.size ≤ maxLen) :
    Calls Tryd.prog 110 #[.string s] w fun e w' => e = .returned (parseRes (bys s)) ∧ Below w.heap.size w w' := by
  rcases (show s.size < 1 ∨ 11 < s.size ∨ (1 ≤ s.size ∧ s.size ≤ 11) by omega) with h | h | ⟨h1, h2⟩
  · exact refparse_short s w hm h
  · exact refparse_long s w hm h
  · by_cases h : (bys s).head? = some 45
    · exact refparse_minus s w h1 h2 h
    · exact refparse_plain s w h1 h2 h

end Go.Proofs.YtnmpamfgkidmiaaDoor
