/- Contracts of package word's Parse and the answers' Parse. -/
import Derived.Test.YtbkagnhficmdhaaDoorWordE
import Derived.Test.YtbkagnhficmdhaaDoorWordF
import Derived.Test.YtbkagnhficmdhaaDoorParsePlain
import Derived.Lib.IndexBytes
namespace Go.Proofs.YtbkagnhficmdhaaDoor
open Go.ChangeShapes Go.WideShapes Go.ChangeAt Go.RowKit
set_option linter.unusedVariables false

theorem head_eq (s : ByteArray) : ((s.extract 0 1).toList == [45]) = decide ((bys s).head? = some 45) := by
  rw [Lib.extract_toList]
  unfold bys
  cases s.data.toList with
  | nil => rfl
  | cons c l =>
    simp only [List.drop_zero, Nat.sub_zero, List.take_succ_cons, List.take_zero, List.map_cons, List.head?_cons]
    rw [Bool.eq_iff_iff]
    simp only [beq_iff_eq, decide_eq_true_eq, List.cons.injEq, and_true, Option.some.injEq]
    constructor
    · rintro rfl; rfl
    · intro h
      have h2 : c.toNat = 45 := by omega
      exact UInt8.toNat_inj.1 (by rw [h2]; rfl)

theorem bys_tail (s : ByteArray) : bys (s.extract 1 s.size) = (bys s).tail := by
  unfold bys
  rw [Lib.extract_to_end]
  simp

theorem str_same (a : List Int) (s : ByteArray) (ha : ∀ c ∈ a, 0 ≤ c ∧ c ≤ 255) : ((strOfNums a).toList == s.toList) = decide (a = bys s) := by
  rw [Lib.toList_data, Lib.toList_data, strOfNums_data, Bool.eq_iff_iff]
  simp only [beq_iff_eq, decide_eq_true_eq]
  unfold bys
  constructor
  · intro h
    rw [← h, List.map_map]
    have e : ∀ c ∈ a, ((fun b : UInt8 => (b.toNat : Int)) ∘ fun n : Int => UInt8.ofNat n.toNat) c = id c := by
      intro c hc
      have := ha c hc
      simp only [Function.comp, UInt8.toNat_ofNat', id]
      omega
    rw [List.map_congr_left e, List.map_id]
  · intro h
    rw [h, List.map_map]
    have e : ∀ c ∈ s.data.toList, ((fun n : Int => UInt8.ofNat n.toNat) ∘ fun b : UInt8 => (b.toNat : Int)) c = id c := by
      intro c hc
      simp
    rw [List.map_congr_left e, List.map_id]

set_option maxHeartbeats 800000 in
set_option maxRecDepth 100000 in
theorem cut_empty (s : ByteArray) (w : World) (h1 : s.size ≤ 0) :
    Calls Tryd.prog 56 #[.string s, .string ⟨#[45]⟩] w fun e w' => e = .returned (.tuple #[.string s, .bool false]) ∧ w = w' := by
  go_enter Tryd.func56, Tryd.ntmps56
  go_wp2
  go_ret2
  exact ⟨rfl, rfl⟩

set_option maxHeartbeats 800000 in
set_option maxRecDepth 100000 in
theorem cut_no (s : ByteArray) (w : World) (hm : s.size ≤ maxLen) (hh : ((s.extract 0 1).toList == [45]) = false) (h1 : 1 ≤ s.size) :
    Calls Tryd.prog 56 #[.string s, .string ⟨#[45]⟩] w fun e w' => e = .returned (.tuple #[.string s, .bool false]) ∧ w = w' := by
  unfold maxLen at hm
  go_enter Tryd.func56, Tryd.ntmps56
  go_wp2
  go_ret2
  exact ⟨rfl, rfl⟩

set_option maxHeartbeats 800000 in
set_option maxRecDepth 100000 in
theorem cut_yes (s t : ByteArray) (w : World) (ht : t = s.extract 1 s.size) (hm : s.size ≤ maxLen) (hh : ((s.extract 0 1).toList == [45]) = true) (h1 : 1 ≤ s.size) :
    Calls Tryd.prog 56 #[.string s, .string ⟨#[45]⟩] w fun e w' => e = .returned (.tuple #[.string t, .bool true]) ∧ w = w' := by
  subst ht
  unfold maxLen at hm
  go_enter Tryd.func56, Tryd.ntmps56
  go_wp2
  go_ret2
  exact ⟨rfl, rfl⟩

theorem size_extract (s : ByteArray) : (s.extract 1 s.size).size = s.size - 1 := by
  have := congrArg List.length (bys_tail s)
  rw [bys_length, List.length_tail, bys_length] at this
  exact this

set_option maxHeartbeats 2000000 in
set_option maxRecDepth 100000 in
theorem parse_plain (s : ByteArray) (w : World) (hm : s.size ≤ maxLen) (hne : ¬ (bys s).head? = some 45) (h1 : 1 ≤ s.size) :
    Calls Tryd.prog 43 #[.string s] w fun e w' => e = .returned (parseRes (bys s)) ∧ Below w.heap.size w w' := by
  have hh := head_eq s
  rw [decide_eq_false hne] at hh
  have HH := Lib.hid hne
  have HDS := Lib.hid (show digitsOf (bys s) = bys s by unfold digitsOf; rw [if_neg hne])
  clear hne
  have hm' := hm
  unfold maxLen at hm'
  go_enter Tryd.func43, Tryd.ntmps43
  go_wp2_with (go_at_call 56; refine (cut_no s w hm hh h1).mono ?_; rintro e w' ⟨rfl, rfl⟩)
  go_loop [6, 16] (fun v i => ∃ k : Nat, k ≤ s.size ∧ i = .int .i64 k ∧ v = .int .i64 (decSum ((bys s).take k)) ∧ decSum ((bys s).take k) ≤ 2147483648 ∧ Hid (digAll ((bys s).take k) = true)) (fun _ i => s.size - (intOf i).toNat)
  case atStart => exact ⟨0, Nat.zero_le _, rfl, rfl, by show (0 : Int) ≤ _; omega, rfl⟩
  case round =>
    obtain ⟨k, hk, rfl, rfl, hmx, HA⟩ := hrel
    have hmn := decSum_nonneg _ HA.out
    by_cases hlt : k < s.size
    · have HSN := Lib.hid (bys_snoc s k hlt)
      have hb0 := byte_le s[k]
      have hb1 : (0 : Int) ≤ (s[k].toNat : Int) := by omega
      by_cases hdg : 48 ≤ (s[k].toNat : Int) ∧ (s[k].toNat : Int) ≤ 57
      · obtain ⟨d0, d1⟩ := hdg
        have hv : hexval (s[k].toNat : Int) = (s[k].toNat : Int) - 48 := if_pos ⟨d0, d1⟩
        have HX := Lib.hid (show decSum ((bys s).take (k + 1)) = 10 * decSum ((bys s).take k) + ((s[k].toNat : Int) - 48) by rw [HSN.out, decSum_snoc])
        have HY := Lib.hid (show digAll ((bys s).take (k + 1)) = true by rw [HSN.out, digAll_snoc, HA.out, decide_eq_true d0, decide_eq_true d1]; rfl)
        have hd1 : decide ((s[k].toNat : Int) - 48 < 0) = false := decide_eq_false (by omega)
        by_cases hg : 2147483648 < 10 * decSum ((bys s).take k) + ((s[k].toNat : Int) - 48)
        · have HN := Lib.hid (show parseOk (bys s) = false from no_great (k := k + 1) (by rw [HDS.out, HX.out]; exact hg))
          go_wp2_with (go_at_call 57; refine (digitOf_any _ _ hb1 hb0).mono ?_; rintro e w' ⟨rfl, rfl⟩)
          go_ret2
          exact ⟨ret_val (by rw [parseRes_no HN.out]; rfl), Below.refl _ _⟩
        · go_wp2_with (go_at_call 57; refine (digitOf_any _ _ hb1 hb0).mono ?_; rintro e w' ⟨rfl, rfl⟩)
          go_round
          case rel => exact ⟨k + 1, by omega, by go_num, by rw [HX.out], by rw [HX.out]; omega, HY⟩
          case measure => simp [intOf]; omega
      · have HN := Lib.hid (show parseOk (bys s) = false from no_digits (digAll_false (k := k + 1) (by
          rw [HDS.out, HSN.out, digAll_snoc]
          have : (decide (48 ≤ (s[k].toNat : Int)) && decide ((s[k].toNat : Int) ≤ 57)) = false := by
            rw [Bool.and_eq_false_iff, decide_eq_false_iff_not, decide_eq_false_iff_not]
            omega
          rw [this, Bool.and_false])))
        have hv : hexval (s[k].toNat : Int) < 0 ∨ 9 < hexval (s[k].toNat : Int) := by
          unfold hexval
          rw [if_neg hdg]
          split <;> omega
        clear hdg
        rcases hv with hv | hv
        · have hd1 : decide (hexval (s[k].toNat : Int) < 0) = true := decide_eq_true hv
          go_wp2_with (go_at_call 57; refine (digitOf_any _ _ hb1 hb0).mono ?_; rintro e w' ⟨rfl, rfl⟩)
          go_ret2
          exact ⟨ret_val (by rw [parseRes_no HN.out]; rfl), Below.refl _ _⟩
        · have hd1 : decide (hexval (s[k].toNat : Int) < 0) = false := decide_eq_false (by omega)
          go_wp2_with (go_at_call 57; refine (digitOf_any _ _ hb1 hb0).mono ?_; rintro e w' ⟨rfl, rfl⟩)
          go_ret2
          exact ⟨ret_val (by rw [parseRes_no HN.out]; rfl), Below.refl _ _⟩
    · have HT := Lib.hid (show (bys s).take k = bys s from List.take_of_length_le (by rw [bys_length]; omega))
      have HA2 := Lib.hid (show digAll (digitsOf (bys s)) = true by have := HA.out; rw [HT.out] at this; rw [HDS.out]; exact this)
      rw [HT.out] at hmx hmn
      rw [HT.out]
      have HP := Lib.hid (show parseOf (bys s) = decSum (bys s) by unfold parseOf; rw [HDS.out, if_neg HH.out])
      generalize decSum (bys s) = N at *
      by_cases hr : 2147483647 < N
      · have HY := Lib.hid (no_range (l := bys s) (by rw [HP.out]; omega))
        go_wp2
        go_ret2
        exact ⟨ret_val (by rw [parseRes_no HY.out]; rfl), Below.refl _ _⟩
      · have hd : decide ((2147483647 : Int) < N) = false := decide_eq_false hr
        have hb := textNums_byte N
        have HSS := Lib.hid (str_same (textNums N) s hb)
        clear hb
        by_cases ht : textNums N = bys s
        · have he : ((strOfNums (textNums N)).toList == s.toList) = true := by rw [HSS.out]; exact decide_eq_true ht
          have HY := Lib.hid (yes_text HA2.out (by rw [HP.out]; omega) (by rw [HP.out]; omega) (by rw [HP.out]; exact ht))
          have HTT := Lib.hid ht
          clear ht
          go_wp2_with fail
          refine (text_any _ _ (by omega) (by omega)).mono ?_
          rintro e w1 ⟨rfl, hb1⟩
          go_wp2
          go_ret2
          exact ⟨ret_val (by rw [parseRes_yes HY.out, HP.out]; rfl), hb1⟩
        · have he : ((strOfNums (textNums N)).toList == s.toList) = false := by rw [HSS.out]; exact decide_eq_false ht
          have HY := Lib.hid (no_text (l := bys s) (by rw [HP.out]; exact ht))
          have HTT := Lib.hid ht
          clear ht
          go_wp2_with fail
          refine (text_any _ _ (by omega) (by omega)).mono ?_
          rintro e w1 ⟨rfl, hb1⟩
          go_wp2
          go_ret2
          exact ⟨ret_val (by rw [parseRes_no HY.out]; rfl), hb1⟩

set_option maxHeartbeats 2000000 in
set_option maxRecDepth 100000 in
theorem parse_empty (s : ByteArray) (w : World) (hm : s.size ≤ maxLen) (hne : ¬ (bys s).head? = some 45) (h1 : s.size ≤ 0) :
    Calls Tryd.prog 43 #[.string s] w fun e w' => e = .returned (parseRes (bys s)) ∧ Below w.heap.size w w' := by
  have hh := head_eq s
  rw [decide_eq_false hne] at hh
  have HH := Lib.hid hne
  have HDS := Lib.hid (show digitsOf (bys s) = bys s by unfold digitsOf; rw [if_neg hne])
  clear hne
  have hm' := hm
  unfold maxLen at hm'
  go_enter Tryd.func43, Tryd.ntmps43
  go_wp2_with (go_at_call 56; refine (cut_empty s w h1).mono ?_; rintro e w' ⟨rfl, rfl⟩)
  go_loop [6, 16] (fun v i => ∃ k : Nat, k ≤ s.size ∧ i = .int .i64 k ∧ v = .int .i64 (decSum ((bys s).take k)) ∧ decSum ((bys s).take k) ≤ 2147483648 ∧ Hid (digAll ((bys s).take k) = true)) (fun _ i => s.size - (intOf i).toNat)
  case atStart => exact ⟨0, Nat.zero_le _, rfl, rfl, by show (0 : Int) ≤ _; omega, rfl⟩
  case round =>
    obtain ⟨k, hk, rfl, rfl, hmx, HA⟩ := hrel
    have hmn := decSum_nonneg _ HA.out
    by_cases hlt : k < s.size
    · omega
    · have HT := Lib.hid (show (bys s).take k = bys s from List.take_of_length_le (by rw [bys_length]; omega))
      have HA2 := Lib.hid (show digAll (digitsOf (bys s)) = true by have := HA.out; rw [HT.out] at this; rw [HDS.out]; exact this)
      rw [HT.out] at hmx hmn
      rw [HT.out]
      have HP := Lib.hid (show parseOf (bys s) = decSum (bys s) by unfold parseOf; rw [HDS.out, if_neg HH.out])
      generalize decSum (bys s) = N at *
      by_cases hr : 2147483647 < N
      · have HY := Lib.hid (no_range (l := bys s) (by rw [HP.out]; omega))
        go_wp2
        go_ret2
        exact ⟨ret_val (by rw [parseRes_no HY.out]; rfl), Below.refl _ _⟩
      · have hd : decide ((2147483647 : Int) < N) = false := decide_eq_false hr
        have hb := textNums_byte N
        have HSS := Lib.hid (str_same (textNums N) s hb)
        clear hb
        by_cases ht : textNums N = bys s
        · have he : ((strOfNums (textNums N)).toList == s.toList) = true := by rw [HSS.out]; exact decide_eq_true ht
          have HY := Lib.hid (yes_text HA2.out (by rw [HP.out]; omega) (by rw [HP.out]; omega) (by rw [HP.out]; exact ht))
          have HTT := Lib.hid ht
          clear ht
          go_wp2_with fail
          refine (text_any _ _ (by omega) (by omega)).mono ?_
          rintro e w1 ⟨rfl, hb1⟩
          go_wp2
          go_ret2
          exact ⟨ret_val (by rw [parseRes_yes HY.out, HP.out]; rfl), hb1⟩
        · have he : ((strOfNums (textNums N)).toList == s.toList) = false := by rw [HSS.out]; exact decide_eq_false ht
          have HY := Lib.hid (no_text (l := bys s) (by rw [HP.out]; exact ht))
          have HTT := Lib.hid ht
          clear ht
          go_wp2_with fail
          refine (text_any _ _ (by omega) (by omega)).mono ?_
          rintro e w1 ⟨rfl, hb1⟩
          go_wp2
          go_ret2
          exact ⟨ret_val (by rw [parseRes_no HY.out]; rfl), hb1⟩

set_option maxHeartbeats 2000000 in
set_option maxRecDepth 100000 in
theorem parse_minus (s : ByteArray) (w : World) (hm : s.size ≤ maxLen) (hne : (bys s).head? = some 45) :
    Calls Tryd.prog 43 #[.string s] w fun e w' => e = .returned (parseRes (bys s)) ∧ Below w.heap.size w w' := by
  have hh := head_eq s
  rw [decide_eq_true hne] at hh
  have HH := Lib.hid hne
  obtain ⟨t, hst⟩ : ∃ t, t = s.extract 1 s.size := ⟨_, rfl⟩
  have HDS := Lib.hid (show digitsOf (bys s) = bys t by unfold digitsOf; rw [if_pos hne, hst, bys_tail])
  have h1 : 1 ≤ s.size := by
    rcases Nat.eq_zero_or_pos s.size with h | h
    · have : bys s = [] := List.eq_nil_of_length_eq_zero (by rw [bys_length]; exact h)
      rw [this] at hne; cases hne
    · exact h
  have ht2 : t.size ≤ 9223372036854775806 := by rw [hst, size_extract]; unfold maxLen at hm; omega
  have HST := Lib.hid hst
  clear hne hst
  have hm' := hm
  unfold maxLen at hm'
  go_enter Tryd.func43, Tryd.ntmps43
  go_wp2_with (go_at_call 56; refine (cut_yes s t w HST.out hm hh h1).mono ?_; rintro e w' ⟨rfl, rfl⟩)
  go_loop [6, 16] (fun v i => ∃ k : Nat, k ≤ t.size ∧ i = .int .i64 k ∧ v = .int .i64 (decSum ((bys t).take k)) ∧ decSum ((bys t).take k) ≤ 2147483648 ∧ Hid (digAll ((bys t).take k) = true)) (fun _ i => t.size - (intOf i).toNat)
  case atStart => exact ⟨0, Nat.zero_le _, rfl, rfl, by show (0 : Int) ≤ _; omega, rfl⟩
  case round =>
    obtain ⟨k, hk, rfl, rfl, hmx, HA⟩ := hrel
    have hmn := decSum_nonneg _ HA.out
    by_cases hlt : k < t.size
    · have HSN := Lib.hid (bys_snoc t k hlt)
      have hb0 := byte_le t[k]
      have hb1 : (0 : Int) ≤ (t[k].toNat : Int) := by omega
      by_cases hdg : 48 ≤ (t[k].toNat : Int) ∧ (t[k].toNat : Int) ≤ 57
      · obtain ⟨d0, d1⟩ := hdg
        have hv : hexval (t[k].toNat : Int) = (t[k].toNat : Int) - 48 := if_pos ⟨d0, d1⟩
        have HX := Lib.hid (show decSum ((bys t).take (k + 1)) = 10 * decSum ((bys t).take k) + ((t[k].toNat : Int) - 48) by rw [HSN.out, decSum_snoc])
        have HY := Lib.hid (show digAll ((bys t).take (k + 1)) = true by rw [HSN.out, digAll_snoc, HA.out, decide_eq_true d0, decide_eq_true d1]; rfl)
        have hd1 : decide ((t[k].toNat : Int) - 48 < 0) = false := decide_eq_false (by omega)
        by_cases hg : 2147483648 < 10 * decSum ((bys t).take k) + ((t[k].toNat : Int) - 48)
        · have HN := Lib.hid (show parseOk (bys s) = false from no_great (k := k + 1) (by rw [HDS.out, HX.out]; exact hg))
          go_wp2_with (go_at_call 57; refine (digitOf_any _ _ hb1 hb0).mono ?_; rintro e w' ⟨rfl, rfl⟩)
          go_ret2
          exact ⟨ret_val (by rw [parseRes_no HN.out]; rfl), Below.refl _ _⟩
        · go_wp2_with (go_at_call 57; refine (digitOf_any _ _ hb1 hb0).mono ?_; rintro e w' ⟨rfl, rfl⟩)
          go_round
          case rel => exact ⟨k + 1, by omega, by go_num, by rw [HX.out], by rw [HX.out]; omega, HY⟩
          case measure => simp [intOf]; omega
      · have HN := Lib.hid (show parseOk (bys s) = false from no_digits (digAll_false (k := k + 1) (by
          rw [HDS.out, HSN.out, digAll_snoc]
          have : (decide (48 ≤ (t[k].toNat : Int)) && decide ((t[k].toNat : Int) ≤ 57)) = false := by
            rw [Bool.and_eq_false_iff, decide_eq_false_iff_not, decide_eq_false_iff_not]
            omega
          rw [this, Bool.and_false])))
        have hv : hexval (t[k].toNat : Int) < 0 ∨ 9 < hexval (t[k].toNat : Int) := by
          unfold hexval
          rw [if_neg hdg]
          split <;> omega
        clear hdg
        rcases hv with hv | hv
        · have hd1 : decide (hexval (t[k].toNat : Int) < 0) = true := decide_eq_true hv
          go_wp2_with (go_at_call 57; refine (digitOf_any _ _ hb1 hb0).mono ?_; rintro e w' ⟨rfl, rfl⟩)
          go_ret2
          exact ⟨ret_val (by rw [parseRes_no HN.out]; rfl), Below.refl _ _⟩
        · have hd1 : decide (hexval (t[k].toNat : Int) < 0) = false := decide_eq_false (by omega)
          go_wp2_with (go_at_call 57; refine (digitOf_any _ _ hb1 hb0).mono ?_; rintro e w' ⟨rfl, rfl⟩)
          go_ret2
          exact ⟨ret_val (by rw [parseRes_no HN.out]; rfl), Below.refl _ _⟩
    · have HT := Lib.hid (show (bys t).take k = bys t from List.take_of_length_le (by rw [bys_length]; omega))
      have HA2 := Lib.hid (show digAll (digitsOf (bys s)) = true by have := HA.out; rw [HT.out] at this; rw [HDS.out]; exact this)
      rw [HT.out] at hmx hmn
      rw [HT.out]
      have HP := Lib.hid (show parseOf (bys s) = -decSum (bys t) by unfold parseOf; rw [HDS.out, if_pos HH.out])
      generalize decSum (bys t) = N at *
      have hb := textNums_byte (-N)
      have HSS := Lib.hid (str_same (textNums (-N)) s hb)
      clear hb
      by_cases ht : textNums (-N) = bys s
      · have he : ((strOfNums (textNums (-N))).toList == s.toList) = true := by rw [HSS.out]; exact decide_eq_true ht
        have HY := Lib.hid (yes_text HA2.out (by rw [HP.out]; omega) (by rw [HP.out]; omega) (by rw [HP.out]; exact ht))
        have HTT := Lib.hid ht
        clear ht
        go_wp2_with fail
        refine (text_any _ _ (by omega) (by omega)).mono ?_
        rintro e w1 ⟨rfl, hb1⟩
        go_wp2
        go_ret2
        exact ⟨ret_val (by rw [parseRes_yes HY.out, HP.out]; rfl), hb1⟩
      · have he : ((strOfNums (textNums (-N))).toList == s.toList) = false := by rw [HSS.out]; exact decide_eq_false ht
        have HY := Lib.hid (no_text (l := bys s) (by rw [HP.out]; exact ht))
        have HTT := Lib.hid ht
        clear ht
        go_wp2_with fail
        refine (text_any _ _ (by omega) (by omega)).mono ?_
        rintro e w1 ⟨rfl, hb1⟩
        go_wp2
        go_ret2
        exact ⟨ret_val (by rw [parseRes_no HY.out]; rfl), hb1⟩

theorem parse_any (s : ByteArray) (w : World) (hm : s.size ≤ maxLen) :
    Calls Tryd.prog 43 #[.string s] w fun e w' => e = .returned (parseRes (bys s)) ∧ Below w.heap.size w w' := by
  by_cases h : (bys s).head? = some 45
  · exact parse_minus s w hm h
  · rcases (show s.size ≤ 0 ∨ 1 ≤ s.size by omega) with h2 | h2
    · exact parse_empty s w hm h h2
    · exact parse_plain s w hm h h2

end Go.Proofs.YtbkagnhficmdhaaDoor
