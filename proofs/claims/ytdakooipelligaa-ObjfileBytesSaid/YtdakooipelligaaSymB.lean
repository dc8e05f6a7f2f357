/- Symfile: which texts may be names: both sides. -/
import Derived.Test.YtdakooipelligaaSymA
import Derived.Lib.Strings
namespace Go.Proofs.Ytdakooipelligaa
open Go.ChangeShapes Go.WideShapes Go.ChangeAt Go.RowKit
set_option linter.unusedVariables false
set_option linter.unusedSimpArgs false

theorem strI_get {s : ByteArray} {k : Nat} (h : k < s.size) : (strI s).getD k 0 = (s[k].toNat : Int) := by
  unfold strI
  rw [List.getD_eq_getElem?_getD, List.getElem?_map, Array.getElem?_toList, Array.getElem?_eq_getElem h]
  rfl

set_option maxHeartbeats 2000000 in
set_option maxRecDepth 100000 in
theorem sletter_any (c : Int) (w : World) : Calls Try.prog 49 #[.int .u8 c] w fun e w' => e = .returned (.bool (decide (letB c))) ∧ w = w' := by
  have L := Lib.hid (fun b (h : (b = true ↔ ((65 ≤ c ∧ c ≤ 90) ∨ (97 ≤ c ∧ c ≤ 122)))) => show b = decide (letB c) from Bool.eq_iff_iff.2 (h.trans (decide_eq_true_iff (p := letB c)).symm))
  generalize decide (letB c) = r at *
  go_enter Try.func49, Try.ntmps49
  go_wp2_with fail
  all_goals go_ret
  all_goals refine ⟨?_, rfl⟩
  all_goals exact congrArg (fun b => Ending.returned (.bool b)) (L.out _ (by
    simp only [Bool.or_eq_true, Bool.and_eq_true, decide_eq_true_eq, beq_iff_eq, Bool.false_eq_true, true_iff, false_iff]
    omega))

set_option maxHeartbeats 2000000 in
set_option maxRecDepth 100000 in
theorem sdigit_any (c : Int) (w : World) : Calls Try.prog 50 #[.int .u8 c] w fun e w' => e = .returned (.bool (decide (48 ≤ c ∧ c ≤ 57))) ∧ w = w' := by
  have L := Lib.hid (fun b (h : (b = true ↔ (48 ≤ c ∧ c ≤ 57))) => show b = decide (48 ≤ c ∧ c ≤ 57) from Bool.eq_iff_iff.2 (by simp only [decide_eq_true_eq]; exact h))
  generalize decide (48 ≤ c ∧ c ≤ 57) = r at *
  go_enter Try.func50, Try.ntmps50
  go_wp2_with fail
  all_goals go_ret
  all_goals refine ⟨?_, rfl⟩
  all_goals exact congrArg (fun b => Ending.returned (.bool b)) (L.out _ (by
    simp only [Bool.or_eq_true, Bool.and_eq_true, decide_eq_true_eq, beq_iff_eq, Bool.false_eq_true, true_iff, false_iff]
    omega))

theorem nameOk_no {s : ByteArray} {k : Nat} (hk : k < s.size) (h : ¬ nmAt k (s[k].toNat : Int)) : decide (nameOk s) = false :=
  decide_eq_false (fun hn => h (by have := hn.1 k hk; rwa [strI_get hk] at this))

theorem nameOk_yes {s : ByteArray} (h1 : 1 ≤ s.size) (h2 : s.size ≤ 32) (h : ∀ k (hk : k < s.size), nmAt k (s[k].toNat : Int)) : decide (nameOk s) = true :=
  decide_eq_true ⟨fun k hk => by rw [strI_get hk]; exact h k hk, h1, h2⟩

set_option maxHeartbeats 4000000 in
set_option maxRecDepth 100000 in
theorem name_any (s : ByteArray) (w : World) (hm : s.size ≤ 140737488355328) : Calls Try.prog 15 #[.string s] w fun e w' => e = .returned (.bool (decide (nameOk s))) ∧ w = w' := by
  by_cases h1 : 1 ≤ s.size
  case neg =>
    have h0 : s = ⟨#[]⟩ := by
      cases s with
      | mk d => congr; exact Array.eq_empty_of_size_eq_zero (by simp [ByteArray.size] at h1; simp [h1])
    subst h0
    have hn : decide (nameOk ⟨#[]⟩) = false := decide_eq_false (fun h => absurd h.2.1 (by decide))
    rw [hn]
    go_enter Try.func15, Try.ntmps15
    go_wp2_with fail
    go_ret
    exact ⟨rfl, rfl⟩
  have hne : s.toList.isEmpty = false := by
    rw [Lib.toList_data]
    cases hl : s.data.toList with
    | nil =>
      have : s.size = 0 := by
        have h := congrArg List.length hl
        rw [Array.length_toList] at h
        exact h
      omega
    | cons a l => rfl
  by_cases h2 : s.size ≤ 32
  case neg =>
    have hn : decide (nameOk s) = false := decide_eq_false (fun h => h2 h.2.2)
    rw [hn]
    have d2 : decide ((32 : Int) < s.size) = true := decide_eq_true (by omega)
    clear hn h1
    go_enter Try.func15, Try.ntmps15
    go_wp2_with fail
    go_ret
    exact ⟨rfl, rfl⟩
  have d2 : decide ((32 : Int) < s.size) = false := decide_eq_false (by omega)
  have IL := Lib.hid (fun c w => sletter_any c w)
  have ID := Lib.hid (fun c w => sdigit_any c w)
  have NY := Lib.hid (@nameOk_yes s h1 h2)
  have NN := Lib.hid (fun k hk h => @nameOk_no s k hk h)
  have hI0 : (0 : Int) < s.size := by omega
  generalize hnm : decide (nameOk s) = r at *
  clear hnm
  by_cases h3 : letB (s[0].toNat : Int)
  case neg =>
    have R := Lib.hid (NN.out 0 (by omega) (fun h => h.elim h3 (fun h => h.1 rfl)))
    have D3 := decide_eq_false h3
    have DG := Lib.hid (IL.out (s[0].toNat : Int))
    rw [D3] at DG
    clear h3 D3
    go_enter Try.func15, Try.ntmps15
    go_wp2_with fail
    refine (DG.out _).mono ?_
    rintro e w1 ⟨rfl, rfl⟩
    go_wp2_with fail
    go_ret
    rw [R.out]
    exact ⟨rfl, rfl⟩
  have H3 := Lib.hid h3
  have D3 := decide_eq_true h3
  have DG := Lib.hid (IL.out (s[0].toNat : Int))
  rw [D3] at DG
  clear h3 D3
  go_enter Try.func15, Try.ntmps15
  go_wp2_with fail
  refine (DG.out _).mono ?_
  rintro e w1 ⟨rfl, rfl⟩
  go_wp2_with fail
  go_loop [19] (fun i => ∃ k : Nat, k ≤ s.size ∧ i = .int .i64 k ∧ ∀ j (hj : j < s.size), j < k → nmAt j (s[j].toNat : Int)) (fun i => s.size - (intOf i).toNat)
  case atStart => exact ⟨0, Nat.zero_le _, rfl, fun j _ h => absurd h (Nat.not_lt_zero _)⟩
  case round =>
    obtain ⟨k, hk, rfl, hA⟩ := hrel
    have HA := Lib.hid hA
    clear hA
    by_cases hlt : k < s.size
    · have hI : (k : Int) < s.size := by omega
      have SA := Lib.hid (fun (h : nmAt k (s[k].toNat : Int)) j (hj : j < s.size) (hjk : j < k + 1) => (Nat.lt_or_ge j k).elim (HA.out j hj) (fun h' => by obtain rfl : j = k := (by omega); exact h))
      have IL' := Lib.hid (IL.out (s[k].toNat : Int))
      have ID' := Lib.hid (ID.out (s[k].toNat : Int))
      by_cases hL : letB (s[k].toNat : Int)
      · have S2 := Lib.hid (SA.out (.inl hL))
        rw [decide_eq_true hL] at IL'
        clear SA hL
        go_wp2_with fail
        refine (IL'.out _).mono ?_
        rintro e w2 ⟨rfl, rfl⟩
        go_wp2_with fail
        go_round
        case rel => exact ⟨k + 1, by omega, by go_num, S2.out⟩
        case measure => simp [intOf]; omega
      · have HL := Lib.hid hL
        have K0 := Lib.hid (show k ≠ 0 from fun e => by subst e; exact hL H3.out)
        rw [decide_eq_false hL] at IL'
        by_cases hD : 48 ≤ (s[k].toNat : Int) ∧ (s[k].toNat : Int) ≤ 57
        · have S2 := Lib.hid (SA.out (.inr ⟨K0.out, hD⟩))
          rw [decide_eq_true hD] at ID'
          clear SA hL hD
          go_wp2_with fail
          refine (IL'.out _).mono ?_
          rintro e w2 ⟨rfl, rfl⟩
          go_wp2_with fail
          refine (ID'.out _).mono ?_
          rintro e w2 ⟨rfl, rfl⟩
          go_wp2_with fail
          go_round
          case rel => exact ⟨k + 1, by omega, by go_num, S2.out⟩
          case measure => simp [intOf]; omega
        · have R := Lib.hid (NN.out k hlt (fun h => h.elim hL (fun h => hD h.2)))
          rw [decide_eq_false hD] at ID'
          clear SA hL hD
          go_wp2_with fail
          refine (IL'.out _).mono ?_
          rintro e w2 ⟨rfl, rfl⟩
          go_wp2_with fail
          refine (ID'.out _).mono ?_
          rintro e w2 ⟨rfl, rfl⟩
          go_wp2_with fail
          go_ret
          rw [R.out]
          exact ⟨rfl, rfl⟩
    · have hI : ¬ (k : Int) < s.size := by omega
      have R := Lib.hid (NY.out (fun j hj => HA.out j hj (by omega)))
      go_wp2_with fail
      go_ret
      rw [R.out]
      exact ⟨rfl, rfl⟩

set_option maxHeartbeats 4000000 in
set_option maxRecDepth 100000 in
theorem refname_any (s : ByteArray) (w : World) (hm : s.size ≤ 140737488355328) : Calls Try.prog 21 #[.string s] w fun e w' => e = .returned (.bool (decide (nameOk s))) ∧ w = w' := by
  have NY := Lib.hid (@nameOk_yes s)
  have N0 := Lib.hid (show ¬ (1 ≤ s.size ∧ s.size ≤ 32) → decide (nameOk s) = false from fun h => decide_eq_false (fun h' => h h'.2))
  have NN := Lib.hid (fun k hk h => @nameOk_no s k hk h)
  generalize hnm : decide (nameOk s) = r at *
  clear hnm
  go_enter Try.func21, Try.ntmps21
  go_wp2_with fail
  go_loop [3] (fun i => ∃ k : Nat, k ≤ s.size ∧ i = .int .i64 k ∧ ∀ j (hj : j < s.size), j < k → nmAt j (s[j].toNat : Int)) (fun i => s.size - (intOf i).toNat)
  case atStart => exact ⟨0, Nat.zero_le _, rfl, fun j _ h => absurd h (Nat.not_lt_zero _)⟩
  case round =>
    obtain ⟨k, hk, rfl, hA⟩ := hrel
    have HA := Lib.hid hA
    clear hA
    by_cases hlt : k < s.size
    · have hI : (k : Int) < s.size := by omega
      have SA := Lib.hid (fun (h : nmAt k (s[k].toNat : Int)) j (hj : j < s.size) (hjk : j < k + 1) => (Nat.lt_or_ge j k).elim (HA.out j hj) (fun h' => by obtain rfl : j = k := (by omega); exact h))
      have NN' := Lib.hid (NN.out k hlt)
      rcases (show (65 ≤ (s[k].toNat : Int) ∧ (s[k].toNat : Int) ≤ 90) ∨ (97 ≤ (s[k].toNat : Int) ∧ (s[k].toNat : Int) ≤ 122) ∨ (k = 0 ∧ (s[k].toNat : Int) < 65) ∨ (k ≠ 0 ∧ (s[k].toNat : Int) < 48) ∨ (k ≠ 0 ∧ 48 ≤ (s[k].toNat : Int) ∧ (s[k].toNat : Int) ≤ 57) ∨ (k ≠ 0 ∧ 57 < (s[k].toNat : Int) ∧ (s[k].toNat : Int) < 65) ∨ (k = 0 ∧ 90 < (s[k].toNat : Int) ∧ (s[k].toNat : Int) < 97) ∨ (k ≠ 0 ∧ 90 < (s[k].toNat : Int) ∧ (s[k].toNat : Int) < 97) ∨ (k = 0 ∧ 122 < (s[k].toNat : Int)) ∨ (k ≠ 0 ∧ 122 < (s[k].toNat : Int)) by omega) with hc | hc | hc | hc | hc | hc | hc | hc | hc | hc
      · have d1 : decide ((65 : Int) ≤ (s[k].toNat : Int)) = true := decide_eq_true (by omega)
        have d2 : decide ((s[k].toNat : Int) ≤ 90) = true := decide_eq_true (by omega)
        have S2 := Lib.hid (SA.out (by unfold nmAt letB; omega))
        clear hc SA NN'
        go_wp2_with fail
        go_round
        case rel => exact ⟨k + 1, by omega, by go_num, S2.out⟩
        case measure => simp [intOf]; omega
      · have d1 : decide ((65 : Int) ≤ (s[k].toNat : Int)) = true := decide_eq_true (by omega)
        have d2 : decide ((s[k].toNat : Int) ≤ 90) = false := decide_eq_false (by omega)
        have d3 : decide ((97 : Int) ≤ (s[k].toNat : Int)) = true := decide_eq_true (by omega)
        have d4 : decide ((s[k].toNat : Int) ≤ 122) = true := decide_eq_true (by omega)
        have S2 := Lib.hid (SA.out (by unfold nmAt letB; omega))
        clear hc SA NN'
        go_wp2_with fail
        go_round
        case rel => exact ⟨k + 1, by omega, by go_num, S2.out⟩
        case measure => simp [intOf]; omega
      · have d1 : decide ((65 : Int) ≤ (s[k].toNat : Int)) = false := decide_eq_false (by omega)
        have d3 : decide ((97 : Int) ≤ (s[k].toNat : Int)) = false := decide_eq_false (by omega)
        have dk : ((k : Int) == 0) = true := by simp; omega
        have R := Lib.hid (NN'.out (by unfold nmAt letB; omega))
        clear hc SA NN'
        go_wp2_with fail
        go_ret
        rw [R.out]
        exact ⟨rfl, rfl⟩
      · have d1 : decide ((65 : Int) ≤ (s[k].toNat : Int)) = false := decide_eq_false (by omega)
        have d3 : decide ((97 : Int) ≤ (s[k].toNat : Int)) = false := decide_eq_false (by omega)
        have dk : ((k : Int) == 0) = false := by simp; omega
        have d5 : decide ((s[k].toNat : Int) < 48) = true := decide_eq_true (by omega)
        have R := Lib.hid (NN'.out (by unfold nmAt letB; omega))
        clear hc SA NN'
        go_wp2_with fail
        go_ret
        rw [R.out]
        exact ⟨rfl, rfl⟩
      · have d1 : decide ((65 : Int) ≤ (s[k].toNat : Int)) = false := decide_eq_false (by omega)
        have d3 : decide ((97 : Int) ≤ (s[k].toNat : Int)) = false := decide_eq_false (by omega)
        have dk : ((k : Int) == 0) = false := by simp; omega
        have d5 : decide ((s[k].toNat : Int) < 48) = false := decide_eq_false (by omega)
        have d6 : decide ((57 : Int) < (s[k].toNat : Int)) = false := decide_eq_false (by omega)
        have S2 := Lib.hid (SA.out (by unfold nmAt letB; omega))
        clear hc SA NN'
        go_wp2_with fail
        go_round
        case rel => exact ⟨k + 1, by omega, by go_num, S2.out⟩
        case measure => simp [intOf]; omega
      · have d1 : decide ((65 : Int) ≤ (s[k].toNat : Int)) = false := decide_eq_false (by omega)
        have d3 : decide ((97 : Int) ≤ (s[k].toNat : Int)) = false := decide_eq_false (by omega)
        have dk : ((k : Int) == 0) = false := by simp; omega
        have d5 : decide ((s[k].toNat : Int) < 48) = false := decide_eq_false (by omega)
        have d6 : decide ((57 : Int) < (s[k].toNat : Int)) = true := decide_eq_true (by omega)
        have R := Lib.hid (NN'.out (by unfold nmAt letB; omega))
        clear hc SA NN'
        go_wp2_with fail
        go_ret
        rw [R.out]
        exact ⟨rfl, rfl⟩
      · have d1 : decide ((65 : Int) ≤ (s[k].toNat : Int)) = true := decide_eq_true (by omega)
        have d2 : decide ((s[k].toNat : Int) ≤ 90) = false := decide_eq_false (by omega)
        have d3 : decide ((97 : Int) ≤ (s[k].toNat : Int)) = false := decide_eq_false (by omega)
        have dk : ((k : Int) == 0) = true := by simp; omega
        have R := Lib.hid (NN'.out (by unfold nmAt letB; omega))
        clear hc SA NN'
        go_wp2_with fail
        go_ret
        rw [R.out]
        exact ⟨rfl, rfl⟩
      · have d1 : decide ((65 : Int) ≤ (s[k].toNat : Int)) = true := decide_eq_true (by omega)
        have d2 : decide ((s[k].toNat : Int) ≤ 90) = false := decide_eq_false (by omega)
        have d3 : decide ((97 : Int) ≤ (s[k].toNat : Int)) = false := decide_eq_false (by omega)
        have dk : ((k : Int) == 0) = false := by simp; omega
        have d5 : decide ((s[k].toNat : Int) < 48) = false := decide_eq_false (by omega)
        have d6 : decide ((57 : Int) < (s[k].toNat : Int)) = true := decide_eq_true (by omega)
        have R := Lib.hid (NN'.out (by unfold nmAt letB; omega))
        clear hc SA NN'
        go_wp2_with fail
        go_ret
        rw [R.out]
        exact ⟨rfl, rfl⟩
      · have d1 : decide ((65 : Int) ≤ (s[k].toNat : Int)) = true := decide_eq_true (by omega)
        have d2 : decide ((s[k].toNat : Int) ≤ 90) = false := decide_eq_false (by omega)
        have d3 : decide ((97 : Int) ≤ (s[k].toNat : Int)) = true := decide_eq_true (by omega)
        have d4 : decide ((s[k].toNat : Int) ≤ 122) = false := decide_eq_false (by omega)
        have dk : ((k : Int) == 0) = true := by simp; omega
        have R := Lib.hid (NN'.out (by unfold nmAt letB; omega))
        clear hc SA NN'
        go_wp2_with fail
        go_ret
        rw [R.out]
        exact ⟨rfl, rfl⟩
      · have d1 : decide ((65 : Int) ≤ (s[k].toNat : Int)) = true := decide_eq_true (by omega)
        have d2 : decide ((s[k].toNat : Int) ≤ 90) = false := decide_eq_false (by omega)
        have d3 : decide ((97 : Int) ≤ (s[k].toNat : Int)) = true := decide_eq_true (by omega)
        have d4 : decide ((s[k].toNat : Int) ≤ 122) = false := decide_eq_false (by omega)
        have dk : ((k : Int) == 0) = false := by simp; omega
        have d5 : decide ((s[k].toNat : Int) < 48) = false := decide_eq_false (by omega)
        have d6 : decide ((57 : Int) < (s[k].toNat : Int)) = true := decide_eq_true (by omega)
        have R := Lib.hid (NN'.out (by unfold nmAt letB; omega))
        clear hc SA NN'
        go_wp2_with fail
        go_ret
        rw [R.out]
        exact ⟨rfl, rfl⟩
    · have hI : ¬ (k : Int) < s.size := by omega
      have NY' := Lib.hid (fun a b => NY.out a b (fun j hj => HA.out j hj (by omega)))
      by_cases h1 : 1 ≤ s.size
      · have hI1 : (1 : Int) ≤ s.size := by omega
        by_cases h2 : s.size ≤ 32
        · have d2 : decide ((s.size : Int) ≤ 32) = true := decide_eq_true (by omega)
          have R := Lib.hid (NY'.out h1 h2)
          go_wp2_with fail
          go_ret
          rw [R.out]
          exact ⟨rfl, rfl⟩
        · have d2 : decide ((s.size : Int) ≤ 32) = false := decide_eq_false (by omega)
          have R := Lib.hid (N0.out (fun h => h2 h.2))
          go_wp2_with fail
          go_ret
          rw [R.out]
          exact ⟨rfl, rfl⟩
      · have hI1 : ¬ (1 : Int) ≤ s.size := by omega
        have R := Lib.hid (N0.out (fun h => h1 h.1))
        go_wp2_with fail
        go_ret
        rw [R.out]
        exact ⟨rfl, rfl⟩
end Go.Proofs.Ytdakooipelligaa
