/- Scan: the answers' blanks, bad. -/
import Derived.Test.YtbkagnhficmdhaaDoorScnB
namespace Go.Proofs.YtbkagnhficmdhaaDoor
open Go.ChangeShapes Go.WideShapes Go.ChangeAt Go.RowKit
set_option linter.unusedVariables false
set_option linter.unusedSimpArgs false

set_option maxHeartbeats 8000000 in
set_option maxRecDepth 100000 in
theorem refblanks_any (s : ByteArray) (k : Nat) (w : World) (hs : s.size ≤ 1000000) (hk : k ≤ s.size) : Calls Tryd.prog 29 #[.string s, .int .i64 k] w fun e w' => e = .returned (.tuple #[.int .i64 (blanksP s k).1, .bool (blanksP s k).2]) ∧ w = w' := by
  have R0 := Lib.hid (show blF s.size s k 0 = blanksP s k from rfl)
  generalize blanksP s k = r at *
  go_enter Tryd.func29, Tryd.ntmps29
  go_wp2_with fail
  go_loop [1, 6] (fun i j => ∃ (t d f : Nat), t ≤ s.size ∧ d ≤ t ∧ s.size - t ≤ f ∧ i = .int .i64 t ∧ j = .int .i64 d ∧ blF f s t d = r) (fun i _ => s.size - (intOf i).toNat)
  case atStart => exact ⟨k, 0, s.size, hk, Nat.zero_le _, by omega, rfl, rfl, R0.out⟩
  case round =>
    obtain ⟨t, d, f, ht, hd, hf, rfl, rfl, hR⟩ := hrel
    have HR := Lib.hid hR
    clear hR
    by_cases hlt : t < s.size
    · obtain ⟨f, rfl⟩ : ∃ g, f = g + 1 := ⟨f - 1, by omega⟩
      have hI : (t : Int) < s.size := by omega
      have BN := Lib.hid (byN_get hlt)
      have HT := Lib.hid (fun a b W => reftwo_any s t a b W hs (by omega))
      cases h1 : twoP s t 40 42
      · by_cases hd0 : 0 < d
        · have d0 : decide ((0 : Int) < d) = true := decide_eq_true (by omega)
          cases h2 : twoP s t 42 41
          · have H2 := Lib.hid ((blF_skip hlt h1 (by rw [h2]; simp) (.inl hd0)).symm.trans HR.out)
            clear HR
            go_wp2_with fail
            refine (HT.out 40 42 _).mono ?_
            rintro e w1 ⟨rfl, rfl⟩
            go_wp2_with fail
            refine (HT.out 42 41 _).mono ?_
            rintro e w1 ⟨rfl, rfl⟩
            go_wp2_with fail
            go_round
            case rel => exact ⟨t + 1, d, f, by omega, by omega, by omega, by go_num, rfl, H2.out⟩
            case measure => simp [intOf]; omega
          · have hl2 := twoP_lt h2
            have H2 := Lib.hid ((blF_close hlt h1 hd0 h2).symm.trans HR.out)
            clear HR
            go_wp2_with fail
            refine (HT.out 40 42 _).mono ?_
            rintro e w1 ⟨rfl, rfl⟩
            go_wp2_with fail
            refine (HT.out 42 41 _).mono ?_
            rintro e w1 ⟨rfl, rfl⟩
            go_wp2_with fail
            go_round
            case rel => exact ⟨t + 2, d - 1, f, by omega, by omega, by omega, by go_num, by go_num, H2.out⟩
            case measure => simp [intOf]; omega
        · have hz : d = 0 := by omega
          subst hz
          cases h3 : isBl (byN s t)
          · have H2 := Lib.hid ((blF_stop hlt h1 h3).symm.trans HR.out)
            have hb : ¬ (s[t].toNat = 32 ∨ s[t].toNat = 9 ∨ s[t].toNat = 10 ∨ s[t].toNat = 13) := by
              intro h
              rw [BN.out] at h3
              unfold isBl at h3
              simp only [Bool.or_eq_false_iff, decide_eq_false_iff_not] at h3
              omega
            have e1 : ((s[t].toNat : Int) == 32) = false := beq_eq_false_iff_ne.2 (by omega)
            have e2 : ((s[t].toNat : Int) == 9) = false := beq_eq_false_iff_ne.2 (by omega)
            have e3 : ((s[t].toNat : Int) == 10) = false := beq_eq_false_iff_ne.2 (by omega)
            have e4 : ((s[t].toNat : Int) == 13) = false := beq_eq_false_iff_ne.2 (by omega)
            clear HR hb h3
            go_wp2_with fail
            refine (HT.out 40 42 _).mono ?_
            rintro e w1 ⟨rfl, rfl⟩
            go_wp2_with fail
            go_ret2
            exact ⟨by rw [← H2.out]; rfl, rfl⟩
          · have H2 := Lib.hid ((blF_skip hlt h1 (by omega) (.inr h3)).symm.trans HR.out)
            have hb : s[t].toNat = 32 ∨ s[t].toNat = 9 ∨ s[t].toNat = 10 ∨ s[t].toNat = 13 := by
              rw [BN.out] at h3
              unfold isBl at h3
              simpa only [Bool.or_eq_true, decide_eq_true_eq] using h3
            clear HR h3
            have HB := Lib.hid hb
            clear hb
            go_wp2_with fail
            refine (HT.out 40 42 _).mono ?_
            rintro e w1 ⟨rfl, rfl⟩
            go_wp2_with fail
            all_goals try (rename_i h; simp only [beq_eq_false_iff_ne, ne_eq] at h; exfalso; have := HB.out; omega; done)
            all_goals first
              | (go_round <;> first
                  | exact ⟨t + 1, 0, f, by omega, by omega, by omega, by go_num, rfl, H2.out⟩
                  | rfl
                  | (simp [intOf]; omega))
      · have hl2 := twoP_lt h1
        have H2 := Lib.hid ((blF_open hlt h1).symm.trans HR.out)
        clear HR
        go_wp2_with fail
        refine (HT.out 40 42 _).mono ?_
        rintro e w1 ⟨rfl, rfl⟩
        go_wp2_with fail
        go_round
        case rel => exact ⟨t + 2, d + 1, f, by omega, by omega, by omega, by go_num, by go_num, H2.out⟩
        case measure => simp [intOf]; omega
    · have hI : decide ((t : Int) < s.size) = false := decide_eq_false (by omega)
      have H2 := Lib.hid ((blF_end hlt).symm.trans HR.out)
      have d0 : ((d : Int) == 0) = decide (d = 0) := Bool.eq_iff_iff.2 (by simp only [beq_iff_eq, decide_eq_true_eq]; omega)
      clear HR
      go_wp2_with fail
      go_ret2
      exact ⟨by rw [← H2.out]; rfl, rfl⟩

theorem sgn_eq {x y : Sgn} (h : x = y) : sgnV x = sgnV y := by rw [h]

set_option maxHeartbeats 2000000 in
set_option maxRecDepth 100000 in
theorem refbad_any (f t : Nat) (c : Int) (w : World) : Calls Tryd.prog 30 #[.int .i64 f, .int .i64 t, .int .i64 c] w fun e w' => e = .returned (.tuple #[sgnV (badS f t), .int .i64 c]) ∧ Below w.heap.size w w' := by
  have B := Lib.hid ((Below.refl w.heap.size w).alloc (Nat.le_refl _) (.cells #[.int .i64 7, .int .i64 f, .int .i64 t, .string ⟨#[]⟩, .int .i32 0] 33))
  have Q := Whole.made w 33 #[.int .i64 7, .int .i64 f, .int .i64 t, .string ⟨#[]⟩, .int .i32 0] _ rfl
  have q0 := Q.cell 0
  have q1 := Q.cell 1
  have q2 := Q.cell 2
  have q3 := Q.cell 3
  have q4 := Q.cell 4
  go_enter Tryd.func30, Tryd.ntmps30
  go_wp2_with fail
  refine bodyPost_ret (v := .tuple #[sgnV (badS f t), .int .i64 c]) ?_ rfl ⟨rfl, B.out⟩
  simp [results, Tryd.results30, go_sem, q0, q1, q2, q3, q4, badS]
end Go.Proofs.YtbkagnhficmdhaaDoor
