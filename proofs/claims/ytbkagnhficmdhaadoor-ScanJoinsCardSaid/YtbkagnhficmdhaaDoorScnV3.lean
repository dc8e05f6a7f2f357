/- Scan: the answers' Next: texts. -/
import Derived.Test.YtbkagnhficmdhaaDoorScnV
namespace Go.Proofs.YtbkagnhficmdhaaDoor
open Go.ChangeShapes Go.WideShapes Go.ChangeAt Go.RowKit
set_option linter.unusedVariables false
set_option linter.unusedSimpArgs false
set_option maxHeartbeats 8000000 in
set_option maxRecDepth 100000 in
theorem refnext_text (s : ByteArray) (k f : Nat) (w : World) (hs : s.size ≤ 1000000) (hk : k ≤ s.size) (hlt : f < s.size) (hB : blanksP s k = (f, true)) (hL : letN (byN s f) = false) (hD : digN (byN s f) = false) (h34 : byN s f = 34) : Calls Tryd.prog 14 #[.string s, .int .i64 k] w (SgnPost w (signP s f)) := by
  have BL := Lib.hid (refblanks_any s k (w.alloc (.cells #[.int .i64 0, .int .i64 0, .int .i64 0, .string ⟨#[]⟩, .int .i32 0] rsT)) hs hk)
  rw [hB] at BL
  clear hB
  have B := Lib.hid ((Below.refl w.heap.size w).alloc (Nat.le_refl _) (.cells #[.int .i64 0, .int .i64 0, .int .i64 0, .string ⟨#[]⟩, .int .i32 0] rsT))
  have Q := Lib.hid (Whole.made w rsT #[.int .i64 0, .int .i64 0, .int .i64 0, .string ⟨#[]⟩, .int .i32 0] _ rfl)
  have hZ : w.heap.size < (w.alloc (.cells #[.int .i64 0, .int .i64 0, .int .i64 0, .string ⟨#[]⟩, .int .i32 0] rsT)).heap.size := by simp
  have hltI : (f : Int) < s.size := by omega
  have dE : ((f : Int) == s.size) = false := beq_eq_false_iff_ne.2 (by omega)
  have g1 : s[f].toNat = byN s f := (byN_get hlt).symm
  have k1 := byN_lt s f
  have CL := Lib.hid (fun W => reflet_any (byN s f) W)
  have CD := Lib.hid (fun W => refdig_any (byN s f) W)
  unfold SgnPost
  have RB := Lib.hid (endOf_bound textN (show f + 1 ≤ s.size from hlt))
  have NP := Lib.hid (show signP s f = if endOf textN s (f + 1) = s.size ∨ byN s (endOf textN s (f + 1)) ≠ 34 then (badS f (endOf textN s (f + 1)), 82) else (⟨4, f, endOf textN s (f + 1) + 1, s.extract (f + 1) (endOf textN s (f + 1)), 0⟩, 0) by unfold signP; rw [if_neg (by rw [hL]; decide), if_neg (by rw [hD]; decide), if_neg (by omega), if_neg (by omega), if_pos h34])
  have R0 := Lib.hid (show runF textN s.size s (f + 1) = endOf textN s (f + 1) from rfl)
  generalize signP s f = p at *
  generalize endOf textN s (f + 1) = E at *
  have e36 : ((byN s f : Int) == 36) = false := beq_eq_false_iff_ne.2 (by omega)
  have e39 : ((byN s f : Int) == 39) = false := beq_eq_false_iff_ne.2 (by omega)
  have e34 : ((byN s f : Int) == 34) = true := beq_iff_eq.2 (by omega)
  clear h34
  rw [hL] at CL
  rw [hD] at CD
  clear hL hD
  generalize byN s f = b at *
  go_enter Tryd.func14, Tryd.ntmps14
  go_wp2_with fail
  refine BL.out.mono ?_
  rintro e w1 ⟨rfl, rfl⟩
  go_wp2_with fail
  generalize (w.alloc (.cells #[.int .i64 0, .int .i64 0, .int .i64 0, .string ⟨#[]⟩, .int .i32 0] rsT)) = W at *
  refine (CL.out _).mono ?_
  rintro e w1 ⟨rfl, rfl⟩
  go_wp2_with fail
  refine (CD.out _).mono ?_
  rintro e w1 ⟨rfl, rfl⟩
  go_wp2_with fail
  go_loop [8] (fun i => ∃ (t g : Nat), f + 1 ≤ t ∧ t ≤ s.size ∧ s.size - t ≤ g ∧ i = .int .i64 t ∧ runF textN g s t = E) (fun i => s.size - (intOf i).toNat)
  case atStart => exact ⟨f + 1, s.size, Nat.le_refl _, by omega, by omega, by go_num, R0.out⟩
  case round =>
    obtain ⟨t, g, hft, ht, hg, rfl, hR⟩ := hrel
    have HR := Lib.hid hR
    clear hR R0
    by_cases hgo : t < s.size ∧ textN (byN s t) = true
    · obtain ⟨hlt2, hw⟩ := hgo
      obtain ⟨g, rfl⟩ : ∃ h, g = h + 1 := ⟨g - 1, by omega⟩
      have H2 := Lib.hid ((runF_go hlt2 hw).symm.trans HR.out)
      have hI : (t : Int) < s.size := by omega
      have h255 : s[t].toNat < 256 := s[t].toNat_lt
      rw [byN_get hlt2] at hw
      clear HR
      unfold textN at hw
      simp only [Bool.and_eq_true, decide_eq_true_eq, Bool.not_eq_true', decide_eq_false_iff_not] at hw
      obtain ⟨hw1, hw2, hw3⟩ := hw
      have d32 : decide ((32 : Int) ≤ (s[t].toNat : Int)) = true := decide_eq_true (by omega)
      have d126 : decide ((s[t].toNat : Int) ≤ 126) = true := decide_eq_true (by omega)
      have d34 : ((s[t].toNat : Int) != 34) = true := by rw [bne, beq_eq_false_iff_ne.2 (by omega)]; rfl
      clear hw1 hw2 hw3
      go_wp2_with fail
      go_round
      case rel => exact ⟨t + 1, g, by omega, by omega, by omega, by go_num, H2.out⟩
      case measure => simp [intOf]; omega
    · obtain rfl : t = E := (runF_stop hgo).symm.trans HR.out
      clear HR
      by_cases hlt2 : t < s.size
      · have hI : (t : Int) < s.size := by omega
        have hEI : ((t : Int) == s.size) = false := beq_eq_false_iff_ne.2 (by omega)
        have h255 : s[t].toNat < 256 := s[t].toNat_lt
        have hbt := byN_get hlt2
        have hw : textN s[t].toNat = false := by
          cases hc : textN s[t].toNat
          · rfl
          · exact absurd ⟨hlt2, by rw [byN_get hlt2]; exact hc⟩ hgo
        clear hgo
        unfold textN at hw
        by_cases hw1 : 32 ≤ s[t].toNat
        · have d32 : decide ((32 : Int) ≤ (s[t].toNat : Int)) = true := decide_eq_true (by omega)
          by_cases hw2 : s[t].toNat ≤ 126
          · have d126 : decide ((s[t].toNat : Int) ≤ 126) = true := decide_eq_true (by omega)
            have hw3 : s[t].toNat = 34 := by simpa [hw1, hw2] using hw
            have d34 : ((s[t].toNat : Int) != 34) = false := by rw [hw3]; rfl
            rw [if_neg (by rw [hbt, hw3]; omega)] at NP
            clear hw hw1 hw2 hw3 hbt
            have hsl : ∀ W, (Instr.slice 9 (.string s) (some (.int .i64 ((f : Int) + 1))) (some (.int .i64 ((t : Int)))) none).run Tryd.prog W = .ok (.string (s.extract (f + 1) (t))) W := fun W => by
              have h1 := run_slice_string W 9 s .i64 .i64 ((f : Int) + 1) ((t : Int)) Tryd.underlying9 (by omega) (by omega) (by omega)
              rw [show (((f : Int) + 1) : Int).toNat = f + 1 by omega, show (((t : Int)) : Int).toNat = t by omega] at h1
              exact h1
            have q0 : W.cell? ⟨w.heap.size, 0, none⟩ = some (.int .i64 0) := Q.out.cell 0
            have q1 : W.cell? ⟨w.heap.size, 1, none⟩ = some (.int .i64 0) := Q.out.cell 1
            have q2 : W.cell? ⟨w.heap.size, 2, none⟩ = some (.int .i64 0) := Q.out.cell 2
            have q3 : W.cell? ⟨w.heap.size, 3, none⟩ = some (.string ⟨#[]⟩) := Q.out.cell 3
            have q4 : W.cell? ⟨w.heap.size, 4, none⟩ = some (.int .i32 0) := Q.out.cell 4
            have f0 := Q.out.free 0
            have f1 := Q.out.free 1
            have f2 := Q.out.free 2
            have f3 := Q.out.free 3
            have f4 := Q.out.free 4
            go_wp2_with fail
            refine bodyPost_ret (v := .tuple #[sgnV ⟨4, f, t + 1, s.extract (f + 1) t, 0⟩, .int .i64 0]) ?_ rfl ⟨by rw [NP.out], ?_⟩
            · simp [results, Tryd.results14, go_sem, q0, q1, q2, q3, q4]
            · repeat (first | exact B.out | refine Below.drew ?_ | refine Below.setCell ?_ (Nat.le_refl w.heap.size) _)
          · have d126 : decide ((s[t].toNat : Int) ≤ 126) = false := decide_eq_false (by omega)
            have d34 : ((s[t].toNat : Int) != 34) = true := by rw [bne, beq_eq_false_iff_ne.2 (by omega)]; rfl
            have hbd : t = s.size ∨ byN s t ≠ 34 := .inr (by omega)
            clear hw hw1 hw2 hbt
            rw [if_pos hbd] at NP
            clear hbd
            have RX := Lib.hid (fun W => show Calls Tryd.prog 30 #[.int .i64 f, .int .i64 t, .int .i64 82] W fun e' w' => e' = .returned (.tuple #[sgnV (badS f t), .int .i64 82]) ∧ Below W.heap.size W w' from refbad_any f t 82 W)
            generalize badS f t = x at *
            go_wp2_with fail
            refine (RX.out _).mono ?_
            rintro e w1 ⟨rfl, hb1⟩
            have Q1 := Lib.hid (Q.out.below hb1 hZ)
            have BB := Lib.hid (B.out.trans (hb1.mono (Nat.le_of_lt hZ)))
            clear hb1
            have q0 : w1.cell? ⟨w.heap.size, 0, none⟩ = some (.int .i64 0) := Q1.out.cell 0
            have q1 : w1.cell? ⟨w.heap.size, 1, none⟩ = some (.int .i64 0) := Q1.out.cell 1
            have q2 : w1.cell? ⟨w.heap.size, 2, none⟩ = some (.int .i64 0) := Q1.out.cell 2
            have q3 : w1.cell? ⟨w.heap.size, 3, none⟩ = some (.string ⟨#[]⟩) := Q1.out.cell 3
            have q4 : w1.cell? ⟨w.heap.size, 4, none⟩ = some (.int .i32 0) := Q1.out.cell 4
            have f0 := Q1.out.free 0
            have f1 := Q1.out.free 1
            have f2 := Q1.out.free 2
            have f3 := Q1.out.free 3
            have f4 := Q1.out.free 4
            go_wp2_with fail
            refine bodyPost_ret (v := .tuple #[sgnV x, .int .i64 82]) ?_ rfl ⟨by rw [NP.out], ?_⟩
            · simp [results, Tryd.results14, go_sem, q0, q1, q2, q3, q4]
            · repeat (first | exact BB.out | refine Below.setCell ?_ (Nat.le_refl w.heap.size) _)
        · have d32 : decide ((32 : Int) ≤ (s[t].toNat : Int)) = false := decide_eq_false (by omega)
          have d34 : ((s[t].toNat : Int) != 34) = true := by rw [bne, beq_eq_false_iff_ne.2 (by omega)]; rfl
          have hbd : t = s.size ∨ byN s t ≠ 34 := .inr (by omega)
          clear hw hw1 hbt
          rw [if_pos hbd] at NP
          clear hbd
          have RX := Lib.hid (fun W => show Calls Tryd.prog 30 #[.int .i64 f, .int .i64 t, .int .i64 82] W fun e' w' => e' = .returned (.tuple #[sgnV (badS f t), .int .i64 82]) ∧ Below W.heap.size W w' from refbad_any f t 82 W)
          generalize badS f t = x at *
          go_wp2_with fail
          refine (RX.out _).mono ?_
          rintro e w1 ⟨rfl, hb1⟩
          have Q1 := Lib.hid (Q.out.below hb1 hZ)
          have BB := Lib.hid (B.out.trans (hb1.mono (Nat.le_of_lt hZ)))
          clear hb1
          have q0 : w1.cell? ⟨w.heap.size, 0, none⟩ = some (.int .i64 0) := Q1.out.cell 0
          have q1 : w1.cell? ⟨w.heap.size, 1, none⟩ = some (.int .i64 0) := Q1.out.cell 1
          have q2 : w1.cell? ⟨w.heap.size, 2, none⟩ = some (.int .i64 0) := Q1.out.cell 2
          have q3 : w1.cell? ⟨w.heap.size, 3, none⟩ = some (.string ⟨#[]⟩) := Q1.out.cell 3
          have q4 : w1.cell? ⟨w.heap.size, 4, none⟩ = some (.int .i32 0) := Q1.out.cell 4
          have f0 := Q1.out.free 0
          have f1 := Q1.out.free 1
          have f2 := Q1.out.free 2
          have f3 := Q1.out.free 3
          have f4 := Q1.out.free 4
          go_wp2_with fail
          refine bodyPost_ret (v := .tuple #[sgnV x, .int .i64 82]) ?_ rfl ⟨by rw [NP.out], ?_⟩
          · simp [results, Tryd.results14, go_sem, q0, q1, q2, q3, q4]
          · repeat (first | exact BB.out | refine Below.setCell ?_ (Nat.le_refl w.heap.size) _)
      · have hI : decide ((t : Int) < s.size) = false := decide_eq_false (by omega)
        have hEI : ((t : Int) == s.size) = true := beq_iff_eq.2 (by omega)
        have hbd : t = s.size ∨ byN s t ≠ 34 := .inl (by omega)
        clear hgo
        rw [if_pos hbd] at NP
        clear hbd
        have RX := Lib.hid (fun W => show Calls Tryd.prog 30 #[.int .i64 f, .int .i64 t, .int .i64 82] W fun e' w' => e' = .returned (.tuple #[sgnV (badS f t), .int .i64 82]) ∧ Below W.heap.size W w' from refbad_any f t 82 W)
        generalize badS f t = x at *
        go_wp2_with fail
        refine (RX.out _).mono ?_
        rintro e w1 ⟨rfl, hb1⟩
        have Q1 := Lib.hid (Q.out.below hb1 hZ)
        have BB := Lib.hid (B.out.trans (hb1.mono (Nat.le_of_lt hZ)))
        clear hb1
        have q0 : w1.cell? ⟨w.heap.size, 0, none⟩ = some (.int .i64 0) := Q1.out.cell 0
        have q1 : w1.cell? ⟨w.heap.size, 1, none⟩ = some (.int .i64 0) := Q1.out.cell 1
        have q2 : w1.cell? ⟨w.heap.size, 2, none⟩ = some (.int .i64 0) := Q1.out.cell 2
        have q3 : w1.cell? ⟨w.heap.size, 3, none⟩ = some (.string ⟨#[]⟩) := Q1.out.cell 3
        have q4 : w1.cell? ⟨w.heap.size, 4, none⟩ = some (.int .i32 0) := Q1.out.cell 4
        have f0 := Q1.out.free 0
        have f1 := Q1.out.free 1
        have f2 := Q1.out.free 2
        have f3 := Q1.out.free 3
        have f4 := Q1.out.free 4
        go_wp2_with fail
        refine bodyPost_ret (v := .tuple #[sgnV x, .int .i64 82]) ?_ rfl ⟨by rw [NP.out], ?_⟩
        · simp [results, Tryd.results14, go_sem, q0, q1, q2, q3, q4]
        · repeat (first | exact BB.out | refine Below.setCell ?_ (Nat.le_refl w.heap.size) _)
end Go.Proofs.YtbkagnhficmdhaaDoor
