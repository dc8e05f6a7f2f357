/- Scan: the answers' Next: names. -/
import Derived.Test.YtbkagnhficmdhaaDoorScnV
namespace Go.Proofs.YtbkagnhficmdhaaDoor
open Go.ChangeShapes Go.WideShapes Go.ChangeAt Go.RowKit
set_option linter.unusedVariables false
set_option linter.unusedSimpArgs false
set_option maxHeartbeats 8000000 in
set_option maxRecDepth 100000 in
theorem refnext_name (s : ByteArray) (k f : Nat) (w : World) (hs : s.size ≤ 1000000) (hk : k ≤ s.size) (hlt : f < s.size) (hB : blanksP s k = (f, true)) (hL : letN (byN s f) = true) : Calls Tryd.prog 14 #[.string s, .int .i64 k] w (SgnPost w (signP s f)) := by
  have BL := Lib.hid (refblanks_any s k (w.alloc (.cells #[.int .i64 0, .int .i64 0, .int .i64 0, .string ⟨#[]⟩, .int .i32 0] rsT)) hs hk)
  rw [hB] at BL
  clear hB
  have B := Lib.hid ((Below.refl w.heap.size w).alloc (Nat.le_refl _) (.cells #[.int .i64 0, .int .i64 0, .int .i64 0, .string ⟨#[]⟩, .int .i32 0] rsT))
  have Q := Lib.hid (Whole.made w rsT #[.int .i64 0, .int .i64 0, .int .i64 0, .string ⟨#[]⟩, .int .i32 0] _ rfl)
  have hZ : w.heap.size < (w.alloc (.cells #[.int .i64 0, .int .i64 0, .int .i64 0, .string ⟨#[]⟩, .int .i32 0] rsT)).heap.size := by simp
  have hltI : (f : Int) < s.size := by omega
  have dE : ((f : Int) == s.size) = false := beq_eq_false_iff_ne.2 (by omega)
  have g1 : s[f].toNat = byN s f := (byN_get hlt).symm
  have k1 := byN_lt s f
  have CL := Lib.hid (fun W => reflet_any (byN s f) W)
  have CD := Lib.hid (fun W => refdig_any (byN s f) W)
  unfold SgnPost
  have RB := Lib.hid (endOf_bound wordN (Nat.le_of_lt hlt))
  have NP := Lib.hid (show signP s f = if 32 < endOf wordN s f - f then (badS f (endOf wordN s f), 140) else if keyB (s.extract f (endOf wordN s f)) = true then (⟨5, f, endOf wordN s f, s.extract f (endOf wordN s f), 0⟩, 0) else (⟨1, f, endOf wordN s f, s.extract f (endOf wordN s f), 0⟩, 0) by unfold signP; rw [if_pos hL])
  have R0 := Lib.hid (show runF wordN s.size s f = endOf wordN s f from rfl)
  generalize signP s f = p at *
  generalize endOf wordN s f = E at *
  rw [hL] at CL
  clear hL CD
  generalize byN s f = b at *
  go_enter Tryd.func14, Tryd.ntmps14
  go_wp2_with fail
  refine BL.out.mono ?_
  rintro e w1 ⟨rfl, rfl⟩
  go_wp2_with fail
  generalize (w.alloc (.cells #[.int .i64 0, .int .i64 0, .int .i64 0, .string ⟨#[]⟩, .int .i32 0] rsT)) = W at *
  refine (CL.out _).mono ?_
  rintro e w1 ⟨rfl, rfl⟩
  go_wp2_with fail
  go_loop [8] (fun i => ∃ (t g : Nat), f ≤ t ∧ t ≤ s.size ∧ s.size - t ≤ g ∧ i = .int .i64 t ∧ runF wordN g s t = E) (fun i => s.size - (intOf i).toNat)
  case atStart => exact ⟨f, s.size, Nat.le_refl _, by omega, by omega, rfl, R0.out⟩
  case round =>
    obtain ⟨t, g, hft, ht, hg, rfl, hR⟩ := hrel
    have HR := Lib.hid hR
    clear hR R0
    by_cases hgo : t < s.size ∧ wordN (byN s t) = true
    · obtain ⟨hlt2, hw⟩ := hgo
      obtain ⟨g, rfl⟩ : ∃ h, g = h + 1 := ⟨g - 1, by omega⟩
      have H2 := Lib.hid ((runF_go hlt2 hw).symm.trans HR.out)
      have hI : (t : Int) < s.size := by omega
      have h255 : s[t].toNat < 256 := s[t].toNat_lt
      rw [byN_get hlt2] at hw
      have HL := Lib.hid (reflet_any s[t].toNat W)
      have HD := Lib.hid (refdig_any s[t].toNat W)
      clear HR
      unfold wordN at hw
      cases hl : letN s[t].toNat
      · rw [hl] at HL hw
        rw [Bool.false_or] at hw
        rw [hw] at HD
        clear hl hw
        go_wp2_with fail
        refine (HL.out).mono ?_
        rintro e w1 ⟨rfl, rfl⟩
        go_wp2_with fail
        refine (HD.out).mono ?_
        rintro e w1 ⟨rfl, rfl⟩
        go_wp2_with fail
        go_round
        case rel => exact ⟨t + 1, g, by omega, by omega, by omega, by go_num, H2.out⟩
        case measure => simp [intOf]; omega
      · rw [hl] at HL
        clear hl hw HD
        go_wp2_with fail
        refine (HL.out).mono ?_
        rintro e w1 ⟨rfl, rfl⟩
        go_wp2_with fail
        go_round
        case rel => exact ⟨t + 1, g, by omega, by omega, by omega, by go_num, H2.out⟩
        case measure => simp [intOf]; omega
    · obtain rfl : t = E := (runF_stop hgo).symm.trans HR.out
      clear HR
      by_cases hlt2 : t < s.size
      · have hI : (t : Int) < s.size := by omega
        have hw : wordN s[t].toNat = false := by
          cases hc : wordN s[t].toNat
          · rfl
          · exact absurd ⟨hlt2, by rw [byN_get hlt2]; exact hc⟩ hgo
        clear hgo
        unfold wordN at hw
        obtain ⟨hl, hd⟩ := Bool.or_eq_false_iff.1 hw
        have HL := Lib.hid (reflet_any s[t].toNat W)
        have HD := Lib.hid (refdig_any s[t].toNat W)
        rw [hl] at HL
        rw [hd] at HD
        clear hl hd hw
        by_cases h32 : 32 < t - f
        · have d32 : decide ((32 : Int) < (t : Int) - f) = true := decide_eq_true (by omega)
          rw [if_pos h32] at NP
          have RX := Lib.hid (fun W => show Calls Tryd.prog 30 #[.int .i64 f, .int .i64 t, .int .i64 140] W fun e' w' => e' = .returned (.tuple #[sgnV (badS f t), .int .i64 140]) ∧ Below W.heap.size W w' from refbad_any f t 140 W)
          generalize badS f t = x at *
          go_wp2_with fail
          refine (HL.out).mono ?_
          rintro e w1 ⟨rfl, rfl⟩
          go_wp2_with fail
          refine (HD.out).mono ?_
          rintro e w1 ⟨rfl, rfl⟩
          go_wp2_with fail
          refine (RX.out _).mono ?_
          rintro e w1 ⟨rfl, hb1⟩
          have Q1 := Lib.hid (Q.out.below hb1 hZ)
          have BB := Lib.hid (B.out.trans (hb1.mono (Nat.le_of_lt hZ)))
          clear hb1
          have q0 : w1.cell? ⟨w.heap.size, 0, none⟩ = some (.int .i64 0) := Q1.out.cell 0
          have q1 : w1.cell? ⟨w.heap.size, 1, none⟩ = some (.int .i64 0) := Q1.out.cell 1
          have q2 : w1.cell? ⟨w.heap.size, 2, none⟩ = some (.int .i64 0) := Q1.out.cell 2
          have q3 : w1.cell? ⟨w.heap.size, 3, none⟩ = some (.string ⟨#[]⟩) := Q1.out.cell 3
          have q4 : w1.cell? ⟨w.heap.size, 4, none⟩ = some (.int .i32 0) := Q1.out.cell 4
          have f0 := Q1.out.free 0
          have f1 := Q1.out.free 1
          have f2 := Q1.out.free 2
          have f3 := Q1.out.free 3
          have f4 := Q1.out.free 4
          go_wp2_with fail
          refine bodyPost_ret (v := .tuple #[sgnV x, .int .i64 140]) ?_ rfl ⟨by rw [NP.out], ?_⟩
          · simp [results, Tryd.results14, go_sem, q0, q1, q2, q3, q4]
          · repeat (first | exact BB.out | refine Below.setCell ?_ (Nat.le_refl w.heap.size) _)
        · have d32 : decide ((32 : Int) < (t : Int) - f) = false := decide_eq_false (by omega)
          rw [if_neg h32] at NP
          have KY := Lib.hid (refkey_any (s.extract f t) W)
          have KE := Lib.hid (rfl : s.extract f t = s.extract f t)
          cases hk : keyB (s.extract f t)
          · rw [hk] at NP KY
            clear hk
            simp only [Bool.false_eq_true, if_true, if_false] at NP
            go_wp2_with fail
            refine (HL.out).mono ?_
            rintro e w1 ⟨rfl, rfl⟩
            go_wp2_with fail
            refine (HD.out).mono ?_
            rintro e w1 ⟨rfl, rfl⟩
            go_wp2_with fail
            refine KY.out.mono ?_
            rintro e w1 ⟨rfl, hb1⟩
            have Q1 := Lib.hid (Q.out.below hb1 hZ)
            have BB := Lib.hid (B.out.trans (hb1.mono (Nat.le_of_lt hZ)))
            clear hb1
            have q0 : w1.cell? ⟨w.heap.size, 0, none⟩ = some (.int .i64 0) := Q1.out.cell 0
            have q1 : w1.cell? ⟨w.heap.size, 1, none⟩ = some (.int .i64 0) := Q1.out.cell 1
            have q2 : w1.cell? ⟨w.heap.size, 2, none⟩ = some (.int .i64 0) := Q1.out.cell 2
            have q3 : w1.cell? ⟨w.heap.size, 3, none⟩ = some (.string ⟨#[]⟩) := Q1.out.cell 3
            have q4 : w1.cell? ⟨w.heap.size, 4, none⟩ = some (.int .i32 0) := Q1.out.cell 4
            have f0 := Q1.out.free 0
            have f1 := Q1.out.free 1
            have f2 := Q1.out.free 2
            have f3 := Q1.out.free 3
            have f4 := Q1.out.free 4
            go_wp2_with fail
            refine bodyPost_ret (v := .tuple #[sgnV ⟨1, f, t, s.extract f t, 0⟩, .int .i64 0]) ?_ rfl ⟨by rw [NP.out], ?_⟩
            · simp [results, Tryd.results14, go_sem, q0, q1, q2, q3, q4]
            · repeat (first | exact BB.out | refine Below.drew ?_ | refine Below.setCell ?_ (Nat.le_refl w.heap.size) _)
          · rw [hk] at NP KY
            clear hk
            simp only [Bool.false_eq_true, if_true, if_false] at NP
            go_wp2_with fail
            refine (HL.out).mono ?_
            rintro e w1 ⟨rfl, rfl⟩
            go_wp2_with fail
            refine (HD.out).mono ?_
            rintro e w1 ⟨rfl, rfl⟩
            go_wp2_with fail
            refine KY.out.mono ?_
            rintro e w1 ⟨rfl, hb1⟩
            have Q1 := Lib.hid (Q.out.below hb1 hZ)
            have BB := Lib.hid (B.out.trans (hb1.mono (Nat.le_of_lt hZ)))
            clear hb1
            have q0 : w1.cell? ⟨w.heap.size, 0, none⟩ = some (.int .i64 0) := Q1.out.cell 0
            have q1 : w1.cell? ⟨w.heap.size, 1, none⟩ = some (.int .i64 0) := Q1.out.cell 1
            have q2 : w1.cell? ⟨w.heap.size, 2, none⟩ = some (.int .i64 0) := Q1.out.cell 2
            have q3 : w1.cell? ⟨w.heap.size, 3, none⟩ = some (.string ⟨#[]⟩) := Q1.out.cell 3
            have q4 : w1.cell? ⟨w.heap.size, 4, none⟩ = some (.int .i32 0) := Q1.out.cell 4
            have f0 := Q1.out.free 0
            have f1 := Q1.out.free 1
            have f2 := Q1.out.free 2
            have f3 := Q1.out.free 3
            have f4 := Q1.out.free 4
            go_wp2_with fail
            refine bodyPost_ret (v := .tuple #[sgnV ⟨5, f, t, s.extract f t, 0⟩, .int .i64 0]) ?_ rfl ⟨by rw [NP.out], ?_⟩
            · simp [results, Tryd.results14, go_sem, q0, q1, q2, q3, q4]
            · repeat (first | exact BB.out | refine Below.drew ?_ | refine Below.setCell ?_ (Nat.le_refl w.heap.size) _)
      · have hI : decide ((t : Int) < s.size) = false := decide_eq_false (by omega)
        clear hgo
        by_cases h32 : 32 < t - f
        · have d32 : decide ((32 : Int) < (t : Int) - f) = true := decide_eq_true (by omega)
          rw [if_pos h32] at NP
          have RX := Lib.hid (fun W => show Calls Tryd.prog 30 #[.int .i64 f, .int .i64 t, .int .i64 140] W fun e' w' => e' = .returned (.tuple #[sgnV (badS f t), .int .i64 140]) ∧ Below W.heap.size W w' from refbad_any f t 140 W)
          generalize badS f t = x at *
          go_wp2_with fail
          refine (RX.out _).mono ?_
          rintro e w1 ⟨rfl, hb1⟩
          have Q1 := Lib.hid (Q.out.below hb1 hZ)
          have BB := Lib.hid (B.out.trans (hb1.mono (Nat.le_of_lt hZ)))
          clear hb1
          have q0 : w1.cell? ⟨w.heap.size, 0, none⟩ = some (.int .i64 0) := Q1.out.cell 0
          have q1 : w1.cell? ⟨w.heap.size, 1, none⟩ = some (.int .i64 0) := Q1.out.cell 1
          have q2 : w1.cell? ⟨w.heap.size, 2, none⟩ = some (.int .i64 0) := Q1.out.cell 2
          have q3 : w1.cell? ⟨w.heap.size, 3, none⟩ = some (.string ⟨#[]⟩) := Q1.out.cell 3
          have q4 : w1.cell? ⟨w.heap.size, 4, none⟩ = some (.int .i32 0) := Q1.out.cell 4
          have f0 := Q1.out.free 0
          have f1 := Q1.out.free 1
          have f2 := Q1.out.free 2
          have f3 := Q1.out.free 3
          have f4 := Q1.out.free 4
          go_wp2_with fail
          refine bodyPost_ret (v := .tuple #[sgnV x, .int .i64 140]) ?_ rfl ⟨by rw [NP.out], ?_⟩
          · simp [results, Tryd.results14, go_sem, q0, q1, q2, q3, q4]
          · repeat (first | exact BB.out | refine Below.setCell ?_ (Nat.le_refl w.heap.size) _)
        · have d32 : decide ((32 : Int) < (t : Int) - f) = false := decide_eq_false (by omega)
          rw [if_neg h32] at NP
          have KY := Lib.hid (refkey_any (s.extract f t) W)
          have KE := Lib.hid (rfl : s.extract f t = s.extract f t)
          cases hk : keyB (s.extract f t)
          · rw [hk] at NP KY
            clear hk
            simp only [Bool.false_eq_true, if_true, if_false] at NP
            go_wp2_with fail
            refine KY.out.mono ?_
            rintro e w1 ⟨rfl, hb1⟩
            have Q1 := Lib.hid (Q.out.below hb1 hZ)
            have BB := Lib.hid (B.out.trans (hb1.mono (Nat.le_of_lt hZ)))
            clear hb1
            have q0 : w1.cell? ⟨w.heap.size, 0, none⟩ = some (.int .i64 0) := Q1.out.cell 0
            have q1 : w1.cell? ⟨w.heap.size, 1, none⟩ = some (.int .i64 0) := Q1.out.cell 1
            have q2 : w1.cell? ⟨w.heap.size, 2, none⟩ = some (.int .i64 0) := Q1.out.cell 2
            have q3 : w1.cell? ⟨w.heap.size, 3, none⟩ = some (.string ⟨#[]⟩) := Q1.out.cell 3
            have q4 : w1.cell? ⟨w.heap.size, 4, none⟩ = some (.int .i32 0) := Q1.out.cell 4
            have f0 := Q1.out.free 0
            have f1 := Q1.out.free 1
            have f2 := Q1.out.free 2
            have f3 := Q1.out.free 3
            have f4 := Q1.out.free 4
            go_wp2_with fail
            refine bodyPost_ret (v := .tuple #[sgnV ⟨1, f, t, s.extract f t, 0⟩, .int .i64 0]) ?_ rfl ⟨by rw [NP.out], ?_⟩
            · simp [results, Tryd.results14, go_sem, q0, q1, q2, q3, q4]
            · repeat (first | exact BB.out | refine Below.drew ?_ | refine Below.setCell ?_ (Nat.le_refl w.heap.size) _)
          · rw [hk] at NP KY
            clear hk
            simp only [Bool.false_eq_true, if_true, if_false] at NP
            go_wp2_with fail
            refine KY.out.mono ?_
            rintro e w1 ⟨rfl, hb1⟩
            have Q1 := Lib.hid (Q.out.below hb1 hZ)
            have BB := Lib.hid (B.out.trans (hb1.mono (Nat.le_of_lt hZ)))
            clear hb1
            have q0 : w1.cell? ⟨w.heap.size, 0, none⟩ = some (.int .i64 0) := Q1.out.cell 0
            have q1 : w1.cell? ⟨w.heap.size, 1, none⟩ = some (.int .i64 0) := Q1.out.cell 1
            have q2 : w1.cell? ⟨w.heap.size, 2, none⟩ = some (.int .i64 0) := Q1.out.cell 2
            have q3 : w1.cell? ⟨w.heap.size, 3, none⟩ = some (.string ⟨#[]⟩) := Q1.out.cell 3
            have q4 : w1.cell? ⟨w.heap.size, 4, none⟩ = some (.int .i32 0) := Q1.out.cell 4
            have f0 := Q1.out.free 0
            have f1 := Q1.out.free 1
            have f2 := Q1.out.free 2
            have f3 := Q1.out.free 3
            have f4 := Q1.out.free 4
            go_wp2_with fail
            refine bodyPost_ret (v := .tuple #[sgnV ⟨5, f, t, s.extract f t, 0⟩, .int .i64 0]) ?_ rfl ⟨by rw [NP.out], ?_⟩
            · simp [results, Tryd.results14, go_sem, q0, q1, q2, q3, q4]
            · repeat (first | exact BB.out | refine Below.drew ?_ | refine Below.setCell ?_ (Nat.le_refl w.heap.size) _)
end Go.Proofs.YtbkagnhficmdhaaDoor
