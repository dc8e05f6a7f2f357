/- Scan: the answers' hex. -/
import Derived.Test.YtbkagnhficmdhaaDoorScnE
import Derived.Test.YtbkagnhficmdhaaDoorWordPlain
import Derived.BigQuiet
namespace Go.Proofs.YtbkagnhficmdhaaDoor
open Go.ChangeShapes Go.WideShapes Go.ChangeAt Go.RowKit
set_option linter.unusedVariables false
set_option linter.unusedSimpArgs false

theorem index_hexS {P : Program} (t : TypeId) (k : IntKind) (h : P.underlying t = some .string) (m : Nat) (hm : m < 16) (w : World) :
    (Instr.index t (.string hexS) (.int k m)).run P w = .ok (.int .u8 ((hexRow.getD m 0 : Nat) : Int)) w := by
  rw [run_index_string w t hexS k m h, dif_pos ⟨by omega, by show (m : Int) < 16; omega⟩]
  congr 2
  rw [← hexS_get hm]
  rfl

theorem sgn32_wrap (n : Int) (h0 : 0 ≤ n) (h1 : n ≤ 4294967295) : wrap32 n = sgn32 n := by
  unfold sgn32 wrap32
  split <;> omega

theorem hexRow_lt (m : Nat) : hexRow.getD m 0 < 256 := by
  rcases Nat.lt_or_ge m 16 with h | h
  · rcases (show m = 0 ∨ m = 1 ∨ m = 2 ∨ m = 3 ∨ m = 4 ∨ m = 5 ∨ m = 6 ∨ m = 7 ∨ m = 8 ∨ m = 9 ∨ m = 10 ∨ m = 11 ∨ m = 12 ∨ m = 13 ∨ m = 14 ∨ m = 15 by omega) with h | h | h | h | h | h | h | h | h | h | h | h | h | h | h | h <;> (subst h; decide)
  · rw [List.getD_eq_getElem?_getD, List.getElem?_eq_none (by exact h)]
    decide

set_option maxHeartbeats 8000000 in
set_option maxRecDepth 100000 in
theorem refhex_any (s : ByteArray) (k : Nat) (w : World) (hs : s.size ≤ 1000000) (hk : k < s.size) : Calls Tryd.prog 34 #[.string s, .int .i64 k] w (SgnPost w (hexP s k)) := by
  have RB := Lib.hid (hexF_bound s.size s (k + 1) 0 hk (by omega) (by omega))
  have NP := Lib.hid (show hexP s k = if (hexF s.size s (k + 1) 0).1 = k + 1 ∨ k + 9 < (hexF s.size s (k + 1) 0).1 then (badS k (hexF s.size s (k + 1) 0).1, 80) else (⟨2, k, (hexF s.size s (k + 1) 0).1, s.extract k (hexF s.size s (k + 1) 0).1, sgn32 (hexF s.size s (k + 1) 0).2⟩, 0) from rfl)
  generalize hexP s k = p at *
  rcases hq : hexF s.size s (k + 1) 0 with ⟨tt, nn⟩
  rw [hq] at NP RB
  have R0 := Lib.hid hq
  clear hq
  have B := Lib.hid ((Below.refl w.heap.size w).alloc (Nat.le_refl _) (.cells #[.int .i64 0, .int .i64 0, .int .i64 0, .string ⟨#[]⟩, .int .i32 0] rsT))
  have Q := Lib.hid (Whole.made w rsT #[.int .i64 0, .int .i64 0, .int .i64 0, .string ⟨#[]⟩, .int .i32 0] _ rfl)
  have hZ : w.heap.size < (w.alloc (.cells #[.int .i64 0, .int .i64 0, .int .i64 0, .string ⟨#[]⟩, .int .i32 0] rsT)).heap.size := by simp
  unfold SgnPost
  go_enter Tryd.func34, Tryd.ntmps34
  go_wp2_with fail
  generalize w.alloc (.cells #[.int .i64 0, .int .i64 0, .int .i64 0, .string ⟨#[]⟩, .int .i32 0] rsT) = V at *
  go_loopw [6, 7] (fun i j W => ∃ (t : Nat) (n : Int) (f : Nat), k < t ∧ t ≤ s.size ∧ 0 ≤ n ∧ n ≤ 4294967295 ∧ s.size - t ≤ f ∧ i = .int .i64 t ∧ j = .int .u32 n ∧ hexF f s t n = (tt, nn) ∧ Below V.heap.size V W) (fun i _ _ => s.size - (intOf i).toNat)
  case atStart => exact ⟨k + 1, 0, s.size, Nat.lt_succ_self _, hk, by omega, by omega, by omega, by go_num, rfl, R0.out, Below.refl _ _⟩
  case round =>
    obtain ⟨t, n, f, hkt, ht, hn0, hn, hf, rfl, rfl, hR, hbr⟩ := hrel
    have HR := Lib.hid hR
    have HBR := Lib.hid hbr
    clear hR hbr
    by_cases hlt : t < s.size
    · have hI : (t : Int) < s.size := by omega
      have h255 : s[t].toNat < 256 := s[t].toNat_lt
      have BN := Lib.hid (byN_get hlt)
      obtain ⟨wo, hwo⟩ : ∃ wo : World, wo = wr := ⟨_, rfl⟩
      subst hwo
      go_wp2_with fail
      go_loopw [8, 9] (fun d j W => ∃ m : Nat, m ≤ 16 ∧ j = .int .i64 m ∧ d = .int .i64 (hexU s[t].toNat m) ∧ Below V.heap.size V W) (fun _ j _ => 16 - (intOf j).toNat)
      case atStart => exact ⟨0, Nat.zero_le _, rfl, by rw [hexU_zero], HBR.out⟩
      case round =>
        obtain ⟨m, hm, rfl, rfl, hbr2⟩ := hrel
        have HB2 := Lib.hid hbr2
        clear hbr2
        by_cases hmlt : m < 16
        · have hik := fun W : World => index_hexS (P := Tryd.prog) 9 .i64 Tryd.underlying9 m hmlt W
          unfold hexS at hik
          have hrl := hexRow_lt m
          by_cases hc : hexRow.getD m 0 = s[t].toNat
          · have HF := Lib.hid (hexU_hit hmlt h255 hc)
            have he : (((hexRow.getD m 0 : Nat) : Int) == (s[t].toNat : Int)) = true := beq_iff_eq.2 (by omega)
            generalize hexRow.getD m 0 = hr at *
            clear hc
            go_wp2_with fail
            go_quiet (fail)
            go_wp2_with fail
            go_roundw
            case rel => exact ⟨m + 1, by omega, by go_num, by rw [HF.out], below_drawn HB2.out _⟩
            case measure => simp [intOf]; omega
          · have HF := Lib.hid (hexU_miss hmlt h255 hc)
            have he : (((hexRow.getD m 0 : Nat) : Int) == (s[t].toNat : Int)) = false := beq_eq_false_iff_ne.2 (by omega)
            generalize hexRow.getD m 0 = hr at *
            clear hc
            go_wp2_with fail
            go_quiet (fail)
            go_wp2_with fail
            go_roundw
            case rel => exact ⟨m + 1, by omega, by go_num, by rw [HF.out], below_drawn HB2.out _⟩
            case measure => simp [intOf]; omega
        · obtain rfl : m = 16 := by omega
          rw [hexU_end]
          obtain ⟨g0, g1⟩ := hexD_range s[t].toNat
          by_cases hd : 0 ≤ hexD s[t].toNat
          · obtain ⟨f, rfl⟩ : ∃ g, f = g + 1 := ⟨f - 1, by omega⟩
            have H2 := Lib.hid ((hexF_go hlt (by rw [BN.out]; exact hd)).symm.trans HR.out)
            rw [BN.out] at H2
            have hdI : decide (hexD s[t].toNat < 0) = false := decide_eq_false (by omega)
            clear HR
            generalize hexD s[t].toNat = hv at *
            go_wp2_with fail
            go_roundw
            case rel => exact ⟨t + 1, _, f, by omega, by omega, by omega, by omega, by omega, by go_num, by go_num, H2.out, HB2.out⟩
            case measure => simp [intOf]; omega
          · have H2 := (hexF_stop (f := f) (s := s) (k := t) (n := n) (by rw [BN.out]; exact fun h => hd h.2)).symm.trans HR.out
            obtain ⟨rfl, rfl⟩ : t = tt ∧ n = nn := by simpa using H2
            clear HR H2
            have hdI : decide (hexD s[t].toNat < 0) = true := decide_eq_true (by omega)
            generalize hexD s[t].toNat = hv at *
            have Q := Lib.hid (Q.out.below HB2.out hZ)
            have B := Lib.hid (B.out.trans (HB2.out.mono (Nat.le_of_lt hZ)))
            have hZ : w.heap.size < wr.heap.size := Nat.lt_of_lt_of_le hZ HB2.out.size
            clear HBR
            by_cases h1 : t = k + 1
            · have d1 : ((t : Int) == (k : Int) + 1) = true := beq_iff_eq.2 (by omega)
              rw [if_pos (by omega)] at NP
              clear h1
              have RX := Lib.hid (refbad_any k t 80 wr)
              generalize badS k t = x at *
              go_wp2_with fail
              refine RX.out.mono ?_
              rintro e w1 ⟨rfl, hb1⟩
              have Q1 := Lib.hid (Q.out.below hb1 hZ)
              have BB := Lib.hid (B.out.trans (hb1.mono (Nat.le_of_lt hZ)))
              clear hb1
              have q0 : w1.cell? ⟨w.heap.size, 0, none⟩ = some (.int .i64 0) := Q1.out.cell 0
              have q1 : w1.cell? ⟨w.heap.size, 1, none⟩ = some (.int .i64 0) := Q1.out.cell 1
              have q2 : w1.cell? ⟨w.heap.size, 2, none⟩ = some (.int .i64 0) := Q1.out.cell 2
              have q3 : w1.cell? ⟨w.heap.size, 3, none⟩ = some (.string ⟨#[]⟩) := Q1.out.cell 3
              have q4 : w1.cell? ⟨w.heap.size, 4, none⟩ = some (.int .i32 0) := Q1.out.cell 4
              have f0 := Q1.out.free 0
              have f1 := Q1.out.free 1
              have f2 := Q1.out.free 2
              have f3 := Q1.out.free 3
              have f4 := Q1.out.free 4
              go_wp2_with fail
              refine bodyPost_ret (v := .tuple #[sgnV x, .int .i64 80]) ?_ rfl ⟨by rw [NP.out], ?_⟩
              · simp [results, Tryd.results34, go_sem, q0, q1, q2, q3, q4]
              · repeat (first | exact BB.out | refine Below.setCell ?_ (Nat.le_refl w.heap.size) _)
            · have d1 : ((t : Int) == (k : Int) + 1) = false := beq_eq_false_iff_ne.2 (by omega)
              by_cases h2 : k + 9 < t
              · have d2 : decide ((k : Int) + 9 < t) = true := decide_eq_true (by omega)
                rw [if_pos (by omega)] at NP
                clear h1
                have RX := Lib.hid (refbad_any k t 80 wr)
                generalize badS k t = x at *
                go_wp2_with fail
                refine RX.out.mono ?_
                rintro e w1 ⟨rfl, hb1⟩
                have Q1 := Lib.hid (Q.out.below hb1 hZ)
                have BB := Lib.hid (B.out.trans (hb1.mono (Nat.le_of_lt hZ)))
                clear hb1
                have q0 : w1.cell? ⟨w.heap.size, 0, none⟩ = some (.int .i64 0) := Q1.out.cell 0
                have q1 : w1.cell? ⟨w.heap.size, 1, none⟩ = some (.int .i64 0) := Q1.out.cell 1
                have q2 : w1.cell? ⟨w.heap.size, 2, none⟩ = some (.int .i64 0) := Q1.out.cell 2
                have q3 : w1.cell? ⟨w.heap.size, 3, none⟩ = some (.string ⟨#[]⟩) := Q1.out.cell 3
                have q4 : w1.cell? ⟨w.heap.size, 4, none⟩ = some (.int .i32 0) := Q1.out.cell 4
                have f0 := Q1.out.free 0
                have f1 := Q1.out.free 1
                have f2 := Q1.out.free 2
                have f3 := Q1.out.free 3
                have f4 := Q1.out.free 4
                go_wp2_with fail
                refine bodyPost_ret (v := .tuple #[sgnV x, .int .i64 80]) ?_ rfl ⟨by rw [NP.out], ?_⟩
                · simp [results, Tryd.results34, go_sem, q0, q1, q2, q3, q4]
                · repeat (first | exact BB.out | refine Below.setCell ?_ (Nat.le_refl w.heap.size) _)
              · have d2 : decide ((k : Int) + 9 < t) = false := decide_eq_false (by omega)
                rw [if_neg (by omega)] at NP
                have hkl : k ≤ t := by omega
                have S32 := sgn32_wrap n hn0 hn
                have q0 : wr.cell? ⟨w.heap.size, 0, none⟩ = some (.int .i64 0) := Q.out.cell 0
                have q1 : wr.cell? ⟨w.heap.size, 1, none⟩ = some (.int .i64 0) := Q.out.cell 1
                have q2 : wr.cell? ⟨w.heap.size, 2, none⟩ = some (.int .i64 0) := Q.out.cell 2
                have q3 : wr.cell? ⟨w.heap.size, 3, none⟩ = some (.string ⟨#[]⟩) := Q.out.cell 3
                have q4 : wr.cell? ⟨w.heap.size, 4, none⟩ = some (.int .i32 0) := Q.out.cell 4
                have f0 := Q.out.free 0
                have f1 := Q.out.free 1
                have f2 := Q.out.free 2
                have f3 := Q.out.free 3
                have f4 := Q.out.free 4
                go_wp2_with fail
                refine bodyPost_ret (v := .tuple #[sgnV ⟨2, k, t, s.extract k t, sgn32 n⟩, .int .i64 0]) ?_ rfl ⟨by rw [NP.out], ?_⟩
                · simp [results, Tryd.results34, go_sem, q0, q1, q2, q3, q4, S32]
                · repeat (first | exact B.out | refine Below.setCell ?_ (Nat.le_refl w.heap.size) _)
    · have H2 := (hexF_stop (f := f) (s := s) (k := t) (n := n) (fun h => hlt h.1)).symm.trans HR.out
      obtain ⟨rfl, rfl⟩ : t = tt ∧ n = nn := by simpa using H2
      clear HR H2
      have hI : decide ((t : Int) < s.size) = false := decide_eq_false (by omega)
      have Q := Lib.hid (Q.out.below HBR.out hZ)
      have B := Lib.hid (B.out.trans (HBR.out.mono (Nat.le_of_lt hZ)))
      have hZ : w.heap.size < wr.heap.size := Nat.lt_of_lt_of_le hZ HBR.out.size
      clear HBR
      by_cases h1 : t = k + 1
      · have d1 : ((t : Int) == (k : Int) + 1) = true := beq_iff_eq.2 (by omega)
        rw [if_pos (by omega)] at NP
        clear h1
        have RX := Lib.hid (refbad_any k t 80 wr)
        generalize badS k t = x at *
        go_wp2_with fail
        refine RX.out.mono ?_
        rintro e w1 ⟨rfl, hb1⟩
        have Q1 := Lib.hid (Q.out.below hb1 hZ)
        have BB := Lib.hid (B.out.trans (hb1.mono (Nat.le_of_lt hZ)))
        clear hb1
        have q0 : w1.cell? ⟨w.heap.size, 0, none⟩ = some (.int .i64 0) := Q1.out.cell 0
        have q1 : w1.cell? ⟨w.heap.size, 1, none⟩ = some (.int .i64 0) := Q1.out.cell 1
        have q2 : w1.cell? ⟨w.heap.size, 2, none⟩ = some (.int .i64 0) := Q1.out.cell 2
        have q3 : w1.cell? ⟨w.heap.size, 3, none⟩ = some (.string ⟨#[]⟩) := Q1.out.cell 3
        have q4 : w1.cell? ⟨w.heap.size, 4, none⟩ = some (.int .i32 0) := Q1.out.cell 4
        have f0 := Q1.out.free 0
        have f1 := Q1.out.free 1
        have f2 := Q1.out.free 2
        have f3 := Q1.out.free 3
        have f4 := Q1.out.free 4
        go_wp2_with fail
        refine bodyPost_ret (v := .tuple #[sgnV x, .int .i64 80]) ?_ rfl ⟨by rw [NP.out], ?_⟩
        · simp [results, Tryd.results34, go_sem, q0, q1, q2, q3, q4]
        · repeat (first | exact BB.out | refine Below.setCell ?_ (Nat.le_refl w.heap.size) _)
      · have d1 : ((t : Int) == (k : Int) + 1) = false := beq_eq_false_iff_ne.2 (by omega)
        by_cases h2 : k + 9 < t
        · have d2 : decide ((k : Int) + 9 < t) = true := decide_eq_true (by omega)
          rw [if_pos (by omega)] at NP
          clear h1
          have RX := Lib.hid (refbad_any k t 80 wr)
          generalize badS k t = x at *
          go_wp2_with fail
          refine RX.out.mono ?_
          rintro e w1 ⟨rfl, hb1⟩
          have Q1 := Lib.hid (Q.out.below hb1 hZ)
          have BB := Lib.hid (B.out.trans (hb1.mono (Nat.le_of_lt hZ)))
          clear hb1
          have q0 : w1.cell? ⟨w.heap.size, 0, none⟩ = some (.int .i64 0) := Q1.out.cell 0
          have q1 : w1.cell? ⟨w.heap.size, 1, none⟩ = some (.int .i64 0) := Q1.out.cell 1
          have q2 : w1.cell? ⟨w.heap.size, 2, none⟩ = some (.int .i64 0) := Q1.out.cell 2
          have q3 : w1.cell? ⟨w.heap.size, 3, none⟩ = some (.string ⟨#[]⟩) := Q1.out.cell 3
          have q4 : w1.cell? ⟨w.heap.size, 4, none⟩ = some (.int .i32 0) := Q1.out.cell 4
          have f0 := Q1.out.free 0
          have f1 := Q1.out.free 1
          have f2 := Q1.out.free 2
          have f3 := Q1.out.free 3
          have f4 := Q1.out.free 4
          go_wp2_with fail
          refine bodyPost_ret (v := .tuple #[sgnV x, .int .i64 80]) ?_ rfl ⟨by rw [NP.out], ?_⟩
          · simp [results, Tryd.results34, go_sem, q0, q1, q2, q3, q4]
          · repeat (first | exact BB.out | refine Below.setCell ?_ (Nat.le_refl w.heap.size) _)
        · have d2 : decide ((k : Int) + 9 < t) = false := decide_eq_false (by omega)
          rw [if_neg (by omega)] at NP
          have hkl : k ≤ t := by omega
          have S32 := sgn32_wrap n hn0 hn
          have q0 : wr.cell? ⟨w.heap.size, 0, none⟩ = some (.int .i64 0) := Q.out.cell 0
          have q1 : wr.cell? ⟨w.heap.size, 1, none⟩ = some (.int .i64 0) := Q.out.cell 1
          have q2 : wr.cell? ⟨w.heap.size, 2, none⟩ = some (.int .i64 0) := Q.out.cell 2
          have q3 : wr.cell? ⟨w.heap.size, 3, none⟩ = some (.string ⟨#[]⟩) := Q.out.cell 3
          have q4 : wr.cell? ⟨w.heap.size, 4, none⟩ = some (.int .i32 0) := Q.out.cell 4
          have f0 := Q.out.free 0
          have f1 := Q.out.free 1
          have f2 := Q.out.free 2
          have f3 := Q.out.free 3
          have f4 := Q.out.free 4
          go_wp2_with fail
          refine bodyPost_ret (v := .tuple #[sgnV ⟨2, k, t, s.extract k t, sgn32 n⟩, .int .i64 0]) ?_ rfl ⟨by rw [NP.out], ?_⟩
          · simp [results, Tryd.results34, go_sem, q0, q1, q2, q3, q4, S32]
          · repeat (first | exact B.out | refine Below.setCell ?_ (Nat.le_refl w.heap.size) _)

end Go.Proofs.YtbkagnhficmdhaaDoor
