/- Scan: the answers' Next: marks; all. -/
import Derived.Test.YtbkagnhficmdhaaDoorScnV2
import Derived.Test.YtbkagnhficmdhaaDoorScnV3
namespace Go.Proofs.YtbkagnhficmdhaaDoor
open Go.ChangeShapes Go.WideShapes Go.ChangeAt Go.RowKit
set_option linter.unusedVariables false
set_option linter.unusedSimpArgs false

abbrev mrkS : ByteArray := ⟨#[43, 45, 42, 61, 35, 60, 62, 40, 41, 91, 93, 46, 44, 59, 58, 94, 124]⟩

theorem mrkS_get {k : Nat} (hk : k < 17) : (mrkS[k]'hk).toNat = markRow.getD k 0 := by
  rcases (show k = 0 ∨ k = 1 ∨ k = 2 ∨ k = 3 ∨ k = 4 ∨ k = 5 ∨ k = 6 ∨ k = 7 ∨ k = 8 ∨ k = 9 ∨ k = 10 ∨ k = 11 ∨ k = 12 ∨ k = 13 ∨ k = 14 ∨ k = 15 ∨ k = 16 by omega) with h | h | h | h | h | h | h | h | h | h | h | h | h | h | h | h | h <;> (subst h; rfl)

theorem index_mrkS {P : Program} (t : TypeId) (k : IntKind) (h : P.underlying t = some .string) (m : Nat) (hm : m < 17) (w : World) :
    (Instr.index t (.string mrkS) (.int k m)).run P w = .ok (.int .u8 ((markRow.getD m 0 : Nat) : Int)) w := by
  rw [run_index_string w t mrkS k m h, dif_pos ⟨by omega, by show (m : Int) < 17; omega⟩]
  congr 2
  rw [← mrkS_get hm]
  rfl

theorem markRow_lt {m : Nat} (hm : m < 17) : markRow.getD m 0 < 256 := by
  rw [← mrkS_get hm]
  exact UInt8.toNat_lt _

theorem marks_hit {m b : Nat} (hm : m < 17) (h : markRow.getD m 0 = b) : markRow.contains b = true := by
  rw [List.contains_iff_mem]
  subst h
  rw [List.getD_eq_getElem?_getD, List.getElem?_eq_getElem (show m < markRow.length from hm)]
  exact List.getElem_mem _

theorem marks_miss {b : Nat} (h : ∀ j, j < 17 → markRow.getD j 0 ≠ b) : markRow.contains b = false := by
  cases hc : markRow.contains b
  · rfl
  · rw [List.contains_iff_mem] at hc
    obtain ⟨j, hj, e⟩ := List.getElem_of_mem hc
    refine absurd ?_ (h j hj)
    rw [List.getD_eq_getElem?_getD, List.getElem?_eq_getElem hj]
    exact e

set_option maxHeartbeats 8000000 in
set_option maxRecDepth 100000 in
theorem refnext_mark (s : ByteArray) (k f : Nat) (w : World) (hs : s.size ≤ 1000000) (hk : k ≤ s.size) (hlt : f < s.size) (hB : blanksP s k = (f, true)) (hL : letN (byN s f) = false) (hD : digN (byN s f) = false) (h36 : byN s f ≠ 36) (h39 : byN s f ≠ 39) (h34 : byN s f ≠ 34) : Calls Tryd.prog 14 #[.string s, .int .i64 k] w (SgnPost w (signP s f)) := by
  have BL := Lib.hid (refblanks_any s k (w.alloc (.cells #[.int .i64 0, .int .i64 0, .int .i64 0, .string ⟨#[]⟩, .int .i32 0] rsT)) hs hk)
  rw [hB] at BL
  clear hB
  have B := Lib.hid ((Below.refl w.heap.size w).alloc (Nat.le_refl _) (.cells #[.int .i64 0, .int .i64 0, .int .i64 0, .string ⟨#[]⟩, .int .i32 0] rsT))
  have Q := Lib.hid (Whole.made w rsT #[.int .i64 0, .int .i64 0, .int .i64 0, .string ⟨#[]⟩, .int .i32 0] _ rfl)
  have hZ : w.heap.size < (w.alloc (.cells #[.int .i64 0, .int .i64 0, .int .i64 0, .string ⟨#[]⟩, .int .i32 0] rsT)).heap.size := by simp
  have hltI : (f : Int) < s.size := by omega
  have dE : ((f : Int) == s.size) = false := beq_eq_false_iff_ne.2 (by omega)
  have g1 : s[f].toNat = byN s f := (byN_get hlt).symm
  have k1 := byN_lt s f
  have CL := Lib.hid (fun W => reflet_any (byN s f) W)
  have CD := Lib.hid (fun W => refdig_any (byN s f) W)
  unfold SgnPost
  have NP := Lib.hid (show signP s f = if twoP s f 58 61 = true ∨ twoP s f 60 61 = true ∨ twoP s f 62 61 = true then (⟨6, f, f + 2, s.extract f (f + 2), 0⟩, 0) else if markRow.contains (byN s f) = true then (⟨6, f, f + 1, s.extract f (f + 1), 0⟩, 0) else (badS f (f + 1), 83) by unfold signP; rw [if_neg (by rw [hL]; decide), if_neg (by rw [hD]; decide), if_neg h36, if_neg h39, if_neg h34])
  generalize signP s f = p at *
  have e36 : ((byN s f : Int) == 36) = false := beq_eq_false_iff_ne.2 (by omega)
  have e39 : ((byN s f : Int) == 39) = false := beq_eq_false_iff_ne.2 (by omega)
  have e34 : ((byN s f : Int) == 34) = false := beq_eq_false_iff_ne.2 (by omega)
  clear h34 h36 h39
  rw [hL] at CL
  rw [hD] at CD
  clear hL hD
  have T1 := Lib.hid (fun W => show Calls Tryd.prog 35 #[.string s, .int .i64 f, .int .u8 58, .int .u8 61] W fun e w' => e = .returned (.bool (twoP s f 58 61)) ∧ W = w' from reftwo_any s f 58 61 W hs (by omega))
  have T2 := Lib.hid (fun W => show Calls Tryd.prog 35 #[.string s, .int .i64 f, .int .u8 60, .int .u8 61] W fun e w' => e = .returned (.bool (twoP s f 60 61)) ∧ W = w' from reftwo_any s f 60 61 W hs (by omega))
  have T3 := Lib.hid (fun W => show Calls Tryd.prog 35 #[.string s, .int .i64 f, .int .u8 62, .int .u8 61] W fun e w' => e = .returned (.bool (twoP s f 62 61)) ∧ W = w' from reftwo_any s f 62 61 W hs (by omega))
  have S2 : twoP s f 58 61 = true ∨ twoP s f 60 61 = true ∨ twoP s f 62 61 = true → f + 2 ≤ s.size := fun h => by
    rcases h with h | h | h <;> exact twoP_lt h
  generalize byN s f = b at *
  generalize twoP s f 58 61 = t1 at *
  generalize twoP s f 60 61 = t2 at *
  generalize twoP s f 62 61 = t3 at *
  by_cases ht : t1 = true ∨ t2 = true ∨ t3 = true
  · have hf2 := S2 ht
    rw [if_pos ht] at NP
    have hsl : ∀ W, (Instr.slice 9 (.string s) (some (.int .i64 ((f : Int)))) (some (.int .i64 ((f : Int) + 2))) none).run Tryd.prog W = .ok (.string (s.extract (f) (f + 2))) W := fun W => by
      have h1 := run_slice_string W 9 s .i64 .i64 ((f : Int)) ((f : Int) + 2) Tryd.underlying9 (by omega) (by omega) (by omega)
      rw [show (((f : Int)) : Int).toNat = f by omega, show (((f : Int) + 2) : Int).toNat = f + 2 by omega] at h1
      exact h1
    cases t1
    · cases t2
      · cases t3
        · rcases ht with h | h | h <;> cases h
        · clear ht S2
          go_enter Tryd.func14, Tryd.ntmps14
          go_wp2_with fail
          refine BL.out.mono ?_
          rintro e w1 ⟨rfl, rfl⟩
          go_wp2_with fail
          generalize (w.alloc (.cells #[.int .i64 0, .int .i64 0, .int .i64 0, .string ⟨#[]⟩, .int .i32 0] rsT)) = W at *
          refine (CL.out _).mono ?_
          rintro e w1 ⟨rfl, rfl⟩
          go_wp2_with fail
          refine (CD.out _).mono ?_
          rintro e w1 ⟨rfl, rfl⟩
          go_wp2_with fail
          refine (T1.out _).mono ?_
          rintro e w1 ⟨rfl, rfl⟩
          go_wp2_with fail
          refine (T2.out _).mono ?_
          rintro e w1 ⟨rfl, rfl⟩
          go_wp2_with fail
          refine (T3.out _).mono ?_
          rintro e w1 ⟨rfl, rfl⟩
          have q0 : W.cell? ⟨w.heap.size, 0, none⟩ = some (.int .i64 0) := Q.out.cell 0
          have q1 : W.cell? ⟨w.heap.size, 1, none⟩ = some (.int .i64 0) := Q.out.cell 1
          have q2 : W.cell? ⟨w.heap.size, 2, none⟩ = some (.int .i64 0) := Q.out.cell 2
          have q3 : W.cell? ⟨w.heap.size, 3, none⟩ = some (.string ⟨#[]⟩) := Q.out.cell 3
          have q4 : W.cell? ⟨w.heap.size, 4, none⟩ = some (.int .i32 0) := Q.out.cell 4
          have f0 := Q.out.free 0
          have f1 := Q.out.free 1
          have f2 := Q.out.free 2
          have f3 := Q.out.free 3
          have f4 := Q.out.free 4
          go_wp2_with fail
          refine bodyPost_ret (v := .tuple #[sgnV ⟨6, f, f + 2, s.extract f (f + 2), 0⟩, .int .i64 0]) ?_ rfl ⟨by rw [NP.out], ?_⟩
          · simp [results, Tryd.results14, go_sem, q0, q1, q2, q3, q4]
          · repeat (first | exact B.out | refine Below.drew ?_ | refine Below.setCell ?_ (Nat.le_refl w.heap.size) _)
      · clear ht S2
        go_enter Tryd.func14, Tryd.ntmps14
        go_wp2_with fail
        refine BL.out.mono ?_
        rintro e w1 ⟨rfl, rfl⟩
        go_wp2_with fail
        generalize (w.alloc (.cells #[.int .i64 0, .int .i64 0, .int .i64 0, .string ⟨#[]⟩, .int .i32 0] rsT)) = W at *
        refine (CL.out _).mono ?_
        rintro e w1 ⟨rfl, rfl⟩
        go_wp2_with fail
        refine (CD.out _).mono ?_
        rintro e w1 ⟨rfl, rfl⟩
        go_wp2_with fail
        refine (T1.out _).mono ?_
        rintro e w1 ⟨rfl, rfl⟩
        go_wp2_with fail
        refine (T2.out _).mono ?_
        rintro e w1 ⟨rfl, rfl⟩
        have q0 : W.cell? ⟨w.heap.size, 0, none⟩ = some (.int .i64 0) := Q.out.cell 0
        have q1 : W.cell? ⟨w.heap.size, 1, none⟩ = some (.int .i64 0) := Q.out.cell 1
        have q2 : W.cell? ⟨w.heap.size, 2, none⟩ = some (.int .i64 0) := Q.out.cell 2
        have q3 : W.cell? ⟨w.heap.size, 3, none⟩ = some (.string ⟨#[]⟩) := Q.out.cell 3
        have q4 : W.cell? ⟨w.heap.size, 4, none⟩ = some (.int .i32 0) := Q.out.cell 4
        have f0 := Q.out.free 0
        have f1 := Q.out.free 1
        have f2 := Q.out.free 2
        have f3 := Q.out.free 3
        have f4 := Q.out.free 4
        go_wp2_with fail
        refine bodyPost_ret (v := .tuple #[sgnV ⟨6, f, f + 2, s.extract f (f + 2), 0⟩, .int .i64 0]) ?_ rfl ⟨by rw [NP.out], ?_⟩
        · simp [results, Tryd.results14, go_sem, q0, q1, q2, q3, q4]
        · repeat (first | exact B.out | refine Below.drew ?_ | refine Below.setCell ?_ (Nat.le_refl w.heap.size) _)
    · clear ht S2
      go_enter Tryd.func14, Tryd.ntmps14
      go_wp2_with fail
      refine BL.out.mono ?_
      rintro e w1 ⟨rfl, rfl⟩
      go_wp2_with fail
      generalize (w.alloc (.cells #[.int .i64 0, .int .i64 0, .int .i64 0, .string ⟨#[]⟩, .int .i32 0] rsT)) = W at *
      refine (CL.out _).mono ?_
      rintro e w1 ⟨rfl, rfl⟩
      go_wp2_with fail
      refine (CD.out _).mono ?_
      rintro e w1 ⟨rfl, rfl⟩
      go_wp2_with fail
      refine (T1.out _).mono ?_
      rintro e w1 ⟨rfl, rfl⟩
      have q0 : W.cell? ⟨w.heap.size, 0, none⟩ = some (.int .i64 0) := Q.out.cell 0
      have q1 : W.cell? ⟨w.heap.size, 1, none⟩ = some (.int .i64 0) := Q.out.cell 1
      have q2 : W.cell? ⟨w.heap.size, 2, none⟩ = some (.int .i64 0) := Q.out.cell 2
      have q3 : W.cell? ⟨w.heap.size, 3, none⟩ = some (.string ⟨#[]⟩) := Q.out.cell 3
      have q4 : W.cell? ⟨w.heap.size, 4, none⟩ = some (.int .i32 0) := Q.out.cell 4
      have f0 := Q.out.free 0
      have f1 := Q.out.free 1
      have f2 := Q.out.free 2
      have f3 := Q.out.free 3
      have f4 := Q.out.free 4
      go_wp2_with fail
      refine bodyPost_ret (v := .tuple #[sgnV ⟨6, f, f + 2, s.extract f (f + 2), 0⟩, .int .i64 0]) ?_ rfl ⟨by rw [NP.out], ?_⟩
      · simp [results, Tryd.results14, go_sem, q0, q1, q2, q3, q4]
      · repeat (first | exact B.out | refine Below.drew ?_ | refine Below.setCell ?_ (Nat.le_refl w.heap.size) _)
  · rw [if_neg ht] at NP
    obtain ⟨rfl, rfl, rfl⟩ : t1 = false ∧ t2 = false ∧ t3 = false := by
      cases t1 <;> cases t2 <;> cases t3 <;> simp at ht ⊢
    clear ht S2
    go_enter Tryd.func14, Tryd.ntmps14
    go_wp2_with fail
    refine BL.out.mono ?_
    rintro e w1 ⟨rfl, rfl⟩
    go_wp2_with fail
    generalize (w.alloc (.cells #[.int .i64 0, .int .i64 0, .int .i64 0, .string ⟨#[]⟩, .int .i32 0] rsT)) = W at *
    refine (CL.out _).mono ?_
    rintro e w1 ⟨rfl, rfl⟩
    go_wp2_with fail
    refine (CD.out _).mono ?_
    rintro e w1 ⟨rfl, rfl⟩
    go_wp2_with fail
    refine (T1.out _).mono ?_
    rintro e w1 ⟨rfl, rfl⟩
    go_wp2_with fail
    refine (T2.out _).mono ?_
    rintro e w1 ⟨rfl, rfl⟩
    go_wp2_with fail
    refine (T3.out _).mono ?_
    rintro e w1 ⟨rfl, rfl⟩
    go_wp2_with fail
    go_loop [11] (fun i => ∃ m : Nat, m ≤ 17 ∧ i = .int .i64 m ∧ ∀ j, j < m → markRow.getD j 0 ≠ b) (fun i => 17 - (intOf i).toNat)
    case atStart => exact ⟨0, Nat.zero_le _, rfl, fun j h => absurd h (Nat.not_lt_zero j)⟩
    case round =>
      obtain ⟨m, hm, rfl, hno⟩ := hrel
      have HN := Lib.hid hno
      clear hno
      by_cases hmlt : m < 17
      · have hik := fun W : World => index_mrkS (P := Tryd.prog) 9 .i64 Tryd.underlying9 m hmlt W
        unfold mrkS at hik
        have hrl := markRow_lt hmlt
        by_cases hc : markRow.getD m 0 = b
        · have hct := marks_hit hmlt hc
          rw [if_pos hct] at NP
          have he : (((markRow.getD m 0 : Nat) : Int) == (b : Int)) = true := beq_iff_eq.2 (by omega)
          clear hct
          generalize markRow.getD m 0 = hr at *
          clear hc
          have hsl : ∀ W, (Instr.slice 9 (.string s) (some (.int .i64 ((f : Int)))) (some (.int .i64 ((f : Int) + 1))) none).run Tryd.prog W = .ok (.string (s.extract (f) (f + 1))) W := fun W => by
            have h1 := run_slice_string W 9 s .i64 .i64 ((f : Int)) ((f : Int) + 1) Tryd.underlying9 (by omega) (by omega) (by omega)
            rw [show (((f : Int)) : Int).toNat = f by omega, show (((f : Int) + 1) : Int).toNat = f + 1 by omega] at h1
            exact h1
          have q0 : W.cell? ⟨w.heap.size, 0, none⟩ = some (.int .i64 0) := Q.out.cell 0
          have q1 : W.cell? ⟨w.heap.size, 1, none⟩ = some (.int .i64 0) := Q.out.cell 1
          have q2 : W.cell? ⟨w.heap.size, 2, none⟩ = some (.int .i64 0) := Q.out.cell 2
          have q3 : W.cell? ⟨w.heap.size, 3, none⟩ = some (.string ⟨#[]⟩) := Q.out.cell 3
          have q4 : W.cell? ⟨w.heap.size, 4, none⟩ = some (.int .i32 0) := Q.out.cell 4
          have f0 := Q.out.free 0
          have f1 := Q.out.free 1
          have f2 := Q.out.free 2
          have f3 := Q.out.free 3
          have f4 := Q.out.free 4
          go_wp2_with fail
          refine bodyPost_ret (v := .tuple #[sgnV ⟨6, f, f + 1, s.extract f (f + 1), 0⟩, .int .i64 0]) ?_ rfl ⟨by rw [NP.out], ?_⟩
          · simp [results, Tryd.results14, go_sem, q0, q1, q2, q3, q4]
          · repeat (first | exact B.out | refine Below.drew ?_ | refine Below.setCell ?_ (Nat.le_refl w.heap.size) _)
        · have he : (((markRow.getD m 0 : Nat) : Int) == (b : Int)) = false := beq_eq_false_iff_ne.2 (by omega)
          have HM := Lib.hid (show ∀ j, j < m + 1 → markRow.getD j 0 ≠ b from fun j hj => by
            rcases Nat.lt_or_ge j m with h | h
            · exact HN.out j h
            · rw [show j = m by omega]; exact hc)
          clear HN hc
          generalize markRow.getD m 0 = hr at *
          go_wp2_with fail
          go_round
          case rel => exact ⟨m + 1, by omega, by go_num, HM.out⟩
          case measure => simp [intOf]; omega
      · obtain rfl : m = 17 := by omega
        rw [if_neg (by rw [marks_miss HN.out]; decide)] at NP
        clear HN
        have RX := Lib.hid (fun W => show Calls Tryd.prog 30 #[.int .i64 f, .int .i64 ((f : Int) + 1), .int .i64 83] W fun e' w' => e' = .returned (.tuple #[sgnV (badS f (f + 1)), .int .i64 83]) ∧ Below W.heap.size W w' from refbad_any f (f + 1) 83 W)
        generalize badS f (f + 1) = x at *
        go_wp2_with fail
        refine (RX.out _).mono ?_
        rintro e w1 ⟨rfl, hb1⟩
        have Q1 := Lib.hid (Q.out.below hb1 hZ)
        have BB := Lib.hid (B.out.trans (hb1.mono (Nat.le_of_lt hZ)))
        clear hb1
        have q0 : w1.cell? ⟨w.heap.size, 0, none⟩ = some (.int .i64 0) := Q1.out.cell 0
        have q1 : w1.cell? ⟨w.heap.size, 1, none⟩ = some (.int .i64 0) := Q1.out.cell 1
        have q2 : w1.cell? ⟨w.heap.size, 2, none⟩ = some (.int .i64 0) := Q1.out.cell 2
        have q3 : w1.cell? ⟨w.heap.size, 3, none⟩ = some (.string ⟨#[]⟩) := Q1.out.cell 3
        have q4 : w1.cell? ⟨w.heap.size, 4, none⟩ = some (.int .i32 0) := Q1.out.cell 4
        have f0 := Q1.out.free 0
        have f1 := Q1.out.free 1
        have f2 := Q1.out.free 2
        have f3 := Q1.out.free 3
        have f4 := Q1.out.free 4
        go_wp2_with fail
        refine bodyPost_ret (v := .tuple #[sgnV x, .int .i64 83]) ?_ rfl ⟨by rw [NP.out], ?_⟩
        · simp [results, Tryd.results14, go_sem, q0, q1, q2, q3, q4]
        · repeat (first | exact BB.out | refine Below.setCell ?_ (Nat.le_refl w.heap.size) _)

theorem refnext_any (s : ByteArray) (k : Nat) (w : World) (hs : s.size ≤ 1000000) (hk : k ≤ s.size) : Calls Tryd.prog 14 #[.string s, .int .i64 k] w (SgnPost w (nextP s k)) := by
  have hbd := blanks_bound hk
  rcases hB : blanksP s k with ⟨f, cl⟩
  rw [hB] at hbd
  cases cl
  · have e : nextP s k = (badS k s.size, 81) := by unfold nextP; rw [hB]; rfl
    rw [e]
    exact refnext_remark s k f w hs hk hB
  · by_cases hfe : f = s.size
    · have e : nextP s k = (⟨0, s.size, s.size, ⟨#[]⟩, 0⟩, 0) := by unfold nextP; rw [hB, if_neg (fun h => Bool.noConfusion h), if_pos hfe]
      rw [e]
      exact refnext_end s k f w hs hk hB hfe
    · have e : nextP s k = signP s f := by unfold nextP; rw [hB, if_neg (fun h => Bool.noConfusion h), if_neg hfe]
      have hlt : f < s.size := by have := hbd.2; omega
      rw [e]
      cases hL : letN (byN s f)
      · cases hD : digN (byN s f)
        · by_cases h36 : byN s f = 36
          · exact refnext_hex s k f w hs hk hlt hB hL hD h36
          · by_cases h39 : byN s f = 39
            · exact refnext_letter s k f w hs hk hlt hB hL hD h39
            · by_cases h34 : byN s f = 34
              · exact refnext_text s k f w hs hk hlt hB hL hD h34
              · exact refnext_mark s k f w hs hk hlt hB hL hD h36 h39 h34
        · exact refnext_num s k f w hs hk hlt hB hL hD
      · exact refnext_name s k f w hs hk hlt hB hL
end Go.Proofs.YtbkagnhficmdhaaDoor
