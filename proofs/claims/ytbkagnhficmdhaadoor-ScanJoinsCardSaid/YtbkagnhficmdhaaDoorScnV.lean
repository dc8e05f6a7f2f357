/- Scan: the answers' Next: a remark without an end, the end, numbers, letters. -/
import Derived.Test.YtbkagnhficmdhaaDoorScnE2
import Derived.Test.YtbkagnhficmdhaaDoorScnC
import Derived.Test.YtbkagnhficmdhaaDoorScnT
import Derived.BigQuiet
import Derived.Deep.QuietTactic
import Derived.BigRegion
namespace Go.Proofs.YtbkagnhficmdhaaDoor
open Go.ChangeShapes Go.WideShapes Go.ChangeAt Go.RowKit
set_option linter.unusedVariables false
set_option linter.unusedSimpArgs false
set_option maxHeartbeats 8000000 in
set_option maxRecDepth 100000 in
theorem refnext_remark (s : ByteArray) (k f : Nat) (w : World) (hs : s.size ≤ 1000000) (hk : k ≤ s.size) (hB : blanksP s k = (f, false)) : Calls Tryd.prog 14 #[.string s, .int .i64 k] w (SgnPost w (badS k s.size, 81)) := by
  have BL := Lib.hid (refblanks_any s k (w.alloc (.cells #[.int .i64 0, .int .i64 0, .int .i64 0, .string ⟨#[]⟩, .int .i32 0] rsT)) hs hk)
  rw [hB] at BL
  clear hB
  have B := Lib.hid ((Below.refl w.heap.size w).alloc (Nat.le_refl _) (.cells #[.int .i64 0, .int .i64 0, .int .i64 0, .string ⟨#[]⟩, .int .i32 0] rsT))
  have Q := Lib.hid (Whole.made w rsT #[.int .i64 0, .int .i64 0, .int .i64 0, .string ⟨#[]⟩, .int .i32 0] _ rfl)
  have hZ : w.heap.size < (w.alloc (.cells #[.int .i64 0, .int .i64 0, .int .i64 0, .string ⟨#[]⟩, .int .i32 0] rsT)).heap.size := by simp
  unfold SgnPost
  have RX := Lib.hid (fun W => show Calls Tryd.prog 30 #[.int .i64 k, .int .i64 s.size, .int .i64 81] W fun e w' => e = .returned (.tuple #[sgnV (badS k s.size), .int .i64 81]) ∧ Below W.heap.size W w' from refbad_any k s.size 81 W)
  generalize badS k s.size = x at *
  have NP := Lib.hid (rfl : x = x)
  go_enter Tryd.func14, Tryd.ntmps14
  go_wp2_with fail
  refine BL.out.mono ?_
  rintro e w1 ⟨rfl, rfl⟩
  go_wp2_with fail
  generalize (w.alloc (.cells #[.int .i64 0, .int .i64 0, .int .i64 0, .string ⟨#[]⟩, .int .i32 0] rsT)) = W at *
  refine (RX.out _).mono ?_
  rintro e w1 ⟨rfl, hb1⟩
  have Q1 := Lib.hid (Q.out.below hb1 hZ)
  have BB := Lib.hid (B.out.trans (hb1.mono (Nat.le_of_lt hZ)))
  clear hb1
  have q0 : w1.cell? ⟨w.heap.size, 0, none⟩ = some (.int .i64 0) := Q1.out.cell 0
  have q1 : w1.cell? ⟨w.heap.size, 1, none⟩ = some (.int .i64 0) := Q1.out.cell 1
  have q2 : w1.cell? ⟨w.heap.size, 2, none⟩ = some (.int .i64 0) := Q1.out.cell 2
  have q3 : w1.cell? ⟨w.heap.size, 3, none⟩ = some (.string ⟨#[]⟩) := Q1.out.cell 3
  have q4 : w1.cell? ⟨w.heap.size, 4, none⟩ = some (.int .i32 0) := Q1.out.cell 4
  have f0 := Q1.out.free 0
  have f1 := Q1.out.free 1
  have f2 := Q1.out.free 2
  have f3 := Q1.out.free 3
  have f4 := Q1.out.free 4
  go_wp2_with fail
  refine bodyPost_ret (v := .tuple #[sgnV x, .int .i64 81]) ?_ rfl ⟨rfl, ?_⟩
  · simp [results, Tryd.results14, go_sem, q0, q1, q2, q3, q4]
  · repeat (first | exact BB.out | refine Below.setCell ?_ (Nat.le_refl w.heap.size) _)

set_option maxHeartbeats 8000000 in
set_option maxRecDepth 100000 in
theorem refnext_end (s : ByteArray) (k f : Nat) (w : World) (hs : s.size ≤ 1000000) (hk : k ≤ s.size) (hB : blanksP s k = (f, true)) (hfe : f = s.size) : Calls Tryd.prog 14 #[.string s, .int .i64 k] w (SgnPost w (⟨0, s.size, s.size, ⟨#[]⟩, 0⟩, 0)) := by
  have BL := Lib.hid (refblanks_any s k (w.alloc (.cells #[.int .i64 0, .int .i64 0, .int .i64 0, .string ⟨#[]⟩, .int .i32 0] rsT)) hs hk)
  rw [hB, hfe] at BL
  clear hB hfe
  have dE : ((s.size : Int) == s.size) = true := beq_iff_eq.2 rfl
  have BE := Lib.hid ((Below.refl w.heap.size w).alloc (Nat.le_refl _) (.cells #[.int .i64 0, .int .i64 s.size, .int .i64 s.size, .string ⟨#[]⟩, .int .i32 0] rsT))
  have QE := Whole.made w rsT #[.int .i64 0, .int .i64 s.size, .int .i64 s.size, .string ⟨#[]⟩, .int .i32 0] _ rfl
  have q0 := QE.cell 0
  have q1 := QE.cell 1
  have q2 := QE.cell 2
  have q3 := QE.cell 3
  have q4 := QE.cell 4
  clear QE
  unfold SgnPost
  go_enter Tryd.func14, Tryd.ntmps14
  go_wp2_with fail
  refine BL.out.mono ?_
  rintro e w1 ⟨rfl, rfl⟩
  go_wp2_with fail
  refine bodyPost_ret (v := .tuple #[sgnV ⟨0, s.size, s.size, ⟨#[]⟩, 0⟩, .int .i64 0]) ?_ rfl ⟨rfl, BE.out⟩
  simp [results, Tryd.results14, go_sem, q0, q1, q2, q3, q4]

set_option maxHeartbeats 8000000 in
set_option maxRecDepth 100000 in
theorem refnext_num (s : ByteArray) (k f : Nat) (w : World) (hs : s.size ≤ 1000000) (hk : k ≤ s.size) (hlt : f < s.size) (hB : blanksP s k = (f, true)) (hL : letN (byN s f) = false) (hD : digN (byN s f) = true) : Calls Tryd.prog 14 #[.string s, .int .i64 k] w (SgnPost w (signP s f)) := by
  have BL := Lib.hid (refblanks_any s k (w.alloc (.cells #[.int .i64 0, .int .i64 0, .int .i64 0, .string ⟨#[]⟩, .int .i32 0] rsT)) hs hk)
  rw [hB] at BL
  clear hB
  have B := Lib.hid ((Below.refl w.heap.size w).alloc (Nat.le_refl _) (.cells #[.int .i64 0, .int .i64 0, .int .i64 0, .string ⟨#[]⟩, .int .i32 0] rsT))
  have Q := Lib.hid (Whole.made w rsT #[.int .i64 0, .int .i64 0, .int .i64 0, .string ⟨#[]⟩, .int .i32 0] _ rfl)
  have hZ : w.heap.size < (w.alloc (.cells #[.int .i64 0, .int .i64 0, .int .i64 0, .string ⟨#[]⟩, .int .i32 0] rsT)).heap.size := by simp
  have hltI : (f : Int) < s.size := by omega
  have dE : ((f : Int) == s.size) = false := beq_eq_false_iff_ne.2 (by omega)
  have g1 : s[f].toNat = byN s f := (byN_get hlt).symm
  have k1 := byN_lt s f
  have CL := Lib.hid (fun W => reflet_any (byN s f) W)
  have CD := Lib.hid (fun W => refdig_any (byN s f) W)
  unfold SgnPost
  have NP := Lib.hid (show signP s f = numP s f by unfold signP; rw [if_neg (by rw [hL]; decide), if_pos hD])
  generalize signP s f = p at *
  generalize byN s f = b at *
  rw [hL] at CL
  rw [hD] at CD
  rcases hp : numP s f with ⟨x, c⟩
  rw [hp] at NP
  have RX := Lib.hid (fun (W : World) => show Calls Tryd.prog 33 #[.string s, .int .i64 f] W fun e w' => e = .returned (.tuple #[sgnV x, .int .i64 c]) ∧ Below W.heap.size W w' from by have h := refnumber_any s f W hs (by omega); rw [hp] at h; exact h)
  clear hp hL hD
  go_enter Tryd.func14, Tryd.ntmps14
  go_wp2_with fail
  refine BL.out.mono ?_
  rintro e w1 ⟨rfl, rfl⟩
  go_wp2_with fail
  generalize (w.alloc (.cells #[.int .i64 0, .int .i64 0, .int .i64 0, .string ⟨#[]⟩, .int .i32 0] rsT)) = W at *
  refine (CL.out _).mono ?_
  rintro e w1 ⟨rfl, rfl⟩
  go_wp2_with fail
  refine (CD.out _).mono ?_
  rintro e w1 ⟨rfl, rfl⟩
  go_wp2_with fail
  refine (RX.out _).mono ?_
  rintro e w1 ⟨rfl, hb1⟩
  have Q1 := Lib.hid (Q.out.below hb1 hZ)
  have BB := Lib.hid (B.out.trans (hb1.mono (Nat.le_of_lt hZ)))
  clear hb1
  have q0 : w1.cell? ⟨w.heap.size, 0, none⟩ = some (.int .i64 0) := Q1.out.cell 0
  have q1 : w1.cell? ⟨w.heap.size, 1, none⟩ = some (.int .i64 0) := Q1.out.cell 1
  have q2 : w1.cell? ⟨w.heap.size, 2, none⟩ = some (.int .i64 0) := Q1.out.cell 2
  have q3 : w1.cell? ⟨w.heap.size, 3, none⟩ = some (.string ⟨#[]⟩) := Q1.out.cell 3
  have q4 : w1.cell? ⟨w.heap.size, 4, none⟩ = some (.int .i32 0) := Q1.out.cell 4
  have f0 := Q1.out.free 0
  have f1 := Q1.out.free 1
  have f2 := Q1.out.free 2
  have f3 := Q1.out.free 3
  have f4 := Q1.out.free 4
  go_wp2_with fail
  refine bodyPost_ret (v := .tuple #[sgnV x, .int .i64 c]) ?_ rfl ⟨by rw [NP.out], ?_⟩
  · simp [results, Tryd.results14, go_sem, q0, q1, q2, q3, q4]
  · repeat (first | exact BB.out | refine Below.setCell ?_ (Nat.le_refl w.heap.size) _)

set_option maxHeartbeats 8000000 in
set_option maxRecDepth 100000 in
theorem refnext_hex (s : ByteArray) (k f : Nat) (w : World) (hs : s.size ≤ 1000000) (hk : k ≤ s.size) (hlt : f < s.size) (hB : blanksP s k = (f, true)) (hL : letN (byN s f) = false) (hD : digN (byN s f) = false) (h36 : byN s f = 36) : Calls Tryd.prog 14 #[.string s, .int .i64 k] w (SgnPost w (signP s f)) := by
  have BL := Lib.hid (refblanks_any s k (w.alloc (.cells #[.int .i64 0, .int .i64 0, .int .i64 0, .string ⟨#[]⟩, .int .i32 0] rsT)) hs hk)
  rw [hB] at BL
  clear hB
  have B := Lib.hid ((Below.refl w.heap.size w).alloc (Nat.le_refl _) (.cells #[.int .i64 0, .int .i64 0, .int .i64 0, .string ⟨#[]⟩, .int .i32 0] rsT))
  have Q := Lib.hid (Whole.made w rsT #[.int .i64 0, .int .i64 0, .int .i64 0, .string ⟨#[]⟩, .int .i32 0] _ rfl)
  have hZ : w.heap.size < (w.alloc (.cells #[.int .i64 0, .int .i64 0, .int .i64 0, .string ⟨#[]⟩, .int .i32 0] rsT)).heap.size := by simp
  have hltI : (f : Int) < s.size := by omega
  have dE : ((f : Int) == s.size) = false := beq_eq_false_iff_ne.2 (by omega)
  have g1 : s[f].toNat = byN s f := (byN_get hlt).symm
  have k1 := byN_lt s f
  have CL := Lib.hid (fun W => reflet_any (byN s f) W)
  have CD := Lib.hid (fun W => refdig_any (byN s f) W)
  unfold SgnPost
  have NP := Lib.hid (show signP s f = hexP s f by unfold signP; rw [if_neg (by rw [hL]; decide), if_neg (by rw [hD]; decide), if_pos h36])
  generalize signP s f = p at *
  have e36 : ((byN s f : Int) == 36) = true := beq_iff_eq.2 (by omega)
  clear h36
  generalize byN s f = b at *
  rw [hL] at CL
  rw [hD] at CD
  rcases hp : hexP s f with ⟨x, c⟩
  rw [hp] at NP
  have RX := Lib.hid (fun (W : World) => show Calls Tryd.prog 34 #[.string s, .int .i64 f] W fun e w' => e = .returned (.tuple #[sgnV x, .int .i64 c]) ∧ Below W.heap.size W w' from by have h := refhex_any s f W hs hlt; rw [hp] at h; exact h)
  clear hp hL hD
  go_enter Tryd.func14, Tryd.ntmps14
  go_wp2_with fail
  refine BL.out.mono ?_
  rintro e w1 ⟨rfl, rfl⟩
  go_wp2_with fail
  generalize (w.alloc (.cells #[.int .i64 0, .int .i64 0, .int .i64 0, .string ⟨#[]⟩, .int .i32 0] rsT)) = W at *
  refine (CL.out _).mono ?_
  rintro e w1 ⟨rfl, rfl⟩
  go_wp2_with fail
  refine (CD.out _).mono ?_
  rintro e w1 ⟨rfl, rfl⟩
  go_wp2_with fail
  refine (RX.out _).mono ?_
  rintro e w1 ⟨rfl, hb1⟩
  have Q1 := Lib.hid (Q.out.below hb1 hZ)
  have BB := Lib.hid (B.out.trans (hb1.mono (Nat.le_of_lt hZ)))
  clear hb1
  have q0 : w1.cell? ⟨w.heap.size, 0, none⟩ = some (.int .i64 0) := Q1.out.cell 0
  have q1 : w1.cell? ⟨w.heap.size, 1, none⟩ = some (.int .i64 0) := Q1.out.cell 1
  have q2 : w1.cell? ⟨w.heap.size, 2, none⟩ = some (.int .i64 0) := Q1.out.cell 2
  have q3 : w1.cell? ⟨w.heap.size, 3, none⟩ = some (.string ⟨#[]⟩) := Q1.out.cell 3
  have q4 : w1.cell? ⟨w.heap.size, 4, none⟩ = some (.int .i32 0) := Q1.out.cell 4
  have f0 := Q1.out.free 0
  have f1 := Q1.out.free 1
  have f2 := Q1.out.free 2
  have f3 := Q1.out.free 3
  have f4 := Q1.out.free 4
  go_wp2_with fail
  refine bodyPost_ret (v := .tuple #[sgnV x, .int .i64 c]) ?_ rfl ⟨by rw [NP.out], ?_⟩
  · simp [results, Tryd.results14, go_sem, q0, q1, q2, q3, q4]
  · repeat (first | exact BB.out | refine Below.setCell ?_ (Nat.le_refl w.heap.size) _)

set_option maxHeartbeats 8000000 in
set_option maxRecDepth 100000 in
theorem refnext_letter (s : ByteArray) (k f : Nat) (w : World) (hs : s.size ≤ 1000000) (hk : k ≤ s.size) (hlt : f < s.size) (hB : blanksP s k = (f, true)) (hL : letN (byN s f) = false) (hD : digN (byN s f) = false) (h39 : byN s f = 39) : Calls Tryd.prog 14 #[.string s, .int .i64 k] w (SgnPost w (signP s f)) := by
  have BL := Lib.hid (refblanks_any s k (w.alloc (.cells #[.int .i64 0, .int .i64 0, .int .i64 0, .string ⟨#[]⟩, .int .i32 0] rsT)) hs hk)
  rw [hB] at BL
  clear hB
  have B := Lib.hid ((Below.refl w.heap.size w).alloc (Nat.le_refl _) (.cells #[.int .i64 0, .int .i64 0, .int .i64 0, .string ⟨#[]⟩, .int .i32 0] rsT))
  have Q := Lib.hid (Whole.made w rsT #[.int .i64 0, .int .i64 0, .int .i64 0, .string ⟨#[]⟩, .int .i32 0] _ rfl)
  have hZ : w.heap.size < (w.alloc (.cells #[.int .i64 0, .int .i64 0, .int .i64 0, .string ⟨#[]⟩, .int .i32 0] rsT)).heap.size := by simp
  have hltI : (f : Int) < s.size := by omega
  have dE : ((f : Int) == s.size) = false := beq_eq_false_iff_ne.2 (by omega)
  have g1 : s[f].toNat = byN s f := (byN_get hlt).symm
  have k1 := byN_lt s f
  have CL := Lib.hid (fun W => reflet_any (byN s f) W)
  have CD := Lib.hid (fun W => refdig_any (byN s f) W)
  unfold SgnPost
  have NP := Lib.hid (show signP s f = if f + 2 < s.size ∧ 32 ≤ byN s (f + 1) ∧ byN s (f + 1) ≤ 126 ∧ byN s (f + 2) = 39 then (⟨3, f, f + 3, s.extract f (f + 3), byN s (f + 1)⟩, 0) else (badS f (f + 1), 82) by unfold signP; rw [if_neg (by rw [hL]; decide), if_neg (by rw [hD]; decide), if_neg (by omega), if_pos h39])
  generalize signP s f = p at *
  have e36 : ((byN s f : Int) == 36) = false := beq_eq_false_iff_ne.2 (by omega)
  have e39 : ((byN s f : Int) == 39) = true := beq_iff_eq.2 (by omega)
  clear h39
  generalize byN s f = b at *
  rw [hL] at CL
  rw [hD] at CD
  clear hL hD
  by_cases h2 : f + 2 < s.size
  case neg =>
    have d2 : decide ((f : Int) + 2 < s.size) = false := decide_eq_false (by omega)
    rw [if_neg (fun h => h2 h.1)] at NP
    have RX := Lib.hid (fun W => show Calls Tryd.prog 30 #[.int .i64 f, .int .i64 ((f : Int) + 1), .int .i64 82] W fun e' w' => e' = .returned (.tuple #[sgnV (badS f (f + 1)), .int .i64 82]) ∧ Below W.heap.size W w' from refbad_any f (f + 1) 82 W)
    generalize badS f (f + 1) = x at *
    go_enter Tryd.func14, Tryd.ntmps14
    go_wp2_with fail
    refine BL.out.mono ?_
    rintro e w1 ⟨rfl, rfl⟩
    go_wp2_with fail
    generalize (w.alloc (.cells #[.int .i64 0, .int .i64 0, .int .i64 0, .string ⟨#[]⟩, .int .i32 0] rsT)) = W at *
    refine (CL.out _).mono ?_
    rintro e w1 ⟨rfl, rfl⟩
    go_wp2_with fail
    refine (CD.out _).mono ?_
    rintro e w1 ⟨rfl, rfl⟩
    go_wp2_with fail
    refine (RX.out _).mono ?_
    rintro e w1 ⟨rfl, hb1⟩
    have Q1 := Lib.hid (Q.out.below hb1 hZ)
    have BB := Lib.hid (B.out.trans (hb1.mono (Nat.le_of_lt hZ)))
    clear hb1
    have q0 : w1.cell? ⟨w.heap.size, 0, none⟩ = some (.int .i64 0) := Q1.out.cell 0
    have q1 : w1.cell? ⟨w.heap.size, 1, none⟩ = some (.int .i64 0) := Q1.out.cell 1
    have q2 : w1.cell? ⟨w.heap.size, 2, none⟩ = some (.int .i64 0) := Q1.out.cell 2
    have q3 : w1.cell? ⟨w.heap.size, 3, none⟩ = some (.string ⟨#[]⟩) := Q1.out.cell 3
    have q4 : w1.cell? ⟨w.heap.size, 4, none⟩ = some (.int .i32 0) := Q1.out.cell 4
    have f0 := Q1.out.free 0
    have f1 := Q1.out.free 1
    have f2 := Q1.out.free 2
    have f3 := Q1.out.free 3
    have f4 := Q1.out.free 4
    go_wp2_with fail
    refine bodyPost_ret (v := .tuple #[sgnV x, .int .i64 82]) ?_ rfl ⟨by rw [NP.out], ?_⟩
    · simp [results, Tryd.results14, go_sem, q0, q1, q2, q3, q4]
    · repeat (first | exact BB.out | refine Below.setCell ?_ (Nat.le_refl w.heap.size) _)
  have d2 : decide ((f : Int) + 2 < s.size) = true := decide_eq_true (by omega)
  have h1I : (f : Int) + 1 < s.size := by omega
  have h2I : (f : Int) + 2 < s.size := by omega
  have g2 : s[f + 1].toNat = byN s (f + 1) := (byN_get (by omega)).symm
  have g3 : s[f + 2].toNat = byN s (f + 2) := (byN_get h2).symm
  have k2 := byN_lt s (f + 1)
  have k3 := byN_lt s (f + 2)
  generalize byN s (f + 1) = c1 at *
  generalize byN s (f + 2) = c2 at *
  by_cases h32 : 32 ≤ c1
  case neg =>
    have d32 : decide ((32 : Int) ≤ c1) = false := decide_eq_false (by omega)
    rw [if_neg (fun h => h32 h.2.1)] at NP
    have RX := Lib.hid (fun W => show Calls Tryd.prog 30 #[.int .i64 f, .int .i64 ((f : Int) + 1), .int .i64 82] W fun e' w' => e' = .returned (.tuple #[sgnV (badS f (f + 1)), .int .i64 82]) ∧ Below W.heap.size W w' from refbad_any f (f + 1) 82 W)
    generalize badS f (f + 1) = x at *
    go_enter Tryd.func14, Tryd.ntmps14
    go_wp2_with fail
    refine BL.out.mono ?_
    rintro e w1 ⟨rfl, rfl⟩
    go_wp2_with fail
    generalize (w.alloc (.cells #[.int .i64 0, .int .i64 0, .int .i64 0, .string ⟨#[]⟩, .int .i32 0] rsT)) = W at *
    refine (CL.out _).mono ?_
    rintro e w1 ⟨rfl, rfl⟩
    go_wp2_with fail
    refine (CD.out _).mono ?_
    rintro e w1 ⟨rfl, rfl⟩
    go_wp2_with fail
    refine (RX.out _).mono ?_
    rintro e w1 ⟨rfl, hb1⟩
    have Q1 := Lib.hid (Q.out.below hb1 hZ)
    have BB := Lib.hid (B.out.trans (hb1.mono (Nat.le_of_lt hZ)))
    clear hb1
    have q0 : w1.cell? ⟨w.heap.size, 0, none⟩ = some (.int .i64 0) := Q1.out.cell 0
    have q1 : w1.cell? ⟨w.heap.size, 1, none⟩ = some (.int .i64 0) := Q1.out.cell 1
    have q2 : w1.cell? ⟨w.heap.size, 2, none⟩ = some (.int .i64 0) := Q1.out.cell 2
    have q3 : w1.cell? ⟨w.heap.size, 3, none⟩ = some (.string ⟨#[]⟩) := Q1.out.cell 3
    have q4 : w1.cell? ⟨w.heap.size, 4, none⟩ = some (.int .i32 0) := Q1.out.cell 4
    have f0 := Q1.out.free 0
    have f1 := Q1.out.free 1
    have f2 := Q1.out.free 2
    have f3 := Q1.out.free 3
    have f4 := Q1.out.free 4
    go_wp2_with fail
    refine bodyPost_ret (v := .tuple #[sgnV x, .int .i64 82]) ?_ rfl ⟨by rw [NP.out], ?_⟩
    · simp [results, Tryd.results14, go_sem, q0, q1, q2, q3, q4]
    · repeat (first | exact BB.out | refine Below.setCell ?_ (Nat.le_refl w.heap.size) _)
  have d32 : decide ((32 : Int) ≤ c1) = true := decide_eq_true (by omega)
  by_cases h126 : c1 ≤ 126
  case neg =>
    have d126 : decide ((c1 : Int) ≤ 126) = false := decide_eq_false (by omega)
    rw [if_neg (fun h => h126 h.2.2.1)] at NP
    have RX := Lib.hid (fun W => show Calls Tryd.prog 30 #[.int .i64 f, .int .i64 ((f : Int) + 1), .int .i64 82] W fun e' w' => e' = .returned (.tuple #[sgnV (badS f (f + 1)), .int .i64 82]) ∧ Below W.heap.size W w' from refbad_any f (f + 1) 82 W)
    generalize badS f (f + 1) = x at *
    go_enter Tryd.func14, Tryd.ntmps14
    go_wp2_with fail
    refine BL.out.mono ?_
    rintro e w1 ⟨rfl, rfl⟩
    go_wp2_with fail
    generalize (w.alloc (.cells #[.int .i64 0, .int .i64 0, .int .i64 0, .string ⟨#[]⟩, .int .i32 0] rsT)) = W at *
    refine (CL.out _).mono ?_
    rintro e w1 ⟨rfl, rfl⟩
    go_wp2_with fail
    refine (CD.out _).mono ?_
    rintro e w1 ⟨rfl, rfl⟩
    go_wp2_with fail
    refine (RX.out _).mono ?_
    rintro e w1 ⟨rfl, hb1⟩
    have Q1 := Lib.hid (Q.out.below hb1 hZ)
    have BB := Lib.hid (B.out.trans (hb1.mono (Nat.le_of_lt hZ)))
    clear hb1
    have q0 : w1.cell? ⟨w.heap.size, 0, none⟩ = some (.int .i64 0) := Q1.out.cell 0
    have q1 : w1.cell? ⟨w.heap.size, 1, none⟩ = some (.int .i64 0) := Q1.out.cell 1
    have q2 : w1.cell? ⟨w.heap.size, 2, none⟩ = some (.int .i64 0) := Q1.out.cell 2
    have q3 : w1.cell? ⟨w.heap.size, 3, none⟩ = some (.string ⟨#[]⟩) := Q1.out.cell 3
    have q4 : w1.cell? ⟨w.heap.size, 4, none⟩ = some (.int .i32 0) := Q1.out.cell 4
    have f0 := Q1.out.free 0
    have f1 := Q1.out.free 1
    have f2 := Q1.out.free 2
    have f3 := Q1.out.free 3
    have f4 := Q1.out.free 4
    go_wp2_with fail
    refine bodyPost_ret (v := .tuple #[sgnV x, .int .i64 82]) ?_ rfl ⟨by rw [NP.out], ?_⟩
    · simp [results, Tryd.results14, go_sem, q0, q1, q2, q3, q4]
    · repeat (first | exact BB.out | refine Below.setCell ?_ (Nat.le_refl w.heap.size) _)
  have d126 : decide ((c1 : Int) ≤ 126) = true := decide_eq_true (by omega)
  by_cases hc2 : c2 = 39
  case neg =>
    have ec2 : ((c2 : Int) == 39) = false := beq_eq_false_iff_ne.2 (by omega)
    rw [if_neg (fun h => hc2 h.2.2.2)] at NP
    have RX := Lib.hid (fun W => show Calls Tryd.prog 30 #[.int .i64 f, .int .i64 ((f : Int) + 1), .int .i64 82] W fun e' w' => e' = .returned (.tuple #[sgnV (badS f (f + 1)), .int .i64 82]) ∧ Below W.heap.size W w' from refbad_any f (f + 1) 82 W)
    generalize badS f (f + 1) = x at *
    go_enter Tryd.func14, Tryd.ntmps14
    go_wp2_with fail
    refine BL.out.mono ?_
    rintro e w1 ⟨rfl, rfl⟩
    go_wp2_with fail
    generalize (w.alloc (.cells #[.int .i64 0, .int .i64 0, .int .i64 0, .string ⟨#[]⟩, .int .i32 0] rsT)) = W at *
    refine (CL.out _).mono ?_
    rintro e w1 ⟨rfl, rfl⟩
    go_wp2_with fail
    refine (CD.out _).mono ?_
    rintro e w1 ⟨rfl, rfl⟩
    go_wp2_with fail
    refine (RX.out _).mono ?_
    rintro e w1 ⟨rfl, hb1⟩
    have Q1 := Lib.hid (Q.out.below hb1 hZ)
    have BB := Lib.hid (B.out.trans (hb1.mono (Nat.le_of_lt hZ)))
    clear hb1
    have q0 : w1.cell? ⟨w.heap.size, 0, none⟩ = some (.int .i64 0) := Q1.out.cell 0
    have q1 : w1.cell? ⟨w.heap.size, 1, none⟩ = some (.int .i64 0) := Q1.out.cell 1
    have q2 : w1.cell? ⟨w.heap.size, 2, none⟩ = some (.int .i64 0) := Q1.out.cell 2
    have q3 : w1.cell? ⟨w.heap.size, 3, none⟩ = some (.string ⟨#[]⟩) := Q1.out.cell 3
    have q4 : w1.cell? ⟨w.heap.size, 4, none⟩ = some (.int .i32 0) := Q1.out.cell 4
    have f0 := Q1.out.free 0
    have f1 := Q1.out.free 1
    have f2 := Q1.out.free 2
    have f3 := Q1.out.free 3
    have f4 := Q1.out.free 4
    go_wp2_with fail
    refine bodyPost_ret (v := .tuple #[sgnV x, .int .i64 82]) ?_ rfl ⟨by rw [NP.out], ?_⟩
    · simp [results, Tryd.results14, go_sem, q0, q1, q2, q3, q4]
    · repeat (first | exact BB.out | refine Below.setCell ?_ (Nat.le_refl w.heap.size) _)
  have ec2 : ((c2 : Int) == 39) = true := beq_iff_eq.2 (by omega)
  rw [if_pos ⟨h2, h32, h126, hc2⟩] at NP
  clear hc2
  have hsl : ∀ W, (Instr.slice 9 (.string s) (some (.int .i64 (f : Int))) (some (.int .i64 ((f : Int) + 3))) none).run Tryd.prog W = .ok (.string (s.extract f (f + 3))) W := fun W => by
    have h1 := run_slice_string W 9 s .i64 .i64 (f : Int) ((f : Int) + 3) Tryd.underlying9 (by omega) (by omega) (by omega)
    rw [show ((f : Int)).toNat = f by omega, show ((f : Int) + 3).toNat = f + 3 by omega] at h1
    exact h1
  have hix : ∀ W : World, (Instr.index 9 (.string s) (.int .i64 ((f : Int) + 1))).run Tryd.prog W = .ok (.int .u8 c1) W := fun W => by
    rw [run_index_string W 9 s .i64 ((f : Int) + 1) Tryd.underlying9, dif_pos ⟨by omega, by omega⟩]
    refine congrArg (fun z : Nat => Result.ok (Value.int .u8 z) W) ?_
    rw [← g2]
    congr 1
  go_enter Tryd.func14, Tryd.ntmps14
  go_wp2_with fail
  refine BL.out.mono ?_
  rintro e w1 ⟨rfl, rfl⟩
  go_wp2_with fail
  generalize (w.alloc (.cells #[.int .i64 0, .int .i64 0, .int .i64 0, .string ⟨#[]⟩, .int .i32 0] rsT)) = W at *
  refine (CL.out _).mono ?_
  rintro e w1 ⟨rfl, rfl⟩
  go_wp2_with fail
  refine (CD.out _).mono ?_
  rintro e w1 ⟨rfl, rfl⟩
  go_wp2_with fail
  have q0 : W.cell? ⟨w.heap.size, 0, none⟩ = some (.int .i64 0) := Q.out.cell 0
  have q1 : W.cell? ⟨w.heap.size, 1, none⟩ = some (.int .i64 0) := Q.out.cell 1
  have q2 : W.cell? ⟨w.heap.size, 2, none⟩ = some (.int .i64 0) := Q.out.cell 2
  have q3 : W.cell? ⟨w.heap.size, 3, none⟩ = some (.string ⟨#[]⟩) := Q.out.cell 3
  have q4 : W.cell? ⟨w.heap.size, 4, none⟩ = some (.int .i32 0) := Q.out.cell 4
  have f0 := Q.out.free 0
  have f1 := Q.out.free 1
  have f2 := Q.out.free 2
  have f3 := Q.out.free 3
  have f4 := Q.out.free 4
  go_big_region
  go_wp2_with fail
  refine bodyPost_ret (v := .tuple #[sgnV ⟨3, f, f + 3, s.extract f (f + 3), c1⟩, .int .i64 0]) ?_ rfl ⟨by rw [NP.out], ?_⟩
  · simp [results, Tryd.results14, go_sem, q0, q1, q2, q3, q4]
  · repeat (first | exact B.out | refine Below.drew ?_ | refine Below.setCell ?_ (Nat.le_refl w.heap.size) _)
end Go.Proofs.YtbkagnhficmdhaaDoor
