/- Package memory and its answers: Used. -/
import Derived.Test.YtojjfpplhgfpfaaMemU
import Derived.Test.YtojjfpplhgfpfaaMemB
namespace Go.Proofs.Ytojjfpplhgfpfaa
open Go.ChangeShapes Go.WideShapes Go.ChangeAt Go.RowKit
set_option linter.unusedVariables false

/-- How many of i words from word a on are not 0. -/
def cntF (ws : List Int) (a : Nat) : Nat → Nat
  | 0 => 0
  | i + 1 => cntF ws a i + if ws.getD (a + i) 0 ≠ 0 then 1 else 0

/-- How many of the first i words are not 0 and lie in a part. -/
def cntP (ws : List Int) (inP : Nat → Bool) : Nat → Nat
  | 0 => 0
  | i + 1 => cntP ws inP i + if ws.getD i 0 ≠ 0 ∧ inP i = true then 1 else 0

theorem cntF_le (ws : List Int) (a : Nat) : ∀ i, cntF ws a i ≤ i
  | 0 => Nat.le_refl _
  | i + 1 => by
    have := cntF_le ws a i
    unfold cntF
    split <;> omega

theorem cntP_le (ws : List Int) (inP : Nat → Bool) : ∀ i, cntP ws inP i ≤ i
  | 0 => Nat.le_refl _
  | i + 1 => by
    have := cntP_le ws inP i
    unfold cntP
    split <;> omega

theorem cntP_none (ws : List Int) (inP : Nat → Bool) (n : Nat) : ∀ i, i ≤ n → (∀ t, t < n → inP t = false) → cntP ws inP i = 0
  | 0, _, _ => rfl
  | i + 1, hi, h => by
    unfold cntP
    rw [cntP_none ws inP n i (by omega) h, if_neg (by rw [h i (by omega)]; simp)]

theorem cntP_F (ws : List Int) (inP : Nat → Bool) (a b n : Nat) (hab : a ≤ b) (hbn : b ≤ n) (h : ∀ t, t < n → (inP t = true ↔ a ≤ t ∧ t < b)) : ∀ i, i ≤ n → cntP ws inP i = cntF ws a (min i b - a)
  | 0, _ => by simp [cntP, cntF]
  | i + 1, hi => by
    have ih := cntP_F ws inP a b n hab hbn h i (by omega)
    have hh := h i (by omega)
    unfold cntP
    rw [ih]
    by_cases hin : a ≤ i ∧ i < b
    · have e1 : min i b - a = i - a := by omega
      have e2 : min (i + 1) b - a = (i - a) + 1 := by omega
      rw [e1, e2]
      show _ = cntF ws a (i - a) + _
      rw [show a + (i - a) = i by omega]
      have := hh.2 hin
      simp [this]
    · have hf : inP i = false := by
        cases hc : inP i with
        | false => rfl
        | true => exact absurd (hh.1 hc) hin
      rw [if_neg (by rw [hf]; simp), Nat.add_zero, show min i b - a = min (i + 1) b - a by omega]

set_option maxHeartbeats 4000000 in
set_option maxRecDepth 100000 in
theorem used_some (p h n a b : Nat) (k : Int) (e0 e1 e2 e3 e4 : Int) (ws : List Int) (w : World) (hm : Whole w p 68 (memCells e0 e1 e2 e3 e4 h n)) (hw : Whole w h 22 (words ws)) (hn : ws.length = n) (hab : a ≤ b) (hbn : b ≤ n) (hn2 : n ≤ 1000000) (hu : ∀ z ∈ ws, U32 z)
    (hc : Calls Try.prog 31 #[.pointer (some ⟨p, 0, none⟩), .int .i64 k] w (WordsPost h a b w)) :
    Calls Try.prog 16 #[.pointer (some ⟨p, 0, none⟩), .int .i64 k] w fun e w' => e = .returned (.int .i64 (cntF ws a (b - a))) ∧ Below w.heap.size w w' := by
  have HW := Lib.hid hw
  have UW := Lib.hid hu
  have C := Lib.hid hc
  have LN := Lib.hid hn
  unfold WordsPost at C
  clear hm hw hu hc hn
  obtain ⟨d, hd⟩ : ∃ d, d = b - a := ⟨_, rfl⟩
  rw [← hd] at C ⊢
  have HD := Lib.hid hd
  have hd2 : d ≤ 1000000 := by omega
  clear hd
  go_enter Try.func16, Try.ntmps16
  go_wp2_with fail
  refine C.out.mono ?_
  rintro e w1 ⟨A, cap, rfl, hA, hb1⟩
  have H1 := Lib.hid (HW.out.below hb1 HW.out.lt)
  have B1 := Lib.hid hb1
  have HA := Lib.hid hA
  clear hA hb1 C
  go_wp2_with fail
  go_loop [5, 12] (fun v i => ∃ j : Nat, j ≤ d ∧ i = .int .i64 j ∧ v = .int .i64 (cntF ws a j)) (fun _ i => d - (intOf i).toNat)
  case atStart => exact ⟨0, Nat.zero_le _, rfl, rfl⟩
  case round =>
    obtain ⟨j, hj, rfl, rfl⟩ := hrel
    have hle := cntF_le ws a j
    by_cases hlt : j < d
    · have hd := HD.out
      obtain rfl := HA.out (by omega)
      have c0 := H1.out.word (k := a + j) (by have := LN.out; omega)
      obtain ⟨x0, x1⟩ := wordOfs UW.out (a + j)
      by_cases hz : ws.getD (a + j) 0 = 0
      · have hs : cntF ws a (j + 1) = cntF ws a j := by
          show cntF ws a j + _ = _
          rw [if_neg (by simpa using hz)]
          rfl
        have HS := Lib.hid hs
        rw [hz] at c0
        clear hz hs hd x0 x1
        generalize cntF ws a j = cj at *
        go_wp2_with fail
        go_round
        case rel => exact ⟨j + 1, by omega, by go_num, by rw [HS.out]⟩
        case measure => simp [intOf]; omega
      · have hs : cntF ws a (j + 1) = cntF ws a j + 1 := by
          show cntF ws a j + _ = _
          rw [if_pos hz]
        have HS := Lib.hid hs
        have hne : (ws.getD (a + j) 0 != 0) = true := by simpa using hz
        clear hz hs hd
        generalize ws.getD (a + j) 0 = x at *
        generalize cntF ws a j = cj at *
        go_wp2_with fail
        go_round
        case rel => exact ⟨j + 1, by omega, by go_num, by rw [HS.out]; go_num⟩
        case measure => simp [intOf]; omega
    · obtain rfl : j = d := by omega
      go_wp2_with fail
      go_ret
      exact ⟨rfl, B1.out⟩

set_option maxHeartbeats 4000000 in
theorem used_none (p : Nat) (k : Int) (w : World) (hk : 5 ≤ k) (hk2 : k ≤ 4294967295) :
    Calls Try.prog 16 #[.pointer (some ⟨p, 0, none⟩), .int .i64 k] w fun e w' => e = .returned (.int .i64 0) ∧ Below w.heap.size w w' := by
  have C := Lib.hid (words_none p k w hk hk2)
  clear hk hk2
  go_enter Try.func16, Try.ntmps16
  go_wp2_with fail
  refine C.out.mono ?_
  rintro e w' ⟨rfl, rfl⟩
  go_wp2_with fail
  refine wp_loop_rounds 1 ?_
  rw [rounds_succ]
  go_wp2_with fail
  go_ret
  exact ⟨rfl, Below.refl _ _⟩

set_option maxHeartbeats 8000000 in
set_option maxRecDepth 100000 in
theorem refused_any (h n : Nat) (k : Int) (e0 e1 e2 e3 e4 : Int) (ws : List Int) (w : World) (hw : Whole w h 22 (words ws)) (hn : ws.length = n) (hn2 : n ≤ 1000000) (hu : ∀ z ∈ ws, U32 z) :
    Calls Try.prog 17 #[.agg (memCells e0 e1 e2 e3 e4 h n), .int .i64 k] w fun e w' => e = .returned (.int .i64 (cntP ws (fun i => decide (partOf e0 e1 e2 e3 e4 (4 * (i : Int)) = k)) n)) ∧ Below w.heap.size w w' := by
  have PT := Lib.hid (fun at_ w => refpart_any h n e0 e1 e2 e3 e4 at_ w)
  have UW := Lib.hid hu
  have LN := Lib.hid hn
  have Q0 := Lib.hid (Whole.made w 32 #[.int .u32 e0, .int .u32 e1, .int .u32 e2, .int .u32 e3, .int .u32 e4, .slice (some ⟨h, 0, none⟩) n n] _ rfl)
  have H0 := Lib.hid (hw.alloc (.cells #[.int .u32 e0, .int .u32 e1, .int .u32 e2, .int .u32 e3, .int .u32 e4, .slice (some ⟨h, 0, none⟩) n n] 32))
  have B0 := Lib.hid ((Below.refl w.heap.size w).alloc (Nat.le_refl _) (.cells #[.int .u32 e0, .int .u32 e1, .int .u32 e2, .int .u32 e3, .int .u32 e4, .slice (some ⟨h, 0, none⟩) n n] 32))
  unfold memCells at *
  obtain ⟨inP, hin⟩ : ∃ inP, inP = fun i : Nat => decide (partOf e0 e1 e2 e3 e4 (4 * (i : Int)) = k) := ⟨_, rfl⟩
  rw [← hin]
  have HI := Lib.hid (fun i : Nat => show inP i = decide (partOf e0 e1 e2 e3 e4 (4 * (i : Int)) = k) by rw [hin])
  clear hw hn hu hin
  go_enter Try.func17, Try.ntmps17
  go_wp2_with fail
  generalize w.alloc (.cells #[.int .u32 e0, .int .u32 e1, .int .u32 e2, .int .u32 e3, .int .u32 e4, .slice (some ⟨h, 0, none⟩) n n] 32) = w1 at *
  go_loopw [5, 6] (fun v i wr => ∃ j : Nat, j ≤ n ∧ i = .int .i64 j ∧ v = .int .i64 (cntP ws inP j) ∧ Hid (Whole wr w.heap.size 32 #[.int .u32 e0, .int .u32 e1, .int .u32 e2, .int .u32 e3, .int .u32 e4, .slice (some ⟨h, 0, none⟩) n n]) ∧ Hid (Whole wr h 22 (words ws)) ∧ Hid (Below w.heap.size w wr)) (fun _ i _ => n - (intOf i).toNat)
  case atStart => exact ⟨0, Nat.zero_le _, rfl, rfl, Q0.out, H0.out, B0.out⟩
  case round =>
    obtain ⟨j, hj, rfl, rfl, HQ, HH, HB⟩ := hrel
    have q5 : wr.cell? ⟨w.heap.size, 5, none⟩ = some (.slice (some ⟨h, 0, none⟩) n n) := HQ.out.cell 5
    have hle := cntP_le ws inP j
    by_cases hlt : j < n
    · have c0 := HH.out.word (k := j) (by have := LN.out; omega)
      obtain ⟨x0, x1⟩ := wordOfs UW.out j
      by_cases hz : ws.getD j 0 = 0
      · have HS := Lib.hid (show cntP ws inP (j + 1) = cntP ws inP j by
          show cntP ws inP j + _ = _
          rw [if_neg (fun hh => hh.1 hz)]
          rfl)
        rw [hz] at c0
        clear hz x0 x1
        generalize cntP ws inP j = cj at *
        go_wp2_with fail
        go_roundw
        case rel => exact ⟨j + 1, by omega, by go_num, by rw [HS.out], HQ, HH, HB⟩
        case measure => simp [intOf]; omega
      · have hne : (ws.getD j 0 != 0) = true := by simpa using hz
        have PJ := Lib.hid (PT.out (4 * (j : Int)))
        have hI := HI.out j
        have q0 : wr.cell? ⟨w.heap.size, 0, none⟩ = some (.int .u32 e0) := HQ.out.cell 0
        have q1 : wr.cell? ⟨w.heap.size, 1, none⟩ = some (.int .u32 e1) := HQ.out.cell 1
        have q2 : wr.cell? ⟨w.heap.size, 2, none⟩ = some (.int .u32 e2) := HQ.out.cell 2
        have q3 : wr.cell? ⟨w.heap.size, 3, none⟩ = some (.int .u32 e3) := HQ.out.cell 3
        have q4 : wr.cell? ⟨w.heap.size, 4, none⟩ = some (.int .u32 e4) := HQ.out.cell 4
        by_cases hp : partOf e0 e1 e2 e3 e4 (4 * (j : Int)) = k
        · have HS := Lib.hid (show cntP ws inP (j + 1) = cntP ws inP j + 1 by
            show cntP ws inP j + _ = _
            rw [if_pos ⟨hz, by rw [hI]; exact decide_eq_true hp⟩])
          rw [hp] at PJ
          clear hz hp hI
          generalize ws.getD j 0 = x at *
          generalize cntP ws inP j = cj at *
          go_wp2_with fail
          refine (PJ.out _).mono ?_
          rintro e w2 ⟨rfl, hb2⟩
          have HQ2 := Lib.hid (HQ.out.below hb2 HQ.out.lt)
          have HH2 := Lib.hid (HH.out.below hb2 HH.out.lt)
          have HB2 := Lib.hid (HB.out.trans (hb2.mono HB.out.size))
          clear hb2
          go_wp2_with fail
          go_roundw
          case rel => exact ⟨j + 1, by omega, by go_num, by rw [HS.out]; go_num, HQ2, HH2, HB2⟩
          case measure => simp [intOf]; omega
        · have HS := Lib.hid (show cntP ws inP (j + 1) = cntP ws inP j by
            show cntP ws inP j + _ = _
            rw [if_neg (fun hh => by rw [hI, decide_eq_true_eq] at hh; exact hp hh.2)]
            rfl)
          have dp : (partOf e0 e1 e2 e3 e4 (4 * (j : Int)) == k) = false := by simpa using hp
          clear hz hp hI
          generalize partOf e0 e1 e2 e3 e4 (4 * (j : Int)) = pt at *
          generalize ws.getD j 0 = x at *
          generalize cntP ws inP j = cj at *
          go_wp2_with fail
          refine (PJ.out _).mono ?_
          rintro e w2 ⟨rfl, hb2⟩
          have HQ2 := Lib.hid (HQ.out.below hb2 HQ.out.lt)
          have HH2 := Lib.hid (HH.out.below hb2 HH.out.lt)
          have HB2 := Lib.hid (HB.out.trans (hb2.mono HB.out.size))
          clear hb2
          go_wp2_with fail
          go_roundw
          case rel => exact ⟨j + 1, by omega, by go_num, by rw [HS.out], HQ2, HH2, HB2⟩
          case measure => simp [intOf]; omega
    · obtain rfl : j = n := by omega
      go_wp2_with fail
      go_ret
      exact ⟨rfl, HB.out⟩
end Go.Proofs.Ytojjfpplhgfpfaa
