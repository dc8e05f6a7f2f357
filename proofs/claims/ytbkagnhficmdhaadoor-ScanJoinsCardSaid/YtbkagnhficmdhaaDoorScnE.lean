/- Scan: the answers' number, hex. -/
import Derived.Test.YtbkagnhficmdhaaDoorScnD
namespace Go.Proofs.YtbkagnhficmdhaaDoor
open Go.ChangeShapes Go.WideShapes Go.ChangeAt Go.RowKit
set_option linter.unusedVariables false
set_option linter.unusedSimpArgs false

abbrev rsT : TypeId := 33

/-- What a call of the answers' that makes a sign leaves. -/
def SgnPost (w : World) (r : Sgn × Int) (e : Ending) (w' : World) : Prop := e = .returned (.tuple #[sgnV r.1, .int .i64 r.2]) ∧ Below w.heap.size w w'

theorem digN_yes {c : Nat} (h : digN c = true) : 48 ≤ c ∧ c ≤ 57 := by
  unfold digN at h
  simpa only [Bool.and_eq_true, decide_eq_true_eq] using h

set_option maxHeartbeats 8000000 in
set_option maxRecDepth 100000 in
theorem refnumber_any (s : ByteArray) (k : Nat) (w : World) (hs : s.size ≤ 1000000) (hk : k ≤ s.size) : Calls Tryd.prog 33 #[.string s, .int .i64 k] w (SgnPost w (numP s k)) := by
  have RB := Lib.hid (satF_bound s.size s k 0 hk)
  have NP := Lib.hid (show numP s k = if 2147483647 < (satF s.size s k 0).2 then (badS k (satF s.size s k 0).1, 80) else (⟨2, k, (satF s.size s k 0).1, s.extract k (satF s.size s k 0).1, (satF s.size s k 0).2⟩, 0) from rfl)
  generalize numP s k = p at *
  rcases hq : satF s.size s k 0 with ⟨tt, nn⟩
  rw [hq] at NP RB
  have R0 := Lib.hid hq
  clear hq
  have B := Lib.hid ((Below.refl w.heap.size w).alloc (Nat.le_refl _) (.cells #[.int .i64 0, .int .i64 0, .int .i64 0, .string ⟨#[]⟩, .int .i32 0] rsT))
  have Q := Lib.hid (Whole.made w rsT #[.int .i64 0, .int .i64 0, .int .i64 0, .string ⟨#[]⟩, .int .i32 0] _ rfl)
  have hZ : w.heap.size < (w.alloc (.cells #[.int .i64 0, .int .i64 0, .int .i64 0, .string ⟨#[]⟩, .int .i32 0] rsT)).heap.size := by simp
  unfold SgnPost
  go_enter Tryd.func33, Tryd.ntmps33
  go_wp2_with fail
  generalize w.alloc (.cells #[.int .i64 0, .int .i64 0, .int .i64 0, .string ⟨#[]⟩, .int .i32 0] rsT) = W at *
  go_loop [6, 7] (fun i j => ∃ (t n f : Nat), k ≤ t ∧ t ≤ s.size ∧ n ≤ 11000000000000 ∧ s.size - t ≤ f ∧ i = .int .i64 t ∧ j = .int .i64 n ∧ satF f s t n = (tt, nn)) (fun i _ => s.size - (intOf i).toNat)
  case atStart => exact ⟨k, 0, s.size, Nat.le_refl _, hk, by omega, by omega, rfl, rfl, R0.out⟩
  case round =>
    obtain ⟨t, n, f, hkt, ht, hn, hf, rfl, rfl, hR⟩ := hrel
    have HR := Lib.hid hR
    clear hR
    by_cases hgo : t < s.size ∧ digN (byN s t) = true
    · obtain ⟨hlt, hd⟩ := hgo
      obtain ⟨f, rfl⟩ : ∃ g, f = g + 1 := ⟨f - 1, by omega⟩
      have H2 := Lib.hid ((satF_go hlt hd).symm.trans HR.out)
      rw [byN_get hlt] at H2 hd
      have hI : (t : Int) < s.size := by omega
      have h255 : s[t].toNat < 256 := s[t].toNat_lt
      have hdd := digN_yes hd
      have HT := Lib.hid (refdig_any s[t].toNat W)
      clear HR
      go_wp2_with fail
      refine (HT.out).mono ?_
      rintro e w1 ⟨rfl, rfl⟩
      rcases Nat.lt_or_ge n 1099511627776 with hn2 | hn2
      · have dN : decide ((n : Int) < 1099511627776) = true := decide_eq_true (by omega)
        rw [if_pos hn2] at H2
        go_wp2_with fail
        go_round
        case rel => exact ⟨t + 1, n * 10 + (s[t].toNat - 48), f, by omega, by omega, by omega, by omega, by go_num, by go_num, H2.out⟩
        case measure => simp [intOf]; omega
      · have dN : decide ((n : Int) < 1099511627776) = false := decide_eq_false (by omega)
        rw [if_neg (by omega)] at H2
        go_wp2_with fail
        go_round
        case rel => exact ⟨t + 1, n, f, by omega, by omega, by omega, by omega, by go_num, rfl, H2.out⟩
        case measure => simp [intOf]; omega
    · have H2 := (satF_stop hgo).symm.trans HR.out
      obtain ⟨rfl, rfl⟩ : t = tt ∧ n = nn := by simpa using H2
      clear HR H2
      have HC : t < s.size → (∃ h : t < s.size, digN s[t].toNat = false) := fun h => ⟨h, by
        cases hc : digN s[t].toNat
        · rfl
        · exact absurd ⟨h, by rw [byN_get h]; exact hc⟩ hgo⟩
      clear hgo
      have HT := Lib.hid (fun (h : t < s.size) => refdig_any s[t].toNat W)
      by_cases hbig : 2147483647 < n
      · have dB : decide ((2147483647 : Int) < n) = true := decide_eq_true (by omega)
        rw [if_pos hbig] at NP
        have RX := Lib.hid (refbad_any k t 80 W)
        generalize badS k t = x at *
        by_cases hlt : t < s.size
        · obtain ⟨_, hd⟩ := HC hlt
          have hI : decide ((t : Int) < s.size) = true := decide_eq_true (by omega)
          go_wp2_with fail
          refine (HT.out hlt).mono ?_
          rintro e w1 ⟨rfl, rfl⟩
          go_wp2_with fail
          refine RX.out.mono ?_
          rintro e w1 ⟨rfl, hb1⟩
          have Q1 := Lib.hid (Q.out.below hb1 hZ)
          have BB := Lib.hid (B.out.trans (hb1.mono (Nat.le_of_lt hZ)))
          clear hb1
          have q0 : w1.cell? ⟨w.heap.size, 0, none⟩ = some (.int .i64 0) := Q1.out.cell 0
          have q1 : w1.cell? ⟨w.heap.size, 1, none⟩ = some (.int .i64 0) := Q1.out.cell 1
          have q2 : w1.cell? ⟨w.heap.size, 2, none⟩ = some (.int .i64 0) := Q1.out.cell 2
          have q3 : w1.cell? ⟨w.heap.size, 3, none⟩ = some (.string ⟨#[]⟩) := Q1.out.cell 3
          have q4 : w1.cell? ⟨w.heap.size, 4, none⟩ = some (.int .i32 0) := Q1.out.cell 4
          have f0 := Q1.out.free 0
          have f1 := Q1.out.free 1
          have f2 := Q1.out.free 2
          have f3 := Q1.out.free 3
          have f4 := Q1.out.free 4
          go_wp2_with fail
          refine bodyPost_ret (v := .tuple #[sgnV x, .int .i64 80]) ?_ rfl ⟨by rw [NP.out], ?_⟩
          · simp [results, Tryd.results33, go_sem, q0, q1, q2, q3, q4]
          · repeat (first | exact BB.out | refine Below.setCell ?_ (Nat.le_refl w.heap.size) _)
        · have hI : decide ((t : Int) < s.size) = false := decide_eq_false (by omega)
          go_wp2_with fail
          refine RX.out.mono ?_
          rintro e w1 ⟨rfl, hb1⟩
          have Q1 := Lib.hid (Q.out.below hb1 hZ)
          have BB := Lib.hid (B.out.trans (hb1.mono (Nat.le_of_lt hZ)))
          clear hb1
          have q0 : w1.cell? ⟨w.heap.size, 0, none⟩ = some (.int .i64 0) := Q1.out.cell 0
          have q1 : w1.cell? ⟨w.heap.size, 1, none⟩ = some (.int .i64 0) := Q1.out.cell 1
          have q2 : w1.cell? ⟨w.heap.size, 2, none⟩ = some (.int .i64 0) := Q1.out.cell 2
          have q3 : w1.cell? ⟨w.heap.size, 3, none⟩ = some (.string ⟨#[]⟩) := Q1.out.cell 3
          have q4 : w1.cell? ⟨w.heap.size, 4, none⟩ = some (.int .i32 0) := Q1.out.cell 4
          have f0 := Q1.out.free 0
          have f1 := Q1.out.free 1
          have f2 := Q1.out.free 2
          have f3 := Q1.out.free 3
          have f4 := Q1.out.free 4
          go_wp2_with fail
          refine bodyPost_ret (v := .tuple #[sgnV x, .int .i64 80]) ?_ rfl ⟨by rw [NP.out], ?_⟩
          · simp [results, Tryd.results33, go_sem, q0, q1, q2, q3, q4]
          · repeat (first | exact BB.out | refine Below.setCell ?_ (Nat.le_refl w.heap.size) _)
      · have dB : decide ((2147483647 : Int) < n) = false := decide_eq_false (by omega)
        rw [if_neg hbig] at NP
        by_cases hlt : t < s.size
        · obtain ⟨_, hd⟩ := HC hlt
          have hI : decide ((t : Int) < s.size) = true := decide_eq_true (by omega)
          have q0 : W.cell? ⟨w.heap.size, 0, none⟩ = some (.int .i64 0) := Q.out.cell 0
          have q1 : W.cell? ⟨w.heap.size, 1, none⟩ = some (.int .i64 0) := Q.out.cell 1
          have q2 : W.cell? ⟨w.heap.size, 2, none⟩ = some (.int .i64 0) := Q.out.cell 2
          have q3 : W.cell? ⟨w.heap.size, 3, none⟩ = some (.string ⟨#[]⟩) := Q.out.cell 3
          have q4 : W.cell? ⟨w.heap.size, 4, none⟩ = some (.int .i32 0) := Q.out.cell 4
          have f0 := Q.out.free 0
          have f1 := Q.out.free 1
          have f2 := Q.out.free 2
          have f3 := Q.out.free 3
          have f4 := Q.out.free 4
          go_wp2_with fail
          refine (HT.out hlt).mono ?_
          rintro e w1 ⟨rfl, rfl⟩
          go_wp2_with fail
          refine bodyPost_ret (v := .tuple #[sgnV ⟨2, k, t, s.extract k t, n⟩, .int .i64 0]) ?_ rfl ⟨by rw [NP.out], ?_⟩
          · simp [results, Tryd.results33, go_sem, q0, q1, q2, q3, q4]
          · repeat (first | exact B.out | refine Below.setCell ?_ (Nat.le_refl w.heap.size) _)
        · have hI : decide ((t : Int) < s.size) = false := decide_eq_false (by omega)
          have q0 : W.cell? ⟨w.heap.size, 0, none⟩ = some (.int .i64 0) := Q.out.cell 0
          have q1 : W.cell? ⟨w.heap.size, 1, none⟩ = some (.int .i64 0) := Q.out.cell 1
          have q2 : W.cell? ⟨w.heap.size, 2, none⟩ = some (.int .i64 0) := Q.out.cell 2
          have q3 : W.cell? ⟨w.heap.size, 3, none⟩ = some (.string ⟨#[]⟩) := Q.out.cell 3
          have q4 : W.cell? ⟨w.heap.size, 4, none⟩ = some (.int .i32 0) := Q.out.cell 4
          have f0 := Q.out.free 0
          have f1 := Q.out.free 1
          have f2 := Q.out.free 2
          have f3 := Q.out.free 3
          have f4 := Q.out.free 4
          go_wp2_with fail
          refine bodyPost_ret (v := .tuple #[sgnV ⟨2, k, t, s.extract k t, n⟩, .int .i64 0]) ?_ rfl ⟨by rw [NP.out], ?_⟩
          · simp [results, Tryd.results33, go_sem, q0, q1, q2, q3, q4]
          · repeat (first | exact B.out | refine Below.setCell ?_ (Nat.le_refl w.heap.size) _)

/-- A digit of sixteen, looked up. -/
def hexRow : List Nat := [48, 49, 50, 51, 52, 53, 54, 55, 56, 57, 65, 66, 67, 68, 69, 70]

/-- What the look-up has found behind so many digits. -/
def hexU (c k : Nat) : Int := if 0 ≤ hexD c ∧ hexD c < k then hexD c else -1

theorem hexU_zero (c : Nat) : hexU c 0 = -1 := by
  unfold hexU
  rw [if_neg (by omega)]

theorem hexU_end (c : Nat) : hexU c 16 = hexD c := by
  have := hexD_range c
  unfold hexU
  split <;> omega

theorem hexRow_iff : ∀ k, k < 16 → ∀ c, c < 256 → (hexRow.getD k 0 = c ↔ hexD c = k) := by
  intro k hk c hc
  unfold hexD
  rcases (show k = 0 ∨ k = 1 ∨ k = 2 ∨ k = 3 ∨ k = 4 ∨ k = 5 ∨ k = 6 ∨ k = 7 ∨ k = 8 ∨ k = 9 ∨ k = 10 ∨ k = 11 ∨ k = 12 ∨ k = 13 ∨ k = 14 ∨ k = 15 by omega) with h | h | h | h | h | h | h | h | h | h | h | h | h | h | h | h <;>
    (subst h; simp only [hexRow, List.getD_cons_zero, List.getD_cons_succ]; split <;> (try split) <;> omega)

theorem hexU_hit {c k : Nat} (hk : k < 16) (hc : c < 256) (h : hexRow.getD k 0 = c) : hexU c (k + 1) = k := by
  have := (hexRow_iff k hk c hc).1 h
  unfold hexU
  rw [if_pos (by omega), this]

theorem hexU_miss {c k : Nat} (hk : k < 16) (hc : c < 256) (h : hexRow.getD k 0 ≠ c) : hexU c (k + 1) = hexU c k := by
  have : hexD c ≠ k := fun e => h ((hexRow_iff k hk c hc).2 e)
  unfold hexU
  by_cases h1 : 0 ≤ hexD c ∧ hexD c < k
  · rw [if_pos h1, if_pos (by omega)]
  · rw [if_neg h1, if_neg (by omega)]

abbrev hexS : ByteArray := ⟨#[48, 49, 50, 51, 52, 53, 54, 55, 56, 57, 65, 66, 67, 68, 69, 70]⟩

theorem hexS_get {k : Nat} (hk : k < 16) : (hexS[k]'hk).toNat = hexRow.getD k 0 := by
  rcases (show k = 0 ∨ k = 1 ∨ k = 2 ∨ k = 3 ∨ k = 4 ∨ k = 5 ∨ k = 6 ∨ k = 7 ∨ k = 8 ∨ k = 9 ∨ k = 10 ∨ k = 11 ∨ k = 12 ∨ k = 13 ∨ k = 14 ∨ k = 15 by omega) with h | h | h | h | h | h | h | h | h | h | h | h | h | h | h | h <;> (subst h; rfl)

end Go.Proofs.YtbkagnhficmdhaaDoor
