/- Konst: the law KonstRight walked. -/
import Derived.Test.YtmgjnalijmplcaaKonU
namespace Go.Proofs.Ytmgjnalijmplcaa
open Go.ChangeShapes Go.WideShapes Go.ChangeAt Go.RowKit
set_option linter.unusedVariables false
set_option linter.unusedSimpArgs false

/-- A result that is no error is right, and of 32 bits. -/
def KrOk (r : Kr) : Prop := (r.e = 0 → rightB r.t r.n = true) ∧ -2147483648 ≤ r.n ∧ r.n ≤ 2147483647

theorem ok_err (c : Int) (h : c ≠ 0) : KrOk ⟨0, 0, c⟩ := ⟨fun e => absurd e h, (show (-2147483648 : Int) ≤ 0 from by decide), (show (0 : Int) ≤ 2147483647 from by decide)⟩

theorem ok_num {n : Int} (h0 : -2147483648 ≤ n) (h1 : n ≤ 2147483647) : KrOk ⟨1, n, 0⟩ := ⟨fun _ => rfl, h0, h1⟩

theorem ok_truth (b : Bool) : KrOk ⟨2, trP b, 0⟩ := by cases b <;> exact ⟨fun _ => rfl, by decide, by decide⟩

theorem ok_typed {b : Bool} {t n : Int} (h : b = true → KrOk ⟨t, n, 0⟩) : KrOk (typedP b t n) := by
  cases b
  · exact ok_err 91 (by decide)
  · exact h rfl

theorem wrap_range (n : Int) : -2147483648 ≤ wrap32 n ∧ wrap32 n ≤ 2147483647 := by unfold wrap32; omega

theorem ok_reck (k : Nat) (a b : Int) : ∀ n, reckP k a b = some n → -2147483648 ≤ n ∧ n ≤ 2147483647 := by
  intro n h
  unfold reckP at h
  split at h
  · cases h; exact wrap_range _
  split at h
  · cases h; exact wrap_range _
  split at h
  · cases h; exact wrap_range _
  split at h
  · cases h
  split at h
  · cases h; exact ⟨dv_ge a b, dv_le a b⟩
  · cases h; unfold md; exact wrap_range _

theorem ok_two (k : Nat) (t1 n1 t2 n2 : Int) : KrOk (twoP k t1 n1 t2 n2) := by
  unfold twoP
  split
  · unfold reckonP
    split
    · exact ok_err 91 (by decide)
    · have h := ok_reck k n1 n2
      generalize reckP k n1 n2 = r at h
      cases r with
      | none => exact ok_err 10 (by decide)
      | some n => exact ok_num (h n rfl).1 (h n rfl).2
  split
  · exact ok_typed fun _ => ok_truth _
  split
  · exact ok_typed fun _ => ok_truth _
  · exact ok_err 110 (by decide)

theorem ok_one (k : Nat) {t n : Int} (h0 : -2147483648 ≤ n) (h1 : n ≤ 2147483647) : KrOk (oneP k t n) := by
  unfold oneP
  split
  · exact ok_typed fun _ => ok_num (wrap_range _).1 (wrap_range _).2
  split
  · exact ok_typed fun _ => ok_truth _
  split
  · exact ok_typed fun _ => ok_truth _
  split
  · exact ok_typed fun _ => ok_num h0 h1
  split
  · split
    · exact ok_err 90 (by decide)
    · rename_i hc
      refine ok_typed fun ht => ⟨fun _ => ?_, h0, h1⟩
      rw [ht] at hc
      show rightB 3 n = true
      rw [right_3 rfl]
      simpa using hc
  · exact ok_err 110 (by decide)

set_option maxHeartbeats 16000000 in
set_option maxRecDepth 100000 in
theorem right_walk (w : World) (s : ByteArray) (t1 n1 t2 n2 : Int) (b10 : -2147483648 ≤ n1) (b11 : n1 ≤ 2147483647) (b20 : -2147483648 ≤ n2) (b21 : n2 ≤ 2147483647) : Calls Try.prog 6 #[.string s, .agg #[.int .i64 t1, .int .i32 n1], .agg #[.int .i64 t2, .int .i32 n2]] w fun e w' => e = .returned (.bool true) ∧ Below w.heap.size w w' := by
  have c0 := (Below.refl w.heap.size w).alloc (Nat.le_refl _) (.cells #[.int .i64 t1, .int .i32 n1] kT)
  have BA := Lib.hid (c0.alloc c0.size (.cells #[.int .i64 t2, .int .i32 n2] kT))
  have P := Lib.hid ((Whole.made w kT #[.int .i64 t1, .int .i32 n1] (w.heap.size) (by simp)).alloc (.cells #[.int .i64 t2, .int .i32 n2] kT))
  have Q := Lib.hid (Whole.made (w.alloc (.cells #[.int .i64 t1, .int .i32 n1] kT)) kT #[.int .i64 t2, .int .i32 n2] (w.heap.size + 1) (by simp))
  have AW := Lib.hid (fun y => awake10_any y)
  have RA := Lib.hid (fun y => right_any t1 n1 y b10 b11)
  have RB := Lib.hid (fun y => right_any t2 n2 y b20 b21)
  have TW := Lib.hid (fun y => two_any s t1 n1 t2 n2 y b10 b11)
  have ON := Lib.hid (fun y => one_any s t1 n1 y b10 b11)
  have MI := Lib.hid (fun y => two_1 t1 n1 t2 n2 y b10 b11)
  have O2 := Lib.hid (ok_two (sig2 s) t1 n1 t2 n2)
  have O1 := Lib.hid (ok_one (sig1 s) (t := t1) b10 b11)
  have WB := Lib.hid (wrap_range (n1 - n2))
  have BK := Lib.hid (show wrap32 (wrap32 (n1 - n2) + n2) = n1 by rw [wrap32_add, show n1 - n2 + n2 = n1 by omega]; exact IntWalk.wrap32_in _ ⟨b10, b11⟩)
  clear c0 b10 b11 b20 b21
  have R2 := Lib.hid (fun y => right_any (twoP (sig2 s) t1 n1 t2 n2).t (twoP (sig2 s) t1 n1 t2 n2).n y O2.out.2.1 O2.out.2.2)
  have R1 := Lib.hid (fun y => right_any (oneP (sig1 s) t1 n1).t (oneP (sig1 s) t1 n1).n y O1.out.2.1 O1.out.2.2)
  have O2' := Lib.hid O2.out.1
  have O1' := Lib.hid O1.out.1
  clear O2 O1
  unfold kR at *
  generalize twoP (sig2 s) t1 n1 t2 n2 = r2 at *
  generalize oneP (sig1 s) t1 n1 = r1 at *
  generalize rightB t1 n1 = ra at *
  generalize rightB t2 n2 = rb at *
  obtain ⟨x2, y2, e2⟩ := r2
  obtain ⟨x1, y1, e1⟩ := r1
  simp only at O2' O1' R2 R1 TW ON
  go_enter Try.func6, Try.ntmps6
  go_wp2_with fail
  generalize (w.alloc (.cells #[.int .i64 t1, .int .i32 n1] kT)).alloc (.cells #[.int .i64 t2, .int .i32 n2] kT) = V at *
  refine (AW.out _).mono ?_
  rintro e w1 ⟨rfl, hb⟩
  have B1 := Lib.hid (BA.out.trans (hb.mono BA.out.size))
  have P1 := Lib.hid (P.out.below hb P.out.lt)
  have Q1 := Lib.hid (Q.out.below hb Q.out.lt)
  clear hb BA P Q AW
  have p0 : w1.cell? ⟨w.heap.size, 0, none⟩ = some (.int .i64 t1) := P1.out.cell 0
  have p1 : w1.cell? ⟨w.heap.size, 1, none⟩ = some (.int .i32 n1) := P1.out.cell 1
  go_wp2_with fail
  refine (RA.out _).mono ?_
  rintro e w2 ⟨rfl, hb⟩
  have B2 := Lib.hid (B1.out.trans (hb.mono B1.out.size))
  have P2 := Lib.hid (P1.out.below hb P1.out.lt)
  have Q2 := Lib.hid (Q1.out.below hb Q1.out.lt)
  clear hb B1 P1 Q1 p0 p1 RA
  cases ra
  case false =>
    go_wp2_with fail
    go_ret
    exact ⟨rfl, B2.out⟩
  have q0 : w2.cell? ⟨w.heap.size + 1, 0, none⟩ = some (.int .i64 t2) := Q2.out.cell 0
  have q1 : w2.cell? ⟨w.heap.size + 1, 1, none⟩ = some (.int .i32 n2) := Q2.out.cell 1
  go_wp2_with fail
  refine (RB.out _).mono ?_
  rintro e w3 ⟨rfl, hb⟩
  have B3 := Lib.hid (B2.out.trans (hb.mono B2.out.size))
  have P3 := Lib.hid (P2.out.below hb P2.out.lt)
  have Q3 := Lib.hid (Q2.out.below hb Q2.out.lt)
  clear hb B2 P2 Q2 q0 q1 RB
  cases rb
  case false =>
    go_wp2_with fail
    go_ret
    exact ⟨rfl, B3.out⟩
  have p0 : w3.cell? ⟨w.heap.size, 0, none⟩ = some (.int .i64 t1) := P3.out.cell 0
  have p1 : w3.cell? ⟨w.heap.size, 1, none⟩ = some (.int .i32 n1) := P3.out.cell 1
  have q0 : w3.cell? ⟨w.heap.size + 1, 0, none⟩ = some (.int .i64 t2) := Q3.out.cell 0
  have q1 : w3.cell? ⟨w.heap.size + 1, 1, none⟩ = some (.int .i32 n2) := Q3.out.cell 1
  go_wp2_with fail
  refine (TW.out _).mono ?_
  rintro e w4 ⟨rfl, hb⟩
  have B4 := Lib.hid ((B3.out.trans (hb.mono B3.out.size)).alloc (Nat.le_trans B3.out.size hb.size) (.cells #[.int .i64 x2, .int .i32 y2] kT))
  have P4 := Lib.hid ((P3.out.below hb P3.out.lt).alloc (.cells #[.int .i64 x2, .int .i32 y2] kT))
  have Q4 := Lib.hid ((Q3.out.below hb Q3.out.lt).alloc (.cells #[.int .i64 x2, .int .i32 y2] kT))
  clear hb B3 P3 Q3 p0 p1 q0 q1 TW
  have T4 : ∃ v4 : World, Below w.heap.size w v4 ∧ Whole v4 w.heap.size kT #[.int .i64 t1, .int .i32 n1] ∧ Whole v4 (w.heap.size + 1) kT #[.int .i64 t2, .int .i32 n2] := ⟨_, B4.out, P4.out, Q4.out⟩
  clear T4
  cases he2 : (e2 == 0)
  case' true =>
    rw [O2'.out (by simpa using he2)] at R2
    go_wp2_with fail
    generalize w4.alloc (.cells #[.int .i64 x2, .int .i32 y2] kT) = v4 at *
    refine (R2.out _).mono ?_
    rintro e w5 ⟨rfl, hb⟩
    have B5 := Lib.hid (B4.out.trans (hb.mono B4.out.size))
    have P5 := Lib.hid (P4.out.below hb P4.out.lt)
    have Q5 := Lib.hid (Q4.out.below hb Q4.out.lt)
    clear hb B4 P4 Q4
  case' false =>
    have p0 : (w4.alloc (.cells #[.int .i64 x2, .int .i32 y2] kT)).cell? ⟨w.heap.size, 0, none⟩ = some (.int .i64 t1) := P4.out.cell 0
    have p1 : (w4.alloc (.cells #[.int .i64 x2, .int .i32 y2] kT)).cell? ⟨w.heap.size, 1, none⟩ = some (.int .i32 n1) := P4.out.cell 1
    go_wp2_with fail
    generalize w4.alloc (.cells #[.int .i64 x2, .int .i32 y2] kT) = w5 at *
    have B5 := Lib.hid B4.out
    have P5 := Lib.hid P4.out
    have Q5 := Lib.hid Q4.out
    clear B4 P4 Q4 p0 p1
  case' true =>
    have p0 : w5.cell? ⟨w.heap.size, 0, none⟩ = some (.int .i64 t1) := P5.out.cell 0
    have p1 : w5.cell? ⟨w.heap.size, 1, none⟩ = some (.int .i32 n1) := P5.out.cell 1
    go_wp2_with fail
    clear p0 p1
  all_goals
    clear he2 O2' R2
    refine (ON.out _).mono ?_
    rintro e w6 ⟨rfl, hb⟩
    have B6 := Lib.hid ((B5.out.trans (hb.mono B5.out.size)).alloc (Nat.le_trans B5.out.size hb.size) (.cells #[.int .i64 x1, .int .i32 y1] kT))
    have P6 := Lib.hid ((P5.out.below hb P5.out.lt).alloc (.cells #[.int .i64 x1, .int .i32 y1] kT))
    have Q6 := Lib.hid ((Q5.out.below hb Q5.out.lt).alloc (.cells #[.int .i64 x1, .int .i32 y1] kT))
    clear hb B5 P5 Q5 ON
    have p0 : (w6.alloc (.cells #[.int .i64 x1, .int .i32 y1] kT)).cell? ⟨w.heap.size, 0, none⟩ = some (.int .i64 t1) := P6.out.cell 0
    have p1 : (w6.alloc (.cells #[.int .i64 x1, .int .i32 y1] kT)).cell? ⟨w.heap.size, 1, none⟩ = some (.int .i32 n1) := P6.out.cell 1
    have q0 : (w6.alloc (.cells #[.int .i64 x1, .int .i32 y1] kT)).cell? ⟨w.heap.size + 1, 0, none⟩ = some (.int .i64 t2) := Q6.out.cell 0
    have q1 : (w6.alloc (.cells #[.int .i64 x1, .int .i32 y1] kT)).cell? ⟨w.heap.size + 1, 1, none⟩ = some (.int .i32 n2) := Q6.out.cell 1
    cases he1 : (e1 == 0)
    case' true =>
      rw [O1'.out (by simpa using he1)] at R1
      go_wp2_with fail
      generalize w6.alloc (.cells #[.int .i64 x1, .int .i32 y1] kT) = v6 at *
      refine (R1.out _).mono ?_
      rintro e w7 ⟨rfl, hb⟩
      have B7 := Lib.hid (B6.out.trans (hb.mono B6.out.size))
      have P7 := Lib.hid (P6.out.below hb P6.out.lt)
      have Q7 := Lib.hid (Q6.out.below hb Q6.out.lt)
      clear hb B6 P6 Q6 p0 p1 q0 q1
      have p0 : w7.cell? ⟨w.heap.size, 0, none⟩ = some (.int .i64 t1) := P7.out.cell 0
      have p1 : w7.cell? ⟨w.heap.size, 1, none⟩ = some (.int .i32 n1) := P7.out.cell 1
      have q0 : w7.cell? ⟨w.heap.size + 1, 0, none⟩ = some (.int .i64 t2) := Q7.out.cell 0
      have q1 : w7.cell? ⟨w.heap.size + 1, 1, none⟩ = some (.int .i32 n2) := Q7.out.cell 1
      go_wp2_with fail
      clear p0 p1 q0 q1
    case' false =>
      go_wp2_with fail
      generalize w6.alloc (.cells #[.int .i64 x1, .int .i32 y1] kT) = w7 at *
      have B7 := Lib.hid B6.out
      have P7 := Lib.hid P6.out
      have Q7 := Lib.hid Q6.out
      clear B6 P6 Q6 p0 p1 q0 q1
    all_goals
      clear he1 O1' R1
      refine (MI.out _).mono ?_
      rintro e w8 ⟨rfl, hb⟩
      cases h12 : ((t1 != 1) || (t2 != 1))
      case true =>
        have M1 : twoP 1 t1 n1 t2 n2 = ⟨0, 0, 91⟩ := reckon_bad (r := reckP 1 n1 n2) h12
        rw [M1]
        clear M1
        have B8 := Lib.hid ((B7.out.trans (hb.mono B7.out.size)).alloc (Nat.le_trans B7.out.size hb.size) (.cells #[.int .i64 0, .int .i32 0] kT))
        have P8 := Lib.hid ((P7.out.below hb P7.out.lt).alloc (.cells #[.int .i64 0, .int .i32 0] kT))
        have Q8 := Lib.hid ((Q7.out.below hb Q7.out.lt).alloc (.cells #[.int .i64 0, .int .i32 0] kT))
        clear hb B7 P7 Q7 MI
        have p0 : (w8.alloc (.cells #[.int .i64 0, .int .i32 0] kT)).cell? ⟨w.heap.size, 0, none⟩ = some (.int .i64 t1) := P8.out.cell 0
        have q0 : (w8.alloc (.cells #[.int .i64 0, .int .i32 0] kT)).cell? ⟨w.heap.size + 1, 0, none⟩ = some (.int .i64 t2) := Q8.out.cell 0
        cases h1 : (t1 != 1)
        case' false => have h2 : (t2 != 1) = true := by rw [h1] at h12; exact h12
        all_goals
          clear h12
          go_wp2_with fail
          go_ret
          exact ⟨rfl, B8.out⟩
      case false =>
        have M1 : twoP 1 t1 n1 t2 n2 = ⟨1, wrap32 (n1 - n2), 0⟩ := reckon_good (n := wrap32 (n1 - n2)) h12
        rw [M1]
        clear M1
        obtain ⟨h1, h2⟩ : t1 = 1 ∧ t2 = 1 := by simpa using h12
        subst h1 h2
        have PL := Lib.hid (fun y => two_0 1 (wrap32 (n1 - n2)) 1 n2 y WB.out.1 WB.out.2)
        have M2 : twoP 0 1 (wrap32 (n1 - n2)) 1 n2 = ⟨1, n1, 0⟩ := (reckon_good (t1 := 1) (t2 := 1) (n := wrap32 (wrap32 (n1 - n2) + n2)) rfl).trans (by rw [BK.out])
        rw [M2] at PL
        clear M2 h12 WB BK
        generalize wrap32 (n1 - n2) = d at *
        unfold kR at PL
        have B8 := Lib.hid ((B7.out.trans (hb.mono B7.out.size)).alloc (Nat.le_trans B7.out.size hb.size) (.cells #[.int .i64 1, .int .i32 d] kT))
        have P8 := Lib.hid ((P7.out.below hb P7.out.lt).alloc (.cells #[.int .i64 1, .int .i32 d] kT))
        have Q8 := Lib.hid ((Q7.out.below hb Q7.out.lt).alloc (.cells #[.int .i64 1, .int .i32 d] kT))
        clear hb B7 P7 Q7 MI
        have p0 : (w8.alloc (.cells #[.int .i64 1, .int .i32 d] kT)).cell? ⟨w.heap.size, 0, none⟩ = some (.int .i64 1) := P8.out.cell 0
        have q0 : (w8.alloc (.cells #[.int .i64 1, .int .i32 d] kT)).cell? ⟨w.heap.size + 1, 0, none⟩ = some (.int .i64 1) := Q8.out.cell 0
        have q1 : (w8.alloc (.cells #[.int .i64 1, .int .i32 d] kT)).cell? ⟨w.heap.size + 1, 1, none⟩ = some (.int .i32 n2) := Q8.out.cell 1
        go_wp2_with fail
        generalize w8.alloc (.cells #[.int .i64 1, .int .i32 d] kT) = v8 at *
        refine (PL.out _).mono ?_
        rintro e w9 ⟨rfl, hb⟩
        have B9 := Lib.hid ((B8.out.trans (hb.mono B8.out.size)).alloc (Nat.le_trans B8.out.size hb.size) (.cells #[.int .i64 1, .int .i32 n1] kT))
        have P9 := Lib.hid ((P8.out.below hb P8.out.lt).alloc (.cells #[.int .i64 1, .int .i32 n1] kT))
        clear hb B8 P8 Q8 PL p0 q0 q1
        have p0 : (w9.alloc (.cells #[.int .i64 1, .int .i32 n1] kT)).cell? ⟨w.heap.size, 0, none⟩ = some (.int .i64 1) := P9.out.cell 0
        have p1 : (w9.alloc (.cells #[.int .i64 1, .int .i32 n1] kT)).cell? ⟨w.heap.size, 1, none⟩ = some (.int .i32 n1) := P9.out.cell 1
        go_wp2_with fail
        go_ret
        exact ⟨rfl, B9.out⟩
end Go.Proofs.Ytmgjnalijmplcaa
