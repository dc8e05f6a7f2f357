/- Konst: texts: the program's charText and Text, the answers' Text. -/
import Derived.Test.YtmgjnalijmplcaaKonA
import Derived.Test.YtmgjnalijmplcaaWordF
import Derived.Laws.Runes
namespace Go.Proofs.Ytmgjnalijmplcaa
open Go.ChangeShapes Go.WideShapes Go.ChangeAt Go.RowKit
set_option linter.unusedVariables false
set_option linter.unusedSimpArgs false

/-- A character's text. -/
def charT (n : Int) : ByteArray := if 32 ≤ n ∧ n ≤ 126 then strOfNums [39, n, 39] else ((⟨#[67, 72, 82, 40]⟩ : ByteArray) ++ strOfNums (textNums n)) ++ (⟨#[41]⟩ : ByteArray)

/-- A value's text. -/
def konT (t n : Int) : ByteArray :=
  if rightB t n = false then ⟨#[63]⟩
  else if t = 1 then strOfNums (textNums n)
  else if t = 4 then ⟨#[78, 73, 76]⟩
  else if t = 3 then charT n
  else if n = 0 then ⟨#[70, 65, 76, 83, 69]⟩
  else ⟨#[84, 82, 85, 69]⟩

theorem char_yes {n : Int} (h : 32 ≤ n ∧ n ≤ 126) : charT n = strOfNums [39, n, 39] := if_pos h

theorem char_no {n : Int} (h : ¬ (32 ≤ n ∧ n ≤ 126)) : charT n = ((⟨#[67, 72, 82, 40]⟩ : ByteArray) ++ strOfNums (textNums n)) ++ (⟨#[41]⟩ : ByteArray) := if_neg h

theorem konT_wrong {t n : Int} (h : rightB t n = false) : konT t n = ⟨#[63]⟩ := if_pos h

theorem konT_1 {n : Int} (h : rightB 1 n = true) : konT 1 n = strOfNums (textNums n) := by unfold konT; rw [if_neg (by rw [h]; exact Bool.noConfusion), if_pos rfl]

theorem konT_4 {n : Int} (h : rightB 4 n = true) : konT 4 n = ⟨#[78, 73, 76]⟩ := by unfold konT; rw [if_neg (by rw [h]; exact Bool.noConfusion), if_neg (by decide), if_pos rfl]

theorem konT_3 {n : Int} (h : rightB 3 n = true) : konT 3 n = charT n := by unfold konT; rw [if_neg (by rw [h]; exact Bool.noConfusion), if_neg (by decide), if_neg (by decide), if_pos rfl]

theorem konT_20 (h : rightB 2 0 = true) : konT 2 0 = ⟨#[70, 65, 76, 83, 69]⟩ := by unfold konT; rw [if_neg (by rw [h]; exact Bool.noConfusion), if_neg (by decide), if_neg (by decide), if_neg (by decide), if_pos rfl]

theorem konT_21 (h : rightB 2 1 = true) : konT 2 1 = ⟨#[84, 82, 85, 69]⟩ := by unfold konT; rw [if_neg (by rw [h]; exact Bool.noConfusion), if_neg (by decide), if_neg (by decide), if_neg (by decide), if_neg (by decide)]

theorem encode_ascii {n : Int} (h0 : 32 ≤ n) (h1 : n ≤ 126) : Utf8.encode n = strOfNums [n] := by
  have hv : Utf8.valid n = true := by simp [Utf8.valid]; omega
  have hc : n.toNat < 128 := by omega
  unfold Utf8.encode
  simp only [hv, if_true, hc]
  rfl

theorem quoted (n : Int) : (⟨#[39]⟩ : ByteArray) ++ strOfNums [n] ++ (⟨#[39]⟩ : ByteArray) = strOfNums [39, n, 39] := by
  rw [show (⟨#[39]⟩ : ByteArray) = strOfNums [39] from rfl, str_app, str_app]
  rfl

theorem text_len (n : Int) : (strOfNums (textNums n)).size ≤ 21 := by
  rw [strOfNums_size]
  have := decF_length 20 n.natAbs (by omega)
  unfold textNums
  split <;> (try simp only [List.length_cons]) <;> omega

set_option maxHeartbeats 2000000 in
theorem chartext_any (n : Int) (w : World) (n0 : -2147483648 ≤ n) (n1 : n ≤ 2147483647) : Calls Try.prog 31 #[.int .i32 n] w fun e w' => e = .returned (.string (charT n)) ∧ Below w.heap.size w w' := by
  have TX := Lib.hid (fun y => text_any n y (by omega) (by omega))
  have hl := text_len n
  by_cases h0 : n < 32
  · have C := Lib.hid (char_no (n := n) (by omega))
    generalize strOfNums (textNums n) = s at *
    have d0 : decide (n < 32) = true := decide_eq_true h0
    go_enter Try.func31, Try.ntmps31
    go_wp2_with fail
    refine (TX.out _).mono ?_
    rintro e w1 ⟨rfl, hb1⟩
    have B1 := Lib.hid hb1
    clear hb1
    go_wp2_with fail
    go_ret
    exact ⟨by rw [C.out]; rfl, B1.out⟩
  · have d0 : decide (n < 32) = false := decide_eq_false h0
    by_cases h1 : 126 < n
    · have C := Lib.hid (char_no (n := n) (by omega))
      generalize strOfNums (textNums n) = s at *
      have d1 : decide (126 < n) = true := decide_eq_true h1
      go_enter Try.func31, Try.ntmps31
      go_wp2_with fail
      refine (TX.out _).mono ?_
      rintro e w1 ⟨rfl, hb1⟩
      have B1 := Lib.hid hb1
      clear hb1
      go_wp2_with fail
      go_ret
      exact ⟨by rw [C.out]; rfl, B1.out⟩
    · have d1 : decide (126 < n) = false := decide_eq_false h1
      have C := Lib.hid ((char_yes (n := n) (by omega)).trans (quoted n).symm)
      have E := encode_ascii (n := n) (by omega) (by omega)
      have hs : (strOfNums [n]).size = 1 := by rw [strOfNums_size]; rfl
      clear TX hl
      generalize strOfNums [n] = s at *
      go_enter Try.func31, Try.ntmps31
      go_wp2_with fail
      go_ret
      exact ⟨by rw [C.out]; rfl, Below.refl _ _⟩

set_option maxHeartbeats 2000000 in
theorem kontext_any (t n : Int) (w : World) (n0 : -2147483648 ≤ n) (n1 : n ≤ 2147483647) : Calls Try.prog 16 #[.agg #[.int .i64 t, .int .i32 n]] w fun e w' => e = .returned (.string (konT t n)) ∧ Below w.heap.size w w' := by
  have RT := Lib.hid (fun y => right_any t n y n0 n1)
  have TX := Lib.hid (fun y => text_any n y (by omega) (by omega))
  have CX := Lib.hid (fun y => chartext_any n y n0 n1)
  have BA := Lib.hid ((Below.refl w.heap.size w).alloc (Nat.le_refl _) (.cells #[.int .i64 t, .int .i32 n] kT))
  have P := Lib.hid (Whole.made w kT #[.int .i64 t, .int .i32 n] _ rfl)
  have R1 := Lib.hid (right_none (t := t) (n := n))
  cases hr : rightB t n
  case false =>
    have HR := Lib.hid (konT_wrong hr)
    rw [hr] at RT
    clear R1 TX CX hr
    go_enter Try.func16, Try.ntmps16
    go_wp2_with fail
    refine (RT.out _).mono ?_
    rintro e w1 ⟨rfl, hb1⟩
    have B1 := Lib.hid (BA.out.trans (hb1.mono BA.out.size))
    clear hb1
    go_wp2_with fail
    go_ret
    exact ⟨by rw [HR.out]; rfl, B1.out⟩
  rw [hr] at RT
  by_cases h1 : t = 1
  · subst h1
    have HR := Lib.hid (konT_1 hr)
    generalize strOfNums (textNums n) = s at *
    clear R1 CX hr
    go_enter Try.func16, Try.ntmps16
    go_wp2_with fail
    generalize w.alloc (.cells #[.int .i64 1, .int .i32 n] kT) = V at *
    refine (RT.out _).mono ?_
    rintro e w1 ⟨rfl, hb1⟩
    have B1 := Lib.hid (BA.out.trans (hb1.mono BA.out.size))
    have P1 := Lib.hid (P.out.below hb1 P.out.lt)
    clear hb1
    have p0 : w1.cell? ⟨w.heap.size, 0, none⟩ = some (.int .i64 1) := P1.out.cell 0
    have p1 : w1.cell? ⟨w.heap.size, 1, none⟩ = some (.int .i32 n) := P1.out.cell 1
    go_wp2_with fail
    refine (TX.out _).mono ?_
    rintro e w2 ⟨rfl, hb2⟩
    have B2 := Lib.hid (B1.out.trans (hb2.mono B1.out.size))
    clear hb2
    go_wp2_with fail
    go_ret
    exact ⟨by rw [HR.out]; rfl, B2.out⟩
  by_cases h4 : t = 4
  · subst h4
    have HR := Lib.hid (konT_4 hr)
    clear R1 CX TX hr h1
    go_enter Try.func16, Try.ntmps16
    go_wp2_with fail
    generalize w.alloc (.cells #[.int .i64 4, .int .i32 n] kT) = V at *
    refine (RT.out _).mono ?_
    rintro e w1 ⟨rfl, hb1⟩
    have B1 := Lib.hid (BA.out.trans (hb1.mono BA.out.size))
    have P1 := Lib.hid (P.out.below hb1 P.out.lt)
    clear hb1
    have p0 : w1.cell? ⟨w.heap.size, 0, none⟩ = some (.int .i64 4) := P1.out.cell 0
    go_wp2_with fail
    go_ret
    exact ⟨by rw [HR.out]; rfl, B1.out⟩
  by_cases h3 : t = 3
  · subst h3
    have HR := Lib.hid (konT_3 hr)
    generalize charT n = s at *
    clear R1 TX hr h1 h4
    go_enter Try.func16, Try.ntmps16
    go_wp2_with fail
    generalize w.alloc (.cells #[.int .i64 3, .int .i32 n] kT) = V at *
    refine (RT.out _).mono ?_
    rintro e w1 ⟨rfl, hb1⟩
    have B1 := Lib.hid (BA.out.trans (hb1.mono BA.out.size))
    have P1 := Lib.hid (P.out.below hb1 P.out.lt)
    clear hb1
    have p0 : w1.cell? ⟨w.heap.size, 0, none⟩ = some (.int .i64 3) := P1.out.cell 0
    have p1 : w1.cell? ⟨w.heap.size, 1, none⟩ = some (.int .i32 n) := P1.out.cell 1
    go_wp2_with fail
    refine (CX.out _).mono ?_
    rintro e w2 ⟨rfl, hb2⟩
    have B2 := Lib.hid (B1.out.trans (hb2.mono B1.out.size))
    clear hb2
    go_wp2_with fail
    go_ret
    exact ⟨by rw [HR.out]; rfl, B2.out⟩
  by_cases h2 : t = 2
  · subst h2
    have hn : n = 0 ∨ n = 1 := by
      rw [right_2 rfl] at hr
      simpa using hr
    rcases hn with rfl | rfl
    · have HR := Lib.hid (konT_20 hr)
      clear R1 TX hr h1 h4 h3 CX
      go_enter Try.func16, Try.ntmps16
      go_wp2_with fail
      generalize w.alloc (.cells #[.int .i64 2, .int .i32 0] kT) = V at *
      refine (RT.out _).mono ?_
      rintro e w1 ⟨rfl, hb1⟩
      have B1 := Lib.hid (BA.out.trans (hb1.mono BA.out.size))
      have P1 := Lib.hid (P.out.below hb1 P.out.lt)
      clear hb1
      have p0 : w1.cell? ⟨w.heap.size, 0, none⟩ = some (.int .i64 2) := P1.out.cell 0
      have p1 : w1.cell? ⟨w.heap.size, 1, none⟩ = some (.int .i32 0) := P1.out.cell 1
      go_wp2_with fail
      go_ret
      exact ⟨by rw [HR.out]; rfl, B1.out⟩
    · have HR := Lib.hid (konT_21 hr)
      clear R1 TX hr h1 h4 h3 CX
      go_enter Try.func16, Try.ntmps16
      go_wp2_with fail
      generalize w.alloc (.cells #[.int .i64 2, .int .i32 1] kT) = V at *
      refine (RT.out _).mono ?_
      rintro e w1 ⟨rfl, hb1⟩
      have B1 := Lib.hid (BA.out.trans (hb1.mono BA.out.size))
      have P1 := Lib.hid (P.out.below hb1 P.out.lt)
      clear hb1
      have p0 : w1.cell? ⟨w.heap.size, 0, none⟩ = some (.int .i64 2) := P1.out.cell 0
      have p1 : w1.cell? ⟨w.heap.size, 1, none⟩ = some (.int .i32 1) := P1.out.cell 1
      go_wp2_with fail
      go_ret
      exact ⟨by rw [HR.out]; rfl, B1.out⟩
  exfalso
  rw [R1.out (by simpa using h1) (by simpa using h2) (by simpa using h3) (by simpa using h4)] at hr
  cases hr

set_option maxHeartbeats 4000000 in
theorem refkontext_any (t n : Int) (w : World) (n0 : -2147483648 ≤ n) (n1 : n ≤ 2147483647) : Calls Try.prog 17 #[.agg #[.int .i64 t, .int .i32 n]] w fun e w' => e = .returned (.string (konT t n)) ∧ Below w.heap.size w w' := by
  have RT := Lib.hid (fun y => refright_any t n y n0 n1)
  have TX := Lib.hid (fun y => reftext_any n y (by omega) (by omega))
  have hl := text_len n
  have BA := Lib.hid ((Below.refl w.heap.size w).alloc (Nat.le_refl _) (.cells #[.int .i64 t, .int .i32 n] rT))
  have P := Lib.hid (Whole.made w rT #[.int .i64 t, .int .i32 n] _ rfl)
  have R1 := Lib.hid (right_none (t := t) (n := n))
  cases hr : rightB t n
  case false =>
    have HR := Lib.hid (konT_wrong hr)
    rw [hr] at RT
    clear R1 TX hr
    go_enter Try.func17, Try.ntmps17
    go_wp2_with fail
    refine (RT.out _).mono ?_
    rintro e w1 ⟨rfl, hb1⟩
    have B1 := Lib.hid (BA.out.trans (hb1.mono BA.out.size))
    clear hb1
    go_wp2_with fail
    go_ret
    exact ⟨by rw [HR.out]; rfl, B1.out⟩
  rw [hr] at RT
  have hcase : t = 1 ∨ t = 4 ∨ (t = 3 ∧ ¬ (32 ≤ n ∧ n ≤ 126)) ∨ (t = 3 ∧ 32 ≤ n ∧ n ≤ 126) ∨ (t = 2 ∧ n = 0) ∨ (t = 2 ∧ n = 1) := by
    by_cases h1 : t = 1
    · exact .inl h1
    by_cases h4 : t = 4
    · exact .inr (.inl h4)
    by_cases h3 : t = 3
    · by_cases hb : 32 ≤ n ∧ n ≤ 126
      · exact .inr (.inr (.inr (.inl ⟨h3, hb⟩)))
      · exact .inr (.inr (.inl ⟨h3, hb⟩))
    by_cases h2 : t = 2
    · subst h2
      rw [right_2 rfl] at hr
      have hn : n = 0 ∨ n = 1 := by simpa using hr
      exact .inr (.inr (.inr (.inr (hn.imp (fun h => ⟨rfl, h⟩) (fun h => ⟨rfl, h⟩)))))
    rw [R1.out (by simpa using h1) (by simpa using h2) (by simpa using h3) (by simpa using h4)] at hr
    cases hr
  clear R1
  rcases hcase with rfl | rfl | ⟨rfl, hb⟩ | ⟨rfl, g0, g1⟩ | ⟨rfl, rfl⟩ | ⟨rfl, rfl⟩
  · have HR := Lib.hid (konT_1 hr)
    generalize strOfNums (textNums n) = s at *
    clear hr
    go_enter Try.func17, Try.ntmps17
    go_wp2_with fail
    generalize w.alloc (.cells #[.int .i64 1, .int .i32 n] rT) = V at *
    refine (RT.out _).mono ?_
    rintro e w1 ⟨rfl, hb1⟩
    have B1 := Lib.hid (BA.out.trans (hb1.mono BA.out.size))
    have P1 := Lib.hid (P.out.below hb1 P.out.lt)
    clear hb1
    have p1 : w1.cell? ⟨w.heap.size, 1, none⟩ = some (.int .i32 n) := P1.out.cell 1
    go_wp2_with fail
    refine (TX.out _).mono ?_
    rintro e w2 ⟨rfl, hb2⟩
    have B2 := Lib.hid (B1.out.trans (hb2.mono B1.out.size))
    have P2 := Lib.hid (P1.out.below hb2 P1.out.lt)
    clear hb2 p1
    have p0 : w2.cell? ⟨w.heap.size, 0, none⟩ = some (.int .i64 1) := P2.out.cell 0
    go_wp2_with fail
    go_ret
    exact ⟨by rw [HR.out]; rfl, B2.out⟩
  · have HR := Lib.hid (konT_4 hr)
    generalize strOfNums (textNums n) = s at *
    clear hr
    go_enter Try.func17, Try.ntmps17
    go_wp2_with fail
    generalize w.alloc (.cells #[.int .i64 4, .int .i32 n] rT) = V at *
    refine (RT.out _).mono ?_
    rintro e w1 ⟨rfl, hb1⟩
    have B1 := Lib.hid (BA.out.trans (hb1.mono BA.out.size))
    have P1 := Lib.hid (P.out.below hb1 P.out.lt)
    clear hb1
    have p1 : w1.cell? ⟨w.heap.size, 1, none⟩ = some (.int .i32 n) := P1.out.cell 1
    go_wp2_with fail
    refine (TX.out _).mono ?_
    rintro e w2 ⟨rfl, hb2⟩
    have B2 := Lib.hid (B1.out.trans (hb2.mono B1.out.size))
    have P2 := Lib.hid (P1.out.below hb2 P1.out.lt)
    clear hb2 p1
    have p0 : w2.cell? ⟨w.heap.size, 0, none⟩ = some (.int .i64 4) := P2.out.cell 0
    go_wp2_with fail
    go_ret
    exact ⟨by rw [HR.out]; rfl, B2.out⟩
  · have HR := Lib.hid ((konT_3 hr).trans (char_no hb))
    generalize strOfNums (textNums n) = s at *
    clear hr
    go_enter Try.func17, Try.ntmps17
    go_wp2_with fail
    generalize w.alloc (.cells #[.int .i64 3, .int .i32 n] rT) = V at *
    refine (RT.out _).mono ?_
    rintro e w1 ⟨rfl, hb1⟩
    have B1 := Lib.hid (BA.out.trans (hb1.mono BA.out.size))
    have P1 := Lib.hid (P.out.below hb1 P.out.lt)
    clear hb1
    have p1 : w1.cell? ⟨w.heap.size, 1, none⟩ = some (.int .i32 n) := P1.out.cell 1
    go_wp2_with fail
    refine (TX.out _).mono ?_
    rintro e w2 ⟨rfl, hb2⟩
    have B2 := Lib.hid (B1.out.trans (hb2.mono B1.out.size))
    have P2 := Lib.hid (P1.out.below hb2 P1.out.lt)
    clear hb2 p1
    have p0 : w2.cell? ⟨w.heap.size, 0, none⟩ = some (.int .i64 3) := P2.out.cell 0
    have p1 : w2.cell? ⟨w.heap.size, 1, none⟩ = some (.int .i32 n) := P2.out.cell 1
    by_cases hc : 32 ≤ n
    · have d0 : decide (32 ≤ n) = true := decide_eq_true hc
      have d1 : decide (n ≤ 126) = false := decide_eq_false (fun h => hb ⟨hc, h⟩)
      clear hb
      go_wp2_with fail
      go_ret
      exact ⟨by rw [HR.out]; rfl, B2.out⟩
    · have d0 : decide (32 ≤ n) = false := decide_eq_false hc
      clear hb
      go_wp2_with fail
      go_ret
      exact ⟨by rw [HR.out]; rfl, B2.out⟩
  · have HR := Lib.hid ((konT_3 hr).trans (char_yes ⟨g0, g1⟩))
    generalize strOfNums (textNums n) = s at *
    clear hr
    go_enter Try.func17, Try.ntmps17
    go_wp2_with fail
    generalize w.alloc (.cells #[.int .i64 3, .int .i32 n] rT) = V at *
    refine (RT.out _).mono ?_
    rintro e w1 ⟨rfl, hb1⟩
    have B1 := Lib.hid (BA.out.trans (hb1.mono BA.out.size))
    have P1 := Lib.hid (P.out.below hb1 P.out.lt)
    clear hb1
    have p1 : w1.cell? ⟨w.heap.size, 1, none⟩ = some (.int .i32 n) := P1.out.cell 1
    go_wp2_with fail
    refine (TX.out _).mono ?_
    rintro e w2 ⟨rfl, hb2⟩
    have B2 := Lib.hid (B1.out.trans (hb2.mono B1.out.size))
    have P2 := Lib.hid (P1.out.below hb2 P1.out.lt)
    clear hb2 p1
    have p0 : w2.cell? ⟨w.heap.size, 0, none⟩ = some (.int .i64 3) := P2.out.cell 0
    have p1 : w2.cell? ⟨w.heap.size, 1, none⟩ = some (.int .i32 n) := P2.out.cell 1
    have d0 : decide (32 ≤ n) = true := decide_eq_true g0
    have d1 : decide (n ≤ 126) = true := decide_eq_true g1
    have hw : n % 256 = n := by omega
    go_wp2_with fail
    rw [run_convert_bytes_arg _ 54 5 Try.underlying54 Try.underlying5 w2.heap.size 0 3 3 [39, n, 39] rfl (fun i hi => by
      have : i = 0 ∨ i = 1 ∨ i = 2 := by omega
      rcases this with rfl | rfl | rfl <;> simp [go_sem]) 9 Try.underlying9]
    go_wp2_with fail
    go_ret
    exact ⟨by rw [HR.out]; rfl, B2.out.alloc B2.out.size _⟩
  · have HR := Lib.hid (konT_20 hr)
    generalize strOfNums (textNums 0) = s at *
    clear hr
    go_enter Try.func17, Try.ntmps17
    go_wp2_with fail
    generalize w.alloc (.cells #[.int .i64 2, .int .i32 0] rT) = V at *
    refine (RT.out _).mono ?_
    rintro e w1 ⟨rfl, hb1⟩
    have B1 := Lib.hid (BA.out.trans (hb1.mono BA.out.size))
    have P1 := Lib.hid (P.out.below hb1 P.out.lt)
    clear hb1
    have p1 : w1.cell? ⟨w.heap.size, 1, none⟩ = some (.int .i32 0) := P1.out.cell 1
    go_wp2_with fail
    refine (TX.out _).mono ?_
    rintro e w2 ⟨rfl, hb2⟩
    have B2 := Lib.hid (B1.out.trans (hb2.mono B1.out.size))
    have P2 := Lib.hid (P1.out.below hb2 P1.out.lt)
    clear hb2 p1
    have p0 : w2.cell? ⟨w.heap.size, 0, none⟩ = some (.int .i64 2) := P2.out.cell 0
    have p1 : w2.cell? ⟨w.heap.size, 1, none⟩ = some (.int .i32 0) := P2.out.cell 1
    go_wp2_with fail
    go_ret
    exact ⟨by rw [HR.out]; rfl, B2.out⟩
  · have HR := Lib.hid (konT_21 hr)
    generalize strOfNums (textNums 1) = s at *
    clear hr
    go_enter Try.func17, Try.ntmps17
    go_wp2_with fail
    generalize w.alloc (.cells #[.int .i64 2, .int .i32 1] rT) = V at *
    refine (RT.out _).mono ?_
    rintro e w1 ⟨rfl, hb1⟩
    have B1 := Lib.hid (BA.out.trans (hb1.mono BA.out.size))
    have P1 := Lib.hid (P.out.below hb1 P.out.lt)
    clear hb1
    have p1 : w1.cell? ⟨w.heap.size, 1, none⟩ = some (.int .i32 1) := P1.out.cell 1
    go_wp2_with fail
    refine (TX.out _).mono ?_
    rintro e w2 ⟨rfl, hb2⟩
    have B2 := Lib.hid (B1.out.trans (hb2.mono B1.out.size))
    have P2 := Lib.hid (P1.out.below hb2 P1.out.lt)
    clear hb2 p1
    have p0 : w2.cell? ⟨w.heap.size, 0, none⟩ = some (.int .i64 2) := P2.out.cell 0
    have p1 : w2.cell? ⟨w.heap.size, 1, none⟩ = some (.int .i32 1) := P2.out.cell 1
    go_wp2_with fail
    go_ret
    exact ⟨by rw [HR.out]; rfl, B2.out⟩
end Go.Proofs.Ytmgjnalijmplcaa
