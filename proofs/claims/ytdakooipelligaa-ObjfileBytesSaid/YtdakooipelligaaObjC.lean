/- Objfile: the program's words, isUpTo, isWord, hasMeaning. -/
import Derived.Test.YtdakooipelligaaObjB
namespace Go.Proofs.Ytdakooipelligaa
open Go.ChangeShapes Go.WideShapes Go.ChangeAt Go.RowKit
set_option linter.unusedVariables false
set_option linter.unusedSimpArgs false

/-- Can there be what a fixup means? m imports. -/
def meanOk (m data excs : Int) (f : Fx) : Prop :=
  ((0 ≤ f.md ∧ f.md ≤ m) ∧ 0 ≤ f.vl ∧ f.vl ≤ 16384) ∧
    (if f.kd = 1 then f.md ≠ 0 ∨ f.vl ≤ data else if f.kd = 2 then f.md ≠ 0 ∨ f.vl < excs else if f.kd = 3 then f.md ≠ 0 else f.md = 0 ∧ f.vl = 0)

instance (m data excs : Int) (f : Fx) : Decidable (meanOk m data excs f) := by unfold meanOk; infer_instance

theorem wordsK_1 : wordsK 1 = 2 := rfl

theorem wordsK_2 : wordsK 2 = 2 := rfl

theorem wordsK_3 : wordsK 3 = 1 := rfl

theorem wordsK_4 : wordsK 4 = 2 := rfl

theorem wordsK_no {k : Int} (h1 : k ≠ 1) (h2 : k ≠ 2) (h3 : k ≠ 3) (h4 : k ≠ 4) : wordsK k = 0 := by
  unfold wordsK
  rw [if_neg h3, if_neg (by omega)]

theorem fit_mean (n m data excs : Int) (f : Fx) : fxFit n m data excs f ↔ (wordsK f.kd ≠ 0 ∧ 0 ≤ f.pl ∧ f.pl ≤ n - wordsK f.kd) ∧ meanOk m data excs f := by
  unfold fxFit meanOk
  by_cases h1 : f.kd = 1
  · rw [h1, wordsK_1]
    simp
    omega
  · by_cases h2 : f.kd = 2
    · rw [h2, wordsK_2]
      simp
      omega
    · by_cases h3 : f.kd = 3
      · rw [h3, wordsK_3]
        simp
        omega
      · by_cases h4 : f.kd = 4
        · rw [h4, wordsK_4]
          simp
          omega
        · rw [wordsK_no h1 h2 h3 h4]
          simp

set_option maxHeartbeats 16000000 in
set_option maxRecDepth 100000 in
theorem words_any (k : Int) (w : World) : Calls Try.prog 51 #[.int .i64 k] w fun e w' => e = .returned (.int .i64 (wordsK k)) ∧ w = w' := by
  by_cases h1 : k = 1
  · subst h1
    rw [wordsK_1]
    go_enter Try.func51, Try.ntmps51
    go_wp2_with fail
    go_ret
    exact ⟨rfl, rfl⟩
  have d1 : (k == 1) = false := by simp [h1]
  by_cases h2 : k = 2
  · subst h2
    rw [wordsK_2]
    go_enter Try.func51, Try.ntmps51
    go_wp2_with fail
    go_ret
    exact ⟨rfl, rfl⟩
  have d2 : (k == 2) = false := by simp [h2]
  by_cases h4 : k = 4
  · subst h4
    rw [wordsK_4]
    go_enter Try.func51, Try.ntmps51
    go_wp2_with fail
    go_ret
    exact ⟨rfl, rfl⟩
  have d4 : (k == 4) = false := by simp [h4]
  by_cases h3 : k = 3
  · subst h3
    rw [wordsK_3]
    go_enter Try.func51, Try.ntmps51
    go_wp2_with fail
    go_ret
    exact ⟨rfl, rfl⟩
  have d3 : (k == 3) = false := by simp [h3]
  rw [wordsK_no h1 h2 h3 h4]
  go_enter Try.func51, Try.ntmps51
  go_wp2_with fail
  go_ret
  exact ⟨rfl, rfl⟩

set_option maxHeartbeats 16000000 in
set_option maxRecDepth 100000 in
theorem upTo_any (n most : Int) (w : World) : Calls Try.prog 17 #[.int .i64 n, .int .i64 most] w fun e w' => e = .returned (.bool (decide (0 ≤ n ∧ n ≤ most))) ∧ w = w' := by
  by_cases h1 : 0 ≤ n
  · have d1 : decide (0 ≤ n) = true := decide_eq_true h1
    by_cases h2 : n ≤ most
    · have d2 : decide (n ≤ most) = true := decide_eq_true h2
      rw [decide_eq_true ⟨h1, h2⟩]
      clear h1 h2
      go_enter Try.func17, Try.ntmps17
      go_wp2_with fail
      go_ret
      exact ⟨rfl, rfl⟩
    · have d2 : decide (n ≤ most) = false := decide_eq_false h2
      rw [decide_eq_false (fun h => h2 h.2)]
      clear h1 h2
      go_enter Try.func17, Try.ntmps17
      go_wp2_with fail
      go_ret
      exact ⟨rfl, rfl⟩
  · have d1 : decide (0 ≤ n) = false := decide_eq_false h1
    rw [decide_eq_false (fun h => h1 h.1)]
    clear h1
    go_enter Try.func17, Try.ntmps17
    go_wp2_with fail
    go_ret
    exact ⟨rfl, rfl⟩

set_option maxHeartbeats 16000000 in
set_option maxRecDepth 100000 in
theorem isWord_any (n : Int) (A : Option Addr) (m c : Nat) (w : World) : Calls Try.prog 18 #[.int .i64 n, .slice A m c] w fun e w' => e = .returned (.bool (decide (0 ≤ n ∧ n < (m : Int)))) ∧ w = w' := by
  by_cases h1 : 0 ≤ n
  · have d1 : decide (0 ≤ n) = true := decide_eq_true h1
    by_cases h2 : n < (m : Int)
    · have d2 : decide (n < (m : Int)) = true := decide_eq_true h2
      rw [decide_eq_true ⟨h1, h2⟩]
      clear h1 h2
      go_enter Try.func18, Try.ntmps18
      go_wp2_with fail
      go_ret
      exact ⟨rfl, rfl⟩
    · have d2 : decide (n < (m : Int)) = false := decide_eq_false h2
      rw [decide_eq_false (fun h => h2 h.2)]
      clear h1 h2
      go_enter Try.func18, Try.ntmps18
      go_wp2_with fail
      go_ret
      exact ⟨rfl, rfl⟩
  · have d1 : decide (0 ≤ n) = false := decide_eq_false h1
    rw [decide_eq_false (fun h => h1 h.1)]
    clear h1
    go_enter Try.func18, Try.ntmps18
    go_wp2_with fail
    go_ret
    exact ⟨rfl, rfl⟩

set_option maxHeartbeats 16000000 in
set_option maxRecDepth 100000 in
theorem mean_any (pl kd fm vl : Int) (md : ByteArray) (key : Int) (Ai : Option Addr) (im : List Im) (ci : Nat) (Ac : Option Addr) (cd : List Int) (cc : Nat) (Af : Option Addr) (fx : List Fx) (cf : Nat) (As : Option Addr) (sg : List Sg) (cs : Nat) (dt ex bd : Int) (w : World) (hi : im.length ≤ 140737488355328) :
    Calls Try.prog 52 #[.agg #[.int .i64 pl, .int .i64 kd, .int .i64 fm, .int .i64 vl], .agg #[.string md, .int .u32 key, .slice Ai im.length ci, .slice Ac cd.length cc, .slice Af fx.length cf, .slice As sg.length cs, .int .i64 dt, .int .i64 ex, .int .i64 bd]] w fun e w' => e = .returned (.bool (decide (meanOk im.length dt ex ⟨pl, kd, fm, vl⟩))) ∧ Below w.heap.size w w' := by
  have X1 := Lib.hid ((Whole.made w fxT #[.int .i64 pl, .int .i64 kd, .int .i64 fm, .int .i64 vl] _ rfl).alloc (.cells #[.string md, .int .u32 key, .slice Ai im.length ci, .slice Ac cd.length cc, .slice Af fx.length cf, .slice As sg.length cs, .int .i64 dt, .int .i64 ex, .int .i64 bd] oT))
  have X2 := Lib.hid (Whole.made (w.alloc (.cells #[.int .i64 pl, .int .i64 kd, .int .i64 fm, .int .i64 vl] fxT)) oT #[.string md, .int .u32 key, .slice Ai im.length ci, .slice Ac cd.length cc, .slice Af fx.length cf, .slice As sg.length cs, .int .i64 dt, .int .i64 ex, .int .i64 bd] (w.heap.size + 1) (by simp))
  have BA := Lib.hid (show Below w.heap.size w ((w.alloc (.cells #[.int .i64 pl, .int .i64 kd, .int .i64 fm, .int .i64 vl] fxT)).alloc (.cells #[.string md, .int .u32 key, .slice Ai im.length ci, .slice Ac cd.length cc, .slice Af fx.length cf, .slice As sg.length cs, .int .i64 dt, .int .i64 ex, .int .i64 bd] oT)) from ((Below.refl w.heap.size w).alloc (Nat.le_refl _) _).alloc (by simp) _)
  have q1 : ((w.alloc (.cells #[.int .i64 pl, .int .i64 kd, .int .i64 fm, .int .i64 vl] fxT)).alloc (.cells #[.string md, .int .u32 key, .slice Ai im.length ci, .slice Ac cd.length cc, .slice Af fx.length cf, .slice As sg.length cs, .int .i64 dt, .int .i64 ex, .int .i64 bd] oT)).cell? ⟨w.heap.size, 1, none⟩ = some (.int .i64 kd) := X1.out.cell 1
  have q2 : ((w.alloc (.cells #[.int .i64 pl, .int .i64 kd, .int .i64 fm, .int .i64 vl] fxT)).alloc (.cells #[.string md, .int .u32 key, .slice Ai im.length ci, .slice Ac cd.length cc, .slice Af fx.length cf, .slice As sg.length cs, .int .i64 dt, .int .i64 ex, .int .i64 bd] oT)).cell? ⟨w.heap.size, 2, none⟩ = some (.int .i64 fm) := X1.out.cell 2
  have q3 : ((w.alloc (.cells #[.int .i64 pl, .int .i64 kd, .int .i64 fm, .int .i64 vl] fxT)).alloc (.cells #[.string md, .int .u32 key, .slice Ai im.length ci, .slice Ac cd.length cc, .slice Af fx.length cf, .slice As sg.length cs, .int .i64 dt, .int .i64 ex, .int .i64 bd] oT)).cell? ⟨w.heap.size, 3, none⟩ = some (.int .i64 vl) := X1.out.cell 3
  have r2 : ((w.alloc (.cells #[.int .i64 pl, .int .i64 kd, .int .i64 fm, .int .i64 vl] fxT)).alloc (.cells #[.string md, .int .u32 key, .slice Ai im.length ci, .slice Ac cd.length cc, .slice Af fx.length cf, .slice As sg.length cs, .int .i64 dt, .int .i64 ex, .int .i64 bd] oT)).cell? ⟨w.heap.size + 1, 2, none⟩ = some (.slice Ai im.length ci) := X2.out.cell 2
  have r6 : ((w.alloc (.cells #[.int .i64 pl, .int .i64 kd, .int .i64 fm, .int .i64 vl] fxT)).alloc (.cells #[.string md, .int .u32 key, .slice Ai im.length ci, .slice Ac cd.length cc, .slice Af fx.length cf, .slice As sg.length cs, .int .i64 dt, .int .i64 ex, .int .i64 bd] oT)).cell? ⟨w.heap.size + 1, 6, none⟩ = some (.int .i64 dt) := X2.out.cell 6
  have r7 : ((w.alloc (.cells #[.int .i64 pl, .int .i64 kd, .int .i64 fm, .int .i64 vl] fxT)).alloc (.cells #[.string md, .int .u32 key, .slice Ai im.length ci, .slice Ac cd.length cc, .slice Af fx.length cf, .slice As sg.length cs, .int .i64 dt, .int .i64 ex, .int .i64 bd] oT)).cell? ⟨w.heap.size + 1, 7, none⟩ = some (.int .i64 ex) := X2.out.cell 7
  have U1 := Lib.hid (upTo_any fm im.length ((w.alloc (.cells #[.int .i64 pl, .int .i64 kd, .int .i64 fm, .int .i64 vl] fxT)).alloc (.cells #[.string md, .int .u32 key, .slice Ai im.length ci, .slice Ac cd.length cc, .slice Af fx.length cf, .slice As sg.length cs, .int .i64 dt, .int .i64 ex, .int .i64 bd] oT)))
  have U2 := Lib.hid (upTo_any vl 16384 ((w.alloc (.cells #[.int .i64 pl, .int .i64 kd, .int .i64 fm, .int .i64 vl] fxT)).alloc (.cells #[.string md, .int .u32 key, .slice Ai im.length ci, .slice Ac cd.length cc, .slice Af fx.length cf, .slice As sg.length cs, .int .i64 dt, .int .i64 ex, .int .i64 bd] oT)))
  have M := Lib.hid (show meanOk im.length dt ex ⟨pl, kd, fm, vl⟩ ↔ ((0 ≤ fm ∧ fm ≤ im.length) ∧ 0 ≤ vl ∧ vl ≤ 16384) ∧ (if kd = 1 then fm ≠ 0 ∨ vl ≤ dt else if kd = 2 then fm ≠ 0 ∨ vl < ex else if kd = 3 then fm ≠ 0 else fm = 0 ∧ vl = 0) from Iff.rfl)
  have DM := Lib.hid (show ∀ b : Bool, (meanOk im.length dt ex ⟨pl, kd, fm, vl⟩ ↔ b = true) → decide (meanOk im.length dt ex ⟨pl, kd, fm, vl⟩) = b from fun b h => by
    cases b
    · exact decide_eq_false (fun h' => by cases h.1 h')
    · exact decide_eq_true (h.2 rfl))
  generalize decide (meanOk im.length dt ex ⟨pl, kd, fm, vl⟩) = r at *
  generalize meanOk im.length dt ex ⟨pl, kd, fm, vl⟩ = R at *
  by_cases h1 : 0 ≤ fm ∧ fm ≤ (im.length : Int)
  case neg =>
    have RR := Lib.hid (DM.out false ⟨fun h => absurd (M.out.1 h).1.1 h1, fun h => by cases h⟩)
    rw [decide_eq_false h1] at U1
    clear DM M h1
    go_enter Try.func52, Try.ntmps52
    go_wp2_with fail
    refine U1.out.mono ?_
    rintro e w1 ⟨rfl, rfl⟩
    go_wp2_with fail
    go_ret
    rw [RR.out]
    exact ⟨rfl, BA.out⟩
  rw [decide_eq_true h1] at U1
  by_cases h2 : 0 ≤ vl ∧ vl ≤ 16384
  case neg =>
    have RR := Lib.hid (DM.out false ⟨fun h => absurd (M.out.1 h).1.2 h2, fun h => by cases h⟩)
    rw [decide_eq_false h2] at U2
    clear DM M h1 h2
    go_enter Try.func52, Try.ntmps52
    go_wp2_with fail
    refine U1.out.mono ?_
    rintro e w1 ⟨rfl, rfl⟩
    go_wp2_with fail
    refine U2.out.mono ?_
    rintro e w1 ⟨rfl, rfl⟩
    go_wp2_with fail
    go_ret
    rw [RR.out]
    exact ⟨rfl, BA.out⟩
  rw [decide_eq_true h2] at U2
  have M2 := Lib.hid (show R ↔ (if kd = 1 then fm ≠ 0 ∨ vl ≤ dt else if kd = 2 then fm ≠ 0 ∨ vl < ex else if kd = 3 then fm ≠ 0 else fm = 0 ∧ vl = 0) from M.out.trans ⟨fun h => h.2, fun h => ⟨⟨h1, h2⟩, h⟩⟩)
  clear M h1 h2
  by_cases h1 : kd = 1
  · have e1 : (kd == 1) = true := by simp [h1]
    rw [if_pos h1] at M2
    by_cases h5 : fm = 0
    · have d5 : (fm == 0) = true := by simp [h5]
      by_cases h6 : vl ≤ dt
      · have d6 : decide (vl ≤ dt) = true := decide_eq_true h6
        have RR := Lib.hid (DM.out true ⟨fun _ => rfl, fun _ => M2.out.2 (by omega)⟩)
        clear DM M2
        try clear h6
        try clear h5
        try clear h3
        try clear h2
        try clear h1
        go_enter Try.func52, Try.ntmps52
        go_wp2_with fail
        refine U1.out.mono ?_
        rintro e w1 ⟨rfl, rfl⟩
        go_wp2_with fail
        refine U2.out.mono ?_
        rintro e w1 ⟨rfl, rfl⟩
        go_wp2_with fail
        go_ret
        rw [RR.out]
        exact ⟨rfl, BA.out⟩
      · have d6 : decide (vl ≤ dt) = false := decide_eq_false h6
        have RR := Lib.hid (DM.out false ⟨fun h => absurd (M2.out.1 h) (by omega), fun h => by cases h⟩)
        clear DM M2
        try clear h6
        try clear h5
        try clear h3
        try clear h2
        try clear h1
        go_enter Try.func52, Try.ntmps52
        go_wp2_with fail
        refine U1.out.mono ?_
        rintro e w1 ⟨rfl, rfl⟩
        go_wp2_with fail
        refine U2.out.mono ?_
        rintro e w1 ⟨rfl, rfl⟩
        go_wp2_with fail
        go_ret
        rw [RR.out]
        exact ⟨rfl, BA.out⟩
    · have d5 : (fm == 0) = false := by simp [h5]
      have RR := Lib.hid (DM.out true ⟨fun _ => rfl, fun _ => M2.out.2 (by omega)⟩)
      clear DM M2
      try clear h6
      try clear h5
      try clear h3
      try clear h2
      try clear h1
      go_enter Try.func52, Try.ntmps52
      go_wp2_with fail
      refine U1.out.mono ?_
      rintro e w1 ⟨rfl, rfl⟩
      go_wp2_with fail
      refine U2.out.mono ?_
      rintro e w1 ⟨rfl, rfl⟩
      go_wp2_with fail
      go_ret
      rw [RR.out]
      exact ⟨rfl, BA.out⟩
  have e1 : (kd == 1) = false := by simp [h1]
  rw [if_neg h1] at M2
  by_cases h2 : kd = 2
  · have e2 : (kd == 2) = true := by simp [h2]
    rw [if_pos h2] at M2
    by_cases h5 : fm = 0
    · have d5 : (fm == 0) = true := by simp [h5]
      by_cases h6 : vl < ex
      · have d6 : decide (vl < ex) = true := decide_eq_true h6
        have RR := Lib.hid (DM.out true ⟨fun _ => rfl, fun _ => M2.out.2 (by omega)⟩)
        clear DM M2
        try clear h6
        try clear h5
        try clear h3
        try clear h2
        try clear h1
        go_enter Try.func52, Try.ntmps52
        go_wp2_with fail
        refine U1.out.mono ?_
        rintro e w1 ⟨rfl, rfl⟩
        go_wp2_with fail
        refine U2.out.mono ?_
        rintro e w1 ⟨rfl, rfl⟩
        go_wp2_with fail
        go_ret
        rw [RR.out]
        exact ⟨rfl, BA.out⟩
      · have d6 : decide (vl < ex) = false := decide_eq_false h6
        have RR := Lib.hid (DM.out false ⟨fun h => absurd (M2.out.1 h) (by omega), fun h => by cases h⟩)
        clear DM M2
        try clear h6
        try clear h5
        try clear h3
        try clear h2
        try clear h1
        go_enter Try.func52, Try.ntmps52
        go_wp2_with fail
        refine U1.out.mono ?_
        rintro e w1 ⟨rfl, rfl⟩
        go_wp2_with fail
        refine U2.out.mono ?_
        rintro e w1 ⟨rfl, rfl⟩
        go_wp2_with fail
        go_ret
        rw [RR.out]
        exact ⟨rfl, BA.out⟩
    · have d5 : (fm == 0) = false := by simp [h5]
      have RR := Lib.hid (DM.out true ⟨fun _ => rfl, fun _ => M2.out.2 (by omega)⟩)
      clear DM M2
      try clear h6
      try clear h5
      try clear h3
      try clear h2
      try clear h1
      go_enter Try.func52, Try.ntmps52
      go_wp2_with fail
      refine U1.out.mono ?_
      rintro e w1 ⟨rfl, rfl⟩
      go_wp2_with fail
      refine U2.out.mono ?_
      rintro e w1 ⟨rfl, rfl⟩
      go_wp2_with fail
      go_ret
      rw [RR.out]
      exact ⟨rfl, BA.out⟩
  have e2 : (kd == 2) = false := by simp [h2]
  rw [if_neg h2] at M2
  by_cases h3 : kd = 3
  · have e3 : (kd == 3) = true := by simp [h3]
    rw [if_pos h3] at M2
    by_cases h5 : fm = 0
    · have d5 : (fm == 0) = true := by simp [h5]
      have RR := Lib.hid (DM.out false ⟨fun h => absurd (M2.out.1 h) (by omega), fun h => by cases h⟩)
      clear DM M2
      try clear h6
      try clear h5
      try clear h3
      try clear h2
      try clear h1
      go_enter Try.func52, Try.ntmps52
      go_wp2_with fail
      refine U1.out.mono ?_
      rintro e w1 ⟨rfl, rfl⟩
      go_wp2_with fail
      refine U2.out.mono ?_
      rintro e w1 ⟨rfl, rfl⟩
      go_wp2_with fail
      go_ret
      rw [RR.out]
      exact ⟨rfl, BA.out⟩
    · have d5 : (fm == 0) = false := by simp [h5]
      have RR := Lib.hid (DM.out true ⟨fun _ => rfl, fun _ => M2.out.2 (by omega)⟩)
      clear DM M2
      try clear h6
      try clear h5
      try clear h3
      try clear h2
      try clear h1
      go_enter Try.func52, Try.ntmps52
      go_wp2_with fail
      refine U1.out.mono ?_
      rintro e w1 ⟨rfl, rfl⟩
      go_wp2_with fail
      refine U2.out.mono ?_
      rintro e w1 ⟨rfl, rfl⟩
      go_wp2_with fail
      go_ret
      rw [RR.out]
      exact ⟨rfl, BA.out⟩
  have e3 : (kd == 3) = false := by simp [h3]
  rw [if_neg h3] at M2
  by_cases h5 : fm = 0
  · have d5 : (fm == 0) = true := by simp [h5]
    by_cases h6 : vl = 0
    · have d6 : (vl == 0) = true := by simp [h6]
      have RR := Lib.hid (DM.out true ⟨fun _ => rfl, fun _ => M2.out.2 (by omega)⟩)
      clear DM M2
      try clear h6
      try clear h5
      try clear h3
      try clear h2
      try clear h1
      go_enter Try.func52, Try.ntmps52
      go_wp2_with fail
      refine U1.out.mono ?_
      rintro e w1 ⟨rfl, rfl⟩
      go_wp2_with fail
      refine U2.out.mono ?_
      rintro e w1 ⟨rfl, rfl⟩
      go_wp2_with fail
      go_ret
      rw [RR.out]
      exact ⟨rfl, BA.out⟩
    · have d6 : (vl == 0) = false := by simp [h6]
      have RR := Lib.hid (DM.out false ⟨fun h => absurd (M2.out.1 h) (by omega), fun h => by cases h⟩)
      clear DM M2
      try clear h6
      try clear h5
      try clear h3
      try clear h2
      try clear h1
      go_enter Try.func52, Try.ntmps52
      go_wp2_with fail
      refine U1.out.mono ?_
      rintro e w1 ⟨rfl, rfl⟩
      go_wp2_with fail
      refine U2.out.mono ?_
      rintro e w1 ⟨rfl, rfl⟩
      go_wp2_with fail
      go_ret
      rw [RR.out]
      exact ⟨rfl, BA.out⟩
  · have d5 : (fm == 0) = false := by simp [h5]
    have RR := Lib.hid (DM.out false ⟨fun h => absurd (M2.out.1 h) (by omega), fun h => by cases h⟩)
    clear DM M2
    try clear h6
    try clear h5
    try clear h3
    try clear h2
    try clear h1
    go_enter Try.func52, Try.ntmps52
    go_wp2_with fail
    refine U1.out.mono ?_
    rintro e w1 ⟨rfl, rfl⟩
    go_wp2_with fail
    refine U2.out.mono ?_
    rintro e w1 ⟨rfl, rfl⟩
    go_wp2_with fail
    go_ret
    rw [RR.out]
    exact ⟨rfl, BA.out⟩
end Go.Proofs.Ytdakooipelligaa
