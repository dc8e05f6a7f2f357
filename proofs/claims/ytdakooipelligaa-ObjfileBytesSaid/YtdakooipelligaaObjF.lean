/- Objfile: the answers' Words, Fits, Check. -/
import Derived.Test.YtdakooipelligaaObjE
namespace Go.Proofs.Ytdakooipelligaa
open Go.ChangeShapes Go.WideShapes Go.ChangeAt Go.RowKit
set_option linter.unusedVariables false
set_option linter.unusedSimpArgs false

set_option maxHeartbeats 16000000 in
set_option maxRecDepth 100000 in
theorem refwords_any (k : Int) (w : World) : Calls Try.prog 24 #[.int .i64 k] w fun e w' => e = .returned (.int .i64 (wordsK k)) ∧ w = w' := by
  by_cases h1 : k = 1
  · subst h1
    rw [wordsK_1]
    go_enter Try.func24, Try.ntmps24
    go_wp2_with fail
    go_ret
    exact ⟨rfl, rfl⟩
  have d1 : (k == 1) = false := by simp [h1]
  by_cases h2 : k = 2
  · subst h2
    rw [wordsK_2]
    go_enter Try.func24, Try.ntmps24
    go_wp2_with fail
    go_ret
    exact ⟨rfl, rfl⟩
  have d2 : (k == 2) = false := by simp [h2]
  by_cases h4 : k = 4
  · subst h4
    rw [wordsK_4]
    go_enter Try.func24, Try.ntmps24
    go_wp2_with fail
    go_ret
    exact ⟨rfl, rfl⟩
  have d4 : (k == 4) = false := by simp [h4]
  by_cases h3 : k = 3
  · subst h3
    rw [wordsK_3]
    go_enter Try.func24, Try.ntmps24
    go_wp2_with fail
    go_ret
    exact ⟨rfl, rfl⟩
  have d3 : (k == 3) = false := by simp [h3]
  rw [wordsK_no h1 h2 h3 h4]
  go_enter Try.func24, Try.ntmps24
  go_wp2_with fail
  go_ret
  exact ⟨rfl, rfl⟩

set_option maxHeartbeats 16000000 in
set_option maxRecDepth 100000 in
theorem reffits_any (md : ByteArray) (key : Int) (Ai : Option Addr) (im : List Im) (ci : Nat) (Ac : Option Addr) (cd : List Int) (cc : Nat) (Af : Option Addr) (fx : List Fx) (cf : Nat) (As : Option Addr) (sg : List Sg) (cs : Nat) (dt ex bd : Int) (pl kd fm vl : Int) (w : World) (hi : im.length ≤ 140737488355328) (hm : cd.length ≤ 140737488355328) :
    Calls Try.prog 23 #[.agg #[.string md, .int .u32 key, .slice Ai im.length ci, .slice Ac cd.length cc, .slice Af fx.length cf, .slice As sg.length cs, .int .i64 dt, .int .i64 ex, .int .i64 bd], .agg #[.int .i64 pl, .int .i64 kd, .int .i64 fm, .int .i64 vl]] w fun e w' => e = .returned (.bool (decide (fxFit cd.length im.length dt ex ⟨pl, kd, fm, vl⟩))) ∧ Below w.heap.size w w' := by
  have X1 := Lib.hid ((Whole.made w qT #[.string md, .int .u32 key, .slice Ai im.length ci, .slice Ac cd.length cc, .slice Af fx.length cf, .slice As sg.length cs, .int .i64 dt, .int .i64 ex, .int .i64 bd] _ rfl).alloc (.cells #[.int .i64 pl, .int .i64 kd, .int .i64 fm, .int .i64 vl] fxT))
  have X2 := Lib.hid (Whole.made (w.alloc (.cells #[.string md, .int .u32 key, .slice Ai im.length ci, .slice Ac cd.length cc, .slice Af fx.length cf, .slice As sg.length cs, .int .i64 dt, .int .i64 ex, .int .i64 bd] qT)) fxT #[.int .i64 pl, .int .i64 kd, .int .i64 fm, .int .i64 vl] (w.heap.size + 1) (by simp))
  have BA := Lib.hid (show Below w.heap.size w ((w.alloc (.cells #[.string md, .int .u32 key, .slice Ai im.length ci, .slice Ac cd.length cc, .slice Af fx.length cf, .slice As sg.length cs, .int .i64 dt, .int .i64 ex, .int .i64 bd] qT)).alloc (.cells #[.int .i64 pl, .int .i64 kd, .int .i64 fm, .int .i64 vl] fxT)) from ((Below.refl w.heap.size w).alloc (Nat.le_refl _) _).alloc (by simp) _)
  have q2 : ((w.alloc (.cells #[.string md, .int .u32 key, .slice Ai im.length ci, .slice Ac cd.length cc, .slice Af fx.length cf, .slice As sg.length cs, .int .i64 dt, .int .i64 ex, .int .i64 bd] qT)).alloc (.cells #[.int .i64 pl, .int .i64 kd, .int .i64 fm, .int .i64 vl] fxT)).cell? ⟨w.heap.size, 2, none⟩ = some (.slice Ai im.length ci) := X1.out.cell 2
  have q3 : ((w.alloc (.cells #[.string md, .int .u32 key, .slice Ai im.length ci, .slice Ac cd.length cc, .slice Af fx.length cf, .slice As sg.length cs, .int .i64 dt, .int .i64 ex, .int .i64 bd] qT)).alloc (.cells #[.int .i64 pl, .int .i64 kd, .int .i64 fm, .int .i64 vl] fxT)).cell? ⟨w.heap.size, 3, none⟩ = some (.slice Ac cd.length cc) := X1.out.cell 3
  have q6 : ((w.alloc (.cells #[.string md, .int .u32 key, .slice Ai im.length ci, .slice Ac cd.length cc, .slice Af fx.length cf, .slice As sg.length cs, .int .i64 dt, .int .i64 ex, .int .i64 bd] qT)).alloc (.cells #[.int .i64 pl, .int .i64 kd, .int .i64 fm, .int .i64 vl] fxT)).cell? ⟨w.heap.size, 6, none⟩ = some (.int .i64 dt) := X1.out.cell 6
  have q7 : ((w.alloc (.cells #[.string md, .int .u32 key, .slice Ai im.length ci, .slice Ac cd.length cc, .slice Af fx.length cf, .slice As sg.length cs, .int .i64 dt, .int .i64 ex, .int .i64 bd] qT)).alloc (.cells #[.int .i64 pl, .int .i64 kd, .int .i64 fm, .int .i64 vl] fxT)).cell? ⟨w.heap.size, 7, none⟩ = some (.int .i64 ex) := X1.out.cell 7
  have y0 : ((w.alloc (.cells #[.string md, .int .u32 key, .slice Ai im.length ci, .slice Ac cd.length cc, .slice Af fx.length cf, .slice As sg.length cs, .int .i64 dt, .int .i64 ex, .int .i64 bd] qT)).alloc (.cells #[.int .i64 pl, .int .i64 kd, .int .i64 fm, .int .i64 vl] fxT)).cell? ⟨w.heap.size + 1, 0, none⟩ = some (.int .i64 pl) := X2.out.cell 0
  have y1 : ((w.alloc (.cells #[.string md, .int .u32 key, .slice Ai im.length ci, .slice Ac cd.length cc, .slice Af fx.length cf, .slice As sg.length cs, .int .i64 dt, .int .i64 ex, .int .i64 bd] qT)).alloc (.cells #[.int .i64 pl, .int .i64 kd, .int .i64 fm, .int .i64 vl] fxT)).cell? ⟨w.heap.size + 1, 1, none⟩ = some (.int .i64 kd) := X2.out.cell 1
  have y2 : ((w.alloc (.cells #[.string md, .int .u32 key, .slice Ai im.length ci, .slice Ac cd.length cc, .slice Af fx.length cf, .slice As sg.length cs, .int .i64 dt, .int .i64 ex, .int .i64 bd] qT)).alloc (.cells #[.int .i64 pl, .int .i64 kd, .int .i64 fm, .int .i64 vl] fxT)).cell? ⟨w.heap.size + 1, 2, none⟩ = some (.int .i64 fm) := X2.out.cell 2
  have y3 : ((w.alloc (.cells #[.string md, .int .u32 key, .slice Ai im.length ci, .slice Ac cd.length cc, .slice Af fx.length cf, .slice As sg.length cs, .int .i64 dt, .int .i64 ex, .int .i64 bd] qT)).alloc (.cells #[.int .i64 pl, .int .i64 kd, .int .i64 fm, .int .i64 vl] fxT)).cell? ⟨w.heap.size + 1, 3, none⟩ = some (.int .i64 vl) := X2.out.cell 3
  have WD := Lib.hid (refwords_any kd ((w.alloc (.cells #[.string md, .int .u32 key, .slice Ai im.length ci, .slice Ac cd.length cc, .slice Af fx.length cf, .slice As sg.length cs, .int .i64 dt, .int .i64 ex, .int .i64 bd] qT)).alloc (.cells #[.int .i64 pl, .int .i64 kd, .int .i64 fm, .int .i64 vl] fxT)))
  have WI := Lib.hid (wordsK_in kd)
  have M := Lib.hid (show fxFit cd.length im.length dt ex ⟨pl, kd, fm, vl⟩ ↔ (wordsK kd ≠ 0 ∧ 0 ≤ pl ∧ pl + wordsK kd ≤ cd.length ∧ 0 ≤ fm ∧ fm ≤ im.length ∧ 0 ≤ vl ∧ vl ≤ 16384) ∧ ((kd = 4 ∧ fm = 0 ∧ vl = 0) ∨ (kd ≠ 4 ∧ (0 < fm ∨ (kd = 1 ∧ vl ≤ dt) ∨ (kd = 2 ∧ vl < ex)))) from Iff.rfl)
  have DM := Lib.hid (show ∀ b : Bool, (fxFit cd.length im.length dt ex ⟨pl, kd, fm, vl⟩ ↔ b = true) → decide (fxFit cd.length im.length dt ex ⟨pl, kd, fm, vl⟩) = b from fun b h => by
    cases b
    · exact decide_eq_false (fun h' => by cases h.1 h')
    · exact decide_eq_true (h.2 rfl))
  generalize decide (fxFit cd.length im.length dt ex ⟨pl, kd, fm, vl⟩) = r at *
  generalize fxFit cd.length im.length dt ex ⟨pl, kd, fm, vl⟩ = R at *
  generalize wordsK kd = wk at *
  have W0 := WI.out.1
  have W2 := WI.out.2
  by_cases h1 : wk = 0
  case pos =>
    have dh1 : (wk == 0) = true := by simp [h1]
    have RR := Lib.hid (DM.out false ⟨fun h => absurd (M.out.1 h) (by omega), fun h => by cases h⟩)
    clear DM M
    try clear g3
    try clear g2
    try clear g1
    try clear h8
    try clear h7
    try clear h6
    try clear h5
    try clear h4
    try clear h3
    try clear h2
    try clear h1
    try clear b4
    try clear b3
    try clear b2
    go_enter Try.func23, Try.ntmps23
    go_wp2_with fail
    refine WD.out.mono ?_
    rintro e w1 ⟨rfl, rfl⟩
    go_wp2_with fail
    go_ret
    rw [RR.out]
    exact ⟨rfl, BA.out⟩
  have dh1 : (wk == 0) = false := by simp [h1]
  by_cases h2 : pl < 0
  case pos =>
    have dh2 : decide (pl < 0) = true := decide_eq_true h2
    have RR := Lib.hid (DM.out false ⟨fun h => absurd (M.out.1 h) (by omega), fun h => by cases h⟩)
    clear DM M
    try clear g3
    try clear g2
    try clear g1
    try clear h8
    try clear h7
    try clear h6
    try clear h5
    try clear h4
    try clear h3
    try clear h2
    try clear h1
    try clear b4
    try clear b3
    try clear b2
    go_enter Try.func23, Try.ntmps23
    go_wp2_with fail
    refine WD.out.mono ?_
    rintro e w1 ⟨rfl, rfl⟩
    go_wp2_with fail
    go_ret
    rw [RR.out]
    exact ⟨rfl, BA.out⟩
  have dh2 : decide (pl < 0) = false := decide_eq_false h2
  by_cases h3 : (cd.length : Int) < pl
  case pos =>
    have dh3 : decide ((cd.length : Int) < pl) = true := decide_eq_true h3
    have RR := Lib.hid (DM.out false ⟨fun h => absurd (M.out.1 h) (by omega), fun h => by cases h⟩)
    clear DM M
    try clear g3
    try clear g2
    try clear g1
    try clear h8
    try clear h7
    try clear h6
    try clear h5
    try clear h4
    try clear h3
    try clear h2
    try clear h1
    try clear b4
    try clear b3
    try clear b2
    go_enter Try.func23, Try.ntmps23
    go_wp2_with fail
    refine WD.out.mono ?_
    rintro e w1 ⟨rfl, rfl⟩
    go_wp2_with fail
    go_ret
    rw [RR.out]
    exact ⟨rfl, BA.out⟩
  have dh3 : decide ((cd.length : Int) < pl) = false := decide_eq_false h3
  have b1 : 0 ≤ pl + wk ∧ pl + wk ≤ 140737488355340 := by omega
  by_cases h4 : (cd.length : Int) < pl + wk
  case pos =>
    have dh4 : decide ((cd.length : Int) < pl + wk) = true := decide_eq_true h4
    have RR := Lib.hid (DM.out false ⟨fun h => absurd (M.out.1 h) (by omega), fun h => by cases h⟩)
    clear DM M
    try clear g3
    try clear g2
    try clear g1
    try clear h8
    try clear h7
    try clear h6
    try clear h5
    try clear h4
    try clear h3
    try clear h2
    try clear h1
    try clear b4
    try clear b3
    try clear b2
    go_enter Try.func23, Try.ntmps23
    go_wp2_with fail
    refine WD.out.mono ?_
    rintro e w1 ⟨rfl, rfl⟩
    go_wp2_with fail
    go_ret
    rw [RR.out]
    exact ⟨rfl, BA.out⟩
  have dh4 : decide ((cd.length : Int) < pl + wk) = false := decide_eq_false h4
  by_cases h5 : fm < 0
  case pos =>
    have dh5 : decide (fm < 0) = true := decide_eq_true h5
    have RR := Lib.hid (DM.out false ⟨fun h => absurd (M.out.1 h) (by omega), fun h => by cases h⟩)
    clear DM M
    try clear g3
    try clear g2
    try clear g1
    try clear h8
    try clear h7
    try clear h6
    try clear h5
    try clear h4
    try clear h3
    try clear h2
    try clear h1
    try clear b4
    try clear b3
    try clear b2
    go_enter Try.func23, Try.ntmps23
    go_wp2_with fail
    refine WD.out.mono ?_
    rintro e w1 ⟨rfl, rfl⟩
    go_wp2_with fail
    go_ret
    rw [RR.out]
    exact ⟨rfl, BA.out⟩
  have dh5 : decide (fm < 0) = false := decide_eq_false h5
  by_cases h6 : (im.length : Int) < fm
  case pos =>
    have dh6 : decide ((im.length : Int) < fm) = true := decide_eq_true h6
    have RR := Lib.hid (DM.out false ⟨fun h => absurd (M.out.1 h) (by omega), fun h => by cases h⟩)
    clear DM M
    try clear g3
    try clear g2
    try clear g1
    try clear h8
    try clear h7
    try clear h6
    try clear h5
    try clear h4
    try clear h3
    try clear h2
    try clear h1
    try clear b4
    try clear b3
    try clear b2
    go_enter Try.func23, Try.ntmps23
    go_wp2_with fail
    refine WD.out.mono ?_
    rintro e w1 ⟨rfl, rfl⟩
    go_wp2_with fail
    go_ret
    rw [RR.out]
    exact ⟨rfl, BA.out⟩
  have dh6 : decide ((im.length : Int) < fm) = false := decide_eq_false h6
  by_cases h7 : vl < 0
  case pos =>
    have dh7 : decide (vl < 0) = true := decide_eq_true h7
    have RR := Lib.hid (DM.out false ⟨fun h => absurd (M.out.1 h) (by omega), fun h => by cases h⟩)
    clear DM M
    try clear g3
    try clear g2
    try clear g1
    try clear h8
    try clear h7
    try clear h6
    try clear h5
    try clear h4
    try clear h3
    try clear h2
    try clear h1
    try clear b4
    try clear b3
    try clear b2
    go_enter Try.func23, Try.ntmps23
    go_wp2_with fail
    refine WD.out.mono ?_
    rintro e w1 ⟨rfl, rfl⟩
    go_wp2_with fail
    go_ret
    rw [RR.out]
    exact ⟨rfl, BA.out⟩
  have dh7 : decide (vl < 0) = false := decide_eq_false h7
  by_cases h8 : 16384 < vl
  case pos =>
    have dh8 : decide (16384 < vl) = true := decide_eq_true h8
    have RR := Lib.hid (DM.out false ⟨fun h => absurd (M.out.1 h) (by omega), fun h => by cases h⟩)
    clear DM M
    try clear g3
    try clear g2
    try clear g1
    try clear h8
    try clear h7
    try clear h6
    try clear h5
    try clear h4
    try clear h3
    try clear h2
    try clear h1
    try clear b4
    try clear b3
    try clear b2
    go_enter Try.func23, Try.ntmps23
    go_wp2_with fail
    refine WD.out.mono ?_
    rintro e w1 ⟨rfl, rfl⟩
    go_wp2_with fail
    go_ret
    rw [RR.out]
    exact ⟨rfl, BA.out⟩
  have dh8 : decide (16384 < vl) = false := decide_eq_false h8
  by_cases b2 : kd = 4
  · have db2 : (kd == 4) = true := by simp [b2]
    by_cases b3 : fm = 0
    · have db3 : (fm == 0) = true := by simp [b3]
      by_cases b4 : vl = 0
      · have db4 : (vl == 0) = true := by simp [b4]
        have RR := Lib.hid (DM.out true ⟨fun _ => rfl, fun _ => M.out.2 (by omega)⟩)
        clear DM M
        try clear g3
        try clear g2
        try clear g1
        try clear h8
        try clear h7
        try clear h6
        try clear h5
        try clear h4
        try clear h3
        try clear h2
        try clear h1
        try clear b4
        try clear b3
        try clear b2
        go_enter Try.func23, Try.ntmps23
        go_wp2_with fail
        refine WD.out.mono ?_
        rintro e w1 ⟨rfl, rfl⟩
        go_wp2_with fail
        go_ret
        rw [RR.out]
        exact ⟨rfl, BA.out⟩
      · have db4 : (vl == 0) = false := by simp [b4]
        have RR := Lib.hid (DM.out false ⟨fun h => absurd (M.out.1 h) (by omega), fun h => by cases h⟩)
        clear DM M
        try clear g3
        try clear g2
        try clear g1
        try clear h8
        try clear h7
        try clear h6
        try clear h5
        try clear h4
        try clear h3
        try clear h2
        try clear h1
        try clear b4
        try clear b3
        try clear b2
        go_enter Try.func23, Try.ntmps23
        go_wp2_with fail
        refine WD.out.mono ?_
        rintro e w1 ⟨rfl, rfl⟩
        go_wp2_with fail
        go_ret
        rw [RR.out]
        exact ⟨rfl, BA.out⟩
    · have db3 : (fm == 0) = false := by simp [b3]
      have RR := Lib.hid (DM.out false ⟨fun h => absurd (M.out.1 h) (by omega), fun h => by cases h⟩)
      clear DM M
      try clear g3
      try clear g2
      try clear g1
      try clear h8
      try clear h7
      try clear h6
      try clear h5
      try clear h4
      try clear h3
      try clear h2
      try clear h1
      try clear b4
      try clear b3
      try clear b2
      go_enter Try.func23, Try.ntmps23
      go_wp2_with fail
      refine WD.out.mono ?_
      rintro e w1 ⟨rfl, rfl⟩
      go_wp2_with fail
      go_ret
      rw [RR.out]
      exact ⟨rfl, BA.out⟩
  · have db2 : (kd == 4) = false := by simp [b2]
    by_cases b3 : 0 < fm
    · have db3 : decide (0 < fm) = true := decide_eq_true b3
      have RR := Lib.hid (DM.out true ⟨fun _ => rfl, fun _ => M.out.2 (by omega)⟩)
      clear DM M
      try clear g3
      try clear g2
      try clear g1
      try clear h8
      try clear h7
      try clear h6
      try clear h5
      try clear h4
      try clear h3
      try clear h2
      try clear h1
      try clear b4
      try clear b3
      try clear b2
      go_enter Try.func23, Try.ntmps23
      go_wp2_with fail
      refine WD.out.mono ?_
      rintro e w1 ⟨rfl, rfl⟩
      go_wp2_with fail
      go_ret
      rw [RR.out]
      exact ⟨rfl, BA.out⟩
    · have db3 : decide (0 < fm) = false := decide_eq_false b3
      by_cases g1 : kd = 1
      · have dg1 : (kd == 1) = true := by simp [g1]
        by_cases g3 : vl ≤ dt
        · have dg3 : decide (vl ≤ dt) = true := decide_eq_true g3
          have RR := Lib.hid (DM.out true ⟨fun _ => rfl, fun _ => M.out.2 (by omega)⟩)
          clear DM M
          try clear g3
          try clear g2
          try clear g1
          try clear h8
          try clear h7
          try clear h6
          try clear h5
          try clear h4
          try clear h3
          try clear h2
          try clear h1
          try clear b4
          try clear b3
          try clear b2
          go_enter Try.func23, Try.ntmps23
          go_wp2_with fail
          refine WD.out.mono ?_
          rintro e w1 ⟨rfl, rfl⟩
          go_wp2_with fail
          go_ret
          rw [RR.out]
          exact ⟨rfl, BA.out⟩
        · have dg3 : decide (vl ≤ dt) = false := decide_eq_false g3
          have dg2 : (kd == 2) = false := by simp [g1]
          have RR := Lib.hid (DM.out false ⟨fun h => absurd (M.out.1 h) (by omega), fun h => by cases h⟩)
          clear DM M
          try clear g3
          try clear g2
          try clear g1
          try clear h8
          try clear h7
          try clear h6
          try clear h5
          try clear h4
          try clear h3
          try clear h2
          try clear h1
          try clear b4
          try clear b3
          try clear b2
          go_enter Try.func23, Try.ntmps23
          go_wp2_with fail
          refine WD.out.mono ?_
          rintro e w1 ⟨rfl, rfl⟩
          go_wp2_with fail
          go_ret
          rw [RR.out]
          exact ⟨rfl, BA.out⟩
      · have dg1 : (kd == 1) = false := by simp [g1]
        by_cases g2 : kd = 2
        · have dg2 : (kd == 2) = true := by simp [g2]
          by_cases g3 : vl < ex
          · have dg3 : decide (vl < ex) = true := decide_eq_true g3
            have RR := Lib.hid (DM.out true ⟨fun _ => rfl, fun _ => M.out.2 (by omega)⟩)
            clear DM M
            try clear g3
            try clear g2
            try clear g1
            try clear h8
            try clear h7
            try clear h6
            try clear h5
            try clear h4
            try clear h3
            try clear h2
            try clear h1
            try clear b4
            try clear b3
            try clear b2
            go_enter Try.func23, Try.ntmps23
            go_wp2_with fail
            refine WD.out.mono ?_
            rintro e w1 ⟨rfl, rfl⟩
            go_wp2_with fail
            go_ret
            rw [RR.out]
            exact ⟨rfl, BA.out⟩
          · have dg3 : decide (vl < ex) = false := decide_eq_false g3
            have RR := Lib.hid (DM.out false ⟨fun h => absurd (M.out.1 h) (by omega), fun h => by cases h⟩)
            clear DM M
            try clear g3
            try clear g2
            try clear g1
            try clear h8
            try clear h7
            try clear h6
            try clear h5
            try clear h4
            try clear h3
            try clear h2
            try clear h1
            try clear b4
            try clear b3
            try clear b2
            go_enter Try.func23, Try.ntmps23
            go_wp2_with fail
            refine WD.out.mono ?_
            rintro e w1 ⟨rfl, rfl⟩
            go_wp2_with fail
            go_ret
            rw [RR.out]
            exact ⟨rfl, BA.out⟩
        · have dg2 : (kd == 2) = false := by simp [g2]
          have RR := Lib.hid (DM.out false ⟨fun h => absurd (M.out.1 h) (by omega), fun h => by cases h⟩)
          clear DM M
          try clear g3
          try clear g2
          try clear g1
          try clear h8
          try clear h7
          try clear h6
          try clear h5
          try clear h4
          try clear h3
          try clear h2
          try clear h1
          try clear b4
          try clear b3
          try clear b2
          go_enter Try.func23, Try.ntmps23
          go_wp2_with fail
          refine WD.out.mono ?_
          rintro e w1 ⟨rfl, rfl⟩
          go_wp2_with fail
          go_ret
          rw [RR.out]
          exact ⟨rfl, BA.out⟩
end Go.Proofs.Ytdakooipelligaa
