/- Objfile: the answers' Check. -/
import Derived.Test.YtdakooipelligaaObjF
import Derived.BigQuiet
namespace Go.Proofs.Ytdakooipelligaa
open Go.ChangeShapes Go.WideShapes Go.ChangeAt Go.RowKit
set_option linter.unusedVariables false
set_option linter.unusedSimpArgs false

set_option maxHeartbeats 16000000 in
set_option maxRecDepth 100000 in
theorem orefcheck_any (md : ByteArray) (key : Int) (Ai : Option Addr) (im : List Im) (ci : Nat) (Ac : Option Addr) (cd : List Int) (cc : Nat) (Af : Option Addr) (fx : List Fx) (cf : Nat) (As : Option Addr) (sg : List Sg) (cs : Nat) (dt ex bd : Int) (B : Nat) (w : World) (hv : OjV B w Ai im ci Ac cd Af fx cf As sg cs) (hn : OjN md im cd fx sg) :
    Calls Try.prog 8 #[.agg #[.string md, .int .u32 key, .slice Ai im.length ci, .slice Ac cd.length cc, .slice Af fx.length cf, .slice As sg.length cs, .int .i64 dt, .int .i64 ex, .int .i64 bd]] w fun e w' => e = .returned (.int .i64 (checkO ⟨md, key, im, cd, fx, sg, dt, ex, bd⟩)) ∧ Below w.heap.size w w' := by
  have BA := Lib.hid ((Below.refl w.heap.size w).alloc (Nat.le_refl _) (.cells #[.string md, .int .u32 key, .slice Ai im.length ci, .slice Ac cd.length cc, .slice Af fx.length cf, .slice As sg.length cs, .int .i64 dt, .int .i64 ex, .int .i64 bd] qT))
  have X := Lib.hid (Whole.made w qT #[.string md, .int .u32 key, .slice Ai im.length ci, .slice Ac cd.length cc, .slice Af fx.length cf, .slice As sg.length cs, .int .i64 dt, .int .i64 ex, .int .i64 bd] _ rfl)
  have VV := Lib.hid (hv.below BA.out)
  have q0 : (w.alloc (.cells #[.string md, .int .u32 key, .slice Ai im.length ci, .slice Ac cd.length cc, .slice Af fx.length cf, .slice As sg.length cs, .int .i64 dt, .int .i64 ex, .int .i64 bd] qT)).cell? ⟨w.heap.size, 0, none⟩ = some (.string md) := X.out.cell 0
  have q2 : (w.alloc (.cells #[.string md, .int .u32 key, .slice Ai im.length ci, .slice Ac cd.length cc, .slice Af fx.length cf, .slice As sg.length cs, .int .i64 dt, .int .i64 ex, .int .i64 bd] qT)).cell? ⟨w.heap.size, 2, none⟩ = some (.slice Ai im.length ci) := X.out.cell 2
  have n2 := hn.cdn
  have n3 := hn.fxn
  have n4 := hn.sgn
  have NA := Lib.hid (refname_any md (w.alloc (.cells #[.string md, .int .u32 key, .slice Ai im.length ci, .slice Ac cd.length cc, .slice Af fx.length cf, .slice As sg.length cs, .int .i64 dt, .int .i64 ex, .int .i64 bd] qT)) hn.mdn)
  have IA := Lib.hid (refimports_any md Ai ci im B (w.alloc (.cells #[.string md, .int .u32 key, .slice Ai im.length ci, .slice Ac cd.length cc, .slice Af fx.length cf, .slice As sg.length cs, .int .i64 dt, .int .i64 ex, .int .i64 bd] qT)) VV.out.ims hn.imn hn.imo)
  have FA := Lib.hid (fun pl kd fm vl y => reffits_any md key Ai im ci Ac cd cc Af fx cf As sg cs dt ex bd pl kd fm vl y hn.imn hn.cdn)
  have R0 := Lib.hid (show ¬ nameOk md → checkO ⟨md, key, im, cd, fx, sg, dt, ex, bd⟩ = 140 from fun h => checkO_name h)
  have R1 := Lib.hid (show nameOk md → importsE md im ≠ 0 → checkO ⟨md, key, im, cd, fx, sg, dt, ex, bd⟩ = importsE md im from fun h h1 => checkO_ims h h1)
  have R2 := Lib.hid (show nameOk md → importsE md im = 0 → (16384 < cd.length ∨ 16384 < fx.length ∨ 16384 < sg.length) → checkO ⟨md, key, im, cd, fx, sg, dt, ex, bd⟩ = 242 from fun h h1 h2 => checkO_code h h1 h2)
  have R3 := Lib.hid (show nameOk md → importsE md im = 0 → ¬ (16384 < cd.length ∨ 16384 < fx.length ∨ 16384 < sg.length) → ¬ ((0 ≤ dt ∧ dt ≤ 16384) ∧ 0 ≤ ex ∧ ex ≤ 4096) → checkO ⟨md, key, im, cd, fx, sg, dt, ex, bd⟩ = 244 from fun h h1 h2 h3 => checkO_data h h1 h2 h3)
  have R4 := Lib.hid (show nameOk md → importsE md im = 0 → ¬ (16384 < cd.length ∨ 16384 < fx.length ∨ 16384 < sg.length) → ((0 ≤ dt ∧ dt ≤ 16384) ∧ 0 ≤ ex ∧ ex ≤ 4096) → checkO ⟨md, key, im, cd, fx, sg, dt, ex, bd⟩ = if ¬ ((0 ≤ bd ∧ bd < cd.length) ∧ sgFirst sg ∧ sgOk cd.length (-1) sg ∧ fxOk cd.length im.length dt ex 0 fx) then 121 else 0 from fun h h1 h2 h3 => checkO_form h h1 h2 h3)
  generalize checkO ⟨md, key, im, cd, fx, sg, dt, ex, bd⟩ = r at *
  generalize importsE md im = ie at *
  clear hv hn
  by_cases hN : nameOk md
  case neg =>
    have RR := Lib.hid (R0.out hN)
    rw [decide_eq_false hN] at NA
    clear hN
    go_enter Try.func8, Try.ntmps8
    go_wp2_with fail
    refine NA.out.mono ?_
    rintro e w1 ⟨rfl, rfl⟩
    go_wp2_with fail
    go_ret
    rw [RR.out]
    exact ⟨rfl, BA.out⟩
  rw [decide_eq_true hN] at NA
  have S1 := Lib.hid (R1.out hN)
  have S2 := Lib.hid (R2.out hN)
  have S3 := Lib.hid (R3.out hN)
  have S4 := Lib.hid (R4.out hN)
  clear R0 R1 R2 R3 R4 hN
  go_enter Try.func8, Try.ntmps8
  go_wp2_with fail
  refine NA.out.mono ?_
  rintro e w9 ⟨rfl, rfl⟩
  go_wp2_with fail
  clear q0 q2
  refine IA.out.mono ?_
  rintro e w2 ⟨rfl, hb2⟩
  have B2 := Lib.hid (BA.out.trans (hb2.mono BA.out.size))
  have X2 := Lib.hid (X.out.below hb2 X.out.lt)
  have V2 := Lib.hid (VV.out.below hb2)
  clear hb2 IA X VV BA NA
  by_cases hi0 : ie = 0
  case neg =>
    have RR := Lib.hid (S1.out hi0)
    have d0 : (ie != 0) = true := by simp [hi0]
    clear hi0
    go_wp2_with fail
    go_ret
    rw [RR.out]
    exact ⟨rfl, B2.out⟩
  have T2 := Lib.hid (S2.out hi0)
  have T3 := Lib.hid (S3.out hi0)
  have T4 := Lib.hid (S4.out hi0)
  subst hi0
  clear S1 S2 S3 S4
  have r3 : w2.cell? ⟨w.heap.size, 3, none⟩ = some (.slice Ac cd.length cc) := X2.out.cell 3
  have r4 : w2.cell? ⟨w.heap.size, 4, none⟩ = some (.slice Af fx.length cf) := X2.out.cell 4
  have r5 : w2.cell? ⟨w.heap.size, 5, none⟩ = some (.slice As sg.length cs) := X2.out.cell 5
  have r6 : w2.cell? ⟨w.heap.size, 6, none⟩ = some (.int .i64 dt) := X2.out.cell 6
  have r7 : w2.cell? ⟨w.heap.size, 7, none⟩ = some (.int .i64 ex) := X2.out.cell 7
  have r8 : w2.cell? ⟨w.heap.size, 8, none⟩ = some (.int .i64 bd) := X2.out.cell 8
  by_cases h1 : 16384 < (cd.length : Int)
  case pos =>
    have dh1 : decide ((16384 : Int) < cd.length) = true := decide_eq_true h1
    have RR := Lib.hid (T2.out (by omega))
    clear h1 T2 T3 T4
    go_wp2_with fail
    go_ret
    rw [RR.out]
    exact ⟨rfl, B2.out⟩
  have dh1 : decide ((16384 : Int) < cd.length) = false := decide_eq_false h1
  by_cases h2 : 16384 < (fx.length : Int)
  case pos =>
    have dh2 : decide ((16384 : Int) < fx.length) = true := decide_eq_true h2
    have RR := Lib.hid (T2.out (by omega))
    clear h1 h2 T2 T3 T4
    go_wp2_with fail
    go_ret
    rw [RR.out]
    exact ⟨rfl, B2.out⟩
  have dh2 : decide ((16384 : Int) < fx.length) = false := decide_eq_false h2
  by_cases h3 : 16384 < (sg.length : Int)
  case pos =>
    have dh3 : decide ((16384 : Int) < sg.length) = true := decide_eq_true h3
    have RR := Lib.hid (T2.out (by omega))
    clear h1 h2 h3 T2 T3 T4
    go_wp2_with fail
    go_ret
    rw [RR.out]
    exact ⟨rfl, B2.out⟩
  have dh3 : decide ((16384 : Int) < sg.length) = false := decide_eq_false h3
  have hle : ¬ (16384 < cd.length ∨ 16384 < fx.length ∨ 16384 < sg.length) := by omega
  have U3 := Lib.hid (T3.out hle)
  have U4 := Lib.hid (T4.out hle)
  clear hle T2 T3 T4 h1 h2 h3
  by_cases h1 : dt < 0
  case pos =>
    have dh1 : decide (dt < 0) = true := decide_eq_true h1
    have RR := Lib.hid (U3.out (by omega))
    clear h1 U3 U4
    go_wp2_with fail
    go_ret
    rw [RR.out]
    exact ⟨rfl, B2.out⟩
  have dh1 : decide (dt < 0) = false := decide_eq_false h1
  by_cases h2 : 16384 < dt
  case pos =>
    have dh2 : decide (16384 < dt) = true := decide_eq_true h2
    have RR := Lib.hid (U3.out (by omega))
    clear h1 h2 U3 U4
    go_wp2_with fail
    go_ret
    rw [RR.out]
    exact ⟨rfl, B2.out⟩
  have dh2 : decide (16384 < dt) = false := decide_eq_false h2
  by_cases h3 : ex < 0
  case pos =>
    have dh3 : decide (ex < 0) = true := decide_eq_true h3
    have RR := Lib.hid (U3.out (by omega))
    clear h1 h2 h3 U3 U4
    go_wp2_with fail
    go_ret
    rw [RR.out]
    exact ⟨rfl, B2.out⟩
  have dh3 : decide (ex < 0) = false := decide_eq_false h3
  by_cases h4 : 4096 < ex
  case pos =>
    have dh4 : decide (4096 < ex) = true := decide_eq_true h4
    have RR := Lib.hid (U3.out (by omega))
    clear h1 h2 h3 h4 U3 U4
    go_wp2_with fail
    go_ret
    rw [RR.out]
    exact ⟨rfl, B2.out⟩
  have dh4 : decide (4096 < ex) = false := decide_eq_false h4
  have W4 := Lib.hid (U4.out (by omega))
  clear h1 h2 h3 h4 U3 U4
  by_cases h1 : bd < 0
  case pos =>
    have dh1 : decide (bd < 0) = true := decide_eq_true h1
    have RR := Lib.hid (W4.out.trans (if_pos (by omega)))
    clear h1 W4
    go_wp2_with fail
    go_ret
    rw [RR.out]
    exact ⟨rfl, B2.out⟩
  have dh1 : decide (bd < 0) = false := decide_eq_false h1
  by_cases h2 : (cd.length : Int) ≤ bd
  case pos =>
    have dh2 : decide ((cd.length : Int) ≤ bd) = true := decide_eq_true h2
    have RR := Lib.hid (W4.out.trans (if_pos (by omega)))
    clear h1 h2 W4
    go_wp2_with fail
    go_ret
    rw [RR.out]
    exact ⟨rfl, B2.out⟩
  have dh2 : decide ((cd.length : Int) ≤ bd) = false := decide_eq_false h2
  have hbd : 0 ≤ bd ∧ bd < (cd.length : Int) := by omega
  have Y4 := Lib.hid (show (sgFirst sg ∧ sgOk cd.length (-1) sg ∧ fxOk cd.length im.length dt ex 0 fx → r = 0) ∧ (¬ (sgFirst sg ∧ sgOk cd.length (-1) sg ∧ fxOk cd.length im.length dt ex 0 fx) → r = 121) from ⟨fun h => W4.out.trans (if_neg (fun h' => h' ⟨hbd, h⟩)), fun h => W4.out.trans (if_pos (fun h' => h h'.2))⟩)
  clear h1 h2 hbd W4
  by_cases h0 : sg.length = 0
  · have d0 : ((sg.length : Int) == 0) = true := by simp [h0]
    have RR := Lib.hid (show r = 121 from Y4.out.2 (fun h => by
      obtain rfl := List.length_eq_zero_iff.1 h0
      exact h.1))
    clear h0 Y4
    go_wp2_with fail
    go_ret
    rw [RR.out]
    exact ⟨rfl, B2.out⟩
  have d0 : ((sg.length : Int) == 0) = false := by rw [beq_eq_false_iff_ne]; omega
  have hpos : 0 < sg.length := Nat.pos_of_ne_zero h0
  obtain ⟨b, off, rfl, hbl, x0, _⟩ := sg_at V2.out.sgs hpos
  rw [Nat.zero_mul, Nat.add_zero] at x0
  have FI := Lib.hid (show sgFirst sg ↔ (sg.getD 0 zSg).st = 0 from by
    cases sg with
    | nil => exact absurd rfl h0
    | cons s l => exact Iff.rfl)
  clear h0
  by_cases hf : (sg.getD 0 zSg).st = 0
  case neg =>
    have RR := Lib.hid (show r = 121 from Y4.out.2 (fun h => hf (FI.out.1 h.1)))
    generalize (sg.getD 0 zSg).st = st0 at *
    have d1 : (st0 != 0) = true := by simp [hf]
    clear hf
    go_wp2_with fail
    go_ret
    rw [RR.out]
    exact ⟨rfl, B2.out⟩
  have Z4 := Lib.hid (show (sgOk cd.length (sgPrev sg 0) (sg.drop 0) ∧ fxOk cd.length im.length dt ex 0 fx → r = 0) ∧ (¬ (sgOk cd.length (sgPrev sg 0) (sg.drop 0) ∧ fxOk cd.length im.length dt ex 0 fx) → r = 121) from ⟨fun h => Y4.out.1 ⟨FI.out.2 hf, h⟩, fun h => Y4.out.2 (fun h' => h h'.2)⟩)
  have d1 : ((sg.getD 0 zSg).st != 0) = false := by rw [hf]; rfl
  have HF0 := Lib.hid (show ∀ j, j = 0 → (sg.getD j zSg).st = 0 from fun j e => by subst e; exact hf)
  generalize (sg.getD 0 zSg).st = st0 at *
  clear hf Y4 FI
  go_wp2_with fail
  clear x0 d0 d1 r3 r4 r5 r6 r7 r8
  generalize hV : w2 = V at *
  clear hV
  go_loopw [5] (fun i wr => ∃ t : Nat, t ≤ sg.length ∧ i = .int .i64 t ∧ ((sgOk cd.length (sgPrev sg t) (sg.drop t) ∧ fxOk cd.length im.length dt ex 0 fx → r = 0) ∧ (¬ (sgOk cd.length (sgPrev sg t) (sg.drop t) ∧ fxOk cd.length im.length dt ex 0 fx) → r = 121)) ∧ -1 ≤ sgPrev sg t ∧ Below V.heap.size V wr) (fun i _ => sg.length - (intOf i).toNat)
  case atStart => exact ⟨0, Nat.zero_le _, rfl, Z4.out, Int.le_refl _, Below.refl _ _⟩
  case round =>
    obtain ⟨t, ht, rfl, hrt, hpv, hb⟩ := hrel
    have RT := Lib.hid hrt
    have HB := Lib.hid hb
    have PV := Lib.hid hpv
    have B3 := Lib.hid (B2.out.trans (hb.mono B2.out.size))
    have X3 := Lib.hid (X2.out.below hb X2.out.lt)
    have V3 := Lib.hid (V2.out.below hb)
    have r4 : wr.cell? ⟨w.heap.size, 4, none⟩ = some (.slice Af fx.length cf) := X3.out.cell 4
    have r5 : wr.cell? ⟨w.heap.size, 5, none⟩ = some (.slice (some ⟨b, off, none⟩) sg.length cs) := X3.out.cell 5
    clear hrt hb hpv Z4
    by_cases hlt : t < sg.length
    · have hI : (t : Int) < sg.length := by omega
      obtain ⟨_, _, e1, _, x0, x1⟩ := sg_at V3.out.sgs hlt
      injection e1 with e1
      injection e1 with e1 e2
      subst e1 e2
      have DR := Lib.hid (dropL sg zSg hlt)
      have PN := Lib.hid (show sgPrev sg (t + 1) = (sg.getD t zSg).st from rfl)
      have S0 := Lib.hid (show t = 0 → (sg.getD t zSg).st = 0 from fun e => HF0.out t e)
      generalize sg.getD t zSg = s at *
      obtain ⟨st, pd⟩ := s
      have S00 := Lib.hid (show t = 0 → st = 0 from S0.out)
      have RN := Lib.hid (show ¬ (sgPrev sg t < st ∧ st < cd.length ∧ -1 ≤ pd ∧ pd < cd.length) → r = 121 from fun h => RT.out.2 (by rw [DR.out]; exact fun h' => h (sgOk_cons.1 h'.1).1))
      have RY := Lib.hid (show (sgPrev sg t < st ∧ st < cd.length ∧ -1 ≤ pd ∧ pd < cd.length) → ((sgOk cd.length (sgPrev sg (t + 1)) (sg.drop (t + 1)) ∧ fxOk cd.length im.length dt ex 0 fx → r = 0) ∧ (¬ (sgOk cd.length (sgPrev sg (t + 1)) (sg.drop (t + 1)) ∧ fxOk cd.length im.length dt ex 0 fx) → r = 121)) from fun h => by
        have h1 := RT.out
        rw [DR.out, sgOk_cons] at h1
        rw [PN.out]
        exact ⟨fun h' => h1.1 ⟨⟨h, h'.1⟩, h'.2⟩, fun h' => h1.2 (fun h'' => h' ⟨h''.1.2, h''.2⟩)⟩)
      have PN2 := Lib.hid (show sgPrev sg (t + 1) = st from PN.out)
      simp only at x0 x1
      clear S0 DR RT PN
      have q1 := (Below.refl wr.heap.size wr).alloc (Nat.le_refl _) (.cells #[.int .i64 st, .int .i64 pd] sgT)
      have Y := Lib.hid (Whole.made wr sgT #[.int .i64 st, .int .i64 pd] _ rfl)
      have B1 := Lib.hid (B3.out.alloc B3.out.size (.cells #[.int .i64 st, .int .i64 pd] sgT))
      have C1 := Lib.hid (HB.out.alloc HB.out.size (.cells #[.int .i64 st, .int .i64 pd] sgT))
      have X4 := Lib.hid (X3.out.alloc (.cells #[.int .i64 st, .int .i64 pd] sgT))
      have K1 := Lib.hid (V3.out.sgs.below q1)
      have y0 : (wr.alloc (.cells #[.int .i64 st, .int .i64 pd] sgT)).cell? ⟨wr.heap.size, 0, none⟩ = some (.int .i64 st) := Y.out.cell 0
      have y1 : (wr.alloc (.cells #[.int .i64 st, .int .i64 pd] sgT)).cell? ⟨wr.heap.size, 1, none⟩ = some (.int .i64 pd) := Y.out.cell 1
      have z5 : (wr.alloc (.cells #[.int .i64 st, .int .i64 pd] sgT)).cell? ⟨w.heap.size, 5, none⟩ = some (.slice (some ⟨b, off, none⟩) sg.length cs) := X4.out.cell 5
      clear q1
      rcases t with _ | k
      · have hs0 := S00.out rfl
        have PL := Lib.hid (show sgPrev sg 0 < st from by show (-1 : Int) < st; omega)
        have hI' : (0 : Int) < sg.length := by omega
        rw [Nat.zero_mul, Nat.add_zero] at x0 x1
        clear hs0 S00 hI
        by_cases h1 : (cd.length : Int) ≤ st
        case pos =>
          have dh1 : decide ((cd.length : Int) ≤ st) = true := decide_eq_true h1
          have RR := Lib.hid (RN.out (fun h => by have := h.1; have := h.2; omega))
          clear h1 RN RY
          go_wp2_with fail
          go_quiet (fail)
          rename_i nq
          have BF := Lib.hid (below_drawn B1.out nq)
          go_wp2_with fail
          go_ret
          rw [RR.out]
          exact ⟨rfl, BF.out⟩
        have dh1 : decide ((cd.length : Int) ≤ st) = false := decide_eq_false h1
        by_cases h2 : pd < -1
        case pos =>
          have dh2 : decide (pd < -1) = true := decide_eq_true h2
          have RR := Lib.hid (RN.out (fun h => by have := h.1; have := h.2; omega))
          clear h1 h2 RN RY
          go_wp2_with fail
          go_quiet (fail)
          rename_i nq
          have BF := Lib.hid (below_drawn B1.out nq)
          go_wp2_with fail
          go_ret
          rw [RR.out]
          exact ⟨rfl, BF.out⟩
        have dh2 : decide (pd < -1) = false := decide_eq_false h2
        by_cases h3 : (cd.length : Int) ≤ pd
        case pos =>
          have dh3 : decide ((cd.length : Int) ≤ pd) = true := decide_eq_true h3
          have RR := Lib.hid (RN.out (fun h => by have := h.1; have := h.2; omega))
          clear h1 h2 h3 RN RY
          go_wp2_with fail
          go_quiet (fail)
          rename_i nq
          have BF := Lib.hid (below_drawn B1.out nq)
          go_wp2_with fail
          go_ret
          rw [RR.out]
          exact ⟨rfl, BF.out⟩
        have dh3 : decide ((cd.length : Int) ≤ pd) = false := decide_eq_false h3
        have RF := Lib.hid (RY.out ⟨PL.out, by omega, by omega, by omega⟩)
        clear h1 h2 h3 RN RY
        go_wp2_with fail
        go_quiet (fail)
        rename_i nq
        have CF := Lib.hid (below_drawn C1.out nq)
        go_wp2_with fail
        go_roundw
        case rel => exact ⟨0 + 1, by omega, by go_num, RF.out, by rw [PN2.out]; have := PL.out; have := PV.out; omega, CF.out⟩
        case measure => simp [intOf]; omega
      · obtain ⟨_, _, e1, _, p0, _⟩ := sg_at K1.out (show k < sg.length by omega)
        injection e1 with e1
        injection e1 with e1 e2
        subst e1 e2
        have PK := Lib.hid (show sgPrev sg (k + 1) = (sg.getD k zSg).st from rfl)
        generalize (sg.getD k zSg).st = pst at *
        rw [PK.out] at RN RY PV
        have hI' : (k : Int) + 1 < sg.length := by omega
        have dz : decide ((0 : Int) < (k : Int) + 1) = true := decide_eq_true (by omega)
        clear S00 hI
        by_cases h1 : (cd.length : Int) ≤ st
        case pos =>
          have dh1 : decide ((cd.length : Int) ≤ st) = true := decide_eq_true h1
          have RR := Lib.hid (RN.out (fun h => by have := h.1; have := h.2; omega))
          clear h1 RN RY
          go_wp2_with fail
          go_quiet (fail)
          rename_i nq
          have BF := Lib.hid (below_drawn B1.out nq)
          go_wp2_with fail
          go_ret
          rw [RR.out]
          exact ⟨rfl, BF.out⟩
        have dh1 : decide ((cd.length : Int) ≤ st) = false := decide_eq_false h1
        by_cases h2 : pd < -1
        case pos =>
          have dh2 : decide (pd < -1) = true := decide_eq_true h2
          have RR := Lib.hid (RN.out (fun h => by have := h.1; have := h.2; omega))
          clear h1 h2 RN RY
          go_wp2_with fail
          go_quiet (fail)
          rename_i nq
          have BF := Lib.hid (below_drawn B1.out nq)
          go_wp2_with fail
          go_ret
          rw [RR.out]
          exact ⟨rfl, BF.out⟩
        have dh2 : decide (pd < -1) = false := decide_eq_false h2
        by_cases h3 : (cd.length : Int) ≤ pd
        case pos =>
          have dh3 : decide ((cd.length : Int) ≤ pd) = true := decide_eq_true h3
          have RR := Lib.hid (RN.out (fun h => by have := h.1; have := h.2; omega))
          clear h1 h2 h3 RN RY
          go_wp2_with fail
          go_quiet (fail)
          rename_i nq
          have BF := Lib.hid (below_drawn B1.out nq)
          go_wp2_with fail
          go_ret
          rw [RR.out]
          exact ⟨rfl, BF.out⟩
        have dh3 : decide ((cd.length : Int) ≤ pd) = false := decide_eq_false h3
        by_cases h4 : st ≤ pst
        case pos =>
          have dh4 : decide (st ≤ pst) = true := decide_eq_true h4
          have RR := Lib.hid (RN.out (fun h => by have := h.1; have := h.2; omega))
          clear h1 h2 h3 h4 RN RY
          go_wp2_with fail
          go_quiet (fail)
          rename_i nq
          have BF := Lib.hid (below_drawn B1.out nq)
          go_wp2_with fail
          go_ret
          rw [RR.out]
          exact ⟨rfl, BF.out⟩
        have dh4 : decide (st ≤ pst) = false := decide_eq_false h4
        have PL := Lib.hid (show pst < st by omega)
        have RF := Lib.hid (RY.out ⟨PL.out, by omega, by omega, by omega⟩)
        clear h1 h2 h3 h4 RN RY
        go_wp2_with fail
        go_quiet (fail)
        rename_i nq
        have CF := Lib.hid (below_drawn C1.out nq)
        go_wp2_with fail
        go_roundw
        case rel => exact ⟨(k + 1) + 1, by omega, by go_num, RF.out, by rw [PN2.out]; have := PL.out; have := PV.out; omega, CF.out⟩
        case measure => simp [intOf]; omega
    · have hI : ¬ (t : Int) < sg.length := by omega
      obtain rfl : t = sg.length := by omega
      have FXZ := Lib.hid (show (fxOk cd.length im.length dt ex 0 (fx.drop 0) → r = 0) ∧ (¬ fxOk cd.length im.length dt ex 0 (fx.drop 0) → r = 121) from by
        have h1 := RT.out
        rw [List.drop_length] at h1
        exact ⟨fun h => h1.1 ⟨trivial, h⟩, fun h => h1.2 (fun h' => h h'.2)⟩)
      clear RT PV
      go_wp2_with fail
      clear r4 r5
      generalize hU : wr = U at *
      clear hU
      go_loopw [7, 8] (fun f i wr => ∃ (t : Nat) (free : Int), t ≤ fx.length ∧ i = .int .i64 t ∧ f = .int .i64 free ∧ ((fxOk cd.length im.length dt ex free (fx.drop t) → r = 0) ∧ (¬ fxOk cd.length im.length dt ex free (fx.drop t) → r = 121)) ∧ Below U.heap.size U wr) (fun _ i _ => fx.length - (intOf i).toNat)
      case atStart => exact ⟨0, 0, Nat.zero_le _, rfl, rfl, FXZ.out, Below.refl _ _⟩
      case round =>
        obtain ⟨t, free, ht, rfl, rfl, hrt, hb⟩ := hrel
        have RT := Lib.hid hrt
        have HU := Lib.hid hb
        have BU := Lib.hid (B3.out.trans (hb.mono B3.out.size))
        have XU := Lib.hid (X3.out.below hb X3.out.lt)
        have FU := Lib.hid (V3.out.fxs.below hb)
        have r4 : wr.cell? ⟨w.heap.size, 4, none⟩ = some (.slice Af fx.length cf) := XU.out.cell 4
        clear hrt hb FXZ
        by_cases hlt : t < fx.length
        · have hI : (t : Int) < fx.length := by omega
          obtain ⟨b4, off4, rfl, hbl4, x0, x1, x2, x3⟩ := fx_at FU.out hlt
          have DR := Lib.hid (dropL fx zFx hlt)
          generalize fx.getD t zFx = s at *
          obtain ⟨pl, kd, fm, vl⟩ := s
          simp only at x0 x1 x2 x3
          have WD := Lib.hid (fun W => refwords_any kd W)
          have WI := Lib.hid (wordsK_in kd)
          have RN := Lib.hid (show ¬ (fxFit cd.length im.length dt ex ⟨pl, kd, fm, vl⟩ ∧ free ≤ pl) → r = 121 from fun h => RT.out.2 (by rw [DR.out]; exact fun h' => h (fxOk_cons.1 h').1))
          have RY := Lib.hid (show (fxFit cd.length im.length dt ex ⟨pl, kd, fm, vl⟩ ∧ free ≤ pl) → ((fxOk cd.length im.length dt ex (pl + wordsK kd) (fx.drop (t + 1)) → r = 0) ∧ (¬ fxOk cd.length im.length dt ex (pl + wordsK kd) (fx.drop (t + 1)) → r = 121)) from fun h => by
            have h1 := RT.out
            rw [DR.out] at h1
            exact ⟨fun h' => h1.1 (fxOk_cons.2 ⟨h, h'⟩), fun h' => h1.2 (fun h'' => h' (fxOk_cons.1 h'').2)⟩)
          have FT := Lib.hid (show fxFit cd.length im.length dt ex ⟨pl, kd, fm, vl⟩ → 0 ≤ pl ∧ pl + wordsK kd ≤ 140737488355328 from fun h => by
            have h1 : 0 ≤ pl := h.1.2.1
            have h2 : pl + wordsK kd ≤ cd.length := h.1.2.2.1
            omega)
          have MC := Lib.hid (fun W => FA.out pl kd fm vl W)
          generalize wordsK kd = wk at *
          have YR := Lib.hid (Whole.made wr fxT #[.int .i64 pl, .int .i64 kd, .int .i64 fm, .int .i64 vl] _ rfl)
          have B1 := Lib.hid (BU.out.alloc BU.out.size (.cells #[.int .i64 pl, .int .i64 kd, .int .i64 fm, .int .i64 vl] fxT))
          have C1 := Lib.hid (HU.out.alloc HU.out.size (.cells #[.int .i64 pl, .int .i64 kd, .int .i64 fm, .int .i64 vl] fxT))
          have X1 := Lib.hid (XU.out.alloc (.cells #[.int .i64 pl, .int .i64 kd, .int .i64 fm, .int .i64 vl] fxT))
          clear DR RT
          have y0 : (wr.alloc (.cells #[.int .i64 pl, .int .i64 kd, .int .i64 fm, .int .i64 vl] fxT)).cell? ⟨wr.heap.size, 0, none⟩ = some (.int .i64 pl) := YR.out.cell 0
          have y1 : (wr.alloc (.cells #[.int .i64 pl, .int .i64 kd, .int .i64 fm, .int .i64 vl] fxT)).cell? ⟨wr.heap.size, 1, none⟩ = some (.int .i64 kd) := YR.out.cell 1
          have y2 : (wr.alloc (.cells #[.int .i64 pl, .int .i64 kd, .int .i64 fm, .int .i64 vl] fxT)).cell? ⟨wr.heap.size, 2, none⟩ = some (.int .i64 fm) := YR.out.cell 2
          have y3 : (wr.alloc (.cells #[.int .i64 pl, .int .i64 kd, .int .i64 fm, .int .i64 vl] fxT)).cell? ⟨wr.heap.size, 3, none⟩ = some (.int .i64 vl) := YR.out.cell 3
          have q0 : (wr.alloc (.cells #[.int .i64 pl, .int .i64 kd, .int .i64 fm, .int .i64 vl] fxT)).cell? ⟨w.heap.size, 0, none⟩ = some (.string md) := X1.out.cell 0
          have q1 : (wr.alloc (.cells #[.int .i64 pl, .int .i64 kd, .int .i64 fm, .int .i64 vl] fxT)).cell? ⟨w.heap.size, 1, none⟩ = some (.int .u32 key) := X1.out.cell 1
          have q2 : (wr.alloc (.cells #[.int .i64 pl, .int .i64 kd, .int .i64 fm, .int .i64 vl] fxT)).cell? ⟨w.heap.size, 2, none⟩ = some (.slice Ai im.length ci) := X1.out.cell 2
          have q3 : (wr.alloc (.cells #[.int .i64 pl, .int .i64 kd, .int .i64 fm, .int .i64 vl] fxT)).cell? ⟨w.heap.size, 3, none⟩ = some (.slice Ac cd.length cc) := X1.out.cell 3
          have q4 : (wr.alloc (.cells #[.int .i64 pl, .int .i64 kd, .int .i64 fm, .int .i64 vl] fxT)).cell? ⟨w.heap.size, 4, none⟩ = some (.slice (some ⟨b4, off4, none⟩) fx.length cf) := X1.out.cell 4
          have q5 : (wr.alloc (.cells #[.int .i64 pl, .int .i64 kd, .int .i64 fm, .int .i64 vl] fxT)).cell? ⟨w.heap.size, 5, none⟩ = some (.slice (some ⟨b, off, none⟩) sg.length cs) := X1.out.cell 5
          have q6 : (wr.alloc (.cells #[.int .i64 pl, .int .i64 kd, .int .i64 fm, .int .i64 vl] fxT)).cell? ⟨w.heap.size, 6, none⟩ = some (.int .i64 dt) := X1.out.cell 6
          have q7 : (wr.alloc (.cells #[.int .i64 pl, .int .i64 kd, .int .i64 fm, .int .i64 vl] fxT)).cell? ⟨w.heap.size, 7, none⟩ = some (.int .i64 ex) := X1.out.cell 7
          have q8 : (wr.alloc (.cells #[.int .i64 pl, .int .i64 kd, .int .i64 fm, .int .i64 vl] fxT)).cell? ⟨w.heap.size, 8, none⟩ = some (.int .i64 bd) := X1.out.cell 8
          by_cases h1 : fxFit cd.length im.length dt ex ⟨pl, kd, fm, vl⟩
          case neg =>
            rw [decide_eq_false h1] at MC
            have RR := Lib.hid (RN.out (fun h => h1 h.1))
            clear h1 RN RY FT
            go_wp2_with fail
            refine (MC.out _).mono ?_
            rintro e w5 ⟨rfl, hb5⟩
            have B5 := Lib.hid (B1.out.trans (hb5.mono B1.out.size))
            have C5 := Lib.hid (C1.out.trans (hb5.mono C1.out.size))
            have Y5 := Lib.hid (YR.out.below hb5 YR.out.lt)
            have y0 : w5.cell? ⟨wr.heap.size, 0, none⟩ = some (.int .i64 pl) := Y5.out.cell 0
            have y1 : w5.cell? ⟨wr.heap.size, 1, none⟩ = some (.int .i64 kd) := Y5.out.cell 1
            clear hb5 MC B1 C1 YR q0 q1 q2 q3 q4 q5 q6 q7 q8 y2 y3 r4 x0 x1 x2 x3
            go_wp2_with fail
            go_ret
            rw [RR.out]
            exact ⟨rfl, B5.out⟩
          rw [decide_eq_true h1] at MC
          by_cases h2 : pl < free
          case pos =>
            have d2 : decide (pl < free) = true := decide_eq_true h2
            have RR := Lib.hid (RN.out (fun h => by have := h.2; omega))
            clear h1 h2 RN RY FT
            go_wp2_with fail
            refine (MC.out _).mono ?_
            rintro e w5 ⟨rfl, hb5⟩
            have B5 := Lib.hid (B1.out.trans (hb5.mono B1.out.size))
            have C5 := Lib.hid (C1.out.trans (hb5.mono C1.out.size))
            have Y5 := Lib.hid (YR.out.below hb5 YR.out.lt)
            have y0 : w5.cell? ⟨wr.heap.size, 0, none⟩ = some (.int .i64 pl) := Y5.out.cell 0
            have y1 : w5.cell? ⟨wr.heap.size, 1, none⟩ = some (.int .i64 kd) := Y5.out.cell 1
            clear hb5 MC B1 C1 YR q0 q1 q2 q3 q4 q5 q6 q7 q8 y2 y3 r4 x0 x1 x2 x3
            go_wp2_with fail
            go_ret
            rw [RR.out]
            exact ⟨rfl, B5.out⟩
          have d2 : decide (pl < free) = false := decide_eq_false h2
          have RF := Lib.hid (RY.out ⟨h1, by omega⟩)
          have FF := FT.out h1
          have W0 := WI.out.1
          have W2 := WI.out.2
          have F1 := FF.1
          have F2 := FF.2
          clear h1 h2 RN RY FT FF
          go_wp2_with fail
          refine (MC.out _).mono ?_
          rintro e w5 ⟨rfl, hb5⟩
          have B5 := Lib.hid (B1.out.trans (hb5.mono B1.out.size))
          have C5 := Lib.hid (C1.out.trans (hb5.mono C1.out.size))
          have Y5 := Lib.hid (YR.out.below hb5 YR.out.lt)
          have y0 : w5.cell? ⟨wr.heap.size, 0, none⟩ = some (.int .i64 pl) := Y5.out.cell 0
          have y1 : w5.cell? ⟨wr.heap.size, 1, none⟩ = some (.int .i64 kd) := Y5.out.cell 1
          clear hb5 MC B1 C1 YR q0 q1 q2 q3 q4 q5 q6 q7 q8 y2 y3 r4 x0 x1 x2 x3
          go_wp2_with fail
          go_quiet (first | (go_at_call 24; refine Calls.quiet_of_same ((WD.out _).mono (fun _ _ h => ⟨h.1, h.2.symm⟩))))
          rename_i nq
          have CF := Lib.hid (below_drawn C5.out nq)
          go_wp2_with fail
          go_roundw
          case rel => exact ⟨t + 1, pl + wk, by omega, by go_num, rfl, RF.out, CF.out⟩
          case measure => simp [intOf]; omega
        · have hI : ¬ (t : Int) < fx.length := by omega
          obtain rfl : t = fx.length := by omega
          have RR := Lib.hid (show r = 0 from RT.out.1 (by rw [List.drop_length]; exact trivial))
          clear RT
          go_wp2_with fail
          go_ret
          rw [RR.out]
          exact ⟨rfl, BU.out⟩
end Go.Proofs.Ytdakooipelligaa
