/- Objfile: the program's Check. -/
import Derived.Test.YtdakooipelligaaObjD
import Derived.Test.YtdakooipelligaaSymG
namespace Go.Proofs.Ytdakooipelligaa
open Go.ChangeShapes Go.WideShapes Go.ChangeAt Go.RowKit
set_option linter.unusedVariables false
set_option linter.unusedSimpArgs false

theorem run_max3 {P : Program} (x y z : Int) (ts : Array TypeId) (t : TypeId) (w : World) : (Builtin.max_ ts t #[.int .i64 x, .int .i64 y, .int .i64 z]).run P w = .ok (.int .i64 (if z > (if y > x then y else x) then z else (if y > x then y else x))) w := by
  simp [Builtin.max_, Builtin.max2]

/-- An object's lists in memory, below block B. -/
structure OjV (B : Nat) (w : World) (Ai : Option Addr) (im : List Im) (ci : Nat) (Ac : Option Addr) (cd : List Int) (Af : Option Addr) (fx : List Fx) (cf : Nat) (As : Option Addr) (sg : List Sg) (cs : Nat) : Prop where
  ims : ImV B w (.slice Ai im.length ci) im
  cds : Nums .u32 w Ac cd.length cd
  fxs : LstV fxCells B w (.slice Af fx.length cf) fx
  sgs : LstV sgCells B w (.slice As sg.length cs) sg

/-- Bounds of an object's lists. -/
structure OjN (md : ByteArray) (im : List Im) (cd : List Int) (fx : List Fx) (sg : List Sg) : Prop where
  mdn : md.size ≤ 140737488355328
  imn : im.length ≤ 140737488355328
  imo : ∀ x ∈ im, x.nm.size ≤ 140737488355328
  cdn : cd.length ≤ 140737488355328
  fxn : fx.length ≤ 140737488355328
  sgn : sg.length ≤ 140737488355328

section
variable {B B' : Nat} {w w' : World} {Ai : Option Addr} {im : List Im} {ci : Nat} {Ac : Option Addr} {cd : List Int} {Af : Option Addr} {fx : List Fx} {cf : Nat} {As : Option Addr} {sg : List Sg} {cs : Nat}

theorem OjV.below (h : OjV B w Ai im ci Ac cd Af fx cf As sg cs) (hb : Below w.heap.size w w') : OjV B w' Ai im ci Ac cd Af fx cf As sg cs :=
  ⟨h.ims.below hb, h.cds.below hb, h.fxs.below hb, h.sgs.below hb⟩

theorem OjV.toV (h : OjV B w Ai im ci Ac cd Af fx cf As sg cs) : OjV w.heap.size w Ai im ci Ac cd Af fx cf As sg cs :=
  ⟨h.ims.toV, h.cds, h.fxs.toV, h.sgs.toV⟩
end

theorem OjIn.v {w : World} {md : ByteArray} {key : Int} {Ai : Option Addr} {im : List Im} {ci : Nat} {Ac : Option Addr} {cd : List Int} {cc : Nat} {Af : Option Addr} {fx : List Fx} {cf : Nat} {As : Option Addr} {sg : List Sg} {cs : Nat} (h : OjIn w md key Ai im ci Ac cd cc Af fx cf As sg cs) : OjV w.heap.size w Ai im ci Ac cd Af fx cf As sg cs :=
  ⟨h.ims, h.cds, h.fxs, h.sgs⟩

theorem OjIn.n {w : World} {md : ByteArray} {key : Int} {Ai : Option Addr} {im : List Im} {ci : Nat} {Ac : Option Addr} {cd : List Int} {cc : Nat} {Af : Option Addr} {fx : List Fx} {cf : Nat} {As : Option Addr} {sg : List Sg} {cs : Nat} (h : OjIn w md key Ai im ci Ac cd cc Af fx cf As sg cs) : OjN md im cd fx sg := by
  have h1 := h.imn
  have h2 := h.cdn
  have h3 := h.fxn
  have h4 := h.sgn
  exact ⟨h.md, by omega, fun x hx => (h.imo x hx).1, by omega, by omega, by omega⟩

set_option maxHeartbeats 16000000 in
set_option maxRecDepth 100000 in
theorem ocheck_any (md : ByteArray) (key : Int) (Ai : Option Addr) (im : List Im) (ci : Nat) (Ac : Option Addr) (cd : List Int) (cc : Nat) (Af : Option Addr) (fx : List Fx) (cf : Nat) (As : Option Addr) (sg : List Sg) (cs : Nat) (dt ex bd : Int) (B : Nat) (w : World) (hv : OjV B w Ai im ci Ac cd Af fx cf As sg cs) (hn : OjN md im cd fx sg) :
    Calls Try.prog 7 #[.agg #[.string md, .int .u32 key, .slice Ai im.length ci, .slice Ac cd.length cc, .slice Af fx.length cf, .slice As sg.length cs, .int .i64 dt, .int .i64 ex, .int .i64 bd]] w fun e w' => e = .returned (.int .i64 (checkO ⟨md, key, im, cd, fx, sg, dt, ex, bd⟩)) ∧ Below w.heap.size w w' := by
  have BA := Lib.hid ((Below.refl w.heap.size w).alloc (Nat.le_refl _) (.cells #[.string md, .int .u32 key, .slice Ai im.length ci, .slice Ac cd.length cc, .slice Af fx.length cf, .slice As sg.length cs, .int .i64 dt, .int .i64 ex, .int .i64 bd] oT))
  have X := Lib.hid (Whole.made w oT #[.string md, .int .u32 key, .slice Ai im.length ci, .slice Ac cd.length cc, .slice Af fx.length cf, .slice As sg.length cs, .int .i64 dt, .int .i64 ex, .int .i64 bd] _ rfl)
  have VV := Lib.hid (hv.below BA.out)
  have q0 : (w.alloc (.cells #[.string md, .int .u32 key, .slice Ai im.length ci, .slice Ac cd.length cc, .slice Af fx.length cf, .slice As sg.length cs, .int .i64 dt, .int .i64 ex, .int .i64 bd] oT)).cell? ⟨w.heap.size, 0, none⟩ = some (.string md) := X.out.cell 0
  have q2 : (w.alloc (.cells #[.string md, .int .u32 key, .slice Ai im.length ci, .slice Ac cd.length cc, .slice Af fx.length cf, .slice As sg.length cs, .int .i64 dt, .int .i64 ex, .int .i64 bd] oT)).cell? ⟨w.heap.size, 2, none⟩ = some (.slice Ai im.length ci) := X.out.cell 2
  have n2 := hn.cdn
  have n3 := hn.fxn
  have n4 := hn.sgn
  have NA := Lib.hid (name_any md (w.alloc (.cells #[.string md, .int .u32 key, .slice Ai im.length ci, .slice Ac cd.length cc, .slice Af fx.length cf, .slice As sg.length cs, .int .i64 dt, .int .i64 ex, .int .i64 bd] oT)) hn.mdn)
  have IA := Lib.hid (imports_any md Ai ci im B (w.alloc (.cells #[.string md, .int .u32 key, .slice Ai im.length ci, .slice Ac cd.length cc, .slice Af fx.length cf, .slice As sg.length cs, .int .i64 dt, .int .i64 ex, .int .i64 bd] oT)) VV.out.ims hn.mdn hn.imn hn.imo)
  have SA := Lib.hid (fun y (v : OjV B y Ai im ci Ac cd Af fx cf As sg cs) => segs_any As sg cs Ac cd.length cc B y v.sgs hn.sgn hn.cdn)
  have FA := Lib.hid (fun y (v : OjV B y Ai im ci Ac cd Af fx cf As sg cs) => fixups_any md key Ai im ci Ac cd cc Af fx cf As sg cs dt ex bd B y v.fxs hn.imn hn.fxn hn.cdn)
  have WA := Lib.hid (fun y => isWord_any bd Ac cd.length cc y)
  have UD := Lib.hid (fun y => upTo_any dt 16384 y)
  have UE := Lib.hid (fun y => upTo_any ex 4096 y)
  have R0 := Lib.hid (show ¬ nameOk md → checkO ⟨md, key, im, cd, fx, sg, dt, ex, bd⟩ = 140 from fun h => checkO_name h)
  have R1 := Lib.hid (show nameOk md → importsE md im ≠ 0 → checkO ⟨md, key, im, cd, fx, sg, dt, ex, bd⟩ = importsE md im from fun h h1 => checkO_ims h h1)
  have R2 := Lib.hid (show nameOk md → importsE md im = 0 → (16384 < cd.length ∨ 16384 < fx.length ∨ 16384 < sg.length) → checkO ⟨md, key, im, cd, fx, sg, dt, ex, bd⟩ = 242 from fun h h1 h2 => checkO_code h h1 h2)
  have R3 := Lib.hid (show nameOk md → importsE md im = 0 → ¬ (16384 < cd.length ∨ 16384 < fx.length ∨ 16384 < sg.length) → ¬ ((0 ≤ dt ∧ dt ≤ 16384) ∧ 0 ≤ ex ∧ ex ≤ 4096) → checkO ⟨md, key, im, cd, fx, sg, dt, ex, bd⟩ = 244 from fun h h1 h2 h3 => checkO_data h h1 h2 h3)
  have R4 := Lib.hid (show nameOk md → importsE md im = 0 → ¬ (16384 < cd.length ∨ 16384 < fx.length ∨ 16384 < sg.length) → ((0 ≤ dt ∧ dt ≤ 16384) ∧ 0 ≤ ex ∧ ex ≤ 4096) → checkO ⟨md, key, im, cd, fx, sg, dt, ex, bd⟩ = if ¬ ((0 ≤ bd ∧ bd < cd.length) ∧ sgFirst sg ∧ sgOk cd.length (-1) sg ∧ fxOk cd.length im.length dt ex 0 fx) then 121 else 0 from fun h h1 h2 h3 => checkO_form h h1 h2 h3)
  generalize checkO ⟨md, key, im, cd, fx, sg, dt, ex, bd⟩ = r at *
  generalize importsE md im = ie at *
  have hmx := @run_max3 Try.prog (cd.length : Int) (fx.length : Int) (sg.length : Int)
  have MX := Lib.hid (show (if (sg.length : Int) > (if (fx.length : Int) > cd.length then (fx.length : Int) else cd.length) then (sg.length : Int) else (if (fx.length : Int) > cd.length then (fx.length : Int) else cd.length)) > 16384 ↔ (16384 < cd.length ∨ 16384 < fx.length ∨ 16384 < sg.length) from by split <;> split <;> omega)
  generalize (if (sg.length : Int) > (if (fx.length : Int) > cd.length then (fx.length : Int) else cd.length) then (sg.length : Int) else (if (fx.length : Int) > cd.length then (fx.length : Int) else cd.length)) = mx at *
  clear hv hn
  by_cases hN : nameOk md
  case neg =>
    have RR := Lib.hid (R0.out hN)
    rw [decide_eq_false hN] at NA
    clear hN
    go_enter Try.func7, Try.ntmps7
    go_wp2_with fail
    refine NA.out.mono ?_
    rintro e w1 ⟨rfl, rfl⟩
    go_wp2_with fail
    go_ret
    rw [RR.out]
    exact ⟨rfl, BA.out⟩
  rw [decide_eq_true hN] at NA
  have S1 := Lib.hid (R1.out hN)
  have S2 := Lib.hid (R2.out hN)
  have S3 := Lib.hid (R3.out hN)
  have S4 := Lib.hid (R4.out hN)
  clear R0 R1 R2 R3 R4 hN
  by_cases hi0 : ie = 0
  case neg =>
    have RR := Lib.hid (S1.out hi0)
    have d0 : (ie != 0) = true := by simp [hi0]
    clear hi0
    go_enter Try.func7, Try.ntmps7
    go_wp2_with fail
    refine NA.out.mono ?_
    rintro e w9 ⟨rfl, rfl⟩
    go_wp2_with fail
    clear q0 q2
    refine IA.out.mono ?_
    rintro e w2 ⟨rfl, hb2⟩
    have B2 := Lib.hid (BA.out.trans (hb2.mono BA.out.size))
    have X2 := Lib.hid (X.out.below hb2 X.out.lt)
    have V2 := Lib.hid (VV.out.below hb2)
    clear hb2 IA X VV BA NA
    go_wp2_with fail
    go_ret
    rw [RR.out]
    exact ⟨rfl, B2.out⟩
  have T2 := Lib.hid (S2.out hi0)
  have T3 := Lib.hid (S3.out hi0)
  have T4 := Lib.hid (S4.out hi0)
  subst hi0
  clear S1 S2 S3 S4
  by_cases hm : 16384 < cd.length ∨ 16384 < fx.length ∨ 16384 < sg.length
  case pos =>
    have RR := Lib.hid (T2.out hm)
    have dm : decide ((16384 : Int) < mx) = true := decide_eq_true (MX.out.2 hm)
    clear hm T2 T3 T4
    go_enter Try.func7, Try.ntmps7
    go_wp2_with fail
    refine NA.out.mono ?_
    rintro e w9 ⟨rfl, rfl⟩
    go_wp2_with fail
    clear q0 q2
    refine IA.out.mono ?_
    rintro e w2 ⟨rfl, hb2⟩
    have B2 := Lib.hid (BA.out.trans (hb2.mono BA.out.size))
    have X2 := Lib.hid (X.out.below hb2 X.out.lt)
    have V2 := Lib.hid (VV.out.below hb2)
    clear hb2 IA X VV BA NA
    have r3 : w2.cell? ⟨w.heap.size, 3, none⟩ = some (.slice Ac cd.length cc) := X2.out.cell 3
    have r4 : w2.cell? ⟨w.heap.size, 4, none⟩ = some (.slice Af fx.length cf) := X2.out.cell 4
    have r5 : w2.cell? ⟨w.heap.size, 5, none⟩ = some (.slice As sg.length cs) := X2.out.cell 5
    have r6 : w2.cell? ⟨w.heap.size, 6, none⟩ = some (.int .i64 dt) := X2.out.cell 6
    have r7 : w2.cell? ⟨w.heap.size, 7, none⟩ = some (.int .i64 ex) := X2.out.cell 7
    have r8 : w2.cell? ⟨w.heap.size, 8, none⟩ = some (.int .i64 bd) := X2.out.cell 8
    go_wp2_with fail
    go_ret
    rw [RR.out]
    exact ⟨rfl, B2.out⟩
  have dm : decide ((16384 : Int) < mx) = false := decide_eq_false (fun h => hm (MX.out.1 h))
  have U3 := Lib.hid (T3.out hm)
  have U4 := Lib.hid (T4.out hm)
  clear hm MX T2 T3 T4
  by_cases h1 : 0 ≤ dt ∧ dt ≤ 16384
  case neg =>
    have RR := Lib.hid (U3.out (fun h => h1 h.1))
    rw [decide_eq_false h1] at UD
    clear h1 U3 U4
    go_enter Try.func7, Try.ntmps7
    go_wp2_with fail
    refine NA.out.mono ?_
    rintro e w9 ⟨rfl, rfl⟩
    go_wp2_with fail
    clear q0 q2
    refine IA.out.mono ?_
    rintro e w2 ⟨rfl, hb2⟩
    have B2 := Lib.hid (BA.out.trans (hb2.mono BA.out.size))
    have X2 := Lib.hid (X.out.below hb2 X.out.lt)
    have V2 := Lib.hid (VV.out.below hb2)
    clear hb2 IA X VV BA NA
    have r3 : w2.cell? ⟨w.heap.size, 3, none⟩ = some (.slice Ac cd.length cc) := X2.out.cell 3
    have r4 : w2.cell? ⟨w.heap.size, 4, none⟩ = some (.slice Af fx.length cf) := X2.out.cell 4
    have r5 : w2.cell? ⟨w.heap.size, 5, none⟩ = some (.slice As sg.length cs) := X2.out.cell 5
    have r6 : w2.cell? ⟨w.heap.size, 6, none⟩ = some (.int .i64 dt) := X2.out.cell 6
    have r7 : w2.cell? ⟨w.heap.size, 7, none⟩ = some (.int .i64 ex) := X2.out.cell 7
    have r8 : w2.cell? ⟨w.heap.size, 8, none⟩ = some (.int .i64 bd) := X2.out.cell 8
    go_wp2_with fail
    refine (UD.out _).mono ?_
    rintro e w9 ⟨rfl, rfl⟩
    go_wp2_with fail
    go_ret
    rw [RR.out]
    exact ⟨rfl, B2.out⟩
  rw [decide_eq_true h1] at UD
  by_cases h2 : 0 ≤ ex ∧ ex ≤ 4096
  case neg =>
    have RR := Lib.hid (U3.out (fun h => h2 h.2))
    rw [decide_eq_false h2] at UE
    clear h1 h2 U3 U4
    go_enter Try.func7, Try.ntmps7
    go_wp2_with fail
    refine NA.out.mono ?_
    rintro e w9 ⟨rfl, rfl⟩
    go_wp2_with fail
    clear q0 q2
    refine IA.out.mono ?_
    rintro e w2 ⟨rfl, hb2⟩
    have B2 := Lib.hid (BA.out.trans (hb2.mono BA.out.size))
    have X2 := Lib.hid (X.out.below hb2 X.out.lt)
    have V2 := Lib.hid (VV.out.below hb2)
    clear hb2 IA X VV BA NA
    have r3 : w2.cell? ⟨w.heap.size, 3, none⟩ = some (.slice Ac cd.length cc) := X2.out.cell 3
    have r4 : w2.cell? ⟨w.heap.size, 4, none⟩ = some (.slice Af fx.length cf) := X2.out.cell 4
    have r5 : w2.cell? ⟨w.heap.size, 5, none⟩ = some (.slice As sg.length cs) := X2.out.cell 5
    have r6 : w2.cell? ⟨w.heap.size, 6, none⟩ = some (.int .i64 dt) := X2.out.cell 6
    have r7 : w2.cell? ⟨w.heap.size, 7, none⟩ = some (.int .i64 ex) := X2.out.cell 7
    have r8 : w2.cell? ⟨w.heap.size, 8, none⟩ = some (.int .i64 bd) := X2.out.cell 8
    go_wp2_with fail
    refine (UD.out _).mono ?_
    rintro e w9 ⟨rfl, rfl⟩
    go_wp2_with fail
    refine (UE.out _).mono ?_
    rintro e w9 ⟨rfl, rfl⟩
    go_wp2_with fail
    go_ret
    rw [RR.out]
    exact ⟨rfl, B2.out⟩
  rw [decide_eq_true h2] at UE
  have W4 := Lib.hid (U4.out ⟨h1, h2⟩)
  clear h1 h2 U3 U4
  by_cases h1 : 0 ≤ bd ∧ bd < (cd.length : Int)
  case neg =>
    have RR := Lib.hid (W4.out.trans (if_pos (fun h => h1 h.1)))
    rw [decide_eq_false h1] at WA
    clear h1 W4
    go_enter Try.func7, Try.ntmps7
    go_wp2_with fail
    refine NA.out.mono ?_
    rintro e w9 ⟨rfl, rfl⟩
    go_wp2_with fail
    clear q0 q2
    refine IA.out.mono ?_
    rintro e w2 ⟨rfl, hb2⟩
    have B2 := Lib.hid (BA.out.trans (hb2.mono BA.out.size))
    have X2 := Lib.hid (X.out.below hb2 X.out.lt)
    have V2 := Lib.hid (VV.out.below hb2)
    clear hb2 IA X VV BA NA
    have r3 : w2.cell? ⟨w.heap.size, 3, none⟩ = some (.slice Ac cd.length cc) := X2.out.cell 3
    have r4 : w2.cell? ⟨w.heap.size, 4, none⟩ = some (.slice Af fx.length cf) := X2.out.cell 4
    have r5 : w2.cell? ⟨w.heap.size, 5, none⟩ = some (.slice As sg.length cs) := X2.out.cell 5
    have r6 : w2.cell? ⟨w.heap.size, 6, none⟩ = some (.int .i64 dt) := X2.out.cell 6
    have r7 : w2.cell? ⟨w.heap.size, 7, none⟩ = some (.int .i64 ex) := X2.out.cell 7
    have r8 : w2.cell? ⟨w.heap.size, 8, none⟩ = some (.int .i64 bd) := X2.out.cell 8
    go_wp2_with fail
    refine (UD.out _).mono ?_
    rintro e w9 ⟨rfl, rfl⟩
    go_wp2_with fail
    refine (UE.out _).mono ?_
    rintro e w9 ⟨rfl, rfl⟩
    go_wp2_with fail
    refine (WA.out _).mono ?_
    rintro e w9 ⟨rfl, rfl⟩
    go_wp2_with fail
    go_ret
    rw [RR.out]
    exact ⟨rfl, B2.out⟩
  rw [decide_eq_true h1] at WA
  by_cases h2 : sgFirst sg ∧ sgOk cd.length (-1) sg
  case neg =>
    have RR := Lib.hid (W4.out.trans (if_pos (fun h => h2 ⟨h.2.1, h.2.2.1⟩)))
    rw [decide_eq_false h2] at SA
    clear h1 h2 W4
    go_enter Try.func7, Try.ntmps7
    go_wp2_with fail
    refine NA.out.mono ?_
    rintro e w9 ⟨rfl, rfl⟩
    go_wp2_with fail
    clear q0 q2
    refine IA.out.mono ?_
    rintro e w2 ⟨rfl, hb2⟩
    have B2 := Lib.hid (BA.out.trans (hb2.mono BA.out.size))
    have X2 := Lib.hid (X.out.below hb2 X.out.lt)
    have V2 := Lib.hid (VV.out.below hb2)
    clear hb2 IA X VV BA NA
    have r3 : w2.cell? ⟨w.heap.size, 3, none⟩ = some (.slice Ac cd.length cc) := X2.out.cell 3
    have r4 : w2.cell? ⟨w.heap.size, 4, none⟩ = some (.slice Af fx.length cf) := X2.out.cell 4
    have r5 : w2.cell? ⟨w.heap.size, 5, none⟩ = some (.slice As sg.length cs) := X2.out.cell 5
    have r6 : w2.cell? ⟨w.heap.size, 6, none⟩ = some (.int .i64 dt) := X2.out.cell 6
    have r7 : w2.cell? ⟨w.heap.size, 7, none⟩ = some (.int .i64 ex) := X2.out.cell 7
    have r8 : w2.cell? ⟨w.heap.size, 8, none⟩ = some (.int .i64 bd) := X2.out.cell 8
    go_wp2_with fail
    refine (UD.out _).mono ?_
    rintro e w9 ⟨rfl, rfl⟩
    go_wp2_with fail
    refine (UE.out _).mono ?_
    rintro e w9 ⟨rfl, rfl⟩
    go_wp2_with fail
    refine (WA.out _).mono ?_
    rintro e w9 ⟨rfl, rfl⟩
    go_wp2_with fail
    clear r3 r4 r5 r6 r7 r8
    refine (SA.out _ V2.out).mono ?_
    rintro e w3 ⟨rfl, hb3⟩
    have B3 := Lib.hid (B2.out.trans (hb3.mono B2.out.size))
    have X3 := Lib.hid (X2.out.below hb3 X2.out.lt)
    have V3 := Lib.hid (V2.out.below hb3)
    clear hb3 X2 V2
    go_wp2_with fail
    go_ret
    rw [RR.out]
    exact ⟨rfl, B3.out⟩
  rw [decide_eq_true h2] at SA
  by_cases h3 : fxOk cd.length im.length dt ex 0 fx
  case neg =>
    have RR := Lib.hid (W4.out.trans (if_pos (fun h => h3 h.2.2.2)))
    rw [decide_eq_false h3] at FA
    clear h1 h2 h3 W4
    go_enter Try.func7, Try.ntmps7
    go_wp2_with fail
    refine NA.out.mono ?_
    rintro e w9 ⟨rfl, rfl⟩
    go_wp2_with fail
    clear q0 q2
    refine IA.out.mono ?_
    rintro e w2 ⟨rfl, hb2⟩
    have B2 := Lib.hid (BA.out.trans (hb2.mono BA.out.size))
    have X2 := Lib.hid (X.out.below hb2 X.out.lt)
    have V2 := Lib.hid (VV.out.below hb2)
    clear hb2 IA X VV BA NA
    have r3 : w2.cell? ⟨w.heap.size, 3, none⟩ = some (.slice Ac cd.length cc) := X2.out.cell 3
    have r4 : w2.cell? ⟨w.heap.size, 4, none⟩ = some (.slice Af fx.length cf) := X2.out.cell 4
    have r5 : w2.cell? ⟨w.heap.size, 5, none⟩ = some (.slice As sg.length cs) := X2.out.cell 5
    have r6 : w2.cell? ⟨w.heap.size, 6, none⟩ = some (.int .i64 dt) := X2.out.cell 6
    have r7 : w2.cell? ⟨w.heap.size, 7, none⟩ = some (.int .i64 ex) := X2.out.cell 7
    have r8 : w2.cell? ⟨w.heap.size, 8, none⟩ = some (.int .i64 bd) := X2.out.cell 8
    go_wp2_with fail
    refine (UD.out _).mono ?_
    rintro e w9 ⟨rfl, rfl⟩
    go_wp2_with fail
    refine (UE.out _).mono ?_
    rintro e w9 ⟨rfl, rfl⟩
    go_wp2_with fail
    refine (WA.out _).mono ?_
    rintro e w9 ⟨rfl, rfl⟩
    go_wp2_with fail
    clear r3 r4 r5 r6 r7 r8
    refine (SA.out _ V2.out).mono ?_
    rintro e w3 ⟨rfl, hb3⟩
    have B3 := Lib.hid (B2.out.trans (hb3.mono B2.out.size))
    have X3 := Lib.hid (X2.out.below hb3 X2.out.lt)
    have V3 := Lib.hid (V2.out.below hb3)
    clear hb3 X2 V2
    have t0 : w3.cell? ⟨w.heap.size, 0, none⟩ = some (.string md) := X3.out.cell 0
    have t1 : w3.cell? ⟨w.heap.size, 1, none⟩ = some (.int .u32 key) := X3.out.cell 1
    have t2 : w3.cell? ⟨w.heap.size, 2, none⟩ = some (.slice Ai im.length ci) := X3.out.cell 2
    have t3 : w3.cell? ⟨w.heap.size, 3, none⟩ = some (.slice Ac cd.length cc) := X3.out.cell 3
    have t4 : w3.cell? ⟨w.heap.size, 4, none⟩ = some (.slice Af fx.length cf) := X3.out.cell 4
    have t5 : w3.cell? ⟨w.heap.size, 5, none⟩ = some (.slice As sg.length cs) := X3.out.cell 5
    have t6 : w3.cell? ⟨w.heap.size, 6, none⟩ = some (.int .i64 dt) := X3.out.cell 6
    have t7 : w3.cell? ⟨w.heap.size, 7, none⟩ = some (.int .i64 ex) := X3.out.cell 7
    have t8 : w3.cell? ⟨w.heap.size, 8, none⟩ = some (.int .i64 bd) := X3.out.cell 8
    go_wp2_with fail
    refine (FA.out _ V3.out).mono ?_
    rintro e w4 ⟨rfl, hb4⟩
    have B4 := Lib.hid (B3.out.trans (hb4.mono B3.out.size))
    clear hb4
    go_wp2_with fail
    go_ret
    rw [RR.out]
    exact ⟨rfl, B4.out⟩
  rw [decide_eq_true h3] at FA
  have RR := Lib.hid (W4.out.trans (if_neg (fun h => h ⟨h1, h2.1, h2.2, h3⟩)))
  clear h1 h2 h3 W4
  go_enter Try.func7, Try.ntmps7
  go_wp2_with fail
  refine NA.out.mono ?_
  rintro e w9 ⟨rfl, rfl⟩
  go_wp2_with fail
  clear q0 q2
  refine IA.out.mono ?_
  rintro e w2 ⟨rfl, hb2⟩
  have B2 := Lib.hid (BA.out.trans (hb2.mono BA.out.size))
  have X2 := Lib.hid (X.out.below hb2 X.out.lt)
  have V2 := Lib.hid (VV.out.below hb2)
  clear hb2 IA X VV BA NA
  have r3 : w2.cell? ⟨w.heap.size, 3, none⟩ = some (.slice Ac cd.length cc) := X2.out.cell 3
  have r4 : w2.cell? ⟨w.heap.size, 4, none⟩ = some (.slice Af fx.length cf) := X2.out.cell 4
  have r5 : w2.cell? ⟨w.heap.size, 5, none⟩ = some (.slice As sg.length cs) := X2.out.cell 5
  have r6 : w2.cell? ⟨w.heap.size, 6, none⟩ = some (.int .i64 dt) := X2.out.cell 6
  have r7 : w2.cell? ⟨w.heap.size, 7, none⟩ = some (.int .i64 ex) := X2.out.cell 7
  have r8 : w2.cell? ⟨w.heap.size, 8, none⟩ = some (.int .i64 bd) := X2.out.cell 8
  go_wp2_with fail
  refine (UD.out _).mono ?_
  rintro e w9 ⟨rfl, rfl⟩
  go_wp2_with fail
  refine (UE.out _).mono ?_
  rintro e w9 ⟨rfl, rfl⟩
  go_wp2_with fail
  refine (WA.out _).mono ?_
  rintro e w9 ⟨rfl, rfl⟩
  go_wp2_with fail
  clear r3 r4 r5 r6 r7 r8
  refine (SA.out _ V2.out).mono ?_
  rintro e w3 ⟨rfl, hb3⟩
  have B3 := Lib.hid (B2.out.trans (hb3.mono B2.out.size))
  have X3 := Lib.hid (X2.out.below hb3 X2.out.lt)
  have V3 := Lib.hid (V2.out.below hb3)
  clear hb3 X2 V2
  have t0 : w3.cell? ⟨w.heap.size, 0, none⟩ = some (.string md) := X3.out.cell 0
  have t1 : w3.cell? ⟨w.heap.size, 1, none⟩ = some (.int .u32 key) := X3.out.cell 1
  have t2 : w3.cell? ⟨w.heap.size, 2, none⟩ = some (.slice Ai im.length ci) := X3.out.cell 2
  have t3 : w3.cell? ⟨w.heap.size, 3, none⟩ = some (.slice Ac cd.length cc) := X3.out.cell 3
  have t4 : w3.cell? ⟨w.heap.size, 4, none⟩ = some (.slice Af fx.length cf) := X3.out.cell 4
  have t5 : w3.cell? ⟨w.heap.size, 5, none⟩ = some (.slice As sg.length cs) := X3.out.cell 5
  have t6 : w3.cell? ⟨w.heap.size, 6, none⟩ = some (.int .i64 dt) := X3.out.cell 6
  have t7 : w3.cell? ⟨w.heap.size, 7, none⟩ = some (.int .i64 ex) := X3.out.cell 7
  have t8 : w3.cell? ⟨w.heap.size, 8, none⟩ = some (.int .i64 bd) := X3.out.cell 8
  go_wp2_with fail
  refine (FA.out _ V3.out).mono ?_
  rintro e w4 ⟨rfl, hb4⟩
  have B4 := Lib.hid (B3.out.trans (hb4.mono B3.out.size))
  clear hb4
  go_wp2_with fail
  go_ret
  rw [RR.out]
  exact ⟨rfl, B4.out⟩
end Go.Proofs.Ytdakooipelligaa
