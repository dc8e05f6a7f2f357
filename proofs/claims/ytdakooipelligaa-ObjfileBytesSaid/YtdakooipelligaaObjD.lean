/- Objfile: the program's areSegments, areFixups. -/
import Derived.Test.YtdakooipelligaaObjC
import Derived.Test.YtdakooipelligaaFngB
import Derived.Deep.QuietTactic
import Derived.Deep.RegionHeld3
namespace Go.Proofs.Ytdakooipelligaa
open Go.ChangeShapes Go.WideShapes Go.ChangeAt Go.RowKit
set_option linter.unusedVariables false
set_option linter.unusedSimpArgs false

/-- Where the segment ahead begins. -/
def sgPrev (l : List Sg) : Nat → Int
  | 0 => -1
  | t + 1 => (l.getD t zSg).st

theorem sgOk_cons {n p : Int} {s : Sg} {l : List Sg} : sgOk n p (s :: l) ↔ (p < s.st ∧ s.st < n ∧ -1 ≤ s.pd ∧ s.pd < n) ∧ sgOk n s.st l := Iff.rfl

theorem fxOk_cons {n m data excs free : Int} {f : Fx} {l : List Fx} : fxOk n m data excs free (f :: l) ↔ (fxFit n m data excs f ∧ free ≤ f.pl) ∧ fxOk n m data excs (f.pl + wordsK f.kd) l := Iff.rfl

theorem dropL {α : Type} (l : List α) (d : α) {t : Nat} (h : t < l.length) : l.drop t = l.getD t d :: l.drop (t + 1) := by
  rw [List.drop_eq_getElem_cons h, List.getD_eq_getElem?_getD, List.getElem?_eq_getElem h]
  rfl

theorem dec_no {p : Prop} [Decidable p] {r : Bool} (h : r = decide p) (h2 : ¬ p) : r = false := h.trans (decide_eq_false h2)

theorem dec_yes {p : Prop} [Decidable p] {r : Bool} (h : r = decide p) (h2 : p) : r = true := h.trans (decide_eq_true h2)

theorem dec_iff {p q : Prop} [Decidable p] [Decidable q] {r : Bool} (h : r = decide p) (h2 : p ↔ q) : r = decide q := h.trans (by simp [h2])

set_option maxHeartbeats 16000000 in
set_option maxRecDepth 100000 in
theorem segs_any (As : Option Addr) (sg : List Sg) (cs : Nat) (Ac : Option Addr) (n cc : Nat) (B : Nat) (w : World) (h : LstV sgCells B w (.slice As sg.length cs) sg) (hn : sg.length ≤ 140737488355328) (hm : n ≤ 140737488355328) :
    Calls Try.prog 19 #[.slice As sg.length cs, .slice Ac n cc] w fun e w' => e = .returned (.bool (decide (sgFirst sg ∧ sgOk n (-1) sg))) ∧ Below w.heap.size w w' := by
  have H := Lib.hid h
  have IW := Lib.hid (fun z W => isWord_any z Ac n cc W)
  generalize hr : decide (sgFirst sg ∧ sgOk n (-1) sg) = r
  have HR := Lib.hid hr.symm
  clear hr h
  by_cases h0 : sg.length = 0
  · have d0 : ((sg.length : Int) == 0) = true := by simp [h0]
    have R := Lib.hid (show r = false from dec_no HR.out (fun h => by
      obtain rfl := List.length_eq_zero_iff.1 h0
      exact h.1))
    clear h0
    go_enter Try.func19, Try.ntmps19
    go_wp2_with fail
    go_ret
    rw [R.out]
    exact ⟨rfl, Below.refl _ _⟩
  have d0 : ((sg.length : Int) == 0) = false := by rw [beq_eq_false_iff_ne]; omega
  have hpos : 0 < sg.length := Nat.pos_of_ne_zero h0
  obtain ⟨b, off, rfl, hbl, x0, _⟩ := sg_at H.out hpos
  rw [Nat.zero_mul, Nat.add_zero] at x0
  have FI := Lib.hid (show sgFirst sg ↔ (sg.getD 0 zSg).st = 0 from by
    cases sg with
    | nil => exact absurd rfl h0
    | cons s l => exact Iff.rfl)
  clear h0
  by_cases hf : (sg.getD 0 zSg).st = 0
  case neg =>
    have R := Lib.hid (show r = false from dec_no HR.out (fun h => hf (FI.out.1 h.1)))
    generalize (sg.getD 0 zSg).st = st0 at *
    have d1 : (st0 != 0) = true := by simp [hf]
    clear hf
    go_enter Try.func19, Try.ntmps19
    go_wp2_with fail
    go_ret
    rw [R.out]
    exact ⟨rfl, Below.refl _ _⟩
  have HF := Lib.hid hf
  have R0 := Lib.hid (show r = decide (sgOk n (sgPrev sg 0) (sg.drop 0)) from dec_iff HR.out ⟨fun h => h.2, fun h => ⟨FI.out.2 hf, h⟩⟩)
  have d1 : ((sg.getD 0 zSg).st != 0) = false := by rw [hf]; rfl
  have HF0 := Lib.hid (show ∀ j, j = 0 → (sg.getD j zSg).st = 0 from fun j e => by subst e; exact hf)
  generalize (sg.getD 0 zSg).st = st0 at *
  clear hf HR FI
  go_enter Try.func19, Try.ntmps19
  go_wp2_with fail
  clear x0 d0 d1
  go_loopw [19] (fun i wr => ∃ t : Nat, t ≤ sg.length ∧ i = .int .i64 t ∧ r = decide (sgOk n (sgPrev sg t) (sg.drop t)) ∧ -1 ≤ sgPrev sg t ∧ Below w.heap.size w wr) (fun i _ => sg.length - (intOf i).toNat)
  case atStart => exact ⟨0, Nat.zero_le _, rfl, R0.out, Int.le_refl _, Below.refl _ _⟩
  case round =>
    obtain ⟨t, ht, rfl, hrt, hpv, hb⟩ := hrel
    have RT := Lib.hid hrt
    have HB := Lib.hid hb
    have PV := Lib.hid hpv
    clear hrt hb hpv R0
    by_cases hlt : t < sg.length
    · have hI : (t : Int) < sg.length := by omega
      obtain ⟨_, _, e1, _, x0, x1⟩ := sg_at (H.out.below HB.out) hlt
      injection e1 with e1
      injection e1 with e1 e2
      subst e1 e2
      have DR := Lib.hid (dropL sg zSg hlt)
      have PN := Lib.hid (show sgPrev sg (t + 1) = (sg.getD t zSg).st from rfl)
      have KB := Lib.hid (H.out.below HB.out)
      have S0 := Lib.hid (show t = 0 → (sg.getD t zSg).st = 0 from fun e => HF0.out t e)
      generalize sg.getD t zSg = s at *
      obtain ⟨st, pd⟩ := s
      have S00 := Lib.hid (show t = 0 → st = 0 from S0.out)
      have RN := Lib.hid (show ¬ ((sgPrev sg t < st ∧ st < n ∧ -1 ≤ pd ∧ pd < n) ∧ sgOk n st (sg.drop (t + 1))) → r = false from fun h => dec_no (by rw [← DR.out]; exact RT.out) (fun h' => h (sgOk_cons.1 h')))
      have RY := Lib.hid (show (sgPrev sg t < st ∧ st < n ∧ -1 ≤ pd ∧ pd < n) → r = decide (sgOk n (sgPrev sg (t + 1)) (sg.drop (t + 1))) from fun h => dec_iff (by rw [← DR.out]; exact RT.out) ⟨fun h' => by rw [PN.out]; exact (sgOk_cons.1 h').2, fun h' => sgOk_cons.2 ⟨h, by rw [PN.out] at h'; exact h'⟩⟩)
      have PN2 := Lib.hid (show sgPrev sg (t + 1) = st from PN.out)
      simp only at x0 x1
      clear S0 DR RT PN
      have q1 := (Below.refl wr.heap.size wr).alloc (Nat.le_refl _) (.cells #[.int .i64 st, .int .i64 pd] sgT)
      have Y := Lib.hid (Whole.made wr sgT #[.int .i64 st, .int .i64 pd] _ rfl)
      have B1 := Lib.hid (HB.out.alloc HB.out.size (.cells #[.int .i64 st, .int .i64 pd] sgT))
      have K1 := Lib.hid (KB.out.below q1)
      have y0 : (wr.alloc (.cells #[.int .i64 st, .int .i64 pd] sgT)).cell? ⟨wr.heap.size, 0, none⟩ = some (.int .i64 st) := Y.out.cell 0
      have IS := Lib.hid (fun W => IW.out st W)
      have IP := Lib.hid (fun W => IW.out pd W)
      clear q1 KB
      rcases t with _ | k
      · have hs0 := S00.out rfl
        have PL := Lib.hid (show sgPrev sg 0 < st from by show (-1 : Int) < st; omega)
        have SN := Lib.hid (show 0 ≤ st from by omega)
        have hI' : (0 : Int) < sg.length := by omega
        rw [Nat.zero_mul, Nat.add_zero] at x0 x1
        clear hs0 S00 PV hI
        by_cases hw : 0 ≤ st ∧ st < (n : Int)
        case neg =>
          have R := Lib.hid (RN.out (fun h => hw ⟨SN.out, h.1.2.1⟩))
          rw [decide_eq_false hw] at IS
          clear hw RN RY
          go_wp2_with fail
          go_quiet (fail)
          rename_i nq
          clear y0 x0 x1
          have BD := Lib.hid (below_drawn B1.out nq)
          have YD := Lib.hid (Y.out.drawn nq)
          generalize hVD : (wr.alloc (.cells #[.int .i64 st, .int .i64 pd] sgT)).drewN nq = VD at *
          clear hVD
          have y0 : VD.cell? ⟨wr.heap.size, 0, none⟩ = some (.int .i64 st) := YD.out.cell 0
          have y1 : VD.cell? ⟨wr.heap.size, 1, none⟩ = some (.int .i64 pd) := YD.out.cell 1
          go_wp2_with fail
          refine (IS.out _).mono ?_
          rintro e w9 ⟨rfl, rfl⟩
          go_wp2_with fail
          go_ret
          rw [R.out]
          exact ⟨rfl, BD.out⟩
        rw [decide_eq_true hw] at IS
        by_cases hq : pd = -1
        · have dq : (pd != -1) = false := by simp [hq]
          have RF := Lib.hid (RY.out ⟨PL.out, hw.2, by omega, by omega⟩)
          clear hw hq RN RY
          go_wp2_with fail
          go_quiet (fail)
          rename_i nq
          clear y0 x0 x1
          have BD := Lib.hid (below_drawn B1.out nq)
          have YD := Lib.hid (Y.out.drawn nq)
          generalize hVD : (wr.alloc (.cells #[.int .i64 st, .int .i64 pd] sgT)).drewN nq = VD at *
          clear hVD
          have y0 : VD.cell? ⟨wr.heap.size, 0, none⟩ = some (.int .i64 st) := YD.out.cell 0
          have y1 : VD.cell? ⟨wr.heap.size, 1, none⟩ = some (.int .i64 pd) := YD.out.cell 1
          go_wp2_with fail
          refine (IS.out _).mono ?_
          rintro e w9 ⟨rfl, rfl⟩
          go_wp2_with fail
          go_roundw
          case rel => exact ⟨0 + 1, by omega, by go_num, RF.out, by rw [PN2.out]; have := SN.out; omega, BD.out⟩
          case measure => simp [intOf]; omega
        · have dq : (pd != -1) = true := by simp [hq]
          by_cases hv : 0 ≤ pd ∧ pd < (n : Int)
          · have RF := Lib.hid (RY.out ⟨PL.out, hw.2, by omega, by omega⟩)
            rw [decide_eq_true hv] at IP
            clear hw hq hv RN RY
            go_wp2_with fail
            go_quiet (fail)
            rename_i nq
            clear y0 x0 x1
            have BD := Lib.hid (below_drawn B1.out nq)
            have YD := Lib.hid (Y.out.drawn nq)
            generalize hVD : (wr.alloc (.cells #[.int .i64 st, .int .i64 pd] sgT)).drewN nq = VD at *
            clear hVD
            have y0 : VD.cell? ⟨wr.heap.size, 0, none⟩ = some (.int .i64 st) := YD.out.cell 0
            have y1 : VD.cell? ⟨wr.heap.size, 1, none⟩ = some (.int .i64 pd) := YD.out.cell 1
            go_wp2_with fail
            refine (IS.out _).mono ?_
            rintro e w9 ⟨rfl, rfl⟩
            go_wp2_with fail
            refine (IP.out _).mono ?_
            rintro e w9 ⟨rfl, rfl⟩
            go_wp2_with fail
            go_roundw
            case rel => exact ⟨0 + 1, by omega, by go_num, RF.out, by rw [PN2.out]; have := SN.out; omega, BD.out⟩
            case measure => simp [intOf]; omega
          · have R := Lib.hid (RN.out (fun h => hv ⟨by have := h.1.2.2; omega, h.1.2.2.2⟩))
            rw [decide_eq_false hv] at IP
            clear hw hq hv RN RY
            go_wp2_with fail
            go_quiet (fail)
            rename_i nq
            clear y0 x0 x1
            have BD := Lib.hid (below_drawn B1.out nq)
            have YD := Lib.hid (Y.out.drawn nq)
            generalize hVD : (wr.alloc (.cells #[.int .i64 st, .int .i64 pd] sgT)).drewN nq = VD at *
            clear hVD
            have y0 : VD.cell? ⟨wr.heap.size, 0, none⟩ = some (.int .i64 st) := YD.out.cell 0
            have y1 : VD.cell? ⟨wr.heap.size, 1, none⟩ = some (.int .i64 pd) := YD.out.cell 1
            go_wp2_with fail
            refine (IS.out _).mono ?_
            rintro e w9 ⟨rfl, rfl⟩
            go_wp2_with fail
            refine (IP.out _).mono ?_
            rintro e w9 ⟨rfl, rfl⟩
            go_wp2_with fail
            go_ret
            rw [R.out]
            exact ⟨rfl, BD.out⟩
      · obtain ⟨_, _, e1, _, p0, _⟩ := sg_at K1.out (show k < sg.length by omega)
        injection e1 with e1
        injection e1 with e1 e2
        subst e1 e2
        have PK := Lib.hid (show sgPrev sg (k + 1) = (sg.getD k zSg).st from rfl)
        generalize (sg.getD k zSg).st = pst at *
        rw [PK.out] at RN RY PV
        have hI' : (k : Int) + 1 < sg.length := by omega
        have dz : decide ((0 : Int) < (k : Int) + 1) = true := decide_eq_true (by omega)
        clear S00 hI
        by_cases hp : st ≤ pst
        · have dp : decide (st ≤ pst) = true := decide_eq_true hp
          have R := Lib.hid (RN.out (fun h => by have := h.1.1; omega))
          clear hp RN RY
          go_wp2_with fail
          go_quiet (fail)
          rename_i nq
          have BF := Lib.hid (below_drawn B1.out nq)
          go_wp2_with fail
          go_ret
          rw [R.out]
          exact ⟨rfl, BF.out⟩
        · have dp : decide (st ≤ pst) = false := decide_eq_false hp
          have PL := Lib.hid (show pst < st by omega)
          have SN := Lib.hid (show 0 ≤ st from by have := PV.out; omega)
          clear hp PV
          by_cases hw : 0 ≤ st ∧ st < (n : Int)
          case neg =>
            have R := Lib.hid (RN.out (fun h => hw ⟨SN.out, h.1.2.1⟩))
            rw [decide_eq_false hw] at IS
            clear hw RN RY
            go_wp2_with fail
            go_quiet (fail)
            rename_i nq
            clear y0 x0 x1
            have BD := Lib.hid (below_drawn B1.out nq)
            have YD := Lib.hid (Y.out.drawn nq)
            generalize hVD : (wr.alloc (.cells #[.int .i64 st, .int .i64 pd] sgT)).drewN nq = VD at *
            clear hVD
            have y0 : VD.cell? ⟨wr.heap.size, 0, none⟩ = some (.int .i64 st) := YD.out.cell 0
            have y1 : VD.cell? ⟨wr.heap.size, 1, none⟩ = some (.int .i64 pd) := YD.out.cell 1
            go_wp2_with fail
            refine (IS.out _).mono ?_
            rintro e w9 ⟨rfl, rfl⟩
            go_wp2_with fail
            go_ret
            rw [R.out]
            exact ⟨rfl, BD.out⟩
          rw [decide_eq_true hw] at IS
          by_cases hq : pd = -1
          · have dq : (pd != -1) = false := by simp [hq]
            have RF := Lib.hid (RY.out ⟨PL.out, hw.2, by omega, by omega⟩)
            clear hw hq RN RY
            go_wp2_with fail
            go_quiet (fail)
            rename_i nq
            clear y0 x0 x1
            have BD := Lib.hid (below_drawn B1.out nq)
            have YD := Lib.hid (Y.out.drawn nq)
            generalize hVD : (wr.alloc (.cells #[.int .i64 st, .int .i64 pd] sgT)).drewN nq = VD at *
            clear hVD
            have y0 : VD.cell? ⟨wr.heap.size, 0, none⟩ = some (.int .i64 st) := YD.out.cell 0
            have y1 : VD.cell? ⟨wr.heap.size, 1, none⟩ = some (.int .i64 pd) := YD.out.cell 1
            go_wp2_with fail
            refine (IS.out _).mono ?_
            rintro e w9 ⟨rfl, rfl⟩
            go_wp2_with fail
            go_roundw
            case rel => exact ⟨(k + 1) + 1, by omega, by go_num, RF.out, by rw [PN2.out]; have := SN.out; omega, BD.out⟩
            case measure => simp [intOf]; omega
          · have dq : (pd != -1) = true := by simp [hq]
            by_cases hv : 0 ≤ pd ∧ pd < (n : Int)
            · have RF := Lib.hid (RY.out ⟨PL.out, hw.2, by omega, by omega⟩)
              rw [decide_eq_true hv] at IP
              clear hw hq hv RN RY
              go_wp2_with fail
              go_quiet (fail)
              rename_i nq
              clear y0 x0 x1
              have BD := Lib.hid (below_drawn B1.out nq)
              have YD := Lib.hid (Y.out.drawn nq)
              generalize hVD : (wr.alloc (.cells #[.int .i64 st, .int .i64 pd] sgT)).drewN nq = VD at *
              clear hVD
              have y0 : VD.cell? ⟨wr.heap.size, 0, none⟩ = some (.int .i64 st) := YD.out.cell 0
              have y1 : VD.cell? ⟨wr.heap.size, 1, none⟩ = some (.int .i64 pd) := YD.out.cell 1
              go_wp2_with fail
              refine (IS.out _).mono ?_
              rintro e w9 ⟨rfl, rfl⟩
              go_wp2_with fail
              refine (IP.out _).mono ?_
              rintro e w9 ⟨rfl, rfl⟩
              go_wp2_with fail
              go_roundw
              case rel => exact ⟨(k + 1) + 1, by omega, by go_num, RF.out, by rw [PN2.out]; have := SN.out; omega, BD.out⟩
              case measure => simp [intOf]; omega
            · have R := Lib.hid (RN.out (fun h => hv ⟨by have := h.1.2.2; omega, h.1.2.2.2⟩))
              rw [decide_eq_false hv] at IP
              clear hw hq hv RN RY
              go_wp2_with fail
              go_quiet (fail)
              rename_i nq
              clear y0 x0 x1
              have BD := Lib.hid (below_drawn B1.out nq)
              have YD := Lib.hid (Y.out.drawn nq)
              generalize hVD : (wr.alloc (.cells #[.int .i64 st, .int .i64 pd] sgT)).drewN nq = VD at *
              clear hVD
              have y0 : VD.cell? ⟨wr.heap.size, 0, none⟩ = some (.int .i64 st) := YD.out.cell 0
              have y1 : VD.cell? ⟨wr.heap.size, 1, none⟩ = some (.int .i64 pd) := YD.out.cell 1
              go_wp2_with fail
              refine (IS.out _).mono ?_
              rintro e w9 ⟨rfl, rfl⟩
              go_wp2_with fail
              refine (IP.out _).mono ?_
              rintro e w9 ⟨rfl, rfl⟩
              go_wp2_with fail
              go_ret
              rw [R.out]
              exact ⟨rfl, BD.out⟩
    · have hI : ¬ (t : Int) < sg.length := by omega
      obtain rfl : t = sg.length := by omega
      have R := Lib.hid (show r = true from dec_yes RT.out (by rw [List.drop_length]; exact trivial))
      clear RT
      go_wp2_with fail
      go_ret
      rw [R.out]
      exact ⟨rfl, HB.out⟩

set_option maxHeartbeats 16000000 in
set_option maxRecDepth 100000 in
theorem fixups_any (md : ByteArray) (key : Int) (Ai : Option Addr) (im : List Im) (ci : Nat) (Ac : Option Addr) (cd : List Int) (cc : Nat) (Af : Option Addr) (fx : List Fx) (cf : Nat) (As : Option Addr) (sg : List Sg) (cs : Nat) (dt ex bd : Int) (B : Nat) (w : World) (h : LstV fxCells B w (.slice Af fx.length cf) fx) (hi : im.length ≤ 140737488355328) (hn : fx.length ≤ 140737488355328) (hm : cd.length ≤ 140737488355328) :
    Calls Try.prog 20 #[.agg #[.string md, .int .u32 key, .slice Ai im.length ci, .slice Ac cd.length cc, .slice Af fx.length cf, .slice As sg.length cs, .int .i64 dt, .int .i64 ex, .int .i64 bd]] w fun e w' => e = .returned (.bool (decide (fxOk cd.length im.length dt ex 0 fx))) ∧ Below w.heap.size w w' := by
  have BA := Lib.hid ((Below.refl w.heap.size w).alloc (Nat.le_refl _) (.cells #[.string md, .int .u32 key, .slice Ai im.length ci, .slice Ac cd.length cc, .slice Af fx.length cf, .slice As sg.length cs, .int .i64 dt, .int .i64 ex, .int .i64 bd] oT))
  have X := Lib.hid (Whole.made w oT #[.string md, .int .u32 key, .slice Ai im.length ci, .slice Ac cd.length cc, .slice Af fx.length cf, .slice As sg.length cs, .int .i64 dt, .int .i64 ex, .int .i64 bd] _ rfl)
  have H := Lib.hid (h.below BA.out)
  have MA := Lib.hid (fun pl kd fm vl W => mean_any pl kd fm vl md key Ai im ci Ac cd cc Af fx cf As sg cs dt ex bd W hi)
  have q4 : (w.alloc (.cells #[.string md, .int .u32 key, .slice Ai im.length ci, .slice Ac cd.length cc, .slice Af fx.length cf, .slice As sg.length cs, .int .i64 dt, .int .i64 ex, .int .i64 bd] oT)).cell? ⟨w.heap.size, 4, none⟩ = some (.slice Af fx.length cf) := X.out.cell 4
  generalize hr : decide (fxOk cd.length im.length dt ex 0 fx) = r
  have HR := Lib.hid (show r = decide (fxOk cd.length im.length dt ex 0 (fx.drop 0)) from hr.symm)
  clear hr h
  go_enter Try.func20, Try.ntmps20
  go_wp2_with fail
  clear q4
  generalize hV : w.alloc (.cells #[.string md, .int .u32 key, .slice Ai im.length ci, .slice Ac cd.length cc, .slice Af fx.length cf, .slice As sg.length cs, .int .i64 dt, .int .i64 ex, .int .i64 bd] oT) = V at *
  clear hV
  go_loopw [3, 10] (fun f i wr => ∃ (t : Nat) (free : Int), t ≤ fx.length ∧ i = .int .i64 t ∧ f = .int .i64 free ∧ (0 ≤ free ∧ free ≤ 140737488355328) ∧ r = decide (fxOk cd.length im.length dt ex free (fx.drop t)) ∧ Below V.heap.size V wr) (fun _ i _ => fx.length - (intOf i).toNat)
  case atStart => exact ⟨0, 0, Nat.zero_le _, rfl, rfl, by decide, HR.out, Below.refl _ _⟩
  case round =>
    obtain ⟨t, free, ht, rfl, rfl, hfr, hrt, hb⟩ := hrel
    have RT := Lib.hid hrt
    have HB := Lib.hid hb
    have FR := Lib.hid hfr
    have B0 := Lib.hid (BA.out.trans (hb.mono BA.out.size))
    clear hrt hb hfr HR
    by_cases hlt : t < fx.length
    · have hI : (t : Int) < fx.length := by omega
      obtain ⟨b, off, rfl, hbl, x0, x1, x2, x3⟩ := fx_at (H.out.below HB.out) hlt
      have DR := Lib.hid (dropL fx zFx hlt)
      generalize fx.getD t zFx = s at *
      obtain ⟨pl, kd, fm, vl⟩ := s
      have FM := Lib.hid (fit_mean cd.length im.length dt ex ⟨pl, kd, fm, vl⟩)
      simp only at x0 x1 x2 x3 FM
      have WA := Lib.hid (fun W => words_any kd W)
      have WI := Lib.hid (wordsK_in kd)
      have RN := Lib.hid (show ¬ (fxFit cd.length im.length dt ex ⟨pl, kd, fm, vl⟩ ∧ free ≤ pl) → r = false from fun h => dec_no (by rw [← DR.out]; exact RT.out) (fun h' => h (fxOk_cons.1 h').1))
      have RY := Lib.hid (show (fxFit cd.length im.length dt ex ⟨pl, kd, fm, vl⟩ ∧ free ≤ pl) → r = decide (fxOk cd.length im.length dt ex (pl + wordsK kd) (fx.drop (t + 1))) from fun h => dec_iff (by rw [← DR.out]; exact RT.out) ⟨fun h' => (fxOk_cons.1 h').2, fun h' => fxOk_cons.2 ⟨h, h'⟩⟩)
      rw [FM.out] at RN RY
      have MC := Lib.hid (fun W => MA.out pl kd fm vl W)
      generalize wordsK kd = wk at *
      clear DR RT FM
      have Y := Lib.hid (Whole.made wr fxT #[.int .i64 pl, .int .i64 kd, .int .i64 fm, .int .i64 vl] _ rfl)
      have B1 := Lib.hid (B0.out.alloc B0.out.size (.cells #[.int .i64 pl, .int .i64 kd, .int .i64 fm, .int .i64 vl] fxT))
      have C1 := Lib.hid (HB.out.alloc HB.out.size (.cells #[.int .i64 pl, .int .i64 kd, .int .i64 fm, .int .i64 vl] fxT))
      have X1 := Lib.hid ((X.out.below HB.out X.out.lt).alloc (.cells #[.int .i64 pl, .int .i64 kd, .int .i64 fm, .int .i64 vl] fxT))
      have y0 : (wr.alloc (.cells #[.int .i64 pl, .int .i64 kd, .int .i64 fm, .int .i64 vl] fxT)).cell? ⟨wr.heap.size, 0, none⟩ = some (.int .i64 pl) := Y.out.cell 0
      have y1 : (wr.alloc (.cells #[.int .i64 pl, .int .i64 kd, .int .i64 fm, .int .i64 vl] fxT)).cell? ⟨wr.heap.size, 1, none⟩ = some (.int .i64 kd) := Y.out.cell 1
      have y2 : (wr.alloc (.cells #[.int .i64 pl, .int .i64 kd, .int .i64 fm, .int .i64 vl] fxT)).cell? ⟨wr.heap.size, 2, none⟩ = some (.int .i64 fm) := Y.out.cell 2
      have y3 : (wr.alloc (.cells #[.int .i64 pl, .int .i64 kd, .int .i64 fm, .int .i64 vl] fxT)).cell? ⟨wr.heap.size, 3, none⟩ = some (.int .i64 vl) := Y.out.cell 3
      have q0 : (wr.alloc (.cells #[.int .i64 pl, .int .i64 kd, .int .i64 fm, .int .i64 vl] fxT)).cell? ⟨w.heap.size, 0, none⟩ = some (.string md) := X1.out.cell 0
      have q1 : (wr.alloc (.cells #[.int .i64 pl, .int .i64 kd, .int .i64 fm, .int .i64 vl] fxT)).cell? ⟨w.heap.size, 1, none⟩ = some (.int .u32 key) := X1.out.cell 1
      have q2 : (wr.alloc (.cells #[.int .i64 pl, .int .i64 kd, .int .i64 fm, .int .i64 vl] fxT)).cell? ⟨w.heap.size, 2, none⟩ = some (.slice Ai im.length ci) := X1.out.cell 2
      have q3 : (wr.alloc (.cells #[.int .i64 pl, .int .i64 kd, .int .i64 fm, .int .i64 vl] fxT)).cell? ⟨w.heap.size, 3, none⟩ = some (.slice Ac cd.length cc) := X1.out.cell 3
      have q4 : (wr.alloc (.cells #[.int .i64 pl, .int .i64 kd, .int .i64 fm, .int .i64 vl] fxT)).cell? ⟨w.heap.size, 4, none⟩ = some (.slice (some ⟨b, off, none⟩) fx.length cf) := X1.out.cell 4
      have q5 : (wr.alloc (.cells #[.int .i64 pl, .int .i64 kd, .int .i64 fm, .int .i64 vl] fxT)).cell? ⟨w.heap.size, 5, none⟩ = some (.slice As sg.length cs) := X1.out.cell 5
      have q6 : (wr.alloc (.cells #[.int .i64 pl, .int .i64 kd, .int .i64 fm, .int .i64 vl] fxT)).cell? ⟨w.heap.size, 6, none⟩ = some (.int .i64 dt) := X1.out.cell 6
      have q7 : (wr.alloc (.cells #[.int .i64 pl, .int .i64 kd, .int .i64 fm, .int .i64 vl] fxT)).cell? ⟨w.heap.size, 7, none⟩ = some (.int .i64 ex) := X1.out.cell 7
      have q8 : (wr.alloc (.cells #[.int .i64 pl, .int .i64 kd, .int .i64 fm, .int .i64 vl] fxT)).cell? ⟨w.heap.size, 8, none⟩ = some (.int .i64 bd) := X1.out.cell 8
      have W0 := WI.out.1
      have W2 := WI.out.2
      by_cases h1 : wk = 0
      · have d1 : (wk == 0) = true := by simp [h1]
        have R := Lib.hid (RN.out (fun h => h.1.1.1 h1))
        clear h1 RN RY MC
        go_wp2_with fail
        refine (WA.out _).mono ?_
        rintro e w9 ⟨rfl, rfl⟩
        go_wp2_with fail
        go_ret
        rw [R.out]
        exact ⟨rfl, B1.out⟩
      have d1 : (wk == 0) = false := by simp [h1]
      by_cases h2 : pl < free
      · have d2 : decide (pl < free) = true := decide_eq_true h2
        have R := Lib.hid (RN.out (fun h => by have := h.2; omega))
        clear h1 h2 RN RY MC
        go_wp2_with fail
        refine (WA.out _).mono ?_
        rintro e w9 ⟨rfl, rfl⟩
        go_wp2_with fail
        go_ret
        rw [R.out]
        exact ⟨rfl, B1.out⟩
      have d2 : decide (pl < free) = false := decide_eq_false h2
      by_cases h3 : (cd.length : Int) - wk < pl
      · have d3 : decide ((cd.length : Int) - wk < pl) = true := decide_eq_true h3
        have R := Lib.hid (RN.out (fun h => by have := h.1.1.2.2; omega))
        clear h1 h2 h3 RN RY MC
        go_wp2_with fail
        refine (WA.out _).mono ?_
        rintro e w9 ⟨rfl, rfl⟩
        go_wp2_with fail
        go_ret
        rw [R.out]
        exact ⟨rfl, B1.out⟩
      have d3 : decide ((cd.length : Int) - wk < pl) = false := decide_eq_false h3
      have hpl0 : 0 ≤ pl := by have := FR.out; omega
      have hpl1 : pl + wk ≤ 140737488355328 := by omega
      by_cases h4 : meanOk im.length dt ex ⟨pl, kd, fm, vl⟩
      · rw [decide_eq_true h4] at MC
        have RF := Lib.hid (RY.out ⟨⟨⟨h1, by omega, by omega⟩, h4⟩, by omega⟩)
        have FF := Lib.hid (show 0 ≤ pl + wk ∧ pl + wk ≤ 140737488355328 by omega)
        clear h1 h2 h3 h4 RN RY
        go_wp2_with fail
        refine (WA.out _).mono ?_
        rintro e w9 ⟨rfl, rfl⟩
        go_wp2_with fail
        refine (MC.out _).mono ?_
        rintro e w2 ⟨rfl, hb2⟩
        have C2 := Lib.hid (C1.out.trans (hb2.mono C1.out.size))
        have Y2 := Lib.hid (Y.out.below hb2 Y.out.lt)
        have y0 : w2.cell? ⟨wr.heap.size, 0, none⟩ = some (.int .i64 pl) := Y2.out.cell 0
        clear hb2 MC Y X1 C1
        go_wp2_with fail
        go_roundw
        case rel => exact ⟨t + 1, pl + wk, by omega, by go_num, rfl, FF.out, RF.out, C2.out⟩
        case measure => simp [intOf]; omega
      · rw [decide_eq_false h4] at MC
        have R := Lib.hid (RN.out (fun h => h4 h.1.2))
        clear h1 h2 h3 h4 RN RY
        go_wp2_with fail
        refine (WA.out _).mono ?_
        rintro e w9 ⟨rfl, rfl⟩
        go_wp2_with fail
        refine (MC.out _).mono ?_
        rintro e w2 ⟨rfl, hb2⟩
        have B2 := Lib.hid (B1.out.trans (hb2.mono B1.out.size))
        clear hb2
        go_wp2_with fail
        go_ret
        rw [R.out]
        exact ⟨rfl, B2.out⟩
    · have hI : ¬ (t : Int) < fx.length := by omega
      obtain rfl : t = fx.length := by omega
      have R := Lib.hid (show r = true from dec_yes RT.out (by rw [List.drop_length]; exact trivial))
      clear RT
      go_wp2_with fail
      go_ret
      rw [R.out]
      exact ⟨rfl, B0.out⟩
end Go.Proofs.Ytdakooipelligaa
