/- Ranges: the law RangesFound. -/
import Derived.Test.YtmahnhghfanhpaaRngL
import Derived.StillTailTactics
import Derived.Deep.RegionHeld3
import Derived.BigQuiet
namespace Go.Proofs.Ytmahnhghfanhpaa
open Go.ChangeShapes Go.WideShapes Go.ChangeAt Go.RowKit
set_option linter.unusedVariables false
set_option linter.unusedSimpArgs false

theorem rise_next {l : List Sg} (h : riseS l) {t : Nat} (ht : t + 1 < l.length) : (l.getD t zSg).st < (l.getD (t + 1) zSg).st := by
  have h1 := (rise_iff l).1 h
  have h2 : ∀ t, t + 1 < l.length → riseC (l.drop t) := fun t => by
    induction t with
    | zero => exact fun _ => h1
    | succ t ih => exact fun ht => ((riseC_drop l (by omega)).1 (ih (by omega))).2
  exact ((riseC_drop l ht).1 (h2 t ht)).1

set_option maxHeartbeats 16000000 in
set_option maxRecDepth 100000 in
theorem found_walk (W : World) (A : Option Addr) (l : List Sg) (c : Nat) (hO : LstV sgCells W.heap.size W (.slice A l.length c) l) (hm : l.length * 16 ≤ 140737488355328) :
    Calls Try.prog 6 #[.slice A l.length c] W fun e w' => e = .returned (.bool true) ∧ Below W.heap.size W w' := by
  have B0 := Lib.hid (Below.refl W.heap.size W)
  have AW := Lib.hid (fun y (_ : Below W.heap.size W y) => awake16_any y)
  have FW := Lib.hid (fun y (hy : Below W.heap.size W y) => few_any A l c _ y (hO.below hy) (by omega))
  have RI := Lib.hid (fun y (hy : Below W.heap.size W y) => rising_any A l c _ y (hO.below hy) (by omega))
  have HO := Lib.hid hO
  clear hO hm
  by_cases hf : FewS l
  case neg =>
    rw [decide_eq_false hf] at FW
    clear hf RI
    go_enter Try.func6, Try.ntmps6
    go_wp2_with fail
    refine (AW.out _ B0.out).mono ?_
    rintro e y1 ⟨rfl, hb⟩
    have B1 := Lib.hid (B0.out.trans (hb.mono B0.out.size))
    clear hb
    go_wp2_with fail
    refine (FW.out _ B1.out).mono ?_
    rintro e y2 ⟨rfl, hb⟩
    have B2 := Lib.hid (B1.out.trans (hb.mono B1.out.size))
    clear hb
    go_wp2_with fail
    go_ret
    exact ⟨rfl, B2.out⟩
  rw [decide_eq_true hf] at FW
  have hn : l.length ≤ 100 := hf.1
  have HF := Lib.hid hf
  clear hf
  by_cases hr : riseS l
  case neg =>
    rw [decide_eq_false hr] at RI
    clear hr
    go_enter Try.func6, Try.ntmps6
    go_wp2_with fail
    refine (AW.out _ B0.out).mono ?_
    rintro e y1 ⟨rfl, hb⟩
    have B1 := Lib.hid (B0.out.trans (hb.mono B0.out.size))
    clear hb
    go_wp2_with fail
    refine (FW.out _ B1.out).mono ?_
    rintro e y2 ⟨rfl, hb⟩
    have B2 := Lib.hid (B1.out.trans (hb.mono B1.out.size))
    clear hb
    go_wp2_with fail
    refine (RI.out _ B2.out).mono ?_
    rintro e y3 ⟨rfl, hb⟩
    have B3 := Lib.hid (B2.out.trans (hb.mono B2.out.size))
    clear hb
    go_wp2_with fail
    go_ret
    exact ⟨rfl, B3.out⟩
  rw [decide_eq_true hr] at RI
  have HR := Lib.hid hr
  clear hr
  go_enter Try.func6, Try.ntmps6
  go_wp2_with fail
  refine (AW.out _ B0.out).mono ?_
  rintro e y1 ⟨rfl, hb⟩
  have B1 := Lib.hid (B0.out.trans (hb.mono B0.out.size))
  clear hb
  go_wp2_with fail
  refine (FW.out _ B1.out).mono ?_
  rintro e y2 ⟨rfl, hb⟩
  have B2 := Lib.hid (B1.out.trans (hb.mono B1.out.size))
  clear hb
  go_wp2_with fail
  refine (RI.out _ B2.out).mono ?_
  rintro e y3 ⟨rfl, hb⟩
  have B3 := Lib.hid (B2.out.trans (hb.mono B2.out.size))
  clear hb
  go_wp2_with fail
  have B4 := Lib.hid (B3.out.alloc B3.out.size (.cells #[.slice none 0 0] bdT))
  have D4 := Lib.hid (bd_new y3 W.heap.size y3.heap.size rfl B3.out.size)
  generalize hg : y3.heap.size = g at *
  clear hg
  go_loopw [4] (fun i wr => ∃ (t : Nat) (hh : Option Nat), t ≤ l.length ∧ i = .int .i64 t ∧ Below W.heap.size W wr ∧ BdAt wr W.heap.size g hh (marksP [] (l.take t))) (fun i _ => l.length - (intOf i).toNat)
  case atStart => exact ⟨0, none, Nat.zero_le _, rfl, B4.out, D4.out⟩
  case round =>
    obtain ⟨t, hh, ht, rfl, hb, hd⟩ := hrel
    have HB := Lib.hid hb
    have HD := Lib.hid hd
    clear hb hd B4 D4
    by_cases hlt : t < l.length
    · have hI : (t : Int) < l.length := by omega
      obtain ⟨b, off, rfl, hbl, x0, x1⟩ := sg_at (HO.out.below HB.out) hlt
      have MT := Lib.hid (marks_take l hlt)
      have ML := Lib.hid (marks_take_len l t hn)
      generalize l.getD t zSg = s at *
      obtain ⟨st, pd⟩ := s
      simp only at MT x0 x1
      generalize hmn : marksP [] (l.take (t + 1)) = mn at *
      have MQ := Lib.hid hmn
      clear hmn
      generalize marksP [] (l.take t) = m at *
      go_wp2_with fail
      go_still_tail 10, (by kernel_rfl)
      change wpList _ _ _ _ _ wr.drew
      have B5 := Lib.hid (show Below W.heap.size W wr.drew from HB.out.drew)
      have D5 := Lib.hid (show BdAt wr.drew W.heap.size g hh m from HD.out.below (Below.refl _ _).drew)
      clear x0 x1 HB HD
      generalize wr.drew = y5 at *
      have MK := Lib.hid (mark_any st pd W.heap.size g hh m y5 D5.out B5.out.size (by have := ML.out; omega))
      rw [← MT.out] at MK
      go_wp2_with fail
      refine MK.out.mono ?_
      rintro e y6 ⟨rfl, hp⟩
      have B6 := Lib.hid (B5.out.trans (hp.below D5.out B5.out.size))
      obtain ⟨h6, hd6, _, _⟩ := hp
      have D6 := Lib.hid hd6
      clear hd6 MK B5 D5
      go_wp2_with fail
      go_roundw
      case rel => exact ⟨t + 1, h6, by omega, by go_num, B6.out, by rw [MQ.out]; exact D6.out⟩
      case measure => simp [intOf]; omega
    · have hI : ¬ (t : Int) < l.length := by omega
      obtain rfl : t = l.length := by omega
      rw [List.take_length] at HD
      obtain ⟨m1, _, m3⟩ := marks_found l HR.out
      have ML := Lib.hid (show (marksP [] l).length ≤ 100 from by have := marks_len l; omega)
      have MR := Lib.hid m1
      have MF := Lib.hid m3
      clear m1 m3
      generalize marksP [] l = m at *
      have LS := Lib.hid (list_any W.heap.size g hh m wr HD.out (by have := ML.out; omega))
      go_wp2_with fail
      refine LS.out.mono ?_
      rintro e U ⟨v', rfl, hb2, ho2⟩
      have BU := Lib.hid (HB.out.trans (hb2.mono HB.out.size))
      obtain ⟨Av, cv, rfl⟩ := row_form ho2
      have LM := Lib.hid (show LstV sgCells U.heap.size U (.slice Av m.length cv) m from LstV.own (k := 2) (fun _ => rfl) (by decide) zSg ho2)
      have FD := Lib.hid (fun x y (hy : Below U.heap.size U y) => show Calls Try.prog 12 #[.slice Av m.length cv, .int .i64 x] y (fun e w' => e = .returned (.int .i64 (findP (-1) l x)) ∧ Below y.heap.size y w') from by
        have e := find_any Av m cv U.heap.size x y (LM.out.below hy) (by have := ML.out; omega) MR.out
        rw [MF.out] at e
        exact e)
      clear hb2 ho2 LS HB HD MF MR LM
      go_wp2_with fail
      have hml : (m.length : Int) ≤ 100 := by have := ML.out; omega
      clear ML
      go_loopw [6] (fun i wr => ∃ (t : Nat), t ≤ l.length ∧ i = .int .i64 t ∧ Below U.heap.size U wr) (fun i _ => l.length - (intOf i).toNat)
      case atStart => exact ⟨0, Nat.zero_le _, rfl, Below.refl _ _⟩
      case round =>
        obtain ⟨t, ht, rfl, hb⟩ := hrel
        have HB := Lib.hid hb
        clear hb
        by_cases hlt : t < l.length
        · have hI : (t : Int) < l.length := by omega
          have WB := Lib.hid (fun y (hy : Below wr.heap.size wr y) => HB.out.trans (hy.mono HB.out.size))
          have WO := Lib.hid (fun y (hy : Below wr.heap.size wr y) => sg_at (HO.out.below (BU.out.trans ((WB.out y hy).mono BU.out.size))) hlt)
          have F1 := Lib.hid (show findP (-1) l (l.getD t zSg).st = (l.getD t zSg).pd from find_at l (-1) t _ HR.out hlt (Int.le_refl _) (fun h => rise_next HR.out h))
          by_cases hnx : t + 1 < l.length
          · have hI2 : (t : Int) + 1 < l.length := by omega
            have dI2 : decide ((t : Int) + 1 < (l.length : Int)) = true := decide_eq_true hI2
            have WN := Lib.hid (fun y (hy : Below wr.heap.size wr y) => sg_at (HO.out.below (BU.out.trans ((WB.out y hy).mono BU.out.size))) hnx)
            have F2 := Lib.hid (show findP (-1) l ((l.getD (t + 1) zSg).st - 1) = (l.getD t zSg).pd from find_at l (-1) t _ HR.out hlt (by have := rise_next HR.out hnx; omega) (fun h => by omega))
            have hq := few_part HF.out hnx
            obtain ⟨⟨hq0, hq1⟩, _⟩ := hq
            generalize l.getD t zSg = s at *
            generalize (l.getD (t + 1) zSg).st = nst at *
            obtain ⟨st, pd⟩ := s
            simp only at F1 F2 WO
            obtain ⟨b, off, rfl, hbl, x0, x1⟩ := WO.out wr (Below.refl _ _)
            obtain ⟨_, _, e1, _, n0, n1⟩ := WN.out wr (Below.refl _ _)
            injection e1 with e1
            injection e1 with e1 e2
            subst e1 e2
            generalize (l.getD (t + 1) zSg).pd = npd at *
            have dp : (pd != pd) = false := by simp
            have C := Lib.hid (fun y (hy : Below wr.heap.size wr y) => show (fun y => Below wr.heap.size wr y ∧ y.cell? ⟨b, off + t * 2, none⟩ = some (.int .i64 st) ∧ y.cell? ⟨b, off + t * 2 + 1, none⟩ = some (.int .i64 pd)) y from ⟨hy, (hy.cell (p := ⟨b, off + t * 2, none⟩) hbl).trans x0, (hy.cell (p := ⟨b, off + t * 2 + 1, none⟩) hbl).trans x1⟩)
            have L0 := C.out wr.drew (Below.refl _ _).drew
            have FC := Lib.hid (show ∀ y, (fun y => Below wr.heap.size wr y ∧ y.cell? ⟨b, off + t * 2, none⟩ = some (.int .i64 st) ∧ y.cell? ⟨b, off + t * 2 + 1, none⟩ = some (.int .i64 pd)) y → Calls Try.prog 12 #[.slice Av m.length cv, .int .i64 st] y (fun e y' => e = .returned (.int .i64 pd) ∧ (fun y => Below wr.heap.size wr y ∧ y.cell? ⟨b, off + t * 2, none⟩ = some (.int .i64 st) ∧ y.cell? ⟨b, off + t * 2 + 1, none⟩ = some (.int .i64 pd)) y') from fun y hy => (show Calls Try.prog 12 #[.slice Av m.length cv, .int .i64 st] y (fun e w' => e = .returned (.int .i64 pd) ∧ Below y.heap.size y w') from by
              have e := FD.out st y (WB.out y hy.1)
              rw [F1.out] at e
              exact e).mono (fun e y' h => ⟨h.1, C.out y' (hy.1.trans (h.2.mono hy.1.size))⟩))
            go_wp2_with fail
            go_region_held3 (fun y => Below wr.heap.size wr y ∧ y.cell? ⟨b, off + t * 2, none⟩ = some (.int .i64 st) ∧ y.cell? ⟨b, off + t * 2 + 1, none⟩ = some (.int .i64 pd))
              (first
                | with_reducible assumption
                | with_reducible exact L0
                | fail)
              (first
                | (go_at_call 12; refine (FC.out _ (by assumption)).mono ?_; rintro e y0 ⟨rfl, hs0⟩))
            all_goals
              rename_i hH
              have HH := Lib.hid hH
              have hbV := HH.out.1
              clear hH L0
              have hbl2 : b < y0.heap.size := Nat.lt_of_lt_of_le hbl hbV.size
              have z1 := (hbV.cell (p := ⟨b, off + t * 2 + 1, none⟩) hbl).trans x1
              have z2 := (hbV.cell (p := ⟨b, off + (t + 1) * 2, none⟩) hbl).trans n0
              have BV := Lib.hid (WB.out y0 hbV)
              clear HH hbV hs0 x0 x1 n0 n1 C FC WO WN WB F1
              generalize y0 = V at *
              have hw1 : IntKind.i64.wrap ((t : Int) + 1) = (t : Int) + 1 := by rw [IntKind.wrap_i64]; omega
              have hw2 : IntKind.i64.wrap (nst - 1) = nst - 1 := by rw [IntKind.wrap_i64]; omega
              have hI3 : (0 : Int) ≤ (t : Int) + 1 := by omega
              have C := Lib.hid (fun y (hy : Below V.heap.size V y) => show (fun y => Below V.heap.size V y ∧ y.cell? ⟨b, off + t * 2 + 1, none⟩ = some (.int .i64 pd) ∧ y.cell? ⟨b, off + (t + 1) * 2, none⟩ = some (.int .i64 nst)) y from ⟨hy, (hy.cell (p := ⟨b, off + t * 2 + 1, none⟩) hbl2).trans z1, (hy.cell (p := ⟨b, off + (t + 1) * 2, none⟩) hbl2).trans z2⟩)
              have L0 := C.out V.drew (Below.refl _ _).drew
              have FC := Lib.hid (show ∀ y, (fun y => Below V.heap.size V y ∧ y.cell? ⟨b, off + t * 2 + 1, none⟩ = some (.int .i64 pd) ∧ y.cell? ⟨b, off + (t + 1) * 2, none⟩ = some (.int .i64 nst)) y → Calls Try.prog 12 #[.slice Av m.length cv, .int .i64 (nst - 1)] y (fun e y' => e = .returned (.int .i64 pd) ∧ (fun y => Below V.heap.size V y ∧ y.cell? ⟨b, off + t * 2 + 1, none⟩ = some (.int .i64 pd) ∧ y.cell? ⟨b, off + (t + 1) * 2, none⟩ = some (.int .i64 nst)) y') from fun y hy => (show Calls Try.prog 12 #[.slice Av m.length cv, .int .i64 (nst - 1)] y (fun e w' => e = .returned (.int .i64 pd) ∧ Below y.heap.size y w') from by
                have e := FD.out (nst - 1) y (BV.out.trans (hy.1.mono BV.out.size))
                rw [F2.out] at e
                exact e).mono (fun e y' h => ⟨h.1, C.out y' (hy.1.trans (h.2.mono hy.1.size))⟩))
              go_wp2_with fail
              go_region_held3 (fun y => Below V.heap.size V y ∧ y.cell? ⟨b, off + t * 2 + 1, none⟩ = some (.int .i64 pd) ∧ y.cell? ⟨b, off + (t + 1) * 2, none⟩ = some (.int .i64 nst))
                (first
                  | with_reducible assumption
                  | with_reducible exact L0
                  | fail)
                (first
                  | (go_at_call 12; refine (FC.out _ (by assumption)).mono ?_; rintro e y0 ⟨rfl, hs0⟩))
              all_goals
                have BE := Lib.hid (BV.out.trans (hs0.1.mono BV.out.size))
                clear L0
                go_wp2_with fail
                go_roundw
                case rel => exact ⟨t + 1, by omega, by go_num, BE.out⟩
                case measure => simp [intOf]; omega
          · have hI2 : ¬ (t : Int) + 1 < l.length := by omega
            have dI2 : decide ((t : Int) + 1 < (l.length : Int)) = false := decide_eq_false hI2
            generalize l.getD t zSg = s at *
            obtain ⟨st, pd⟩ := s
            simp only at F1 WO
            obtain ⟨b, off, rfl, hbl, x0, x1⟩ := WO.out wr (Below.refl _ _)
            have dp : (pd != pd) = false := by simp
            have C := Lib.hid (fun y (hy : Below wr.heap.size wr y) => show (fun y => Below wr.heap.size wr y ∧ y.cell? ⟨b, off + t * 2, none⟩ = some (.int .i64 st) ∧ y.cell? ⟨b, off + t * 2 + 1, none⟩ = some (.int .i64 pd)) y from ⟨hy, (hy.cell (p := ⟨b, off + t * 2, none⟩) hbl).trans x0, (hy.cell (p := ⟨b, off + t * 2 + 1, none⟩) hbl).trans x1⟩)
            have L0 := C.out wr.drew (Below.refl _ _).drew
            have FC := Lib.hid (show ∀ y, (fun y => Below wr.heap.size wr y ∧ y.cell? ⟨b, off + t * 2, none⟩ = some (.int .i64 st) ∧ y.cell? ⟨b, off + t * 2 + 1, none⟩ = some (.int .i64 pd)) y → Calls Try.prog 12 #[.slice Av m.length cv, .int .i64 st] y (fun e y' => e = .returned (.int .i64 pd) ∧ (fun y => Below wr.heap.size wr y ∧ y.cell? ⟨b, off + t * 2, none⟩ = some (.int .i64 st) ∧ y.cell? ⟨b, off + t * 2 + 1, none⟩ = some (.int .i64 pd)) y') from fun y hy => (show Calls Try.prog 12 #[.slice Av m.length cv, .int .i64 st] y (fun e w' => e = .returned (.int .i64 pd) ∧ Below y.heap.size y w') from by
              have e := FD.out st y (WB.out y hy.1)
              rw [F1.out] at e
              exact e).mono (fun e y' h => ⟨h.1, C.out y' (hy.1.trans (h.2.mono hy.1.size))⟩))
            go_wp2_with fail
            go_region_held3 (fun y => Below wr.heap.size wr y ∧ y.cell? ⟨b, off + t * 2, none⟩ = some (.int .i64 st) ∧ y.cell? ⟨b, off + t * 2 + 1, none⟩ = some (.int .i64 pd))
              (first
                | with_reducible assumption
                | with_reducible exact L0
                | fail)
              (first
                | (go_at_call 12; refine (FC.out _ (by assumption)).mono ?_; rintro e y0 ⟨rfl, hs0⟩))
            all_goals
              rename_i hH
              have HH := Lib.hid hH
              have hbV := HH.out.1
              clear hH L0
              have BV := Lib.hid (WB.out y0 hbV)
              clear HH hbV hs0 x0 x1 C FC WO WB F1
              generalize y0 = V at *
              go_wp2_with fail
              go_quiet (fail)
              rename_i nq
              have BE := Lib.hid (below_drawn BV.out nq)
              go_wp2_with fail
              go_roundw
              case rel => exact ⟨t + 1, by omega, by go_num, BE.out⟩
              case measure => simp [intOf]; omega
        · have hI : ¬ (t : Int) < l.length := by omega
          have B9 := Lib.hid (BU.out.trans (HB.out.mono BU.out.size))
          by_cases h0 : l.length = 0
          · have d0 : ((l.length : Int) == 0) = true := beq_iff_eq.2 (by omega)
            clear h0
            go_wp2_with fail
            go_ret
            exact ⟨rfl, B9.out⟩
          · have d0 : ((l.length : Int) == 0) = false := beq_eq_false_iff_ne.2 (by omega)
            have hI0 : (0 : Int) < l.length := by omega
            obtain ⟨b, off, rfl, hbl, x0, x1⟩ := sg_at (HO.out.below B9.out) (Nat.pos_of_ne_zero h0)
            have F1 := Lib.hid (show findP (-1) l ((l.getD 0 zSg).st - 1) = -1 from find_ahead (-1) (fun _ => by omega))
            have hq := few_part HF.out (Nat.pos_of_ne_zero h0)
            obtain ⟨⟨hq0, hq1⟩, _⟩ := hq
            generalize (l.getD 0 zSg).st = st at *
            have FC := Lib.hid (FD.out (st - 1) wr HB.out)
            rw [F1.out] at FC
            rw [Nat.zero_mul, Nat.add_zero] at x0
            clear h0 F1 x1
            go_wp2_with fail
            refine FC.out.mono ?_
            rintro e w9 ⟨rfl, hb9⟩
            have B10 := Lib.hid (B9.out.trans (hb9.mono B9.out.size))
            clear hb9 FC
            go_wp2_with fail
            go_ret
            exact ⟨rfl, B10.out⟩
end Go.Proofs.Ytmahnhghfanhpaa
