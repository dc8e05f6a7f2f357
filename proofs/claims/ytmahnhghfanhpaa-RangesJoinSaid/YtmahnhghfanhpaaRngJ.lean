/- Ranges: Join of both. -/
import Derived.Test.YtmahnhghfanhpaaRngF
import Derived.Test.YtmahnhghfanhpaaRngG
import Derived.StillTailTactics
namespace Go.Proofs.Ytmahnhghfanhpaa
open Go.ChangeShapes Go.WideShapes Go.ChangeAt Go.RowKit
set_option linter.unusedVariables false
set_option linter.unusedSimpArgs false

abbrev Lx := Value × List Sg

def zL : Lx := (.slice none 0 0, [])

/-- Lists of segments that lie in a row of slices. -/
structure ListsAt (w : World) (B b off : Nat) (ls : List Lx) : Prop where
  lt : b < w.heap.size
  cell : ∀ t, t < ls.length → w.cell? ⟨b, off + t, none⟩ = some (ls.getD t zL).1
  list : ∀ t, t < ls.length → LstV sgCells B w (ls.getD t zL).1 (ls.getD t zL).2

theorem ListsAt.below {w w' : World} {B b off : Nat} {ls : List Lx} (h : ListsAt w B b off ls) (hb : Below w.heap.size w w') : ListsAt w' B b off ls :=
  ⟨Nat.lt_of_lt_of_le h.lt hb.size, fun t ht => (hb.cell (p := ⟨b, off + t, none⟩) h.lt).trans (h.cell t ht), fun t ht => (h.list t ht).below hb⟩

/-- All segments, list by list. -/
def allS (ls : List Lx) : List Sg := ls.flatMap (·.2)

/-- Those of the first t lists, and the first k of the next one. -/
def partS (ls : List Lx) (t k : Nat) : List Sg := allS (ls.take t) ++ (ls.getD t zL).2.take k

theorem part_end (ls : List Lx) {t : Nat} (ht : t < ls.length) : partS ls t (ls.getD t zL).2.length = allS (ls.take (t + 1)) := by
  unfold partS allS
  rw [takeL ls zL ht, List.flatMap_append, List.take_length, List.flatMap_singleton]

theorem part_zero (ls : List Lx) (t : Nat) : partS ls t 0 = allS (ls.take t) := by
  unfold partS
  rw [List.take_zero, List.append_nil]

theorem part_snoc (ls : List Lx) (t : Nat) {k : Nat} (hk : k < (ls.getD t zL).2.length) : partS ls t (k + 1) = partS ls t k ++ [(ls.getD t zL).2.getD k zSg] := by
  unfold partS
  rw [takeL _ zSg hk, List.append_assoc]

theorem all_take_len (ls : List Lx) (t : Nat) : (allS (ls.take t)).length ≤ (allS ls).length := by
  have e : allS (ls.take t ++ ls.drop t) = allS (ls.take t) ++ allS (ls.drop t) := List.flatMap_append
  rw [List.take_append_drop] at e
  rw [e, List.length_append]
  omega

theorem part_len (ls : List Lx) {t k : Nat} (ht : t < ls.length) : (partS ls t k).length ≤ (allS ls).length := by
  have h1 := all_take_len ls (t + 1)
  rw [← part_end ls ht] at h1
  unfold partS at h1 ⊢
  rw [List.length_append, List.length_take] at h1 ⊢
  omega

theorem marks_len (m : List Sg) : (marksP [] m).length ≤ m.length := by
  generalize hk : m.length = k
  induction k generalizing m with
  | zero =>
    obtain rfl := List.length_eq_zero_iff.1 hk
    exact Nat.le_refl _
  | succ k ih =>
    have hne : m ≠ [] := by
      intro e
      subst e
      cases hk
    obtain ⟨l, s, rfl⟩ : ∃ l s, m = l ++ [s] := ⟨_, _, snoc_last hne⟩
    have hl : l.length = k := by simp at hk; exact hk
    rw [marks_snoc]
    have h1 := ih l hl
    have h2 := mark_len (marksP [] l) s.st s.pd
    omega

theorem part_marks (ls : List Lx) {t k : Nat} (ht : t < ls.length) : (marksP [] (partS ls t k)).length ≤ (allS ls).length := Nat.le_trans (marks_len _) (part_len ls ht)

set_option maxHeartbeats 16000000 in
set_option maxRecDepth 100000 in
theorem join_any (B b off c : Nat) (ls : List Lx) (w : World) (h : ListsAt w B b off ls) (hn : ls.length ≤ 1000000) (hm : (allS ls).length ≤ 1000000) :
    Calls Try.prog 22 #[.slice (some ⟨b, off, none⟩) ls.length c] w fun e w' => ∃ v', e = .returned v' ∧ Below w.heap.size w w' ∧ w'.ownsRow w.heap.size sgT 2 v' (marksP [] (allS ls)).length ((marksP [] (allS ls)).flatMap sgCells) := by
  have BA := Lib.hid ((Below.refl w.heap.size w).alloc (Nat.le_refl _) (.cells #[.slice none 0 0] bdT))
  have D0 := Lib.hid (bd_new w w.heap.size w.heap.size rfl (Nat.le_refl _))
  have HL := Lib.hid h
  have HN := Lib.hid hn
  have HM := Lib.hid hm
  clear h hm
  go_enter Try.func22, Try.ntmps22
  go_wp2_with fail
  go_loopw [10] (fun i wr => ∃ (t : Nat) (hh : Option Nat), t ≤ ls.length ∧ i = .int .i64 t ∧ Below w.heap.size w wr ∧ BdAt wr w.heap.size w.heap.size hh (marksP [] (allS (ls.take t)))) (fun i _ => ls.length - (intOf i).toNat)
  case atStart => exact ⟨0, none, Nat.zero_le _, rfl, BA.out, D0.out⟩
  case round =>
    obtain ⟨t, hh, ht, rfl, hb, hd⟩ := hrel
    have HB := Lib.hid hb
    have HD := Lib.hid hd
    clear hb hd BA D0
    by_cases hlt : t < ls.length
    · have hI : (t : Int) < ls.length := by omega
      have LT := Lib.hid hlt
      have LV := Lib.hid ((HL.out.list t hlt))
      have z0 : wr.cell? ⟨b, off + t, none⟩ = some (ls.getD t zL).1 := (HL.out.below HB.out).cell t hlt
      have PE := Lib.hid (part_end ls hlt)
      have PL := Lib.hid (fun k => part_marks ls (k := k) hlt)
      have PS := Lib.hid (fun k hk => part_snoc ls t (k := k) hk)
      rw [← part_zero] at HD
      have TA := Lib.hid (all_take_len ls (t + 1))
      rw [← part_end ls hlt] at TA
      have LB := Lib.hid (show (ls.getD t zL).2.length ≤ 1000000 from by
        have h1 := TA.out
        have h2 := HM.out
        unfold partS at h1
        rw [List.length_append, List.take_length] at h1
        omega)
      generalize hl : (ls.getD t zL).2 = l at *
      obtain ⟨A, cl, hv⟩ := LV.out.form
      rw [hv] at z0 LV
      have hlb : l.length ≤ 1000000 := LB.out
      clear hl hv TA
      go_wp2_with fail
      clear z0
      generalize wr = V at *
      go_loopw [16] (fun i wr => ∃ (k : Nat) (hh : Option Nat), k ≤ l.length ∧ i = .int .i64 k ∧ Below w.heap.size w wr ∧ BdAt wr w.heap.size w.heap.size hh (marksP [] (partS ls t k))) (fun i _ => l.length - (intOf i).toNat)
      case atStart => exact ⟨0, hh, Nat.zero_le _, rfl, HB.out, HD.out⟩
      case round =>
        obtain ⟨k, h2, hk, rfl, hb2, hd2⟩ := hrel
        have CB := Lib.hid hb2
        have CD := Lib.hid hd2
        clear hb2 hd2 HB HD
        by_cases hlk : k < l.length
        · have hI2 : (k : Int) < l.length := by omega
          obtain ⟨b1, o1, rfl, hb1, x0, x1⟩ := sg_at (LV.out.below CB.out) hlk
          have SN := Lib.hid (PS.out k hlk)
          generalize l.getD k zSg = s at *
          obtain ⟨st, pd⟩ := s
          simp only at x0 x1
          have MS := Lib.hid (show marksP [] (partS ls t (k + 1)) = markP (marksP [] (partS ls t k)) st pd from by rw [SN.out, marks_snoc])
          have Y := Lib.hid (Whole.made wr sgT #[.int .i64 st, .int .i64 pd] _ rfl)
          have B1 := Lib.hid (CB.out.alloc CB.out.size (.cells #[.int .i64 st, .int .i64 pd] sgT))
          have D1 := Lib.hid (CD.out.below ((Below.refl wr.heap.size wr).alloc (Nat.le_refl _) (.cells #[.int .i64 st, .int .i64 pd] sgT)))
          have y0 : (wr.alloc (.cells #[.int .i64 st, .int .i64 pd] sgT)).cell? ⟨wr.heap.size, 0, none⟩ = some (.int .i64 st) := Y.out.cell 0
          have y1 : (wr.alloc (.cells #[.int .i64 st, .int .i64 pd] sgT)).cell? ⟨wr.heap.size, 1, none⟩ = some (.int .i64 pd) := Y.out.cell 1
          have MK := Lib.hid (mark_any st pd w.heap.size w.heap.size h2 (marksP [] (partS ls t k)) _ D1.out B1.out.size (Nat.le_trans (PL.out k) HM.out))
          rw [← MS.out] at MK
          clear SN MS CD Y
          go_wp2_with fail
          refine MK.out.mono ?_
          rintro e w2 ⟨rfl, hp⟩
          have B2 := Lib.hid (hp.below D1.out B1.out.size)
          obtain ⟨h3, hd3, _, _⟩ := hp
          have D3 := Lib.hid hd3
          have B3 := Lib.hid (B1.out.trans B2.out)
          clear hd3 MK x0 x1 y0 y1
          go_wp2_with fail
          go_roundw
          case rel => exact ⟨k + 1, h3, by omega, by go_num, B3.out, D3.out⟩
          case measure => simp [intOf]; omega
        · have hI2 : ¬ (k : Int) < l.length := by omega
          obtain rfl : k = l.length := by omega
          rw [PE.out] at CD
          go_wp2_with fail
          go_roundw
          case rel => exact ⟨t + 1, h2, by omega, by go_num, CB.out, CD.out⟩
          case measure => simp [intOf]; omega
    · have hI : ¬ (t : Int) < ls.length := by omega
      obtain rfl : t = ls.length := by omega
      rw [List.take_length] at HD
      have LS := Lib.hid (list_any w.heap.size w.heap.size hh (marksP [] (allS ls)) wr HD.out (Nat.le_trans (marks_len _) HM.out))
      go_wp2_with fail
      refine LS.out.mono ?_
      rintro e w2 ⟨v', rfl, hb2, ho2⟩
      obtain ⟨A2, c2, rfl⟩ := row_form ho2
      have B2 := Lib.hid (HB.out.trans (hb2.mono HB.out.size))
      have O2 := Lib.hid (row_more ho2 HB.out.size)
      clear hb2 ho2 LS
      go_wp2_with fail
      go_ret
      exact ⟨_, rfl, B2.out, O2.out⟩

set_option maxHeartbeats 16000000 in
set_option maxRecDepth 100000 in
theorem refjoin_any (B b off c : Nat) (ls : List Lx) (w : World) (h : ListsAt w B b off ls) (hn : ls.length ≤ 1000000) (hm : (allS ls).length ≤ 1000000) :
    Calls Try.prog 23 #[.slice (some ⟨b, off, none⟩) ls.length c] w fun e w' => ∃ v', e = .returned v' ∧ Below w.heap.size w w' ∧ w'.ownsRow w.heap.size sgT 2 v' (marksP [] (allS ls)).length ((marksP [] (allS ls)).flatMap sgCells) := by
  have HL := Lib.hid h
  have HM := Lib.hid hm
  clear h hm
  go_enter Try.func23, Try.ntmps23
  go_wp2_with fail
  go_loopw [3, 4] (fun v i wr => ∃ (t : Nat), t ≤ ls.length ∧ i = .int .i64 t ∧ Below w.heap.size w wr ∧ wr.ownsRow w.heap.size sgT 2 v (marksP [] (allS (ls.take t))).length ((marksP [] (allS (ls.take t))).flatMap sgCells)) (fun _ i _ => ls.length - (intOf i).toNat)
  case atStart => exact ⟨0, Nat.zero_le _, rfl, Below.refl _ _, row_nil _ _ _ _⟩
  case round =>
    obtain ⟨t, ht, rfl, hb, hd⟩ := hrel
    have HB := Lib.hid hb
    have HD := Lib.hid hd
    clear hb hd
    by_cases hlt : t < ls.length
    · have hI : (t : Int) < ls.length := by omega
      have LV := Lib.hid ((HL.out.list t hlt))
      have ZC := Lib.hid (fun W (hW : Below w.heap.size w W) => (HL.out.below hW).cell t hlt)
      have PE := Lib.hid (part_end ls hlt)
      have PL := Lib.hid (fun k => part_marks ls (k := k) hlt)
      have PS := Lib.hid (fun k hk => part_snoc ls t (k := k) hk)
      rw [← part_zero] at HD
      have TA := Lib.hid (all_take_len ls (t + 1))
      rw [← part_end ls hlt] at TA
      have LB := Lib.hid (show (ls.getD t zL).2.length ≤ 1000000 from by
        have h1 := TA.out
        have h2 := HM.out
        unfold partS at h1
        rw [List.length_append, List.take_length] at h1
        omega)
      generalize hl : (ls.getD t zL).2 = l at *
      obtain ⟨A, cl, hv⟩ := LV.out.form
      rw [hv] at ZC LV
      have hlb : l.length ≤ 1000000 := LB.out
      clear hl hv TA
      go_wp2_with fail
      generalize wr = V at *
      go_loopw [3, 5] (fun v i wr => ∃ (k : Nat), k ≤ l.length ∧ i = .int .i64 k ∧ Below w.heap.size w wr ∧ wr.ownsRow w.heap.size sgT 2 v (marksP [] (partS ls t k)).length ((marksP [] (partS ls t k)).flatMap sgCells)) (fun _ i _ => l.length - (intOf i).toNat)
      case atStart => exact ⟨0, Nat.zero_le _, rfl, HB.out, HD.out⟩
      case round =>
        obtain ⟨k, hk, rfl, hb2, hd2⟩ := hrel
        have CB := Lib.hid hb2
        have CD := Lib.hid hd2
        clear hb2 hd2 HB HD
        have z0 := ZC.out wr CB.out
        by_cases hlk : k < l.length
        · have hI2 : (k : Int) < l.length := by omega
          obtain ⟨b1, o1, rfl, hb1, x0, x1⟩ := sg_at (LV.out.below CB.out) hlk
          have SN := Lib.hid (PS.out k hlk)
          generalize l.getD k zSg = s at *
          obtain ⟨st, pd⟩ := s
          simp only at x0 x1
          have MS := Lib.hid (show marksP [] (partS ls t (k + 1)) = markP (marksP [] (partS ls t k)) st pd from by rw [SN.out, marks_snoc])
          obtain ⟨Av, cv, hvv⟩ := row_form CD.out
          subst hvv
          have MK := Lib.hid (fun W (hW : Below wr.heap.size wr W) => refmark_any st pd w.heap.size _ (marksP [] (partS ls t k)) W (row_below CD.out hW) (Nat.le_trans (PL.out k) HM.out))
          rw [← MS.out] at MK
          clear SN MS CD
          go_wp2_with fail
          go_still_tail 17, (by kernel_rfl)
          change wpList _ _ _ _ _ wr.drew
          have MK2 := Lib.hid (MK.out wr.drew (Below.refl _ _).drew)
          have B2 := Lib.hid (show Below w.heap.size w wr.drew from CB.out.drew)
          clear x0 x1 z0 MK CB
          generalize wr.drew = wd at *
          go_wp2_with fail
          refine MK2.out.mono ?_
          rintro e w2 ⟨v', rfl, hb3, ho3⟩
          have B3 := Lib.hid (B2.out.trans (hb3.mono B2.out.size))
          have O3 := Lib.hid (row_more ho3 B2.out.size)
          clear hb3 ho3 MK2
          go_wp2_with fail
          go_roundw
          case rel => exact ⟨k + 1, by omega, by go_num, B3.out, O3.out⟩
          case measure => simp [intOf]; omega
        · have hI2 : ¬ (k : Int) < l.length := by omega
          obtain rfl : k = l.length := by omega
          rw [PE.out] at CD
          go_wp2_with fail
          go_roundw
          case rel => exact ⟨t + 1, by omega, by go_num, CB.out, CD.out⟩
          case measure => simp [intOf]; omega
    · have hI : ¬ (t : Int) < ls.length := by omega
      obtain rfl : t = ls.length := by omega
      rw [List.take_length] at HD
      obtain ⟨Av, cv, hvv⟩ := row_form HD.out
      subst hvv
      go_wp2_with fail
      go_ret
      exact ⟨_, rfl, HB.out, HD.out⟩
end Go.Proofs.Ytmahnhghfanhpaa
