/- Symfile: which imports are alike: both sides. -/
import Derived.Test.YtdakooipelligaaSymE
import Derived.Test.YtdakooipelligaaFngF
import Derived.Deep.QuietTactic
namespace Go.Proofs.Ytdakooipelligaa
open Go.ChangeShapes Go.WideShapes Go.ChangeAt Go.RowKit
set_option linter.unusedVariables false
set_option linter.unusedSimpArgs false

/-- Are two lists of imports one? -/
noncomputable def sameI (l m : List Im) : Bool := @decide (l = m) (Classical.propDecidable _)

theorem sameI_yes {l m : List Im} (h : l = m) : sameI l m = true := @decide_eq_true _ (Classical.propDecidable _) h

theorem sameI_no {l m : List Im} (h : l ≠ m) : sameI l m = false := @decide_eq_false _ (Classical.propDecidable _) h

set_option maxHeartbeats 16000000 in
set_option maxRecDepth 100000 in
theorem uses_any (A1 A2 : Option Addr) (c1 c2 B1 B2 : Nat) (l1 l2 : List Im) (w : World) (h1 : ImV B1 w (.slice A1 l1.length c1) l1) (h2 : ImV B2 w (.slice A2 l2.length c2) l2) (hn : l1.length ≤ 140737488355328) (hn2 : l2.length ≤ 140737488355328) :
    Calls Try.prog 47 #[.slice A1 l1.length c1, .slice A2 l2.length c2] w fun e w' => e = .returned (.bool (sameI l1 l2)) ∧ Below w.heap.size w w' := by
  have H1 := Lib.hid h1
  have H2 := Lib.hid h2
  have AY := Lib.hid (show l1 = l2 → sameI l1 l2 = true from sameI_yes)
  have AN := Lib.hid (show l1 ≠ l2 → sameI l1 l2 = false from sameI_no)
  generalize sameI l1 l2 = R at *
  clear h1 h2
  by_cases hl : l1.length = l2.length
  · have HL := Lib.hid hl
    rw [← hl] at H2 hn2 ⊢
    clear hl
    have hnn : ((l1.length : Int) != (l1.length : Int)) = false := by simp
    go_enter Try.func47, Try.ntmps47
    go_wp2_with fail
    go_loopw [5] (fun i wr => ∃ t : Nat, t ≤ l1.length ∧ i = .int .i64 t ∧ l1.take t = l2.take t ∧ Below w.heap.size w wr) (fun i _ => l1.length - (intOf i).toNat)
    case atStart => exact ⟨0, Nat.zero_le _, rfl, rfl, Below.refl _ _⟩
    case round =>
      obtain ⟨t, ht, rfl, hp, hb⟩ := hrel
      have BW := Lib.hid hb
      have HP := Lib.hid hp
      clear hp
      by_cases hlt : t < l1.length
      · have hI : (t : Int) < l1.length := by omega
        have hlt2 : t < l2.length := by rw [← HL.out]; exact hlt
        have K1 := (H1.out.below hb)
        have K2 := (H2.out.below hb)
        rw [HL.out] at K2
        obtain ⟨b1, o1, rfl, _, x0, x1⟩ := K1.at hlt
        obtain ⟨b2, o2, rfl, _, y0, y1⟩ := K2.at hlt2
        have TS := Lib.hid (fun he => take_same zI hlt hlt2 HP.out he)
        have TN := Lib.hid (show l1.getD t zI ≠ l2.getD t zI → R = false from fun he => AN.out (fun e => he (by rw [e])))
        generalize l1.getD t zI = p at *
        generalize l2.getD t zI = q at *
        obtain ⟨pt, pr⟩ := p
        obtain ⟨qt, qr⟩ := q
        have B0 := Lib.hid (fun nq => below_drawn BW.out nq)
        simp only at x0 x1 y0 y1
        clear hb K1 K2
        by_cases he0 : pt = qt
        · by_cases he1 : pr = qr
          · subst he0
            subst he1
            have T1 := Lib.hid (TS.out rfl)
            have d0 : (pt.toList == pt.toList) = true := by simp
            have d1 : (pr == pr) = true := by simp
            clear TS TN
            go_wp2_with fail
            go_quiet (fail)
            rename_i nq
            go_wp2_with fail
            go_roundw
            case rel => exact ⟨t + 1, by omega, by go_num, T1.out, B0.out nq⟩
            case measure => simp [intOf]; omega
          · subst he0
            have F1 := Lib.hid (TN.out (fun e => he1 (by injection e)))
            have d0 : (pt.toList == pt.toList) = true := by simp
            have d1 : (pr == qr) = false := by simp [he1]
            clear TS TN he1
            go_wp2_with fail
            go_quiet (fail)
            rename_i nq
            go_wp2_with fail
            go_ret
            rw [F1.out]
            exact ⟨rfl, B0.out nq⟩
        · have F1 := Lib.hid (TN.out (fun e => he0 (by injection e)))
          have d0 := nm_ne he0
          clear TS TN he0
          go_wp2_with fail
          go_quiet (fail)
          rename_i nq
          go_wp2_with fail
          go_ret
          rw [F1.out]
          exact ⟨rfl, B0.out nq⟩
      · have hI : ¬ (t : Int) < l1.length := by omega
        obtain rfl : t = l1.length := by omega
        have E := Lib.hid (AY.out (by
          have := HP.out
          rwa [List.take_length, HL.out, List.take_length] at this))
        go_wp2_with fail
        go_ret
        rw [E.out]
        exact ⟨rfl, BW.out⟩
  · have hnn : ((l1.length : Int) != (l2.length : Int)) = true := by simp; omega
    have E := Lib.hid (AN.out (fun e => hl (by rw [e])))
    go_enter Try.func47, Try.ntmps47
    go_wp2_with fail
    go_ret
    rw [E.out]
    exact ⟨rfl, Below.refl _ _⟩

end Go.Proofs.Ytdakooipelligaa