/- Finger: which parameters are alike: both sides. -/
import Derived.Test.YthmjniedfiabhaaFngB
import Derived.Deep.QuietTactic
namespace Go.Proofs.Ythmjniedfiabhaa
open Go.ChangeShapes Go.WideShapes Go.ChangeAt Go.RowKit
set_option linter.unusedVariables false
set_option linter.unusedSimpArgs false

theorem take_same {α : Type} {l l' : List α} (d : α) {t : Nat} (h1 : t < l.length) (h2 : t < l'.length) (h : l.take t = l'.take t) (he : l.getD t d = l'.getD t d) : l.take (t + 1) = l'.take (t + 1) := by
  have e : ∀ m : List α, t < m.length → m.take (t + 1) = m.take t ++ [m.getD t d] := fun m hm => by
    rw [List.take_add_one, List.getD_eq_getElem?_getD, List.getElem?_eq_getElem hm]
    rfl
  rw [e _ h1, e _ h2, h, he]

set_option maxHeartbeats 16000000 in
set_option maxRecDepth 100000 in
theorem refparams_any (A1 A2 : Option Addr) (c1 c2 B1 B2 : Nat) (ps qs : List (Int × Bool)) (w : World) (h1 : ParV B1 w (.slice A1 ps.length c1) ps) (h2 : ParV B2 w (.slice A2 qs.length c2) qs) (hn : ps.length * 16 ≤ 140737488355328) (hn2 : qs.length * 16 ≤ 140737488355328) :
    Calls Try.prog 74 #[.slice A1 ps.length c1, .slice A2 qs.length c2] w fun e w' => e = .returned (.bool (decide (ps = qs))) ∧ Below w.heap.size w w' := by
  have H1 := Lib.hid h1
  have H2 := Lib.hid h2
  clear h1 h2
  by_cases hl : ps.length = qs.length
  · have hnn : ((ps.length : Int) != (qs.length : Int)) = false := by simp [hl]
    have HL := Lib.hid hl
    rw [← hl] at H2 hn2 ⊢
    clear hnn hl
    have hnn : ((ps.length : Int) != (ps.length : Int)) = false := by simp
    go_enter Try.func74, Try.ntmps74
    go_wp2_with fail
    go_loopw [5] (fun i wr => ∃ t : Nat, t ≤ ps.length ∧ i = .int .i64 t ∧ ps.take t = qs.take t ∧ Below w.heap.size w wr) (fun i _ => ps.length - (intOf i).toNat)
    case atStart => exact ⟨0, Nat.zero_le _, rfl, rfl, Below.refl _ _⟩
    case round =>
      obtain ⟨t, ht, rfl, hp, hb⟩ := hrel
      have BW := Lib.hid hb
      have HP := Lib.hid hp
      clear hp
      by_cases hlt : t < ps.length
      · have hI : (t : Int) < ps.length := by omega
        have hlt2 : t < qs.length := by rw [← HL.out]; exact hlt
        have K1 := (H1.out.below hb)
        have K2 := (H2.out.below hb)
        rw [HL.out] at K2
        obtain ⟨b1, o1, rfl, x0, x1⟩ := K1.at hlt
        obtain ⟨b2, o2, rfl, y0, y1⟩ := K2.at hlt2
        have TS := Lib.hid (fun he => take_same (0, false) hlt hlt2 HP.out he)
        have TN := Lib.hid (show ps.getD t (0, false) ≠ qs.getD t (0, false) → decide (ps = qs) = false from fun he => decide_eq_false (fun e => he (by rw [e])))
        generalize ps.getD t (0, false) = p at *
        generalize qs.getD t (0, false) = q at *
        obtain ⟨pt, pr⟩ := p
        obtain ⟨qt, qr⟩ := q
        have B0 := Lib.hid (fun nq => below_drawn BW.out nq)
        rw [← Nat.add_assoc] at x1 y1
        simp only at x0 x1 y0 y1
        clear hb K1 K2
        by_cases he : pt = qt ∧ pr = qr
        · obtain ⟨rfl, rfl⟩ := he
          have T1 := Lib.hid (TS.out rfl)
          clear TS TN
          go_wp2_with fail
          go_quiet (fail)
          rename_i nq
          go_wp2_with fail
          go_roundw
          case rel => exact ⟨t + 1, by omega, by go_num, T1.out, B0.out nq⟩
          case measure => simp [intOf]; omega
        · have F1 := Lib.hid (TN.out (fun e => he (by injection e with e1 e2; exact ⟨e1, e2⟩)))
          clear TS TN
          by_cases ht : pt = qt
          · subst ht
            have hr : pr ≠ qr := fun e => he ⟨rfl, e⟩
            clear he
            cases pr <;> cases qr <;> first | exact absurd rfl hr | skip
            all_goals
              clear hr
              go_wp2_with fail
              go_quiet (fail)
              rename_i nq
              go_wp2_with fail
              go_ret
              rw [F1.out]
              exact ⟨rfl, B0.out nq⟩
          · have hd1 : (pt == qt) = false := by simp [ht]
            have NE := Lib.hid ht
            clear ht he
            go_wp2_with fail
            go_quiet (fail)
            rename_i nq
            go_wp2_with fail
            go_ret
            rw [F1.out]
            exact ⟨rfl, B0.out nq⟩
      · have hI : ¬ (t : Int) < ps.length := by omega
        obtain rfl : t = ps.length := by omega
        have E := Lib.hid (show decide (ps = qs) = true from decide_eq_true (by
          have := HP.out
          rwa [List.take_length, HL.out, List.take_length] at this))
        go_wp2_with fail
        go_ret
        rw [E.out]
        exact ⟨rfl, BW.out⟩
  · have hnn : ((ps.length : Int) != (qs.length : Int)) = true := by simp; omega
    have E := Lib.hid (show decide (ps = qs) = false from decide_eq_false (fun e => hl (by rw [e])))
    go_enter Try.func74, Try.ntmps74
    go_wp2_with fail
    go_ret
    rw [E.out]
    exact ⟨rfl, Below.refl _ _⟩

set_option maxHeartbeats 16000000 in
set_option maxRecDepth 100000 in
theorem params_any (A1 A2 : Option Addr) (c1 c2 B1 B2 : Nat) (ps qs : List (Int × Bool)) (w : World) (h1 : ParV B1 w (.slice A1 ps.length c1) ps) (h2 : ParV B2 w (.slice A2 qs.length c2) qs) (hn : ps.length * 16 ≤ 140737488355328) (hn2 : qs.length * 16 ≤ 140737488355328) :
    Calls Try.prog 88 #[.slice A1 ps.length c1, .slice A2 qs.length c2] w fun e w' => e = .returned (.bool (decide (ps = qs))) ∧ Below w.heap.size w w' := by
  have H1 := Lib.hid h1
  have H2 := Lib.hid h2
  clear h1 h2
  by_cases hl : ps.length = qs.length
  · have hnn : ((ps.length : Int) != (qs.length : Int)) = false := by simp [hl]
    have HL := Lib.hid hl
    rw [← hl] at H2 hn2 ⊢
    clear hnn hl
    have hnn : ((ps.length : Int) != (ps.length : Int)) = false := by simp
    go_enter Try.func88, Try.ntmps88
    go_wp2_with fail
    go_loopw [13] (fun i wr => ∃ t : Nat, t ≤ ps.length ∧ i = .int .i64 t ∧ ps.take t = qs.take t ∧ Below w.heap.size w wr) (fun i _ => ps.length - (intOf i).toNat)
    case atStart => exact ⟨0, Nat.zero_le _, rfl, rfl, Below.refl _ _⟩
    case round =>
      obtain ⟨t, ht, rfl, hp, hb⟩ := hrel
      have BW := Lib.hid hb
      have HP := Lib.hid hp
      clear hp
      by_cases hlt : t < ps.length
      · have hI : (t : Int) < ps.length := by omega
        have hlt2 : t < qs.length := by rw [← HL.out]; exact hlt
        have K1 := (H1.out.below hb)
        have K2 := (H2.out.below hb)
        rw [HL.out] at K2
        obtain ⟨b1, o1, rfl, x0, x1⟩ := K1.at hlt
        obtain ⟨b2, o2, rfl, y0, y1⟩ := K2.at hlt2
        have TS := Lib.hid (fun he => take_same (0, false) hlt hlt2 HP.out he)
        have TN := Lib.hid (show ps.getD t (0, false) ≠ qs.getD t (0, false) → decide (ps = qs) = false from fun he => decide_eq_false (fun e => he (by rw [e])))
        generalize ps.getD t (0, false) = p at *
        generalize qs.getD t (0, false) = q at *
        obtain ⟨pt, pr⟩ := p
        obtain ⟨qt, qr⟩ := q
        have B0 := Lib.hid (fun nq => below_drawn BW.out nq)
        rw [← Nat.add_assoc] at x1 y1
        simp only at x0 x1 y0 y1
        clear hb K1 K2
        by_cases he : pt = qt ∧ pr = qr
        · obtain ⟨rfl, rfl⟩ := he
          have T1 := Lib.hid (TS.out rfl)
          clear TS TN
          go_wp2_with fail
          go_quiet (fail)
          rename_i nq
          go_wp2_with fail
          go_roundw
          case rel => exact ⟨t + 1, by omega, by go_num, T1.out, B0.out nq⟩
          case measure => simp [intOf]; omega
        · have F1 := Lib.hid (TN.out (fun e => he (by injection e with e1 e2; exact ⟨e1, e2⟩)))
          clear TS TN
          by_cases ht : pt = qt
          · subst ht
            have hr : pr ≠ qr := fun e => he ⟨rfl, e⟩
            clear he
            cases pr <;> cases qr <;> first | exact absurd rfl hr | skip
            all_goals
              clear hr
              go_wp2_with fail
              go_quiet (fail)
              rename_i nq
              go_wp2_with fail
              go_ret
              rw [F1.out]
              exact ⟨rfl, B0.out nq⟩
          · have hd1 : (pt == qt) = false := by simp [ht]
            have NE := Lib.hid ht
            clear ht he
            go_wp2_with fail
            go_quiet (fail)
            rename_i nq
            go_wp2_with fail
            go_ret
            rw [F1.out]
            exact ⟨rfl, B0.out nq⟩
      · have hI : ¬ (t : Int) < ps.length := by omega
        obtain rfl : t = ps.length := by omega
        have E := Lib.hid (show decide (ps = qs) = true from decide_eq_true (by
          have := HP.out
          rwa [List.take_length, HL.out, List.take_length] at this))
        go_wp2_with fail
        go_ret
        rw [E.out]
        exact ⟨rfl, BW.out⟩
  · have hnn : ((ps.length : Int) != (qs.length : Int)) = true := by simp; omega
    have E := Lib.hid (show decide (ps = qs) = false from decide_eq_false (fun e => hl (by rw [e])))
    go_enter Try.func88, Try.ntmps88
    go_wp2_with fail
    go_ret
    rw [E.out]
    exact ⟨rfl, Below.refl _ _⟩
end Go.Proofs.Ythmjniedfiabhaa
