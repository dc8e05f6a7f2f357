/- Ranges: Right of both. -/
import Derived.Test.YtmahnhghfanhpaaRngB
namespace Go.Proofs.Ytmahnhghfanhpaa
open Go.ChangeShapes Go.WideShapes Go.ChangeAt Go.RowKit
set_option linter.unusedVariables false
set_option linter.unusedSimpArgs false

instance (l : List Sg) (n : Int) : Decidable (rightP l n) := by unfold rightP; infer_instance

theorem right_low {l : List Sg} {n : Int} (h : n ≤ 0) : rightP l n ↔ n = 0 ∧ l.length = 0 := by
  unfold rightP
  rw [if_pos h]

theorem right_high {l : List Sg} {n : Int} (h : ¬ n ≤ 0) : rightP l n ↔ l.length ≠ 0 ∧ rtOk n none l := by
  unfold rightP
  rw [if_neg h]

/-- The one ahead. -/
def prevS (l : List Sg) : Nat → Option Sg
  | 0 => none
  | t + 1 => some (l.getD t zSg)

/-- May it be behind the one ahead? -/
def headOk : Option Sg → Sg → Prop
  | none, s => s.st = 0
  | some q, s => q.st < s.st ∧ q.pd ≠ s.pd

theorem rt_cons {n : Int} {p : Option Sg} {s : Sg} {l : List Sg} : rtOk n p (s :: l) ↔ (headOk p s ∧ s.st < n ∧ -1 ≤ s.pd ∧ s.pd < n) ∧ rtOk n (some s) l := by
  cases p <;> exact Iff.rfl

theorem rt_drop (l : List Sg) (n : Int) {t : Nat} (ht : t < l.length) : rtOk n (prevS l t) (l.drop t) ↔ (headOk (prevS l t) (l.getD t zSg) ∧ (l.getD t zSg).st < n ∧ -1 ≤ (l.getD t zSg).pd ∧ (l.getD t zSg).pd < n) ∧ rtOk n (prevS l (t + 1)) (l.drop (t + 1)) := by
  rw [dropL l zSg ht, rt_cons]
  exact Iff.rfl

set_option maxHeartbeats 16000000 in
set_option maxRecDepth 100000 in
theorem right_any (A : Option Addr) (l : List Sg) (c B : Nat) (n : Int) (w : World) (h : LstV sgCells B w (.slice A l.length c) l) (hn : l.length ≤ 140737488355328) :
    Calls Try.prog 9 #[.slice A l.length c, .int .i64 n] w fun e w' => e = .returned (.bool (decide (rightP l n))) ∧ Below w.heap.size w w' := by
  have H := Lib.hid h
  generalize hr : decide (rightP l n) = r
  have HR := Lib.hid hr.symm
  clear hr h
  by_cases hlo : n ≤ 0
  · have dlo : decide (n ≤ 0) = true := decide_eq_true hlo
    have RL := Lib.hid (show r = decide (n = 0 ∧ l.length = 0) from dec_iff HR.out (right_low (by omega)))
    clear HR
    by_cases hz : n = 0
    · have dz : (n == 0) = true := by simp [hz]
      by_cases h0 : l.length = 0
      · have d0 : ((l.length : Int) == 0) = true := by simp [h0]
        have R := Lib.hid (show r = true from dec_yes RL.out ⟨hz, h0⟩)
        clear hlo RL hz h0
        go_enter Try.func9, Try.ntmps9
        go_wp2_with fail
        go_ret
        rw [R.out]
        exact ⟨rfl, Below.refl _ _⟩
      · have d0 : ((l.length : Int) == 0) = false := beq_eq_false_iff_ne.2 (by omega)
        have R := Lib.hid (show r = false from dec_no RL.out (fun h => h0 h.2))
        clear hlo RL hz h0
        go_enter Try.func9, Try.ntmps9
        go_wp2_with fail
        go_ret
        rw [R.out]
        exact ⟨rfl, Below.refl _ _⟩
    · have dz : (n == 0) = false := by simp [hz]
      have R := Lib.hid (show r = false from dec_no RL.out (fun h => hz h.1))
      clear hlo RL hz
      go_enter Try.func9, Try.ntmps9
      go_wp2_with fail
      go_ret
      rw [R.out]
      exact ⟨rfl, Below.refl _ _⟩
  have dlo : decide (n ≤ 0) = false := decide_eq_false hlo
  have RH := Lib.hid (show r = decide (l.length ≠ 0 ∧ rtOk n none l) from dec_iff HR.out (right_high (by omega)))
  clear HR
  by_cases h0 : l.length = 0
  · have d0 : ((l.length : Int) == 0) = true := by simp [h0]
    have R := Lib.hid (show r = false from dec_no RH.out (fun h => h.1 h0))
    clear hlo RH h0
    go_enter Try.func9, Try.ntmps9
    go_wp2_with fail
    go_ret
    rw [R.out]
    exact ⟨rfl, Below.refl _ _⟩
  have d0 : ((l.length : Int) == 0) = false := beq_eq_false_iff_ne.2 (by omega)
  have R0 := Lib.hid (show r = decide (rtOk n (prevS l 0) (l.drop 0)) from dec_iff RH.out ⟨fun h => h.2, fun h => ⟨h0, h⟩⟩)
  obtain ⟨b, off, rfl, hbl, x0, _⟩ := sg_at H.out (Nat.pos_of_ne_zero h0)
  rw [Nat.zero_mul, Nat.add_zero] at x0
  have hpos : (0 : Int) < l.length := by omega
  have RZ := Lib.hid (show (l.getD 0 zSg).st ≠ 0 → r = false from fun hz => dec_no R0.out (fun h => hz ((rt_drop l n (Nat.pos_of_ne_zero h0)).1 h).1.1))
  by_cases hf : (l.getD 0 zSg).st = 0
  case neg =>
    have df : ((l.getD 0 zSg).st != 0) = true := by simpa using hf
    have R := Lib.hid (RZ.out hf)
    generalize (l.getD 0 zSg).st = s0 at *
    clear hlo hf RZ R0 RH h0
    go_enter Try.func9, Try.ntmps9
    go_wp2_with fail
    go_ret
    rw [R.out]
    exact ⟨rfl, Below.refl _ _⟩
  have df : ((l.getD 0 zSg).st != 0) = false := by simpa using hf
  have F0 := Lib.hid hf
  generalize hs0 : (l.getD 0 zSg).st = s0 at x0 df
  clear hlo hf RZ RH h0 hs0
  go_enter Try.func9, Try.ntmps9
  go_wp2_with fail
  clear dlo d0 x0 df
  go_loopw [28] (fun i wr => ∃ t : Nat, t ≤ l.length ∧ i = .int .i64 t ∧ r = decide (rtOk n (prevS l t) (l.drop t)) ∧ Below w.heap.size w wr) (fun i _ => l.length - (intOf i).toNat)
  case atStart => exact ⟨0, Nat.zero_le _, rfl, R0.out, Below.refl _ _⟩
  case round =>
    obtain ⟨t, ht, rfl, hrt, hb⟩ := hrel
    have RT := Lib.hid hrt
    have HB := Lib.hid hb
    clear hrt hb R0
    by_cases hlt : t < l.length
    · have hI : (t : Int) < l.length := by omega
      have KB := Lib.hid (H.out.below HB.out)
      obtain ⟨_, _, e1, _, x0, x1⟩ := sg_at KB.out hlt
      injection e1 with e1
      injection e1 with e1 e2
      subst e1 e2
      have RD := Lib.hid (rt_drop l n hlt)
      have FS := Lib.hid (show t = 0 → (l.getD t zSg).st = 0 from fun e => by rw [e]; exact F0.out)
      generalize hss : l.getD t zSg = s at *
      obtain ⟨st, pd⟩ := s
      clear hss
      simp only at x0 x1
      have RN := Lib.hid (show ¬ ((headOk (prevS l t) ⟨st, pd⟩ ∧ st < n ∧ -1 ≤ pd ∧ pd < n) ∧ rtOk n (prevS l (t + 1)) (l.drop (t + 1))) → r = false from fun h => dec_no RT.out (fun h' => h (RD.out.1 h')))
      have RY := Lib.hid (show (headOk (prevS l t) ⟨st, pd⟩ ∧ st < n ∧ -1 ≤ pd ∧ pd < n) → r = decide (rtOk n (prevS l (t + 1)) (l.drop (t + 1))) from fun h => dec_iff RT.out ⟨fun h' => (RD.out.1 h').2, fun h' => RD.out.2 ⟨h, h'⟩⟩)
      clear RD RT
      have Y := Lib.hid (Whole.made wr sgT #[.int .i64 st, .int .i64 pd] _ rfl)
      have B1 := Lib.hid (HB.out.alloc HB.out.size (.cells #[.int .i64 st, .int .i64 pd] sgT))
      have K1 := Lib.hid (KB.out.below ((Below.refl wr.heap.size wr).alloc (Nat.le_refl _) (.cells #[.int .i64 st, .int .i64 pd] sgT)))
      have y0 : (wr.alloc (.cells #[.int .i64 st, .int .i64 pd] sgT)).cell? ⟨wr.heap.size, 0, none⟩ = some (.int .i64 st) := Y.out.cell 0
      have y1 : (wr.alloc (.cells #[.int .i64 st, .int .i64 pd] sgT)).cell? ⟨wr.heap.size, 1, none⟩ = some (.int .i64 pd) := Y.out.cell 1
      clear KB
      rcases t with _ | k
      · have hI' : (0 : Int) < l.length := by omega
        have S0 := Lib.hid (FS.out rfl)
        rw [Nat.zero_mul, Nat.add_zero] at x0 x1
        by_cases e0 : n ≤ st
        · have d0 : decide (n ≤ st) = true := decide_eq_true e0
          have R := Lib.hid (RN.out (fun h => by have := h.1.2.1; omega))
          clear RN RY e0
          go_wp2_with fail
          go_ret
          rw [R.out]
          exact ⟨rfl, B1.out⟩
        have d0 : decide (n ≤ st) = false := decide_eq_false e0
        by_cases e1 : pd < -1
        · have d1 : decide (pd < -1) = true := decide_eq_true e1
          have R := Lib.hid (RN.out (fun h => by have := h.1.2.2.1; omega))
          clear RN RY e0 e1
          go_wp2_with fail
          go_ret
          rw [R.out]
          exact ⟨rfl, B1.out⟩
        have d1 : decide (pd < -1) = false := decide_eq_false e1
        by_cases e2 : n ≤ pd
        · have d2 : decide (n ≤ pd) = true := decide_eq_true e2
          have R := Lib.hid (RN.out (fun h => by have := h.1.2.2.2; omega))
          clear RN RY e0 e1 e2
          go_wp2_with fail
          go_ret
          rw [R.out]
          exact ⟨rfl, B1.out⟩
        have d2 : decide (n ≤ pd) = false := decide_eq_false e2
        have RF := Lib.hid (RY.out ⟨S0.out, by omega, by omega, by omega⟩)
        clear RN RY e0 e1 e2
        go_wp2_with fail
        go_quiet (fail)
        rename_i nq
        have BF := Lib.hid (below_drawn B1.out nq)
        go_wp2_with fail
        go_roundw
        case rel => exact ⟨0 + 1, by omega, by go_num, RF.out, BF.out⟩
        case measure => simp [intOf]; omega
      · obtain ⟨_, _, e1, _, p0, p1⟩ := sg_at K1.out (show k < l.length by omega)
        injection e1 with e1
        injection e1 with e1 e2
        subst e1 e2
        have PK := Lib.hid (show prevS l (k + 1) = some (l.getD k zSg) from rfl)
        generalize hps : l.getD k zSg = ps at *
        obtain ⟨pst, ppd⟩ := ps
        clear hps
        simp only at p0 p1
        rw [PK.out] at RN RY
        clear PK
        have hI' : (k : Int) + 1 < l.length := by omega
        have dk : decide ((0 : Int) < (k : Int) + 1) = true := decide_eq_true (by omega)
        have dk0 : ((k : Int) + 1 == 0) = false := beq_eq_false_iff_ne.2 (by omega)
        clear hI
        by_cases e0 : n ≤ st
        · have d0 : decide (n ≤ st) = true := decide_eq_true e0
          have R := Lib.hid (RN.out (fun h => by have := h.1.2.1; omega))
          clear RN RY e0
          go_wp2_with fail
          go_ret
          rw [R.out]
          exact ⟨rfl, B1.out⟩
        have d0 : decide (n ≤ st) = false := decide_eq_false e0
        by_cases e1 : pd < -1
        · have d1 : decide (pd < -1) = true := decide_eq_true e1
          have R := Lib.hid (RN.out (fun h => by have := h.1.2.2.1; omega))
          clear RN RY e0 e1
          go_wp2_with fail
          go_ret
          rw [R.out]
          exact ⟨rfl, B1.out⟩
        have d1 : decide (pd < -1) = false := decide_eq_false e1
        by_cases e2 : n ≤ pd
        · have d2 : decide (n ≤ pd) = true := decide_eq_true e2
          have R := Lib.hid (RN.out (fun h => by have := h.1.2.2.2; omega))
          clear RN RY e0 e1 e2
          go_wp2_with fail
          go_ret
          rw [R.out]
          exact ⟨rfl, B1.out⟩
        have d2 : decide (n ≤ pd) = false := decide_eq_false e2
        by_cases e3 : st ≤ pst
        · have d3 : decide (st ≤ pst) = true := decide_eq_true e3
          have R := Lib.hid (RN.out (fun h => by have := h.1.1.1; dsimp only at this; omega))
          clear RN RY e0 e1 e2 e3
          go_wp2_with fail
          go_quiet (fail)
          rename_i nq
          have BF := Lib.hid (below_drawn B1.out nq)
          go_wp2_with fail
          go_ret
          rw [R.out]
          exact ⟨rfl, BF.out⟩
        have d3 : decide (st ≤ pst) = false := decide_eq_false e3
        by_cases e4 : pd = ppd
        · have d4 : (pd == ppd) = true := by simp [e4]
          have R := Lib.hid (RN.out (fun h => h.1.1.2 e4.symm))
          clear RN RY e0 e1 e2 e3 e4
          go_wp2_with fail
          go_quiet (fail)
          rename_i nq
          have BF := Lib.hid (below_drawn B1.out nq)
          go_wp2_with fail
          go_ret
          rw [R.out]
          exact ⟨rfl, BF.out⟩
        have d4 : (pd == ppd) = false := by simp [e4]
        have RF := Lib.hid (RY.out ⟨⟨by show pst < st; omega, fun e => e4 e.symm⟩, by omega, by omega, by omega⟩)
        clear RN RY e0 e1 e2 e3 e4
        go_wp2_with fail
        go_quiet (fail)
        rename_i nq
        have BF := Lib.hid (below_drawn B1.out nq)
        go_wp2_with fail
        go_roundw
        case rel => exact ⟨(k + 1) + 1, by omega, by go_num, RF.out, BF.out⟩
        case measure => simp [intOf]; omega
    · have hI : ¬ (t : Int) < l.length := by omega
      obtain rfl : t = l.length := by omega
      have R := Lib.hid (show r = true from dec_yes RT.out (by rw [List.drop_length]; exact trivial))
      clear RT
      go_wp2_with fail
      go_ret
      rw [R.out]
      exact ⟨rfl, HB.out⟩

set_option maxHeartbeats 16000000 in
set_option maxRecDepth 100000 in
theorem refright_any (A : Option Addr) (l : List Sg) (c B : Nat) (n : Int) (w : World) (h : LstV sgCells B w (.slice A l.length c) l) (hn : l.length ≤ 140737488355328) :
    Calls Try.prog 10 #[.slice A l.length c, .int .i64 n] w fun e w' => e = .returned (.bool (decide (rightP l n))) ∧ Below w.heap.size w w' := by
  have H := Lib.hid h
  generalize hr : decide (rightP l n) = r
  have HR := Lib.hid hr.symm
  clear hr h
  by_cases hlo : n < 1
  · have dlo : decide (n < 1) = true := decide_eq_true hlo
    have RL := Lib.hid (show r = decide (n = 0 ∧ l.length = 0) from dec_iff HR.out (right_low (by omega)))
    clear HR
    by_cases hz : n = 0
    · have dz : (n == 0) = true := by simp [hz]
      by_cases h0 : l.length = 0
      · have d0 : ((l.length : Int) == 0) = true := by simp [h0]
        have R := Lib.hid (show r = true from dec_yes RL.out ⟨hz, h0⟩)
        clear hlo RL hz h0
        go_enter Try.func10, Try.ntmps10
        go_wp2_with fail
        go_ret
        rw [R.out]
        exact ⟨rfl, Below.refl _ _⟩
      · have d0 : ((l.length : Int) == 0) = false := beq_eq_false_iff_ne.2 (by omega)
        have R := Lib.hid (show r = false from dec_no RL.out (fun h => h0 h.2))
        clear hlo RL hz h0
        go_enter Try.func10, Try.ntmps10
        go_wp2_with fail
        go_ret
        rw [R.out]
        exact ⟨rfl, Below.refl _ _⟩
    · have dz : (n == 0) = false := by simp [hz]
      have R := Lib.hid (show r = false from dec_no RL.out (fun h => hz h.1))
      clear hlo RL hz
      go_enter Try.func10, Try.ntmps10
      go_wp2_with fail
      go_ret
      rw [R.out]
      exact ⟨rfl, Below.refl _ _⟩
  have dlo : decide (n < 1) = false := decide_eq_false hlo
  have RH := Lib.hid (show r = decide (l.length ≠ 0 ∧ rtOk n none l) from dec_iff HR.out (right_high (by omega)))
  clear HR
  by_cases h0 : l.length = 0
  · have d0 : ((l.length : Int) == 0) = true := by simp [h0]
    have R := Lib.hid (show r = false from dec_no RH.out (fun h => h.1 h0))
    have dz : (n == 0) = false := beq_eq_false_iff_ne.2 (by omega)
    clear hlo RH h0
    go_enter Try.func10, Try.ntmps10
    go_wp2_with fail
    go_ret
    rw [R.out]
    exact ⟨rfl, Below.refl _ _⟩
  have d0 : ((l.length : Int) == 0) = false := beq_eq_false_iff_ne.2 (by omega)
  have R0 := Lib.hid (show r = decide (rtOk n (prevS l 0) (l.drop 0)) from dec_iff RH.out ⟨fun h => h.2, fun h => ⟨h0, h⟩⟩)
  clear hlo RH h0
  go_enter Try.func10, Try.ntmps10
  go_wp2_with fail
  clear dlo d0
  go_loopw [5] (fun i wr => ∃ t : Nat, t ≤ l.length ∧ i = .int .i64 t ∧ r = decide (rtOk n (prevS l t) (l.drop t)) ∧ Below w.heap.size w wr) (fun i _ => l.length - (intOf i).toNat)
  case atStart => exact ⟨0, Nat.zero_le _, rfl, R0.out, Below.refl _ _⟩
  case round =>
    obtain ⟨t, ht, rfl, hrt, hb⟩ := hrel
    have RT := Lib.hid hrt
    have HB := Lib.hid hb
    clear hrt hb R0
    by_cases hlt : t < l.length
    · have hI : (t : Int) < l.length := by omega
      have KB := Lib.hid (H.out.below HB.out)
      obtain ⟨b, off, rfl, hbl, x0, x1⟩ := sg_at KB.out hlt
      have RD := Lib.hid (rt_drop l n hlt)
      generalize hss : l.getD t zSg = s at *
      obtain ⟨st, pd⟩ := s
      clear hss
      simp only at x0 x1
      have RN := Lib.hid (show ¬ ((headOk (prevS l t) ⟨st, pd⟩ ∧ st < n ∧ -1 ≤ pd ∧ pd < n) ∧ rtOk n (prevS l (t + 1)) (l.drop (t + 1))) → r = false from fun h => dec_no RT.out (fun h' => h (RD.out.1 h')))
      have RY := Lib.hid (show (headOk (prevS l t) ⟨st, pd⟩ ∧ st < n ∧ -1 ≤ pd ∧ pd < n) → r = decide (rtOk n (prevS l (t + 1)) (l.drop (t + 1))) from fun h => dec_iff RT.out ⟨fun h' => (RD.out.1 h').2, fun h' => RD.out.2 ⟨h, h'⟩⟩)
      clear RD RT
      have Y := Lib.hid (Whole.made wr sgT #[.int .i64 st, .int .i64 pd] _ rfl)
      have B1 := Lib.hid (HB.out.alloc HB.out.size (.cells #[.int .i64 st, .int .i64 pd] sgT))
      have K1 := Lib.hid (KB.out.below ((Below.refl wr.heap.size wr).alloc (Nat.le_refl _) (.cells #[.int .i64 st, .int .i64 pd] sgT)))
      have y0 : (wr.alloc (.cells #[.int .i64 st, .int .i64 pd] sgT)).cell? ⟨wr.heap.size, 0, none⟩ = some (.int .i64 st) := Y.out.cell 0
      have y1 : (wr.alloc (.cells #[.int .i64 st, .int .i64 pd] sgT)).cell? ⟨wr.heap.size, 1, none⟩ = some (.int .i64 pd) := Y.out.cell 1
      clear KB
      rcases t with _ | k
      · have hI' : (0 : Int) < l.length := by omega
        rw [Nat.zero_mul, Nat.add_zero] at x0 x1
        by_cases ez : st = 0
        case neg =>
          have dz : (st != 0) = true := by simp [ez]
          have R := Lib.hid (RN.out (fun h => ez h.1.1))
          clear RN RY ez
          go_wp2_with fail
          go_ret
          rw [R.out]
          exact ⟨rfl, B1.out⟩
        have dz : (st != 0) = false := by simp [ez]
        have EZ := Lib.hid ez
        clear ez
        by_cases e0 : n ≤ st
        · have d0 : decide (n ≤ st) = true := decide_eq_true e0
          have R := Lib.hid (RN.out (fun h => by have := h.1.2.1; omega))
          clear RN RY e0
          go_wp2_with fail
          go_ret
          rw [R.out]
          exact ⟨rfl, B1.out⟩
        have d0 : decide (n ≤ st) = false := decide_eq_false e0
        by_cases e1 : pd < -1
        · have d1 : decide (pd < -1) = true := decide_eq_true e1
          have R := Lib.hid (RN.out (fun h => by have := h.1.2.2.1; omega))
          clear RN RY e0 e1
          go_wp2_with fail
          go_ret
          rw [R.out]
          exact ⟨rfl, B1.out⟩
        have d1 : decide (pd < -1) = false := decide_eq_false e1
        by_cases e2 : n ≤ pd
        · have d2 : decide (n ≤ pd) = true := decide_eq_true e2
          have R := Lib.hid (RN.out (fun h => by have := h.1.2.2.2; omega))
          clear RN RY e0 e1 e2
          go_wp2_with fail
          go_ret
          rw [R.out]
          exact ⟨rfl, B1.out⟩
        have d2 : decide (n ≤ pd) = false := decide_eq_false e2
        have RF := Lib.hid (RY.out ⟨EZ.out, by omega, by omega, by omega⟩)
        clear RN RY e0 e1 e2
        go_wp2_with fail
        go_quiet (fail)
        rename_i nq
        have BF := Lib.hid (below_drawn B1.out nq)
        go_wp2_with fail
        go_roundw
        case rel => exact ⟨0 + 1, by omega, by go_num, RF.out, BF.out⟩
        case measure => simp [intOf]; omega
      · obtain ⟨_, _, e1, _, p0, p1⟩ := sg_at K1.out (show k < l.length by omega)
        injection e1 with e1
        injection e1 with e1 e2
        subst e1 e2
        have PK := Lib.hid (show prevS l (k + 1) = some (l.getD k zSg) from rfl)
        generalize hps : l.getD k zSg = ps at *
        obtain ⟨pst, ppd⟩ := ps
        clear hps
        simp only at p0 p1
        rw [PK.out] at RN RY
        clear PK
        have hI' : (k : Int) + 1 < l.length := by omega
        have dk : decide ((0 : Int) < (k : Int) + 1) = true := decide_eq_true (by omega)
        have dk0 : ((k : Int) + 1 == 0) = false := beq_eq_false_iff_ne.2 (by omega)
        clear hI
        by_cases e0 : n ≤ st
        · have d0 : decide (n ≤ st) = true := decide_eq_true e0
          have R := Lib.hid (RN.out (fun h => by have := h.1.2.1; omega))
          clear RN RY e0
          go_wp2_with fail
          go_ret
          rw [R.out]
          exact ⟨rfl, B1.out⟩
        have d0 : decide (n ≤ st) = false := decide_eq_false e0
        by_cases e1 : pd < -1
        · have d1 : decide (pd < -1) = true := decide_eq_true e1
          have R := Lib.hid (RN.out (fun h => by have := h.1.2.2.1; omega))
          clear RN RY e0 e1
          go_wp2_with fail
          go_ret
          rw [R.out]
          exact ⟨rfl, B1.out⟩
        have d1 : decide (pd < -1) = false := decide_eq_false e1
        by_cases e2 : n ≤ pd
        · have d2 : decide (n ≤ pd) = true := decide_eq_true e2
          have R := Lib.hid (RN.out (fun h => by have := h.1.2.2.2; omega))
          clear RN RY e0 e1 e2
          go_wp2_with fail
          go_ret
          rw [R.out]
          exact ⟨rfl, B1.out⟩
        have d2 : decide (n ≤ pd) = false := decide_eq_false e2
        by_cases e3 : st ≤ pst
        · have d3 : decide (st ≤ pst) = true := decide_eq_true e3
          have R := Lib.hid (RN.out (fun h => by have := h.1.1.1; dsimp only at this; omega))
          clear RN RY e0 e1 e2 e3
          go_wp2_with fail
          go_quiet (fail)
          rename_i nq
          have BF := Lib.hid (below_drawn B1.out nq)
          go_wp2_with fail
          go_ret
          rw [R.out]
          exact ⟨rfl, BF.out⟩
        have d3 : decide (st ≤ pst) = false := decide_eq_false e3
        by_cases e4 : pd = ppd
        · have d4 : (pd == ppd) = true := by simp [e4]
          have R := Lib.hid (RN.out (fun h => h.1.1.2 e4.symm))
          clear RN RY e0 e1 e2 e3 e4
          go_wp2_with fail
          go_quiet (fail)
          rename_i nq
          have BF := Lib.hid (below_drawn B1.out nq)
          go_wp2_with fail
          go_ret
          rw [R.out]
          exact ⟨rfl, BF.out⟩
        have d4 : (pd == ppd) = false := by simp [e4]
        have RF := Lib.hid (RY.out ⟨⟨by show pst < st; omega, fun e => e4 e.symm⟩, by omega, by omega, by omega⟩)
        clear RN RY e0 e1 e2 e3 e4
        go_wp2_with fail
        go_quiet (fail)
        rename_i nq
        have BF := Lib.hid (below_drawn B1.out nq)
        go_wp2_with fail
        go_roundw
        case rel => exact ⟨(k + 1) + 1, by omega, by go_num, RF.out, BF.out⟩
        case measure => simp [intOf]; omega
    · have hI : ¬ (t : Int) < l.length := by omega
      obtain rfl : t = l.length := by omega
      have R := Lib.hid (show r = true from dec_yes RT.out (by rw [List.drop_length]; exact trivial))
      clear RT
      go_wp2_with fail
      go_ret
      rw [R.out]
      exact ⟨rfl, HB.out⟩
end Go.Proofs.Ytmahnhghfanhpaa
