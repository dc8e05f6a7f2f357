/- Scan: the program's classes of bytes, behind, behindBlanks. -/
import Derived.Test.YtbkagnhficmdhaaDoorScnB
import Derived.Test.YtbkagnhficmdhaaDoorShelf
import Derived.ScopeJumps
import Derived.Shelf.Abstract
import Derived.WalkMore
import Derived.Lib.Strings
namespace Go.Proofs.YtbkagnhficmdhaaDoor
open Go.ChangeShapes Go.WideShapes Go.ChangeAt Go.RowKit
set_option linter.unusedVariables false
set_option linter.unusedSimpArgs false

abbrev scT : TypeId := 44

/-- A digit of sixteen? -/
def hexB (c : Nat) : Bool := digN c || (decide (65 ≤ c) && decide (c ≤ 70))

def prnN (c : Nat) : Bool := decide (32 ≤ c) && decide (c ≤ 126)

/-- A class of bytes, by a function of the program's. -/
def ClassBy (f : FuncId) (p : Nat → Bool) : Prop := ∀ (c : Nat) (w : World), c < 256 → Calls Tryd.prog f #[.int .u8 c] w fun e w' => e = .returned (.bool (p c)) ∧ w = w'

set_option maxHeartbeats 2000000 in
set_option maxRecDepth 100000 in
theorem cls_isBlank : ClassBy 39 isBl := by
  intro c w hc
  have L := Lib.hid (fun b (h : (b = true ↔ (c = 32 ∨ c = 9 ∨ c = 10 ∨ c = 13))) => show b = isBl c from Bool.eq_iff_iff.2 (by unfold isBl; simp only [Bool.or_eq_true, Bool.and_eq_true, decide_eq_true_eq]; exact h))
  generalize isBl c = r at *
  go_enter Tryd.func39, Tryd.ntmps39
  go_wp2_with fail
  all_goals go_ret
  all_goals refine ⟨?_, rfl⟩
  all_goals exact congrArg (fun b => Ending.returned (.bool b)) (L.out _ (by
    simp only [Bool.or_eq_true, Bool.and_eq_true, decide_eq_true_eq, beq_iff_eq, Bool.false_eq_true, true_iff, false_iff]
    omega))

set_option maxHeartbeats 2000000 in
set_option maxRecDepth 100000 in
theorem cls_isLetter : ClassBy 21 letN := by
  intro c w hc
  have L := Lib.hid (fun b (h : (b = true ↔ ((65 ≤ c ∧ c ≤ 90) ∨ (97 ≤ c ∧ c ≤ 122)))) => show b = letN c from Bool.eq_iff_iff.2 (by unfold letN; simp only [Bool.or_eq_true, Bool.and_eq_true, decide_eq_true_eq]; exact h))
  generalize letN c = r at *
  go_enter Tryd.func21, Tryd.ntmps21
  go_wp2_with fail
  all_goals go_ret
  all_goals refine ⟨?_, rfl⟩
  all_goals exact congrArg (fun b => Ending.returned (.bool b)) (L.out _ (by
    simp only [Bool.or_eq_true, Bool.and_eq_true, decide_eq_true_eq, beq_iff_eq, Bool.false_eq_true, true_iff, false_iff]
    omega))

set_option maxHeartbeats 2000000 in
set_option maxRecDepth 100000 in
theorem cls_isDigit : ClassBy 23 digN := by
  intro c w hc
  have L := Lib.hid (fun b (h : (b = true ↔ (48 ≤ c ∧ c ≤ 57))) => show b = digN c from Bool.eq_iff_iff.2 (by unfold digN; simp only [Bool.or_eq_true, Bool.and_eq_true, decide_eq_true_eq]; exact h))
  generalize digN c = r at *
  go_enter Tryd.func23, Tryd.ntmps23
  go_wp2_with fail
  all_goals go_ret
  all_goals refine ⟨?_, rfl⟩
  all_goals exact congrArg (fun b => Ending.returned (.bool b)) (L.out _ (by
    simp only [Bool.or_eq_true, Bool.and_eq_true, decide_eq_true_eq, beq_iff_eq, Bool.false_eq_true, true_iff, false_iff]
    omega))

set_option maxHeartbeats 2000000 in
set_option maxRecDepth 100000 in
theorem cls_isPrintable : ClassBy 48 prnN := by
  intro c w hc
  have L := Lib.hid (fun b (h : (b = true ↔ (32 ≤ c ∧ c ≤ 126))) => show b = prnN c from Bool.eq_iff_iff.2 (by unfold prnN; simp only [Bool.or_eq_true, Bool.and_eq_true, decide_eq_true_eq]; exact h))
  generalize prnN c = r at *
  go_enter Tryd.func48, Tryd.ntmps48
  go_wp2_with fail
  all_goals go_ret
  all_goals refine ⟨?_, rfl⟩
  all_goals exact congrArg (fun b => Ending.returned (.bool b)) (L.out _ (by
    simp only [Bool.or_eq_true, Bool.and_eq_true, decide_eq_true_eq, beq_iff_eq, Bool.false_eq_true, true_iff, false_iff]
    omega))

set_option maxHeartbeats 4000000 in
set_option maxRecDepth 100000 in
theorem behind_any {f : FuncId} {p : Nat → Bool} (hf : Enters Tryd.prog f) (hp : ClassBy f p) (s : ByteArray) (a : Int) (g k : Nat) (w : World) (hQ : Whole w g scT #[.string s, .int .i64 a]) (hs : s.size ≤ 1000000) (hk : k ≤ s.size) : Calls Tryd.prog 40 #[.pointer (some ⟨g, 0, none⟩), .int .i64 k, .func (.func f) #[] #[]] w fun e w' => e = .returned (.int .i64 (endOf p s k)) ∧ w = w' := by
  have R0 := Lib.hid (show runF p s.size s k = endOf p s k from rfl)
  have q0 : w.cell? ⟨g, 0, none⟩ = some (.string s) := hQ.cell 0
  have hE : ∀ args w, (callFunc f args).run Tryd.prog w = .ok (.enter f args) w := hf
  generalize endOf p s k = r at *
  go_enter Tryd.func40, Tryd.ntmps40
  go_wp2_with fail
  go_loop [1] (fun i => ∃ (t f : Nat), t ≤ s.size ∧ s.size - t ≤ f ∧ i = .int .i64 t ∧ runF p f s t = r) (fun i => s.size - (intOf i).toNat)
  case atStart => exact ⟨k, s.size, hk, by omega, rfl, R0.out⟩
  case round =>
    obtain ⟨t, f, ht, hf, rfl, hR⟩ := hrel
    have HR := Lib.hid hR
    clear hR
    by_cases hlt : t < s.size
    · have hI : (t : Int) < s.size := by omega
      have BN := Lib.hid (byN_get hlt)
      have HT := Lib.hid (hp s[t].toNat w (s[t].toNat_lt))
      cases hc : p s[t].toNat
      · have H2 := (runF_stop (p := p) (f := f) (s := s) (k := t) (by rw [BN.out, hc]; simp)).symm.trans HR.out
        subst H2
        clear HR
        go_wp2_with fail
        refine (HT.out).mono ?_
        rintro e w1 ⟨rfl, rfl⟩
        go_wp2_with fail
        go_ret
        exact ⟨rfl, rfl⟩
      · obtain ⟨f, rfl⟩ : ∃ g, f = g + 1 := ⟨f - 1, by omega⟩
        have H2 := Lib.hid ((runF_go hlt (by rw [BN.out]; exact hc)).symm.trans HR.out)
        clear HR
        go_wp2_with fail
        refine (HT.out).mono ?_
        rintro e w1 ⟨rfl, rfl⟩
        go_wp2_with fail
        go_round
        case rel => exact ⟨t + 1, f, by omega, by omega, by go_num, H2.out⟩
        case measure => simp [intOf]; omega
    · have H2 := (runF_stop (p := p) (f := f) (s := s) (k := t) (by omega)).symm.trans HR.out
      subst H2
      have hI : decide ((t : Int) < s.size) = false := decide_eq_false (by omega)
      clear HR
      go_wp2_with fail
      go_ret
      exact ⟨rfl, rfl⟩

end Go.Proofs.YtbkagnhficmdhaaDoor
