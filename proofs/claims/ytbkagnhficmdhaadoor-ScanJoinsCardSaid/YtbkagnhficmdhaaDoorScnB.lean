/- Scan: the answers' letter, digit, two, Key, blanks. -/
import Derived.Test.YtbkagnhficmdhaaDoorScnA
import Derived.Test.YtbkagnhficmdhaaDoorStrs
import Derived.Test.YtbkagnhficmdhaaDoorBlocks
import Derived.Lib.Hide
import Derived.WalkKit
import Derived.BigCall
namespace Go.Proofs.YtbkagnhficmdhaaDoor
open Go.ChangeShapes Go.WideShapes Go.ChangeAt Go.RowKit
set_option linter.unusedVariables false
set_option linter.unusedSimpArgs false

set_option maxHeartbeats 2000000 in
set_option maxRecDepth 100000 in
theorem reflet_any (c : Nat) (w : World) : Calls Tryd.prog 31 #[.int .u8 c] w fun e w' => e = .returned (.bool (letN c)) ∧ w = w' := by
  have L := Lib.hid (show letN c = ((decide (65 ≤ c) && decide (c ≤ 90)) || (decide (97 ≤ c) && decide (c ≤ 122))) from rfl)
  rcases (show c < 65 ∨ (65 ≤ c ∧ c ≤ 90) ∨ (90 < c ∧ c < 97) ∨ (97 ≤ c ∧ c ≤ 122) ∨ 122 < c by omega) with h | h | h | h | h
  · have e1 : decide ((65 : Int) ≤ c) = false := decide_eq_false (by omega)
    have e3 : decide ((97 : Int) ≤ c) = false := decide_eq_false (by omega)
    have R := Lib.hid (show letN c = false by rw [L.out, decide_eq_false (by omega), decide_eq_false (p := 97 ≤ c) (by omega)]; rfl)
    go_enter Tryd.func31, Tryd.ntmps31
    go_wp2_with fail
    go_ret
    exact ⟨by rw [R.out]; rfl, rfl⟩
  · have e1 : decide ((65 : Int) ≤ c) = true := decide_eq_true (by omega)
    have e2 : decide ((c : Int) ≤ 90) = true := decide_eq_true (by omega)
    have R := Lib.hid (show letN c = true by rw [L.out, decide_eq_true h.1, decide_eq_true h.2]; rfl)
    go_enter Tryd.func31, Tryd.ntmps31
    go_wp2_with fail
    go_ret
    exact ⟨by rw [R.out]; rfl, rfl⟩
  · have e1 : decide ((65 : Int) ≤ c) = true := decide_eq_true (by omega)
    have e2 : decide ((c : Int) ≤ 90) = false := decide_eq_false (by omega)
    have e3 : decide ((97 : Int) ≤ c) = false := decide_eq_false (by omega)
    have R := Lib.hid (show letN c = false by rw [L.out, decide_eq_false (p := c ≤ 90) (by omega), decide_eq_false (p := 97 ≤ c) (by omega), Bool.and_false]; rfl)
    go_enter Tryd.func31, Tryd.ntmps31
    go_wp2_with fail
    go_ret
    exact ⟨by rw [R.out]; rfl, rfl⟩
  · have e1 : decide ((65 : Int) ≤ c) = true := decide_eq_true (by omega)
    have e2 : decide ((c : Int) ≤ 90) = false := decide_eq_false (by omega)
    have e3 : decide ((97 : Int) ≤ c) = true := decide_eq_true (by omega)
    have e4 : decide ((c : Int) ≤ 122) = true := decide_eq_true (by omega)
    have R := Lib.hid (show letN c = true by rw [L.out, decide_eq_true (p := 97 ≤ c) h.1, decide_eq_true (p := c ≤ 122) h.2]; simp)
    go_enter Tryd.func31, Tryd.ntmps31
    go_wp2_with fail
    go_ret
    exact ⟨by rw [R.out]; rfl, rfl⟩
  · have e1 : decide ((65 : Int) ≤ c) = true := decide_eq_true (by omega)
    have e2 : decide ((c : Int) ≤ 90) = false := decide_eq_false (by omega)
    have e3 : decide ((97 : Int) ≤ c) = true := decide_eq_true (by omega)
    have e4 : decide ((c : Int) ≤ 122) = false := decide_eq_false (by omega)
    have R := Lib.hid (show letN c = false by rw [L.out, decide_eq_false (p := c ≤ 90) (by omega), decide_eq_false (p := c ≤ 122) (by omega), Bool.and_false, Bool.and_false]; rfl)
    go_enter Tryd.func31, Tryd.ntmps31
    go_wp2_with fail
    go_ret
    exact ⟨by rw [R.out]; rfl, rfl⟩

set_option maxHeartbeats 2000000 in
set_option maxRecDepth 100000 in
theorem refdig_any (c : Nat) (w : World) : Calls Tryd.prog 32 #[.int .u8 c] w fun e w' => e = .returned (.bool (digN c)) ∧ w = w' := by
  have L := Lib.hid (show digN c = (decide (48 ≤ c) && decide (c ≤ 57)) from rfl)
  rcases (show c < 48 ∨ (48 ≤ c ∧ c ≤ 57) ∨ 57 < c by omega) with h | h | h
  · have e1 : decide ((48 : Int) ≤ c) = false := decide_eq_false (by omega)
    have R := Lib.hid (show digN c = false by rw [L.out, decide_eq_false (by omega)]; rfl)
    go_enter Tryd.func32, Tryd.ntmps32
    go_wp2_with fail
    go_ret
    exact ⟨by rw [R.out]; rfl, rfl⟩
  · have e1 : decide ((48 : Int) ≤ c) = true := decide_eq_true (by omega)
    have e2 : decide ((c : Int) ≤ 57) = true := decide_eq_true (by omega)
    have R := Lib.hid (show digN c = true by rw [L.out, decide_eq_true h.1, decide_eq_true h.2]; rfl)
    go_enter Tryd.func32, Tryd.ntmps32
    go_wp2_with fail
    go_ret
    exact ⟨by rw [R.out]; rfl, rfl⟩
  · have e1 : decide ((48 : Int) ≤ c) = true := decide_eq_true (by omega)
    have e2 : decide ((c : Int) ≤ 57) = false := decide_eq_false (by omega)
    have R := Lib.hid (show digN c = false by rw [L.out, decide_eq_false (p := c ≤ 57) (by omega), Bool.and_false])
    go_enter Tryd.func32, Tryd.ntmps32
    go_wp2_with fail
    go_ret
    exact ⟨by rw [R.out]; rfl, rfl⟩

set_option maxHeartbeats 4000000 in
set_option maxRecDepth 100000 in
theorem reftwo_any (s : ByteArray) (k a b : Nat) (w : World) (hs : s.size ≤ 1000000) (hk : k ≤ 2000000) : Calls Tryd.prog 35 #[.string s, .int .i64 k, .int .u8 a, .int .u8 b] w fun e w' => e = .returned (.bool (twoP s k a b)) ∧ w = w' := by
  have T := Lib.hid (show twoP s k a b = (decide (k + 1 < s.size) && (decide (byN s k = a) && decide (byN s (k + 1) = b))) from rfl)
  by_cases h : k + 1 < s.size
  · have hI : decide ((k : Int) + 1 < s.size) = true := decide_eq_true (by omega)
    have h1 : (k : Int) < s.size := by omega
    have h2 : (k : Int) + 1 < s.size := by omega
    have B1 := Lib.hid (byN_get (s := s) (k := k) (by omega))
    have B2 := Lib.hid (byN_get (s := s) (k := k + 1) h)
    have hk0 : k < s.size := by omega
    by_cases ha : s[k].toNat = a
    · have e1 : ((s[k].toNat : Int) == (a : Int)) = true := beq_iff_eq.2 (by omega)
      by_cases hb : s[k + 1].toNat = b
      · have e2 : ((s[k + 1].toNat : Int) == (b : Int)) = true := beq_iff_eq.2 (by omega)
        have R := Lib.hid (show twoP s k a b = true by rw [T.out, decide_eq_true h, decide_eq_true (B1.out.trans ha), decide_eq_true (B2.out.trans hb)]; rfl)
        clear ha hb
        go_enter Tryd.func35, Tryd.ntmps35
        go_wp2_with fail
        go_ret
        exact ⟨by rw [R.out]; rfl, rfl⟩
      · have e2 : ((s[k + 1].toNat : Int) == (b : Int)) = false := beq_eq_false_iff_ne.2 (by omega)
        have R := Lib.hid (show twoP s k a b = false by rw [T.out, decide_eq_false (p := byN s (k + 1) = b) (by rw [B2.out]; exact hb), Bool.and_false, Bool.and_false])
        clear ha hb
        go_enter Tryd.func35, Tryd.ntmps35
        go_wp2_with fail
        go_ret
        exact ⟨by rw [R.out]; rfl, rfl⟩
    · have e1 : ((s[k].toNat : Int) == (a : Int)) = false := beq_eq_false_iff_ne.2 (by omega)
      have R := Lib.hid (show twoP s k a b = false by rw [T.out, decide_eq_false (p := byN s k = a) (by rw [B1.out]; exact ha), Bool.false_and, Bool.and_false])
      clear ha
      go_enter Tryd.func35, Tryd.ntmps35
      go_wp2_with fail
      go_ret
      exact ⟨by rw [R.out]; rfl, rfl⟩
  · have hI : decide ((k : Int) + 1 < s.size) = false := decide_eq_false (by omega)
    have R := Lib.hid (show twoP s k a b = false by rw [T.out, decide_eq_false h, Bool.false_and])
    go_enter Tryd.func35, Tryd.ntmps35
    go_wp2_with fail
    go_ret
    exact ⟨by rw [R.out]; rfl, rfl⟩
end Go.Proofs.YtbkagnhficmdhaaDoor
