/- Package cpu: fault, pass, set, trap, require, branch. -/
import Derived.Test.YtinpdgjbiimgkaaDoorCpuA
namespace Go.Proofs.YtinpdgjbiimgkaaDoor
open Go.ChangeShapes Go.WideShapes Go.ChangeAt Go.RowKit
set_option linter.unusedVariables false

/-- What a method of the processor leaves. -/
def CPost (p : Nat) (c : Cp) (o i : Value) (w : World) (e : Ending) (w' : World) : Prop :=
  e = .returned (.tuple #[]) ∧ CpuAt w' p 67 c o i ∧ But [p] w w'

set_option maxHeartbeats 2000000 in
theorem cfault_any (p : Nat) (c : Cp) (o i : Value) (z : Int) (w : World) (hC : CpuAt w p 67 c o i) :
    Calls Tryd.prog 28 #[.pointer (some ⟨p, 0, none⟩), .int .i64 z] w (CPost p (faultC c z) o i w) := by
  have q19 := hC.st
  have q20 := hC.why
  have hf := hC.free
  have HC := Lib.hid hC
  clear hC
  unfold CPost
  go_enter Tryd.func28, Tryd.ntmps28
  go_wp2_with fail
  first | go_end0 | refine bodyPost_ret (results_none rfl _ _ _) rfl ?_
  exact ⟨rfl, (HC.out.set_st 2).set_why z, ((But.refl _ w).setCell _ _ (by simp)).setCell _ _ (by simp)⟩

set_option maxHeartbeats 2000000 in
theorem cpass_any (p : Nat) (c : Cp) (o i : Value) (w : World) (hC : CpuAt w p 67 c o i) :
    Calls Tryd.prog 58 #[.pointer (some ⟨p, 0, none⟩)] w (CPost p (passC c) o i w) := by
  have q16 := hC.pc
  have hf := hC.free
  have HC := Lib.hid hC
  clear hC
  unfold CPost
  go_enter Tryd.func58, Tryd.ntmps58
  go_wp2_with fail
  first | go_end0 | refine bodyPost_ret (results_none rfl _ _ _) rfl ?_
  exact ⟨rfl, HC.out.set_pc _, (But.refl _ w).setCell _ _ (by simp)⟩

set_option maxHeartbeats 2000000 in
theorem cset_any (p k : Nat) (c : Cp) (o i : Value) (v : Int) (w : World) (hk : k < 16) (hC : CpuAt w p 67 c o i) :
    Calls Tryd.prog 51 #[.pointer (some ⟨p, 0, none⟩), .int .i64 k, .int .u32 v] w (CPost p (setC c k v) o i w) := by
  have qk := hC.reg hk
  have hf := hC.free
  have HC := Lib.hid (hC.set_reg hk v)
  have BC := Lib.hid ((But.refl [p] w).setCell ⟨p, k, none⟩ (.int .u32 v) (by simp))
  have P := Lib.hid (fun c w hC => cpass_any p c o i w hC)
  clear hC
  unfold CPost at *
  go_enter Tryd.func51, Tryd.ntmps51
  go_wp2_with fail
  refine (P.out _ _ HC.out).mono ?_
  rintro e w' ⟨rfl, hc, hb⟩
  go_wp2_with fail
  first | go_end0 | refine bodyPost_ret (results_none rfl _ _ _) rfl ?_
  exact ⟨rfl, hc, BC.out.trans hb⟩

set_option maxHeartbeats 4000000 in
theorem ctrap_any (p : Nat) (c : Cp) (o i : Value) (z : Int) (w : World) (hC : CpuAt w p 67 c o i) :
    Calls Tryd.prog 77 #[.pointer (some ⟨p, 0, none⟩), .int .u32 z] w (CPost p (trapC c z) o i w) := by
  have q16 := hC.pc
  have q17 := hC.epc
  have q18 := hC.cause
  have q25 := hC.ve
  have q26 := hC.gu
  have hf := hC.free
  have HC := Lib.hid hC
  clear hC
  by_cases h : c.pc < c.gu
  · have R := Lib.hid (show trapC c z = faultC c 111 from if_pos h)
    have d1 : decide (c.pc < c.gu) = true := decide_eq_true h
    have P := Lib.hid (fun w hC => cfault_any p c o i 111 w hC)
    clear h
    unfold CPost at *
    go_enter Tryd.func77, Tryd.ntmps77
    go_wp2_with fail
    go_quiet (fail)
    go_wp2_with fail
    refine (P.out _ (HC.out.drawn nq)).mono ?_
    rintro e w' ⟨rfl, hc, hb⟩
    go_wp2_with fail
    first | go_end0 | refine bodyPost_ret (results_none rfl _ _ _) rfl ?_
    exact ⟨rfl, by rw [R.out]; exact hc, ((But.refl _ w).drawn nq).trans hb⟩
  · have R := Lib.hid (show trapC c z = { c with epc := c.pc, cause := z, pc := c.ve } from if_neg h)
    have d1 : decide (c.pc < c.gu) = false := decide_eq_false h
    clear h
    unfold CPost at *
    go_enter Tryd.func77, Tryd.ntmps77
    go_wp2_with fail
    go_quiet (fail)
    have HD := Lib.hid (HC.out.drawn nq)
    have BD := Lib.hid ((But.refl [p] w).drawn nq)
    clear HC q16 q17 q18 q25 q26 hf
    generalize w.drewN nq = W at *
    have q16 := HD.out.pc
    have q17 := HD.out.epc
    have q18 := HD.out.cause
    have q25 := HD.out.ve
    have hf := HD.out.free
    go_wp2_with fail
    go_region
    go_wp2_with fail
    first | go_end0 | refine bodyPost_ret (results_none rfl _ _ _) rfl ?_
    exact ⟨rfl, by rw [R.out]; exact (((HD.out.set_epc _).set_cause _).set_pc _).drew, (((BD.out.setCell _ _ (by simp)).setCell _ _ (by simp)).setCell _ _ (by simp)).drew⟩

set_option maxHeartbeats 2000000 in
theorem crequire_any (p : Nat) (c : Cp) (o i : Value) (b : Bool) (z : Int) (w : World) (hC : CpuAt w p 67 c o i) :
    Calls Tryd.prog 81 #[.pointer (some ⟨p, 0, none⟩), .bool b, .int .u32 z] w (CPost p (if b then passC c else trapC c z) o i w) := by
  have HC := Lib.hid hC
  have P := Lib.hid (fun w hC => cpass_any p c o i w hC)
  have T := Lib.hid (fun w hC => ctrap_any p c o i z w hC)
  clear hC
  unfold CPost at *
  cases b with
  | true =>
    go_enter Tryd.func81, Tryd.ntmps81
    go_wp2_with fail
    refine (P.out _ HC.out).mono ?_
    rintro e w' ⟨rfl, hc, hb⟩
    go_wp2_with fail
    first | go_end0 | refine bodyPost_ret (results_none rfl _ _ _) rfl ?_
    exact ⟨rfl, hc, hb⟩
  | false =>
    go_enter Tryd.func81, Tryd.ntmps81
    go_wp2_with fail
    refine (T.out _ HC.out).mono ?_
    rintro e w' ⟨rfl, hc, hb⟩
    go_wp2_with fail
    first | go_end0 | refine bodyPost_ret (results_none rfl _ _ _) rfl ?_
    exact ⟨rfl, hc, hb⟩

/-- Where a jump by n words goes. -/
def jumpC (c : Cp) (n : Int) : Cp := { c with pc := w32 (w32 (c.pc + 4) + 4 * w32 n) }

set_option maxHeartbeats 2000000 in
theorem cbranch_any (p : Nat) (c : Cp) (o i : Value) (b : Bool) (n : Int) (w : World) (hC : CpuAt w p 67 c o i) :
    Calls Tryd.prog 80 #[.pointer (some ⟨p, 0, none⟩), .bool b, .int .i64 n] w (CPost p (if b then jumpC c n else passC c) o i w) := by
  have HC := Lib.hid hC
  have P := Lib.hid (fun w hC => cpass_any p c o i w hC)
  clear hC
  unfold CPost at *
  cases b with
  | false =>
    go_enter Tryd.func80, Tryd.ntmps80
    go_wp2_with fail
    refine (P.out _ HC.out).mono ?_
    rintro e w' ⟨rfl, hc, hb⟩
    go_wp2_with fail
    first | go_end0 | refine bodyPost_ret (results_none rfl _ _ _) rfl ?_
    exact ⟨rfl, hc, hb⟩
  | true =>
    go_enter Tryd.func80, Tryd.ntmps80
    go_wp2_with fail
    refine (P.out _ HC.out).mono ?_
    rintro e w' ⟨rfl, hc, hb⟩
    have q16 := hc.pc
    have hf := hc.free
    have HD := Lib.hid hc
    have BD := Lib.hid hb
    clear hc hb
    go_wp2_with fail
    first | go_end0 | refine bodyPost_ret (results_none rfl _ _ _) rfl ?_
    refine ⟨rfl, HD.out.set_pc _, BD.out.setCell _ _ (by simp)⟩
end Go.Proofs.YtinpdgjbiimgkaaDoor
