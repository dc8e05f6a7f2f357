/- Package cpu: execute, by operation. -/
import Derived.Test.YtlmokkopaididaaDoorCpuD
import Derived.Test.YtlmokkopaididaaDoorCpuE
import Derived.Test.YtlmokkopaididaaDoorCpuG
namespace Go.Proofs.YtlmokkopaididaaDoor
open Go.ChangeShapes Go.WideShapes Go.ChangeAt Go.RowKit
set_option linter.unusedVariables false

set_option maxHeartbeats 4000000 in
set_option maxRecDepth 100000 in
theorem cexec_26_true (p q a b cc : Nat) (n : Int) (c : Cp) (o i : Value) (w : World) (ha : a < 16) (hb : b < 16) (hcc : cc < 16) (ua : 0 ≤ (c.r.getD a 0) ∧ (c.r.getD a 0) ≤ 4294967295) (ub : 0 ≤ (c.r.getD b 0) ∧ (c.r.getD b 0) ≤ 4294967295) (uc : 0 ≤ (c.r.getD cc 0) ∧ (c.r.getD cc 0) ≤ 4294967295) (hd : decide ((c.r.getD a 0) < n % 4294967296) = true) (hC : CpuAt w p 65 c o i) :
    Calls Tryd.prog 35 #[.pointer (some ⟨p, 0, none⟩), .pointer (some ⟨q, 0, none⟩), .agg #[.int .i64 26, .int .i64 a, .int .i64 b, .int .i64 cc, .int .i64 n]] w (CPost p (passC c) o i w) := by
  have HC := Lib.hid (hC.alloc (.cells #[.int .i64 26, .int .i64 a, .int .i64 b, .int .i64 cc, .int .i64 n] 51))
  have B0 := Lib.hid ((But.refl [p] w).alloc (.cells #[.int .i64 26, .int .i64 a, .int .i64 b, .int .i64 cc, .int .i64 n] 51))
  have K0 := Lib.hid (Whole.made w 51 #[.int .i64 26, .int .i64 a, .int .i64 b, .int .i64 cc, .int .i64 n] _ rfl)
  have hpn : w.heap.size ≠ p := Nat.ne_of_gt hC.lt
  have R := Lib.hid (fun w hC => ccheck_26_true p a b cc n c o i w ha hb hd hC)
  clear hC
  unfold CPost at *
  go_enter Tryd.func35, Tryd.ntmps35
  go_wp2_with fail
  refine (R.out _ HC.out).mono ?_
  rintro e w' ⟨rfl, hc, hb⟩
  go_wp2_with fail
  first | go_end0 | refine bodyPost_ret (results_none rfl _ _ _) rfl ?_
  exact ⟨rfl, hc, B0.out.trans hb⟩

set_option maxHeartbeats 4000000 in
set_option maxRecDepth 100000 in
theorem cexec_27_true (p q a b cc : Nat) (n : Int) (c : Cp) (o i : Value) (w : World) (ha : a < 16) (hb : b < 16) (hcc : cc < 16) (ua : 0 ≤ (c.r.getD a 0) ∧ (c.r.getD a 0) ≤ 4294967295) (ub : 0 ≤ (c.r.getD b 0) ∧ (c.r.getD b 0) ≤ 4294967295) (uc : 0 ≤ (c.r.getD cc 0) ∧ (c.r.getD cc 0) ≤ 4294967295) (hd : ((c.r.getD a 0) != 0) = true) (hC : CpuAt w p 65 c o i) :
    Calls Tryd.prog 35 #[.pointer (some ⟨p, 0, none⟩), .pointer (some ⟨q, 0, none⟩), .agg #[.int .i64 27, .int .i64 a, .int .i64 b, .int .i64 cc, .int .i64 n]] w (CPost p (passC c) o i w) := by
  have HC := Lib.hid (hC.alloc (.cells #[.int .i64 27, .int .i64 a, .int .i64 b, .int .i64 cc, .int .i64 n] 51))
  have B0 := Lib.hid ((But.refl [p] w).alloc (.cells #[.int .i64 27, .int .i64 a, .int .i64 b, .int .i64 cc, .int .i64 n] 51))
  have K0 := Lib.hid (Whole.made w 51 #[.int .i64 27, .int .i64 a, .int .i64 b, .int .i64 cc, .int .i64 n] _ rfl)
  have hpn : w.heap.size ≠ p := Nat.ne_of_gt hC.lt
  have R := Lib.hid (fun w hC => ccheck_27_true p a b cc n c o i w ha hd hC)
  clear hC
  unfold CPost at *
  go_enter Tryd.func35, Tryd.ntmps35
  go_wp2_with fail
  refine (R.out _ HC.out).mono ?_
  rintro e w' ⟨rfl, hc, hb⟩
  go_wp2_with fail
  first | go_end0 | refine bodyPost_ret (results_none rfl _ _ _) rfl ?_
  exact ⟨rfl, hc, B0.out.trans hb⟩

set_option maxHeartbeats 4000000 in
set_option maxRecDepth 100000 in
theorem cexec_32_true (p q a b cc : Nat) (n : Int) (c : Cp) (o i : Value) (w : World) (ha : a < 16) (hb : b < 16) (hcc : cc < 16) (ua : 0 ≤ (c.r.getD a 0) ∧ (c.r.getD a 0) ≤ 4294967295) (ub : 0 ≤ (c.r.getD b 0) ∧ (c.r.getD b 0) ≤ 4294967295) (uc : 0 ≤ (c.r.getD cc 0) ∧ (c.r.getD cc 0) ≤ 4294967295) (hd : decide (wrap32 c.li ≤ wrap32 (c.r.getD a 0)) = true) (hC : CpuAt w p 65 c o i) :
    Calls Tryd.prog 35 #[.pointer (some ⟨p, 0, none⟩), .pointer (some ⟨q, 0, none⟩), .agg #[.int .i64 32, .int .i64 a, .int .i64 b, .int .i64 cc, .int .i64 n]] w (CPost p (passC c) o i w) := by
  have HC := Lib.hid (hC.alloc (.cells #[.int .i64 32, .int .i64 a, .int .i64 b, .int .i64 cc, .int .i64 n] 51))
  have B0 := Lib.hid ((But.refl [p] w).alloc (.cells #[.int .i64 32, .int .i64 a, .int .i64 b, .int .i64 cc, .int .i64 n] 51))
  have K0 := Lib.hid (Whole.made w 51 #[.int .i64 32, .int .i64 a, .int .i64 b, .int .i64 cc, .int .i64 n] _ rfl)
  have hpn : w.heap.size ≠ p := Nat.ne_of_gt hC.lt
  have R := Lib.hid (fun w hC => ccheck_32_true p a b cc n c o i w ha hd hC)
  clear hC
  unfold CPost at *
  go_enter Tryd.func35, Tryd.ntmps35
  go_wp2_with fail
  refine (R.out _ HC.out).mono ?_
  rintro e w' ⟨rfl, hc, hb⟩
  go_wp2_with fail
  first | go_end0 | refine bodyPost_ret (results_none rfl _ _ _) rfl ?_
  exact ⟨rfl, hc, B0.out.trans hb⟩

set_option maxHeartbeats 4000000 in
set_option maxRecDepth 100000 in
theorem cexec_26_false (p q a b cc : Nat) (n : Int) (c : Cp) (o i : Value) (w : World) (ha : a < 16) (hb : b < 16) (hcc : cc < 16) (ua : 0 ≤ (c.r.getD a 0) ∧ (c.r.getD a 0) ≤ 4294967295) (ub : 0 ≤ (c.r.getD b 0) ∧ (c.r.getD b 0) ≤ 4294967295) (uc : 0 ≤ (c.r.getD cc 0) ∧ (c.r.getD cc 0) ≤ 4294967295) (hd : decide ((c.r.getD a 0) < n % 4294967296) = false) (hC : CpuAt w p 65 c o i) :
    Calls Tryd.prog 35 #[.pointer (some ⟨p, 0, none⟩), .pointer (some ⟨q, 0, none⟩), .agg #[.int .i64 26, .int .i64 a, .int .i64 b, .int .i64 cc, .int .i64 n]] w (CPost p (trapC c b) o i w) := by
  have HC := Lib.hid (hC.alloc (.cells #[.int .i64 26, .int .i64 a, .int .i64 b, .int .i64 cc, .int .i64 n] 51))
  have B0 := Lib.hid ((But.refl [p] w).alloc (.cells #[.int .i64 26, .int .i64 a, .int .i64 b, .int .i64 cc, .int .i64 n] 51))
  have K0 := Lib.hid (Whole.made w 51 #[.int .i64 26, .int .i64 a, .int .i64 b, .int .i64 cc, .int .i64 n] _ rfl)
  have hpn : w.heap.size ≠ p := Nat.ne_of_gt hC.lt
  have R := Lib.hid (fun w hC => ccheck_26_false p a b cc n c o i w ha hb hd hC)
  clear hC
  unfold CPost at *
  go_enter Tryd.func35, Tryd.ntmps35
  go_wp2_with fail
  refine (R.out _ HC.out).mono ?_
  rintro e w' ⟨rfl, hc, hb⟩
  go_wp2_with fail
  first | go_end0 | refine bodyPost_ret (results_none rfl _ _ _) rfl ?_
  exact ⟨rfl, hc, B0.out.trans hb⟩

set_option maxHeartbeats 4000000 in
set_option maxRecDepth 100000 in
theorem cexec_27_false (p q a b cc : Nat) (n : Int) (c : Cp) (o i : Value) (w : World) (ha : a < 16) (hb : b < 16) (hcc : cc < 16) (ua : 0 ≤ (c.r.getD a 0) ∧ (c.r.getD a 0) ≤ 4294967295) (ub : 0 ≤ (c.r.getD b 0) ∧ (c.r.getD b 0) ≤ 4294967295) (uc : 0 ≤ (c.r.getD cc 0) ∧ (c.r.getD cc 0) ≤ 4294967295) (hd : ((c.r.getD a 0) != 0) = false) (hC : CpuAt w p 65 c o i) :
    Calls Tryd.prog 35 #[.pointer (some ⟨p, 0, none⟩), .pointer (some ⟨q, 0, none⟩), .agg #[.int .i64 27, .int .i64 a, .int .i64 b, .int .i64 cc, .int .i64 n]] w (CPost p (trapC c 2) o i w) := by
  have HC := Lib.hid (hC.alloc (.cells #[.int .i64 27, .int .i64 a, .int .i64 b, .int .i64 cc, .int .i64 n] 51))
  have B0 := Lib.hid ((But.refl [p] w).alloc (.cells #[.int .i64 27, .int .i64 a, .int .i64 b, .int .i64 cc, .int .i64 n] 51))
  have K0 := Lib.hid (Whole.made w 51 #[.int .i64 27, .int .i64 a, .int .i64 b, .int .i64 cc, .int .i64 n] _ rfl)
  have hpn : w.heap.size ≠ p := Nat.ne_of_gt hC.lt
  have R := Lib.hid (fun w hC => ccheck_27_false p a b cc n c o i w ha hd hC)
  clear hC
  unfold CPost at *
  go_enter Tryd.func35, Tryd.ntmps35
  go_wp2_with fail
  refine (R.out _ HC.out).mono ?_
  rintro e w' ⟨rfl, hc, hb⟩
  go_wp2_with fail
  first | go_end0 | refine bodyPost_ret (results_none rfl _ _ _) rfl ?_
  exact ⟨rfl, hc, B0.out.trans hb⟩

set_option maxHeartbeats 4000000 in
set_option maxRecDepth 100000 in
theorem cexec_32_false (p q a b cc : Nat) (n : Int) (c : Cp) (o i : Value) (w : World) (ha : a < 16) (hb : b < 16) (hcc : cc < 16) (ua : 0 ≤ (c.r.getD a 0) ∧ (c.r.getD a 0) ≤ 4294967295) (ub : 0 ≤ (c.r.getD b 0) ∧ (c.r.getD b 0) ≤ 4294967295) (uc : 0 ≤ (c.r.getD cc 0) ∧ (c.r.getD cc 0) ≤ 4294967295) (hd : decide (wrap32 c.li ≤ wrap32 (c.r.getD a 0)) = false) (hC : CpuAt w p 65 c o i) :
    Calls Tryd.prog 35 #[.pointer (some ⟨p, 0, none⟩), .pointer (some ⟨q, 0, none⟩), .agg #[.int .i64 32, .int .i64 a, .int .i64 b, .int .i64 cc, .int .i64 n]] w (CPost p (trapC c 5) o i w) := by
  have HC := Lib.hid (hC.alloc (.cells #[.int .i64 32, .int .i64 a, .int .i64 b, .int .i64 cc, .int .i64 n] 51))
  have B0 := Lib.hid ((But.refl [p] w).alloc (.cells #[.int .i64 32, .int .i64 a, .int .i64 b, .int .i64 cc, .int .i64 n] 51))
  have K0 := Lib.hid (Whole.made w 51 #[.int .i64 32, .int .i64 a, .int .i64 b, .int .i64 cc, .int .i64 n] _ rfl)
  have hpn : w.heap.size ≠ p := Nat.ne_of_gt hC.lt
  have R := Lib.hid (fun w hC => ccheck_32_false p a b cc n c o i w ha hd hC)
  clear hC
  unfold CPost at *
  go_enter Tryd.func35, Tryd.ntmps35
  go_wp2_with fail
  refine (R.out _ HC.out).mono ?_
  rintro e w' ⟨rfl, hc, hb⟩
  go_wp2_with fail
  first | go_end0 | refine bodyPost_ret (results_none rfl _ _ _) rfl ?_
  exact ⟨rfl, hc, B0.out.trans hb⟩

set_option maxHeartbeats 4000000 in
set_option maxRecDepth 100000 in
theorem cexec_28 (p q a b cc : Nat) (n : Int) (c : Cp) (o i : Value) (w : World) (ha : a < 16) (hb : b < 16) (hcc : cc < 16) (ua : 0 ≤ (c.r.getD a 0) ∧ (c.r.getD a 0) ≤ 4294967295) (ub : 0 ≤ (c.r.getD b 0) ∧ (c.r.getD b 0) ≤ 4294967295) (uc : 0 ≤ (c.r.getD cc 0) ∧ (c.r.getD cc 0) ≤ 4294967295)  (hC : CpuAt w p 65 c o i) :
    Calls Tryd.prog 35 #[.pointer (some ⟨p, 0, none⟩), .pointer (some ⟨q, 0, none⟩), .agg #[.int .i64 28, .int .i64 a, .int .i64 b, .int .i64 cc, .int .i64 n]] w (CPost p (trapC c (w32 n)) o i w) := by
  have HC := Lib.hid (hC.alloc (.cells #[.int .i64 28, .int .i64 a, .int .i64 b, .int .i64 cc, .int .i64 n] 51))
  have B0 := Lib.hid ((But.refl [p] w).alloc (.cells #[.int .i64 28, .int .i64 a, .int .i64 b, .int .i64 cc, .int .i64 n] 51))
  have K0 := Lib.hid (Whole.made w 51 #[.int .i64 28, .int .i64 a, .int .i64 b, .int .i64 cc, .int .i64 n] _ rfl)
  have hpn : w.heap.size ≠ p := Nat.ne_of_gt hC.lt
  have R := Lib.hid (fun w hC => ccheck_28 p a b cc n c o i w ha hC)
  clear hC
  unfold CPost at *
  go_enter Tryd.func35, Tryd.ntmps35
  go_wp2_with fail
  refine (R.out _ HC.out).mono ?_
  rintro e w' ⟨rfl, hc, hb⟩
  go_wp2_with fail
  first | go_end0 | refine bodyPost_ret (results_none rfl _ _ _) rfl ?_
  exact ⟨rfl, hc, B0.out.trans hb⟩

set_option maxHeartbeats 4000000 in
set_option maxRecDepth 100000 in
theorem cexec_29 (p q a b cc : Nat) (n : Int) (c : Cp) (o i : Value) (w : World) (ha : a < 16) (hb : b < 16) (hcc : cc < 16) (ua : 0 ≤ (c.r.getD a 0) ∧ (c.r.getD a 0) ≤ 4294967295) (ub : 0 ≤ (c.r.getD b 0) ∧ (c.r.getD b 0) ≤ 4294967295) (uc : 0 ≤ (c.r.getD cc 0) ∧ (c.r.getD cc 0) ≤ 4294967295)  (hC : CpuAt w p 65 c o i) :
    Calls Tryd.prog 35 #[.pointer (some ⟨p, 0, none⟩), .pointer (some ⟨q, 0, none⟩), .agg #[.int .i64 29, .int .i64 a, .int .i64 b, .int .i64 cc, .int .i64 n]] w (CPost p (trapC c (c.r.getD a 0)) o i w) := by
  have HC := Lib.hid (hC.alloc (.cells #[.int .i64 29, .int .i64 a, .int .i64 b, .int .i64 cc, .int .i64 n] 51))
  have B0 := Lib.hid ((But.refl [p] w).alloc (.cells #[.int .i64 29, .int .i64 a, .int .i64 b, .int .i64 cc, .int .i64 n] 51))
  have K0 := Lib.hid (Whole.made w 51 #[.int .i64 29, .int .i64 a, .int .i64 b, .int .i64 cc, .int .i64 n] _ rfl)
  have hpn : w.heap.size ≠ p := Nat.ne_of_gt hC.lt
  have R := Lib.hid (fun w hC => ccheck_29 p a b cc n c o i w ha hC)
  clear hC
  unfold CPost at *
  go_enter Tryd.func35, Tryd.ntmps35
  go_wp2_with fail
  refine (R.out _ HC.out).mono ?_
  rintro e w' ⟨rfl, hc, hb⟩
  go_wp2_with fail
  first | go_end0 | refine bodyPost_ret (results_none rfl _ _ _) rfl ?_
  exact ⟨rfl, hc, B0.out.trans hb⟩

set_option maxHeartbeats 4000000 in
set_option maxRecDepth 100000 in
theorem cexec_33_0 (p q a b cc : Nat) (n : Int) (c : Cp) (o i : Value) (w : World) (ha : a < 16) (hb : b < 16) (hcc : cc < 16) (ua : 0 ≤ (c.r.getD a 0) ∧ (c.r.getD a 0) ≤ 4294967295) (ub : 0 ≤ (c.r.getD b 0) ∧ (c.r.getD b 0) ≤ 4294967295) (uc : 0 ≤ (c.r.getD cc 0) ∧ (c.r.getD cc 0) ≤ 4294967295) (hn : n = 0) (hC : CpuAt w p 65 c o i) :
    Calls Tryd.prog 35 #[.pointer (some ⟨p, 0, none⟩), .pointer (some ⟨q, 0, none⟩), .agg #[.int .i64 33, .int .i64 a, .int .i64 b, .int .i64 cc, .int .i64 n]] w (CPost p (setC c a c.epc) o i w) := by
  have HC := Lib.hid (hC.alloc (.cells #[.int .i64 33, .int .i64 a, .int .i64 b, .int .i64 cc, .int .i64 n] 51))
  have B0 := Lib.hid ((But.refl [p] w).alloc (.cells #[.int .i64 33, .int .i64 a, .int .i64 b, .int .i64 cc, .int .i64 n] 51))
  have K0 := Lib.hid (Whole.made w 51 #[.int .i64 33, .int .i64 a, .int .i64 b, .int .i64 cc, .int .i64 n] _ rfl)
  have hpn : w.heap.size ≠ p := Nat.ne_of_gt hC.lt
  have R := Lib.hid (fun w hC => cask_0 p a b cc n c o i w ha hn hC)
  clear hn
  clear hC
  unfold CPost at *
  go_enter Tryd.func35, Tryd.ntmps35
  go_wp2_with fail
  refine (R.out _ HC.out).mono ?_
  rintro e w' ⟨rfl, hc, hb⟩
  go_wp2_with fail
  first | go_end0 | refine bodyPost_ret (results_none rfl _ _ _) rfl ?_
  exact ⟨rfl, hc, B0.out.trans hb⟩

set_option maxHeartbeats 4000000 in
set_option maxRecDepth 100000 in
theorem cexec_33_1 (p q a b cc : Nat) (n : Int) (c : Cp) (o i : Value) (w : World) (ha : a < 16) (hb : b < 16) (hcc : cc < 16) (ua : 0 ≤ (c.r.getD a 0) ∧ (c.r.getD a 0) ≤ 4294967295) (ub : 0 ≤ (c.r.getD b 0) ∧ (c.r.getD b 0) ≤ 4294967295) (uc : 0 ≤ (c.r.getD cc 0) ∧ (c.r.getD cc 0) ≤ 4294967295) (hn : n = 1) (hC : CpuAt w p 65 c o i) :
    Calls Tryd.prog 35 #[.pointer (some ⟨p, 0, none⟩), .pointer (some ⟨q, 0, none⟩), .agg #[.int .i64 33, .int .i64 a, .int .i64 b, .int .i64 cc, .int .i64 n]] w (CPost p (setC c a c.cause) o i w) := by
  have HC := Lib.hid (hC.alloc (.cells #[.int .i64 33, .int .i64 a, .int .i64 b, .int .i64 cc, .int .i64 n] 51))
  have B0 := Lib.hid ((But.refl [p] w).alloc (.cells #[.int .i64 33, .int .i64 a, .int .i64 b, .int .i64 cc, .int .i64 n] 51))
  have K0 := Lib.hid (Whole.made w 51 #[.int .i64 33, .int .i64 a, .int .i64 b, .int .i64 cc, .int .i64 n] _ rfl)
  have hpn : w.heap.size ≠ p := Nat.ne_of_gt hC.lt
  have R := Lib.hid (fun w hC => cask_1 p a b cc n c o i w ha hn hC)
  clear hn
  clear hC
  unfold CPost at *
  go_enter Tryd.func35, Tryd.ntmps35
  go_wp2_with fail
  refine (R.out _ HC.out).mono ?_
  rintro e w' ⟨rfl, hc, hb⟩
  go_wp2_with fail
  first | go_end0 | refine bodyPost_ret (results_none rfl _ _ _) rfl ?_
  exact ⟨rfl, hc, B0.out.trans hb⟩

set_option maxHeartbeats 4000000 in
set_option maxRecDepth 100000 in
theorem cexec_33_2 (p q a b cc : Nat) (n : Int) (c : Cp) (o i : Value) (w : World) (ha : a < 16) (hb : b < 16) (hcc : cc < 16) (ua : 0 ≤ (c.r.getD a 0) ∧ (c.r.getD a 0) ≤ 4294967295) (ub : 0 ≤ (c.r.getD b 0) ∧ (c.r.getD b 0) ≤ 4294967295) (uc : 0 ≤ (c.r.getD cc 0) ∧ (c.r.getD cc 0) ≤ 4294967295) (h0 : (n == 0) = false) (h1 : (n == 1) = false) (hC : CpuAt w p 65 c o i) :
    Calls Tryd.prog 35 #[.pointer (some ⟨p, 0, none⟩), .pointer (some ⟨q, 0, none⟩), .agg #[.int .i64 33, .int .i64 a, .int .i64 b, .int .i64 cc, .int .i64 n]] w (CPost p (faultC c 20) o i w) := by
  have HC := Lib.hid (hC.alloc (.cells #[.int .i64 33, .int .i64 a, .int .i64 b, .int .i64 cc, .int .i64 n] 51))
  have B0 := Lib.hid ((But.refl [p] w).alloc (.cells #[.int .i64 33, .int .i64 a, .int .i64 b, .int .i64 cc, .int .i64 n] 51))
  have K0 := Lib.hid (Whole.made w 51 #[.int .i64 33, .int .i64 a, .int .i64 b, .int .i64 cc, .int .i64 n] _ rfl)
  have hpn : w.heap.size ≠ p := Nat.ne_of_gt hC.lt
  have R := Lib.hid (fun w hC => cask_2 p a b cc n c o i w ha h0 h1 hC)
  clear hC
  unfold CPost at *
  go_enter Tryd.func35, Tryd.ntmps35
  go_wp2_with fail
  refine (R.out _ HC.out).mono ?_
  rintro e w' ⟨rfl, hc, hb⟩
  go_wp2_with fail
  first | go_end0 | refine bodyPost_ret (results_none rfl _ _ _) rfl ?_
  exact ⟨rfl, hc, B0.out.trans hb⟩

set_option maxHeartbeats 4000000 in
set_option maxRecDepth 100000 in
theorem cexec_18 (p q a b cc : Nat) (n : Int) (c : Cp) (o i : Value) (w : World) (ha : a < 16) (hb : b < 16) (hcc : cc < 16) (ua : 0 ≤ (c.r.getD a 0) ∧ (c.r.getD a 0) ≤ 4294967295) (ub : 0 ≤ (c.r.getD b 0) ∧ (c.r.getD b 0) ≤ 4294967295) (uc : 0 ≤ (c.r.getD cc 0) ∧ (c.r.getD cc 0) ≤ 4294967295) (h m : Nat) (e0 e1 e2 e3 e4 : Int) (ws : List Int) (hM : Whole w q 93 (memCells e0 e1 e2 e3 e4 h m)) (hW : Whole w h 22 (words ws)) (hn : ws.length = m) (hl : e4 = 4 * m) (hu : ∀ z ∈ ws, U32 z) (hC : CpuAt w p 65 c o i) :
    Calls Tryd.prog 35 #[.pointer (some ⟨p, 0, none⟩), .pointer (some ⟨q, 0, none⟩), .agg #[.int .i64 18, .int .i64 a, .int .i64 b, .int .i64 cc, .int .i64 n]] w (CPost p (loadC c a b n e4 ws) o i w) := by
  have HC := Lib.hid (hC.alloc (.cells #[.int .i64 18, .int .i64 a, .int .i64 b, .int .i64 cc, .int .i64 n] 51))
  have B0 := Lib.hid ((But.refl [p] w).alloc (.cells #[.int .i64 18, .int .i64 a, .int .i64 b, .int .i64 cc, .int .i64 n] 51))
  have K0 := Lib.hid (Whole.made w 51 #[.int .i64 18, .int .i64 a, .int .i64 b, .int .i64 cc, .int .i64 n] _ rfl)
  have hpn : w.heap.size ≠ p := Nat.ne_of_gt hC.lt
  have HM := Lib.hid (hM.alloc (.cells #[.int .i64 18, .int .i64 a, .int .i64 b, .int .i64 cc, .int .i64 n] 51))
  have HW := Lib.hid (hW.alloc (.cells #[.int .i64 18, .int .i64 a, .int .i64 b, .int .i64 cc, .int .i64 n] 51))
  have R := Lib.hid (fun w hC hM hW => cload_any p q h m a b cc n e0 e1 e2 e3 e4 ws c o i w ha hb hC hM hW hn hl hu)
  clear hM hW
  clear hC
  unfold CPost at *
  go_enter Tryd.func35, Tryd.ntmps35
  go_wp2_with fail
  refine (R.out _ HC.out HM.out HW.out).mono ?_
  rintro e w' ⟨rfl, hc, hb⟩
  go_wp2_with fail
  first | go_end0 | refine bodyPost_ret (results_none rfl _ _ _) rfl ?_
  exact ⟨rfl, hc, B0.out.trans hb⟩

set_option maxHeartbeats 4000000 in
set_option maxRecDepth 100000 in
theorem cexec_19 (p q a b cc : Nat) (n : Int) (c : Cp) (o i : Value) (w : World) (ha : a < 16) (hb : b < 16) (hcc : cc < 16) (ua : 0 ≤ (c.r.getD a 0) ∧ (c.r.getD a 0) ≤ 4294967295) (ub : 0 ≤ (c.r.getD b 0) ∧ (c.r.getD b 0) ≤ 4294967295) (uc : 0 ≤ (c.r.getD cc 0) ∧ (c.r.getD cc 0) ≤ 4294967295) (h m : Nat) (e0 e1 e2 e3 e4 : Int) (ws : List Int) (hM : Whole w q 93 (memCells e0 e1 e2 e3 e4 h m)) (hW : Whole w h 22 (words ws)) (hn : ws.length = m) (hl : e4 = 4 * m) (hu : ∀ z ∈ ws, U32 z) (hv : U32 (c.r.getD a 0)) (hpq : p ≠ q) (hph : p ≠ h) (hqh : q ≠ h) (hC : CpuAt w p 65 c o i) :
    Calls Tryd.prog 35 #[.pointer (some ⟨p, 0, none⟩), .pointer (some ⟨q, 0, none⟩), .agg #[.int .i64 19, .int .i64 a, .int .i64 b, .int .i64 cc, .int .i64 n]] w (SPost p h (storeC c b n e1 e4) o i (storeWs (addrC c b n) e1 e4 (c.r.getD a 0) ws) w) := by
  have HC := Lib.hid (hC.alloc (.cells #[.int .i64 19, .int .i64 a, .int .i64 b, .int .i64 cc, .int .i64 n] 51))
  have B0 := Lib.hid ((But.refl [p, h] w).alloc (.cells #[.int .i64 19, .int .i64 a, .int .i64 b, .int .i64 cc, .int .i64 n] 51))
  have K0 := Lib.hid (Whole.made w 51 #[.int .i64 19, .int .i64 a, .int .i64 b, .int .i64 cc, .int .i64 n] _ rfl)
  have hpn : w.heap.size ≠ p := Nat.ne_of_gt hC.lt
  have HM := Lib.hid (hM.alloc (.cells #[.int .i64 19, .int .i64 a, .int .i64 b, .int .i64 cc, .int .i64 n] 51))
  have HW := Lib.hid (hW.alloc (.cells #[.int .i64 19, .int .i64 a, .int .i64 b, .int .i64 cc, .int .i64 n] 51))
  have R := Lib.hid (fun w hC hM hW => cstore_any p q h m a b cc n e0 e1 e2 e3 e4 ws c o i w ha hb hv hC hM hW hn hl hpq hph hqh)
  clear hM hW
  clear hC
  unfold SPost at *
  go_enter Tryd.func35, Tryd.ntmps35
  go_wp2_with fail
  refine (R.out _ HC.out HM.out HW.out).mono ?_
  rintro e w' ⟨rfl, hc, hx, hb⟩
  go_wp2_with fail
  first | go_end0 | refine bodyPost_ret (results_none rfl _ _ _) rfl ?_
  exact ⟨rfl, hc, hx, B0.out.trans hb⟩

set_option maxHeartbeats 4000000 in
set_option maxRecDepth 100000 in
theorem cexec_31_none (p q a b cc : Nat) (n : Int) (c : Cp) (o i : Value) (w : World) (ha : a < 16) (hb : b < 16) (hcc : cc < 16) (ua : 0 ≤ (c.r.getD a 0) ∧ (c.r.getD a 0) ≤ 4294967295) (ub : 0 ≤ (c.r.getD b 0) ∧ (c.r.getD b 0) ≤ 4294967295) (uc : 0 ≤ (c.r.getD cc 0) ∧ (c.r.getD cc 0) ≤ 4294967295) (m cap k : Nat) (A : Option Addr) (zs : List Int) (h0 : c.taken = (k : Int)) (hi : i = .slice A m cap) (hm : m ≤ 1000000) (hz : Nums .i32 w A m zs) (hu : ∀ z ∈ zs, (Lit.int .i32 z).wf = true) (h1 : m ≤ k) (hC : CpuAt w p 65 c o i) :
    Calls Tryd.prog 35 #[.pointer (some ⟨p, 0, none⟩), .pointer (some ⟨q, 0, none⟩), .agg #[.int .i64 31, .int .i64 a, .int .i64 b, .int .i64 cc, .int .i64 n]] w (CPost p (trapC c 7) o i w) := by
  subst hi
  have HC := Lib.hid (hC.alloc (.cells #[.int .i64 31, .int .i64 a, .int .i64 b, .int .i64 cc, .int .i64 n] 51))
  have B0 := Lib.hid ((But.refl [p] w).alloc (.cells #[.int .i64 31, .int .i64 a, .int .i64 b, .int .i64 cc, .int .i64 n] 51))
  have K0 := Lib.hid (Whole.made w 51 #[.int .i64 31, .int .i64 a, .int .i64 b, .int .i64 cc, .int .i64 n] _ rfl)
  have hpn : w.heap.size ≠ p := Nat.ne_of_gt hC.lt
  have R := Lib.hid (fun w hC => cread_none p a m cap A c o w ha (by omega) (by omega) hC)
  clear hC
  unfold CPost at *
  go_enter Tryd.func35, Tryd.ntmps35
  go_wp2_with fail
  refine (R.out _ HC.out).mono ?_
  rintro e w' ⟨rfl, hc, hb⟩
  go_wp2_with fail
  first | go_end0 | refine bodyPost_ret (results_none rfl _ _ _) rfl ?_
  exact ⟨rfl, hc, B0.out.trans hb⟩

set_option maxHeartbeats 4000000 in
set_option maxRecDepth 100000 in
theorem cexec_31_some (p q a b cc : Nat) (n : Int) (c : Cp) (o i : Value) (w : World) (ha : a < 16) (hb : b < 16) (hcc : cc < 16) (ua : 0 ≤ (c.r.getD a 0) ∧ (c.r.getD a 0) ≤ 4294967295) (ub : 0 ≤ (c.r.getD b 0) ∧ (c.r.getD b 0) ≤ 4294967295) (uc : 0 ≤ (c.r.getD cc 0) ∧ (c.r.getD cc 0) ≤ 4294967295) (m cap k : Nat) (A : Option Addr) (zs : List Int) (h0 : c.taken = (k : Int)) (hi : i = .slice A m cap) (hm : m ≤ 1000000) (hz : Nums .i32 w A m zs) (hu : ∀ z ∈ zs, (Lit.int .i32 z).wf = true) (h1 : k < m) (hC : CpuAt w p 65 c o i) :
    Calls Tryd.prog 35 #[.pointer (some ⟨p, 0, none⟩), .pointer (some ⟨q, 0, none⟩), .agg #[.int .i64 31, .int .i64 a, .int .i64 b, .int .i64 cc, .int .i64 n]] w (CPost p ({ setC c a (w32 (zs.getD k 0)) with taken := c.taken + 1 }) o i w) := by
  subst hi
  have HC := Lib.hid (hC.alloc (.cells #[.int .i64 31, .int .i64 a, .int .i64 b, .int .i64 cc, .int .i64 n] 51))
  have B0 := Lib.hid ((But.refl [p] w).alloc (.cells #[.int .i64 31, .int .i64 a, .int .i64 b, .int .i64 cc, .int .i64 n] 51))
  have K0 := Lib.hid (Whole.made w 51 #[.int .i64 31, .int .i64 a, .int .i64 b, .int .i64 cc, .int .i64 n] _ rfl)
  have hpn : w.heap.size ≠ p := Nat.ne_of_gt hC.lt
  have HZ := Lib.hid (hz.below ((Below.refl _ _).alloc (Nat.le_refl _) (.cells #[.int .i64 31, .int .i64 a, .int .i64 b, .int .i64 cc, .int .i64 n] 51)))
  have R := Lib.hid (fun w hz hC => cread_some p a m cap k A zs c o w ha h0 h1 hm hz hu hC)
  clear hC
  unfold CPost at *
  go_enter Tryd.func35, Tryd.ntmps35
  go_wp2_with fail
  refine (R.out _ HZ.out HC.out).mono ?_
  rintro e w' ⟨rfl, hc, hb⟩
  go_wp2_with fail
  first | go_end0 | refine bodyPost_ret (results_none rfl _ _ _) rfl ?_
  exact ⟨rfl, hc, B0.out.trans hb⟩

end Go.Proofs.YtlmokkopaididaaDoor
