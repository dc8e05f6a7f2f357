/- Package cpu: execute, by operation. -/
import Derived.Test.YtlmokkopaididaaDoorCpuD
import Derived.Test.YtlmokkopaididaaDoorCpuE
import Derived.Test.YtlmokkopaididaaDoorCpuG
namespace Go.Proofs.YtlmokkopaididaaDoor
open Go.ChangeShapes Go.WideShapes Go.ChangeAt Go.RowKit
set_option linter.unusedVariables false

set_option maxHeartbeats 4000000 in
set_option maxRecDepth 100000 in
theorem cexec_9_zero (p q a b cc : Nat) (n : Int) (c : Cp) (o i : Value) (w : World) (ha : a < 16) (hb : b < 16) (hcc : cc < 16) (ua : 0 ≤ (c.r.getD a 0) ∧ (c.r.getD a 0) ≤ 4294967295) (ub : 0 ≤ (c.r.getD b 0) ∧ (c.r.getD b 0) ≤ 4294967295) (uc : 0 ≤ (c.r.getD cc 0) ∧ (c.r.getD cc 0) ≤ 4294967295) (hz : (c.r.getD cc 0) = 0) (hC : CpuAt w p 65 c o i) :
    Calls Tryd.prog 35 #[.pointer (some ⟨p, 0, none⟩), .pointer (some ⟨q, 0, none⟩), .agg #[.int .i64 9, .int .i64 a, .int .i64 b, .int .i64 cc, .int .i64 n]] w (CPost p (trapC c 3) o i w) := by
  have HC := Lib.hid (hC.alloc (.cells #[.int .i64 9, .int .i64 a, .int .i64 b, .int .i64 cc, .int .i64 n] 51))
  have B0 := Lib.hid ((But.refl [p] w).alloc (.cells #[.int .i64 9, .int .i64 a, .int .i64 b, .int .i64 cc, .int .i64 n] 51))
  have K0 := Lib.hid (Whole.made w 51 #[.int .i64 9, .int .i64 a, .int .i64 b, .int .i64 cc, .int .i64 n] _ rfl)
  have hpn : w.heap.size ≠ p := Nat.ne_of_gt hC.lt
  have R := Lib.hid (fun w hC => cdivide_9_zero p a b cc n c o i w ha hb hcc hz hC)
  clear hC
  unfold CPost at *
  go_enter Tryd.func35, Tryd.ntmps35
  go_wp2_with fail
  refine (R.out _ HC.out).mono ?_
  rintro e w' ⟨rfl, hc, hb⟩
  go_wp2_with fail
  first | go_end0 | refine bodyPost_ret (results_none rfl _ _ _) rfl ?_
  exact ⟨rfl, hc, B0.out.trans hb⟩

set_option maxHeartbeats 4000000 in
set_option maxRecDepth 100000 in
theorem cexec_9 (p q a b cc : Nat) (n : Int) (c : Cp) (o i : Value) (w : World) (ha : a < 16) (hb : b < 16) (hcc : cc < 16) (ua : 0 ≤ (c.r.getD a 0) ∧ (c.r.getD a 0) ≤ 4294967295) (ub : 0 ≤ (c.r.getD b 0) ∧ (c.r.getD b 0) ≤ 4294967295) (uc : 0 ≤ (c.r.getD cc 0) ∧ (c.r.getD cc 0) ≤ 4294967295) (hz : (c.r.getD cc 0) ≠ 0) (hC : CpuAt w p 65 c o i) :
    Calls Tryd.prog 35 #[.pointer (some ⟨p, 0, none⟩), .pointer (some ⟨q, 0, none⟩), .agg #[.int .i64 9, .int .i64 a, .int .i64 b, .int .i64 cc, .int .i64 n]] w (CPost p (setC c a (w32 (dv (wrap32 (c.r.getD b 0)) (wrap32 (c.r.getD cc 0))))) o i w) := by
  have HC := Lib.hid (hC.alloc (.cells #[.int .i64 9, .int .i64 a, .int .i64 b, .int .i64 cc, .int .i64 n] 51))
  have B0 := Lib.hid ((But.refl [p] w).alloc (.cells #[.int .i64 9, .int .i64 a, .int .i64 b, .int .i64 cc, .int .i64 n] 51))
  have K0 := Lib.hid (Whole.made w 51 #[.int .i64 9, .int .i64 a, .int .i64 b, .int .i64 cc, .int .i64 n] _ rfl)
  have hpn : w.heap.size ≠ p := Nat.ne_of_gt hC.lt
  have R := Lib.hid (fun w hC => cdivide_9 p a b cc n c o i w ha hb hcc uc hz hC)
  clear hC
  unfold CPost at *
  go_enter Tryd.func35, Tryd.ntmps35
  go_wp2_with fail
  refine (R.out _ HC.out).mono ?_
  rintro e w' ⟨rfl, hc, hb⟩
  go_wp2_with fail
  first | go_end0 | refine bodyPost_ret (results_none rfl _ _ _) rfl ?_
  exact ⟨rfl, hc, B0.out.trans hb⟩

set_option maxHeartbeats 4000000 in
set_option maxRecDepth 100000 in
theorem cexec_10_zero (p q a b cc : Nat) (n : Int) (c : Cp) (o i : Value) (w : World) (ha : a < 16) (hb : b < 16) (hcc : cc < 16) (ua : 0 ≤ (c.r.getD a 0) ∧ (c.r.getD a 0) ≤ 4294967295) (ub : 0 ≤ (c.r.getD b 0) ∧ (c.r.getD b 0) ≤ 4294967295) (uc : 0 ≤ (c.r.getD cc 0) ∧ (c.r.getD cc 0) ≤ 4294967295) (hz : (c.r.getD cc 0) = 0) (hC : CpuAt w p 65 c o i) :
    Calls Tryd.prog 35 #[.pointer (some ⟨p, 0, none⟩), .pointer (some ⟨q, 0, none⟩), .agg #[.int .i64 10, .int .i64 a, .int .i64 b, .int .i64 cc, .int .i64 n]] w (CPost p (trapC c 3) o i w) := by
  have HC := Lib.hid (hC.alloc (.cells #[.int .i64 10, .int .i64 a, .int .i64 b, .int .i64 cc, .int .i64 n] 51))
  have B0 := Lib.hid ((But.refl [p] w).alloc (.cells #[.int .i64 10, .int .i64 a, .int .i64 b, .int .i64 cc, .int .i64 n] 51))
  have K0 := Lib.hid (Whole.made w 51 #[.int .i64 10, .int .i64 a, .int .i64 b, .int .i64 cc, .int .i64 n] _ rfl)
  have hpn : w.heap.size ≠ p := Nat.ne_of_gt hC.lt
  have R := Lib.hid (fun w hC => cdivide_10_zero p a b cc n c o i w ha hb hcc hz hC)
  clear hC
  unfold CPost at *
  go_enter Tryd.func35, Tryd.ntmps35
  go_wp2_with fail
  refine (R.out _ HC.out).mono ?_
  rintro e w' ⟨rfl, hc, hb⟩
  go_wp2_with fail
  first | go_end0 | refine bodyPost_ret (results_none rfl _ _ _) rfl ?_
  exact ⟨rfl, hc, B0.out.trans hb⟩

set_option maxHeartbeats 4000000 in
set_option maxRecDepth 100000 in
theorem cexec_10 (p q a b cc : Nat) (n : Int) (c : Cp) (o i : Value) (w : World) (ha : a < 16) (hb : b < 16) (hcc : cc < 16) (ua : 0 ≤ (c.r.getD a 0) ∧ (c.r.getD a 0) ≤ 4294967295) (ub : 0 ≤ (c.r.getD b 0) ∧ (c.r.getD b 0) ≤ 4294967295) (uc : 0 ≤ (c.r.getD cc 0) ∧ (c.r.getD cc 0) ≤ 4294967295) (hz : (c.r.getD cc 0) ≠ 0) (hC : CpuAt w p 65 c o i) :
    Calls Tryd.prog 35 #[.pointer (some ⟨p, 0, none⟩), .pointer (some ⟨q, 0, none⟩), .agg #[.int .i64 10, .int .i64 a, .int .i64 b, .int .i64 cc, .int .i64 n]] w (CPost p (setC c a (w32 (md (wrap32 (c.r.getD b 0)) (wrap32 (c.r.getD cc 0))))) o i w) := by
  have HC := Lib.hid (hC.alloc (.cells #[.int .i64 10, .int .i64 a, .int .i64 b, .int .i64 cc, .int .i64 n] 51))
  have B0 := Lib.hid ((But.refl [p] w).alloc (.cells #[.int .i64 10, .int .i64 a, .int .i64 b, .int .i64 cc, .int .i64 n] 51))
  have K0 := Lib.hid (Whole.made w 51 #[.int .i64 10, .int .i64 a, .int .i64 b, .int .i64 cc, .int .i64 n] _ rfl)
  have hpn : w.heap.size ≠ p := Nat.ne_of_gt hC.lt
  have R := Lib.hid (fun w hC => cdivide_10 p a b cc n c o i w ha hb hcc uc hz hC)
  clear hC
  unfold CPost at *
  go_enter Tryd.func35, Tryd.ntmps35
  go_wp2_with fail
  refine (R.out _ HC.out).mono ?_
  rintro e w' ⟨rfl, hc, hb⟩
  go_wp2_with fail
  first | go_end0 | refine bodyPost_ret (results_none rfl _ _ _) rfl ?_
  exact ⟨rfl, hc, B0.out.trans hb⟩

set_option maxHeartbeats 4000000 in
set_option maxRecDepth 100000 in
theorem cexec_20_true (p q a b cc : Nat) (n : Int) (c : Cp) (o i : Value) (w : World) (ha : a < 16) (hb : b < 16) (hcc : cc < 16) (ua : 0 ≤ (c.r.getD a 0) ∧ (c.r.getD a 0) ≤ 4294967295) (ub : 0 ≤ (c.r.getD b 0) ∧ (c.r.getD b 0) ≤ 4294967295) (uc : 0 ≤ (c.r.getD cc 0) ∧ (c.r.getD cc 0) ≤ 4294967295) (hd : ((c.r.getD a 0) == 0) = true) (hC : CpuAt w p 65 c o i) :
    Calls Tryd.prog 35 #[.pointer (some ⟨p, 0, none⟩), .pointer (some ⟨q, 0, none⟩), .agg #[.int .i64 20, .int .i64 a, .int .i64 b, .int .i64 cc, .int .i64 n]] w (CPost p (jumpC c n) o i w) := by
  have HC := Lib.hid (hC.alloc (.cells #[.int .i64 20, .int .i64 a, .int .i64 b, .int .i64 cc, .int .i64 n] 51))
  have B0 := Lib.hid ((But.refl [p] w).alloc (.cells #[.int .i64 20, .int .i64 a, .int .i64 b, .int .i64 cc, .int .i64 n] 51))
  have K0 := Lib.hid (Whole.made w 51 #[.int .i64 20, .int .i64 a, .int .i64 b, .int .i64 cc, .int .i64 n] _ rfl)
  have hpn : w.heap.size ≠ p := Nat.ne_of_gt hC.lt
  have R := Lib.hid (fun w hC => cjump_20_true p a b cc n c o i w ha hd hC)
  clear hC
  unfold CPost at *
  go_enter Tryd.func35, Tryd.ntmps35
  go_wp2_with fail
  refine (R.out _ HC.out).mono ?_
  rintro e w' ⟨rfl, hc, hb⟩
  go_wp2_with fail
  first | go_end0 | refine bodyPost_ret (results_none rfl _ _ _) rfl ?_
  exact ⟨rfl, hc, B0.out.trans hb⟩

set_option maxHeartbeats 4000000 in
set_option maxRecDepth 100000 in
theorem cexec_20_false (p q a b cc : Nat) (n : Int) (c : Cp) (o i : Value) (w : World) (ha : a < 16) (hb : b < 16) (hcc : cc < 16) (ua : 0 ≤ (c.r.getD a 0) ∧ (c.r.getD a 0) ≤ 4294967295) (ub : 0 ≤ (c.r.getD b 0) ∧ (c.r.getD b 0) ≤ 4294967295) (uc : 0 ≤ (c.r.getD cc 0) ∧ (c.r.getD cc 0) ≤ 4294967295) (hd : ((c.r.getD a 0) == 0) = false) (hC : CpuAt w p 65 c o i) :
    Calls Tryd.prog 35 #[.pointer (some ⟨p, 0, none⟩), .pointer (some ⟨q, 0, none⟩), .agg #[.int .i64 20, .int .i64 a, .int .i64 b, .int .i64 cc, .int .i64 n]] w (CPost p (passC c) o i w) := by
  have HC := Lib.hid (hC.alloc (.cells #[.int .i64 20, .int .i64 a, .int .i64 b, .int .i64 cc, .int .i64 n] 51))
  have B0 := Lib.hid ((But.refl [p] w).alloc (.cells #[.int .i64 20, .int .i64 a, .int .i64 b, .int .i64 cc, .int .i64 n] 51))
  have K0 := Lib.hid (Whole.made w 51 #[.int .i64 20, .int .i64 a, .int .i64 b, .int .i64 cc, .int .i64 n] _ rfl)
  have hpn : w.heap.size ≠ p := Nat.ne_of_gt hC.lt
  have R := Lib.hid (fun w hC => cjump_20_false p a b cc n c o i w ha hd hC)
  clear hC
  unfold CPost at *
  go_enter Tryd.func35, Tryd.ntmps35
  go_wp2_with fail
  refine (R.out _ HC.out).mono ?_
  rintro e w' ⟨rfl, hc, hb⟩
  go_wp2_with fail
  first | go_end0 | refine bodyPost_ret (results_none rfl _ _ _) rfl ?_
  exact ⟨rfl, hc, B0.out.trans hb⟩

set_option maxHeartbeats 4000000 in
set_option maxRecDepth 100000 in
theorem cexec_21_true (p q a b cc : Nat) (n : Int) (c : Cp) (o i : Value) (w : World) (ha : a < 16) (hb : b < 16) (hcc : cc < 16) (ua : 0 ≤ (c.r.getD a 0) ∧ (c.r.getD a 0) ≤ 4294967295) (ub : 0 ≤ (c.r.getD b 0) ∧ (c.r.getD b 0) ≤ 4294967295) (uc : 0 ≤ (c.r.getD cc 0) ∧ (c.r.getD cc 0) ≤ 4294967295) (hd : ((c.r.getD a 0) != 0) = true) (hC : CpuAt w p 65 c o i) :
    Calls Tryd.prog 35 #[.pointer (some ⟨p, 0, none⟩), .pointer (some ⟨q, 0, none⟩), .agg #[.int .i64 21, .int .i64 a, .int .i64 b, .int .i64 cc, .int .i64 n]] w (CPost p (jumpC c n) o i w) := by
  have HC := Lib.hid (hC.alloc (.cells #[.int .i64 21, .int .i64 a, .int .i64 b, .int .i64 cc, .int .i64 n] 51))
  have B0 := Lib.hid ((But.refl [p] w).alloc (.cells #[.int .i64 21, .int .i64 a, .int .i64 b, .int .i64 cc, .int .i64 n] 51))
  have K0 := Lib.hid (Whole.made w 51 #[.int .i64 21, .int .i64 a, .int .i64 b, .int .i64 cc, .int .i64 n] _ rfl)
  have hpn : w.heap.size ≠ p := Nat.ne_of_gt hC.lt
  have R := Lib.hid (fun w hC => cjump_21_true p a b cc n c o i w ha hd hC)
  clear hC
  unfold CPost at *
  go_enter Tryd.func35, Tryd.ntmps35
  go_wp2_with fail
  refine (R.out _ HC.out).mono ?_
  rintro e w' ⟨rfl, hc, hb⟩
  go_wp2_with fail
  first | go_end0 | refine bodyPost_ret (results_none rfl _ _ _) rfl ?_
  exact ⟨rfl, hc, B0.out.trans hb⟩

set_option maxHeartbeats 4000000 in
set_option maxRecDepth 100000 in
theorem cexec_21_false (p q a b cc : Nat) (n : Int) (c : Cp) (o i : Value) (w : World) (ha : a < 16) (hb : b < 16) (hcc : cc < 16) (ua : 0 ≤ (c.r.getD a 0) ∧ (c.r.getD a 0) ≤ 4294967295) (ub : 0 ≤ (c.r.getD b 0) ∧ (c.r.getD b 0) ≤ 4294967295) (uc : 0 ≤ (c.r.getD cc 0) ∧ (c.r.getD cc 0) ≤ 4294967295) (hd : ((c.r.getD a 0) != 0) = false) (hC : CpuAt w p 65 c o i) :
    Calls Tryd.prog 35 #[.pointer (some ⟨p, 0, none⟩), .pointer (some ⟨q, 0, none⟩), .agg #[.int .i64 21, .int .i64 a, .int .i64 b, .int .i64 cc, .int .i64 n]] w (CPost p (passC c) o i w) := by
  have HC := Lib.hid (hC.alloc (.cells #[.int .i64 21, .int .i64 a, .int .i64 b, .int .i64 cc, .int .i64 n] 51))
  have B0 := Lib.hid ((But.refl [p] w).alloc (.cells #[.int .i64 21, .int .i64 a, .int .i64 b, .int .i64 cc, .int .i64 n] 51))
  have K0 := Lib.hid (Whole.made w 51 #[.int .i64 21, .int .i64 a, .int .i64 b, .int .i64 cc, .int .i64 n] _ rfl)
  have hpn : w.heap.size ≠ p := Nat.ne_of_gt hC.lt
  have R := Lib.hid (fun w hC => cjump_21_false p a b cc n c o i w ha hd hC)
  clear hC
  unfold CPost at *
  go_enter Tryd.func35, Tryd.ntmps35
  go_wp2_with fail
  refine (R.out _ HC.out).mono ?_
  rintro e w' ⟨rfl, hc, hb⟩
  go_wp2_with fail
  first | go_end0 | refine bodyPost_ret (results_none rfl _ _ _) rfl ?_
  exact ⟨rfl, hc, B0.out.trans hb⟩

set_option maxHeartbeats 4000000 in
set_option maxRecDepth 100000 in
theorem cexec_22 (p q a b cc : Nat) (n : Int) (c : Cp) (o i : Value) (w : World) (ha : a < 16) (hb : b < 16) (hcc : cc < 16) (ua : 0 ≤ (c.r.getD a 0) ∧ (c.r.getD a 0) ≤ 4294967295) (ub : 0 ≤ (c.r.getD b 0) ∧ (c.r.getD b 0) ≤ 4294967295) (uc : 0 ≤ (c.r.getD cc 0) ∧ (c.r.getD cc 0) ≤ 4294967295)  (hC : CpuAt w p 65 c o i) :
    Calls Tryd.prog 35 #[.pointer (some ⟨p, 0, none⟩), .pointer (some ⟨q, 0, none⟩), .agg #[.int .i64 22, .int .i64 a, .int .i64 b, .int .i64 cc, .int .i64 n]] w (CPost p (jumpC c n) o i w) := by
  have HC := Lib.hid (hC.alloc (.cells #[.int .i64 22, .int .i64 a, .int .i64 b, .int .i64 cc, .int .i64 n] 51))
  have B0 := Lib.hid ((But.refl [p] w).alloc (.cells #[.int .i64 22, .int .i64 a, .int .i64 b, .int .i64 cc, .int .i64 n] 51))
  have K0 := Lib.hid (Whole.made w 51 #[.int .i64 22, .int .i64 a, .int .i64 b, .int .i64 cc, .int .i64 n] _ rfl)
  have hpn : w.heap.size ≠ p := Nat.ne_of_gt hC.lt
  have R := Lib.hid (fun w hC => cjump_22 p a b cc n c o i w ha hC)
  clear hC
  unfold CPost at *
  go_enter Tryd.func35, Tryd.ntmps35
  go_wp2_with fail
  refine (R.out _ HC.out).mono ?_
  rintro e w' ⟨rfl, hc, hb⟩
  go_wp2_with fail
  first | go_end0 | refine bodyPost_ret (results_none rfl _ _ _) rfl ?_
  exact ⟨rfl, hc, B0.out.trans hb⟩

set_option maxHeartbeats 4000000 in
set_option maxRecDepth 100000 in
theorem cexec_23 (p q a b cc : Nat) (n : Int) (c : Cp) (o i : Value) (w : World) (ha : a < 16) (hb : b < 16) (hcc : cc < 16) (ua : 0 ≤ (c.r.getD a 0) ∧ (c.r.getD a 0) ≤ 4294967295) (ub : 0 ≤ (c.r.getD b 0) ∧ (c.r.getD b 0) ≤ 4294967295) (uc : 0 ≤ (c.r.getD cc 0) ∧ (c.r.getD cc 0) ≤ 4294967295)  (hC : CpuAt w p 65 c o i) :
    Calls Tryd.prog 35 #[.pointer (some ⟨p, 0, none⟩), .pointer (some ⟨q, 0, none⟩), .agg #[.int .i64 23, .int .i64 a, .int .i64 b, .int .i64 cc, .int .i64 n]] w (CPost p (jumpC { c with r := c.r.set 14 (w32 (c.pc + 4)) } n) o i w) := by
  have HC := Lib.hid (hC.alloc (.cells #[.int .i64 23, .int .i64 a, .int .i64 b, .int .i64 cc, .int .i64 n] 51))
  have B0 := Lib.hid ((But.refl [p] w).alloc (.cells #[.int .i64 23, .int .i64 a, .int .i64 b, .int .i64 cc, .int .i64 n] 51))
  have K0 := Lib.hid (Whole.made w 51 #[.int .i64 23, .int .i64 a, .int .i64 b, .int .i64 cc, .int .i64 n] _ rfl)
  have hpn : w.heap.size ≠ p := Nat.ne_of_gt hC.lt
  have R := Lib.hid (fun w hC => cjump_23 p a b cc n c o i w ha hC)
  clear hC
  unfold CPost at *
  go_enter Tryd.func35, Tryd.ntmps35
  go_wp2_with fail
  refine (R.out _ HC.out).mono ?_
  rintro e w' ⟨rfl, hc, hb⟩
  go_wp2_with fail
  first | go_end0 | refine bodyPost_ret (results_none rfl _ _ _) rfl ?_
  exact ⟨rfl, hc, B0.out.trans hb⟩

set_option maxHeartbeats 4000000 in
set_option maxRecDepth 100000 in
theorem cexec_24 (p q a b cc : Nat) (n : Int) (c : Cp) (o i : Value) (w : World) (ha : a < 16) (hb : b < 16) (hcc : cc < 16) (ua : 0 ≤ (c.r.getD a 0) ∧ (c.r.getD a 0) ≤ 4294967295) (ub : 0 ≤ (c.r.getD b 0) ∧ (c.r.getD b 0) ≤ 4294967295) (uc : 0 ≤ (c.r.getD cc 0) ∧ (c.r.getD cc 0) ≤ 4294967295)  (hC : CpuAt w p 65 c o i) :
    Calls Tryd.prog 35 #[.pointer (some ⟨p, 0, none⟩), .pointer (some ⟨q, 0, none⟩), .agg #[.int .i64 24, .int .i64 a, .int .i64 b, .int .i64 cc, .int .i64 n]] w (CPost p ({ c with pc := (c.r.getD a 0) }) o i w) := by
  have HC := Lib.hid (hC.alloc (.cells #[.int .i64 24, .int .i64 a, .int .i64 b, .int .i64 cc, .int .i64 n] 51))
  have B0 := Lib.hid ((But.refl [p] w).alloc (.cells #[.int .i64 24, .int .i64 a, .int .i64 b, .int .i64 cc, .int .i64 n] 51))
  have K0 := Lib.hid (Whole.made w 51 #[.int .i64 24, .int .i64 a, .int .i64 b, .int .i64 cc, .int .i64 n] _ rfl)
  have hpn : w.heap.size ≠ p := Nat.ne_of_gt hC.lt
  have R := Lib.hid (fun w hC => cjump_24 p a b cc n c o i w ha hC)
  clear hC
  unfold CPost at *
  go_enter Tryd.func35, Tryd.ntmps35
  go_wp2_with fail
  refine (R.out _ HC.out).mono ?_
  rintro e w' ⟨rfl, hc, hb⟩
  go_wp2_with fail
  first | go_end0 | refine bodyPost_ret (results_none rfl _ _ _) rfl ?_
  exact ⟨rfl, hc, B0.out.trans hb⟩

set_option maxHeartbeats 4000000 in
set_option maxRecDepth 100000 in
theorem cexec_25 (p q a b cc : Nat) (n : Int) (c : Cp) (o i : Value) (w : World) (ha : a < 16) (hb : b < 16) (hcc : cc < 16) (ua : 0 ≤ (c.r.getD a 0) ∧ (c.r.getD a 0) ≤ 4294967295) (ub : 0 ≤ (c.r.getD b 0) ∧ (c.r.getD b 0) ≤ 4294967295) (uc : 0 ≤ (c.r.getD cc 0) ∧ (c.r.getD cc 0) ≤ 4294967295)  (hC : CpuAt w p 65 c o i) :
    Calls Tryd.prog 35 #[.pointer (some ⟨p, 0, none⟩), .pointer (some ⟨q, 0, none⟩), .agg #[.int .i64 25, .int .i64 a, .int .i64 b, .int .i64 cc, .int .i64 n]] w (CPost p ({ c with r := c.r.set 14 (w32 (c.pc + 4)), pc := (c.r.getD a 0) }) o i w) := by
  have HC := Lib.hid (hC.alloc (.cells #[.int .i64 25, .int .i64 a, .int .i64 b, .int .i64 cc, .int .i64 n] 51))
  have B0 := Lib.hid ((But.refl [p] w).alloc (.cells #[.int .i64 25, .int .i64 a, .int .i64 b, .int .i64 cc, .int .i64 n] 51))
  have K0 := Lib.hid (Whole.made w 51 #[.int .i64 25, .int .i64 a, .int .i64 b, .int .i64 cc, .int .i64 n] _ rfl)
  have hpn : w.heap.size ≠ p := Nat.ne_of_gt hC.lt
  have R := Lib.hid (fun w hC => cjump_25 p a b cc n c o i w ha hC)
  clear hC
  unfold CPost at *
  go_enter Tryd.func35, Tryd.ntmps35
  go_wp2_with fail
  refine (R.out _ HC.out).mono ?_
  rintro e w' ⟨rfl, hc, hb⟩
  go_wp2_with fail
  first | go_end0 | refine bodyPost_ret (results_none rfl _ _ _) rfl ?_
  exact ⟨rfl, hc, B0.out.trans hb⟩

end Go.Proofs.YtlmokkopaididaaDoor
