/- Package cpu: execute, by operation. -/
import Derived.Test.YtlmokkopaididaaDoorCpuD
import Derived.Test.YtlmokkopaididaaDoorCpuE
import Derived.Test.YtlmokkopaididaaDoorCpuG
namespace Go.Proofs.YtlmokkopaididaaDoor
open Go.ChangeShapes Go.WideShapes Go.ChangeAt Go.RowKit
set_option linter.unusedVariables false

set_option maxHeartbeats 4000000 in
set_option maxRecDepth 100000 in
theorem cexec_1 (p q a b cc : Nat) (n : Int) (c : Cp) (o i : Value) (w : World) (ha : a < 16) (hb : b < 16) (hcc : cc < 16) (ua : 0 ≤ (c.r.getD a 0) ∧ (c.r.getD a 0) ≤ 4294967295) (ub : 0 ≤ (c.r.getD b 0) ∧ (c.r.getD b 0) ≤ 4294967295) (uc : 0 ≤ (c.r.getD cc 0) ∧ (c.r.getD cc 0) ≤ 4294967295)  (hC : CpuAt w p 65 c o i) :
    Calls Tryd.prog 35 #[.pointer (some ⟨p, 0, none⟩), .pointer (some ⟨q, 0, none⟩), .agg #[.int .i64 1, .int .i64 a, .int .i64 b, .int .i64 cc, .int .i64 n]] w (CPost p ({ c with st := 1 }) o i w) := by
  have HC := Lib.hid (hC.alloc (.cells #[.int .i64 1, .int .i64 a, .int .i64 b, .int .i64 cc, .int .i64 n] 51))
  have B0 := Lib.hid ((But.refl [p] w).alloc (.cells #[.int .i64 1, .int .i64 a, .int .i64 b, .int .i64 cc, .int .i64 n] 51))
  have K0 := Lib.hid (Whole.made w 51 #[.int .i64 1, .int .i64 a, .int .i64 b, .int .i64 cc, .int .i64 n] _ rfl)
  have hpn : w.heap.size ≠ p := Nat.ne_of_gt hC.lt
  have q19 := HC.out.st
  have hf := HC.out.free
  clear hC
  unfold CPost at *
  go_enter Tryd.func35, Tryd.ntmps35
  go_wp2_with fail
  first | go_end0 | refine bodyPost_ret (results_none rfl _ _ _) rfl ?_
  exact ⟨rfl, HC.out.set_st 1, B0.out.setCell _ _ (by simp)⟩

set_option maxHeartbeats 4000000 in
set_option maxRecDepth 100000 in
theorem cexec_2 (p q a b cc : Nat) (n : Int) (c : Cp) (o i : Value) (w : World) (ha : a < 16) (hb : b < 16) (hcc : cc < 16) (ua : 0 ≤ (c.r.getD a 0) ∧ (c.r.getD a 0) ≤ 4294967295) (ub : 0 ≤ (c.r.getD b 0) ∧ (c.r.getD b 0) ≤ 4294967295) (uc : 0 ≤ (c.r.getD cc 0) ∧ (c.r.getD cc 0) ≤ 4294967295)  (hC : CpuAt w p 65 c o i) :
    Calls Tryd.prog 35 #[.pointer (some ⟨p, 0, none⟩), .pointer (some ⟨q, 0, none⟩), .agg #[.int .i64 2, .int .i64 a, .int .i64 b, .int .i64 cc, .int .i64 n]] w (CPost p (setC c a (w32 n)) o i w) := by
  have HC := Lib.hid (hC.alloc (.cells #[.int .i64 2, .int .i64 a, .int .i64 b, .int .i64 cc, .int .i64 n] 51))
  have B0 := Lib.hid ((But.refl [p] w).alloc (.cells #[.int .i64 2, .int .i64 a, .int .i64 b, .int .i64 cc, .int .i64 n] 51))
  have K0 := Lib.hid (Whole.made w 51 #[.int .i64 2, .int .i64 a, .int .i64 b, .int .i64 cc, .int .i64 n] _ rfl)
  have hpn : w.heap.size ≠ p := Nat.ne_of_gt hC.lt
  have S := Lib.hid (fun v w hC => cset_any p a c o i v w ha hC)
  clear hC
  unfold CPost at *
  go_enter Tryd.func35, Tryd.ntmps35
  go_wp2_with fail
  refine (S.out _ _ HC.out).mono ?_
  rintro e w' ⟨rfl, hc, hb⟩
  go_wp2_with fail
  first | go_end0 | refine bodyPost_ret (results_none rfl _ _ _) rfl ?_
  exact ⟨rfl, hc, B0.out.trans hb⟩

set_option maxHeartbeats 4000000 in
set_option maxRecDepth 100000 in
theorem cexec_3 (p q a b cc : Nat) (n : Int) (c : Cp) (o i : Value) (w : World) (ha : a < 16) (hb : b < 16) (hcc : cc < 16) (ua : 0 ≤ (c.r.getD a 0) ∧ (c.r.getD a 0) ≤ 4294967295) (ub : 0 ≤ (c.r.getD b 0) ∧ (c.r.getD b 0) ≤ 4294967295) (uc : 0 ≤ (c.r.getD cc 0) ∧ (c.r.getD cc 0) ≤ 4294967295)  (hC : CpuAt w p 65 c o i) :
    Calls Tryd.prog 35 #[.pointer (some ⟨p, 0, none⟩), .pointer (some ⟨q, 0, none⟩), .agg #[.int .i64 3, .int .i64 a, .int .i64 b, .int .i64 cc, .int .i64 n]] w (CPost p (setC c a (w32 (w32 n * 65536))) o i w) := by
  have HC := Lib.hid (hC.alloc (.cells #[.int .i64 3, .int .i64 a, .int .i64 b, .int .i64 cc, .int .i64 n] 51))
  have B0 := Lib.hid ((But.refl [p] w).alloc (.cells #[.int .i64 3, .int .i64 a, .int .i64 b, .int .i64 cc, .int .i64 n] 51))
  have K0 := Lib.hid (Whole.made w 51 #[.int .i64 3, .int .i64 a, .int .i64 b, .int .i64 cc, .int .i64 n] _ rfl)
  have hpn : w.heap.size ≠ p := Nat.ne_of_gt hC.lt
  have S := Lib.hid (fun v w hC => cset_any p a c o i v w ha hC)
  clear hC
  unfold CPost at *
  go_enter Tryd.func35, Tryd.ntmps35
  go_wp2_with fail
  refine (S.out _ _ HC.out).mono ?_
  rintro e w' ⟨rfl, hc, hb⟩
  go_wp2_with fail
  first | go_end0 | refine bodyPost_ret (results_none rfl _ _ _) rfl ?_
  exact ⟨rfl, hc, B0.out.trans hb⟩

set_option maxHeartbeats 4000000 in
set_option maxRecDepth 100000 in
theorem cexec_4 (p q a b cc : Nat) (n : Int) (c : Cp) (o i : Value) (w : World) (ha : a < 16) (hb : b < 16) (hcc : cc < 16) (ua : 0 ≤ (c.r.getD a 0) ∧ (c.r.getD a 0) ≤ 4294967295) (ub : 0 ≤ (c.r.getD b 0) ∧ (c.r.getD b 0) ≤ 4294967295) (uc : 0 ≤ (c.r.getD cc 0) ∧ (c.r.getD cc 0) ≤ 4294967295)  (hC : CpuAt w p 65 c o i) :
    Calls Tryd.prog 35 #[.pointer (some ⟨p, 0, none⟩), .pointer (some ⟨q, 0, none⟩), .agg #[.int .i64 4, .int .i64 a, .int .i64 b, .int .i64 cc, .int .i64 n]] w (CPost p (setC c a (alu 4 (c.r.getD b 0) (w32 n))) o i w) := by
  have HC := Lib.hid (hC.alloc (.cells #[.int .i64 4, .int .i64 a, .int .i64 b, .int .i64 cc, .int .i64 n] 51))
  have B0 := Lib.hid ((But.refl [p] w).alloc (.cells #[.int .i64 4, .int .i64 a, .int .i64 b, .int .i64 cc, .int .i64 n] 51))
  have K0 := Lib.hid (Whole.made w 51 #[.int .i64 4, .int .i64 a, .int .i64 b, .int .i64 cc, .int .i64 n] _ rfl)
  have hpn : w.heap.size ≠ p := Nat.ne_of_gt hC.lt
  have S := Lib.hid (fun v w hC => cset_any p a c o i v w ha hC)
  have CM := Lib.hid (fun w => computed_4 (c.r.getD b 0) (w32 n) w ub (by unfold w32; omega))
  clear hC
  unfold CPost at *
  go_enter Tryd.func35, Tryd.ntmps35
  go_wp2_with fail
  generalize w.alloc (.cells #[.int .i64 4, .int .i64 a, .int .i64 b, .int .i64 cc, .int .i64 n] 51) = V at *
  have k0 : V.cell? ⟨w.heap.size, 0, none⟩ = some (.int .i64 4) := K0.out.cell 0
  have k1 : V.cell? ⟨w.heap.size, 1, none⟩ = some (.int .i64 a) := K0.out.cell 1
  have k2 : V.cell? ⟨w.heap.size, 2, none⟩ = some (.int .i64 b) := K0.out.cell 2
  have k3 : V.cell? ⟨w.heap.size, 3, none⟩ = some (.int .i64 cc) := K0.out.cell 3
  have k4 : V.cell? ⟨w.heap.size, 4, none⟩ = some (.int .i64 n) := K0.out.cell 4
  have qb := HC.out.reg hb
  have qc := HC.out.reg hcc
  have hbI : (b : Int) < 16 := by omega
  have hcI : (cc : Int) < 16 := by omega
  refine still_tail 16 (by kernel_rfl) (by kernel_rfl) ?_
  simp only [List.take_succ_cons, List.take_zero, List.drop_succ_cons, List.drop_zero]
  repeat still_step
  still_call ((CM.out _).mono (fun _ _ h => ⟨h.1, h.2.symm⟩))
  refine wpStill_nil ?_
  have HD := Lib.hid HC.out.drew
  have BD := Lib.hid B0.out.drew
  clear HC B0 qb qc k0 k1 k2 k3 k4 K0
  generalize V.drew = W at *
  go_wp2_with fail
  refine (S.out _ _ HD.out).mono ?_
  rintro e w' ⟨rfl, hc, hb⟩
  go_wp2_with fail
  first | go_end0 | refine bodyPost_ret (results_none rfl _ _ _) rfl ?_
  exact ⟨rfl, hc, BD.out.trans hb⟩

set_option maxHeartbeats 4000000 in
set_option maxRecDepth 100000 in
theorem cexec_5 (p q a b cc : Nat) (n : Int) (c : Cp) (o i : Value) (w : World) (ha : a < 16) (hb : b < 16) (hcc : cc < 16) (ua : 0 ≤ (c.r.getD a 0) ∧ (c.r.getD a 0) ≤ 4294967295) (ub : 0 ≤ (c.r.getD b 0) ∧ (c.r.getD b 0) ≤ 4294967295) (uc : 0 ≤ (c.r.getD cc 0) ∧ (c.r.getD cc 0) ≤ 4294967295)  (hC : CpuAt w p 65 c o i) :
    Calls Tryd.prog 35 #[.pointer (some ⟨p, 0, none⟩), .pointer (some ⟨q, 0, none⟩), .agg #[.int .i64 5, .int .i64 a, .int .i64 b, .int .i64 cc, .int .i64 n]] w (CPost p (setC c a (alu 5 (c.r.getD b 0) (w32 n))) o i w) := by
  have HC := Lib.hid (hC.alloc (.cells #[.int .i64 5, .int .i64 a, .int .i64 b, .int .i64 cc, .int .i64 n] 51))
  have B0 := Lib.hid ((But.refl [p] w).alloc (.cells #[.int .i64 5, .int .i64 a, .int .i64 b, .int .i64 cc, .int .i64 n] 51))
  have K0 := Lib.hid (Whole.made w 51 #[.int .i64 5, .int .i64 a, .int .i64 b, .int .i64 cc, .int .i64 n] _ rfl)
  have hpn : w.heap.size ≠ p := Nat.ne_of_gt hC.lt
  have S := Lib.hid (fun v w hC => cset_any p a c o i v w ha hC)
  have CM := Lib.hid (fun w => computed_5 (c.r.getD b 0) (w32 n) w ub (by unfold w32; omega))
  clear hC
  unfold CPost at *
  go_enter Tryd.func35, Tryd.ntmps35
  go_wp2_with fail
  generalize w.alloc (.cells #[.int .i64 5, .int .i64 a, .int .i64 b, .int .i64 cc, .int .i64 n] 51) = V at *
  have k0 : V.cell? ⟨w.heap.size, 0, none⟩ = some (.int .i64 5) := K0.out.cell 0
  have k1 : V.cell? ⟨w.heap.size, 1, none⟩ = some (.int .i64 a) := K0.out.cell 1
  have k2 : V.cell? ⟨w.heap.size, 2, none⟩ = some (.int .i64 b) := K0.out.cell 2
  have k3 : V.cell? ⟨w.heap.size, 3, none⟩ = some (.int .i64 cc) := K0.out.cell 3
  have k4 : V.cell? ⟨w.heap.size, 4, none⟩ = some (.int .i64 n) := K0.out.cell 4
  have qb := HC.out.reg hb
  have qc := HC.out.reg hcc
  have hbI : (b : Int) < 16 := by omega
  have hcI : (cc : Int) < 16 := by omega
  refine still_tail 16 (by kernel_rfl) (by kernel_rfl) ?_
  simp only [List.take_succ_cons, List.take_zero, List.drop_succ_cons, List.drop_zero]
  repeat still_step
  still_call ((CM.out _).mono (fun _ _ h => ⟨h.1, h.2.symm⟩))
  refine wpStill_nil ?_
  have HD := Lib.hid HC.out.drew
  have BD := Lib.hid B0.out.drew
  clear HC B0 qb qc k0 k1 k2 k3 k4 K0
  generalize V.drew = W at *
  go_wp2_with fail
  refine (S.out _ _ HD.out).mono ?_
  rintro e w' ⟨rfl, hc, hb⟩
  go_wp2_with fail
  first | go_end0 | refine bodyPost_ret (results_none rfl _ _ _) rfl ?_
  exact ⟨rfl, hc, BD.out.trans hb⟩

set_option maxHeartbeats 4000000 in
set_option maxRecDepth 100000 in
theorem cexec_34 (p q a b cc : Nat) (n : Int) (c : Cp) (o i : Value) (w : World) (ha : a < 16) (hb : b < 16) (hcc : cc < 16) (ua : 0 ≤ (c.r.getD a 0) ∧ (c.r.getD a 0) ≤ 4294967295) (ub : 0 ≤ (c.r.getD b 0) ∧ (c.r.getD b 0) ≤ 4294967295) (uc : 0 ≤ (c.r.getD cc 0) ∧ (c.r.getD cc 0) ≤ 4294967295)  (hC : CpuAt w p 65 c o i) :
    Calls Tryd.prog 35 #[.pointer (some ⟨p, 0, none⟩), .pointer (some ⟨q, 0, none⟩), .agg #[.int .i64 34, .int .i64 a, .int .i64 b, .int .i64 cc, .int .i64 n]] w (CPost p (setC c a (alu 34 (c.r.getD b 0) (w32 n))) o i w) := by
  have HC := Lib.hid (hC.alloc (.cells #[.int .i64 34, .int .i64 a, .int .i64 b, .int .i64 cc, .int .i64 n] 51))
  have B0 := Lib.hid ((But.refl [p] w).alloc (.cells #[.int .i64 34, .int .i64 a, .int .i64 b, .int .i64 cc, .int .i64 n] 51))
  have K0 := Lib.hid (Whole.made w 51 #[.int .i64 34, .int .i64 a, .int .i64 b, .int .i64 cc, .int .i64 n] _ rfl)
  have hpn : w.heap.size ≠ p := Nat.ne_of_gt hC.lt
  have S := Lib.hid (fun v w hC => cset_any p a c o i v w ha hC)
  have CM := Lib.hid (fun w => computed_34 (c.r.getD b 0) (w32 n) w ub (by unfold w32; omega))
  clear hC
  unfold CPost at *
  go_enter Tryd.func35, Tryd.ntmps35
  go_wp2_with fail
  generalize w.alloc (.cells #[.int .i64 34, .int .i64 a, .int .i64 b, .int .i64 cc, .int .i64 n] 51) = V at *
  have k0 : V.cell? ⟨w.heap.size, 0, none⟩ = some (.int .i64 34) := K0.out.cell 0
  have k1 : V.cell? ⟨w.heap.size, 1, none⟩ = some (.int .i64 a) := K0.out.cell 1
  have k2 : V.cell? ⟨w.heap.size, 2, none⟩ = some (.int .i64 b) := K0.out.cell 2
  have k3 : V.cell? ⟨w.heap.size, 3, none⟩ = some (.int .i64 cc) := K0.out.cell 3
  have k4 : V.cell? ⟨w.heap.size, 4, none⟩ = some (.int .i64 n) := K0.out.cell 4
  have qb := HC.out.reg hb
  have qc := HC.out.reg hcc
  have hbI : (b : Int) < 16 := by omega
  have hcI : (cc : Int) < 16 := by omega
  refine still_tail 16 (by kernel_rfl) (by kernel_rfl) ?_
  simp only [List.take_succ_cons, List.take_zero, List.drop_succ_cons, List.drop_zero]
  repeat still_step
  still_call ((CM.out _).mono (fun _ _ h => ⟨h.1, h.2.symm⟩))
  refine wpStill_nil ?_
  have HD := Lib.hid HC.out.drew
  have BD := Lib.hid B0.out.drew
  clear HC B0 qb qc k0 k1 k2 k3 k4 K0
  generalize V.drew = W at *
  go_wp2_with fail
  refine (S.out _ _ HD.out).mono ?_
  rintro e w' ⟨rfl, hc, hb⟩
  go_wp2_with fail
  first | go_end0 | refine bodyPost_ret (results_none rfl _ _ _) rfl ?_
  exact ⟨rfl, hc, BD.out.trans hb⟩

set_option maxHeartbeats 4000000 in
set_option maxRecDepth 100000 in
theorem cexec_6 (p q a b cc : Nat) (n : Int) (c : Cp) (o i : Value) (w : World) (ha : a < 16) (hb : b < 16) (hcc : cc < 16) (ua : 0 ≤ (c.r.getD a 0) ∧ (c.r.getD a 0) ≤ 4294967295) (ub : 0 ≤ (c.r.getD b 0) ∧ (c.r.getD b 0) ≤ 4294967295) (uc : 0 ≤ (c.r.getD cc 0) ∧ (c.r.getD cc 0) ≤ 4294967295)  (hC : CpuAt w p 65 c o i) :
    Calls Tryd.prog 35 #[.pointer (some ⟨p, 0, none⟩), .pointer (some ⟨q, 0, none⟩), .agg #[.int .i64 6, .int .i64 a, .int .i64 b, .int .i64 cc, .int .i64 n]] w (CPost p (setC c a (alu 6 (c.r.getD b 0) (c.r.getD cc 0))) o i w) := by
  have HC := Lib.hid (hC.alloc (.cells #[.int .i64 6, .int .i64 a, .int .i64 b, .int .i64 cc, .int .i64 n] 51))
  have B0 := Lib.hid ((But.refl [p] w).alloc (.cells #[.int .i64 6, .int .i64 a, .int .i64 b, .int .i64 cc, .int .i64 n] 51))
  have K0 := Lib.hid (Whole.made w 51 #[.int .i64 6, .int .i64 a, .int .i64 b, .int .i64 cc, .int .i64 n] _ rfl)
  have hpn : w.heap.size ≠ p := Nat.ne_of_gt hC.lt
  have S := Lib.hid (fun v w hC => cset_any p a c o i v w ha hC)
  have CM := Lib.hid (fun w => computed_6 (c.r.getD b 0) (c.r.getD cc 0) w ub uc)
  clear hC
  unfold CPost at *
  go_enter Tryd.func35, Tryd.ntmps35
  go_wp2_with fail
  generalize w.alloc (.cells #[.int .i64 6, .int .i64 a, .int .i64 b, .int .i64 cc, .int .i64 n] 51) = V at *
  have k0 : V.cell? ⟨w.heap.size, 0, none⟩ = some (.int .i64 6) := K0.out.cell 0
  have k1 : V.cell? ⟨w.heap.size, 1, none⟩ = some (.int .i64 a) := K0.out.cell 1
  have k2 : V.cell? ⟨w.heap.size, 2, none⟩ = some (.int .i64 b) := K0.out.cell 2
  have k3 : V.cell? ⟨w.heap.size, 3, none⟩ = some (.int .i64 cc) := K0.out.cell 3
  have k4 : V.cell? ⟨w.heap.size, 4, none⟩ = some (.int .i64 n) := K0.out.cell 4
  have qb := HC.out.reg hb
  have qc := HC.out.reg hcc
  have hbI : (b : Int) < 16 := by omega
  have hcI : (cc : Int) < 16 := by omega
  refine still_tail 20 (by kernel_rfl) (by kernel_rfl) ?_
  simp only [List.take_succ_cons, List.take_zero, List.drop_succ_cons, List.drop_zero]
  repeat still_step
  still_call ((CM.out _).mono (fun _ _ h => ⟨h.1, h.2.symm⟩))
  refine wpStill_nil ?_
  have HD := Lib.hid HC.out.drew
  have BD := Lib.hid B0.out.drew
  clear HC B0 qb qc k0 k1 k2 k3 k4 K0
  generalize V.drew = W at *
  go_wp2_with fail
  refine (S.out _ _ HD.out).mono ?_
  rintro e w' ⟨rfl, hc, hb⟩
  go_wp2_with fail
  first | go_end0 | refine bodyPost_ret (results_none rfl _ _ _) rfl ?_
  exact ⟨rfl, hc, BD.out.trans hb⟩

set_option maxHeartbeats 4000000 in
set_option maxRecDepth 100000 in
theorem cexec_7 (p q a b cc : Nat) (n : Int) (c : Cp) (o i : Value) (w : World) (ha : a < 16) (hb : b < 16) (hcc : cc < 16) (ua : 0 ≤ (c.r.getD a 0) ∧ (c.r.getD a 0) ≤ 4294967295) (ub : 0 ≤ (c.r.getD b 0) ∧ (c.r.getD b 0) ≤ 4294967295) (uc : 0 ≤ (c.r.getD cc 0) ∧ (c.r.getD cc 0) ≤ 4294967295)  (hC : CpuAt w p 65 c o i) :
    Calls Tryd.prog 35 #[.pointer (some ⟨p, 0, none⟩), .pointer (some ⟨q, 0, none⟩), .agg #[.int .i64 7, .int .i64 a, .int .i64 b, .int .i64 cc, .int .i64 n]] w (CPost p (setC c a (alu 7 (c.r.getD b 0) (c.r.getD cc 0))) o i w) := by
  have HC := Lib.hid (hC.alloc (.cells #[.int .i64 7, .int .i64 a, .int .i64 b, .int .i64 cc, .int .i64 n] 51))
  have B0 := Lib.hid ((But.refl [p] w).alloc (.cells #[.int .i64 7, .int .i64 a, .int .i64 b, .int .i64 cc, .int .i64 n] 51))
  have K0 := Lib.hid (Whole.made w 51 #[.int .i64 7, .int .i64 a, .int .i64 b, .int .i64 cc, .int .i64 n] _ rfl)
  have hpn : w.heap.size ≠ p := Nat.ne_of_gt hC.lt
  have S := Lib.hid (fun v w hC => cset_any p a c o i v w ha hC)
  have CM := Lib.hid (fun w => computed_7 (c.r.getD b 0) (c.r.getD cc 0) w ub uc)
  clear hC
  unfold CPost at *
  go_enter Tryd.func35, Tryd.ntmps35
  go_wp2_with fail
  generalize w.alloc (.cells #[.int .i64 7, .int .i64 a, .int .i64 b, .int .i64 cc, .int .i64 n] 51) = V at *
  have k0 : V.cell? ⟨w.heap.size, 0, none⟩ = some (.int .i64 7) := K0.out.cell 0
  have k1 : V.cell? ⟨w.heap.size, 1, none⟩ = some (.int .i64 a) := K0.out.cell 1
  have k2 : V.cell? ⟨w.heap.size, 2, none⟩ = some (.int .i64 b) := K0.out.cell 2
  have k3 : V.cell? ⟨w.heap.size, 3, none⟩ = some (.int .i64 cc) := K0.out.cell 3
  have k4 : V.cell? ⟨w.heap.size, 4, none⟩ = some (.int .i64 n) := K0.out.cell 4
  have qb := HC.out.reg hb
  have qc := HC.out.reg hcc
  have hbI : (b : Int) < 16 := by omega
  have hcI : (cc : Int) < 16 := by omega
  refine still_tail 20 (by kernel_rfl) (by kernel_rfl) ?_
  simp only [List.take_succ_cons, List.take_zero, List.drop_succ_cons, List.drop_zero]
  repeat still_step
  still_call ((CM.out _).mono (fun _ _ h => ⟨h.1, h.2.symm⟩))
  refine wpStill_nil ?_
  have HD := Lib.hid HC.out.drew
  have BD := Lib.hid B0.out.drew
  clear HC B0 qb qc k0 k1 k2 k3 k4 K0
  generalize V.drew = W at *
  go_wp2_with fail
  refine (S.out _ _ HD.out).mono ?_
  rintro e w' ⟨rfl, hc, hb⟩
  go_wp2_with fail
  first | go_end0 | refine bodyPost_ret (results_none rfl _ _ _) rfl ?_
  exact ⟨rfl, hc, BD.out.trans hb⟩

set_option maxHeartbeats 4000000 in
set_option maxRecDepth 100000 in
theorem cexec_8 (p q a b cc : Nat) (n : Int) (c : Cp) (o i : Value) (w : World) (ha : a < 16) (hb : b < 16) (hcc : cc < 16) (ua : 0 ≤ (c.r.getD a 0) ∧ (c.r.getD a 0) ≤ 4294967295) (ub : 0 ≤ (c.r.getD b 0) ∧ (c.r.getD b 0) ≤ 4294967295) (uc : 0 ≤ (c.r.getD cc 0) ∧ (c.r.getD cc 0) ≤ 4294967295)  (hC : CpuAt w p 65 c o i) :
    Calls Tryd.prog 35 #[.pointer (some ⟨p, 0, none⟩), .pointer (some ⟨q, 0, none⟩), .agg #[.int .i64 8, .int .i64 a, .int .i64 b, .int .i64 cc, .int .i64 n]] w (CPost p (setC c a (alu 8 (c.r.getD b 0) (c.r.getD cc 0))) o i w) := by
  have HC := Lib.hid (hC.alloc (.cells #[.int .i64 8, .int .i64 a, .int .i64 b, .int .i64 cc, .int .i64 n] 51))
  have B0 := Lib.hid ((But.refl [p] w).alloc (.cells #[.int .i64 8, .int .i64 a, .int .i64 b, .int .i64 cc, .int .i64 n] 51))
  have K0 := Lib.hid (Whole.made w 51 #[.int .i64 8, .int .i64 a, .int .i64 b, .int .i64 cc, .int .i64 n] _ rfl)
  have hpn : w.heap.size ≠ p := Nat.ne_of_gt hC.lt
  have S := Lib.hid (fun v w hC => cset_any p a c o i v w ha hC)
  have CM := Lib.hid (fun w => computed_8 (c.r.getD b 0) (c.r.getD cc 0) w ub uc)
  clear hC
  unfold CPost at *
  go_enter Tryd.func35, Tryd.ntmps35
  go_wp2_with fail
  generalize w.alloc (.cells #[.int .i64 8, .int .i64 a, .int .i64 b, .int .i64 cc, .int .i64 n] 51) = V at *
  have k0 : V.cell? ⟨w.heap.size, 0, none⟩ = some (.int .i64 8) := K0.out.cell 0
  have k1 : V.cell? ⟨w.heap.size, 1, none⟩ = some (.int .i64 a) := K0.out.cell 1
  have k2 : V.cell? ⟨w.heap.size, 2, none⟩ = some (.int .i64 b) := K0.out.cell 2
  have k3 : V.cell? ⟨w.heap.size, 3, none⟩ = some (.int .i64 cc) := K0.out.cell 3
  have k4 : V.cell? ⟨w.heap.size, 4, none⟩ = some (.int .i64 n) := K0.out.cell 4
  have qb := HC.out.reg hb
  have qc := HC.out.reg hcc
  have hbI : (b : Int) < 16 := by omega
  have hcI : (cc : Int) < 16 := by omega
  refine still_tail 20 (by kernel_rfl) (by kernel_rfl) ?_
  simp only [List.take_succ_cons, List.take_zero, List.drop_succ_cons, List.drop_zero]
  repeat still_step
  still_call ((CM.out _).mono (fun _ _ h => ⟨h.1, h.2.symm⟩))
  refine wpStill_nil ?_
  have HD := Lib.hid HC.out.drew
  have BD := Lib.hid B0.out.drew
  clear HC B0 qb qc k0 k1 k2 k3 k4 K0
  generalize V.drew = W at *
  go_wp2_with fail
  refine (S.out _ _ HD.out).mono ?_
  rintro e w' ⟨rfl, hc, hb⟩
  go_wp2_with fail
  first | go_end0 | refine bodyPost_ret (results_none rfl _ _ _) rfl ?_
  exact ⟨rfl, hc, BD.out.trans hb⟩

set_option maxHeartbeats 4000000 in
set_option maxRecDepth 100000 in
theorem cexec_11 (p q a b cc : Nat) (n : Int) (c : Cp) (o i : Value) (w : World) (ha : a < 16) (hb : b < 16) (hcc : cc < 16) (ua : 0 ≤ (c.r.getD a 0) ∧ (c.r.getD a 0) ≤ 4294967295) (ub : 0 ≤ (c.r.getD b 0) ∧ (c.r.getD b 0) ≤ 4294967295) (uc : 0 ≤ (c.r.getD cc 0) ∧ (c.r.getD cc 0) ≤ 4294967295)  (hC : CpuAt w p 65 c o i) :
    Calls Tryd.prog 35 #[.pointer (some ⟨p, 0, none⟩), .pointer (some ⟨q, 0, none⟩), .agg #[.int .i64 11, .int .i64 a, .int .i64 b, .int .i64 cc, .int .i64 n]] w (CPost p (setC c a (alu 11 (c.r.getD b 0) (c.r.getD cc 0))) o i w) := by
  have HC := Lib.hid (hC.alloc (.cells #[.int .i64 11, .int .i64 a, .int .i64 b, .int .i64 cc, .int .i64 n] 51))
  have B0 := Lib.hid ((But.refl [p] w).alloc (.cells #[.int .i64 11, .int .i64 a, .int .i64 b, .int .i64 cc, .int .i64 n] 51))
  have K0 := Lib.hid (Whole.made w 51 #[.int .i64 11, .int .i64 a, .int .i64 b, .int .i64 cc, .int .i64 n] _ rfl)
  have hpn : w.heap.size ≠ p := Nat.ne_of_gt hC.lt
  have S := Lib.hid (fun v w hC => cset_any p a c o i v w ha hC)
  have CM := Lib.hid (fun w => computed_11 (c.r.getD b 0) (c.r.getD cc 0) w ub uc)
  clear hC
  unfold CPost at *
  go_enter Tryd.func35, Tryd.ntmps35
  go_wp2_with fail
  generalize w.alloc (.cells #[.int .i64 11, .int .i64 a, .int .i64 b, .int .i64 cc, .int .i64 n] 51) = V at *
  have k0 : V.cell? ⟨w.heap.size, 0, none⟩ = some (.int .i64 11) := K0.out.cell 0
  have k1 : V.cell? ⟨w.heap.size, 1, none⟩ = some (.int .i64 a) := K0.out.cell 1
  have k2 : V.cell? ⟨w.heap.size, 2, none⟩ = some (.int .i64 b) := K0.out.cell 2
  have k3 : V.cell? ⟨w.heap.size, 3, none⟩ = some (.int .i64 cc) := K0.out.cell 3
  have k4 : V.cell? ⟨w.heap.size, 4, none⟩ = some (.int .i64 n) := K0.out.cell 4
  have qb := HC.out.reg hb
  have qc := HC.out.reg hcc
  have hbI : (b : Int) < 16 := by omega
  have hcI : (cc : Int) < 16 := by omega
  refine still_tail 20 (by kernel_rfl) (by kernel_rfl) ?_
  simp only [List.take_succ_cons, List.take_zero, List.drop_succ_cons, List.drop_zero]
  repeat still_step
  still_call ((CM.out _).mono (fun _ _ h => ⟨h.1, h.2.symm⟩))
  refine wpStill_nil ?_
  have HD := Lib.hid HC.out.drew
  have BD := Lib.hid B0.out.drew
  clear HC B0 qb qc k0 k1 k2 k3 k4 K0
  generalize V.drew = W at *
  go_wp2_with fail
  refine (S.out _ _ HD.out).mono ?_
  rintro e w' ⟨rfl, hc, hb⟩
  go_wp2_with fail
  first | go_end0 | refine bodyPost_ret (results_none rfl _ _ _) rfl ?_
  exact ⟨rfl, hc, BD.out.trans hb⟩

set_option maxHeartbeats 4000000 in
set_option maxRecDepth 100000 in
theorem cexec_12 (p q a b cc : Nat) (n : Int) (c : Cp) (o i : Value) (w : World) (ha : a < 16) (hb : b < 16) (hcc : cc < 16) (ua : 0 ≤ (c.r.getD a 0) ∧ (c.r.getD a 0) ≤ 4294967295) (ub : 0 ≤ (c.r.getD b 0) ∧ (c.r.getD b 0) ≤ 4294967295) (uc : 0 ≤ (c.r.getD cc 0) ∧ (c.r.getD cc 0) ≤ 4294967295)  (hC : CpuAt w p 65 c o i) :
    Calls Tryd.prog 35 #[.pointer (some ⟨p, 0, none⟩), .pointer (some ⟨q, 0, none⟩), .agg #[.int .i64 12, .int .i64 a, .int .i64 b, .int .i64 cc, .int .i64 n]] w (CPost p (setC c a (alu 12 (c.r.getD b 0) (c.r.getD cc 0))) o i w) := by
  have HC := Lib.hid (hC.alloc (.cells #[.int .i64 12, .int .i64 a, .int .i64 b, .int .i64 cc, .int .i64 n] 51))
  have B0 := Lib.hid ((But.refl [p] w).alloc (.cells #[.int .i64 12, .int .i64 a, .int .i64 b, .int .i64 cc, .int .i64 n] 51))
  have K0 := Lib.hid (Whole.made w 51 #[.int .i64 12, .int .i64 a, .int .i64 b, .int .i64 cc, .int .i64 n] _ rfl)
  have hpn : w.heap.size ≠ p := Nat.ne_of_gt hC.lt
  have S := Lib.hid (fun v w hC => cset_any p a c o i v w ha hC)
  have CM := Lib.hid (fun w => computed_12 (c.r.getD b 0) (c.r.getD cc 0) w ub uc)
  clear hC
  unfold CPost at *
  go_enter Tryd.func35, Tryd.ntmps35
  go_wp2_with fail
  generalize w.alloc (.cells #[.int .i64 12, .int .i64 a, .int .i64 b, .int .i64 cc, .int .i64 n] 51) = V at *
  have k0 : V.cell? ⟨w.heap.size, 0, none⟩ = some (.int .i64 12) := K0.out.cell 0
  have k1 : V.cell? ⟨w.heap.size, 1, none⟩ = some (.int .i64 a) := K0.out.cell 1
  have k2 : V.cell? ⟨w.heap.size, 2, none⟩ = some (.int .i64 b) := K0.out.cell 2
  have k3 : V.cell? ⟨w.heap.size, 3, none⟩ = some (.int .i64 cc) := K0.out.cell 3
  have k4 : V.cell? ⟨w.heap.size, 4, none⟩ = some (.int .i64 n) := K0.out.cell 4
  have qb := HC.out.reg hb
  have qc := HC.out.reg hcc
  have hbI : (b : Int) < 16 := by omega
  have hcI : (cc : Int) < 16 := by omega
  refine still_tail 20 (by kernel_rfl) (by kernel_rfl) ?_
  simp only [List.take_succ_cons, List.take_zero, List.drop_succ_cons, List.drop_zero]
  repeat still_step
  still_call ((CM.out _).mono (fun _ _ h => ⟨h.1, h.2.symm⟩))
  refine wpStill_nil ?_
  have HD := Lib.hid HC.out.drew
  have BD := Lib.hid B0.out.drew
  clear HC B0 qb qc k0 k1 k2 k3 k4 K0
  generalize V.drew = W at *
  go_wp2_with fail
  refine (S.out _ _ HD.out).mono ?_
  rintro e w' ⟨rfl, hc, hb⟩
  go_wp2_with fail
  first | go_end0 | refine bodyPost_ret (results_none rfl _ _ _) rfl ?_
  exact ⟨rfl, hc, BD.out.trans hb⟩

set_option maxHeartbeats 4000000 in
set_option maxRecDepth 100000 in
theorem cexec_13 (p q a b cc : Nat) (n : Int) (c : Cp) (o i : Value) (w : World) (ha : a < 16) (hb : b < 16) (hcc : cc < 16) (ua : 0 ≤ (c.r.getD a 0) ∧ (c.r.getD a 0) ≤ 4294967295) (ub : 0 ≤ (c.r.getD b 0) ∧ (c.r.getD b 0) ≤ 4294967295) (uc : 0 ≤ (c.r.getD cc 0) ∧ (c.r.getD cc 0) ≤ 4294967295)  (hC : CpuAt w p 65 c o i) :
    Calls Tryd.prog 35 #[.pointer (some ⟨p, 0, none⟩), .pointer (some ⟨q, 0, none⟩), .agg #[.int .i64 13, .int .i64 a, .int .i64 b, .int .i64 cc, .int .i64 n]] w (CPost p (setC c a (alu 13 (c.r.getD b 0) (c.r.getD cc 0))) o i w) := by
  have HC := Lib.hid (hC.alloc (.cells #[.int .i64 13, .int .i64 a, .int .i64 b, .int .i64 cc, .int .i64 n] 51))
  have B0 := Lib.hid ((But.refl [p] w).alloc (.cells #[.int .i64 13, .int .i64 a, .int .i64 b, .int .i64 cc, .int .i64 n] 51))
  have K0 := Lib.hid (Whole.made w 51 #[.int .i64 13, .int .i64 a, .int .i64 b, .int .i64 cc, .int .i64 n] _ rfl)
  have hpn : w.heap.size ≠ p := Nat.ne_of_gt hC.lt
  have S := Lib.hid (fun v w hC => cset_any p a c o i v w ha hC)
  have CM := Lib.hid (fun w => computed_13 (c.r.getD b 0) (c.r.getD cc 0) w ub uc)
  clear hC
  unfold CPost at *
  go_enter Tryd.func35, Tryd.ntmps35
  go_wp2_with fail
  generalize w.alloc (.cells #[.int .i64 13, .int .i64 a, .int .i64 b, .int .i64 cc, .int .i64 n] 51) = V at *
  have k0 : V.cell? ⟨w.heap.size, 0, none⟩ = some (.int .i64 13) := K0.out.cell 0
  have k1 : V.cell? ⟨w.heap.size, 1, none⟩ = some (.int .i64 a) := K0.out.cell 1
  have k2 : V.cell? ⟨w.heap.size, 2, none⟩ = some (.int .i64 b) := K0.out.cell 2
  have k3 : V.cell? ⟨w.heap.size, 3, none⟩ = some (.int .i64 cc) := K0.out.cell 3
  have k4 : V.cell? ⟨w.heap.size, 4, none⟩ = some (.int .i64 n) := K0.out.cell 4
  have qb := HC.out.reg hb
  have qc := HC.out.reg hcc
  have hbI : (b : Int) < 16 := by omega
  have hcI : (cc : Int) < 16 := by omega
  refine still_tail 20 (by kernel_rfl) (by kernel_rfl) ?_
  simp only [List.take_succ_cons, List.take_zero, List.drop_succ_cons, List.drop_zero]
  repeat still_step
  still_call ((CM.out _).mono (fun _ _ h => ⟨h.1, h.2.symm⟩))
  refine wpStill_nil ?_
  have HD := Lib.hid HC.out.drew
  have BD := Lib.hid B0.out.drew
  clear HC B0 qb qc k0 k1 k2 k3 k4 K0
  generalize V.drew = W at *
  go_wp2_with fail
  refine (S.out _ _ HD.out).mono ?_
  rintro e w' ⟨rfl, hc, hb⟩
  go_wp2_with fail
  first | go_end0 | refine bodyPost_ret (results_none rfl _ _ _) rfl ?_
  exact ⟨rfl, hc, BD.out.trans hb⟩

set_option maxHeartbeats 4000000 in
set_option maxRecDepth 100000 in
theorem cexec_14 (p q a b cc : Nat) (n : Int) (c : Cp) (o i : Value) (w : World) (ha : a < 16) (hb : b < 16) (hcc : cc < 16) (ua : 0 ≤ (c.r.getD a 0) ∧ (c.r.getD a 0) ≤ 4294967295) (ub : 0 ≤ (c.r.getD b 0) ∧ (c.r.getD b 0) ≤ 4294967295) (uc : 0 ≤ (c.r.getD cc 0) ∧ (c.r.getD cc 0) ≤ 4294967295)  (hC : CpuAt w p 65 c o i) :
    Calls Tryd.prog 35 #[.pointer (some ⟨p, 0, none⟩), .pointer (some ⟨q, 0, none⟩), .agg #[.int .i64 14, .int .i64 a, .int .i64 b, .int .i64 cc, .int .i64 n]] w (CPost p (setC c a (alu 14 (c.r.getD b 0) (c.r.getD cc 0))) o i w) := by
  have HC := Lib.hid (hC.alloc (.cells #[.int .i64 14, .int .i64 a, .int .i64 b, .int .i64 cc, .int .i64 n] 51))
  have B0 := Lib.hid ((But.refl [p] w).alloc (.cells #[.int .i64 14, .int .i64 a, .int .i64 b, .int .i64 cc, .int .i64 n] 51))
  have K0 := Lib.hid (Whole.made w 51 #[.int .i64 14, .int .i64 a, .int .i64 b, .int .i64 cc, .int .i64 n] _ rfl)
  have hpn : w.heap.size ≠ p := Nat.ne_of_gt hC.lt
  have S := Lib.hid (fun v w hC => cset_any p a c o i v w ha hC)
  have CM := Lib.hid (fun w => computed_14 (c.r.getD b 0) (c.r.getD cc 0) w ub uc)
  clear hC
  unfold CPost at *
  go_enter Tryd.func35, Tryd.ntmps35
  go_wp2_with fail
  generalize w.alloc (.cells #[.int .i64 14, .int .i64 a, .int .i64 b, .int .i64 cc, .int .i64 n] 51) = V at *
  have k0 : V.cell? ⟨w.heap.size, 0, none⟩ = some (.int .i64 14) := K0.out.cell 0
  have k1 : V.cell? ⟨w.heap.size, 1, none⟩ = some (.int .i64 a) := K0.out.cell 1
  have k2 : V.cell? ⟨w.heap.size, 2, none⟩ = some (.int .i64 b) := K0.out.cell 2
  have k3 : V.cell? ⟨w.heap.size, 3, none⟩ = some (.int .i64 cc) := K0.out.cell 3
  have k4 : V.cell? ⟨w.heap.size, 4, none⟩ = some (.int .i64 n) := K0.out.cell 4
  have qb := HC.out.reg hb
  have qc := HC.out.reg hcc
  have hbI : (b : Int) < 16 := by omega
  have hcI : (cc : Int) < 16 := by omega
  refine still_tail 20 (by kernel_rfl) (by kernel_rfl) ?_
  simp only [List.take_succ_cons, List.take_zero, List.drop_succ_cons, List.drop_zero]
  repeat still_step
  still_call ((CM.out _).mono (fun _ _ h => ⟨h.1, h.2.symm⟩))
  refine wpStill_nil ?_
  have HD := Lib.hid HC.out.drew
  have BD := Lib.hid B0.out.drew
  clear HC B0 qb qc k0 k1 k2 k3 k4 K0
  generalize V.drew = W at *
  go_wp2_with fail
  refine (S.out _ _ HD.out).mono ?_
  rintro e w' ⟨rfl, hc, hb⟩
  go_wp2_with fail
  first | go_end0 | refine bodyPost_ret (results_none rfl _ _ _) rfl ?_
  exact ⟨rfl, hc, BD.out.trans hb⟩

set_option maxHeartbeats 4000000 in
set_option maxRecDepth 100000 in
theorem cexec_15 (p q a b cc : Nat) (n : Int) (c : Cp) (o i : Value) (w : World) (ha : a < 16) (hb : b < 16) (hcc : cc < 16) (ua : 0 ≤ (c.r.getD a 0) ∧ (c.r.getD a 0) ≤ 4294967295) (ub : 0 ≤ (c.r.getD b 0) ∧ (c.r.getD b 0) ≤ 4294967295) (uc : 0 ≤ (c.r.getD cc 0) ∧ (c.r.getD cc 0) ≤ 4294967295)  (hC : CpuAt w p 65 c o i) :
    Calls Tryd.prog 35 #[.pointer (some ⟨p, 0, none⟩), .pointer (some ⟨q, 0, none⟩), .agg #[.int .i64 15, .int .i64 a, .int .i64 b, .int .i64 cc, .int .i64 n]] w (CPost p (setC c a (alu 15 (c.r.getD b 0) (c.r.getD cc 0))) o i w) := by
  have HC := Lib.hid (hC.alloc (.cells #[.int .i64 15, .int .i64 a, .int .i64 b, .int .i64 cc, .int .i64 n] 51))
  have B0 := Lib.hid ((But.refl [p] w).alloc (.cells #[.int .i64 15, .int .i64 a, .int .i64 b, .int .i64 cc, .int .i64 n] 51))
  have K0 := Lib.hid (Whole.made w 51 #[.int .i64 15, .int .i64 a, .int .i64 b, .int .i64 cc, .int .i64 n] _ rfl)
  have hpn : w.heap.size ≠ p := Nat.ne_of_gt hC.lt
  have S := Lib.hid (fun v w hC => cset_any p a c o i v w ha hC)
  have CM := Lib.hid (fun w => computed_15 (c.r.getD b 0) (c.r.getD cc 0) w ub uc)
  clear hC
  unfold CPost at *
  go_enter Tryd.func35, Tryd.ntmps35
  go_wp2_with fail
  generalize w.alloc (.cells #[.int .i64 15, .int .i64 a, .int .i64 b, .int .i64 cc, .int .i64 n] 51) = V at *
  have k0 : V.cell? ⟨w.heap.size, 0, none⟩ = some (.int .i64 15) := K0.out.cell 0
  have k1 : V.cell? ⟨w.heap.size, 1, none⟩ = some (.int .i64 a) := K0.out.cell 1
  have k2 : V.cell? ⟨w.heap.size, 2, none⟩ = some (.int .i64 b) := K0.out.cell 2
  have k3 : V.cell? ⟨w.heap.size, 3, none⟩ = some (.int .i64 cc) := K0.out.cell 3
  have k4 : V.cell? ⟨w.heap.size, 4, none⟩ = some (.int .i64 n) := K0.out.cell 4
  have qb := HC.out.reg hb
  have qc := HC.out.reg hcc
  have hbI : (b : Int) < 16 := by omega
  have hcI : (cc : Int) < 16 := by omega
  refine still_tail 20 (by kernel_rfl) (by kernel_rfl) ?_
  simp only [List.take_succ_cons, List.take_zero, List.drop_succ_cons, List.drop_zero]
  repeat still_step
  still_call ((CM.out _).mono (fun _ _ h => ⟨h.1, h.2.symm⟩))
  refine wpStill_nil ?_
  have HD := Lib.hid HC.out.drew
  have BD := Lib.hid B0.out.drew
  clear HC B0 qb qc k0 k1 k2 k3 k4 K0
  generalize V.drew = W at *
  go_wp2_with fail
  refine (S.out _ _ HD.out).mono ?_
  rintro e w' ⟨rfl, hc, hb⟩
  go_wp2_with fail
  first | go_end0 | refine bodyPost_ret (results_none rfl _ _ _) rfl ?_
  exact ⟨rfl, hc, BD.out.trans hb⟩

set_option maxHeartbeats 4000000 in
set_option maxRecDepth 100000 in
theorem cexec_16 (p q a b cc : Nat) (n : Int) (c : Cp) (o i : Value) (w : World) (ha : a < 16) (hb : b < 16) (hcc : cc < 16) (ua : 0 ≤ (c.r.getD a 0) ∧ (c.r.getD a 0) ≤ 4294967295) (ub : 0 ≤ (c.r.getD b 0) ∧ (c.r.getD b 0) ≤ 4294967295) (uc : 0 ≤ (c.r.getD cc 0) ∧ (c.r.getD cc 0) ≤ 4294967295)  (hC : CpuAt w p 65 c o i) :
    Calls Tryd.prog 35 #[.pointer (some ⟨p, 0, none⟩), .pointer (some ⟨q, 0, none⟩), .agg #[.int .i64 16, .int .i64 a, .int .i64 b, .int .i64 cc, .int .i64 n]] w (CPost p (setC c a (alu 16 (c.r.getD b 0) (c.r.getD cc 0))) o i w) := by
  have HC := Lib.hid (hC.alloc (.cells #[.int .i64 16, .int .i64 a, .int .i64 b, .int .i64 cc, .int .i64 n] 51))
  have B0 := Lib.hid ((But.refl [p] w).alloc (.cells #[.int .i64 16, .int .i64 a, .int .i64 b, .int .i64 cc, .int .i64 n] 51))
  have K0 := Lib.hid (Whole.made w 51 #[.int .i64 16, .int .i64 a, .int .i64 b, .int .i64 cc, .int .i64 n] _ rfl)
  have hpn : w.heap.size ≠ p := Nat.ne_of_gt hC.lt
  have S := Lib.hid (fun v w hC => cset_any p a c o i v w ha hC)
  have CM := Lib.hid (fun w => computed_16 (c.r.getD b 0) (c.r.getD cc 0) w ub uc)
  clear hC
  unfold CPost at *
  go_enter Tryd.func35, Tryd.ntmps35
  go_wp2_with fail
  generalize w.alloc (.cells #[.int .i64 16, .int .i64 a, .int .i64 b, .int .i64 cc, .int .i64 n] 51) = V at *
  have k0 : V.cell? ⟨w.heap.size, 0, none⟩ = some (.int .i64 16) := K0.out.cell 0
  have k1 : V.cell? ⟨w.heap.size, 1, none⟩ = some (.int .i64 a) := K0.out.cell 1
  have k2 : V.cell? ⟨w.heap.size, 2, none⟩ = some (.int .i64 b) := K0.out.cell 2
  have k3 : V.cell? ⟨w.heap.size, 3, none⟩ = some (.int .i64 cc) := K0.out.cell 3
  have k4 : V.cell? ⟨w.heap.size, 4, none⟩ = some (.int .i64 n) := K0.out.cell 4
  have qb := HC.out.reg hb
  have qc := HC.out.reg hcc
  have hbI : (b : Int) < 16 := by omega
  have hcI : (cc : Int) < 16 := by omega
  refine still_tail 20 (by kernel_rfl) (by kernel_rfl) ?_
  simp only [List.take_succ_cons, List.take_zero, List.drop_succ_cons, List.drop_zero]
  repeat still_step
  still_call ((CM.out _).mono (fun _ _ h => ⟨h.1, h.2.symm⟩))
  refine wpStill_nil ?_
  have HD := Lib.hid HC.out.drew
  have BD := Lib.hid B0.out.drew
  clear HC B0 qb qc k0 k1 k2 k3 k4 K0
  generalize V.drew = W at *
  go_wp2_with fail
  refine (S.out _ _ HD.out).mono ?_
  rintro e w' ⟨rfl, hc, hb⟩
  go_wp2_with fail
  first | go_end0 | refine bodyPost_ret (results_none rfl _ _ _) rfl ?_
  exact ⟨rfl, hc, BD.out.trans hb⟩

set_option maxHeartbeats 4000000 in
set_option maxRecDepth 100000 in
theorem cexec_17 (p q a b cc : Nat) (n : Int) (c : Cp) (o i : Value) (w : World) (ha : a < 16) (hb : b < 16) (hcc : cc < 16) (ua : 0 ≤ (c.r.getD a 0) ∧ (c.r.getD a 0) ≤ 4294967295) (ub : 0 ≤ (c.r.getD b 0) ∧ (c.r.getD b 0) ≤ 4294967295) (uc : 0 ≤ (c.r.getD cc 0) ∧ (c.r.getD cc 0) ≤ 4294967295)  (hC : CpuAt w p 65 c o i) :
    Calls Tryd.prog 35 #[.pointer (some ⟨p, 0, none⟩), .pointer (some ⟨q, 0, none⟩), .agg #[.int .i64 17, .int .i64 a, .int .i64 b, .int .i64 cc, .int .i64 n]] w (CPost p (setC c a (alu 17 (c.r.getD b 0) (c.r.getD cc 0))) o i w) := by
  have HC := Lib.hid (hC.alloc (.cells #[.int .i64 17, .int .i64 a, .int .i64 b, .int .i64 cc, .int .i64 n] 51))
  have B0 := Lib.hid ((But.refl [p] w).alloc (.cells #[.int .i64 17, .int .i64 a, .int .i64 b, .int .i64 cc, .int .i64 n] 51))
  have K0 := Lib.hid (Whole.made w 51 #[.int .i64 17, .int .i64 a, .int .i64 b, .int .i64 cc, .int .i64 n] _ rfl)
  have hpn : w.heap.size ≠ p := Nat.ne_of_gt hC.lt
  have S := Lib.hid (fun v w hC => cset_any p a c o i v w ha hC)
  have CM := Lib.hid (fun w => computed_17 (c.r.getD b 0) (c.r.getD cc 0) w ub uc)
  clear hC
  unfold CPost at *
  go_enter Tryd.func35, Tryd.ntmps35
  go_wp2_with fail
  generalize w.alloc (.cells #[.int .i64 17, .int .i64 a, .int .i64 b, .int .i64 cc, .int .i64 n] 51) = V at *
  have k0 : V.cell? ⟨w.heap.size, 0, none⟩ = some (.int .i64 17) := K0.out.cell 0
  have k1 : V.cell? ⟨w.heap.size, 1, none⟩ = some (.int .i64 a) := K0.out.cell 1
  have k2 : V.cell? ⟨w.heap.size, 2, none⟩ = some (.int .i64 b) := K0.out.cell 2
  have k3 : V.cell? ⟨w.heap.size, 3, none⟩ = some (.int .i64 cc) := K0.out.cell 3
  have k4 : V.cell? ⟨w.heap.size, 4, none⟩ = some (.int .i64 n) := K0.out.cell 4
  have qb := HC.out.reg hb
  have qc := HC.out.reg hcc
  have hbI : (b : Int) < 16 := by omega
  have hcI : (cc : Int) < 16 := by omega
  refine still_tail 20 (by kernel_rfl) (by kernel_rfl) ?_
  simp only [List.take_succ_cons, List.take_zero, List.drop_succ_cons, List.drop_zero]
  repeat still_step
  still_call ((CM.out _).mono (fun _ _ h => ⟨h.1, h.2.symm⟩))
  refine wpStill_nil ?_
  have HD := Lib.hid HC.out.drew
  have BD := Lib.hid B0.out.drew
  clear HC B0 qb qc k0 k1 k2 k3 k4 K0
  generalize V.drew = W at *
  go_wp2_with fail
  refine (S.out _ _ HD.out).mono ?_
  rintro e w' ⟨rfl, hc, hb⟩
  go_wp2_with fail
  first | go_end0 | refine bodyPost_ret (results_none rfl _ _ _) rfl ?_
  exact ⟨rfl, hc, BD.out.trans hb⟩

end Go.Proofs.YtlmokkopaididaaDoor
