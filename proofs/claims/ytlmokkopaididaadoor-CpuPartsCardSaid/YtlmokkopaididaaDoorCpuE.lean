/- Package cpu: check, jump, ask, by operation. -/
import Derived.Test.YtlmokkopaididaaDoorCpuB
import Derived.Test.YtlmokkopaididaaDoorCpuC
namespace Go.Proofs.YtlmokkopaididaaDoor
open Go.ChangeShapes Go.WideShapes Go.ChangeAt Go.RowKit
set_option linter.unusedVariables false

set_option maxHeartbeats 4000000 in
set_option maxRecDepth 100000 in
theorem ccheck_26_true (p a b cc : Nat) (n : Int) (c : Cp) (o i : Value) (w : World) (ha : a < 16) (hb : b < 16) (hd : decide ((c.r.getD a 0) < n % 4294967296) = true) (hC : CpuAt w p 65 c o i) :
    Calls Tryd.prog 61 #[.pointer (some ⟨p, 0, none⟩), .agg #[.int .i64 26, .int .i64 a, .int .i64 b, .int .i64 cc, .int .i64 n]] w (CPost p (passC c) o i w) := by
  have HC := Lib.hid (hC.alloc (.cells #[.int .i64 26, .int .i64 a, .int .i64 b, .int .i64 cc, .int .i64 n] 51))
  have qa := HC.out.reg ha
  have B0 := Lib.hid ((But.refl [p] w).alloc (.cells #[.int .i64 26, .int .i64 a, .int .i64 b, .int .i64 cc, .int .i64 n] 51))
  have K0 := Lib.hid (Whole.made w 51 #[.int .i64 26, .int .i64 a, .int .i64 b, .int .i64 cc, .int .i64 n] _ rfl)
  have hpn : w.heap.size ≠ p := Nat.ne_of_gt hC.lt
  have haI : (a : Int) < 16 := by omega
  have R := Lib.hid (fun t w hC => crequire_any p c o i t b w hC)
  clear hC
  unfold CPost at *
  go_enter Tryd.func61, Tryd.ntmps61
  go_wp2_with fail
  generalize (c.r.getD a 0) = ra at *
  go_quiet (fail)
  have HD := Lib.hid (HC.out.drawn nq)
  have BD := Lib.hid (B0.out.drawn nq)
  have KD := Lib.hid (K0.out.drawn nq)
  clear HC B0 K0 qa
  generalize (w.alloc (.cells #[.int .i64 26, .int .i64 a, .int .i64 b, .int .i64 cc, .int .i64 n] 51)).drewN nq = W at *
  have k0 : W.cell? ⟨w.heap.size, 0, none⟩ = some (.int .i64 26) := KD.out.cell 0
  have k2 : W.cell? ⟨w.heap.size, 2, none⟩ = some (.int .i64 b) := KD.out.cell 2
  have k4 : W.cell? ⟨w.heap.size, 4, none⟩ = some (.int .i64 n) := KD.out.cell 4
  go_wp2_with fail
  refine (R.out true _ HD.out).mono ?_
  rintro e w' ⟨rfl, hc, hb⟩
  go_wp2_with fail
  first | go_end0 | refine bodyPost_ret (results_none rfl _ _ _) rfl ?_
  exact ⟨rfl, hc, BD.out.trans hb⟩

set_option maxHeartbeats 4000000 in
set_option maxRecDepth 100000 in
theorem ccheck_27_true (p a b cc : Nat) (n : Int) (c : Cp) (o i : Value) (w : World) (ha : a < 16) (hd : ((c.r.getD a 0) != 0) = true) (hC : CpuAt w p 65 c o i) :
    Calls Tryd.prog 61 #[.pointer (some ⟨p, 0, none⟩), .agg #[.int .i64 27, .int .i64 a, .int .i64 b, .int .i64 cc, .int .i64 n]] w (CPost p (passC c) o i w) := by
  have HC := Lib.hid (hC.alloc (.cells #[.int .i64 27, .int .i64 a, .int .i64 b, .int .i64 cc, .int .i64 n] 51))
  have qa := HC.out.reg ha
  have B0 := Lib.hid ((But.refl [p] w).alloc (.cells #[.int .i64 27, .int .i64 a, .int .i64 b, .int .i64 cc, .int .i64 n] 51))
  have K0 := Lib.hid (Whole.made w 51 #[.int .i64 27, .int .i64 a, .int .i64 b, .int .i64 cc, .int .i64 n] _ rfl)
  have hpn : w.heap.size ≠ p := Nat.ne_of_gt hC.lt
  have haI : (a : Int) < 16 := by omega
  have R := Lib.hid (fun t w hC => crequire_any p c o i t 2 w hC)
  clear hC
  unfold CPost at *
  go_enter Tryd.func61, Tryd.ntmps61
  go_wp2_with fail
  generalize (c.r.getD a 0) = ra at *
  go_quiet (fail)
  have HD := Lib.hid (HC.out.drawn nq)
  have BD := Lib.hid (B0.out.drawn nq)
  have KD := Lib.hid (K0.out.drawn nq)
  clear HC B0 K0 qa
  generalize (w.alloc (.cells #[.int .i64 27, .int .i64 a, .int .i64 b, .int .i64 cc, .int .i64 n] 51)).drewN nq = W at *
  have k0 : W.cell? ⟨w.heap.size, 0, none⟩ = some (.int .i64 27) := KD.out.cell 0
  go_wp2_with fail
  refine (R.out true _ HD.out).mono ?_
  rintro e w' ⟨rfl, hc, hb⟩
  go_wp2_with fail
  first | go_end0 | refine bodyPost_ret (results_none rfl _ _ _) rfl ?_
  exact ⟨rfl, hc, BD.out.trans hb⟩

set_option maxHeartbeats 4000000 in
set_option maxRecDepth 100000 in
theorem ccheck_32_true (p a b cc : Nat) (n : Int) (c : Cp) (o i : Value) (w : World) (ha : a < 16) (hd : decide (wrap32 c.li ≤ wrap32 (c.r.getD a 0)) = true) (hC : CpuAt w p 65 c o i) :
    Calls Tryd.prog 61 #[.pointer (some ⟨p, 0, none⟩), .agg #[.int .i64 32, .int .i64 a, .int .i64 b, .int .i64 cc, .int .i64 n]] w (CPost p (passC c) o i w) := by
  have HC := Lib.hid (hC.alloc (.cells #[.int .i64 32, .int .i64 a, .int .i64 b, .int .i64 cc, .int .i64 n] 51))
  have qa := HC.out.reg ha
  have B0 := Lib.hid ((But.refl [p] w).alloc (.cells #[.int .i64 32, .int .i64 a, .int .i64 b, .int .i64 cc, .int .i64 n] 51))
  have K0 := Lib.hid (Whole.made w 51 #[.int .i64 32, .int .i64 a, .int .i64 b, .int .i64 cc, .int .i64 n] _ rfl)
  have hpn : w.heap.size ≠ p := Nat.ne_of_gt hC.lt
  have haI : (a : Int) < 16 := by omega
  have R := Lib.hid (fun t w hC => crequire_any p c o i t 5 w hC)
  clear hC
  unfold CPost at *
  go_enter Tryd.func61, Tryd.ntmps61
  go_wp2_with fail
  generalize (c.r.getD a 0) = ra at *
  go_quiet (fail)
  have HD := Lib.hid (HC.out.drawn nq)
  have BD := Lib.hid (B0.out.drawn nq)
  have KD := Lib.hid (K0.out.drawn nq)
  clear HC B0 K0 qa
  generalize (w.alloc (.cells #[.int .i64 32, .int .i64 a, .int .i64 b, .int .i64 cc, .int .i64 n] 51)).drewN nq = W at *
  have k0 : W.cell? ⟨w.heap.size, 0, none⟩ = some (.int .i64 32) := KD.out.cell 0
  have q27 := HD.out.li
  go_wp2_with fail
  refine (R.out true _ HD.out).mono ?_
  rintro e w' ⟨rfl, hc, hb⟩
  go_wp2_with fail
  first | go_end0 | refine bodyPost_ret (results_none rfl _ _ _) rfl ?_
  exact ⟨rfl, hc, BD.out.trans hb⟩

set_option maxHeartbeats 4000000 in
set_option maxRecDepth 100000 in
theorem ccheck_26_false (p a b cc : Nat) (n : Int) (c : Cp) (o i : Value) (w : World) (ha : a < 16) (hb : b < 16) (hd : decide ((c.r.getD a 0) < n % 4294967296) = false) (hC : CpuAt w p 65 c o i) :
    Calls Tryd.prog 61 #[.pointer (some ⟨p, 0, none⟩), .agg #[.int .i64 26, .int .i64 a, .int .i64 b, .int .i64 cc, .int .i64 n]] w (CPost p (trapC c b) o i w) := by
  have HC := Lib.hid (hC.alloc (.cells #[.int .i64 26, .int .i64 a, .int .i64 b, .int .i64 cc, .int .i64 n] 51))
  have qa := HC.out.reg ha
  have B0 := Lib.hid ((But.refl [p] w).alloc (.cells #[.int .i64 26, .int .i64 a, .int .i64 b, .int .i64 cc, .int .i64 n] 51))
  have K0 := Lib.hid (Whole.made w 51 #[.int .i64 26, .int .i64 a, .int .i64 b, .int .i64 cc, .int .i64 n] _ rfl)
  have hpn : w.heap.size ≠ p := Nat.ne_of_gt hC.lt
  have haI : (a : Int) < 16 := by omega
  have R := Lib.hid (fun t w hC => crequire_any p c o i t b w hC)
  clear hC
  unfold CPost at *
  go_enter Tryd.func61, Tryd.ntmps61
  go_wp2_with fail
  generalize (c.r.getD a 0) = ra at *
  go_quiet (fail)
  have HD := Lib.hid (HC.out.drawn nq)
  have BD := Lib.hid (B0.out.drawn nq)
  have KD := Lib.hid (K0.out.drawn nq)
  clear HC B0 K0 qa
  generalize (w.alloc (.cells #[.int .i64 26, .int .i64 a, .int .i64 b, .int .i64 cc, .int .i64 n] 51)).drewN nq = W at *
  have k0 : W.cell? ⟨w.heap.size, 0, none⟩ = some (.int .i64 26) := KD.out.cell 0
  have k2 : W.cell? ⟨w.heap.size, 2, none⟩ = some (.int .i64 b) := KD.out.cell 2
  have k4 : W.cell? ⟨w.heap.size, 4, none⟩ = some (.int .i64 n) := KD.out.cell 4
  go_wp2_with fail
  refine (R.out false _ HD.out).mono ?_
  rintro e w' ⟨rfl, hc, hb⟩
  go_wp2_with fail
  first | go_end0 | refine bodyPost_ret (results_none rfl _ _ _) rfl ?_
  exact ⟨rfl, hc, BD.out.trans hb⟩

set_option maxHeartbeats 4000000 in
set_option maxRecDepth 100000 in
theorem ccheck_27_false (p a b cc : Nat) (n : Int) (c : Cp) (o i : Value) (w : World) (ha : a < 16) (hd : ((c.r.getD a 0) != 0) = false) (hC : CpuAt w p 65 c o i) :
    Calls Tryd.prog 61 #[.pointer (some ⟨p, 0, none⟩), .agg #[.int .i64 27, .int .i64 a, .int .i64 b, .int .i64 cc, .int .i64 n]] w (CPost p (trapC c 2) o i w) := by
  have HC := Lib.hid (hC.alloc (.cells #[.int .i64 27, .int .i64 a, .int .i64 b, .int .i64 cc, .int .i64 n] 51))
  have qa := HC.out.reg ha
  have B0 := Lib.hid ((But.refl [p] w).alloc (.cells #[.int .i64 27, .int .i64 a, .int .i64 b, .int .i64 cc, .int .i64 n] 51))
  have K0 := Lib.hid (Whole.made w 51 #[.int .i64 27, .int .i64 a, .int .i64 b, .int .i64 cc, .int .i64 n] _ rfl)
  have hpn : w.heap.size ≠ p := Nat.ne_of_gt hC.lt
  have haI : (a : Int) < 16 := by omega
  have R := Lib.hid (fun t w hC => crequire_any p c o i t 2 w hC)
  clear hC
  unfold CPost at *
  go_enter Tryd.func61, Tryd.ntmps61
  go_wp2_with fail
  generalize (c.r.getD a 0) = ra at *
  go_quiet (fail)
  have HD := Lib.hid (HC.out.drawn nq)
  have BD := Lib.hid (B0.out.drawn nq)
  have KD := Lib.hid (K0.out.drawn nq)
  clear HC B0 K0 qa
  generalize (w.alloc (.cells #[.int .i64 27, .int .i64 a, .int .i64 b, .int .i64 cc, .int .i64 n] 51)).drewN nq = W at *
  have k0 : W.cell? ⟨w.heap.size, 0, none⟩ = some (.int .i64 27) := KD.out.cell 0
  go_wp2_with fail
  refine (R.out false _ HD.out).mono ?_
  rintro e w' ⟨rfl, hc, hb⟩
  go_wp2_with fail
  first | go_end0 | refine bodyPost_ret (results_none rfl _ _ _) rfl ?_
  exact ⟨rfl, hc, BD.out.trans hb⟩

set_option maxHeartbeats 4000000 in
set_option maxRecDepth 100000 in
theorem ccheck_32_false (p a b cc : Nat) (n : Int) (c : Cp) (o i : Value) (w : World) (ha : a < 16) (hd : decide (wrap32 c.li ≤ wrap32 (c.r.getD a 0)) = false) (hC : CpuAt w p 65 c o i) :
    Calls Tryd.prog 61 #[.pointer (some ⟨p, 0, none⟩), .agg #[.int .i64 32, .int .i64 a, .int .i64 b, .int .i64 cc, .int .i64 n]] w (CPost p (trapC c 5) o i w) := by
  have HC := Lib.hid (hC.alloc (.cells #[.int .i64 32, .int .i64 a, .int .i64 b, .int .i64 cc, .int .i64 n] 51))
  have qa := HC.out.reg ha
  have B0 := Lib.hid ((But.refl [p] w).alloc (.cells #[.int .i64 32, .int .i64 a, .int .i64 b, .int .i64 cc, .int .i64 n] 51))
  have K0 := Lib.hid (Whole.made w 51 #[.int .i64 32, .int .i64 a, .int .i64 b, .int .i64 cc, .int .i64 n] _ rfl)
  have hpn : w.heap.size ≠ p := Nat.ne_of_gt hC.lt
  have haI : (a : Int) < 16 := by omega
  have R := Lib.hid (fun t w hC => crequire_any p c o i t 5 w hC)
  clear hC
  unfold CPost at *
  go_enter Tryd.func61, Tryd.ntmps61
  go_wp2_with fail
  generalize (c.r.getD a 0) = ra at *
  go_quiet (fail)
  have HD := Lib.hid (HC.out.drawn nq)
  have BD := Lib.hid (B0.out.drawn nq)
  have KD := Lib.hid (K0.out.drawn nq)
  clear HC B0 K0 qa
  generalize (w.alloc (.cells #[.int .i64 32, .int .i64 a, .int .i64 b, .int .i64 cc, .int .i64 n] 51)).drewN nq = W at *
  have k0 : W.cell? ⟨w.heap.size, 0, none⟩ = some (.int .i64 32) := KD.out.cell 0
  have q27 := HD.out.li
  go_wp2_with fail
  refine (R.out false _ HD.out).mono ?_
  rintro e w' ⟨rfl, hc, hb⟩
  go_wp2_with fail
  first | go_end0 | refine bodyPost_ret (results_none rfl _ _ _) rfl ?_
  exact ⟨rfl, hc, BD.out.trans hb⟩

set_option maxHeartbeats 4000000 in
set_option maxRecDepth 100000 in
theorem ccheck_28 (p a b cc : Nat) (n : Int) (c : Cp) (o i : Value) (w : World) (ha : a < 16)  (hC : CpuAt w p 65 c o i) :
    Calls Tryd.prog 61 #[.pointer (some ⟨p, 0, none⟩), .agg #[.int .i64 28, .int .i64 a, .int .i64 b, .int .i64 cc, .int .i64 n]] w (CPost p (trapC c (w32 n)) o i w) := by
  have HC := Lib.hid (hC.alloc (.cells #[.int .i64 28, .int .i64 a, .int .i64 b, .int .i64 cc, .int .i64 n] 51))
  have qa := HC.out.reg ha
  have B0 := Lib.hid ((But.refl [p] w).alloc (.cells #[.int .i64 28, .int .i64 a, .int .i64 b, .int .i64 cc, .int .i64 n] 51))
  have K0 := Lib.hid (Whole.made w 51 #[.int .i64 28, .int .i64 a, .int .i64 b, .int .i64 cc, .int .i64 n] _ rfl)
  have hpn : w.heap.size ≠ p := Nat.ne_of_gt hC.lt
  have haI : (a : Int) < 16 := by omega
  have T := Lib.hid (fun w hC => ctrap_any p c o i (w32 n) w hC)
  clear hC
  unfold CPost at *
  go_enter Tryd.func61, Tryd.ntmps61
  go_wp2_with fail
  generalize (c.r.getD a 0) = ra at *
  go_quiet (fail)
  have HD := Lib.hid (HC.out.drawn nq)
  have BD := Lib.hid (B0.out.drawn nq)
  have KD := Lib.hid (K0.out.drawn nq)
  clear HC B0 K0 qa
  generalize (w.alloc (.cells #[.int .i64 28, .int .i64 a, .int .i64 b, .int .i64 cc, .int .i64 n] 51)).drewN nq = W at *
  have k0 : W.cell? ⟨w.heap.size, 0, none⟩ = some (.int .i64 28) := KD.out.cell 0
  have k4 : W.cell? ⟨w.heap.size, 4, none⟩ = some (.int .i64 n) := KD.out.cell 4
  go_wp2_with fail
  refine (T.out _ HD.out).mono ?_
  rintro e w' ⟨rfl, hc, hb⟩
  go_wp2_with fail
  first | go_end0 | refine bodyPost_ret (results_none rfl _ _ _) rfl ?_
  exact ⟨rfl, hc, BD.out.trans hb⟩

set_option maxHeartbeats 4000000 in
set_option maxRecDepth 100000 in
theorem ccheck_29 (p a b cc : Nat) (n : Int) (c : Cp) (o i : Value) (w : World) (ha : a < 16)  (hC : CpuAt w p 65 c o i) :
    Calls Tryd.prog 61 #[.pointer (some ⟨p, 0, none⟩), .agg #[.int .i64 29, .int .i64 a, .int .i64 b, .int .i64 cc, .int .i64 n]] w (CPost p (trapC c (c.r.getD a 0)) o i w) := by
  have HC := Lib.hid (hC.alloc (.cells #[.int .i64 29, .int .i64 a, .int .i64 b, .int .i64 cc, .int .i64 n] 51))
  have qa := HC.out.reg ha
  have B0 := Lib.hid ((But.refl [p] w).alloc (.cells #[.int .i64 29, .int .i64 a, .int .i64 b, .int .i64 cc, .int .i64 n] 51))
  have K0 := Lib.hid (Whole.made w 51 #[.int .i64 29, .int .i64 a, .int .i64 b, .int .i64 cc, .int .i64 n] _ rfl)
  have hpn : w.heap.size ≠ p := Nat.ne_of_gt hC.lt
  have haI : (a : Int) < 16 := by omega
  have T := Lib.hid (fun w hC => ctrap_any p c o i (c.r.getD a 0) w hC)
  clear hC
  unfold CPost at *
  go_enter Tryd.func61, Tryd.ntmps61
  go_wp2_with fail
  go_quiet (fail)
  have HD := Lib.hid (HC.out.drawn nq)
  have BD := Lib.hid (B0.out.drawn nq)
  have KD := Lib.hid (K0.out.drawn nq)
  clear HC B0 K0 qa
  generalize (w.alloc (.cells #[.int .i64 29, .int .i64 a, .int .i64 b, .int .i64 cc, .int .i64 n] 51)).drewN nq = W at *
  have k0 : W.cell? ⟨w.heap.size, 0, none⟩ = some (.int .i64 29) := KD.out.cell 0
  go_wp2_with fail
  refine (T.out _ HD.out).mono ?_
  rintro e w' ⟨rfl, hc, hb⟩
  go_wp2_with fail
  first | go_end0 | refine bodyPost_ret (results_none rfl _ _ _) rfl ?_
  exact ⟨rfl, hc, BD.out.trans hb⟩

set_option maxHeartbeats 4000000 in
set_option maxRecDepth 100000 in
theorem cjump_20_true (p a b cc : Nat) (n : Int) (c : Cp) (o i : Value) (w : World) (ha : a < 16) (hd : ((c.r.getD a 0) == 0) = true) (hC : CpuAt w p 65 c o i) :
    Calls Tryd.prog 60 #[.pointer (some ⟨p, 0, none⟩), .agg #[.int .i64 20, .int .i64 a, .int .i64 b, .int .i64 cc, .int .i64 n]] w (CPost p (jumpC c n) o i w) := by
  have HC := Lib.hid (hC.alloc (.cells #[.int .i64 20, .int .i64 a, .int .i64 b, .int .i64 cc, .int .i64 n] 51))
  have qa := HC.out.reg ha
  have B0 := Lib.hid ((But.refl [p] w).alloc (.cells #[.int .i64 20, .int .i64 a, .int .i64 b, .int .i64 cc, .int .i64 n] 51))
  have K0 := Lib.hid (Whole.made w 51 #[.int .i64 20, .int .i64 a, .int .i64 b, .int .i64 cc, .int .i64 n] _ rfl)
  have hpn : w.heap.size ≠ p := Nat.ne_of_gt hC.lt
  have haI : (a : Int) < 16 := by omega
  have R := Lib.hid (fun t w hC => cbranch_any p c o i t n w hC)
  clear hC
  unfold CPost at *
  go_enter Tryd.func60, Tryd.ntmps60
  go_wp2_with fail
  generalize (c.r.getD a 0) = ra at *
  generalize w.alloc (.cells #[.int .i64 20, .int .i64 a, .int .i64 b, .int .i64 cc, .int .i64 n] 51) = V at *
  have k0 : V.cell? ⟨w.heap.size, 0, none⟩ = some (.int .i64 20) := K0.out.cell 0
  have k1 : V.cell? ⟨w.heap.size, 1, none⟩ = some (.int .i64 a) := K0.out.cell 1
  have k4 : V.cell? ⟨w.heap.size, 4, none⟩ = some (.int .i64 n) := K0.out.cell 4
  refine still_tail 11 (by kernel_rfl) (by kernel_rfl) ?_
  simp only [List.take_succ_cons, List.take_zero, List.drop_succ_cons, List.drop_zero]
  repeat still_step
  refine wpStill_nil ?_
  have HD := Lib.hid HC.out.drew
  have BD := Lib.hid B0.out.drew
  have KD := Lib.hid K0.out.drew'
  clear HC B0 K0 qa k0 k1 k4
  generalize V.drew = W at *
  go_wp2_with fail
  refine (R.out true _ HD.out).mono ?_
  rintro e w' ⟨rfl, hc, hb⟩
  go_wp2_with fail
  first | go_end0 | refine bodyPost_ret (results_none rfl _ _ _) rfl ?_
  exact ⟨rfl, hc, BD.out.trans hb⟩

set_option maxHeartbeats 4000000 in
set_option maxRecDepth 100000 in
theorem cjump_20_false (p a b cc : Nat) (n : Int) (c : Cp) (o i : Value) (w : World) (ha : a < 16) (hd : ((c.r.getD a 0) == 0) = false) (hC : CpuAt w p 65 c o i) :
    Calls Tryd.prog 60 #[.pointer (some ⟨p, 0, none⟩), .agg #[.int .i64 20, .int .i64 a, .int .i64 b, .int .i64 cc, .int .i64 n]] w (CPost p (passC c) o i w) := by
  have HC := Lib.hid (hC.alloc (.cells #[.int .i64 20, .int .i64 a, .int .i64 b, .int .i64 cc, .int .i64 n] 51))
  have qa := HC.out.reg ha
  have B0 := Lib.hid ((But.refl [p] w).alloc (.cells #[.int .i64 20, .int .i64 a, .int .i64 b, .int .i64 cc, .int .i64 n] 51))
  have K0 := Lib.hid (Whole.made w 51 #[.int .i64 20, .int .i64 a, .int .i64 b, .int .i64 cc, .int .i64 n] _ rfl)
  have hpn : w.heap.size ≠ p := Nat.ne_of_gt hC.lt
  have haI : (a : Int) < 16 := by omega
  have R := Lib.hid (fun t w hC => cbranch_any p c o i t n w hC)
  clear hC
  unfold CPost at *
  go_enter Tryd.func60, Tryd.ntmps60
  go_wp2_with fail
  generalize (c.r.getD a 0) = ra at *
  generalize w.alloc (.cells #[.int .i64 20, .int .i64 a, .int .i64 b, .int .i64 cc, .int .i64 n] 51) = V at *
  have k0 : V.cell? ⟨w.heap.size, 0, none⟩ = some (.int .i64 20) := K0.out.cell 0
  have k1 : V.cell? ⟨w.heap.size, 1, none⟩ = some (.int .i64 a) := K0.out.cell 1
  have k4 : V.cell? ⟨w.heap.size, 4, none⟩ = some (.int .i64 n) := K0.out.cell 4
  refine still_tail 11 (by kernel_rfl) (by kernel_rfl) ?_
  simp only [List.take_succ_cons, List.take_zero, List.drop_succ_cons, List.drop_zero]
  repeat still_step
  refine wpStill_nil ?_
  have HD := Lib.hid HC.out.drew
  have BD := Lib.hid B0.out.drew
  have KD := Lib.hid K0.out.drew'
  clear HC B0 K0 qa k0 k1 k4
  generalize V.drew = W at *
  go_wp2_with fail
  refine (R.out false _ HD.out).mono ?_
  rintro e w' ⟨rfl, hc, hb⟩
  go_wp2_with fail
  first | go_end0 | refine bodyPost_ret (results_none rfl _ _ _) rfl ?_
  exact ⟨rfl, hc, BD.out.trans hb⟩

set_option maxHeartbeats 4000000 in
set_option maxRecDepth 100000 in
theorem cjump_21_true (p a b cc : Nat) (n : Int) (c : Cp) (o i : Value) (w : World) (ha : a < 16) (hd : ((c.r.getD a 0) != 0) = true) (hC : CpuAt w p 65 c o i) :
    Calls Tryd.prog 60 #[.pointer (some ⟨p, 0, none⟩), .agg #[.int .i64 21, .int .i64 a, .int .i64 b, .int .i64 cc, .int .i64 n]] w (CPost p (jumpC c n) o i w) := by
  have HC := Lib.hid (hC.alloc (.cells #[.int .i64 21, .int .i64 a, .int .i64 b, .int .i64 cc, .int .i64 n] 51))
  have qa := HC.out.reg ha
  have B0 := Lib.hid ((But.refl [p] w).alloc (.cells #[.int .i64 21, .int .i64 a, .int .i64 b, .int .i64 cc, .int .i64 n] 51))
  have K0 := Lib.hid (Whole.made w 51 #[.int .i64 21, .int .i64 a, .int .i64 b, .int .i64 cc, .int .i64 n] _ rfl)
  have hpn : w.heap.size ≠ p := Nat.ne_of_gt hC.lt
  have haI : (a : Int) < 16 := by omega
  have R := Lib.hid (fun t w hC => cbranch_any p c o i t n w hC)
  clear hC
  unfold CPost at *
  go_enter Tryd.func60, Tryd.ntmps60
  go_wp2_with fail
  generalize (c.r.getD a 0) = ra at *
  generalize w.alloc (.cells #[.int .i64 21, .int .i64 a, .int .i64 b, .int .i64 cc, .int .i64 n] 51) = V at *
  have k0 : V.cell? ⟨w.heap.size, 0, none⟩ = some (.int .i64 21) := K0.out.cell 0
  have k1 : V.cell? ⟨w.heap.size, 1, none⟩ = some (.int .i64 a) := K0.out.cell 1
  have k4 : V.cell? ⟨w.heap.size, 4, none⟩ = some (.int .i64 n) := K0.out.cell 4
  refine still_tail 11 (by kernel_rfl) (by kernel_rfl) ?_
  simp only [List.take_succ_cons, List.take_zero, List.drop_succ_cons, List.drop_zero]
  repeat still_step
  refine wpStill_nil ?_
  have HD := Lib.hid HC.out.drew
  have BD := Lib.hid B0.out.drew
  have KD := Lib.hid K0.out.drew'
  clear HC B0 K0 qa k0 k1 k4
  generalize V.drew = W at *
  go_wp2_with fail
  refine (R.out true _ HD.out).mono ?_
  rintro e w' ⟨rfl, hc, hb⟩
  go_wp2_with fail
  first | go_end0 | refine bodyPost_ret (results_none rfl _ _ _) rfl ?_
  exact ⟨rfl, hc, BD.out.trans hb⟩

set_option maxHeartbeats 4000000 in
set_option maxRecDepth 100000 in
theorem cjump_21_false (p a b cc : Nat) (n : Int) (c : Cp) (o i : Value) (w : World) (ha : a < 16) (hd : ((c.r.getD a 0) != 0) = false) (hC : CpuAt w p 65 c o i) :
    Calls Tryd.prog 60 #[.pointer (some ⟨p, 0, none⟩), .agg #[.int .i64 21, .int .i64 a, .int .i64 b, .int .i64 cc, .int .i64 n]] w (CPost p (passC c) o i w) := by
  have HC := Lib.hid (hC.alloc (.cells #[.int .i64 21, .int .i64 a, .int .i64 b, .int .i64 cc, .int .i64 n] 51))
  have qa := HC.out.reg ha
  have B0 := Lib.hid ((But.refl [p] w).alloc (.cells #[.int .i64 21, .int .i64 a, .int .i64 b, .int .i64 cc, .int .i64 n] 51))
  have K0 := Lib.hid (Whole.made w 51 #[.int .i64 21, .int .i64 a, .int .i64 b, .int .i64 cc, .int .i64 n] _ rfl)
  have hpn : w.heap.size ≠ p := Nat.ne_of_gt hC.lt
  have haI : (a : Int) < 16 := by omega
  have R := Lib.hid (fun t w hC => cbranch_any p c o i t n w hC)
  clear hC
  unfold CPost at *
  go_enter Tryd.func60, Tryd.ntmps60
  go_wp2_with fail
  generalize (c.r.getD a 0) = ra at *
  generalize w.alloc (.cells #[.int .i64 21, .int .i64 a, .int .i64 b, .int .i64 cc, .int .i64 n] 51) = V at *
  have k0 : V.cell? ⟨w.heap.size, 0, none⟩ = some (.int .i64 21) := K0.out.cell 0
  have k1 : V.cell? ⟨w.heap.size, 1, none⟩ = some (.int .i64 a) := K0.out.cell 1
  have k4 : V.cell? ⟨w.heap.size, 4, none⟩ = some (.int .i64 n) := K0.out.cell 4
  refine still_tail 11 (by kernel_rfl) (by kernel_rfl) ?_
  simp only [List.take_succ_cons, List.take_zero, List.drop_succ_cons, List.drop_zero]
  repeat still_step
  refine wpStill_nil ?_
  have HD := Lib.hid HC.out.drew
  have BD := Lib.hid B0.out.drew
  have KD := Lib.hid K0.out.drew'
  clear HC B0 K0 qa k0 k1 k4
  generalize V.drew = W at *
  go_wp2_with fail
  refine (R.out false _ HD.out).mono ?_
  rintro e w' ⟨rfl, hc, hb⟩
  go_wp2_with fail
  first | go_end0 | refine bodyPost_ret (results_none rfl _ _ _) rfl ?_
  exact ⟨rfl, hc, BD.out.trans hb⟩

set_option maxHeartbeats 4000000 in
set_option maxRecDepth 100000 in
theorem cjump_22 (p a b cc : Nat) (n : Int) (c : Cp) (o i : Value) (w : World) (ha : a < 16)  (hC : CpuAt w p 65 c o i) :
    Calls Tryd.prog 60 #[.pointer (some ⟨p, 0, none⟩), .agg #[.int .i64 22, .int .i64 a, .int .i64 b, .int .i64 cc, .int .i64 n]] w (CPost p (jumpC c n) o i w) := by
  have HC := Lib.hid (hC.alloc (.cells #[.int .i64 22, .int .i64 a, .int .i64 b, .int .i64 cc, .int .i64 n] 51))
  have qa := HC.out.reg ha
  have B0 := Lib.hid ((But.refl [p] w).alloc (.cells #[.int .i64 22, .int .i64 a, .int .i64 b, .int .i64 cc, .int .i64 n] 51))
  have K0 := Lib.hid (Whole.made w 51 #[.int .i64 22, .int .i64 a, .int .i64 b, .int .i64 cc, .int .i64 n] _ rfl)
  have hpn : w.heap.size ≠ p := Nat.ne_of_gt hC.lt
  have haI : (a : Int) < 16 := by omega
  have R := Lib.hid (fun t w hC => cbranch_any p c o i t n w hC)
  clear hC
  unfold CPost at *
  go_enter Tryd.func60, Tryd.ntmps60
  have BD := B0
  go_wp2_with fail
  refine (R.out true _ HC.out).mono ?_
  rintro e w' ⟨rfl, hc, hb⟩
  go_wp2_with fail
  first | go_end0 | refine bodyPost_ret (results_none rfl _ _ _) rfl ?_
  exact ⟨rfl, hc, BD.out.trans hb⟩

set_option maxHeartbeats 4000000 in
set_option maxRecDepth 100000 in
theorem cjump_23 (p a b cc : Nat) (n : Int) (c : Cp) (o i : Value) (w : World) (ha : a < 16)  (hC : CpuAt w p 65 c o i) :
    Calls Tryd.prog 60 #[.pointer (some ⟨p, 0, none⟩), .agg #[.int .i64 23, .int .i64 a, .int .i64 b, .int .i64 cc, .int .i64 n]] w (CPost p (jumpC { c with r := c.r.set 14 (w32 (c.pc + 4)) } n) o i w) := by
  have HC := Lib.hid (hC.alloc (.cells #[.int .i64 23, .int .i64 a, .int .i64 b, .int .i64 cc, .int .i64 n] 51))
  have qa := HC.out.reg ha
  have B0 := Lib.hid ((But.refl [p] w).alloc (.cells #[.int .i64 23, .int .i64 a, .int .i64 b, .int .i64 cc, .int .i64 n] 51))
  have K0 := Lib.hid (Whole.made w 51 #[.int .i64 23, .int .i64 a, .int .i64 b, .int .i64 cc, .int .i64 n] _ rfl)
  have hpn : w.heap.size ≠ p := Nat.ne_of_gt hC.lt
  have haI : (a : Int) < 16 := by omega
  have R := Lib.hid (fun c w hC => cbranch_any p c o i true n w hC)
  have q16 := HC.out.pc
  have q14 := HC.out.reg (show 14 < 16 by decide)
  have hf := HC.out.free
  clear hC
  unfold CPost at *
  go_enter Tryd.func60, Tryd.ntmps60
  go_wp2_with fail
  generalize w.alloc (.cells #[.int .i64 23, .int .i64 a, .int .i64 b, .int .i64 cc, .int .i64 n] 51) = V at *
  have k0 : V.cell? ⟨w.heap.size, 0, none⟩ = some (.int .i64 23) := K0.out.cell 0
  have k1 : V.cell? ⟨w.heap.size, 1, none⟩ = some (.int .i64 a) := K0.out.cell 1
  have k4 : V.cell? ⟨w.heap.size, 4, none⟩ = some (.int .i64 n) := K0.out.cell 4
  refine still_tail 9 (by kernel_rfl) (by kernel_rfl) ?_
  simp only [List.take_succ_cons, List.take_zero, List.drop_succ_cons, List.drop_zero]
  repeat still_step
  refine wpStill_nil ?_
  have HD := Lib.hid HC.out.drew
  have BD := Lib.hid B0.out.drew
  have KD := Lib.hid K0.out.drew'
  clear q16 q14 hf HC B0 K0 qa k0 k1 k4
  generalize V.drew = W at *
  have q14 := HD.out.reg (show 14 < 16 by decide)
  have hf := HD.out.free
  have HE := Lib.hid (HD.out.set_reg (show 14 < 16 by decide) (w32 (c.pc + 4)))
  have BE := Lib.hid (BD.out.setCell ⟨p, 14, none⟩ (.int .u32 (w32 (c.pc + 4))) (by simp))
  have KE := Lib.hid (KD.out.far (p := ⟨p, 14, none⟩) hpn (.int .u32 (w32 (c.pc + 4))))
  have k4 : (W.setCell ⟨p, 14, none⟩ (.int .u32 (w32 (c.pc + 4)))).cell? ⟨w.heap.size, 4, none⟩ = some (.int .i64 n) := KE.out.cell 4
  clear HD KD
  unfold w32 at HE BE k4
  go_wp2_with fail
  refine (R.out _ _ HE.out).mono ?_
  rintro e w' ⟨rfl, hc, hb⟩
  go_wp2_with fail
  first | go_end0 | refine bodyPost_ret (results_none rfl _ _ _) rfl ?_
  exact ⟨rfl, hc, BE.out.trans hb⟩

set_option maxHeartbeats 4000000 in
set_option maxRecDepth 100000 in
theorem cjump_24 (p a b cc : Nat) (n : Int) (c : Cp) (o i : Value) (w : World) (ha : a < 16)  (hC : CpuAt w p 65 c o i) :
    Calls Tryd.prog 60 #[.pointer (some ⟨p, 0, none⟩), .agg #[.int .i64 24, .int .i64 a, .int .i64 b, .int .i64 cc, .int .i64 n]] w (CPost p ({ c with pc := (c.r.getD a 0) }) o i w) := by
  have HC := Lib.hid (hC.alloc (.cells #[.int .i64 24, .int .i64 a, .int .i64 b, .int .i64 cc, .int .i64 n] 51))
  have qa := HC.out.reg ha
  have B0 := Lib.hid ((But.refl [p] w).alloc (.cells #[.int .i64 24, .int .i64 a, .int .i64 b, .int .i64 cc, .int .i64 n] 51))
  have K0 := Lib.hid (Whole.made w 51 #[.int .i64 24, .int .i64 a, .int .i64 b, .int .i64 cc, .int .i64 n] _ rfl)
  have hpn : w.heap.size ≠ p := Nat.ne_of_gt hC.lt
  have haI : (a : Int) < 16 := by omega
  have hf := HC.out.free
  have q16 := HC.out.pc
  clear hC
  unfold CPost at *
  go_enter Tryd.func60, Tryd.ntmps60
  go_wp2_with fail
  generalize w.alloc (.cells #[.int .i64 24, .int .i64 a, .int .i64 b, .int .i64 cc, .int .i64 n] 51) = V at *
  have k0 : V.cell? ⟨w.heap.size, 0, none⟩ = some (.int .i64 24) := K0.out.cell 0
  have k1 : V.cell? ⟨w.heap.size, 1, none⟩ = some (.int .i64 a) := K0.out.cell 1
  have k4 : V.cell? ⟨w.heap.size, 4, none⟩ = some (.int .i64 n) := K0.out.cell 4
  refine still_tail 10 (by kernel_rfl) (by kernel_rfl) ?_
  simp only [List.take_succ_cons, List.take_zero, List.drop_succ_cons, List.drop_zero]
  repeat still_step
  refine wpStill_nil ?_
  have HD := Lib.hid HC.out.drew
  have BD := Lib.hid B0.out.drew
  have KD := Lib.hid K0.out.drew'
  clear hf q16 HC B0 K0 qa k0 k1 k4
  generalize V.drew = W at *
  have hf := HD.out.free
  have q16 := HD.out.pc
  go_wp2_with fail
  first | go_end0 | refine bodyPost_ret (results_none rfl _ _ _) rfl ?_
  exact ⟨rfl, HD.out.set_pc _, BD.out.setCell _ _ (by simp)⟩

set_option maxHeartbeats 4000000 in
set_option maxRecDepth 100000 in
theorem cjump_25 (p a b cc : Nat) (n : Int) (c : Cp) (o i : Value) (w : World) (ha : a < 16)  (hC : CpuAt w p 65 c o i) :
    Calls Tryd.prog 60 #[.pointer (some ⟨p, 0, none⟩), .agg #[.int .i64 25, .int .i64 a, .int .i64 b, .int .i64 cc, .int .i64 n]] w (CPost p ({ c with r := c.r.set 14 (w32 (c.pc + 4)), pc := (c.r.getD a 0) }) o i w) := by
  have HC := Lib.hid (hC.alloc (.cells #[.int .i64 25, .int .i64 a, .int .i64 b, .int .i64 cc, .int .i64 n] 51))
  have qa := HC.out.reg ha
  have B0 := Lib.hid ((But.refl [p] w).alloc (.cells #[.int .i64 25, .int .i64 a, .int .i64 b, .int .i64 cc, .int .i64 n] 51))
  have K0 := Lib.hid (Whole.made w 51 #[.int .i64 25, .int .i64 a, .int .i64 b, .int .i64 cc, .int .i64 n] _ rfl)
  have hpn : w.heap.size ≠ p := Nat.ne_of_gt hC.lt
  have haI : (a : Int) < 16 := by omega
  have hf := HC.out.free
  have q16 := HC.out.pc
  have q14 := HC.out.reg (show 14 < 16 by decide)
  clear hC
  unfold CPost at *
  go_enter Tryd.func60, Tryd.ntmps60
  go_wp2_with fail
  generalize w.alloc (.cells #[.int .i64 25, .int .i64 a, .int .i64 b, .int .i64 cc, .int .i64 n] 51) = W at *
  have k1 : W.cell? ⟨w.heap.size, 1, none⟩ = some (.int .i64 a) := K0.out.cell 1
  go_region
  go_wp2_with fail
  first | go_end0 | refine bodyPost_ret (results_none rfl _ _ _) rfl ?_
  exact ⟨rfl, ((HC.out.set_reg (show 14 < 16 by decide) _).set_pc _).drew, ((B0.out.setCell _ _ (by simp)).setCell _ _ (by simp)).drew⟩

set_option maxHeartbeats 4000000 in
set_option maxRecDepth 100000 in
theorem cask_0 (p a b cc : Nat) (n : Int) (c : Cp) (o i : Value) (w : World) (ha : a < 16) (hn : n = 0) (hC : CpuAt w p 65 c o i) :
    Calls Tryd.prog 64 #[.pointer (some ⟨p, 0, none⟩), .agg #[.int .i64 33, .int .i64 a, .int .i64 b, .int .i64 cc, .int .i64 n]] w (CPost p (setC c a c.epc) o i w) := by
  have HC := Lib.hid (hC.alloc (.cells #[.int .i64 33, .int .i64 a, .int .i64 b, .int .i64 cc, .int .i64 n] 51))
  have qa := HC.out.reg ha
  have B0 := Lib.hid ((But.refl [p] w).alloc (.cells #[.int .i64 33, .int .i64 a, .int .i64 b, .int .i64 cc, .int .i64 n] 51))
  have K0 := Lib.hid (Whole.made w 51 #[.int .i64 33, .int .i64 a, .int .i64 b, .int .i64 cc, .int .i64 n] _ rfl)
  have hpn : w.heap.size ≠ p := Nat.ne_of_gt hC.lt
  have haI : (a : Int) < 16 := by omega
  have S := Lib.hid (fun v w hC => cset_any p a c o i v w ha hC)
  have q17 := HC.out.epc
  have q18 := HC.out.cause
  subst hn
  clear hC
  unfold CPost at *
  go_enter Tryd.func64, Tryd.ntmps64
  go_wp2_with fail
  generalize w.alloc (.cells #[.int .i64 33, .int .i64 a, .int .i64 b, .int .i64 cc, .int .i64 0] 51) = V at *
  have k0 : V.cell? ⟨w.heap.size, 0, none⟩ = some (.int .i64 33) := K0.out.cell 0
  have k1 : V.cell? ⟨w.heap.size, 1, none⟩ = some (.int .i64 a) := K0.out.cell 1
  have k4 : V.cell? ⟨w.heap.size, 4, none⟩ = some (.int .i64 0) := K0.out.cell 4
  refine still_tail 7 (by kernel_rfl) (by kernel_rfl) ?_
  simp only [List.take_succ_cons, List.take_zero, List.drop_succ_cons, List.drop_zero]
  repeat still_step
  refine wpStill_nil ?_
  have HD := Lib.hid HC.out.drew
  have BD := Lib.hid B0.out.drew
  have KD := Lib.hid K0.out.drew'
  clear q17 q18 HC B0 K0 qa k0 k1 k4
  generalize V.drew = W at *
  go_wp2_with fail
  refine (S.out _ _ HD.out).mono ?_
  rintro e w' ⟨rfl, hc, hb⟩
  go_wp2_with fail
  first | go_end0 | refine bodyPost_ret (results_none rfl _ _ _) rfl ?_
  exact ⟨rfl, hc, BD.out.trans hb⟩

set_option maxHeartbeats 4000000 in
set_option maxRecDepth 100000 in
theorem cask_1 (p a b cc : Nat) (n : Int) (c : Cp) (o i : Value) (w : World) (ha : a < 16) (hn : n = 1) (hC : CpuAt w p 65 c o i) :
    Calls Tryd.prog 64 #[.pointer (some ⟨p, 0, none⟩), .agg #[.int .i64 33, .int .i64 a, .int .i64 b, .int .i64 cc, .int .i64 n]] w (CPost p (setC c a c.cause) o i w) := by
  have HC := Lib.hid (hC.alloc (.cells #[.int .i64 33, .int .i64 a, .int .i64 b, .int .i64 cc, .int .i64 n] 51))
  have qa := HC.out.reg ha
  have B0 := Lib.hid ((But.refl [p] w).alloc (.cells #[.int .i64 33, .int .i64 a, .int .i64 b, .int .i64 cc, .int .i64 n] 51))
  have K0 := Lib.hid (Whole.made w 51 #[.int .i64 33, .int .i64 a, .int .i64 b, .int .i64 cc, .int .i64 n] _ rfl)
  have hpn : w.heap.size ≠ p := Nat.ne_of_gt hC.lt
  have haI : (a : Int) < 16 := by omega
  have S := Lib.hid (fun v w hC => cset_any p a c o i v w ha hC)
  have q17 := HC.out.epc
  have q18 := HC.out.cause
  subst hn
  clear hC
  unfold CPost at *
  go_enter Tryd.func64, Tryd.ntmps64
  go_wp2_with fail
  generalize w.alloc (.cells #[.int .i64 33, .int .i64 a, .int .i64 b, .int .i64 cc, .int .i64 1] 51) = V at *
  have k0 : V.cell? ⟨w.heap.size, 0, none⟩ = some (.int .i64 33) := K0.out.cell 0
  have k1 : V.cell? ⟨w.heap.size, 1, none⟩ = some (.int .i64 a) := K0.out.cell 1
  have k4 : V.cell? ⟨w.heap.size, 4, none⟩ = some (.int .i64 1) := K0.out.cell 4
  refine still_tail 7 (by kernel_rfl) (by kernel_rfl) ?_
  simp only [List.take_succ_cons, List.take_zero, List.drop_succ_cons, List.drop_zero]
  repeat still_step
  refine wpStill_nil ?_
  have HD := Lib.hid HC.out.drew
  have BD := Lib.hid B0.out.drew
  have KD := Lib.hid K0.out.drew'
  clear q17 q18 HC B0 K0 qa k0 k1 k4
  generalize V.drew = W at *
  go_wp2_with fail
  refine (S.out _ _ HD.out).mono ?_
  rintro e w' ⟨rfl, hc, hb⟩
  go_wp2_with fail
  first | go_end0 | refine bodyPost_ret (results_none rfl _ _ _) rfl ?_
  exact ⟨rfl, hc, BD.out.trans hb⟩

set_option maxHeartbeats 4000000 in
set_option maxRecDepth 100000 in
theorem cask_2 (p a b cc : Nat) (n : Int) (c : Cp) (o i : Value) (w : World) (ha : a < 16) (h0 : (n == 0) = false) (h1 : (n == 1) = false) (hC : CpuAt w p 65 c o i) :
    Calls Tryd.prog 64 #[.pointer (some ⟨p, 0, none⟩), .agg #[.int .i64 33, .int .i64 a, .int .i64 b, .int .i64 cc, .int .i64 n]] w (CPost p (faultC c 20) o i w) := by
  have HC := Lib.hid (hC.alloc (.cells #[.int .i64 33, .int .i64 a, .int .i64 b, .int .i64 cc, .int .i64 n] 51))
  have qa := HC.out.reg ha
  have B0 := Lib.hid ((But.refl [p] w).alloc (.cells #[.int .i64 33, .int .i64 a, .int .i64 b, .int .i64 cc, .int .i64 n] 51))
  have K0 := Lib.hid (Whole.made w 51 #[.int .i64 33, .int .i64 a, .int .i64 b, .int .i64 cc, .int .i64 n] _ rfl)
  have hpn : w.heap.size ≠ p := Nat.ne_of_gt hC.lt
  have haI : (a : Int) < 16 := by omega
  have R := Lib.hid (fun w hC => cfault_any p c o i 20 w hC)
  clear hC
  unfold CPost at *
  go_enter Tryd.func64, Tryd.ntmps64
  have BD := B0
  go_wp2_with fail
  refine (R.out _ HC.out).mono ?_
  rintro e w' ⟨rfl, hc, hb⟩
  go_wp2_with fail
  first | go_end0 | refine bodyPost_ret (results_none rfl _ _ _) rfl ?_
  exact ⟨rfl, hc, BD.out.trans hb⟩

end Go.Proofs.YtlmokkopaididaaDoor
