/- CpuE CpuG CpuH0 CpuH1 CpuH2 CpuJ in one. -/
import Derived.Test.YtinpdgjbiimgkaaDoorCpuB
import Derived.Test.YtinpdgjbiimgkaaDoorCpuC
import Derived.Test.YtinpdgjbiimgkaaDoorCpuF
import Derived.Test.YtinpdgjbiimgkaaDoorCpuD
import Derived.Test.YtinpdgjbiimgkaaDoorCpuI
import Derived.Test.YtinpdgjbiimgkaaDoorCpuP

/- Package cpu: check, jump, ask, by operation. -/
namespace Go.Proofs.YtinpdgjbiimgkaaDoor
open Go.ChangeShapes Go.WideShapes Go.ChangeAt Go.RowKit
set_option linter.unusedVariables false

set_option maxHeartbeats 4000000 in
set_option maxRecDepth 100000 in
theorem ccheck_26_true (p a b cc : Nat) (n : Int) (c : Cp) (o i : Value) (w : World) (ha : a < 16) (hb : b < 16) (hd : decide ((c.r.getD a 0) < n % 4294967296) = true) (hC : CpuAt w p 67 c o i) :
    Calls Tryd.prog 57 #[.pointer (some ⟨p, 0, none⟩), .agg #[.int .i64 26, .int .i64 a, .int .i64 b, .int .i64 cc, .int .i64 n]] w (CPost p (passC c) o i w) := by
  have HC := Lib.hid (hC.alloc (.cells #[.int .i64 26, .int .i64 a, .int .i64 b, .int .i64 cc, .int .i64 n] 51))
  have qa := HC.out.reg ha
  have B0 := Lib.hid ((But.refl [p] w).alloc (.cells #[.int .i64 26, .int .i64 a, .int .i64 b, .int .i64 cc, .int .i64 n] 51))
  have K0 := Lib.hid (Whole.made w 51 #[.int .i64 26, .int .i64 a, .int .i64 b, .int .i64 cc, .int .i64 n] _ rfl)
  have hpn : w.heap.size ≠ p := Nat.ne_of_gt hC.lt
  have haI : (a : Int) < 16 := by omega
  have R := Lib.hid (fun t w hC => crequire_any p c o i t b w hC)
  clear hC
  unfold CPost at *
  go_enter Tryd.func57, Tryd.ntmps57
  go_wp2_with fail
  generalize (c.r.getD a 0) = ra at *
  go_quiet (fail)
  have HD := Lib.hid (HC.out.drawn nq)
  have BD := Lib.hid (B0.out.drawn nq)
  have KD := Lib.hid (K0.out.drawn nq)
  clear HC B0 K0 qa
  generalize (w.alloc (.cells #[.int .i64 26, .int .i64 a, .int .i64 b, .int .i64 cc, .int .i64 n] 51)).drewN nq = W at *
  have k0 : W.cell? ⟨w.heap.size, 0, none⟩ = some (.int .i64 26) := KD.out.cell 0
  have k2 : W.cell? ⟨w.heap.size, 2, none⟩ = some (.int .i64 b) := KD.out.cell 2
  have k4 : W.cell? ⟨w.heap.size, 4, none⟩ = some (.int .i64 n) := KD.out.cell 4
  go_wp2_with fail
  refine (R.out true _ HD.out).mono ?_
  rintro e w' ⟨rfl, hc, hb⟩
  go_wp2_with fail
  first | go_end0 | refine bodyPost_ret (results_none rfl _ _ _) rfl ?_
  exact ⟨rfl, hc, BD.out.trans hb⟩

set_option maxHeartbeats 4000000 in
set_option maxRecDepth 100000 in
theorem ccheck_27_true (p a b cc : Nat) (n : Int) (c : Cp) (o i : Value) (w : World) (ha : a < 16) (hd : ((c.r.getD a 0) != 0) = true) (hC : CpuAt w p 67 c o i) :
    Calls Tryd.prog 57 #[.pointer (some ⟨p, 0, none⟩), .agg #[.int .i64 27, .int .i64 a, .int .i64 b, .int .i64 cc, .int .i64 n]] w (CPost p (passC c) o i w) := by
  have HC := Lib.hid (hC.alloc (.cells #[.int .i64 27, .int .i64 a, .int .i64 b, .int .i64 cc, .int .i64 n] 51))
  have qa := HC.out.reg ha
  have B0 := Lib.hid ((But.refl [p] w).alloc (.cells #[.int .i64 27, .int .i64 a, .int .i64 b, .int .i64 cc, .int .i64 n] 51))
  have K0 := Lib.hid (Whole.made w 51 #[.int .i64 27, .int .i64 a, .int .i64 b, .int .i64 cc, .int .i64 n] _ rfl)
  have hpn : w.heap.size ≠ p := Nat.ne_of_gt hC.lt
  have haI : (a : Int) < 16 := by omega
  have R := Lib.hid (fun t w hC => crequire_any p c o i t 2 w hC)
  clear hC
  unfold CPost at *
  go_enter Tryd.func57, Tryd.ntmps57
  go_wp2_with fail
  generalize (c.r.getD a 0) = ra at *
  go_quiet (fail)
  have HD := Lib.hid (HC.out.drawn nq)
  have BD := Lib.hid (B0.out.drawn nq)
  have KD := Lib.hid (K0.out.drawn nq)
  clear HC B0 K0 qa
  generalize (w.alloc (.cells #[.int .i64 27, .int .i64 a, .int .i64 b, .int .i64 cc, .int .i64 n] 51)).drewN nq = W at *
  have k0 : W.cell? ⟨w.heap.size, 0, none⟩ = some (.int .i64 27) := KD.out.cell 0
  go_wp2_with fail
  refine (R.out true _ HD.out).mono ?_
  rintro e w' ⟨rfl, hc, hb⟩
  go_wp2_with fail
  first | go_end0 | refine bodyPost_ret (results_none rfl _ _ _) rfl ?_
  exact ⟨rfl, hc, BD.out.trans hb⟩

set_option maxHeartbeats 4000000 in
set_option maxRecDepth 100000 in
theorem ccheck_32_true (p a b cc : Nat) (n : Int) (c : Cp) (o i : Value) (w : World) (ha : a < 16) (hd : decide (wrap32 c.li ≤ wrap32 (c.r.getD a 0)) = true) (hC : CpuAt w p 67 c o i) :
    Calls Tryd.prog 57 #[.pointer (some ⟨p, 0, none⟩), .agg #[.int .i64 32, .int .i64 a, .int .i64 b, .int .i64 cc, .int .i64 n]] w (CPost p (passC c) o i w) := by
  have HC := Lib.hid (hC.alloc (.cells #[.int .i64 32, .int .i64 a, .int .i64 b, .int .i64 cc, .int .i64 n] 51))
  have qa := HC.out.reg ha
  have B0 := Lib.hid ((But.refl [p] w).alloc (.cells #[.int .i64 32, .int .i64 a, .int .i64 b, .int .i64 cc, .int .i64 n] 51))
  have K0 := Lib.hid (Whole.made w 51 #[.int .i64 32, .int .i64 a, .int .i64 b, .int .i64 cc, .int .i64 n] _ rfl)
  have hpn : w.heap.size ≠ p := Nat.ne_of_gt hC.lt
  have haI : (a : Int) < 16 := by omega
  have R := Lib.hid (fun t w hC => crequire_any p c o i t 5 w hC)
  clear hC
  unfold CPost at *
  go_enter Tryd.func57, Tryd.ntmps57
  go_wp2_with fail
  generalize (c.r.getD a 0) = ra at *
  go_quiet (fail)
  have HD := Lib.hid (HC.out.drawn nq)
  have BD := Lib.hid (B0.out.drawn nq)
  have KD := Lib.hid (K0.out.drawn nq)
  clear HC B0 K0 qa
  generalize (w.alloc (.cells #[.int .i64 32, .int .i64 a, .int .i64 b, .int .i64 cc, .int .i64 n] 51)).drewN nq = W at *
  have k0 : W.cell? ⟨w.heap.size, 0, none⟩ = some (.int .i64 32) := KD.out.cell 0
  have q27 := HD.out.li
  go_wp2_with fail
  refine (R.out true _ HD.out).mono ?_
  rintro e w' ⟨rfl, hc, hb⟩
  go_wp2_with fail
  first | go_end0 | refine bodyPost_ret (results_none rfl _ _ _) rfl ?_
  exact ⟨rfl, hc, BD.out.trans hb⟩

set_option maxHeartbeats 4000000 in
set_option maxRecDepth 100000 in
theorem ccheck_26_false (p a b cc : Nat) (n : Int) (c : Cp) (o i : Value) (w : World) (ha : a < 16) (hb : b < 16) (hd : decide ((c.r.getD a 0) < n % 4294967296) = false) (hC : CpuAt w p 67 c o i) :
    Calls Tryd.prog 57 #[.pointer (some ⟨p, 0, none⟩), .agg #[.int .i64 26, .int .i64 a, .int .i64 b, .int .i64 cc, .int .i64 n]] w (CPost p (trapC c b) o i w) := by
  have HC := Lib.hid (hC.alloc (.cells #[.int .i64 26, .int .i64 a, .int .i64 b, .int .i64 cc, .int .i64 n] 51))
  have qa := HC.out.reg ha
  have B0 := Lib.hid ((But.refl [p] w).alloc (.cells #[.int .i64 26, .int .i64 a, .int .i64 b, .int .i64 cc, .int .i64 n] 51))
  have K0 := Lib.hid (Whole.made w 51 #[.int .i64 26, .int .i64 a, .int .i64 b, .int .i64 cc, .int .i64 n] _ rfl)
  have hpn : w.heap.size ≠ p := Nat.ne_of_gt hC.lt
  have haI : (a : Int) < 16 := by omega
  have R := Lib.hid (fun t w hC => crequire_any p c o i t b w hC)
  clear hC
  unfold CPost at *
  go_enter Tryd.func57, Tryd.ntmps57
  go_wp2_with fail
  generalize (c.r.getD a 0) = ra at *
  go_quiet (fail)
  have HD := Lib.hid (HC.out.drawn nq)
  have BD := Lib.hid (B0.out.drawn nq)
  have KD := Lib.hid (K0.out.drawn nq)
  clear HC B0 K0 qa
  generalize (w.alloc (.cells #[.int .i64 26, .int .i64 a, .int .i64 b, .int .i64 cc, .int .i64 n] 51)).drewN nq = W at *
  have k0 : W.cell? ⟨w.heap.size, 0, none⟩ = some (.int .i64 26) := KD.out.cell 0
  have k2 : W.cell? ⟨w.heap.size, 2, none⟩ = some (.int .i64 b) := KD.out.cell 2
  have k4 : W.cell? ⟨w.heap.size, 4, none⟩ = some (.int .i64 n) := KD.out.cell 4
  go_wp2_with fail
  refine (R.out false _ HD.out).mono ?_
  rintro e w' ⟨rfl, hc, hb⟩
  go_wp2_with fail
  first | go_end0 | refine bodyPost_ret (results_none rfl _ _ _) rfl ?_
  exact ⟨rfl, hc, BD.out.trans hb⟩

set_option maxHeartbeats 4000000 in
set_option maxRecDepth 100000 in
theorem ccheck_27_false (p a b cc : Nat) (n : Int) (c : Cp) (o i : Value) (w : World) (ha : a < 16) (hd : ((c.r.getD a 0) != 0) = false) (hC : CpuAt w p 67 c o i) :
    Calls Tryd.prog 57 #[.pointer (some ⟨p, 0, none⟩), .agg #[.int .i64 27, .int .i64 a, .int .i64 b, .int .i64 cc, .int .i64 n]] w (CPost p (trapC c 2) o i w) := by
  have HC := Lib.hid (hC.alloc (.cells #[.int .i64 27, .int .i64 a, .int .i64 b, .int .i64 cc, .int .i64 n] 51))
  have qa := HC.out.reg ha
  have B0 := Lib.hid ((But.refl [p] w).alloc (.cells #[.int .i64 27, .int .i64 a, .int .i64 b, .int .i64 cc, .int .i64 n] 51))
  have K0 := Lib.hid (Whole.made w 51 #[.int .i64 27, .int .i64 a, .int .i64 b, .int .i64 cc, .int .i64 n] _ rfl)
  have hpn : w.heap.size ≠ p := Nat.ne_of_gt hC.lt
  have haI : (a : Int) < 16 := by omega
  have R := Lib.hid (fun t w hC => crequire_any p c o i t 2 w hC)
  clear hC
  unfold CPost at *
  go_enter Tryd.func57, Tryd.ntmps57
  go_wp2_with fail
  generalize (c.r.getD a 0) = ra at *
  go_quiet (fail)
  have HD := Lib.hid (HC.out.drawn nq)
  have BD := Lib.hid (B0.out.drawn nq)
  have KD := Lib.hid (K0.out.drawn nq)
  clear HC B0 K0 qa
  generalize (w.alloc (.cells #[.int .i64 27, .int .i64 a, .int .i64 b, .int .i64 cc, .int .i64 n] 51)).drewN nq = W at *
  have k0 : W.cell? ⟨w.heap.size, 0, none⟩ = some (.int .i64 27) := KD.out.cell 0
  go_wp2_with fail
  refine (R.out false _ HD.out).mono ?_
  rintro e w' ⟨rfl, hc, hb⟩
  go_wp2_with fail
  first | go_end0 | refine bodyPost_ret (results_none rfl _ _ _) rfl ?_
  exact ⟨rfl, hc, BD.out.trans hb⟩

set_option maxHeartbeats 4000000 in
set_option maxRecDepth 100000 in
theorem ccheck_32_false (p a b cc : Nat) (n : Int) (c : Cp) (o i : Value) (w : World) (ha : a < 16) (hd : decide (wrap32 c.li ≤ wrap32 (c.r.getD a 0)) = false) (hC : CpuAt w p 67 c o i) :
    Calls Tryd.prog 57 #[.pointer (some ⟨p, 0, none⟩), .agg #[.int .i64 32, .int .i64 a, .int .i64 b, .int .i64 cc, .int .i64 n]] w (CPost p (trapC c 5) o i w) := by
  have HC := Lib.hid (hC.alloc (.cells #[.int .i64 32, .int .i64 a, .int .i64 b, .int .i64 cc, .int .i64 n] 51))
  have qa := HC.out.reg ha
  have B0 := Lib.hid ((But.refl [p] w).alloc (.cells #[.int .i64 32, .int .i64 a, .int .i64 b, .int .i64 cc, .int .i64 n] 51))
  have K0 := Lib.hid (Whole.made w 51 #[.int .i64 32, .int .i64 a, .int .i64 b, .int .i64 cc, .int .i64 n] _ rfl)
  have hpn : w.heap.size ≠ p := Nat.ne_of_gt hC.lt
  have haI : (a : Int) < 16 := by omega
  have R := Lib.hid (fun t w hC => crequire_any p c o i t 5 w hC)
  clear hC
  unfold CPost at *
  go_enter Tryd.func57, Tryd.ntmps57
  go_wp2_with fail
  generalize (c.r.getD a 0) = ra at *
  go_quiet (fail)
  have HD := Lib.hid (HC.out.drawn nq)
  have BD := Lib.hid (B0.out.drawn nq)
  have KD := Lib.hid (K0.out.drawn nq)
  clear HC B0 K0 qa
  generalize (w.alloc (.cells #[.int .i64 32, .int .i64 a, .int .i64 b, .int .i64 cc, .int .i64 n] 51)).drewN nq = W at *
  have k0 : W.cell? ⟨w.heap.size, 0, none⟩ = some (.int .i64 32) := KD.out.cell 0
  have q27 := HD.out.li
  go_wp2_with fail
  refine (R.out false _ HD.out).mono ?_
  rintro e w' ⟨rfl, hc, hb⟩
  go_wp2_with fail
  first | go_end0 | refine bodyPost_ret (results_none rfl _ _ _) rfl ?_
  exact ⟨rfl, hc, BD.out.trans hb⟩

set_option maxHeartbeats 4000000 in
set_option maxRecDepth 100000 in
theorem ccheck_28 (p a b cc : Nat) (n : Int) (c : Cp) (o i : Value) (w : World) (ha : a < 16)  (hC : CpuAt w p 67 c o i) :
    Calls Tryd.prog 57 #[.pointer (some ⟨p, 0, none⟩), .agg #[.int .i64 28, .int .i64 a, .int .i64 b, .int .i64 cc, .int .i64 n]] w (CPost p (trapC c (w32 n)) o i w) := by
  have HC := Lib.hid (hC.alloc (.cells #[.int .i64 28, .int .i64 a, .int .i64 b, .int .i64 cc, .int .i64 n] 51))
  have qa := HC.out.reg ha
  have B0 := Lib.hid ((But.refl [p] w).alloc (.cells #[.int .i64 28, .int .i64 a, .int .i64 b, .int .i64 cc, .int .i64 n] 51))
  have K0 := Lib.hid (Whole.made w 51 #[.int .i64 28, .int .i64 a, .int .i64 b, .int .i64 cc, .int .i64 n] _ rfl)
  have hpn : w.heap.size ≠ p := Nat.ne_of_gt hC.lt
  have haI : (a : Int) < 16 := by omega
  have T := Lib.hid (fun w hC => ctrap_any p c o i (w32 n) w hC)
  clear hC
  unfold CPost at *
  go_enter Tryd.func57, Tryd.ntmps57
  go_wp2_with fail
  generalize (c.r.getD a 0) = ra at *
  go_quiet (fail)
  have HD := Lib.hid (HC.out.drawn nq)
  have BD := Lib.hid (B0.out.drawn nq)
  have KD := Lib.hid (K0.out.drawn nq)
  clear HC B0 K0 qa
  generalize (w.alloc (.cells #[.int .i64 28, .int .i64 a, .int .i64 b, .int .i64 cc, .int .i64 n] 51)).drewN nq = W at *
  have k0 : W.cell? ⟨w.heap.size, 0, none⟩ = some (.int .i64 28) := KD.out.cell 0
  have k4 : W.cell? ⟨w.heap.size, 4, none⟩ = some (.int .i64 n) := KD.out.cell 4
  go_wp2_with fail
  refine (T.out _ HD.out).mono ?_
  rintro e w' ⟨rfl, hc, hb⟩
  go_wp2_with fail
  first | go_end0 | refine bodyPost_ret (results_none rfl _ _ _) rfl ?_
  exact ⟨rfl, hc, BD.out.trans hb⟩

set_option maxHeartbeats 4000000 in
set_option maxRecDepth 100000 in
theorem ccheck_29 (p a b cc : Nat) (n : Int) (c : Cp) (o i : Value) (w : World) (ha : a < 16)  (hC : CpuAt w p 67 c o i) :
    Calls Tryd.prog 57 #[.pointer (some ⟨p, 0, none⟩), .agg #[.int .i64 29, .int .i64 a, .int .i64 b, .int .i64 cc, .int .i64 n]] w (CPost p (trapC c (c.r.getD a 0)) o i w) := by
  have HC := Lib.hid (hC.alloc (.cells #[.int .i64 29, .int .i64 a, .int .i64 b, .int .i64 cc, .int .i64 n] 51))
  have qa := HC.out.reg ha
  have B0 := Lib.hid ((But.refl [p] w).alloc (.cells #[.int .i64 29, .int .i64 a, .int .i64 b, .int .i64 cc, .int .i64 n] 51))
  have K0 := Lib.hid (Whole.made w 51 #[.int .i64 29, .int .i64 a, .int .i64 b, .int .i64 cc, .int .i64 n] _ rfl)
  have hpn : w.heap.size ≠ p := Nat.ne_of_gt hC.lt
  have haI : (a : Int) < 16 := by omega
  have T := Lib.hid (fun w hC => ctrap_any p c o i (c.r.getD a 0) w hC)
  clear hC
  unfold CPost at *
  go_enter Tryd.func57, Tryd.ntmps57
  go_wp2_with fail
  go_quiet (fail)
  have HD := Lib.hid (HC.out.drawn nq)
  have BD := Lib.hid (B0.out.drawn nq)
  have KD := Lib.hid (K0.out.drawn nq)
  clear HC B0 K0 qa
  generalize (w.alloc (.cells #[.int .i64 29, .int .i64 a, .int .i64 b, .int .i64 cc, .int .i64 n] 51)).drewN nq = W at *
  have k0 : W.cell? ⟨w.heap.size, 0, none⟩ = some (.int .i64 29) := KD.out.cell 0
  go_wp2_with fail
  refine (T.out _ HD.out).mono ?_
  rintro e w' ⟨rfl, hc, hb⟩
  go_wp2_with fail
  first | go_end0 | refine bodyPost_ret (results_none rfl _ _ _) rfl ?_
  exact ⟨rfl, hc, BD.out.trans hb⟩

set_option maxHeartbeats 4000000 in
set_option maxRecDepth 100000 in
theorem cjump_20_true (p a b cc : Nat) (n : Int) (c : Cp) (o i : Value) (w : World) (ha : a < 16) (hd : ((c.r.getD a 0) == 0) = true) (hC : CpuAt w p 67 c o i) :
    Calls Tryd.prog 56 #[.pointer (some ⟨p, 0, none⟩), .agg #[.int .i64 20, .int .i64 a, .int .i64 b, .int .i64 cc, .int .i64 n]] w (CPost p (jumpC c n) o i w) := by
  have HC := Lib.hid (hC.alloc (.cells #[.int .i64 20, .int .i64 a, .int .i64 b, .int .i64 cc, .int .i64 n] 51))
  have qa := HC.out.reg ha
  have B0 := Lib.hid ((But.refl [p] w).alloc (.cells #[.int .i64 20, .int .i64 a, .int .i64 b, .int .i64 cc, .int .i64 n] 51))
  have K0 := Lib.hid (Whole.made w 51 #[.int .i64 20, .int .i64 a, .int .i64 b, .int .i64 cc, .int .i64 n] _ rfl)
  have hpn : w.heap.size ≠ p := Nat.ne_of_gt hC.lt
  have haI : (a : Int) < 16 := by omega
  have R := Lib.hid (fun t w hC => cbranch_any p c o i t n w hC)
  clear hC
  unfold CPost at *
  go_enter Tryd.func56, Tryd.ntmps56
  go_wp2_with fail
  generalize (c.r.getD a 0) = ra at *
  generalize w.alloc (.cells #[.int .i64 20, .int .i64 a, .int .i64 b, .int .i64 cc, .int .i64 n] 51) = V at *
  have k0 : V.cell? ⟨w.heap.size, 0, none⟩ = some (.int .i64 20) := K0.out.cell 0
  have k1 : V.cell? ⟨w.heap.size, 1, none⟩ = some (.int .i64 a) := K0.out.cell 1
  have k4 : V.cell? ⟨w.heap.size, 4, none⟩ = some (.int .i64 n) := K0.out.cell 4
  refine still_tail 11 (by kernel_rfl) (by kernel_rfl) ?_
  simp only [List.take_succ_cons, List.take_zero, List.drop_succ_cons, List.drop_zero]
  repeat still_step
  refine wpStill_nil ?_
  have HD := Lib.hid HC.out.drew
  have BD := Lib.hid B0.out.drew
  have KD := Lib.hid K0.out.drew'
  clear HC B0 K0 qa k0 k1 k4
  generalize V.drew = W at *
  go_wp2_with fail
  refine (R.out true _ HD.out).mono ?_
  rintro e w' ⟨rfl, hc, hb⟩
  go_wp2_with fail
  first | go_end0 | refine bodyPost_ret (results_none rfl _ _ _) rfl ?_
  exact ⟨rfl, hc, BD.out.trans hb⟩

set_option maxHeartbeats 4000000 in
set_option maxRecDepth 100000 in
theorem cjump_20_false (p a b cc : Nat) (n : Int) (c : Cp) (o i : Value) (w : World) (ha : a < 16) (hd : ((c.r.getD a 0) == 0) = false) (hC : CpuAt w p 67 c o i) :
    Calls Tryd.prog 56 #[.pointer (some ⟨p, 0, none⟩), .agg #[.int .i64 20, .int .i64 a, .int .i64 b, .int .i64 cc, .int .i64 n]] w (CPost p (passC c) o i w) := by
  have HC := Lib.hid (hC.alloc (.cells #[.int .i64 20, .int .i64 a, .int .i64 b, .int .i64 cc, .int .i64 n] 51))
  have qa := HC.out.reg ha
  have B0 := Lib.hid ((But.refl [p] w).alloc (.cells #[.int .i64 20, .int .i64 a, .int .i64 b, .int .i64 cc, .int .i64 n] 51))
  have K0 := Lib.hid (Whole.made w 51 #[.int .i64 20, .int .i64 a, .int .i64 b, .int .i64 cc, .int .i64 n] _ rfl)
  have hpn : w.heap.size ≠ p := Nat.ne_of_gt hC.lt
  have haI : (a : Int) < 16 := by omega
  have R := Lib.hid (fun t w hC => cbranch_any p c o i t n w hC)
  clear hC
  unfold CPost at *
  go_enter Tryd.func56, Tryd.ntmps56
  go_wp2_with fail
  generalize (c.r.getD a 0) = ra at *
  generalize w.alloc (.cells #[.int .i64 20, .int .i64 a, .int .i64 b, .int .i64 cc, .int .i64 n] 51) = V at *
  have k0 : V.cell? ⟨w.heap.size, 0, none⟩ = some (.int .i64 20) := K0.out.cell 0
  have k1 : V.cell? ⟨w.heap.size, 1, none⟩ = some (.int .i64 a) := K0.out.cell 1
  have k4 : V.cell? ⟨w.heap.size, 4, none⟩ = some (.int .i64 n) := K0.out.cell 4
  refine still_tail 11 (by kernel_rfl) (by kernel_rfl) ?_
  simp only [List.take_succ_cons, List.take_zero, List.drop_succ_cons, List.drop_zero]
  repeat still_step
  refine wpStill_nil ?_
  have HD := Lib.hid HC.out.drew
  have BD := Lib.hid B0.out.drew
  have KD := Lib.hid K0.out.drew'
  clear HC B0 K0 qa k0 k1 k4
  generalize V.drew = W at *
  go_wp2_with fail
  refine (R.out false _ HD.out).mono ?_
  rintro e w' ⟨rfl, hc, hb⟩
  go_wp2_with fail
  first | go_end0 | refine bodyPost_ret (results_none rfl _ _ _) rfl ?_
  exact ⟨rfl, hc, BD.out.trans hb⟩

set_option maxHeartbeats 4000000 in
set_option maxRecDepth 100000 in
theorem cjump_21_true (p a b cc : Nat) (n : Int) (c : Cp) (o i : Value) (w : World) (ha : a < 16) (hd : ((c.r.getD a 0) != 0) = true) (hC : CpuAt w p 67 c o i) :
    Calls Tryd.prog 56 #[.pointer (some ⟨p, 0, none⟩), .agg #[.int .i64 21, .int .i64 a, .int .i64 b, .int .i64 cc, .int .i64 n]] w (CPost p (jumpC c n) o i w) := by
  have HC := Lib.hid (hC.alloc (.cells #[.int .i64 21, .int .i64 a, .int .i64 b, .int .i64 cc, .int .i64 n] 51))
  have qa := HC.out.reg ha
  have B0 := Lib.hid ((But.refl [p] w).alloc (.cells #[.int .i64 21, .int .i64 a, .int .i64 b, .int .i64 cc, .int .i64 n] 51))
  have K0 := Lib.hid (Whole.made w 51 #[.int .i64 21, .int .i64 a, .int .i64 b, .int .i64 cc, .int .i64 n] _ rfl)
  have hpn : w.heap.size ≠ p := Nat.ne_of_gt hC.lt
  have haI : (a : Int) < 16 := by omega
  have R := Lib.hid (fun t w hC => cbranch_any p c o i t n w hC)
  clear hC
  unfold CPost at *
  go_enter Tryd.func56, Tryd.ntmps56
  go_wp2_with fail
  generalize (c.r.getD a 0) = ra at *
  generalize w.alloc (.cells #[.int .i64 21, .int .i64 a, .int .i64 b, .int .i64 cc, .int .i64 n] 51) = V at *
  have k0 : V.cell? ⟨w.heap.size, 0, none⟩ = some (.int .i64 21) := K0.out.cell 0
  have k1 : V.cell? ⟨w.heap.size, 1, none⟩ = some (.int .i64 a) := K0.out.cell 1
  have k4 : V.cell? ⟨w.heap.size, 4, none⟩ = some (.int .i64 n) := K0.out.cell 4
  refine still_tail 11 (by kernel_rfl) (by kernel_rfl) ?_
  simp only [List.take_succ_cons, List.take_zero, List.drop_succ_cons, List.drop_zero]
  repeat still_step
  refine wpStill_nil ?_
  have HD := Lib.hid HC.out.drew
  have BD := Lib.hid B0.out.drew
  have KD := Lib.hid K0.out.drew'
  clear HC B0 K0 qa k0 k1 k4
  generalize V.drew = W at *
  go_wp2_with fail
  refine (R.out true _ HD.out).mono ?_
  rintro e w' ⟨rfl, hc, hb⟩
  go_wp2_with fail
  first | go_end0 | refine bodyPost_ret (results_none rfl _ _ _) rfl ?_
  exact ⟨rfl, hc, BD.out.trans hb⟩

set_option maxHeartbeats 4000000 in
set_option maxRecDepth 100000 in
theorem cjump_21_false (p a b cc : Nat) (n : Int) (c : Cp) (o i : Value) (w : World) (ha : a < 16) (hd : ((c.r.getD a 0) != 0) = false) (hC : CpuAt w p 67 c o i) :
    Calls Tryd.prog 56 #[.pointer (some ⟨p, 0, none⟩), .agg #[.int .i64 21, .int .i64 a, .int .i64 b, .int .i64 cc, .int .i64 n]] w (CPost p (passC c) o i w) := by
  have HC := Lib.hid (hC.alloc (.cells #[.int .i64 21, .int .i64 a, .int .i64 b, .int .i64 cc, .int .i64 n] 51))
  have qa := HC.out.reg ha
  have B0 := Lib.hid ((But.refl [p] w).alloc (.cells #[.int .i64 21, .int .i64 a, .int .i64 b, .int .i64 cc, .int .i64 n] 51))
  have K0 := Lib.hid (Whole.made w 51 #[.int .i64 21, .int .i64 a, .int .i64 b, .int .i64 cc, .int .i64 n] _ rfl)
  have hpn : w.heap.size ≠ p := Nat.ne_of_gt hC.lt
  have haI : (a : Int) < 16 := by omega
  have R := Lib.hid (fun t w hC => cbranch_any p c o i t n w hC)
  clear hC
  unfold CPost at *
  go_enter Tryd.func56, Tryd.ntmps56
  go_wp2_with fail
  generalize (c.r.getD a 0) = ra at *
  generalize w.alloc (.cells #[.int .i64 21, .int .i64 a, .int .i64 b, .int .i64 cc, .int .i64 n] 51) = V at *
  have k0 : V.cell? ⟨w.heap.size, 0, none⟩ = some (.int .i64 21) := K0.out.cell 0
  have k1 : V.cell? ⟨w.heap.size, 1, none⟩ = some (.int .i64 a) := K0.out.cell 1
  have k4 : V.cell? ⟨w.heap.size, 4, none⟩ = some (.int .i64 n) := K0.out.cell 4
  refine still_tail 11 (by kernel_rfl) (by kernel_rfl) ?_
  simp only [List.take_succ_cons, List.take_zero, List.drop_succ_cons, List.drop_zero]
  repeat still_step
  refine wpStill_nil ?_
  have HD := Lib.hid HC.out.drew
  have BD := Lib.hid B0.out.drew
  have KD := Lib.hid K0.out.drew'
  clear HC B0 K0 qa k0 k1 k4
  generalize V.drew = W at *
  go_wp2_with fail
  refine (R.out false _ HD.out).mono ?_
  rintro e w' ⟨rfl, hc, hb⟩
  go_wp2_with fail
  first | go_end0 | refine bodyPost_ret (results_none rfl _ _ _) rfl ?_
  exact ⟨rfl, hc, BD.out.trans hb⟩

set_option maxHeartbeats 4000000 in
set_option maxRecDepth 100000 in
theorem cjump_22 (p a b cc : Nat) (n : Int) (c : Cp) (o i : Value) (w : World) (ha : a < 16)  (hC : CpuAt w p 67 c o i) :
    Calls Tryd.prog 56 #[.pointer (some ⟨p, 0, none⟩), .agg #[.int .i64 22, .int .i64 a, .int .i64 b, .int .i64 cc, .int .i64 n]] w (CPost p (jumpC c n) o i w) := by
  have HC := Lib.hid (hC.alloc (.cells #[.int .i64 22, .int .i64 a, .int .i64 b, .int .i64 cc, .int .i64 n] 51))
  have qa := HC.out.reg ha
  have B0 := Lib.hid ((But.refl [p] w).alloc (.cells #[.int .i64 22, .int .i64 a, .int .i64 b, .int .i64 cc, .int .i64 n] 51))
  have K0 := Lib.hid (Whole.made w 51 #[.int .i64 22, .int .i64 a, .int .i64 b, .int .i64 cc, .int .i64 n] _ rfl)
  have hpn : w.heap.size ≠ p := Nat.ne_of_gt hC.lt
  have haI : (a : Int) < 16 := by omega
  have R := Lib.hid (fun t w hC => cbranch_any p c o i t n w hC)
  clear hC
  unfold CPost at *
  go_enter Tryd.func56, Tryd.ntmps56
  have BD := B0
  go_wp2_with fail
  refine (R.out true _ HC.out).mono ?_
  rintro e w' ⟨rfl, hc, hb⟩
  go_wp2_with fail
  first | go_end0 | refine bodyPost_ret (results_none rfl _ _ _) rfl ?_
  exact ⟨rfl, hc, BD.out.trans hb⟩

set_option maxHeartbeats 4000000 in
set_option maxRecDepth 100000 in
theorem cjump_23 (p a b cc : Nat) (n : Int) (c : Cp) (o i : Value) (w : World) (ha : a < 16)  (hC : CpuAt w p 67 c o i) :
    Calls Tryd.prog 56 #[.pointer (some ⟨p, 0, none⟩), .agg #[.int .i64 23, .int .i64 a, .int .i64 b, .int .i64 cc, .int .i64 n]] w (CPost p (jumpC { c with r := c.r.set 14 (w32 (c.pc + 4)) } n) o i w) := by
  have HC := Lib.hid (hC.alloc (.cells #[.int .i64 23, .int .i64 a, .int .i64 b, .int .i64 cc, .int .i64 n] 51))
  have qa := HC.out.reg ha
  have B0 := Lib.hid ((But.refl [p] w).alloc (.cells #[.int .i64 23, .int .i64 a, .int .i64 b, .int .i64 cc, .int .i64 n] 51))
  have K0 := Lib.hid (Whole.made w 51 #[.int .i64 23, .int .i64 a, .int .i64 b, .int .i64 cc, .int .i64 n] _ rfl)
  have hpn : w.heap.size ≠ p := Nat.ne_of_gt hC.lt
  have haI : (a : Int) < 16 := by omega
  have R := Lib.hid (fun c w hC => cbranch_any p c o i true n w hC)
  have q16 := HC.out.pc
  have q14 := HC.out.reg (show 14 < 16 by decide)
  have hf := HC.out.free
  clear hC
  unfold CPost at *
  go_enter Tryd.func56, Tryd.ntmps56
  go_wp2_with fail
  generalize w.alloc (.cells #[.int .i64 23, .int .i64 a, .int .i64 b, .int .i64 cc, .int .i64 n] 51) = V at *
  have k0 : V.cell? ⟨w.heap.size, 0, none⟩ = some (.int .i64 23) := K0.out.cell 0
  have k1 : V.cell? ⟨w.heap.size, 1, none⟩ = some (.int .i64 a) := K0.out.cell 1
  have k4 : V.cell? ⟨w.heap.size, 4, none⟩ = some (.int .i64 n) := K0.out.cell 4
  refine still_tail 9 (by kernel_rfl) (by kernel_rfl) ?_
  simp only [List.take_succ_cons, List.take_zero, List.drop_succ_cons, List.drop_zero]
  repeat still_step
  refine wpStill_nil ?_
  have HD := Lib.hid HC.out.drew
  have BD := Lib.hid B0.out.drew
  have KD := Lib.hid K0.out.drew'
  clear q16 q14 hf HC B0 K0 qa k0 k1 k4
  generalize V.drew = W at *
  have q14 := HD.out.reg (show 14 < 16 by decide)
  have hf := HD.out.free
  have HE := Lib.hid (HD.out.set_reg (show 14 < 16 by decide) (w32 (c.pc + 4)))
  have BE := Lib.hid (BD.out.setCell ⟨p, 14, none⟩ (.int .u32 (w32 (c.pc + 4))) (by simp))
  have KE := Lib.hid (KD.out.far (p := ⟨p, 14, none⟩) hpn (.int .u32 (w32 (c.pc + 4))))
  have k4 : (W.setCell ⟨p, 14, none⟩ (.int .u32 (w32 (c.pc + 4)))).cell? ⟨w.heap.size, 4, none⟩ = some (.int .i64 n) := KE.out.cell 4
  clear HD KD
  unfold w32 at HE BE k4
  go_wp2_with fail
  refine (R.out _ _ HE.out).mono ?_
  rintro e w' ⟨rfl, hc, hb⟩
  go_wp2_with fail
  first | go_end0 | refine bodyPost_ret (results_none rfl _ _ _) rfl ?_
  exact ⟨rfl, hc, BE.out.trans hb⟩

set_option maxHeartbeats 4000000 in
set_option maxRecDepth 100000 in
theorem cjump_24 (p a b cc : Nat) (n : Int) (c : Cp) (o i : Value) (w : World) (ha : a < 16)  (hC : CpuAt w p 67 c o i) :
    Calls Tryd.prog 56 #[.pointer (some ⟨p, 0, none⟩), .agg #[.int .i64 24, .int .i64 a, .int .i64 b, .int .i64 cc, .int .i64 n]] w (CPost p ({ c with pc := (c.r.getD a 0) }) o i w) := by
  have HC := Lib.hid (hC.alloc (.cells #[.int .i64 24, .int .i64 a, .int .i64 b, .int .i64 cc, .int .i64 n] 51))
  have qa := HC.out.reg ha
  have B0 := Lib.hid ((But.refl [p] w).alloc (.cells #[.int .i64 24, .int .i64 a, .int .i64 b, .int .i64 cc, .int .i64 n] 51))
  have K0 := Lib.hid (Whole.made w 51 #[.int .i64 24, .int .i64 a, .int .i64 b, .int .i64 cc, .int .i64 n] _ rfl)
  have hpn : w.heap.size ≠ p := Nat.ne_of_gt hC.lt
  have haI : (a : Int) < 16 := by omega
  have hf := HC.out.free
  have q16 := HC.out.pc
  clear hC
  unfold CPost at *
  go_enter Tryd.func56, Tryd.ntmps56
  go_wp2_with fail
  generalize w.alloc (.cells #[.int .i64 24, .int .i64 a, .int .i64 b, .int .i64 cc, .int .i64 n] 51) = V at *
  have k0 : V.cell? ⟨w.heap.size, 0, none⟩ = some (.int .i64 24) := K0.out.cell 0
  have k1 : V.cell? ⟨w.heap.size, 1, none⟩ = some (.int .i64 a) := K0.out.cell 1
  have k4 : V.cell? ⟨w.heap.size, 4, none⟩ = some (.int .i64 n) := K0.out.cell 4
  refine still_tail 10 (by kernel_rfl) (by kernel_rfl) ?_
  simp only [List.take_succ_cons, List.take_zero, List.drop_succ_cons, List.drop_zero]
  repeat still_step
  refine wpStill_nil ?_
  have HD := Lib.hid HC.out.drew
  have BD := Lib.hid B0.out.drew
  have KD := Lib.hid K0.out.drew'
  clear hf q16 HC B0 K0 qa k0 k1 k4
  generalize V.drew = W at *
  have hf := HD.out.free
  have q16 := HD.out.pc
  go_wp2_with fail
  first | go_end0 | refine bodyPost_ret (results_none rfl _ _ _) rfl ?_
  exact ⟨rfl, HD.out.set_pc _, BD.out.setCell _ _ (by simp)⟩

set_option maxHeartbeats 4000000 in
set_option maxRecDepth 100000 in
theorem cjump_25 (p a b cc : Nat) (n : Int) (c : Cp) (o i : Value) (w : World) (ha : a < 16)  (hC : CpuAt w p 67 c o i) :
    Calls Tryd.prog 56 #[.pointer (some ⟨p, 0, none⟩), .agg #[.int .i64 25, .int .i64 a, .int .i64 b, .int .i64 cc, .int .i64 n]] w (CPost p ({ c with r := c.r.set 14 (w32 (c.pc + 4)), pc := (c.r.getD a 0) }) o i w) := by
  have HC := Lib.hid (hC.alloc (.cells #[.int .i64 25, .int .i64 a, .int .i64 b, .int .i64 cc, .int .i64 n] 51))
  have qa := HC.out.reg ha
  have B0 := Lib.hid ((But.refl [p] w).alloc (.cells #[.int .i64 25, .int .i64 a, .int .i64 b, .int .i64 cc, .int .i64 n] 51))
  have K0 := Lib.hid (Whole.made w 51 #[.int .i64 25, .int .i64 a, .int .i64 b, .int .i64 cc, .int .i64 n] _ rfl)
  have hpn : w.heap.size ≠ p := Nat.ne_of_gt hC.lt
  have haI : (a : Int) < 16 := by omega
  have hf := HC.out.free
  have q16 := HC.out.pc
  have q14 := HC.out.reg (show 14 < 16 by decide)
  clear hC
  unfold CPost at *
  go_enter Tryd.func56, Tryd.ntmps56
  go_wp2_with fail
  generalize w.alloc (.cells #[.int .i64 25, .int .i64 a, .int .i64 b, .int .i64 cc, .int .i64 n] 51) = W at *
  have k1 : W.cell? ⟨w.heap.size, 1, none⟩ = some (.int .i64 a) := K0.out.cell 1
  go_region
  go_wp2_with fail
  first | go_end0 | refine bodyPost_ret (results_none rfl _ _ _) rfl ?_
  exact ⟨rfl, ((HC.out.set_reg (show 14 < 16 by decide) _).set_pc _).drew, ((B0.out.setCell _ _ (by simp)).setCell _ _ (by simp)).drew⟩

set_option maxHeartbeats 4000000 in
set_option maxRecDepth 100000 in
theorem cask_0 (p a b cc : Nat) (n : Int) (c : Cp) (o i : Value) (w : World) (ha : a < 16) (hn : n = 0) (hC : CpuAt w p 67 c o i) :
    Calls Tryd.prog 60 #[.pointer (some ⟨p, 0, none⟩), .agg #[.int .i64 33, .int .i64 a, .int .i64 b, .int .i64 cc, .int .i64 n]] w (CPost p (setC c a c.epc) o i w) := by
  have HC := Lib.hid (hC.alloc (.cells #[.int .i64 33, .int .i64 a, .int .i64 b, .int .i64 cc, .int .i64 n] 51))
  have qa := HC.out.reg ha
  have B0 := Lib.hid ((But.refl [p] w).alloc (.cells #[.int .i64 33, .int .i64 a, .int .i64 b, .int .i64 cc, .int .i64 n] 51))
  have K0 := Lib.hid (Whole.made w 51 #[.int .i64 33, .int .i64 a, .int .i64 b, .int .i64 cc, .int .i64 n] _ rfl)
  have hpn : w.heap.size ≠ p := Nat.ne_of_gt hC.lt
  have haI : (a : Int) < 16 := by omega
  have S := Lib.hid (fun v w hC => cset_any p a c o i v w ha hC)
  have q17 := HC.out.epc
  have q18 := HC.out.cause
  subst hn
  clear hC
  unfold CPost at *
  go_enter Tryd.func60, Tryd.ntmps60
  go_wp2_with fail
  generalize w.alloc (.cells #[.int .i64 33, .int .i64 a, .int .i64 b, .int .i64 cc, .int .i64 0] 51) = V at *
  have k0 : V.cell? ⟨w.heap.size, 0, none⟩ = some (.int .i64 33) := K0.out.cell 0
  have k1 : V.cell? ⟨w.heap.size, 1, none⟩ = some (.int .i64 a) := K0.out.cell 1
  have k4 : V.cell? ⟨w.heap.size, 4, none⟩ = some (.int .i64 0) := K0.out.cell 4
  refine still_tail 7 (by kernel_rfl) (by kernel_rfl) ?_
  simp only [List.take_succ_cons, List.take_zero, List.drop_succ_cons, List.drop_zero]
  repeat still_step
  refine wpStill_nil ?_
  have HD := Lib.hid HC.out.drew
  have BD := Lib.hid B0.out.drew
  have KD := Lib.hid K0.out.drew'
  clear q17 q18 HC B0 K0 qa k0 k1 k4
  generalize V.drew = W at *
  go_wp2_with fail
  refine (S.out _ _ HD.out).mono ?_
  rintro e w' ⟨rfl, hc, hb⟩
  go_wp2_with fail
  first | go_end0 | refine bodyPost_ret (results_none rfl _ _ _) rfl ?_
  exact ⟨rfl, hc, BD.out.trans hb⟩

set_option maxHeartbeats 4000000 in
set_option maxRecDepth 100000 in
theorem cask_1 (p a b cc : Nat) (n : Int) (c : Cp) (o i : Value) (w : World) (ha : a < 16) (hn : n = 1) (hC : CpuAt w p 67 c o i) :
    Calls Tryd.prog 60 #[.pointer (some ⟨p, 0, none⟩), .agg #[.int .i64 33, .int .i64 a, .int .i64 b, .int .i64 cc, .int .i64 n]] w (CPost p (setC c a c.cause) o i w) := by
  have HC := Lib.hid (hC.alloc (.cells #[.int .i64 33, .int .i64 a, .int .i64 b, .int .i64 cc, .int .i64 n] 51))
  have qa := HC.out.reg ha
  have B0 := Lib.hid ((But.refl [p] w).alloc (.cells #[.int .i64 33, .int .i64 a, .int .i64 b, .int .i64 cc, .int .i64 n] 51))
  have K0 := Lib.hid (Whole.made w 51 #[.int .i64 33, .int .i64 a, .int .i64 b, .int .i64 cc, .int .i64 n] _ rfl)
  have hpn : w.heap.size ≠ p := Nat.ne_of_gt hC.lt
  have haI : (a : Int) < 16 := by omega
  have S := Lib.hid (fun v w hC => cset_any p a c o i v w ha hC)
  have q17 := HC.out.epc
  have q18 := HC.out.cause
  subst hn
  clear hC
  unfold CPost at *
  go_enter Tryd.func60, Tryd.ntmps60
  go_wp2_with fail
  generalize w.alloc (.cells #[.int .i64 33, .int .i64 a, .int .i64 b, .int .i64 cc, .int .i64 1] 51) = V at *
  have k0 : V.cell? ⟨w.heap.size, 0, none⟩ = some (.int .i64 33) := K0.out.cell 0
  have k1 : V.cell? ⟨w.heap.size, 1, none⟩ = some (.int .i64 a) := K0.out.cell 1
  have k4 : V.cell? ⟨w.heap.size, 4, none⟩ = some (.int .i64 1) := K0.out.cell 4
  refine still_tail 7 (by kernel_rfl) (by kernel_rfl) ?_
  simp only [List.take_succ_cons, List.take_zero, List.drop_succ_cons, List.drop_zero]
  repeat still_step
  refine wpStill_nil ?_
  have HD := Lib.hid HC.out.drew
  have BD := Lib.hid B0.out.drew
  have KD := Lib.hid K0.out.drew'
  clear q17 q18 HC B0 K0 qa k0 k1 k4
  generalize V.drew = W at *
  go_wp2_with fail
  refine (S.out _ _ HD.out).mono ?_
  rintro e w' ⟨rfl, hc, hb⟩
  go_wp2_with fail
  first | go_end0 | refine bodyPost_ret (results_none rfl _ _ _) rfl ?_
  exact ⟨rfl, hc, BD.out.trans hb⟩

set_option maxHeartbeats 4000000 in
set_option maxRecDepth 100000 in
theorem cask_2 (p a b cc : Nat) (n : Int) (c : Cp) (o i : Value) (w : World) (ha : a < 16) (h0 : (n == 0) = false) (h1 : (n == 1) = false) (hC : CpuAt w p 67 c o i) :
    Calls Tryd.prog 60 #[.pointer (some ⟨p, 0, none⟩), .agg #[.int .i64 33, .int .i64 a, .int .i64 b, .int .i64 cc, .int .i64 n]] w (CPost p (faultC c 20) o i w) := by
  have HC := Lib.hid (hC.alloc (.cells #[.int .i64 33, .int .i64 a, .int .i64 b, .int .i64 cc, .int .i64 n] 51))
  have qa := HC.out.reg ha
  have B0 := Lib.hid ((But.refl [p] w).alloc (.cells #[.int .i64 33, .int .i64 a, .int .i64 b, .int .i64 cc, .int .i64 n] 51))
  have K0 := Lib.hid (Whole.made w 51 #[.int .i64 33, .int .i64 a, .int .i64 b, .int .i64 cc, .int .i64 n] _ rfl)
  have hpn : w.heap.size ≠ p := Nat.ne_of_gt hC.lt
  have haI : (a : Int) < 16 := by omega
  have R := Lib.hid (fun w hC => cfault_any p c o i 20 w hC)
  clear hC
  unfold CPost at *
  go_enter Tryd.func60, Tryd.ntmps60
  have BD := B0
  go_wp2_with fail
  refine (R.out _ HC.out).mono ?_
  rintro e w' ⟨rfl, hc, hb⟩
  go_wp2_with fail
  first | go_end0 | refine bodyPost_ret (results_none rfl _ _ _) rfl ?_
  exact ⟨rfl, hc, BD.out.trans hb⟩

end Go.Proofs.YtinpdgjbiimgkaaDoor

/- Package cpu: store. -/
namespace Go.Proofs.YtinpdgjbiimgkaaDoor
open Go.ChangeShapes Go.WideShapes Go.ChangeAt Go.RowKit
set_option linter.unusedVariables false

/-- What STW leaves. -/
def SPost (p h : Nat) (c : Cp) (o i : Value) (ws : List Int) (w : World) (e : Ending) (w' : World) : Prop :=
  e = .returned (.tuple #[]) ∧ CpuAt w' p 67 c o i ∧ Whole w' h 22 (words ws) ∧ But [p, h] w w'

theorem keepCS {x y : World} {p g a : Nat} {v v0 v1 v2 v3 v4 : Value} (h : x.cell? ⟨p, a, none⟩ = some v ∧ x.cell? ⟨g, 0, none⟩ = some v0 ∧ x.cell? ⟨g, 1, none⟩ = some v1 ∧ x.cell? ⟨g, 2, none⟩ = some v2 ∧ x.cell? ⟨g, 3, none⟩ = some v3 ∧ x.cell? ⟨g, 4, none⟩ = some v4) (hb : Below x.heap.size x y) :
    y.cell? ⟨p, a, none⟩ = some v ∧ y.cell? ⟨g, 0, none⟩ = some v0 ∧ y.cell? ⟨g, 1, none⟩ = some v1 ∧ y.cell? ⟨g, 2, none⟩ = some v2 ∧ y.cell? ⟨g, 3, none⟩ = some v3 ∧ y.cell? ⟨g, 4, none⟩ = some v4 := by
  obtain ⟨h, h0, h1, h2, h3, h4⟩ := h
  have l : p < x.heap.size := block_lt h
  have l0 : g < x.heap.size := block_lt h0
  exact ⟨(hb.cell (p := ⟨p, a, none⟩) l).trans h, (hb.cell (p := ⟨g, 0, none⟩) l0).trans h0, (hb.cell (p := ⟨g, 1, none⟩) l0).trans h1, (hb.cell (p := ⟨g, 2, none⟩) l0).trans h2, (hb.cell (p := ⟨g, 3, none⟩) l0).trans h3, (hb.cell (p := ⟨g, 4, none⟩) l0).trans h4⟩

theorem keepCO {x y : World} {p g a h' : Nat} {v v0 v1 v2 v3 v4 : Value} (h : x.cell? ⟨p, a, none⟩ = some v ∧ x.cell? ⟨g, 0, none⟩ = some v0 ∧ x.cell? ⟨g, 1, none⟩ = some v1 ∧ x.cell? ⟨g, 2, none⟩ = some v2 ∧ x.cell? ⟨g, 3, none⟩ = some v3 ∧ x.cell? ⟨g, 4, none⟩ = some v4) (hp : p ≠ h') (hg : g ≠ h') (hb : Only h' x y) :
    y.cell? ⟨p, a, none⟩ = some v ∧ y.cell? ⟨g, 0, none⟩ = some v0 ∧ y.cell? ⟨g, 1, none⟩ = some v1 ∧ y.cell? ⟨g, 2, none⟩ = some v2 ∧ y.cell? ⟨g, 3, none⟩ = some v3 ∧ y.cell? ⟨g, 4, none⟩ = some v4 := by
  obtain ⟨h, h0, h1, h2, h3, h4⟩ := h
  have l : p < x.heap.size := block_lt h
  have l0 : g < x.heap.size := block_lt h0
  have ep := hb.block p l hp
  have eg := hb.block g l0 hg
  simp only [World.cell?, ep, eg] at *
  exact ⟨h, h0, h1, h2, h3, h4⟩

set_option maxHeartbeats 8000000 in
set_option maxRecDepth 100000 in
theorem cstore_any (p q h m a b cc : Nat) (n e0 e1 e2 e3 e4 : Int) (ws : List Int) (c : Cp) (o i : Value) (w : World) (ha : a < 16) (hb : b < 16) (hv : U32 (c.r.getD a 0)) (hC : CpuAt w p 67 c o i) (hM : Whole w q 88 (memCells e0 e1 e2 e3 e4 h m)) (hW : Whole w h 22 (words ws)) (hn : ws.length = m) (hl : e4 = 4 * m) (hpq : p ≠ q) (hph : p ≠ h) (hqh : q ≠ h) :
    Calls Tryd.prog 55 #[.pointer (some ⟨p, 0, none⟩), .pointer (some ⟨q, 0, none⟩), .agg #[.int .i64 19, .int .i64 a, .int .i64 b, .int .i64 cc, .int .i64 n]] w (SPost p h (storeC c b n e1 e4) o i (storeWs (addrC c b n) e1 e4 (c.r.getD a 0) ws) w) := by
  have HC := Lib.hid (hC.alloc (.cells #[.int .i64 19, .int .i64 a, .int .i64 b, .int .i64 cc, .int .i64 n] 51))
  have HM := Lib.hid (hM.alloc (.cells #[.int .i64 19, .int .i64 a, .int .i64 b, .int .i64 cc, .int .i64 n] 51))
  have HW := Lib.hid (hW.alloc (.cells #[.int .i64 19, .int .i64 a, .int .i64 b, .int .i64 cc, .int .i64 n] 51))
  have B0 := Lib.hid ((But.refl [p, h] w).alloc (.cells #[.int .i64 19, .int .i64 a, .int .i64 b, .int .i64 cc, .int .i64 n] 51))
  have K0 := Lib.hid (Whole.made w 51 #[.int .i64 19, .int .i64 a, .int .i64 b, .int .i64 cc, .int .i64 n] _ rfl)
  have AD := Lib.hid (fun w hC => caddress_any p a b cc 19 n c o i w hb hC)
  have ST := Lib.hid (fun w h1 h4 h5 hw => store_any q h m (addrC c b n) (c.r.getD a 0) e1 e4 ws w (addr_u32 c b n) hv h1 h4 h5 hw hn hl)
  have S := Lib.hid (fun w hC => cpass_any p c o i w hC)
  have F := Lib.hid (fun v w hC => cfault_any p c o i v w hC)
  have R := Lib.hid (show storeC c b n e1 e4 = if storeRes (addrC c b n) e1 e4 = 0 then passC c else faultC c (storeRes (addrC c b n) e1 e4) from rfl)
  rw [show w32 (c.r.getD b 0 + w32 n) = addrC c b n from rfl] at AD
  have haI : (a : Int) < 16 := by omega
  have ngp : w.heap.size ≠ p := Nat.ne_of_gt hC.lt
  have ngh : w.heap.size ≠ h := Nat.ne_of_gt hW.lt
  have qa := HC.out.reg ha
  unfold StorePost at ST
  clear hC hM hW hn hl hv
  generalize storeWs (addrC c b n) e1 e4 (c.r.getD a 0) ws = ws' at *
  generalize addrC c b n = at_ at *
  generalize storeRes at_ e1 e4 = er at *
  generalize c.r.getD a 0 = ra at *
  generalize storeC c b n e1 e4 = cr at *
  unfold SPost CPost at *
  go_enter Tryd.func55, Tryd.ntmps55
  go_wp2_with fail
  generalize w.alloc (.cells #[.int .i64 19, .int .i64 a, .int .i64 b, .int .i64 cc, .int .i64 n] 51) = W at *
  have LS : W.cell? ⟨p, a, none⟩ = some (.int .u32 ra) ∧ W.cell? ⟨w.heap.size, 0, none⟩ = some (.int .i64 19) ∧ W.cell? ⟨w.heap.size, 1, none⟩ = some (.int .i64 a) ∧ W.cell? ⟨w.heap.size, 2, none⟩ = some (.int .i64 b) ∧ W.cell? ⟨w.heap.size, 3, none⟩ = some (.int .i64 cc) ∧ W.cell? ⟨w.heap.size, 4, none⟩ = some (.int .i64 n) := ⟨qa, K0.out.cell 0, K0.out.cell 1, K0.out.cell 2, K0.out.cell 3, K0.out.cell 4⟩
  clear qa
  go_region_held3 (fun y => y.cell? ⟨p, a, none⟩ = some (.int .u32 ra) ∧ y.cell? ⟨w.heap.size, 0, none⟩ = some (.int .i64 19) ∧ y.cell? ⟨w.heap.size, 1, none⟩ = some (.int .i64 a) ∧ y.cell? ⟨w.heap.size, 2, none⟩ = some (.int .i64 b) ∧ y.cell? ⟨w.heap.size, 3, none⟩ = some (.int .i64 cc) ∧ y.cell? ⟨w.heap.size, 4, none⟩ = some (.int .i64 n))
    (first
      | with_reducible assumption
      | with_reducible exact keepCS (by assumption) (Below.refl _ _).drew
      | with_reducible exact keepCS (by assumption) hb1
      | with_reducible exact keepCO (by assumption) hph ngh ho)
    (first
      | (go_at_call 78; refine (AD.out _ HC.out.drew).mono ?_; rintro e y1 ⟨rfl, hb1⟩; have HD := Lib.hid (HC.out.drew.below hb1 HC.out.lt); have MD := Lib.hid (HM.out.drew'.below hb1 HM.out.lt); have WD := Lib.hid (HW.out.drew'.below hb1 HW.out.lt); have BD := Lib.hid (B0.out.drew.trans (.of_below hb1 (Nat.le_refl _))))
      | (go_at_call 79; refine (ST.out _ (MD.out.cell 1) (MD.out.cell 4) (MD.out.cell 5) WD.out).mono ?_; rintro e y2 ⟨rfl, hx, ho⟩; have HE := Lib.hid ((But.of_only ho).cpu HD.out (by simp [hph])); have BE := Lib.hid (BD.out.trans ((But.of_only ho).mono (by simp))); have WE := Lib.hid hx))
  clear hb1 hx ho LS HC HM HW B0 K0 HD MD WD BD
  by_cases hz : er = 0
  · rw [if_pos hz] at R
    subst hz
    go_wp2_with fail
    refine (S.out _ HE.out).mono ?_
    rintro e w' ⟨rfl, hc, hb⟩
    go_wp2_with fail
    first | go_end0 | refine bodyPost_ret (results_none rfl _ _ _) rfl ?_
    exact ⟨rfl, by rw [R.out]; exact hc, hb.whole WE.out (by simp [Ne.symm hph]), BE.out.trans (hb.mono (by simp))⟩
  · rw [if_neg hz] at R
    have hne : (er != 0) = true := by simpa using hz
    clear hz
    go_wp2_with fail
    refine (F.out _ _ HE.out).mono ?_
    rintro e w' ⟨rfl, hc, hb⟩
    go_wp2_with fail
    first | go_end0 | refine bodyPost_ret (results_none rfl _ _ _) rfl ?_
    exact ⟨rfl, by rw [R.out]; exact hc, hb.whole WE.out (by simp [Ne.symm hph]), BE.out.trans (hb.mono (by simp))⟩
end Go.Proofs.YtinpdgjbiimgkaaDoor

/- Package cpu: execute, by operation. -/
namespace Go.Proofs.YtinpdgjbiimgkaaDoor
open Go.ChangeShapes Go.WideShapes Go.ChangeAt Go.RowKit
set_option linter.unusedVariables false

set_option maxHeartbeats 4000000 in
set_option maxRecDepth 100000 in
theorem cexec_1 (p q a b cc : Nat) (n : Int) (c : Cp) (o i : Value) (w : World) (ha : a < 16) (hb : b < 16) (hcc : cc < 16) (ua : 0 ≤ (c.r.getD a 0) ∧ (c.r.getD a 0) ≤ 4294967295) (ub : 0 ≤ (c.r.getD b 0) ∧ (c.r.getD b 0) ≤ 4294967295) (uc : 0 ≤ (c.r.getD cc 0) ∧ (c.r.getD cc 0) ≤ 4294967295)  (hC : CpuAt w p 67 c o i) :
    Calls Tryd.prog 30 #[.pointer (some ⟨p, 0, none⟩), .pointer (some ⟨q, 0, none⟩), .agg #[.int .i64 1, .int .i64 a, .int .i64 b, .int .i64 cc, .int .i64 n]] w (CPost p ({ c with st := 1 }) o i w) := by
  have HC := Lib.hid (hC.alloc (.cells #[.int .i64 1, .int .i64 a, .int .i64 b, .int .i64 cc, .int .i64 n] 51))
  have B0 := Lib.hid ((But.refl [p] w).alloc (.cells #[.int .i64 1, .int .i64 a, .int .i64 b, .int .i64 cc, .int .i64 n] 51))
  have K0 := Lib.hid (Whole.made w 51 #[.int .i64 1, .int .i64 a, .int .i64 b, .int .i64 cc, .int .i64 n] _ rfl)
  have hpn : w.heap.size ≠ p := Nat.ne_of_gt hC.lt
  have q19 := HC.out.st
  have hf := HC.out.free
  clear hC
  unfold CPost at *
  go_enter Tryd.func30, Tryd.ntmps30
  go_wp2_with fail
  first | go_end0 | refine bodyPost_ret (results_none rfl _ _ _) rfl ?_
  exact ⟨rfl, HC.out.set_st 1, B0.out.setCell _ _ (by simp)⟩

set_option maxHeartbeats 4000000 in
set_option maxRecDepth 100000 in
theorem cexec_2 (p q a b cc : Nat) (n : Int) (c : Cp) (o i : Value) (w : World) (ha : a < 16) (hb : b < 16) (hcc : cc < 16) (ua : 0 ≤ (c.r.getD a 0) ∧ (c.r.getD a 0) ≤ 4294967295) (ub : 0 ≤ (c.r.getD b 0) ∧ (c.r.getD b 0) ≤ 4294967295) (uc : 0 ≤ (c.r.getD cc 0) ∧ (c.r.getD cc 0) ≤ 4294967295)  (hC : CpuAt w p 67 c o i) :
    Calls Tryd.prog 30 #[.pointer (some ⟨p, 0, none⟩), .pointer (some ⟨q, 0, none⟩), .agg #[.int .i64 2, .int .i64 a, .int .i64 b, .int .i64 cc, .int .i64 n]] w (CPost p (setC c a (w32 n)) o i w) := by
  have HC := Lib.hid (hC.alloc (.cells #[.int .i64 2, .int .i64 a, .int .i64 b, .int .i64 cc, .int .i64 n] 51))
  have B0 := Lib.hid ((But.refl [p] w).alloc (.cells #[.int .i64 2, .int .i64 a, .int .i64 b, .int .i64 cc, .int .i64 n] 51))
  have K0 := Lib.hid (Whole.made w 51 #[.int .i64 2, .int .i64 a, .int .i64 b, .int .i64 cc, .int .i64 n] _ rfl)
  have hpn : w.heap.size ≠ p := Nat.ne_of_gt hC.lt
  have S := Lib.hid (fun v w hC => cset_any p a c o i v w ha hC)
  clear hC
  unfold CPost at *
  go_enter Tryd.func30, Tryd.ntmps30
  go_wp2_with fail
  refine (S.out _ _ HC.out).mono ?_
  rintro e w' ⟨rfl, hc, hb⟩
  go_wp2_with fail
  first | go_end0 | refine bodyPost_ret (results_none rfl _ _ _) rfl ?_
  exact ⟨rfl, hc, B0.out.trans hb⟩

set_option maxHeartbeats 4000000 in
set_option maxRecDepth 100000 in
theorem cexec_3 (p q a b cc : Nat) (n : Int) (c : Cp) (o i : Value) (w : World) (ha : a < 16) (hb : b < 16) (hcc : cc < 16) (ua : 0 ≤ (c.r.getD a 0) ∧ (c.r.getD a 0) ≤ 4294967295) (ub : 0 ≤ (c.r.getD b 0) ∧ (c.r.getD b 0) ≤ 4294967295) (uc : 0 ≤ (c.r.getD cc 0) ∧ (c.r.getD cc 0) ≤ 4294967295)  (hC : CpuAt w p 67 c o i) :
    Calls Tryd.prog 30 #[.pointer (some ⟨p, 0, none⟩), .pointer (some ⟨q, 0, none⟩), .agg #[.int .i64 3, .int .i64 a, .int .i64 b, .int .i64 cc, .int .i64 n]] w (CPost p (setC c a (w32 (w32 n * 65536))) o i w) := by
  have HC := Lib.hid (hC.alloc (.cells #[.int .i64 3, .int .i64 a, .int .i64 b, .int .i64 cc, .int .i64 n] 51))
  have B0 := Lib.hid ((But.refl [p] w).alloc (.cells #[.int .i64 3, .int .i64 a, .int .i64 b, .int .i64 cc, .int .i64 n] 51))
  have K0 := Lib.hid (Whole.made w 51 #[.int .i64 3, .int .i64 a, .int .i64 b, .int .i64 cc, .int .i64 n] _ rfl)
  have hpn : w.heap.size ≠ p := Nat.ne_of_gt hC.lt
  have S := Lib.hid (fun v w hC => cset_any p a c o i v w ha hC)
  clear hC
  unfold CPost at *
  go_enter Tryd.func30, Tryd.ntmps30
  go_wp2_with fail
  refine (S.out _ _ HC.out).mono ?_
  rintro e w' ⟨rfl, hc, hb⟩
  go_wp2_with fail
  first | go_end0 | refine bodyPost_ret (results_none rfl _ _ _) rfl ?_
  exact ⟨rfl, hc, B0.out.trans hb⟩

set_option maxHeartbeats 4000000 in
set_option maxRecDepth 100000 in
theorem cexec_4 (p q a b cc : Nat) (n : Int) (c : Cp) (o i : Value) (w : World) (ha : a < 16) (hb : b < 16) (hcc : cc < 16) (ua : 0 ≤ (c.r.getD a 0) ∧ (c.r.getD a 0) ≤ 4294967295) (ub : 0 ≤ (c.r.getD b 0) ∧ (c.r.getD b 0) ≤ 4294967295) (uc : 0 ≤ (c.r.getD cc 0) ∧ (c.r.getD cc 0) ≤ 4294967295)  (hC : CpuAt w p 67 c o i) :
    Calls Tryd.prog 30 #[.pointer (some ⟨p, 0, none⟩), .pointer (some ⟨q, 0, none⟩), .agg #[.int .i64 4, .int .i64 a, .int .i64 b, .int .i64 cc, .int .i64 n]] w (CPost p (setC c a (alu 4 (c.r.getD b 0) (w32 n))) o i w) := by
  have HC := Lib.hid (hC.alloc (.cells #[.int .i64 4, .int .i64 a, .int .i64 b, .int .i64 cc, .int .i64 n] 51))
  have B0 := Lib.hid ((But.refl [p] w).alloc (.cells #[.int .i64 4, .int .i64 a, .int .i64 b, .int .i64 cc, .int .i64 n] 51))
  have K0 := Lib.hid (Whole.made w 51 #[.int .i64 4, .int .i64 a, .int .i64 b, .int .i64 cc, .int .i64 n] _ rfl)
  have hpn : w.heap.size ≠ p := Nat.ne_of_gt hC.lt
  have S := Lib.hid (fun v w hC => cset_any p a c o i v w ha hC)
  have CM := Lib.hid (fun w => computed_4 (c.r.getD b 0) (w32 n) w ub (by unfold w32; omega))
  clear hC
  unfold CPost at *
  go_enter Tryd.func30, Tryd.ntmps30
  go_wp2_with fail
  generalize w.alloc (.cells #[.int .i64 4, .int .i64 a, .int .i64 b, .int .i64 cc, .int .i64 n] 51) = V at *
  have k0 : V.cell? ⟨w.heap.size, 0, none⟩ = some (.int .i64 4) := K0.out.cell 0
  have k1 : V.cell? ⟨w.heap.size, 1, none⟩ = some (.int .i64 a) := K0.out.cell 1
  have k2 : V.cell? ⟨w.heap.size, 2, none⟩ = some (.int .i64 b) := K0.out.cell 2
  have k3 : V.cell? ⟨w.heap.size, 3, none⟩ = some (.int .i64 cc) := K0.out.cell 3
  have k4 : V.cell? ⟨w.heap.size, 4, none⟩ = some (.int .i64 n) := K0.out.cell 4
  have qb := HC.out.reg hb
  have qc := HC.out.reg hcc
  have hbI : (b : Int) < 16 := by omega
  have hcI : (cc : Int) < 16 := by omega
  refine still_tail 16 (by kernel_rfl) (by kernel_rfl) ?_
  simp only [List.take_succ_cons, List.take_zero, List.drop_succ_cons, List.drop_zero]
  repeat still_step
  still_call ((CM.out _).mono (fun _ _ h => ⟨h.1, h.2.symm⟩))
  refine wpStill_nil ?_
  have HD := Lib.hid HC.out.drew
  have BD := Lib.hid B0.out.drew
  clear HC B0 qb qc k0 k1 k2 k3 k4 K0
  generalize V.drew = W at *
  go_wp2_with fail
  refine (S.out _ _ HD.out).mono ?_
  rintro e w' ⟨rfl, hc, hb⟩
  go_wp2_with fail
  first | go_end0 | refine bodyPost_ret (results_none rfl _ _ _) rfl ?_
  exact ⟨rfl, hc, BD.out.trans hb⟩

set_option maxHeartbeats 4000000 in
set_option maxRecDepth 100000 in
theorem cexec_5 (p q a b cc : Nat) (n : Int) (c : Cp) (o i : Value) (w : World) (ha : a < 16) (hb : b < 16) (hcc : cc < 16) (ua : 0 ≤ (c.r.getD a 0) ∧ (c.r.getD a 0) ≤ 4294967295) (ub : 0 ≤ (c.r.getD b 0) ∧ (c.r.getD b 0) ≤ 4294967295) (uc : 0 ≤ (c.r.getD cc 0) ∧ (c.r.getD cc 0) ≤ 4294967295)  (hC : CpuAt w p 67 c o i) :
    Calls Tryd.prog 30 #[.pointer (some ⟨p, 0, none⟩), .pointer (some ⟨q, 0, none⟩), .agg #[.int .i64 5, .int .i64 a, .int .i64 b, .int .i64 cc, .int .i64 n]] w (CPost p (setC c a (alu 5 (c.r.getD b 0) (w32 n))) o i w) := by
  have HC := Lib.hid (hC.alloc (.cells #[.int .i64 5, .int .i64 a, .int .i64 b, .int .i64 cc, .int .i64 n] 51))
  have B0 := Lib.hid ((But.refl [p] w).alloc (.cells #[.int .i64 5, .int .i64 a, .int .i64 b, .int .i64 cc, .int .i64 n] 51))
  have K0 := Lib.hid (Whole.made w 51 #[.int .i64 5, .int .i64 a, .int .i64 b, .int .i64 cc, .int .i64 n] _ rfl)
  have hpn : w.heap.size ≠ p := Nat.ne_of_gt hC.lt
  have S := Lib.hid (fun v w hC => cset_any p a c o i v w ha hC)
  have CM := Lib.hid (fun w => computed_5 (c.r.getD b 0) (w32 n) w ub (by unfold w32; omega))
  clear hC
  unfold CPost at *
  go_enter Tryd.func30, Tryd.ntmps30
  go_wp2_with fail
  generalize w.alloc (.cells #[.int .i64 5, .int .i64 a, .int .i64 b, .int .i64 cc, .int .i64 n] 51) = V at *
  have k0 : V.cell? ⟨w.heap.size, 0, none⟩ = some (.int .i64 5) := K0.out.cell 0
  have k1 : V.cell? ⟨w.heap.size, 1, none⟩ = some (.int .i64 a) := K0.out.cell 1
  have k2 : V.cell? ⟨w.heap.size, 2, none⟩ = some (.int .i64 b) := K0.out.cell 2
  have k3 : V.cell? ⟨w.heap.size, 3, none⟩ = some (.int .i64 cc) := K0.out.cell 3
  have k4 : V.cell? ⟨w.heap.size, 4, none⟩ = some (.int .i64 n) := K0.out.cell 4
  have qb := HC.out.reg hb
  have qc := HC.out.reg hcc
  have hbI : (b : Int) < 16 := by omega
  have hcI : (cc : Int) < 16 := by omega
  refine still_tail 16 (by kernel_rfl) (by kernel_rfl) ?_
  simp only [List.take_succ_cons, List.take_zero, List.drop_succ_cons, List.drop_zero]
  repeat still_step
  still_call ((CM.out _).mono (fun _ _ h => ⟨h.1, h.2.symm⟩))
  refine wpStill_nil ?_
  have HD := Lib.hid HC.out.drew
  have BD := Lib.hid B0.out.drew
  clear HC B0 qb qc k0 k1 k2 k3 k4 K0
  generalize V.drew = W at *
  go_wp2_with fail
  refine (S.out _ _ HD.out).mono ?_
  rintro e w' ⟨rfl, hc, hb⟩
  go_wp2_with fail
  first | go_end0 | refine bodyPost_ret (results_none rfl _ _ _) rfl ?_
  exact ⟨rfl, hc, BD.out.trans hb⟩

set_option maxHeartbeats 4000000 in
set_option maxRecDepth 100000 in
theorem cexec_34 (p q a b cc : Nat) (n : Int) (c : Cp) (o i : Value) (w : World) (ha : a < 16) (hb : b < 16) (hcc : cc < 16) (ua : 0 ≤ (c.r.getD a 0) ∧ (c.r.getD a 0) ≤ 4294967295) (ub : 0 ≤ (c.r.getD b 0) ∧ (c.r.getD b 0) ≤ 4294967295) (uc : 0 ≤ (c.r.getD cc 0) ∧ (c.r.getD cc 0) ≤ 4294967295)  (hC : CpuAt w p 67 c o i) :
    Calls Tryd.prog 30 #[.pointer (some ⟨p, 0, none⟩), .pointer (some ⟨q, 0, none⟩), .agg #[.int .i64 34, .int .i64 a, .int .i64 b, .int .i64 cc, .int .i64 n]] w (CPost p (setC c a (alu 34 (c.r.getD b 0) (w32 n))) o i w) := by
  have HC := Lib.hid (hC.alloc (.cells #[.int .i64 34, .int .i64 a, .int .i64 b, .int .i64 cc, .int .i64 n] 51))
  have B0 := Lib.hid ((But.refl [p] w).alloc (.cells #[.int .i64 34, .int .i64 a, .int .i64 b, .int .i64 cc, .int .i64 n] 51))
  have K0 := Lib.hid (Whole.made w 51 #[.int .i64 34, .int .i64 a, .int .i64 b, .int .i64 cc, .int .i64 n] _ rfl)
  have hpn : w.heap.size ≠ p := Nat.ne_of_gt hC.lt
  have S := Lib.hid (fun v w hC => cset_any p a c o i v w ha hC)
  have CM := Lib.hid (fun w => computed_34 (c.r.getD b 0) (w32 n) w ub (by unfold w32; omega))
  clear hC
  unfold CPost at *
  go_enter Tryd.func30, Tryd.ntmps30
  go_wp2_with fail
  generalize w.alloc (.cells #[.int .i64 34, .int .i64 a, .int .i64 b, .int .i64 cc, .int .i64 n] 51) = V at *
  have k0 : V.cell? ⟨w.heap.size, 0, none⟩ = some (.int .i64 34) := K0.out.cell 0
  have k1 : V.cell? ⟨w.heap.size, 1, none⟩ = some (.int .i64 a) := K0.out.cell 1
  have k2 : V.cell? ⟨w.heap.size, 2, none⟩ = some (.int .i64 b) := K0.out.cell 2
  have k3 : V.cell? ⟨w.heap.size, 3, none⟩ = some (.int .i64 cc) := K0.out.cell 3
  have k4 : V.cell? ⟨w.heap.size, 4, none⟩ = some (.int .i64 n) := K0.out.cell 4
  have qb := HC.out.reg hb
  have qc := HC.out.reg hcc
  have hbI : (b : Int) < 16 := by omega
  have hcI : (cc : Int) < 16 := by omega
  refine still_tail 16 (by kernel_rfl) (by kernel_rfl) ?_
  simp only [List.take_succ_cons, List.take_zero, List.drop_succ_cons, List.drop_zero]
  repeat still_step
  still_call ((CM.out _).mono (fun _ _ h => ⟨h.1, h.2.symm⟩))
  refine wpStill_nil ?_
  have HD := Lib.hid HC.out.drew
  have BD := Lib.hid B0.out.drew
  clear HC B0 qb qc k0 k1 k2 k3 k4 K0
  generalize V.drew = W at *
  go_wp2_with fail
  refine (S.out _ _ HD.out).mono ?_
  rintro e w' ⟨rfl, hc, hb⟩
  go_wp2_with fail
  first | go_end0 | refine bodyPost_ret (results_none rfl _ _ _) rfl ?_
  exact ⟨rfl, hc, BD.out.trans hb⟩

set_option maxHeartbeats 4000000 in
set_option maxRecDepth 100000 in
theorem cexec_6 (p q a b cc : Nat) (n : Int) (c : Cp) (o i : Value) (w : World) (ha : a < 16) (hb : b < 16) (hcc : cc < 16) (ua : 0 ≤ (c.r.getD a 0) ∧ (c.r.getD a 0) ≤ 4294967295) (ub : 0 ≤ (c.r.getD b 0) ∧ (c.r.getD b 0) ≤ 4294967295) (uc : 0 ≤ (c.r.getD cc 0) ∧ (c.r.getD cc 0) ≤ 4294967295)  (hC : CpuAt w p 67 c o i) :
    Calls Tryd.prog 30 #[.pointer (some ⟨p, 0, none⟩), .pointer (some ⟨q, 0, none⟩), .agg #[.int .i64 6, .int .i64 a, .int .i64 b, .int .i64 cc, .int .i64 n]] w (CPost p (setC c a (alu 6 (c.r.getD b 0) (c.r.getD cc 0))) o i w) := by
  have HC := Lib.hid (hC.alloc (.cells #[.int .i64 6, .int .i64 a, .int .i64 b, .int .i64 cc, .int .i64 n] 51))
  have B0 := Lib.hid ((But.refl [p] w).alloc (.cells #[.int .i64 6, .int .i64 a, .int .i64 b, .int .i64 cc, .int .i64 n] 51))
  have K0 := Lib.hid (Whole.made w 51 #[.int .i64 6, .int .i64 a, .int .i64 b, .int .i64 cc, .int .i64 n] _ rfl)
  have hpn : w.heap.size ≠ p := Nat.ne_of_gt hC.lt
  have S := Lib.hid (fun v w hC => cset_any p a c o i v w ha hC)
  have CM := Lib.hid (fun w => computed_6 (c.r.getD b 0) (c.r.getD cc 0) w ub uc)
  clear hC
  unfold CPost at *
  go_enter Tryd.func30, Tryd.ntmps30
  go_wp2_with fail
  generalize w.alloc (.cells #[.int .i64 6, .int .i64 a, .int .i64 b, .int .i64 cc, .int .i64 n] 51) = V at *
  have k0 : V.cell? ⟨w.heap.size, 0, none⟩ = some (.int .i64 6) := K0.out.cell 0
  have k1 : V.cell? ⟨w.heap.size, 1, none⟩ = some (.int .i64 a) := K0.out.cell 1
  have k2 : V.cell? ⟨w.heap.size, 2, none⟩ = some (.int .i64 b) := K0.out.cell 2
  have k3 : V.cell? ⟨w.heap.size, 3, none⟩ = some (.int .i64 cc) := K0.out.cell 3
  have k4 : V.cell? ⟨w.heap.size, 4, none⟩ = some (.int .i64 n) := K0.out.cell 4
  have qb := HC.out.reg hb
  have qc := HC.out.reg hcc
  have hbI : (b : Int) < 16 := by omega
  have hcI : (cc : Int) < 16 := by omega
  refine still_tail 20 (by kernel_rfl) (by kernel_rfl) ?_
  simp only [List.take_succ_cons, List.take_zero, List.drop_succ_cons, List.drop_zero]
  repeat still_step
  still_call ((CM.out _).mono (fun _ _ h => ⟨h.1, h.2.symm⟩))
  refine wpStill_nil ?_
  have HD := Lib.hid HC.out.drew
  have BD := Lib.hid B0.out.drew
  clear HC B0 qb qc k0 k1 k2 k3 k4 K0
  generalize V.drew = W at *
  go_wp2_with fail
  refine (S.out _ _ HD.out).mono ?_
  rintro e w' ⟨rfl, hc, hb⟩
  go_wp2_with fail
  first | go_end0 | refine bodyPost_ret (results_none rfl _ _ _) rfl ?_
  exact ⟨rfl, hc, BD.out.trans hb⟩

set_option maxHeartbeats 4000000 in
set_option maxRecDepth 100000 in
theorem cexec_7 (p q a b cc : Nat) (n : Int) (c : Cp) (o i : Value) (w : World) (ha : a < 16) (hb : b < 16) (hcc : cc < 16) (ua : 0 ≤ (c.r.getD a 0) ∧ (c.r.getD a 0) ≤ 4294967295) (ub : 0 ≤ (c.r.getD b 0) ∧ (c.r.getD b 0) ≤ 4294967295) (uc : 0 ≤ (c.r.getD cc 0) ∧ (c.r.getD cc 0) ≤ 4294967295)  (hC : CpuAt w p 67 c o i) :
    Calls Tryd.prog 30 #[.pointer (some ⟨p, 0, none⟩), .pointer (some ⟨q, 0, none⟩), .agg #[.int .i64 7, .int .i64 a, .int .i64 b, .int .i64 cc, .int .i64 n]] w (CPost p (setC c a (alu 7 (c.r.getD b 0) (c.r.getD cc 0))) o i w) := by
  have HC := Lib.hid (hC.alloc (.cells #[.int .i64 7, .int .i64 a, .int .i64 b, .int .i64 cc, .int .i64 n] 51))
  have B0 := Lib.hid ((But.refl [p] w).alloc (.cells #[.int .i64 7, .int .i64 a, .int .i64 b, .int .i64 cc, .int .i64 n] 51))
  have K0 := Lib.hid (Whole.made w 51 #[.int .i64 7, .int .i64 a, .int .i64 b, .int .i64 cc, .int .i64 n] _ rfl)
  have hpn : w.heap.size ≠ p := Nat.ne_of_gt hC.lt
  have S := Lib.hid (fun v w hC => cset_any p a c o i v w ha hC)
  have CM := Lib.hid (fun w => computed_7 (c.r.getD b 0) (c.r.getD cc 0) w ub uc)
  clear hC
  unfold CPost at *
  go_enter Tryd.func30, Tryd.ntmps30
  go_wp2_with fail
  generalize w.alloc (.cells #[.int .i64 7, .int .i64 a, .int .i64 b, .int .i64 cc, .int .i64 n] 51) = V at *
  have k0 : V.cell? ⟨w.heap.size, 0, none⟩ = some (.int .i64 7) := K0.out.cell 0
  have k1 : V.cell? ⟨w.heap.size, 1, none⟩ = some (.int .i64 a) := K0.out.cell 1
  have k2 : V.cell? ⟨w.heap.size, 2, none⟩ = some (.int .i64 b) := K0.out.cell 2
  have k3 : V.cell? ⟨w.heap.size, 3, none⟩ = some (.int .i64 cc) := K0.out.cell 3
  have k4 : V.cell? ⟨w.heap.size, 4, none⟩ = some (.int .i64 n) := K0.out.cell 4
  have qb := HC.out.reg hb
  have qc := HC.out.reg hcc
  have hbI : (b : Int) < 16 := by omega
  have hcI : (cc : Int) < 16 := by omega
  refine still_tail 20 (by kernel_rfl) (by kernel_rfl) ?_
  simp only [List.take_succ_cons, List.take_zero, List.drop_succ_cons, List.drop_zero]
  repeat still_step
  still_call ((CM.out _).mono (fun _ _ h => ⟨h.1, h.2.symm⟩))
  refine wpStill_nil ?_
  have HD := Lib.hid HC.out.drew
  have BD := Lib.hid B0.out.drew
  clear HC B0 qb qc k0 k1 k2 k3 k4 K0
  generalize V.drew = W at *
  go_wp2_with fail
  refine (S.out _ _ HD.out).mono ?_
  rintro e w' ⟨rfl, hc, hb⟩
  go_wp2_with fail
  first | go_end0 | refine bodyPost_ret (results_none rfl _ _ _) rfl ?_
  exact ⟨rfl, hc, BD.out.trans hb⟩

set_option maxHeartbeats 4000000 in
set_option maxRecDepth 100000 in
theorem cexec_8 (p q a b cc : Nat) (n : Int) (c : Cp) (o i : Value) (w : World) (ha : a < 16) (hb : b < 16) (hcc : cc < 16) (ua : 0 ≤ (c.r.getD a 0) ∧ (c.r.getD a 0) ≤ 4294967295) (ub : 0 ≤ (c.r.getD b 0) ∧ (c.r.getD b 0) ≤ 4294967295) (uc : 0 ≤ (c.r.getD cc 0) ∧ (c.r.getD cc 0) ≤ 4294967295)  (hC : CpuAt w p 67 c o i) :
    Calls Tryd.prog 30 #[.pointer (some ⟨p, 0, none⟩), .pointer (some ⟨q, 0, none⟩), .agg #[.int .i64 8, .int .i64 a, .int .i64 b, .int .i64 cc, .int .i64 n]] w (CPost p (setC c a (alu 8 (c.r.getD b 0) (c.r.getD cc 0))) o i w) := by
  have HC := Lib.hid (hC.alloc (.cells #[.int .i64 8, .int .i64 a, .int .i64 b, .int .i64 cc, .int .i64 n] 51))
  have B0 := Lib.hid ((But.refl [p] w).alloc (.cells #[.int .i64 8, .int .i64 a, .int .i64 b, .int .i64 cc, .int .i64 n] 51))
  have K0 := Lib.hid (Whole.made w 51 #[.int .i64 8, .int .i64 a, .int .i64 b, .int .i64 cc, .int .i64 n] _ rfl)
  have hpn : w.heap.size ≠ p := Nat.ne_of_gt hC.lt
  have S := Lib.hid (fun v w hC => cset_any p a c o i v w ha hC)
  have CM := Lib.hid (fun w => computed_8 (c.r.getD b 0) (c.r.getD cc 0) w ub uc)
  clear hC
  unfold CPost at *
  go_enter Tryd.func30, Tryd.ntmps30
  go_wp2_with fail
  generalize w.alloc (.cells #[.int .i64 8, .int .i64 a, .int .i64 b, .int .i64 cc, .int .i64 n] 51) = V at *
  have k0 : V.cell? ⟨w.heap.size, 0, none⟩ = some (.int .i64 8) := K0.out.cell 0
  have k1 : V.cell? ⟨w.heap.size, 1, none⟩ = some (.int .i64 a) := K0.out.cell 1
  have k2 : V.cell? ⟨w.heap.size, 2, none⟩ = some (.int .i64 b) := K0.out.cell 2
  have k3 : V.cell? ⟨w.heap.size, 3, none⟩ = some (.int .i64 cc) := K0.out.cell 3
  have k4 : V.cell? ⟨w.heap.size, 4, none⟩ = some (.int .i64 n) := K0.out.cell 4
  have qb := HC.out.reg hb
  have qc := HC.out.reg hcc
  have hbI : (b : Int) < 16 := by omega
  have hcI : (cc : Int) < 16 := by omega
  refine still_tail 20 (by kernel_rfl) (by kernel_rfl) ?_
  simp only [List.take_succ_cons, List.take_zero, List.drop_succ_cons, List.drop_zero]
  repeat still_step
  still_call ((CM.out _).mono (fun _ _ h => ⟨h.1, h.2.symm⟩))
  refine wpStill_nil ?_
  have HD := Lib.hid HC.out.drew
  have BD := Lib.hid B0.out.drew
  clear HC B0 qb qc k0 k1 k2 k3 k4 K0
  generalize V.drew = W at *
  go_wp2_with fail
  refine (S.out _ _ HD.out).mono ?_
  rintro e w' ⟨rfl, hc, hb⟩
  go_wp2_with fail
  first | go_end0 | refine bodyPost_ret (results_none rfl _ _ _) rfl ?_
  exact ⟨rfl, hc, BD.out.trans hb⟩

set_option maxHeartbeats 4000000 in
set_option maxRecDepth 100000 in
theorem cexec_11 (p q a b cc : Nat) (n : Int) (c : Cp) (o i : Value) (w : World) (ha : a < 16) (hb : b < 16) (hcc : cc < 16) (ua : 0 ≤ (c.r.getD a 0) ∧ (c.r.getD a 0) ≤ 4294967295) (ub : 0 ≤ (c.r.getD b 0) ∧ (c.r.getD b 0) ≤ 4294967295) (uc : 0 ≤ (c.r.getD cc 0) ∧ (c.r.getD cc 0) ≤ 4294967295)  (hC : CpuAt w p 67 c o i) :
    Calls Tryd.prog 30 #[.pointer (some ⟨p, 0, none⟩), .pointer (some ⟨q, 0, none⟩), .agg #[.int .i64 11, .int .i64 a, .int .i64 b, .int .i64 cc, .int .i64 n]] w (CPost p (setC c a (alu 11 (c.r.getD b 0) (c.r.getD cc 0))) o i w) := by
  have HC := Lib.hid (hC.alloc (.cells #[.int .i64 11, .int .i64 a, .int .i64 b, .int .i64 cc, .int .i64 n] 51))
  have B0 := Lib.hid ((But.refl [p] w).alloc (.cells #[.int .i64 11, .int .i64 a, .int .i64 b, .int .i64 cc, .int .i64 n] 51))
  have K0 := Lib.hid (Whole.made w 51 #[.int .i64 11, .int .i64 a, .int .i64 b, .int .i64 cc, .int .i64 n] _ rfl)
  have hpn : w.heap.size ≠ p := Nat.ne_of_gt hC.lt
  have S := Lib.hid (fun v w hC => cset_any p a c o i v w ha hC)
  have CM := Lib.hid (fun w => computed_11 (c.r.getD b 0) (c.r.getD cc 0) w ub uc)
  clear hC
  unfold CPost at *
  go_enter Tryd.func30, Tryd.ntmps30
  go_wp2_with fail
  generalize w.alloc (.cells #[.int .i64 11, .int .i64 a, .int .i64 b, .int .i64 cc, .int .i64 n] 51) = V at *
  have k0 : V.cell? ⟨w.heap.size, 0, none⟩ = some (.int .i64 11) := K0.out.cell 0
  have k1 : V.cell? ⟨w.heap.size, 1, none⟩ = some (.int .i64 a) := K0.out.cell 1
  have k2 : V.cell? ⟨w.heap.size, 2, none⟩ = some (.int .i64 b) := K0.out.cell 2
  have k3 : V.cell? ⟨w.heap.size, 3, none⟩ = some (.int .i64 cc) := K0.out.cell 3
  have k4 : V.cell? ⟨w.heap.size, 4, none⟩ = some (.int .i64 n) := K0.out.cell 4
  have qb := HC.out.reg hb
  have qc := HC.out.reg hcc
  have hbI : (b : Int) < 16 := by omega
  have hcI : (cc : Int) < 16 := by omega
  refine still_tail 20 (by kernel_rfl) (by kernel_rfl) ?_
  simp only [List.take_succ_cons, List.take_zero, List.drop_succ_cons, List.drop_zero]
  repeat still_step
  still_call ((CM.out _).mono (fun _ _ h => ⟨h.1, h.2.symm⟩))
  refine wpStill_nil ?_
  have HD := Lib.hid HC.out.drew
  have BD := Lib.hid B0.out.drew
  clear HC B0 qb qc k0 k1 k2 k3 k4 K0
  generalize V.drew = W at *
  go_wp2_with fail
  refine (S.out _ _ HD.out).mono ?_
  rintro e w' ⟨rfl, hc, hb⟩
  go_wp2_with fail
  first | go_end0 | refine bodyPost_ret (results_none rfl _ _ _) rfl ?_
  exact ⟨rfl, hc, BD.out.trans hb⟩

set_option maxHeartbeats 4000000 in
set_option maxRecDepth 100000 in
theorem cexec_12 (p q a b cc : Nat) (n : Int) (c : Cp) (o i : Value) (w : World) (ha : a < 16) (hb : b < 16) (hcc : cc < 16) (ua : 0 ≤ (c.r.getD a 0) ∧ (c.r.getD a 0) ≤ 4294967295) (ub : 0 ≤ (c.r.getD b 0) ∧ (c.r.getD b 0) ≤ 4294967295) (uc : 0 ≤ (c.r.getD cc 0) ∧ (c.r.getD cc 0) ≤ 4294967295)  (hC : CpuAt w p 67 c o i) :
    Calls Tryd.prog 30 #[.pointer (some ⟨p, 0, none⟩), .pointer (some ⟨q, 0, none⟩), .agg #[.int .i64 12, .int .i64 a, .int .i64 b, .int .i64 cc, .int .i64 n]] w (CPost p (setC c a (alu 12 (c.r.getD b 0) (c.r.getD cc 0))) o i w) := by
  have HC := Lib.hid (hC.alloc (.cells #[.int .i64 12, .int .i64 a, .int .i64 b, .int .i64 cc, .int .i64 n] 51))
  have B0 := Lib.hid ((But.refl [p] w).alloc (.cells #[.int .i64 12, .int .i64 a, .int .i64 b, .int .i64 cc, .int .i64 n] 51))
  have K0 := Lib.hid (Whole.made w 51 #[.int .i64 12, .int .i64 a, .int .i64 b, .int .i64 cc, .int .i64 n] _ rfl)
  have hpn : w.heap.size ≠ p := Nat.ne_of_gt hC.lt
  have S := Lib.hid (fun v w hC => cset_any p a c o i v w ha hC)
  have CM := Lib.hid (fun w => computed_12 (c.r.getD b 0) (c.r.getD cc 0) w ub uc)
  clear hC
  unfold CPost at *
  go_enter Tryd.func30, Tryd.ntmps30
  go_wp2_with fail
  generalize w.alloc (.cells #[.int .i64 12, .int .i64 a, .int .i64 b, .int .i64 cc, .int .i64 n] 51) = V at *
  have k0 : V.cell? ⟨w.heap.size, 0, none⟩ = some (.int .i64 12) := K0.out.cell 0
  have k1 : V.cell? ⟨w.heap.size, 1, none⟩ = some (.int .i64 a) := K0.out.cell 1
  have k2 : V.cell? ⟨w.heap.size, 2, none⟩ = some (.int .i64 b) := K0.out.cell 2
  have k3 : V.cell? ⟨w.heap.size, 3, none⟩ = some (.int .i64 cc) := K0.out.cell 3
  have k4 : V.cell? ⟨w.heap.size, 4, none⟩ = some (.int .i64 n) := K0.out.cell 4
  have qb := HC.out.reg hb
  have qc := HC.out.reg hcc
  have hbI : (b : Int) < 16 := by omega
  have hcI : (cc : Int) < 16 := by omega
  refine still_tail 20 (by kernel_rfl) (by kernel_rfl) ?_
  simp only [List.take_succ_cons, List.take_zero, List.drop_succ_cons, List.drop_zero]
  repeat still_step
  still_call ((CM.out _).mono (fun _ _ h => ⟨h.1, h.2.symm⟩))
  refine wpStill_nil ?_
  have HD := Lib.hid HC.out.drew
  have BD := Lib.hid B0.out.drew
  clear HC B0 qb qc k0 k1 k2 k3 k4 K0
  generalize V.drew = W at *
  go_wp2_with fail
  refine (S.out _ _ HD.out).mono ?_
  rintro e w' ⟨rfl, hc, hb⟩
  go_wp2_with fail
  first | go_end0 | refine bodyPost_ret (results_none rfl _ _ _) rfl ?_
  exact ⟨rfl, hc, BD.out.trans hb⟩

set_option maxHeartbeats 4000000 in
set_option maxRecDepth 100000 in
theorem cexec_13 (p q a b cc : Nat) (n : Int) (c : Cp) (o i : Value) (w : World) (ha : a < 16) (hb : b < 16) (hcc : cc < 16) (ua : 0 ≤ (c.r.getD a 0) ∧ (c.r.getD a 0) ≤ 4294967295) (ub : 0 ≤ (c.r.getD b 0) ∧ (c.r.getD b 0) ≤ 4294967295) (uc : 0 ≤ (c.r.getD cc 0) ∧ (c.r.getD cc 0) ≤ 4294967295)  (hC : CpuAt w p 67 c o i) :
    Calls Tryd.prog 30 #[.pointer (some ⟨p, 0, none⟩), .pointer (some ⟨q, 0, none⟩), .agg #[.int .i64 13, .int .i64 a, .int .i64 b, .int .i64 cc, .int .i64 n]] w (CPost p (setC c a (alu 13 (c.r.getD b 0) (c.r.getD cc 0))) o i w) := by
  have HC := Lib.hid (hC.alloc (.cells #[.int .i64 13, .int .i64 a, .int .i64 b, .int .i64 cc, .int .i64 n] 51))
  have B0 := Lib.hid ((But.refl [p] w).alloc (.cells #[.int .i64 13, .int .i64 a, .int .i64 b, .int .i64 cc, .int .i64 n] 51))
  have K0 := Lib.hid (Whole.made w 51 #[.int .i64 13, .int .i64 a, .int .i64 b, .int .i64 cc, .int .i64 n] _ rfl)
  have hpn : w.heap.size ≠ p := Nat.ne_of_gt hC.lt
  have S := Lib.hid (fun v w hC => cset_any p a c o i v w ha hC)
  have CM := Lib.hid (fun w => computed_13 (c.r.getD b 0) (c.r.getD cc 0) w ub uc)
  clear hC
  unfold CPost at *
  go_enter Tryd.func30, Tryd.ntmps30
  go_wp2_with fail
  generalize w.alloc (.cells #[.int .i64 13, .int .i64 a, .int .i64 b, .int .i64 cc, .int .i64 n] 51) = V at *
  have k0 : V.cell? ⟨w.heap.size, 0, none⟩ = some (.int .i64 13) := K0.out.cell 0
  have k1 : V.cell? ⟨w.heap.size, 1, none⟩ = some (.int .i64 a) := K0.out.cell 1
  have k2 : V.cell? ⟨w.heap.size, 2, none⟩ = some (.int .i64 b) := K0.out.cell 2
  have k3 : V.cell? ⟨w.heap.size, 3, none⟩ = some (.int .i64 cc) := K0.out.cell 3
  have k4 : V.cell? ⟨w.heap.size, 4, none⟩ = some (.int .i64 n) := K0.out.cell 4
  have qb := HC.out.reg hb
  have qc := HC.out.reg hcc
  have hbI : (b : Int) < 16 := by omega
  have hcI : (cc : Int) < 16 := by omega
  refine still_tail 20 (by kernel_rfl) (by kernel_rfl) ?_
  simp only [List.take_succ_cons, List.take_zero, List.drop_succ_cons, List.drop_zero]
  repeat still_step
  still_call ((CM.out _).mono (fun _ _ h => ⟨h.1, h.2.symm⟩))
  refine wpStill_nil ?_
  have HD := Lib.hid HC.out.drew
  have BD := Lib.hid B0.out.drew
  clear HC B0 qb qc k0 k1 k2 k3 k4 K0
  generalize V.drew = W at *
  go_wp2_with fail
  refine (S.out _ _ HD.out).mono ?_
  rintro e w' ⟨rfl, hc, hb⟩
  go_wp2_with fail
  first | go_end0 | refine bodyPost_ret (results_none rfl _ _ _) rfl ?_
  exact ⟨rfl, hc, BD.out.trans hb⟩

set_option maxHeartbeats 4000000 in
set_option maxRecDepth 100000 in
theorem cexec_14 (p q a b cc : Nat) (n : Int) (c : Cp) (o i : Value) (w : World) (ha : a < 16) (hb : b < 16) (hcc : cc < 16) (ua : 0 ≤ (c.r.getD a 0) ∧ (c.r.getD a 0) ≤ 4294967295) (ub : 0 ≤ (c.r.getD b 0) ∧ (c.r.getD b 0) ≤ 4294967295) (uc : 0 ≤ (c.r.getD cc 0) ∧ (c.r.getD cc 0) ≤ 4294967295)  (hC : CpuAt w p 67 c o i) :
    Calls Tryd.prog 30 #[.pointer (some ⟨p, 0, none⟩), .pointer (some ⟨q, 0, none⟩), .agg #[.int .i64 14, .int .i64 a, .int .i64 b, .int .i64 cc, .int .i64 n]] w (CPost p (setC c a (alu 14 (c.r.getD b 0) (c.r.getD cc 0))) o i w) := by
  have HC := Lib.hid (hC.alloc (.cells #[.int .i64 14, .int .i64 a, .int .i64 b, .int .i64 cc, .int .i64 n] 51))
  have B0 := Lib.hid ((But.refl [p] w).alloc (.cells #[.int .i64 14, .int .i64 a, .int .i64 b, .int .i64 cc, .int .i64 n] 51))
  have K0 := Lib.hid (Whole.made w 51 #[.int .i64 14, .int .i64 a, .int .i64 b, .int .i64 cc, .int .i64 n] _ rfl)
  have hpn : w.heap.size ≠ p := Nat.ne_of_gt hC.lt
  have S := Lib.hid (fun v w hC => cset_any p a c o i v w ha hC)
  have CM := Lib.hid (fun w => computed_14 (c.r.getD b 0) (c.r.getD cc 0) w ub uc)
  clear hC
  unfold CPost at *
  go_enter Tryd.func30, Tryd.ntmps30
  go_wp2_with fail
  generalize w.alloc (.cells #[.int .i64 14, .int .i64 a, .int .i64 b, .int .i64 cc, .int .i64 n] 51) = V at *
  have k0 : V.cell? ⟨w.heap.size, 0, none⟩ = some (.int .i64 14) := K0.out.cell 0
  have k1 : V.cell? ⟨w.heap.size, 1, none⟩ = some (.int .i64 a) := K0.out.cell 1
  have k2 : V.cell? ⟨w.heap.size, 2, none⟩ = some (.int .i64 b) := K0.out.cell 2
  have k3 : V.cell? ⟨w.heap.size, 3, none⟩ = some (.int .i64 cc) := K0.out.cell 3
  have k4 : V.cell? ⟨w.heap.size, 4, none⟩ = some (.int .i64 n) := K0.out.cell 4
  have qb := HC.out.reg hb
  have qc := HC.out.reg hcc
  have hbI : (b : Int) < 16 := by omega
  have hcI : (cc : Int) < 16 := by omega
  refine still_tail 20 (by kernel_rfl) (by kernel_rfl) ?_
  simp only [List.take_succ_cons, List.take_zero, List.drop_succ_cons, List.drop_zero]
  repeat still_step
  still_call ((CM.out _).mono (fun _ _ h => ⟨h.1, h.2.symm⟩))
  refine wpStill_nil ?_
  have HD := Lib.hid HC.out.drew
  have BD := Lib.hid B0.out.drew
  clear HC B0 qb qc k0 k1 k2 k3 k4 K0
  generalize V.drew = W at *
  go_wp2_with fail
  refine (S.out _ _ HD.out).mono ?_
  rintro e w' ⟨rfl, hc, hb⟩
  go_wp2_with fail
  first | go_end0 | refine bodyPost_ret (results_none rfl _ _ _) rfl ?_
  exact ⟨rfl, hc, BD.out.trans hb⟩

set_option maxHeartbeats 4000000 in
set_option maxRecDepth 100000 in
theorem cexec_15 (p q a b cc : Nat) (n : Int) (c : Cp) (o i : Value) (w : World) (ha : a < 16) (hb : b < 16) (hcc : cc < 16) (ua : 0 ≤ (c.r.getD a 0) ∧ (c.r.getD a 0) ≤ 4294967295) (ub : 0 ≤ (c.r.getD b 0) ∧ (c.r.getD b 0) ≤ 4294967295) (uc : 0 ≤ (c.r.getD cc 0) ∧ (c.r.getD cc 0) ≤ 4294967295)  (hC : CpuAt w p 67 c o i) :
    Calls Tryd.prog 30 #[.pointer (some ⟨p, 0, none⟩), .pointer (some ⟨q, 0, none⟩), .agg #[.int .i64 15, .int .i64 a, .int .i64 b, .int .i64 cc, .int .i64 n]] w (CPost p (setC c a (alu 15 (c.r.getD b 0) (c.r.getD cc 0))) o i w) := by
  have HC := Lib.hid (hC.alloc (.cells #[.int .i64 15, .int .i64 a, .int .i64 b, .int .i64 cc, .int .i64 n] 51))
  have B0 := Lib.hid ((But.refl [p] w).alloc (.cells #[.int .i64 15, .int .i64 a, .int .i64 b, .int .i64 cc, .int .i64 n] 51))
  have K0 := Lib.hid (Whole.made w 51 #[.int .i64 15, .int .i64 a, .int .i64 b, .int .i64 cc, .int .i64 n] _ rfl)
  have hpn : w.heap.size ≠ p := Nat.ne_of_gt hC.lt
  have S := Lib.hid (fun v w hC => cset_any p a c o i v w ha hC)
  have CM := Lib.hid (fun w => computed_15 (c.r.getD b 0) (c.r.getD cc 0) w ub uc)
  clear hC
  unfold CPost at *
  go_enter Tryd.func30, Tryd.ntmps30
  go_wp2_with fail
  generalize w.alloc (.cells #[.int .i64 15, .int .i64 a, .int .i64 b, .int .i64 cc, .int .i64 n] 51) = V at *
  have k0 : V.cell? ⟨w.heap.size, 0, none⟩ = some (.int .i64 15) := K0.out.cell 0
  have k1 : V.cell? ⟨w.heap.size, 1, none⟩ = some (.int .i64 a) := K0.out.cell 1
  have k2 : V.cell? ⟨w.heap.size, 2, none⟩ = some (.int .i64 b) := K0.out.cell 2
  have k3 : V.cell? ⟨w.heap.size, 3, none⟩ = some (.int .i64 cc) := K0.out.cell 3
  have k4 : V.cell? ⟨w.heap.size, 4, none⟩ = some (.int .i64 n) := K0.out.cell 4
  have qb := HC.out.reg hb
  have qc := HC.out.reg hcc
  have hbI : (b : Int) < 16 := by omega
  have hcI : (cc : Int) < 16 := by omega
  refine still_tail 20 (by kernel_rfl) (by kernel_rfl) ?_
  simp only [List.take_succ_cons, List.take_zero, List.drop_succ_cons, List.drop_zero]
  repeat still_step
  still_call ((CM.out _).mono (fun _ _ h => ⟨h.1, h.2.symm⟩))
  refine wpStill_nil ?_
  have HD := Lib.hid HC.out.drew
  have BD := Lib.hid B0.out.drew
  clear HC B0 qb qc k0 k1 k2 k3 k4 K0
  generalize V.drew = W at *
  go_wp2_with fail
  refine (S.out _ _ HD.out).mono ?_
  rintro e w' ⟨rfl, hc, hb⟩
  go_wp2_with fail
  first | go_end0 | refine bodyPost_ret (results_none rfl _ _ _) rfl ?_
  exact ⟨rfl, hc, BD.out.trans hb⟩

set_option maxHeartbeats 4000000 in
set_option maxRecDepth 100000 in
theorem cexec_16 (p q a b cc : Nat) (n : Int) (c : Cp) (o i : Value) (w : World) (ha : a < 16) (hb : b < 16) (hcc : cc < 16) (ua : 0 ≤ (c.r.getD a 0) ∧ (c.r.getD a 0) ≤ 4294967295) (ub : 0 ≤ (c.r.getD b 0) ∧ (c.r.getD b 0) ≤ 4294967295) (uc : 0 ≤ (c.r.getD cc 0) ∧ (c.r.getD cc 0) ≤ 4294967295)  (hC : CpuAt w p 67 c o i) :
    Calls Tryd.prog 30 #[.pointer (some ⟨p, 0, none⟩), .pointer (some ⟨q, 0, none⟩), .agg #[.int .i64 16, .int .i64 a, .int .i64 b, .int .i64 cc, .int .i64 n]] w (CPost p (setC c a (alu 16 (c.r.getD b 0) (c.r.getD cc 0))) o i w) := by
  have HC := Lib.hid (hC.alloc (.cells #[.int .i64 16, .int .i64 a, .int .i64 b, .int .i64 cc, .int .i64 n] 51))
  have B0 := Lib.hid ((But.refl [p] w).alloc (.cells #[.int .i64 16, .int .i64 a, .int .i64 b, .int .i64 cc, .int .i64 n] 51))
  have K0 := Lib.hid (Whole.made w 51 #[.int .i64 16, .int .i64 a, .int .i64 b, .int .i64 cc, .int .i64 n] _ rfl)
  have hpn : w.heap.size ≠ p := Nat.ne_of_gt hC.lt
  have S := Lib.hid (fun v w hC => cset_any p a c o i v w ha hC)
  have CM := Lib.hid (fun w => computed_16 (c.r.getD b 0) (c.r.getD cc 0) w ub uc)
  clear hC
  unfold CPost at *
  go_enter Tryd.func30, Tryd.ntmps30
  go_wp2_with fail
  generalize w.alloc (.cells #[.int .i64 16, .int .i64 a, .int .i64 b, .int .i64 cc, .int .i64 n] 51) = V at *
  have k0 : V.cell? ⟨w.heap.size, 0, none⟩ = some (.int .i64 16) := K0.out.cell 0
  have k1 : V.cell? ⟨w.heap.size, 1, none⟩ = some (.int .i64 a) := K0.out.cell 1
  have k2 : V.cell? ⟨w.heap.size, 2, none⟩ = some (.int .i64 b) := K0.out.cell 2
  have k3 : V.cell? ⟨w.heap.size, 3, none⟩ = some (.int .i64 cc) := K0.out.cell 3
  have k4 : V.cell? ⟨w.heap.size, 4, none⟩ = some (.int .i64 n) := K0.out.cell 4
  have qb := HC.out.reg hb
  have qc := HC.out.reg hcc
  have hbI : (b : Int) < 16 := by omega
  have hcI : (cc : Int) < 16 := by omega
  refine still_tail 20 (by kernel_rfl) (by kernel_rfl) ?_
  simp only [List.take_succ_cons, List.take_zero, List.drop_succ_cons, List.drop_zero]
  repeat still_step
  still_call ((CM.out _).mono (fun _ _ h => ⟨h.1, h.2.symm⟩))
  refine wpStill_nil ?_
  have HD := Lib.hid HC.out.drew
  have BD := Lib.hid B0.out.drew
  clear HC B0 qb qc k0 k1 k2 k3 k4 K0
  generalize V.drew = W at *
  go_wp2_with fail
  refine (S.out _ _ HD.out).mono ?_
  rintro e w' ⟨rfl, hc, hb⟩
  go_wp2_with fail
  first | go_end0 | refine bodyPost_ret (results_none rfl _ _ _) rfl ?_
  exact ⟨rfl, hc, BD.out.trans hb⟩

set_option maxHeartbeats 4000000 in
set_option maxRecDepth 100000 in
theorem cexec_17 (p q a b cc : Nat) (n : Int) (c : Cp) (o i : Value) (w : World) (ha : a < 16) (hb : b < 16) (hcc : cc < 16) (ua : 0 ≤ (c.r.getD a 0) ∧ (c.r.getD a 0) ≤ 4294967295) (ub : 0 ≤ (c.r.getD b 0) ∧ (c.r.getD b 0) ≤ 4294967295) (uc : 0 ≤ (c.r.getD cc 0) ∧ (c.r.getD cc 0) ≤ 4294967295)  (hC : CpuAt w p 67 c o i) :
    Calls Tryd.prog 30 #[.pointer (some ⟨p, 0, none⟩), .pointer (some ⟨q, 0, none⟩), .agg #[.int .i64 17, .int .i64 a, .int .i64 b, .int .i64 cc, .int .i64 n]] w (CPost p (setC c a (alu 17 (c.r.getD b 0) (c.r.getD cc 0))) o i w) := by
  have HC := Lib.hid (hC.alloc (.cells #[.int .i64 17, .int .i64 a, .int .i64 b, .int .i64 cc, .int .i64 n] 51))
  have B0 := Lib.hid ((But.refl [p] w).alloc (.cells #[.int .i64 17, .int .i64 a, .int .i64 b, .int .i64 cc, .int .i64 n] 51))
  have K0 := Lib.hid (Whole.made w 51 #[.int .i64 17, .int .i64 a, .int .i64 b, .int .i64 cc, .int .i64 n] _ rfl)
  have hpn : w.heap.size ≠ p := Nat.ne_of_gt hC.lt
  have S := Lib.hid (fun v w hC => cset_any p a c o i v w ha hC)
  have CM := Lib.hid (fun w => computed_17 (c.r.getD b 0) (c.r.getD cc 0) w ub uc)
  clear hC
  unfold CPost at *
  go_enter Tryd.func30, Tryd.ntmps30
  go_wp2_with fail
  generalize w.alloc (.cells #[.int .i64 17, .int .i64 a, .int .i64 b, .int .i64 cc, .int .i64 n] 51) = V at *
  have k0 : V.cell? ⟨w.heap.size, 0, none⟩ = some (.int .i64 17) := K0.out.cell 0
  have k1 : V.cell? ⟨w.heap.size, 1, none⟩ = some (.int .i64 a) := K0.out.cell 1
  have k2 : V.cell? ⟨w.heap.size, 2, none⟩ = some (.int .i64 b) := K0.out.cell 2
  have k3 : V.cell? ⟨w.heap.size, 3, none⟩ = some (.int .i64 cc) := K0.out.cell 3
  have k4 : V.cell? ⟨w.heap.size, 4, none⟩ = some (.int .i64 n) := K0.out.cell 4
  have qb := HC.out.reg hb
  have qc := HC.out.reg hcc
  have hbI : (b : Int) < 16 := by omega
  have hcI : (cc : Int) < 16 := by omega
  refine still_tail 20 (by kernel_rfl) (by kernel_rfl) ?_
  simp only [List.take_succ_cons, List.take_zero, List.drop_succ_cons, List.drop_zero]
  repeat still_step
  still_call ((CM.out _).mono (fun _ _ h => ⟨h.1, h.2.symm⟩))
  refine wpStill_nil ?_
  have HD := Lib.hid HC.out.drew
  have BD := Lib.hid B0.out.drew
  clear HC B0 qb qc k0 k1 k2 k3 k4 K0
  generalize V.drew = W at *
  go_wp2_with fail
  refine (S.out _ _ HD.out).mono ?_
  rintro e w' ⟨rfl, hc, hb⟩
  go_wp2_with fail
  first | go_end0 | refine bodyPost_ret (results_none rfl _ _ _) rfl ?_
  exact ⟨rfl, hc, BD.out.trans hb⟩

end Go.Proofs.YtinpdgjbiimgkaaDoor

/- Package cpu: execute, by operation. -/
namespace Go.Proofs.YtinpdgjbiimgkaaDoor
open Go.ChangeShapes Go.WideShapes Go.ChangeAt Go.RowKit
set_option linter.unusedVariables false

set_option maxHeartbeats 4000000 in
set_option maxRecDepth 100000 in
theorem cexec_9_zero (p q a b cc : Nat) (n : Int) (c : Cp) (o i : Value) (w : World) (ha : a < 16) (hb : b < 16) (hcc : cc < 16) (ua : 0 ≤ (c.r.getD a 0) ∧ (c.r.getD a 0) ≤ 4294967295) (ub : 0 ≤ (c.r.getD b 0) ∧ (c.r.getD b 0) ≤ 4294967295) (uc : 0 ≤ (c.r.getD cc 0) ∧ (c.r.getD cc 0) ≤ 4294967295) (hz : (c.r.getD cc 0) = 0) (hC : CpuAt w p 67 c o i) :
    Calls Tryd.prog 30 #[.pointer (some ⟨p, 0, none⟩), .pointer (some ⟨q, 0, none⟩), .agg #[.int .i64 9, .int .i64 a, .int .i64 b, .int .i64 cc, .int .i64 n]] w (CPost p (trapC c 3) o i w) := by
  have HC := Lib.hid (hC.alloc (.cells #[.int .i64 9, .int .i64 a, .int .i64 b, .int .i64 cc, .int .i64 n] 51))
  have B0 := Lib.hid ((But.refl [p] w).alloc (.cells #[.int .i64 9, .int .i64 a, .int .i64 b, .int .i64 cc, .int .i64 n] 51))
  have K0 := Lib.hid (Whole.made w 51 #[.int .i64 9, .int .i64 a, .int .i64 b, .int .i64 cc, .int .i64 n] _ rfl)
  have hpn : w.heap.size ≠ p := Nat.ne_of_gt hC.lt
  have R := Lib.hid (fun w hC => cdivide_9_zero p a b cc n c o i w ha hb hcc hz hC)
  clear hC
  unfold CPost at *
  go_enter Tryd.func30, Tryd.ntmps30
  go_wp2_with fail
  refine (R.out _ HC.out).mono ?_
  rintro e w' ⟨rfl, hc, hb⟩
  go_wp2_with fail
  first | go_end0 | refine bodyPost_ret (results_none rfl _ _ _) rfl ?_
  exact ⟨rfl, hc, B0.out.trans hb⟩

set_option maxHeartbeats 4000000 in
set_option maxRecDepth 100000 in
theorem cexec_9 (p q a b cc : Nat) (n : Int) (c : Cp) (o i : Value) (w : World) (ha : a < 16) (hb : b < 16) (hcc : cc < 16) (ua : 0 ≤ (c.r.getD a 0) ∧ (c.r.getD a 0) ≤ 4294967295) (ub : 0 ≤ (c.r.getD b 0) ∧ (c.r.getD b 0) ≤ 4294967295) (uc : 0 ≤ (c.r.getD cc 0) ∧ (c.r.getD cc 0) ≤ 4294967295) (hz : (c.r.getD cc 0) ≠ 0) (hC : CpuAt w p 67 c o i) :
    Calls Tryd.prog 30 #[.pointer (some ⟨p, 0, none⟩), .pointer (some ⟨q, 0, none⟩), .agg #[.int .i64 9, .int .i64 a, .int .i64 b, .int .i64 cc, .int .i64 n]] w (CPost p (setC c a (w32 (dv (wrap32 (c.r.getD b 0)) (wrap32 (c.r.getD cc 0))))) o i w) := by
  have HC := Lib.hid (hC.alloc (.cells #[.int .i64 9, .int .i64 a, .int .i64 b, .int .i64 cc, .int .i64 n] 51))
  have B0 := Lib.hid ((But.refl [p] w).alloc (.cells #[.int .i64 9, .int .i64 a, .int .i64 b, .int .i64 cc, .int .i64 n] 51))
  have K0 := Lib.hid (Whole.made w 51 #[.int .i64 9, .int .i64 a, .int .i64 b, .int .i64 cc, .int .i64 n] _ rfl)
  have hpn : w.heap.size ≠ p := Nat.ne_of_gt hC.lt
  have R := Lib.hid (fun w hC => cdivide_9 p a b cc n c o i w ha hb hcc uc hz hC)
  clear hC
  unfold CPost at *
  go_enter Tryd.func30, Tryd.ntmps30
  go_wp2_with fail
  refine (R.out _ HC.out).mono ?_
  rintro e w' ⟨rfl, hc, hb⟩
  go_wp2_with fail
  first | go_end0 | refine bodyPost_ret (results_none rfl _ _ _) rfl ?_
  exact ⟨rfl, hc, B0.out.trans hb⟩

set_option maxHeartbeats 4000000 in
set_option maxRecDepth 100000 in
theorem cexec_10_zero (p q a b cc : Nat) (n : Int) (c : Cp) (o i : Value) (w : World) (ha : a < 16) (hb : b < 16) (hcc : cc < 16) (ua : 0 ≤ (c.r.getD a 0) ∧ (c.r.getD a 0) ≤ 4294967295) (ub : 0 ≤ (c.r.getD b 0) ∧ (c.r.getD b 0) ≤ 4294967295) (uc : 0 ≤ (c.r.getD cc 0) ∧ (c.r.getD cc 0) ≤ 4294967295) (hz : (c.r.getD cc 0) = 0) (hC : CpuAt w p 67 c o i) :
    Calls Tryd.prog 30 #[.pointer (some ⟨p, 0, none⟩), .pointer (some ⟨q, 0, none⟩), .agg #[.int .i64 10, .int .i64 a, .int .i64 b, .int .i64 cc, .int .i64 n]] w (CPost p (trapC c 3) o i w) := by
  have HC := Lib.hid (hC.alloc (.cells #[.int .i64 10, .int .i64 a, .int .i64 b, .int .i64 cc, .int .i64 n] 51))
  have B0 := Lib.hid ((But.refl [p] w).alloc (.cells #[.int .i64 10, .int .i64 a, .int .i64 b, .int .i64 cc, .int .i64 n] 51))
  have K0 := Lib.hid (Whole.made w 51 #[.int .i64 10, .int .i64 a, .int .i64 b, .int .i64 cc, .int .i64 n] _ rfl)
  have hpn : w.heap.size ≠ p := Nat.ne_of_gt hC.lt
  have R := Lib.hid (fun w hC => cdivide_10_zero p a b cc n c o i w ha hb hcc hz hC)
  clear hC
  unfold CPost at *
  go_enter Tryd.func30, Tryd.ntmps30
  go_wp2_with fail
  refine (R.out _ HC.out).mono ?_
  rintro e w' ⟨rfl, hc, hb⟩
  go_wp2_with fail
  first | go_end0 | refine bodyPost_ret (results_none rfl _ _ _) rfl ?_
  exact ⟨rfl, hc, B0.out.trans hb⟩

set_option maxHeartbeats 4000000 in
set_option maxRecDepth 100000 in
theorem cexec_10 (p q a b cc : Nat) (n : Int) (c : Cp) (o i : Value) (w : World) (ha : a < 16) (hb : b < 16) (hcc : cc < 16) (ua : 0 ≤ (c.r.getD a 0) ∧ (c.r.getD a 0) ≤ 4294967295) (ub : 0 ≤ (c.r.getD b 0) ∧ (c.r.getD b 0) ≤ 4294967295) (uc : 0 ≤ (c.r.getD cc 0) ∧ (c.r.getD cc 0) ≤ 4294967295) (hz : (c.r.getD cc 0) ≠ 0) (hC : CpuAt w p 67 c o i) :
    Calls Tryd.prog 30 #[.pointer (some ⟨p, 0, none⟩), .pointer (some ⟨q, 0, none⟩), .agg #[.int .i64 10, .int .i64 a, .int .i64 b, .int .i64 cc, .int .i64 n]] w (CPost p (setC c a (w32 (md (wrap32 (c.r.getD b 0)) (wrap32 (c.r.getD cc 0))))) o i w) := by
  have HC := Lib.hid (hC.alloc (.cells #[.int .i64 10, .int .i64 a, .int .i64 b, .int .i64 cc, .int .i64 n] 51))
  have B0 := Lib.hid ((But.refl [p] w).alloc (.cells #[.int .i64 10, .int .i64 a, .int .i64 b, .int .i64 cc, .int .i64 n] 51))
  have K0 := Lib.hid (Whole.made w 51 #[.int .i64 10, .int .i64 a, .int .i64 b, .int .i64 cc, .int .i64 n] _ rfl)
  have hpn : w.heap.size ≠ p := Nat.ne_of_gt hC.lt
  have R := Lib.hid (fun w hC => cdivide_10 p a b cc n c o i w ha hb hcc uc hz hC)
  clear hC
  unfold CPost at *
  go_enter Tryd.func30, Tryd.ntmps30
  go_wp2_with fail
  refine (R.out _ HC.out).mono ?_
  rintro e w' ⟨rfl, hc, hb⟩
  go_wp2_with fail
  first | go_end0 | refine bodyPost_ret (results_none rfl _ _ _) rfl ?_
  exact ⟨rfl, hc, B0.out.trans hb⟩

set_option maxHeartbeats 4000000 in
set_option maxRecDepth 100000 in
theorem cexec_20_true (p q a b cc : Nat) (n : Int) (c : Cp) (o i : Value) (w : World) (ha : a < 16) (hb : b < 16) (hcc : cc < 16) (ua : 0 ≤ (c.r.getD a 0) ∧ (c.r.getD a 0) ≤ 4294967295) (ub : 0 ≤ (c.r.getD b 0) ∧ (c.r.getD b 0) ≤ 4294967295) (uc : 0 ≤ (c.r.getD cc 0) ∧ (c.r.getD cc 0) ≤ 4294967295) (hd : ((c.r.getD a 0) == 0) = true) (hC : CpuAt w p 67 c o i) :
    Calls Tryd.prog 30 #[.pointer (some ⟨p, 0, none⟩), .pointer (some ⟨q, 0, none⟩), .agg #[.int .i64 20, .int .i64 a, .int .i64 b, .int .i64 cc, .int .i64 n]] w (CPost p (jumpC c n) o i w) := by
  have HC := Lib.hid (hC.alloc (.cells #[.int .i64 20, .int .i64 a, .int .i64 b, .int .i64 cc, .int .i64 n] 51))
  have B0 := Lib.hid ((But.refl [p] w).alloc (.cells #[.int .i64 20, .int .i64 a, .int .i64 b, .int .i64 cc, .int .i64 n] 51))
  have K0 := Lib.hid (Whole.made w 51 #[.int .i64 20, .int .i64 a, .int .i64 b, .int .i64 cc, .int .i64 n] _ rfl)
  have hpn : w.heap.size ≠ p := Nat.ne_of_gt hC.lt
  have R := Lib.hid (fun w hC => cjump_20_true p a b cc n c o i w ha hd hC)
  clear hC
  unfold CPost at *
  go_enter Tryd.func30, Tryd.ntmps30
  go_wp2_with fail
  refine (R.out _ HC.out).mono ?_
  rintro e w' ⟨rfl, hc, hb⟩
  go_wp2_with fail
  first | go_end0 | refine bodyPost_ret (results_none rfl _ _ _) rfl ?_
  exact ⟨rfl, hc, B0.out.trans hb⟩

set_option maxHeartbeats 4000000 in
set_option maxRecDepth 100000 in
theorem cexec_20_false (p q a b cc : Nat) (n : Int) (c : Cp) (o i : Value) (w : World) (ha : a < 16) (hb : b < 16) (hcc : cc < 16) (ua : 0 ≤ (c.r.getD a 0) ∧ (c.r.getD a 0) ≤ 4294967295) (ub : 0 ≤ (c.r.getD b 0) ∧ (c.r.getD b 0) ≤ 4294967295) (uc : 0 ≤ (c.r.getD cc 0) ∧ (c.r.getD cc 0) ≤ 4294967295) (hd : ((c.r.getD a 0) == 0) = false) (hC : CpuAt w p 67 c o i) :
    Calls Tryd.prog 30 #[.pointer (some ⟨p, 0, none⟩), .pointer (some ⟨q, 0, none⟩), .agg #[.int .i64 20, .int .i64 a, .int .i64 b, .int .i64 cc, .int .i64 n]] w (CPost p (passC c) o i w) := by
  have HC := Lib.hid (hC.alloc (.cells #[.int .i64 20, .int .i64 a, .int .i64 b, .int .i64 cc, .int .i64 n] 51))
  have B0 := Lib.hid ((But.refl [p] w).alloc (.cells #[.int .i64 20, .int .i64 a, .int .i64 b, .int .i64 cc, .int .i64 n] 51))
  have K0 := Lib.hid (Whole.made w 51 #[.int .i64 20, .int .i64 a, .int .i64 b, .int .i64 cc, .int .i64 n] _ rfl)
  have hpn : w.heap.size ≠ p := Nat.ne_of_gt hC.lt
  have R := Lib.hid (fun w hC => cjump_20_false p a b cc n c o i w ha hd hC)
  clear hC
  unfold CPost at *
  go_enter Tryd.func30, Tryd.ntmps30
  go_wp2_with fail
  refine (R.out _ HC.out).mono ?_
  rintro e w' ⟨rfl, hc, hb⟩
  go_wp2_with fail
  first | go_end0 | refine bodyPost_ret (results_none rfl _ _ _) rfl ?_
  exact ⟨rfl, hc, B0.out.trans hb⟩

set_option maxHeartbeats 4000000 in
set_option maxRecDepth 100000 in
theorem cexec_21_true (p q a b cc : Nat) (n : Int) (c : Cp) (o i : Value) (w : World) (ha : a < 16) (hb : b < 16) (hcc : cc < 16) (ua : 0 ≤ (c.r.getD a 0) ∧ (c.r.getD a 0) ≤ 4294967295) (ub : 0 ≤ (c.r.getD b 0) ∧ (c.r.getD b 0) ≤ 4294967295) (uc : 0 ≤ (c.r.getD cc 0) ∧ (c.r.getD cc 0) ≤ 4294967295) (hd : ((c.r.getD a 0) != 0) = true) (hC : CpuAt w p 67 c o i) :
    Calls Tryd.prog 30 #[.pointer (some ⟨p, 0, none⟩), .pointer (some ⟨q, 0, none⟩), .agg #[.int .i64 21, .int .i64 a, .int .i64 b, .int .i64 cc, .int .i64 n]] w (CPost p (jumpC c n) o i w) := by
  have HC := Lib.hid (hC.alloc (.cells #[.int .i64 21, .int .i64 a, .int .i64 b, .int .i64 cc, .int .i64 n] 51))
  have B0 := Lib.hid ((But.refl [p] w).alloc (.cells #[.int .i64 21, .int .i64 a, .int .i64 b, .int .i64 cc, .int .i64 n] 51))
  have K0 := Lib.hid (Whole.made w 51 #[.int .i64 21, .int .i64 a, .int .i64 b, .int .i64 cc, .int .i64 n] _ rfl)
  have hpn : w.heap.size ≠ p := Nat.ne_of_gt hC.lt
  have R := Lib.hid (fun w hC => cjump_21_true p a b cc n c o i w ha hd hC)
  clear hC
  unfold CPost at *
  go_enter Tryd.func30, Tryd.ntmps30
  go_wp2_with fail
  refine (R.out _ HC.out).mono ?_
  rintro e w' ⟨rfl, hc, hb⟩
  go_wp2_with fail
  first | go_end0 | refine bodyPost_ret (results_none rfl _ _ _) rfl ?_
  exact ⟨rfl, hc, B0.out.trans hb⟩

set_option maxHeartbeats 4000000 in
set_option maxRecDepth 100000 in
theorem cexec_21_false (p q a b cc : Nat) (n : Int) (c : Cp) (o i : Value) (w : World) (ha : a < 16) (hb : b < 16) (hcc : cc < 16) (ua : 0 ≤ (c.r.getD a 0) ∧ (c.r.getD a 0) ≤ 4294967295) (ub : 0 ≤ (c.r.getD b 0) ∧ (c.r.getD b 0) ≤ 4294967295) (uc : 0 ≤ (c.r.getD cc 0) ∧ (c.r.getD cc 0) ≤ 4294967295) (hd : ((c.r.getD a 0) != 0) = false) (hC : CpuAt w p 67 c o i) :
    Calls Tryd.prog 30 #[.pointer (some ⟨p, 0, none⟩), .pointer (some ⟨q, 0, none⟩), .agg #[.int .i64 21, .int .i64 a, .int .i64 b, .int .i64 cc, .int .i64 n]] w (CPost p (passC c) o i w) := by
  have HC := Lib.hid (hC.alloc (.cells #[.int .i64 21, .int .i64 a, .int .i64 b, .int .i64 cc, .int .i64 n] 51))
  have B0 := Lib.hid ((But.refl [p] w).alloc (.cells #[.int .i64 21, .int .i64 a, .int .i64 b, .int .i64 cc, .int .i64 n] 51))
  have K0 := Lib.hid (Whole.made w 51 #[.int .i64 21, .int .i64 a, .int .i64 b, .int .i64 cc, .int .i64 n] _ rfl)
  have hpn : w.heap.size ≠ p := Nat.ne_of_gt hC.lt
  have R := Lib.hid (fun w hC => cjump_21_false p a b cc n c o i w ha hd hC)
  clear hC
  unfold CPost at *
  go_enter Tryd.func30, Tryd.ntmps30
  go_wp2_with fail
  refine (R.out _ HC.out).mono ?_
  rintro e w' ⟨rfl, hc, hb⟩
  go_wp2_with fail
  first | go_end0 | refine bodyPost_ret (results_none rfl _ _ _) rfl ?_
  exact ⟨rfl, hc, B0.out.trans hb⟩

set_option maxHeartbeats 4000000 in
set_option maxRecDepth 100000 in
theorem cexec_22 (p q a b cc : Nat) (n : Int) (c : Cp) (o i : Value) (w : World) (ha : a < 16) (hb : b < 16) (hcc : cc < 16) (ua : 0 ≤ (c.r.getD a 0) ∧ (c.r.getD a 0) ≤ 4294967295) (ub : 0 ≤ (c.r.getD b 0) ∧ (c.r.getD b 0) ≤ 4294967295) (uc : 0 ≤ (c.r.getD cc 0) ∧ (c.r.getD cc 0) ≤ 4294967295)  (hC : CpuAt w p 67 c o i) :
    Calls Tryd.prog 30 #[.pointer (some ⟨p, 0, none⟩), .pointer (some ⟨q, 0, none⟩), .agg #[.int .i64 22, .int .i64 a, .int .i64 b, .int .i64 cc, .int .i64 n]] w (CPost p (jumpC c n) o i w) := by
  have HC := Lib.hid (hC.alloc (.cells #[.int .i64 22, .int .i64 a, .int .i64 b, .int .i64 cc, .int .i64 n] 51))
  have B0 := Lib.hid ((But.refl [p] w).alloc (.cells #[.int .i64 22, .int .i64 a, .int .i64 b, .int .i64 cc, .int .i64 n] 51))
  have K0 := Lib.hid (Whole.made w 51 #[.int .i64 22, .int .i64 a, .int .i64 b, .int .i64 cc, .int .i64 n] _ rfl)
  have hpn : w.heap.size ≠ p := Nat.ne_of_gt hC.lt
  have R := Lib.hid (fun w hC => cjump_22 p a b cc n c o i w ha hC)
  clear hC
  unfold CPost at *
  go_enter Tryd.func30, Tryd.ntmps30
  go_wp2_with fail
  refine (R.out _ HC.out).mono ?_
  rintro e w' ⟨rfl, hc, hb⟩
  go_wp2_with fail
  first | go_end0 | refine bodyPost_ret (results_none rfl _ _ _) rfl ?_
  exact ⟨rfl, hc, B0.out.trans hb⟩

set_option maxHeartbeats 4000000 in
set_option maxRecDepth 100000 in
theorem cexec_23 (p q a b cc : Nat) (n : Int) (c : Cp) (o i : Value) (w : World) (ha : a < 16) (hb : b < 16) (hcc : cc < 16) (ua : 0 ≤ (c.r.getD a 0) ∧ (c.r.getD a 0) ≤ 4294967295) (ub : 0 ≤ (c.r.getD b 0) ∧ (c.r.getD b 0) ≤ 4294967295) (uc : 0 ≤ (c.r.getD cc 0) ∧ (c.r.getD cc 0) ≤ 4294967295)  (hC : CpuAt w p 67 c o i) :
    Calls Tryd.prog 30 #[.pointer (some ⟨p, 0, none⟩), .pointer (some ⟨q, 0, none⟩), .agg #[.int .i64 23, .int .i64 a, .int .i64 b, .int .i64 cc, .int .i64 n]] w (CPost p (jumpC { c with r := c.r.set 14 (w32 (c.pc + 4)) } n) o i w) := by
  have HC := Lib.hid (hC.alloc (.cells #[.int .i64 23, .int .i64 a, .int .i64 b, .int .i64 cc, .int .i64 n] 51))
  have B0 := Lib.hid ((But.refl [p] w).alloc (.cells #[.int .i64 23, .int .i64 a, .int .i64 b, .int .i64 cc, .int .i64 n] 51))
  have K0 := Lib.hid (Whole.made w 51 #[.int .i64 23, .int .i64 a, .int .i64 b, .int .i64 cc, .int .i64 n] _ rfl)
  have hpn : w.heap.size ≠ p := Nat.ne_of_gt hC.lt
  have R := Lib.hid (fun w hC => cjump_23 p a b cc n c o i w ha hC)
  clear hC
  unfold CPost at *
  go_enter Tryd.func30, Tryd.ntmps30
  go_wp2_with fail
  refine (R.out _ HC.out).mono ?_
  rintro e w' ⟨rfl, hc, hb⟩
  go_wp2_with fail
  first | go_end0 | refine bodyPost_ret (results_none rfl _ _ _) rfl ?_
  exact ⟨rfl, hc, B0.out.trans hb⟩

set_option maxHeartbeats 4000000 in
set_option maxRecDepth 100000 in
theorem cexec_24 (p q a b cc : Nat) (n : Int) (c : Cp) (o i : Value) (w : World) (ha : a < 16) (hb : b < 16) (hcc : cc < 16) (ua : 0 ≤ (c.r.getD a 0) ∧ (c.r.getD a 0) ≤ 4294967295) (ub : 0 ≤ (c.r.getD b 0) ∧ (c.r.getD b 0) ≤ 4294967295) (uc : 0 ≤ (c.r.getD cc 0) ∧ (c.r.getD cc 0) ≤ 4294967295)  (hC : CpuAt w p 67 c o i) :
    Calls Tryd.prog 30 #[.pointer (some ⟨p, 0, none⟩), .pointer (some ⟨q, 0, none⟩), .agg #[.int .i64 24, .int .i64 a, .int .i64 b, .int .i64 cc, .int .i64 n]] w (CPost p ({ c with pc := (c.r.getD a 0) }) o i w) := by
  have HC := Lib.hid (hC.alloc (.cells #[.int .i64 24, .int .i64 a, .int .i64 b, .int .i64 cc, .int .i64 n] 51))
  have B0 := Lib.hid ((But.refl [p] w).alloc (.cells #[.int .i64 24, .int .i64 a, .int .i64 b, .int .i64 cc, .int .i64 n] 51))
  have K0 := Lib.hid (Whole.made w 51 #[.int .i64 24, .int .i64 a, .int .i64 b, .int .i64 cc, .int .i64 n] _ rfl)
  have hpn : w.heap.size ≠ p := Nat.ne_of_gt hC.lt
  have R := Lib.hid (fun w hC => cjump_24 p a b cc n c o i w ha hC)
  clear hC
  unfold CPost at *
  go_enter Tryd.func30, Tryd.ntmps30
  go_wp2_with fail
  refine (R.out _ HC.out).mono ?_
  rintro e w' ⟨rfl, hc, hb⟩
  go_wp2_with fail
  first | go_end0 | refine bodyPost_ret (results_none rfl _ _ _) rfl ?_
  exact ⟨rfl, hc, B0.out.trans hb⟩

set_option maxHeartbeats 4000000 in
set_option maxRecDepth 100000 in
theorem cexec_25 (p q a b cc : Nat) (n : Int) (c : Cp) (o i : Value) (w : World) (ha : a < 16) (hb : b < 16) (hcc : cc < 16) (ua : 0 ≤ (c.r.getD a 0) ∧ (c.r.getD a 0) ≤ 4294967295) (ub : 0 ≤ (c.r.getD b 0) ∧ (c.r.getD b 0) ≤ 4294967295) (uc : 0 ≤ (c.r.getD cc 0) ∧ (c.r.getD cc 0) ≤ 4294967295)  (hC : CpuAt w p 67 c o i) :
    Calls Tryd.prog 30 #[.pointer (some ⟨p, 0, none⟩), .pointer (some ⟨q, 0, none⟩), .agg #[.int .i64 25, .int .i64 a, .int .i64 b, .int .i64 cc, .int .i64 n]] w (CPost p ({ c with r := c.r.set 14 (w32 (c.pc + 4)), pc := (c.r.getD a 0) }) o i w) := by
  have HC := Lib.hid (hC.alloc (.cells #[.int .i64 25, .int .i64 a, .int .i64 b, .int .i64 cc, .int .i64 n] 51))
  have B0 := Lib.hid ((But.refl [p] w).alloc (.cells #[.int .i64 25, .int .i64 a, .int .i64 b, .int .i64 cc, .int .i64 n] 51))
  have K0 := Lib.hid (Whole.made w 51 #[.int .i64 25, .int .i64 a, .int .i64 b, .int .i64 cc, .int .i64 n] _ rfl)
  have hpn : w.heap.size ≠ p := Nat.ne_of_gt hC.lt
  have R := Lib.hid (fun w hC => cjump_25 p a b cc n c o i w ha hC)
  clear hC
  unfold CPost at *
  go_enter Tryd.func30, Tryd.ntmps30
  go_wp2_with fail
  refine (R.out _ HC.out).mono ?_
  rintro e w' ⟨rfl, hc, hb⟩
  go_wp2_with fail
  first | go_end0 | refine bodyPost_ret (results_none rfl _ _ _) rfl ?_
  exact ⟨rfl, hc, B0.out.trans hb⟩

end Go.Proofs.YtinpdgjbiimgkaaDoor

/- Package cpu: execute, by operation. -/
namespace Go.Proofs.YtinpdgjbiimgkaaDoor
open Go.ChangeShapes Go.WideShapes Go.ChangeAt Go.RowKit
set_option linter.unusedVariables false

set_option maxHeartbeats 4000000 in
set_option maxRecDepth 100000 in
theorem cexec_26_true (p q a b cc : Nat) (n : Int) (c : Cp) (o i : Value) (w : World) (ha : a < 16) (hb : b < 16) (hcc : cc < 16) (ua : 0 ≤ (c.r.getD a 0) ∧ (c.r.getD a 0) ≤ 4294967295) (ub : 0 ≤ (c.r.getD b 0) ∧ (c.r.getD b 0) ≤ 4294967295) (uc : 0 ≤ (c.r.getD cc 0) ∧ (c.r.getD cc 0) ≤ 4294967295) (hd : decide ((c.r.getD a 0) < n % 4294967296) = true) (hC : CpuAt w p 67 c o i) :
    Calls Tryd.prog 30 #[.pointer (some ⟨p, 0, none⟩), .pointer (some ⟨q, 0, none⟩), .agg #[.int .i64 26, .int .i64 a, .int .i64 b, .int .i64 cc, .int .i64 n]] w (CPost p (passC c) o i w) := by
  have HC := Lib.hid (hC.alloc (.cells #[.int .i64 26, .int .i64 a, .int .i64 b, .int .i64 cc, .int .i64 n] 51))
  have B0 := Lib.hid ((But.refl [p] w).alloc (.cells #[.int .i64 26, .int .i64 a, .int .i64 b, .int .i64 cc, .int .i64 n] 51))
  have K0 := Lib.hid (Whole.made w 51 #[.int .i64 26, .int .i64 a, .int .i64 b, .int .i64 cc, .int .i64 n] _ rfl)
  have hpn : w.heap.size ≠ p := Nat.ne_of_gt hC.lt
  have R := Lib.hid (fun w hC => ccheck_26_true p a b cc n c o i w ha hb hd hC)
  clear hC
  unfold CPost at *
  go_enter Tryd.func30, Tryd.ntmps30
  go_wp2_with fail
  refine (R.out _ HC.out).mono ?_
  rintro e w' ⟨rfl, hc, hb⟩
  go_wp2_with fail
  first | go_end0 | refine bodyPost_ret (results_none rfl _ _ _) rfl ?_
  exact ⟨rfl, hc, B0.out.trans hb⟩

set_option maxHeartbeats 4000000 in
set_option maxRecDepth 100000 in
theorem cexec_27_true (p q a b cc : Nat) (n : Int) (c : Cp) (o i : Value) (w : World) (ha : a < 16) (hb : b < 16) (hcc : cc < 16) (ua : 0 ≤ (c.r.getD a 0) ∧ (c.r.getD a 0) ≤ 4294967295) (ub : 0 ≤ (c.r.getD b 0) ∧ (c.r.getD b 0) ≤ 4294967295) (uc : 0 ≤ (c.r.getD cc 0) ∧ (c.r.getD cc 0) ≤ 4294967295) (hd : ((c.r.getD a 0) != 0) = true) (hC : CpuAt w p 67 c o i) :
    Calls Tryd.prog 30 #[.pointer (some ⟨p, 0, none⟩), .pointer (some ⟨q, 0, none⟩), .agg #[.int .i64 27, .int .i64 a, .int .i64 b, .int .i64 cc, .int .i64 n]] w (CPost p (passC c) o i w) := by
  have HC := Lib.hid (hC.alloc (.cells #[.int .i64 27, .int .i64 a, .int .i64 b, .int .i64 cc, .int .i64 n] 51))
  have B0 := Lib.hid ((But.refl [p] w).alloc (.cells #[.int .i64 27, .int .i64 a, .int .i64 b, .int .i64 cc, .int .i64 n] 51))
  have K0 := Lib.hid (Whole.made w 51 #[.int .i64 27, .int .i64 a, .int .i64 b, .int .i64 cc, .int .i64 n] _ rfl)
  have hpn : w.heap.size ≠ p := Nat.ne_of_gt hC.lt
  have R := Lib.hid (fun w hC => ccheck_27_true p a b cc n c o i w ha hd hC)
  clear hC
  unfold CPost at *
  go_enter Tryd.func30, Tryd.ntmps30
  go_wp2_with fail
  refine (R.out _ HC.out).mono ?_
  rintro e w' ⟨rfl, hc, hb⟩
  go_wp2_with fail
  first | go_end0 | refine bodyPost_ret (results_none rfl _ _ _) rfl ?_
  exact ⟨rfl, hc, B0.out.trans hb⟩

set_option maxHeartbeats 4000000 in
set_option maxRecDepth 100000 in
theorem cexec_32_true (p q a b cc : Nat) (n : Int) (c : Cp) (o i : Value) (w : World) (ha : a < 16) (hb : b < 16) (hcc : cc < 16) (ua : 0 ≤ (c.r.getD a 0) ∧ (c.r.getD a 0) ≤ 4294967295) (ub : 0 ≤ (c.r.getD b 0) ∧ (c.r.getD b 0) ≤ 4294967295) (uc : 0 ≤ (c.r.getD cc 0) ∧ (c.r.getD cc 0) ≤ 4294967295) (hd : decide (wrap32 c.li ≤ wrap32 (c.r.getD a 0)) = true) (hC : CpuAt w p 67 c o i) :
    Calls Tryd.prog 30 #[.pointer (some ⟨p, 0, none⟩), .pointer (some ⟨q, 0, none⟩), .agg #[.int .i64 32, .int .i64 a, .int .i64 b, .int .i64 cc, .int .i64 n]] w (CPost p (passC c) o i w) := by
  have HC := Lib.hid (hC.alloc (.cells #[.int .i64 32, .int .i64 a, .int .i64 b, .int .i64 cc, .int .i64 n] 51))
  have B0 := Lib.hid ((But.refl [p] w).alloc (.cells #[.int .i64 32, .int .i64 a, .int .i64 b, .int .i64 cc, .int .i64 n] 51))
  have K0 := Lib.hid (Whole.made w 51 #[.int .i64 32, .int .i64 a, .int .i64 b, .int .i64 cc, .int .i64 n] _ rfl)
  have hpn : w.heap.size ≠ p := Nat.ne_of_gt hC.lt
  have R := Lib.hid (fun w hC => ccheck_32_true p a b cc n c o i w ha hd hC)
  clear hC
  unfold CPost at *
  go_enter Tryd.func30, Tryd.ntmps30
  go_wp2_with fail
  refine (R.out _ HC.out).mono ?_
  rintro e w' ⟨rfl, hc, hb⟩
  go_wp2_with fail
  first | go_end0 | refine bodyPost_ret (results_none rfl _ _ _) rfl ?_
  exact ⟨rfl, hc, B0.out.trans hb⟩

set_option maxHeartbeats 4000000 in
set_option maxRecDepth 100000 in
theorem cexec_26_false (p q a b cc : Nat) (n : Int) (c : Cp) (o i : Value) (w : World) (ha : a < 16) (hb : b < 16) (hcc : cc < 16) (ua : 0 ≤ (c.r.getD a 0) ∧ (c.r.getD a 0) ≤ 4294967295) (ub : 0 ≤ (c.r.getD b 0) ∧ (c.r.getD b 0) ≤ 4294967295) (uc : 0 ≤ (c.r.getD cc 0) ∧ (c.r.getD cc 0) ≤ 4294967295) (hd : decide ((c.r.getD a 0) < n % 4294967296) = false) (hC : CpuAt w p 67 c o i) :
    Calls Tryd.prog 30 #[.pointer (some ⟨p, 0, none⟩), .pointer (some ⟨q, 0, none⟩), .agg #[.int .i64 26, .int .i64 a, .int .i64 b, .int .i64 cc, .int .i64 n]] w (CPost p (trapC c b) o i w) := by
  have HC := Lib.hid (hC.alloc (.cells #[.int .i64 26, .int .i64 a, .int .i64 b, .int .i64 cc, .int .i64 n] 51))
  have B0 := Lib.hid ((But.refl [p] w).alloc (.cells #[.int .i64 26, .int .i64 a, .int .i64 b, .int .i64 cc, .int .i64 n] 51))
  have K0 := Lib.hid (Whole.made w 51 #[.int .i64 26, .int .i64 a, .int .i64 b, .int .i64 cc, .int .i64 n] _ rfl)
  have hpn : w.heap.size ≠ p := Nat.ne_of_gt hC.lt
  have R := Lib.hid (fun w hC => ccheck_26_false p a b cc n c o i w ha hb hd hC)
  clear hC
  unfold CPost at *
  go_enter Tryd.func30, Tryd.ntmps30
  go_wp2_with fail
  refine (R.out _ HC.out).mono ?_
  rintro e w' ⟨rfl, hc, hb⟩
  go_wp2_with fail
  first | go_end0 | refine bodyPost_ret (results_none rfl _ _ _) rfl ?_
  exact ⟨rfl, hc, B0.out.trans hb⟩

set_option maxHeartbeats 4000000 in
set_option maxRecDepth 100000 in
theorem cexec_27_false (p q a b cc : Nat) (n : Int) (c : Cp) (o i : Value) (w : World) (ha : a < 16) (hb : b < 16) (hcc : cc < 16) (ua : 0 ≤ (c.r.getD a 0) ∧ (c.r.getD a 0) ≤ 4294967295) (ub : 0 ≤ (c.r.getD b 0) ∧ (c.r.getD b 0) ≤ 4294967295) (uc : 0 ≤ (c.r.getD cc 0) ∧ (c.r.getD cc 0) ≤ 4294967295) (hd : ((c.r.getD a 0) != 0) = false) (hC : CpuAt w p 67 c o i) :
    Calls Tryd.prog 30 #[.pointer (some ⟨p, 0, none⟩), .pointer (some ⟨q, 0, none⟩), .agg #[.int .i64 27, .int .i64 a, .int .i64 b, .int .i64 cc, .int .i64 n]] w (CPost p (trapC c 2) o i w) := by
  have HC := Lib.hid (hC.alloc (.cells #[.int .i64 27, .int .i64 a, .int .i64 b, .int .i64 cc, .int .i64 n] 51))
  have B0 := Lib.hid ((But.refl [p] w).alloc (.cells #[.int .i64 27, .int .i64 a, .int .i64 b, .int .i64 cc, .int .i64 n] 51))
  have K0 := Lib.hid (Whole.made w 51 #[.int .i64 27, .int .i64 a, .int .i64 b, .int .i64 cc, .int .i64 n] _ rfl)
  have hpn : w.heap.size ≠ p := Nat.ne_of_gt hC.lt
  have R := Lib.hid (fun w hC => ccheck_27_false p a b cc n c o i w ha hd hC)
  clear hC
  unfold CPost at *
  go_enter Tryd.func30, Tryd.ntmps30
  go_wp2_with fail
  refine (R.out _ HC.out).mono ?_
  rintro e w' ⟨rfl, hc, hb⟩
  go_wp2_with fail
  first | go_end0 | refine bodyPost_ret (results_none rfl _ _ _) rfl ?_
  exact ⟨rfl, hc, B0.out.trans hb⟩

set_option maxHeartbeats 4000000 in
set_option maxRecDepth 100000 in
theorem cexec_32_false (p q a b cc : Nat) (n : Int) (c : Cp) (o i : Value) (w : World) (ha : a < 16) (hb : b < 16) (hcc : cc < 16) (ua : 0 ≤ (c.r.getD a 0) ∧ (c.r.getD a 0) ≤ 4294967295) (ub : 0 ≤ (c.r.getD b 0) ∧ (c.r.getD b 0) ≤ 4294967295) (uc : 0 ≤ (c.r.getD cc 0) ∧ (c.r.getD cc 0) ≤ 4294967295) (hd : decide (wrap32 c.li ≤ wrap32 (c.r.getD a 0)) = false) (hC : CpuAt w p 67 c o i) :
    Calls Tryd.prog 30 #[.pointer (some ⟨p, 0, none⟩), .pointer (some ⟨q, 0, none⟩), .agg #[.int .i64 32, .int .i64 a, .int .i64 b, .int .i64 cc, .int .i64 n]] w (CPost p (trapC c 5) o i w) := by
  have HC := Lib.hid (hC.alloc (.cells #[.int .i64 32, .int .i64 a, .int .i64 b, .int .i64 cc, .int .i64 n] 51))
  have B0 := Lib.hid ((But.refl [p] w).alloc (.cells #[.int .i64 32, .int .i64 a, .int .i64 b, .int .i64 cc, .int .i64 n] 51))
  have K0 := Lib.hid (Whole.made w 51 #[.int .i64 32, .int .i64 a, .int .i64 b, .int .i64 cc, .int .i64 n] _ rfl)
  have hpn : w.heap.size ≠ p := Nat.ne_of_gt hC.lt
  have R := Lib.hid (fun w hC => ccheck_32_false p a b cc n c o i w ha hd hC)
  clear hC
  unfold CPost at *
  go_enter Tryd.func30, Tryd.ntmps30
  go_wp2_with fail
  refine (R.out _ HC.out).mono ?_
  rintro e w' ⟨rfl, hc, hb⟩
  go_wp2_with fail
  first | go_end0 | refine bodyPost_ret (results_none rfl _ _ _) rfl ?_
  exact ⟨rfl, hc, B0.out.trans hb⟩

set_option maxHeartbeats 4000000 in
set_option maxRecDepth 100000 in
theorem cexec_28 (p q a b cc : Nat) (n : Int) (c : Cp) (o i : Value) (w : World) (ha : a < 16) (hb : b < 16) (hcc : cc < 16) (ua : 0 ≤ (c.r.getD a 0) ∧ (c.r.getD a 0) ≤ 4294967295) (ub : 0 ≤ (c.r.getD b 0) ∧ (c.r.getD b 0) ≤ 4294967295) (uc : 0 ≤ (c.r.getD cc 0) ∧ (c.r.getD cc 0) ≤ 4294967295)  (hC : CpuAt w p 67 c o i) :
    Calls Tryd.prog 30 #[.pointer (some ⟨p, 0, none⟩), .pointer (some ⟨q, 0, none⟩), .agg #[.int .i64 28, .int .i64 a, .int .i64 b, .int .i64 cc, .int .i64 n]] w (CPost p (trapC c (w32 n)) o i w) := by
  have HC := Lib.hid (hC.alloc (.cells #[.int .i64 28, .int .i64 a, .int .i64 b, .int .i64 cc, .int .i64 n] 51))
  have B0 := Lib.hid ((But.refl [p] w).alloc (.cells #[.int .i64 28, .int .i64 a, .int .i64 b, .int .i64 cc, .int .i64 n] 51))
  have K0 := Lib.hid (Whole.made w 51 #[.int .i64 28, .int .i64 a, .int .i64 b, .int .i64 cc, .int .i64 n] _ rfl)
  have hpn : w.heap.size ≠ p := Nat.ne_of_gt hC.lt
  have R := Lib.hid (fun w hC => ccheck_28 p a b cc n c o i w ha hC)
  clear hC
  unfold CPost at *
  go_enter Tryd.func30, Tryd.ntmps30
  go_wp2_with fail
  refine (R.out _ HC.out).mono ?_
  rintro e w' ⟨rfl, hc, hb⟩
  go_wp2_with fail
  first | go_end0 | refine bodyPost_ret (results_none rfl _ _ _) rfl ?_
  exact ⟨rfl, hc, B0.out.trans hb⟩

set_option maxHeartbeats 4000000 in
set_option maxRecDepth 100000 in
theorem cexec_29 (p q a b cc : Nat) (n : Int) (c : Cp) (o i : Value) (w : World) (ha : a < 16) (hb : b < 16) (hcc : cc < 16) (ua : 0 ≤ (c.r.getD a 0) ∧ (c.r.getD a 0) ≤ 4294967295) (ub : 0 ≤ (c.r.getD b 0) ∧ (c.r.getD b 0) ≤ 4294967295) (uc : 0 ≤ (c.r.getD cc 0) ∧ (c.r.getD cc 0) ≤ 4294967295)  (hC : CpuAt w p 67 c o i) :
    Calls Tryd.prog 30 #[.pointer (some ⟨p, 0, none⟩), .pointer (some ⟨q, 0, none⟩), .agg #[.int .i64 29, .int .i64 a, .int .i64 b, .int .i64 cc, .int .i64 n]] w (CPost p (trapC c (c.r.getD a 0)) o i w) := by
  have HC := Lib.hid (hC.alloc (.cells #[.int .i64 29, .int .i64 a, .int .i64 b, .int .i64 cc, .int .i64 n] 51))
  have B0 := Lib.hid ((But.refl [p] w).alloc (.cells #[.int .i64 29, .int .i64 a, .int .i64 b, .int .i64 cc, .int .i64 n] 51))
  have K0 := Lib.hid (Whole.made w 51 #[.int .i64 29, .int .i64 a, .int .i64 b, .int .i64 cc, .int .i64 n] _ rfl)
  have hpn : w.heap.size ≠ p := Nat.ne_of_gt hC.lt
  have R := Lib.hid (fun w hC => ccheck_29 p a b cc n c o i w ha hC)
  clear hC
  unfold CPost at *
  go_enter Tryd.func30, Tryd.ntmps30
  go_wp2_with fail
  refine (R.out _ HC.out).mono ?_
  rintro e w' ⟨rfl, hc, hb⟩
  go_wp2_with fail
  first | go_end0 | refine bodyPost_ret (results_none rfl _ _ _) rfl ?_
  exact ⟨rfl, hc, B0.out.trans hb⟩

set_option maxHeartbeats 4000000 in
set_option maxRecDepth 100000 in
theorem cexec_33_0 (p q a b cc : Nat) (n : Int) (c : Cp) (o i : Value) (w : World) (ha : a < 16) (hb : b < 16) (hcc : cc < 16) (ua : 0 ≤ (c.r.getD a 0) ∧ (c.r.getD a 0) ≤ 4294967295) (ub : 0 ≤ (c.r.getD b 0) ∧ (c.r.getD b 0) ≤ 4294967295) (uc : 0 ≤ (c.r.getD cc 0) ∧ (c.r.getD cc 0) ≤ 4294967295) (hn : n = 0) (hC : CpuAt w p 67 c o i) :
    Calls Tryd.prog 30 #[.pointer (some ⟨p, 0, none⟩), .pointer (some ⟨q, 0, none⟩), .agg #[.int .i64 33, .int .i64 a, .int .i64 b, .int .i64 cc, .int .i64 n]] w (CPost p (setC c a c.epc) o i w) := by
  have HC := Lib.hid (hC.alloc (.cells #[.int .i64 33, .int .i64 a, .int .i64 b, .int .i64 cc, .int .i64 n] 51))
  have B0 := Lib.hid ((But.refl [p] w).alloc (.cells #[.int .i64 33, .int .i64 a, .int .i64 b, .int .i64 cc, .int .i64 n] 51))
  have K0 := Lib.hid (Whole.made w 51 #[.int .i64 33, .int .i64 a, .int .i64 b, .int .i64 cc, .int .i64 n] _ rfl)
  have hpn : w.heap.size ≠ p := Nat.ne_of_gt hC.lt
  have R := Lib.hid (fun w hC => cask_0 p a b cc n c o i w ha hn hC)
  clear hn
  clear hC
  unfold CPost at *
  go_enter Tryd.func30, Tryd.ntmps30
  go_wp2_with fail
  refine (R.out _ HC.out).mono ?_
  rintro e w' ⟨rfl, hc, hb⟩
  go_wp2_with fail
  first | go_end0 | refine bodyPost_ret (results_none rfl _ _ _) rfl ?_
  exact ⟨rfl, hc, B0.out.trans hb⟩

set_option maxHeartbeats 4000000 in
set_option maxRecDepth 100000 in
theorem cexec_33_1 (p q a b cc : Nat) (n : Int) (c : Cp) (o i : Value) (w : World) (ha : a < 16) (hb : b < 16) (hcc : cc < 16) (ua : 0 ≤ (c.r.getD a 0) ∧ (c.r.getD a 0) ≤ 4294967295) (ub : 0 ≤ (c.r.getD b 0) ∧ (c.r.getD b 0) ≤ 4294967295) (uc : 0 ≤ (c.r.getD cc 0) ∧ (c.r.getD cc 0) ≤ 4294967295) (hn : n = 1) (hC : CpuAt w p 67 c o i) :
    Calls Tryd.prog 30 #[.pointer (some ⟨p, 0, none⟩), .pointer (some ⟨q, 0, none⟩), .agg #[.int .i64 33, .int .i64 a, .int .i64 b, .int .i64 cc, .int .i64 n]] w (CPost p (setC c a c.cause) o i w) := by
  have HC := Lib.hid (hC.alloc (.cells #[.int .i64 33, .int .i64 a, .int .i64 b, .int .i64 cc, .int .i64 n] 51))
  have B0 := Lib.hid ((But.refl [p] w).alloc (.cells #[.int .i64 33, .int .i64 a, .int .i64 b, .int .i64 cc, .int .i64 n] 51))
  have K0 := Lib.hid (Whole.made w 51 #[.int .i64 33, .int .i64 a, .int .i64 b, .int .i64 cc, .int .i64 n] _ rfl)
  have hpn : w.heap.size ≠ p := Nat.ne_of_gt hC.lt
  have R := Lib.hid (fun w hC => cask_1 p a b cc n c o i w ha hn hC)
  clear hn
  clear hC
  unfold CPost at *
  go_enter Tryd.func30, Tryd.ntmps30
  go_wp2_with fail
  refine (R.out _ HC.out).mono ?_
  rintro e w' ⟨rfl, hc, hb⟩
  go_wp2_with fail
  first | go_end0 | refine bodyPost_ret (results_none rfl _ _ _) rfl ?_
  exact ⟨rfl, hc, B0.out.trans hb⟩

set_option maxHeartbeats 4000000 in
set_option maxRecDepth 100000 in
theorem cexec_33_2 (p q a b cc : Nat) (n : Int) (c : Cp) (o i : Value) (w : World) (ha : a < 16) (hb : b < 16) (hcc : cc < 16) (ua : 0 ≤ (c.r.getD a 0) ∧ (c.r.getD a 0) ≤ 4294967295) (ub : 0 ≤ (c.r.getD b 0) ∧ (c.r.getD b 0) ≤ 4294967295) (uc : 0 ≤ (c.r.getD cc 0) ∧ (c.r.getD cc 0) ≤ 4294967295) (h0 : (n == 0) = false) (h1 : (n == 1) = false) (hC : CpuAt w p 67 c o i) :
    Calls Tryd.prog 30 #[.pointer (some ⟨p, 0, none⟩), .pointer (some ⟨q, 0, none⟩), .agg #[.int .i64 33, .int .i64 a, .int .i64 b, .int .i64 cc, .int .i64 n]] w (CPost p (faultC c 20) o i w) := by
  have HC := Lib.hid (hC.alloc (.cells #[.int .i64 33, .int .i64 a, .int .i64 b, .int .i64 cc, .int .i64 n] 51))
  have B0 := Lib.hid ((But.refl [p] w).alloc (.cells #[.int .i64 33, .int .i64 a, .int .i64 b, .int .i64 cc, .int .i64 n] 51))
  have K0 := Lib.hid (Whole.made w 51 #[.int .i64 33, .int .i64 a, .int .i64 b, .int .i64 cc, .int .i64 n] _ rfl)
  have hpn : w.heap.size ≠ p := Nat.ne_of_gt hC.lt
  have R := Lib.hid (fun w hC => cask_2 p a b cc n c o i w ha h0 h1 hC)
  clear hC
  unfold CPost at *
  go_enter Tryd.func30, Tryd.ntmps30
  go_wp2_with fail
  refine (R.out _ HC.out).mono ?_
  rintro e w' ⟨rfl, hc, hb⟩
  go_wp2_with fail
  first | go_end0 | refine bodyPost_ret (results_none rfl _ _ _) rfl ?_
  exact ⟨rfl, hc, B0.out.trans hb⟩

set_option maxHeartbeats 4000000 in
set_option maxRecDepth 100000 in
theorem cexec_18 (p q a b cc : Nat) (n : Int) (c : Cp) (o i : Value) (w : World) (ha : a < 16) (hb : b < 16) (hcc : cc < 16) (ua : 0 ≤ (c.r.getD a 0) ∧ (c.r.getD a 0) ≤ 4294967295) (ub : 0 ≤ (c.r.getD b 0) ∧ (c.r.getD b 0) ≤ 4294967295) (uc : 0 ≤ (c.r.getD cc 0) ∧ (c.r.getD cc 0) ≤ 4294967295) (h m : Nat) (e0 e1 e2 e3 e4 : Int) (ws : List Int) (hM : Whole w q 88 (memCells e0 e1 e2 e3 e4 h m)) (hW : Whole w h 22 (words ws)) (hn : ws.length = m) (hl : e4 = 4 * m) (hu : ∀ z ∈ ws, U32 z) (hC : CpuAt w p 67 c o i) :
    Calls Tryd.prog 30 #[.pointer (some ⟨p, 0, none⟩), .pointer (some ⟨q, 0, none⟩), .agg #[.int .i64 18, .int .i64 a, .int .i64 b, .int .i64 cc, .int .i64 n]] w (CPost p (loadC c a b n e4 ws) o i w) := by
  have HC := Lib.hid (hC.alloc (.cells #[.int .i64 18, .int .i64 a, .int .i64 b, .int .i64 cc, .int .i64 n] 51))
  have B0 := Lib.hid ((But.refl [p] w).alloc (.cells #[.int .i64 18, .int .i64 a, .int .i64 b, .int .i64 cc, .int .i64 n] 51))
  have K0 := Lib.hid (Whole.made w 51 #[.int .i64 18, .int .i64 a, .int .i64 b, .int .i64 cc, .int .i64 n] _ rfl)
  have hpn : w.heap.size ≠ p := Nat.ne_of_gt hC.lt
  have HM := Lib.hid (hM.alloc (.cells #[.int .i64 18, .int .i64 a, .int .i64 b, .int .i64 cc, .int .i64 n] 51))
  have HW := Lib.hid (hW.alloc (.cells #[.int .i64 18, .int .i64 a, .int .i64 b, .int .i64 cc, .int .i64 n] 51))
  have R := Lib.hid (fun w hC hM hW => cload_any p q h m a b cc n e0 e1 e2 e3 e4 ws c o i w ha hb hC hM hW hn hl hu)
  clear hM hW
  clear hC
  unfold CPost at *
  go_enter Tryd.func30, Tryd.ntmps30
  go_wp2_with fail
  refine (R.out _ HC.out HM.out HW.out).mono ?_
  rintro e w' ⟨rfl, hc, hb⟩
  go_wp2_with fail
  first | go_end0 | refine bodyPost_ret (results_none rfl _ _ _) rfl ?_
  exact ⟨rfl, hc, B0.out.trans hb⟩

set_option maxHeartbeats 4000000 in
set_option maxRecDepth 100000 in
theorem cexec_19 (p q a b cc : Nat) (n : Int) (c : Cp) (o i : Value) (w : World) (ha : a < 16) (hb : b < 16) (hcc : cc < 16) (ua : 0 ≤ (c.r.getD a 0) ∧ (c.r.getD a 0) ≤ 4294967295) (ub : 0 ≤ (c.r.getD b 0) ∧ (c.r.getD b 0) ≤ 4294967295) (uc : 0 ≤ (c.r.getD cc 0) ∧ (c.r.getD cc 0) ≤ 4294967295) (h m : Nat) (e0 e1 e2 e3 e4 : Int) (ws : List Int) (hM : Whole w q 88 (memCells e0 e1 e2 e3 e4 h m)) (hW : Whole w h 22 (words ws)) (hn : ws.length = m) (hl : e4 = 4 * m) (hu : ∀ z ∈ ws, U32 z) (hv : U32 (c.r.getD a 0)) (hpq : p ≠ q) (hph : p ≠ h) (hqh : q ≠ h) (hC : CpuAt w p 67 c o i) :
    Calls Tryd.prog 30 #[.pointer (some ⟨p, 0, none⟩), .pointer (some ⟨q, 0, none⟩), .agg #[.int .i64 19, .int .i64 a, .int .i64 b, .int .i64 cc, .int .i64 n]] w (SPost p h (storeC c b n e1 e4) o i (storeWs (addrC c b n) e1 e4 (c.r.getD a 0) ws) w) := by
  have HC := Lib.hid (hC.alloc (.cells #[.int .i64 19, .int .i64 a, .int .i64 b, .int .i64 cc, .int .i64 n] 51))
  have B0 := Lib.hid ((But.refl [p, h] w).alloc (.cells #[.int .i64 19, .int .i64 a, .int .i64 b, .int .i64 cc, .int .i64 n] 51))
  have K0 := Lib.hid (Whole.made w 51 #[.int .i64 19, .int .i64 a, .int .i64 b, .int .i64 cc, .int .i64 n] _ rfl)
  have hpn : w.heap.size ≠ p := Nat.ne_of_gt hC.lt
  have HM := Lib.hid (hM.alloc (.cells #[.int .i64 19, .int .i64 a, .int .i64 b, .int .i64 cc, .int .i64 n] 51))
  have HW := Lib.hid (hW.alloc (.cells #[.int .i64 19, .int .i64 a, .int .i64 b, .int .i64 cc, .int .i64 n] 51))
  have R := Lib.hid (fun w hC hM hW => cstore_any p q h m a b cc n e0 e1 e2 e3 e4 ws c o i w ha hb hv hC hM hW hn hl hpq hph hqh)
  clear hM hW
  clear hC
  unfold SPost at *
  go_enter Tryd.func30, Tryd.ntmps30
  go_wp2_with fail
  refine (R.out _ HC.out HM.out HW.out).mono ?_
  rintro e w' ⟨rfl, hc, hx, hb⟩
  go_wp2_with fail
  first | go_end0 | refine bodyPost_ret (results_none rfl _ _ _) rfl ?_
  exact ⟨rfl, hc, hx, B0.out.trans hb⟩

set_option maxHeartbeats 4000000 in
set_option maxRecDepth 100000 in
theorem cexec_31_none (p q a b cc : Nat) (n : Int) (c : Cp) (o i : Value) (w : World) (ha : a < 16) (hb : b < 16) (hcc : cc < 16) (ua : 0 ≤ (c.r.getD a 0) ∧ (c.r.getD a 0) ≤ 4294967295) (ub : 0 ≤ (c.r.getD b 0) ∧ (c.r.getD b 0) ≤ 4294967295) (uc : 0 ≤ (c.r.getD cc 0) ∧ (c.r.getD cc 0) ≤ 4294967295) (m cap k : Nat) (A : Option Addr) (zs : List Int) (h0 : c.taken = (k : Int)) (hi : i = .slice A m cap) (hm : m ≤ 1000000) (hz : Nums .i32 w A m zs) (hu : ∀ z ∈ zs, (Lit.int .i32 z).wf = true) (h1 : m ≤ k) (hC : CpuAt w p 67 c o i) :
    Calls Tryd.prog 30 #[.pointer (some ⟨p, 0, none⟩), .pointer (some ⟨q, 0, none⟩), .agg #[.int .i64 31, .int .i64 a, .int .i64 b, .int .i64 cc, .int .i64 n]] w (CPost p (trapC c 7) o i w) := by
  subst hi
  have HC := Lib.hid (hC.alloc (.cells #[.int .i64 31, .int .i64 a, .int .i64 b, .int .i64 cc, .int .i64 n] 51))
  have B0 := Lib.hid ((But.refl [p] w).alloc (.cells #[.int .i64 31, .int .i64 a, .int .i64 b, .int .i64 cc, .int .i64 n] 51))
  have K0 := Lib.hid (Whole.made w 51 #[.int .i64 31, .int .i64 a, .int .i64 b, .int .i64 cc, .int .i64 n] _ rfl)
  have hpn : w.heap.size ≠ p := Nat.ne_of_gt hC.lt
  have R := Lib.hid (fun w hC => cread_none p a m cap A c o w ha (by omega) (by omega) hC)
  clear hC
  unfold CPost at *
  go_enter Tryd.func30, Tryd.ntmps30
  go_wp2_with fail
  refine (R.out _ HC.out).mono ?_
  rintro e w' ⟨rfl, hc, hb⟩
  go_wp2_with fail
  first | go_end0 | refine bodyPost_ret (results_none rfl _ _ _) rfl ?_
  exact ⟨rfl, hc, B0.out.trans hb⟩

set_option maxHeartbeats 4000000 in
set_option maxRecDepth 100000 in
theorem cexec_31_some (p q a b cc : Nat) (n : Int) (c : Cp) (o i : Value) (w : World) (ha : a < 16) (hb : b < 16) (hcc : cc < 16) (ua : 0 ≤ (c.r.getD a 0) ∧ (c.r.getD a 0) ≤ 4294967295) (ub : 0 ≤ (c.r.getD b 0) ∧ (c.r.getD b 0) ≤ 4294967295) (uc : 0 ≤ (c.r.getD cc 0) ∧ (c.r.getD cc 0) ≤ 4294967295) (m cap k : Nat) (A : Option Addr) (zs : List Int) (h0 : c.taken = (k : Int)) (hi : i = .slice A m cap) (hm : m ≤ 1000000) (hz : Nums .i32 w A m zs) (hu : ∀ z ∈ zs, (Lit.int .i32 z).wf = true) (h1 : k < m) (hC : CpuAt w p 67 c o i) :
    Calls Tryd.prog 30 #[.pointer (some ⟨p, 0, none⟩), .pointer (some ⟨q, 0, none⟩), .agg #[.int .i64 31, .int .i64 a, .int .i64 b, .int .i64 cc, .int .i64 n]] w (CPost p ({ setC c a (w32 (zs.getD k 0)) with taken := c.taken + 1 }) o i w) := by
  subst hi
  have HC := Lib.hid (hC.alloc (.cells #[.int .i64 31, .int .i64 a, .int .i64 b, .int .i64 cc, .int .i64 n] 51))
  have B0 := Lib.hid ((But.refl [p] w).alloc (.cells #[.int .i64 31, .int .i64 a, .int .i64 b, .int .i64 cc, .int .i64 n] 51))
  have K0 := Lib.hid (Whole.made w 51 #[.int .i64 31, .int .i64 a, .int .i64 b, .int .i64 cc, .int .i64 n] _ rfl)
  have hpn : w.heap.size ≠ p := Nat.ne_of_gt hC.lt
  have HZ := Lib.hid (hz.below ((Below.refl _ _).alloc (Nat.le_refl _) (.cells #[.int .i64 31, .int .i64 a, .int .i64 b, .int .i64 cc, .int .i64 n] 51)))
  have R := Lib.hid (fun w hz hC => cread_some p a m cap k A zs c o w ha h0 h1 hm hz hu hC)
  clear hC
  unfold CPost at *
  go_enter Tryd.func30, Tryd.ntmps30
  go_wp2_with fail
  refine (R.out _ HZ.out HC.out).mono ?_
  rintro e w' ⟨rfl, hc, hb⟩
  go_wp2_with fail
  first | go_end0 | refine bodyPost_ret (results_none rfl _ _ _) rfl ?_
  exact ⟨rfl, hc, B0.out.trans hb⟩

end Go.Proofs.YtinpdgjbiimgkaaDoor

/- Package cpu: a machine in the memory; execute, any operation. -/
namespace Go.Proofs.YtinpdgjbiimgkaaDoor
open Go.ChangeShapes Go.WideShapes Go.ChangeAt Go.RowKit
set_option linter.unusedVariables false

/-- A machine in the memory: the processor (block p), the memory (blocks q, h), what went out (v), what is put in. -/
structure Mach (w : World) (B p q h m : Nat) (e0 e1 e2 e3 e4 : Int) (v : Value) (A : Option Addr) (mi cap : Nat) (inp : List Int) (s : St) : Prop where
  cpu : CpuAt w p 67 s.c v (.slice A mi cap)
  mem : Whole w q 88 (memCells e0 e1 e2 e3 e4 h m)
  wds : Whole w h 22 (words s.ws)
  outs : Outs w B v s.out
  inps : Nums .i32 w A mi inp
  pq : p ≠ q
  ph : p ≠ h
  qh : q ≠ h
  vp : v.ownBlock ≠ some p
  vq : v.ownBlock ≠ some q
  vh : v.ownBlock ≠ some h
  ia : ∀ b off, A = some ⟨b, off, none⟩ → b ≠ p ∧ b ≠ h ∧ v.ownBlock ≠ some b
  lp : B ≤ p
  lh : B ≤ h
  lw : B ≤ w.heap.size

theorem Nums.but {k : IntKind} {w w' : World} {A : Option Addr} {n : Nat} {zs : List Int} {L : List Nat} (h : Nums k w A n zs) (hb : But L w w') (hne : ∀ b off, A = some ⟨b, off, none⟩ → b ∉ L) : Nums k w' A n zs :=
  ⟨h.1, fun hn => by
    obtain ⟨b, off, rfl, hlt, hc⟩ := h.2 hn
    refine ⟨b, off, rfl, Nat.lt_of_lt_of_le hlt hb.size, fun j hj => ?_⟩
    have e := hb.block b hlt (hne b off rfl)
    have g := hc j hj
    simp only [World.cell?, e] at *
    exact g⟩

section
variable {w w' : World} {B p q h m : Nat} {e0 e1 e2 e3 e4 : Int} {v v' : Value} {A : Option Addr} {mi cap : Nat} {inp : List Int} {s s' : St}

theorem Mach.step_c (M : Mach w B p q h m e0 e1 e2 e3 e4 v A mi cap inp s) {c' : Cp} (hc : CpuAt w' p 67 c' v (.slice A mi cap)) (hb : But [p] w w') (he : s' = ⟨c', s.out, s.ws⟩) : Mach w' B p q h m e0 e1 e2 e3 e4 v A mi cap inp s' := by
  subst he
  exact { cpu := hc, mem := hb.whole M.mem (by simp [Ne.symm M.pq]), wds := hb.whole M.wds (by simp [Ne.symm M.ph]), outs := M.outs.but hb (fun b hv hm => by rw [List.mem_singleton] at hm; subst hm; exact M.vp hv), inps := M.inps.but hb (fun b off ha hm => by rw [List.mem_singleton] at hm; exact (M.ia b off ha).1 hm), pq := M.pq, ph := M.ph, qh := M.qh, vp := M.vp, vq := M.vq, vh := M.vh, ia := M.ia, lp := M.lp, lh := M.lh, lw := Nat.le_trans M.lw hb.size }

theorem Mach.step_s (M : Mach w B p q h m e0 e1 e2 e3 e4 v A mi cap inp s) {c' : Cp} {ws' : List Int} (hc : CpuAt w' p 67 c' v (.slice A mi cap)) (hx : Whole w' h 22 (words ws')) (hb : But [p, h] w w') (he : s' = ⟨c', s.out, ws'⟩) : Mach w' B p q h m e0 e1 e2 e3 e4 v A mi cap inp s' := by
  subst he
  exact { cpu := hc, mem := hb.whole M.mem (by simp [Ne.symm M.pq, M.qh]), wds := hx, outs := M.outs.but hb (fun b hv hm => by simp at hm; rcases hm with rfl | rfl; exact M.vp hv; exact M.vh hv), inps := M.inps.but hb (fun b off ha hm => by simp at hm; rcases hm with rfl | rfl; exact (M.ia _ off ha).1 rfl; exact (M.ia _ off ha).2.1 rfl), pq := M.pq, ph := M.ph, qh := M.qh, vp := M.vp, vq := M.vq, vh := M.vh, ia := M.ia, lp := M.lp, lh := M.lh, lw := Nat.le_trans M.lw hb.size }

/-- The value of what went out: the same block, or a new one. -/
def Newer (w : World) (v v' : Value) : Prop := v'.ownBlock = v.ownBlock ∨ ∃ b, v'.ownBlock = some b ∧ w.heap.size ≤ b

theorem Newer.ne {b : Nat} (hn : Newer w v v') (h : v.ownBlock ≠ some b) (hb : b < w.heap.size) : v'.ownBlock ≠ some b := by
  rcases hn with h1 | ⟨g, h1, h2⟩
  · rw [h1]; exact h
  · rw [h1]; intro e; injection e with e; omega

theorem Mach.inp_lt (M : Mach w B p q h m e0 e1 e2 e3 e4 v A mi cap inp s) {b off : Nat} (ha : A = some ⟨b, off, none⟩) (h0 : 0 < mi) : b < w.heap.size := by
  obtain ⟨b', off', h1, h2, _⟩ := M.inps.2 h0
  rw [ha] at h1
  injection h1 with h1
  injection h1 with h1
  omega

theorem Mach.step_o (M : Mach w B p q h m e0 e1 e2 e3 e4 v A mi cap inp s) (hi : ∀ b off, A = some ⟨b, off, none⟩ → b < w.heap.size) {c' : Cp} {out' : List (Int × Int)} (hc : CpuAt w' p 67 c' v' (.slice A mi cap)) (ho : Outs w' B v' out') (hn : Newer w v v') (hb : But (p :: ownList v) w w') (he : s' = ⟨c', out', s.ws⟩) : Mach w' B p q h m e0 e1 e2 e3 e4 v' A mi cap inp s' := by
  subst he
  have hq : q ∉ p :: ownList v := by
    intro hm
    rcases List.mem_cons.1 hm with h1 | h1
    · exact M.pq h1.symm
    · exact M.vq (mem_own.1 h1)
  have hh : h ∉ p :: ownList v := by
    intro hm
    rcases List.mem_cons.1 hm with h1 | h1
    · exact M.ph h1.symm
    · exact M.vh (mem_own.1 h1)
  exact { cpu := hc, mem := hb.whole M.mem hq, wds := hb.whole M.wds hh, outs := ho, inps := M.inps.but hb (fun b off ha hm => by rcases List.mem_cons.1 hm with h1 | h1; exact (M.ia b off ha).1 h1; exact (M.ia b off ha).2.2 (mem_own.1 h1)), pq := M.pq, ph := M.ph, qh := M.qh, vp := hn.ne M.vp M.cpu.lt, vq := hn.ne M.vq M.mem.lt, vh := hn.ne M.vh M.wds.lt, ia := fun b off ha => ⟨(M.ia b off ha).1, (M.ia b off ha).2.1, hn.ne (M.ia b off ha).2.2 (hi b off ha)⟩, lp := M.lp, lh := M.lh, lw := Nat.le_trans M.lw hb.size }
end

/-- What a call on a machine leaves. -/
def XPost (B p q h m : Nat) (e0 e1 e2 e3 e4 : Int) (v : Value) (A : Option Addr) (mi cap : Nat) (inp : List Int) (s : St) (r : Value) (w : World) (e : Ending) (w' : World) : Prop :=
  e = .returned r ∧ ∃ v', Mach w' B p q h m e0 e1 e2 e3 e4 v' A mi cap inp s ∧ Newer w v v' ∧ But (p :: h :: ownList v) w w'

theorem but_p {w w' : World} {p h : Nat} {v : Value} (hb : But [p] w w') : But (p :: h :: ownList v) w w' := hb.mono (fun k hk => by rw [List.mem_singleton] at hk; rw [hk]; exact List.mem_cons_self)

theorem but_ph {w w' : World} {p h : Nat} {v : Value} (hb : But [p, h] w w') : But (p :: h :: ownList v) w w' := hb.mono (fun k hk => by simp at hk; rcases hk with rfl | rfl <;> simp)

theorem but_po {w w' : World} {p h : Nat} {v : Value} (hb : But (p :: ownList v) w w') : But (p :: h :: ownList v) w w' := hb.mono (fun k hk => by rcases List.mem_cons.1 hk with rfl | h1 <;> simp_all)

set_option maxHeartbeats 8000000 in
theorem cexecute_any (B p q h m : Nat) (e0 e1 e2 e3 e4 : Int) (v : Value) (A : Option Addr) (mi cap : Nat) (inp : List Int) (s : St) (op : Int) (a b cc : Nat) (n : Int) (w : World) (M : Mach w B p q h m e0 e1 e2 e3 e4 v A mi cap inp s) (F : Fine m inp s)
    (hi : ∀ b off, A = some ⟨b, off, none⟩ → b < w.heap.size) (hl : e4 = 4 * m) (hmi : mi ≤ 1000000) (hlen : s.out.length ≤ 900000000) (hui : ∀ z ∈ inp, (Lit.int .i32 z).wf = true)
    (h1 : 1 ≤ op) (h34 : op ≤ 34) (ha : a < 16) (hb : b < 16) (hcc : cc < 16) :
    Calls Tryd.prog 30 #[.pointer (some ⟨p, 0, none⟩), .pointer (some ⟨q, 0, none⟩), .agg #[.int .i64 op, .int .i64 a, .int .i64 b, .int .i64 cc, .int .i64 n]] w (XPost B p q h m e0 e1 e2 e3 e4 v A mi cap inp (exec e1 e4 inp op a b cc n s) (.tuple #[]) w) := by
  have ua := regs_u32 F.ru a
  have ub := regs_u32 F.ru b
  have uc := regs_u32 F.ru cc
  have KC : ∀ {c' : Cp} {e : Ending} {w' : World}, CPost p c' v (.slice A mi cap) w e w' → exec e1 e4 inp op a b cc n s = ⟨c', s.out, s.ws⟩ → XPost B p q h m e0 e1 e2 e3 e4 v A mi cap inp (exec e1 e4 inp op a b cc n s) (.tuple #[]) w e w' := by
    rintro c' e w' ⟨rfl, hc, hbt⟩ he
    exact ⟨rfl, v, M.step_c hc hbt he, .inl rfl, but_p hbt⟩
  have hml := M.inps.1
  rcases (show op = 1 ∨ op = 2 ∨ op = 3 ∨ op = 4 ∨ op = 5 ∨ op = 6 ∨ op = 7 ∨ op = 8 ∨ op = 9 ∨ op = 10 ∨ op = 11 ∨ op = 12 ∨ op = 13 ∨ op = 14 ∨ op = 15 ∨ op = 16 ∨ op = 17 ∨ op = 18 ∨ op = 19 ∨ op = 20 ∨ op = 21 ∨ op = 22 ∨ op = 23 ∨ op = 24 ∨ op = 25 ∨ op = 26 ∨ op = 27 ∨ op = 28 ∨ op = 29 ∨ op = 30 ∨ op = 31 ∨ op = 32 ∨ op = 33 ∨ op = 34 by omega) with rfl | rfl | rfl | rfl | rfl | rfl | rfl | rfl | rfl | rfl | rfl | rfl | rfl | rfl | rfl | rfl | rfl | rfl | rfl | rfl | rfl | rfl | rfl | rfl | rfl | rfl | rfl | rfl | rfl | rfl | rfl | rfl | rfl | rfl
  · exact (cexec_1 p q a b cc n s.c v _ w ha hb hcc ua ub uc  M.cpu).mono (fun e w1 hp => KC hp (by simp [exec, execC, -List.getD_eq_getElem?_getD]))
  · exact (cexec_2 p q a b cc n s.c v _ w ha hb hcc ua ub uc  M.cpu).mono (fun e w1 hp => KC hp (by simp [exec, execC, -List.getD_eq_getElem?_getD]))
  · exact (cexec_3 p q a b cc n s.c v _ w ha hb hcc ua ub uc  M.cpu).mono (fun e w1 hp => KC hp (by simp [exec, execC, -List.getD_eq_getElem?_getD]))
  · exact (cexec_4 p q a b cc n s.c v _ w ha hb hcc ua ub uc  M.cpu).mono (fun e w1 hp => KC hp (by simp [exec, execC, -List.getD_eq_getElem?_getD]))
  · exact (cexec_5 p q a b cc n s.c v _ w ha hb hcc ua ub uc  M.cpu).mono (fun e w1 hp => KC hp (by simp [exec, execC, -List.getD_eq_getElem?_getD]))
  · exact (cexec_6 p q a b cc n s.c v _ w ha hb hcc ua ub uc  M.cpu).mono (fun e w1 hp => KC hp (by simp [exec, execC, -List.getD_eq_getElem?_getD]))
  · exact (cexec_7 p q a b cc n s.c v _ w ha hb hcc ua ub uc  M.cpu).mono (fun e w1 hp => KC hp (by simp [exec, execC, -List.getD_eq_getElem?_getD]))
  · exact (cexec_8 p q a b cc n s.c v _ w ha hb hcc ua ub uc  M.cpu).mono (fun e w1 hp => KC hp (by simp [exec, execC, -List.getD_eq_getElem?_getD]))
  · by_cases hz : s.c.r.getD cc 0 = 0
    · exact (cexec_9_zero p q a b cc n s.c v _ w ha hb hcc ua ub uc hz M.cpu).mono (fun e w1 hp => KC hp (by simp [exec, execC, -List.getD_eq_getElem?_getD, hz]))
    · exact (cexec_9 p q a b cc n s.c v _ w ha hb hcc ua ub uc hz M.cpu).mono (fun e w1 hp => KC hp (by simp [exec, execC, -List.getD_eq_getElem?_getD, hz]))
  · by_cases hz : s.c.r.getD cc 0 = 0
    · exact (cexec_10_zero p q a b cc n s.c v _ w ha hb hcc ua ub uc hz M.cpu).mono (fun e w1 hp => KC hp (by simp [exec, execC, -List.getD_eq_getElem?_getD, hz]))
    · exact (cexec_10 p q a b cc n s.c v _ w ha hb hcc ua ub uc hz M.cpu).mono (fun e w1 hp => KC hp (by simp [exec, execC, -List.getD_eq_getElem?_getD, hz]))
  · exact (cexec_11 p q a b cc n s.c v _ w ha hb hcc ua ub uc  M.cpu).mono (fun e w1 hp => KC hp (by simp [exec, execC, -List.getD_eq_getElem?_getD]))
  · exact (cexec_12 p q a b cc n s.c v _ w ha hb hcc ua ub uc  M.cpu).mono (fun e w1 hp => KC hp (by simp [exec, execC, -List.getD_eq_getElem?_getD]))
  · exact (cexec_13 p q a b cc n s.c v _ w ha hb hcc ua ub uc  M.cpu).mono (fun e w1 hp => KC hp (by simp [exec, execC, -List.getD_eq_getElem?_getD]))
  · exact (cexec_14 p q a b cc n s.c v _ w ha hb hcc ua ub uc  M.cpu).mono (fun e w1 hp => KC hp (by simp [exec, execC, -List.getD_eq_getElem?_getD]))
  · exact (cexec_15 p q a b cc n s.c v _ w ha hb hcc ua ub uc  M.cpu).mono (fun e w1 hp => KC hp (by simp [exec, execC, -List.getD_eq_getElem?_getD]))
  · exact (cexec_16 p q a b cc n s.c v _ w ha hb hcc ua ub uc  M.cpu).mono (fun e w1 hp => KC hp (by simp [exec, execC, -List.getD_eq_getElem?_getD]))
  · exact (cexec_17 p q a b cc n s.c v _ w ha hb hcc ua ub uc  M.cpu).mono (fun e w1 hp => KC hp (by simp [exec, execC, -List.getD_eq_getElem?_getD]))
  · exact (cexec_18 p q a b cc n s.c v _ w ha hb hcc ua ub uc h m e0 e1 e2 e3 e4 s.ws M.mem M.wds F.wl hl F.wu M.cpu).mono (fun e w1 hp => KC hp (by simp [exec, execC, -List.getD_eq_getElem?_getD]))
  · refine (cexec_19 p q a b cc n s.c v _ w ha hb hcc ua ub uc h m e0 e1 e2 e3 e4 s.ws M.mem M.wds F.wl hl F.wu ua M.pq M.ph M.qh M.cpu).mono ?_
    rintro e w1 ⟨rfl, hc, hx, hbt⟩
    exact ⟨rfl, v, M.step_s hc hx hbt (by simp [exec, execC, -List.getD_eq_getElem?_getD]), .inl rfl, but_ph hbt⟩
  · by_cases hz : s.c.r.getD a 0 = 0
    · exact (cexec_20_true p q a b cc n s.c v _ w ha hb hcc ua ub uc (by simp [-List.getD_eq_getElem?_getD, hz]) M.cpu).mono (fun e w1 hp => KC hp (by simp [exec, execC, -List.getD_eq_getElem?_getD, hz]))
    · exact (cexec_20_false p q a b cc n s.c v _ w ha hb hcc ua ub uc (by simp [-List.getD_eq_getElem?_getD, hz]) M.cpu).mono (fun e w1 hp => KC hp (by simp [exec, execC, -List.getD_eq_getElem?_getD, hz]))
  · by_cases hz : s.c.r.getD a 0 = 0
    · exact (cexec_21_false p q a b cc n s.c v _ w ha hb hcc ua ub uc (by simp [-List.getD_eq_getElem?_getD, hz]) M.cpu).mono (fun e w1 hp => KC hp (by simp [exec, execC, -List.getD_eq_getElem?_getD, hz]))
    · exact (cexec_21_true p q a b cc n s.c v _ w ha hb hcc ua ub uc (by simp [-List.getD_eq_getElem?_getD, hz]) M.cpu).mono (fun e w1 hp => KC hp (by simp [exec, execC, -List.getD_eq_getElem?_getD, hz]))
  · exact (cexec_22 p q a b cc n s.c v _ w ha hb hcc ua ub uc  M.cpu).mono (fun e w1 hp => KC hp (by simp [exec, execC, -List.getD_eq_getElem?_getD]))
  · exact (cexec_23 p q a b cc n s.c v _ w ha hb hcc ua ub uc  M.cpu).mono (fun e w1 hp => KC hp (by simp [exec, execC, -List.getD_eq_getElem?_getD]))
  · exact (cexec_24 p q a b cc n s.c v _ w ha hb hcc ua ub uc  M.cpu).mono (fun e w1 hp => KC hp (by simp [exec, execC, -List.getD_eq_getElem?_getD]))
  · exact (cexec_25 p q a b cc n s.c v _ w ha hb hcc ua ub uc  M.cpu).mono (fun e w1 hp => KC hp (by simp [exec, execC, -List.getD_eq_getElem?_getD]))
  · by_cases hz : s.c.r.getD a 0 < w32 n
    · exact (cexec_26_true p q a b cc n s.c v _ w ha hb hcc ua ub uc (decide_eq_true hz) M.cpu).mono (fun e w1 hp => KC hp (by simp [exec, execC, -List.getD_eq_getElem?_getD, hz]))
    · exact (cexec_26_false p q a b cc n s.c v _ w ha hb hcc ua ub uc (decide_eq_false hz) M.cpu).mono (fun e w1 hp => KC hp (by simp [exec, execC, -List.getD_eq_getElem?_getD, hz]))
  · by_cases hz : s.c.r.getD a 0 = 0
    · exact (cexec_27_false p q a b cc n s.c v _ w ha hb hcc ua ub uc (by simp [-List.getD_eq_getElem?_getD, hz]) M.cpu).mono (fun e w1 hp => KC hp (by simp [exec, execC, -List.getD_eq_getElem?_getD, hz]))
    · exact (cexec_27_true p q a b cc n s.c v _ w ha hb hcc ua ub uc (by simp [-List.getD_eq_getElem?_getD, hz]) M.cpu).mono (fun e w1 hp => KC hp (by simp [exec, execC, -List.getD_eq_getElem?_getD, hz]))
  · exact (cexec_28 p q a b cc n s.c v _ w ha hb hcc ua ub uc  M.cpu).mono (fun e w1 hp => KC hp (by simp [exec, execC, -List.getD_eq_getElem?_getD]))
  · exact (cexec_29 p q a b cc n s.c v _ w ha hb hcc ua ub uc  M.cpu).mono (fun e w1 hp => KC hp (by simp [exec, execC, -List.getD_eq_getElem?_getD]))
  · refine (cexec_30 p q B a b cc n s.c v _ s.out w ha M.outs M.lw hlen M.vp M.cpu).mono ?_
    rintro e w1 ⟨rfl, v', hc, ho, hn, hbt⟩
    exact ⟨rfl, v', M.step_o hi hc ho hn hbt (by simp [exec, execC, -List.getD_eq_getElem?_getD]), hn, but_po hbt⟩
  · obtain ⟨k, hk⟩ := Int.eq_ofNat_of_zero_le F.tk.1
    by_cases hz : mi ≤ k
    · exact (cexec_31_none p q a b cc n s.c v _ w ha hb hcc ua ub uc mi cap k A inp hk rfl hmi M.inps hui hz M.cpu).mono (fun e w1 hp => KC hp (by simp [exec, execC, -List.getD_eq_getElem?_getD, hk, hml, hz]))
    · exact (cexec_31_some p q a b cc n s.c v _ w ha hb hcc ua ub uc mi cap k A inp hk rfl hmi M.inps hui (by omega) M.cpu).mono (fun e w1 hp => KC hp (by simp [exec, execC, -List.getD_eq_getElem?_getD, hk, hml, hz]))
  · by_cases hz : wrap32 s.c.li ≤ wrap32 (s.c.r.getD a 0)
    · exact (cexec_32_true p q a b cc n s.c v _ w ha hb hcc ua ub uc (decide_eq_true hz) M.cpu).mono (fun e w1 hp => KC hp (by simp [exec, execC, -List.getD_eq_getElem?_getD, hz]))
    · exact (cexec_32_false p q a b cc n s.c v _ w ha hb hcc ua ub uc (decide_eq_false hz) M.cpu).mono (fun e w1 hp => KC hp (by simp [exec, execC, -List.getD_eq_getElem?_getD, hz]))
  · by_cases hz : n = 0
    · exact (cexec_33_0 p q a b cc n s.c v _ w ha hb hcc ua ub uc hz M.cpu).mono (fun e w1 hp => KC hp (by simp [exec, execC, -List.getD_eq_getElem?_getD, hz]))
    · by_cases hz1 : n = 1
      · exact (cexec_33_1 p q a b cc n s.c v _ w ha hb hcc ua ub uc hz1 M.cpu).mono (fun e w1 hp => KC hp (by simp [exec, execC, -List.getD_eq_getElem?_getD, hz1]))
      · exact (cexec_33_2 p q a b cc n s.c v _ w ha hb hcc ua ub uc (by simpa using hz) (by simpa using hz1) M.cpu).mono (fun e w1 hp => KC hp (by simp [exec, execC, -List.getD_eq_getElem?_getD, hz, hz1]))
  · exact (cexec_34 p q a b cc n s.c v _ w ha hb hcc ua ub uc  M.cpu).mono (fun e w1 hp => KC hp (by simp [exec, execC, -List.getD_eq_getElem?_getD]))
end Go.Proofs.YtinpdgjbiimgkaaDoor
