/- Package cpu: address, divide, check, jump, ask, by operation. -/
import Derived.Test.YtinpdgjbiimgkaaDoorCpuB
import Derived.Test.YtinpdgjbiimgkaaDoorCpuC
namespace Go.Proofs.YtinpdgjbiimgkaaDoor
open Go.ChangeShapes Go.WideShapes Go.ChangeAt Go.RowKit
set_option linter.unusedVariables false

set_option maxHeartbeats 2000000 in
theorem caddress_any (p a b cc : Nat) (op n : Int) (c : Cp) (o i : Value) (w : World) (hb : b < 16) (hC : CpuAt w p 67 c o i) :
    Calls Tryd.prog 78 #[.pointer (some ⟨p, 0, none⟩), .agg #[.int .i64 op, .int .i64 a, .int .i64 b, .int .i64 cc, .int .i64 n]] w fun e w' => e = .returned (.int .u32 (w32 (c.r.getD b 0 + w32 n))) ∧ Below w.heap.size w w' := by
  have qb := (hC.alloc (.cells #[.int .i64 op, .int .i64 a, .int .i64 b, .int .i64 cc, .int .i64 n] 51)).reg hb
  have B0 := Lib.hid ((Below.refl w.heap.size w).alloc (Nat.le_refl _) (.cells #[.int .i64 op, .int .i64 a, .int .i64 b, .int .i64 cc, .int .i64 n] 51))
  have hlt := hC.lt
  clear hC
  generalize c.r.getD b 0 = rb at *
  go_enter Tryd.func78, Tryd.ntmps78
  go_wp2_with fail
  go_quiet (fail)
  go_wp2_with fail
  go_ret
  exact ⟨rfl, below_drawn B0.out nq⟩

/-- What calls on the processor leave: its callees' posts, by name. -/
theorem CPost.intro {p : Nat} {c : Cp} {o i : Value} {w w' : World} (hc : CpuAt w' p 67 c o i) (hb : But [p] w w') : CPost p c o i w (.returned (.tuple #[])) w' := ⟨rfl, hc, hb⟩

set_option maxHeartbeats 4000000 in
theorem cdivide_9_zero (p a b cc : Nat) (n : Int) (c : Cp) (o i : Value) (w : World) (ha : a < 16) (hb : b < 16) (hcc : cc < 16) (hz : c.r.getD cc 0 = 0) (hC : CpuAt w p 67 c o i) :
    Calls Tryd.prog 53 #[.pointer (some ⟨p, 0, none⟩), .agg #[.int .i64 9, .int .i64 a, .int .i64 b, .int .i64 cc, .int .i64 n]] w (CPost p (trapC c 3) o i w) := by
  have HC := Lib.hid (hC.alloc (.cells #[.int .i64 9, .int .i64 a, .int .i64 b, .int .i64 cc, .int .i64 n] 51))
  have qb := HC.out.reg hb
  have qc := HC.out.reg hcc
  have b1 := (Whole.made w 51 #[.int .i64 9, .int .i64 a, .int .i64 b, .int .i64 cc, .int .i64 n] _ rfl)
  have B0 := Lib.hid ((But.refl [p] w).alloc (.cells #[.int .i64 9, .int .i64 a, .int .i64 b, .int .i64 cc, .int .i64 n] 51))
  have T := Lib.hid (fun w hC => ctrap_any p c o i 3 w hC)
  have S := Lib.hid (fun v w hC => cset_any p a c o i v w ha hC)
  rw [hz] at qc
  have K0 := Lib.hid b1
  clear hC b1
  unfold CPost at *
  go_enter Tryd.func53, Tryd.ntmps53
  go_wp2_with fail
  go_quiet (fail)
  have HD := Lib.hid (HC.out.drawn nq)
  have BD := Lib.hid (B0.out.drawn nq)
  have KD := Lib.hid (K0.out.drawn nq)
  clear HC B0 K0 qb qc
  generalize (w.alloc (.cells #[.int .i64 9, .int .i64 a, .int .i64 b, .int .i64 cc, .int .i64 n] 51)).drewN nq = W at *
  have k0 : W.cell? ⟨w.heap.size, 0, none⟩ = some (.int .i64 9) := KD.out.cell 0
  have k1 : W.cell? ⟨w.heap.size, 1, none⟩ = some (.int .i64 a) := KD.out.cell 1
  go_wp2_with fail
  refine (div_zero _ _).mono ?_
  rintro e w' ⟨rfl, rfl⟩
  go_wp2_with fail
  refine (T.out _ HD.out).mono ?_
  rintro e w' ⟨rfl, hc, hb⟩
  go_wp2_with fail
  first | go_end0 | refine bodyPost_ret (results_none rfl _ _ _) rfl ?_
  exact ⟨rfl, hc, BD.out.trans hb⟩

set_option maxHeartbeats 4000000 in
theorem cdivide_9 (p a b cc : Nat) (n : Int) (c : Cp) (o i : Value) (w : World) (ha : a < 16) (hb : b < 16) (hcc : cc < 16) (hy : 0 ≤ c.r.getD cc 0 ∧ c.r.getD cc 0 ≤ 4294967295) (hz : c.r.getD cc 0 ≠ 0) (hC : CpuAt w p 67 c o i) :
    Calls Tryd.prog 53 #[.pointer (some ⟨p, 0, none⟩), .agg #[.int .i64 9, .int .i64 a, .int .i64 b, .int .i64 cc, .int .i64 n]] w (CPost p (setC c a (w32 (dv (wrap32 (c.r.getD b 0)) (wrap32 (c.r.getD cc 0))))) o i w) := by
  have HC := Lib.hid (hC.alloc (.cells #[.int .i64 9, .int .i64 a, .int .i64 b, .int .i64 cc, .int .i64 n] 51))
  have qb := HC.out.reg hb
  have qc := HC.out.reg hcc
  have b1 := (Whole.made w 51 #[.int .i64 9, .int .i64 a, .int .i64 b, .int .i64 cc, .int .i64 n] _ rfl)
  have B0 := Lib.hid ((But.refl [p] w).alloc (.cells #[.int .i64 9, .int .i64 a, .int .i64 b, .int .i64 cc, .int .i64 n] 51))
  have T := Lib.hid (fun w hC => ctrap_any p c o i 3 w hC)
  have S := Lib.hid (fun v w hC => cset_any p a c o i v w ha hC)
  have hne := Lib.hid (show wrap32 (c.r.getD cc 0) ≠ 0 by unfold wrap32; omega)
  clear hy hz
  have K0 := Lib.hid b1
  clear hC b1
  unfold CPost at *
  go_enter Tryd.func53, Tryd.ntmps53
  go_wp2_with fail
  go_quiet (fail)
  have HD := Lib.hid (HC.out.drawn nq)
  have BD := Lib.hid (B0.out.drawn nq)
  have KD := Lib.hid (K0.out.drawn nq)
  clear HC B0 K0 qb qc
  generalize (w.alloc (.cells #[.int .i64 9, .int .i64 a, .int .i64 b, .int .i64 cc, .int .i64 n] 51)).drewN nq = W at *
  have k0 : W.cell? ⟨w.heap.size, 0, none⟩ = some (.int .i64 9) := KD.out.cell 0
  have k1 : W.cell? ⟨w.heap.size, 1, none⟩ = some (.int .i64 a) := KD.out.cell 1
  go_wp2_with fail
  refine (div_any _ _ _ (wrap32_ge _) (wrap32_le _) hne.out).mono ?_
  rintro e w' ⟨rfl, rfl⟩
  go_wp2_with fail
  refine (S.out _ _ HD.out).mono ?_
  rintro e w' ⟨rfl, hc, hb⟩
  go_wp2_with fail
  first | go_end0 | refine bodyPost_ret (results_none rfl _ _ _) rfl ?_
  exact ⟨rfl, hc, BD.out.trans hb⟩

set_option maxHeartbeats 4000000 in
theorem cdivide_10_zero (p a b cc : Nat) (n : Int) (c : Cp) (o i : Value) (w : World) (ha : a < 16) (hb : b < 16) (hcc : cc < 16) (hz : c.r.getD cc 0 = 0) (hC : CpuAt w p 67 c o i) :
    Calls Tryd.prog 53 #[.pointer (some ⟨p, 0, none⟩), .agg #[.int .i64 10, .int .i64 a, .int .i64 b, .int .i64 cc, .int .i64 n]] w (CPost p (trapC c 3) o i w) := by
  have HC := Lib.hid (hC.alloc (.cells #[.int .i64 10, .int .i64 a, .int .i64 b, .int .i64 cc, .int .i64 n] 51))
  have qb := HC.out.reg hb
  have qc := HC.out.reg hcc
  have b1 := (Whole.made w 51 #[.int .i64 10, .int .i64 a, .int .i64 b, .int .i64 cc, .int .i64 n] _ rfl)
  have B0 := Lib.hid ((But.refl [p] w).alloc (.cells #[.int .i64 10, .int .i64 a, .int .i64 b, .int .i64 cc, .int .i64 n] 51))
  have T := Lib.hid (fun w hC => ctrap_any p c o i 3 w hC)
  have S := Lib.hid (fun v w hC => cset_any p a c o i v w ha hC)
  rw [hz] at qc
  have K0 := Lib.hid b1
  clear hC b1
  unfold CPost at *
  go_enter Tryd.func53, Tryd.ntmps53
  go_wp2_with fail
  go_quiet (fail)
  have HD := Lib.hid (HC.out.drawn nq)
  have BD := Lib.hid (B0.out.drawn nq)
  have KD := Lib.hid (K0.out.drawn nq)
  clear HC B0 K0 qb qc
  generalize (w.alloc (.cells #[.int .i64 10, .int .i64 a, .int .i64 b, .int .i64 cc, .int .i64 n] 51)).drewN nq = W at *
  have k0 : W.cell? ⟨w.heap.size, 0, none⟩ = some (.int .i64 10) := KD.out.cell 0
  have k1 : W.cell? ⟨w.heap.size, 1, none⟩ = some (.int .i64 a) := KD.out.cell 1
  go_wp2_with fail
  refine (div_zero _ _).mono ?_
  rintro e w' ⟨rfl, rfl⟩
  go_wp2_with fail
  refine (mod_zero _ _).mono ?_
  rintro e w' ⟨rfl, rfl⟩
  go_wp2_with fail
  refine (T.out _ HD.out).mono ?_
  rintro e w' ⟨rfl, hc, hb⟩
  go_wp2_with fail
  first | go_end0 | refine bodyPost_ret (results_none rfl _ _ _) rfl ?_
  exact ⟨rfl, hc, BD.out.trans hb⟩

set_option maxHeartbeats 4000000 in
theorem cdivide_10 (p a b cc : Nat) (n : Int) (c : Cp) (o i : Value) (w : World) (ha : a < 16) (hb : b < 16) (hcc : cc < 16) (hy : 0 ≤ c.r.getD cc 0 ∧ c.r.getD cc 0 ≤ 4294967295) (hz : c.r.getD cc 0 ≠ 0) (hC : CpuAt w p 67 c o i) :
    Calls Tryd.prog 53 #[.pointer (some ⟨p, 0, none⟩), .agg #[.int .i64 10, .int .i64 a, .int .i64 b, .int .i64 cc, .int .i64 n]] w (CPost p (setC c a (w32 (md (wrap32 (c.r.getD b 0)) (wrap32 (c.r.getD cc 0))))) o i w) := by
  have HC := Lib.hid (hC.alloc (.cells #[.int .i64 10, .int .i64 a, .int .i64 b, .int .i64 cc, .int .i64 n] 51))
  have qb := HC.out.reg hb
  have qc := HC.out.reg hcc
  have b1 := (Whole.made w 51 #[.int .i64 10, .int .i64 a, .int .i64 b, .int .i64 cc, .int .i64 n] _ rfl)
  have B0 := Lib.hid ((But.refl [p] w).alloc (.cells #[.int .i64 10, .int .i64 a, .int .i64 b, .int .i64 cc, .int .i64 n] 51))
  have T := Lib.hid (fun w hC => ctrap_any p c o i 3 w hC)
  have S := Lib.hid (fun v w hC => cset_any p a c o i v w ha hC)
  have hne := Lib.hid (show wrap32 (c.r.getD cc 0) ≠ 0 by unfold wrap32; omega)
  clear hy hz
  have K0 := Lib.hid b1
  clear hC b1
  unfold CPost at *
  go_enter Tryd.func53, Tryd.ntmps53
  go_wp2_with fail
  go_quiet (fail)
  have HD := Lib.hid (HC.out.drawn nq)
  have BD := Lib.hid (B0.out.drawn nq)
  have KD := Lib.hid (K0.out.drawn nq)
  clear HC B0 K0 qb qc
  generalize (w.alloc (.cells #[.int .i64 10, .int .i64 a, .int .i64 b, .int .i64 cc, .int .i64 n] 51)).drewN nq = W at *
  have k0 : W.cell? ⟨w.heap.size, 0, none⟩ = some (.int .i64 10) := KD.out.cell 0
  have k1 : W.cell? ⟨w.heap.size, 1, none⟩ = some (.int .i64 a) := KD.out.cell 1
  go_wp2_with fail
  refine (div_any _ _ _ (wrap32_ge _) (wrap32_le _) hne.out).mono ?_
  rintro e w' ⟨rfl, rfl⟩
  go_wp2_with fail
  refine (mod_any _ _ _ (wrap32_ge _) (wrap32_le _) hne.out).mono ?_
  rintro e w' ⟨rfl, hb2⟩
  have HD := Lib.hid (HD.out.below hb2 HD.out.lt)
  have BD := Lib.hid (BD.out.trans (.of_below hb2 (Nat.le_refl _)))
  have k1 : w'.cell? ⟨w.heap.size, 1, none⟩ = some (.int .i64 a) := (KD.out.below hb2 KD.out.lt).cell 1
  clear hb2 k0 KD
  go_wp2_with fail
  refine (S.out _ _ HD.out).mono ?_
  rintro e w' ⟨rfl, hc, hb⟩
  go_wp2_with fail
  first | go_end0 | refine bodyPost_ret (results_none rfl _ _ _) rfl ?_
  exact ⟨rfl, hc, BD.out.trans hb⟩

end Go.Proofs.YtinpdgjbiimgkaaDoor
