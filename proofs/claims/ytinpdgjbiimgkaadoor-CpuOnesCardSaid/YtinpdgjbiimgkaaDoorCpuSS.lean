/- CpuS0 CpuS1 CpuS2 CpuS3 CpuS4 in one. -/
import Derived.Test.YtinpdgjbiimgkaaDoorCpuT
import Derived.Test.YtinpdgjbiimgkaaDoorCpuC
import Derived.Test.YtinpdgjbiimgkaaDoorCpuQC
import Derived.Test.YtinpdgjbiimgkaaDoorCpuTE
import Derived.Test.YtinpdgjbiimgkaaDoorCpuP
import Derived.Test.YtinpdgjbiimgkaaDoorMemFT
import Derived.Test.YtinpdgjbiimgkaaDoorCpuQE

/- The answers' do, by operation. -/
namespace Go.Proofs.YtinpdgjbiimgkaaDoor
open Go.ChangeShapes Go.WideShapes Go.ChangeAt Go.RowKit
set_option linter.unusedVariables false

theorem results_two_rows2 {P : Program} {fn : Func} {p1 p2 : Tmp} {T1 T2 : TypeId} (h : fn.results = #[.cell p1 T1, .cell p2 T2]) (a : Act) (w : World) (g1 g2 : Nat) (t1 t2 : TypeId) (c1 c2 : Array Value) (d1 d2 : TypeDesc)
    (hp1 : a.eval (.tmp p1) = .pointer (some ⟨g1, 0, none⟩)) (hp2 : a.eval (.tmp p2) = .pointer (some ⟨g2, 0, none⟩)) (h1 : Whole w g1 t1 c1) (h2 : Whole w g2 t2 c2)
    (hu1 : P.underlying T1 = some d1) (hd1 : (match d1 with | .struct _ | .array _ _ => true | _ => false) = true) (hi1 : (P.info? T1).map (·.size) = some c1.size)
    (hu2 : P.underlying T2 = some d2) (hd2 : (match d2 with | .struct _ | .array _ _ => true | _ => false) = true) (hi2 : (P.info? T2).map (·.size) = some c2.size) :
    (results fn a.tmps).run P w = .ok (.tuple #[.agg c1, .agg c2]) w :=
  results_two_rows h a.tmps w g1 g2 t1 t2 c1 c2 d1 d2 hp1 hp2 h1 h2 hu1 hd1 hi1 hu2 hd2 hi2

/-- A copy of a slot may be taken first. -/
theorem take_slot {P : Program} {ops : Array Oper} {op : Oper} {a : Act} {S : World → Prop} {v : Value} (x : Operand) (hg : op.guard = none) (ho : op.op = .move x) (h : a.eval x = v) : YieldsIf P ops S op v a := h ▸ take_move x hg ho

theorem infoI {I : Array Value} (hz : I.size = 5) : (Tryd.prog.info? 54).map (·.size) = some I.size := by
  rw [hz]
  kernel_rfl


set_option maxHeartbeats 8000000 in
set_option maxRecDepth 100000 in
theorem refdo_9 (a b cc : Nat) (n : Int) (c : Cp) (A1 A2 : Option Addr) (n1 k1 n2 k2 : Nat) (MC : Array Value) (w : World) (ha : a < 16) (hb : b < 16) (hcc : cc < 16) (ub : 0 ≤ (c.r.getD b 0) ∧ (c.r.getD b 0) ≤ 4294967295) (uc : 0 ≤ (c.r.getD cc 0) ∧ (c.r.getD cc 0) ≤ 4294967295) (hl : c.r.length = 16) (hm : MC.size = 6) (hm1 : MC.all (·.oneCell') = true) (h0 : (c.r.getD cc 0) ≠ 0) :
    Calls Tryd.prog 26 #[.agg (cpuCells c (.slice A1 n1 k1) (.slice A2 n2 k2)), .agg MC, .agg #[.int .i64 9, .int .i64 a, .int .i64 b, .int .i64 cc, .int .i64 n]] w fun e w' => e = .returned (.tuple #[.agg (cpuCells (setC c a (w32 (dv (wrap32 (c.r.getD b 0)) (wrap32 (c.r.getD cc 0))))) (.slice A1 n1 k1) (.slice A2 n2 k2)), .agg MC]) ∧ Below w.heap.size w w' := by
  have F0 := fr_made w (cpuCells c (.slice A1 n1 k1) (.slice A2 n2 k2)) MC #[.int .i64 9, .int .i64 a, .int .i64 b, .int .i64 cc, .int .i64 n]
  unfold zeros38 zeros41 at F0
  have FH := Lib.hid F0
  have haI : (a : Int) < 16 := by omega
  have hbI : (b : Int) < 16 := by omega
  have hcI : (cc : Int) < 16 := by omega
  have SM := Lib.hid hm
  have ONM := Lib.hid hm1
  have HLN := Lib.hid hl
  have qa := (F0.c.cell a).trans (cpuCells_reg hl _ _ ha)
  have qb := (F0.c.cell b).trans (cpuCells_reg hl _ _ hb)
  have GA := Lib.hid (cpuCells_reg hl (.slice A1 n1 k1) (.slice A2 n2 k2) ha)
  have GB := Lib.hid (cpuCells_reg hl (.slice A1 n1 k1) (.slice A2 n2 k2) hb)
  have GC := Lib.hid (cpuCells_reg hl (.slice A1 n1 k1) (.slice A2 n2 k2) hcc)
  clear F0 hm hm1 hl
  generalize (c.r.getD a 0) = ra at *
  generalize (c.r.getD b 0) = rb at *
  generalize (c.r.getD cc 0) = rc at *
  have RK := Lib.hid (fun w => reckon_9 rb rc w ub uc h0)
  clear h0
  generalize w32 (dv (wrap32 rb) (wrap32 rc)) = av at *
  generalize hC0 : cpuCells c (.slice A1 n1 k1) (.slice A2 n2 k2) = C0 at *
  go_enter Tryd.func26, Tryd.ntmps26
  go_wp2_with fail
  go_quiet (fail)
  have FD := Lib.hid (FH.out.drawn nq)
  clear FH qa qb
  generalize ((((((w.alloc (.cells C0 38)).alloc (.cells MC 41)).alloc (.cells #[.int .i64 9, .int .i64 a, .int .i64 b, .int .i64 cc, .int .i64 n] 54)).alloc (.cells #[.int .u32 0, .int .u32 0, .int .u32 0, .int .u32 0, .int .u32 0, .int .u32 0, .int .u32 0, .int .u32 0, .int .u32 0, .int .u32 0, .int .u32 0, .int .u32 0, .int .u32 0, .int .u32 0, .int .u32 0, .int .u32 0, .int .u32 0, .int .u32 0, .int .u32 0, .int .i64 0, .int .i64 0, .int .i64 0, .int .i64 0, .slice none 0 0, .int .u32 0, .int .u32 0, .int .u32 0, .int .u32 0, .slice none 0 0] 38)).alloc (.cells #[.int .u32 0, .int .u32 0, .int .u32 0, .int .u32 0, .int .u32 0, .slice none 0 0] 41)).drewN nq) = W at *
  subst hC0
  have qa : W.cell? ⟨w.heap.size, a, none⟩ = some (.int .u32 ra) := (FD.out.c.cell a).trans GA.out
  have qc : W.cell? ⟨w.heap.size, cc, none⟩ = some (.int .u32 rc) := (FD.out.c.cell cc).trans GC.out
  have q14 : W.cell? ⟨w.heap.size, 14, none⟩ = some (.int .u32 (c.r.getD 14 0)) := (FD.out.c.cell 14).trans (cpuCells_reg HLN.out _ _ (by decide))
  have q16 : W.cell? ⟨w.heap.size, 16, none⟩ = some (.int .u32 c.pc) := (FD.out.c.cell 16).trans (cpuCells_pc HLN.out _ _)
  have q19 : W.cell? ⟨w.heap.size, 19, none⟩ = some (.int .i64 c.st) := (FD.out.c.cell 19).trans (cpuCells_st HLN.out _ _)
  have hf : ∀ j, W.frozen? ⟨w.heap.size, j, none⟩ = false := FD.out.c.free
  have g2 : w.heap.size + 1 + 1 ≠ w.heap.size := by omega
  have i0 : W.cell? ⟨w.heap.size + 1 + 1, 0, none⟩ = some (.int .i64 9) := FD.out.i.cell 0
  have i1 : W.cell? ⟨w.heap.size + 1 + 1, 1, none⟩ = some (.int .i64 a) := FD.out.i.cell 1
  have i3 : W.cell? ⟨w.heap.size + 1 + 1, 3, none⟩ = some (.int .i64 cc) := FD.out.i.cell 3
  have i4 : W.cell? ⟨w.heap.size + 1 + 1, 4, none⟩ = some (.int .i64 n) := FD.out.i.cell 4
  go_wp2_with fail
  go_quiet (first | (go_at_call 44; refine Calls.quiet_of_same ((RK.out _).mono (fun _ _ h => ⟨h.1, h.2.symm⟩))))
  have FD := Lib.hid (FD.out.drawn nq)
  clear i0 i1 i3 i4 qa qc q14 q16 q19 hf
  generalize hW2 : W.drewN nq = X at *
  clear hW2
  have i1 : X.cell? ⟨w.heap.size + 1 + 1, 1, none⟩ = some (.int .i64 a) := FD.out.i.cell 1
  have qa : X.cell? ⟨w.heap.size, a, none⟩ = some (.int .u32 ra) := (FD.out.c.cell a).trans GA.out
  have q16 : X.cell? ⟨w.heap.size, 16, none⟩ = some (.int .u32 c.pc) := (FD.out.c.cell 16).trans (cpuCells_pc HLN.out _ _)
  have hf : ∀ j, X.frozen? ⟨w.heap.size, j, none⟩ = false := FD.out.c.free
  go_wp2_with fail
  have FE := Lib.hid (show Fr w ((X.setCell ⟨w.heap.size, a, none⟩ (.int .u32 (av))).setCell ⟨w.heap.size, 16, none⟩ (.int .u32 ((c.pc + 4) % 4294967296))) (cpuCells (setC c a (av)) (.slice A1 n1 k1) (.slice A2 n2 k2)) MC _ from (FD.out.setReg HLN.out ha _).set_pc (by simp [HLN.out]) _)
  clear FD i1 qa q16 hf
  generalize (X.setCell ⟨w.heap.size, a, none⟩ (.int .u32 (av))).setCell ⟨w.heap.size, 16, none⟩ (.int .u32 ((c.pc + 4) % 4294967296)) = V at *
  have hlf : (setC c a (av)).r.length = 16 := by first | exact HLN.out | (show (List.set _ _ _).length = 16; rw [List.length_set]; exact HLN.out)
  have SZ := Lib.hid (cpuCells_size hlf (.slice A1 n1 k1) (.slice A2 n2 k2))
  have ONE := Lib.hid (cpu_one (setC c a (av)) (o := (.slice A1 n1 k1)) (i := (.slice A2 n2 k2)) rfl rfl)
  clear hlf
  generalize hC2 : cpuCells (setC c a (av)) (.slice A1 n1 k1) (.slice A2 n2 k2) = C2 at *
  have CE := Lib.hid hC2
  clear hC2
  have HC := Lib.hid FE.out.c
  have HM := Lib.hid FE.out.m
  have R1 := Lib.hid FE.out.r1
  have R2 := Lib.hid FE.out.r2
  have BV := Lib.hid FE.out.bel
  refine held_start 4 rfl (S := fun y => Whole y w.heap.size 38 C2 ∧ Whole y (w.heap.size + 1) 41 MC) (by kernel_rfl) ⟨HC.out.drew', HM.out.drew'⟩ (fun hS => ?_)
  refine wpAnyH_take (i := 0) (v := .agg C2) get0 ?_ ?_ ?_ ?_ ?_ hS ?_
  · kernel_rfl
  · kernel_rfl
  · kernel_rfl
  · exact fun _ _ _ h => h
  · exact take_load 38 (.tmp 3) rfl rfl (w.heap.size) rfl 38 C2 (fun _ h => h.1) _ Tryd.underlying38 rfl (infoCpu SZ.out)
  refine wpAnyH_take (i := 1) (v := .agg MC) get1 ?_ ?_ ?_ ?_ ?_ hS ?_
  · kernel_rfl
  · kernel_rfl
  · kernel_rfl
  · exact fun _ _ _ h => h
  · exact take_load 41 (.tmp 4) rfl rfl ((w.heap.size + 1)) rfl 41 MC (fun _ h => h.2) _ Tryd.underlying41 rfl (infoMem SM.out)
  refine held_step get2 (by kernel_rfl) (fun K hK => ?_)
  refine step_store 38 (.tmp 6) (.tmp 74) rfl rfl (w.heap.size + 1 + 1 + 1) C2 rfl rfl 38 zeros38 R1.out.drew' (infoCpu SZ.out) (by rw [SZ.out]; rfl) ONE.out ?_
  refine hK.out _ _ ⟨HC.out.drew'.only (by omega) (Only.setRow _ (w.heap.size + 1 + 1 + 1) C2), HM.out.drew'.only (by omega) (Only.setRow _ (w.heap.size + 1 + 1 + 1) C2)⟩ (fun hS2 => ?_)
  clear hK K
  refine held_step get3 (by kernel_rfl) (fun K hK => ?_)
  refine step_store 41 (.tmp 7) (.tmp 75) rfl rfl (w.heap.size + 1 + 1 + 1 + 1) MC rfl rfl 41 zeros41 (R2.out.drew'.only (by omega) (Only.setRow _ (w.heap.size + 1 + 1 + 1) C2)) (infoMem SM.out) (by rw [SM.out]; rfl) ONM.out ?_
  refine hK.out _ _ ⟨hS2.1.only (by omega) (Only.setRow _ (w.heap.size + 1 + 1 + 1 + 1) MC), hS2.2.only (by omega) (Only.setRow _ (w.heap.size + 1 + 1 + 1 + 1) MC)⟩ (fun hS3 => ?_)
  clear hK K
  refine wpAnyH_done (by kernel_rfl) ?_ _
  go_wp2_with fail
  refine bodyPost_ret (v := .tuple #[.agg C2, .agg MC]) (results_two_rows rfl _ _ (w.heap.size + 1 + 1 + 1) (w.heap.size + 1 + 1 + 1 + 1) 38 41 C2 MC _ _ rfl rfl ((R1.out.drew'.setRow C2).only (by omega) (Only.setRow _ (w.heap.size + 1 + 1 + 1 + 1) MC)) ((R2.out.drew'.only (by omega) (Only.setRow _ (w.heap.size + 1 + 1 + 1) C2)).setRow MC) Tryd.underlying38 rfl (infoCpu SZ.out) Tryd.underlying41 rfl (infoMem SM.out)) rfl ⟨by rw [CE.out], ((BV.out.drew.trans ((Only.setRow _ (w.heap.size + 1 + 1 + 1) C2).below (by omega) (by have := BV.out.size; simpa using this))).trans ((Only.setRow _ (w.heap.size + 1 + 1 + 1 + 1) MC).below (by omega) (by have := BV.out.size; simpa using this)))⟩

set_option maxHeartbeats 8000000 in
set_option maxRecDepth 100000 in
theorem refdo_9_zero (a b cc : Nat) (n : Int) (c : Cp) (A1 A2 : Option Addr) (n1 k1 n2 k2 : Nat) (MC : Array Value) (w : World) (ha : a < 16) (hb : b < 16) (hcc : cc < 16) (ub : 0 ≤ (c.r.getD b 0) ∧ (c.r.getD b 0) ≤ 4294967295) (uc : 0 ≤ (c.r.getD cc 0) ∧ (c.r.getD cc 0) ≤ 4294967295) (hl : c.r.length = 16) (hm : MC.size = 6) (hm1 : MC.all (·.oneCell') = true) (h0 : (c.r.getD cc 0) = 0) :
    Calls Tryd.prog 26 #[.agg (cpuCells c (.slice A1 n1 k1) (.slice A2 n2 k2)), .agg MC, .agg #[.int .i64 9, .int .i64 a, .int .i64 b, .int .i64 cc, .int .i64 n]] w fun e w' => e = .returned (.tuple #[.agg (cpuCells (trapC c 3) (.slice A1 n1 k1) (.slice A2 n2 k2)), .agg MC]) ∧ Below w.heap.size w w' := by
  have F0 := fr_made w (cpuCells c (.slice A1 n1 k1) (.slice A2 n2 k2)) MC #[.int .i64 9, .int .i64 a, .int .i64 b, .int .i64 cc, .int .i64 n]
  unfold zeros38 zeros41 at F0
  have FH := Lib.hid F0
  have haI : (a : Int) < 16 := by omega
  have hbI : (b : Int) < 16 := by omega
  have hcI : (cc : Int) < 16 := by omega
  have SM := Lib.hid hm
  have ONM := Lib.hid hm1
  have HLN := Lib.hid hl
  have qa := (F0.c.cell a).trans (cpuCells_reg hl _ _ ha)
  have qb := (F0.c.cell b).trans (cpuCells_reg hl _ _ hb)
  have GA := Lib.hid (cpuCells_reg hl (.slice A1 n1 k1) (.slice A2 n2 k2) ha)
  have GB := Lib.hid (cpuCells_reg hl (.slice A1 n1 k1) (.slice A2 n2 k2) hb)
  have GC := Lib.hid (cpuCells_reg hl (.slice A1 n1 k1) (.slice A2 n2 k2) hcc)
  have CT := Lib.hid (fun w => reftrap_any c A1 A2 n1 k1 n2 k2 3 w hl)
  have SZ0 := Lib.hid (cpuCells_size hl (.slice A1 n1 k1) (.slice A2 n2 k2))
  clear F0 hm hm1 hl
  generalize (c.r.getD a 0) = ra at *
  generalize (c.r.getD b 0) = rb at *
  generalize (c.r.getD cc 0) = rc at *
  subst h0
  have RK := Lib.hid (fun w => reckon_9_zero rb w)
  have hl2 : (trapC c 3 : Cp).r.length = 16 := by first | exact HLN.out | exact trapC_len HLN.out | (show (List.set _ _ _).length = 16; rw [List.length_set]; exact HLN.out)
  have SZ := Lib.hid (cpuCells_size hl2 (.slice A1 n1 k1) (.slice A2 n2 k2))
  have ONE := Lib.hid (cpu_one (trapC c 3) (o := (.slice A1 n1 k1)) (i := (.slice A2 n2 k2)) rfl rfl)
  clear hl2
  generalize hC2 : cpuCells (trapC c 3) (.slice A1 n1 k1) (.slice A2 n2 k2) = C2 at *
  have CE := Lib.hid hC2
  clear hC2
  generalize hC0 : cpuCells c (.slice A1 n1 k1) (.slice A2 n2 k2) = C0 at *
  go_enter Tryd.func26, Tryd.ntmps26
  go_wp2_with fail
  go_quiet (fail)
  have FD := Lib.hid (FH.out.drawn nq)
  clear FH qa qb
  generalize ((((((w.alloc (.cells C0 38)).alloc (.cells MC 41)).alloc (.cells #[.int .i64 9, .int .i64 a, .int .i64 b, .int .i64 cc, .int .i64 n] 54)).alloc (.cells #[.int .u32 0, .int .u32 0, .int .u32 0, .int .u32 0, .int .u32 0, .int .u32 0, .int .u32 0, .int .u32 0, .int .u32 0, .int .u32 0, .int .u32 0, .int .u32 0, .int .u32 0, .int .u32 0, .int .u32 0, .int .u32 0, .int .u32 0, .int .u32 0, .int .u32 0, .int .i64 0, .int .i64 0, .int .i64 0, .int .i64 0, .slice none 0 0, .int .u32 0, .int .u32 0, .int .u32 0, .int .u32 0, .slice none 0 0] 38)).alloc (.cells #[.int .u32 0, .int .u32 0, .int .u32 0, .int .u32 0, .int .u32 0, .slice none 0 0] 41)).drewN nq) = W at *
  have qa : W.cell? ⟨w.heap.size, a, none⟩ = some (.int .u32 ra) := (FD.out.c.cell a).trans GA.out
  have qc : W.cell? ⟨w.heap.size, cc, none⟩ = some (.int .u32 0) := (FD.out.c.cell cc).trans GC.out
  have q14 : W.cell? ⟨w.heap.size, 14, none⟩ = some (.int .u32 (c.r.getD 14 0)) := by subst hC0; exact (FD.out.c.cell 14).trans (cpuCells_reg HLN.out _ _ (by decide))
  have q16 : W.cell? ⟨w.heap.size, 16, none⟩ = some (.int .u32 c.pc) := by subst hC0; exact (FD.out.c.cell 16).trans (cpuCells_pc HLN.out _ _)
  have q19 : W.cell? ⟨w.heap.size, 19, none⟩ = some (.int .i64 c.st) := by subst hC0; exact (FD.out.c.cell 19).trans (cpuCells_st HLN.out _ _)
  have hf : ∀ j, W.frozen? ⟨w.heap.size, j, none⟩ = false := FD.out.c.free
  have g2 : w.heap.size + 1 + 1 ≠ w.heap.size := by omega
  have i0 : W.cell? ⟨w.heap.size + 1 + 1, 0, none⟩ = some (.int .i64 9) := FD.out.i.cell 0
  have i1 : W.cell? ⟨w.heap.size + 1 + 1, 1, none⟩ = some (.int .i64 a) := FD.out.i.cell 1
  have i3 : W.cell? ⟨w.heap.size + 1 + 1, 3, none⟩ = some (.int .i64 cc) := FD.out.i.cell 3
  have i4 : W.cell? ⟨w.heap.size + 1 + 1, 4, none⟩ = some (.int .i64 n) := FD.out.i.cell 4
  go_wp2_with fail
  go_quiet (first | (go_at_call 44; refine Calls.quiet_of_same ((RK.out _).mono (fun _ _ h => ⟨h.1, h.2.symm⟩))))
  have FD := Lib.hid (FD.out.drawn nq)
  clear i0 i1 i3 i4 qa qc q14 q16 q19 hf
  generalize hW2 : W.drewN nq = X at *
  clear hW2
  have HC := Lib.hid FD.out.c
  have HM := Lib.hid FD.out.m
  have HI := Lib.hid FD.out.i
  have R1 := Lib.hid FD.out.r1
  have R2 := Lib.hid FD.out.r2
  have BV := Lib.hid FD.out.bel
  clear FD
  go_wp2_with fail
  refine held_start 5 rfl (S := fun y => Whole y w.heap.size 38 C0 ∧ Whole y (w.heap.size + 1) 41 MC ∧ True) (by kernel_rfl) ⟨HC.out.drew', HM.out.drew', trivial⟩ (fun hS => ?_)
  refine wpAnyH_take (i := 0) (v := .agg C0) get0 ?_ ?_ ?_ ?_ ?_ hS ?_
  · kernel_rfl
  · kernel_rfl
  · kernel_rfl
  · exact fun _ _ _ h => h
  · exact take_load 38 (.tmp 3) rfl rfl (w.heap.size) rfl 38 C0 (fun _ h => h.1) _ Tryd.underlying38 rfl (infoCpu SZ0.out)
  refine wpAnyH_take (i := 2) (v := .agg MC) get2 ?_ ?_ ?_ ?_ ?_ hS ?_
  · kernel_rfl
  · kernel_rfl
  · kernel_rfl
  · exact fun _ _ _ h => h
  · exact take_load 41 (.tmp 4) rfl rfl ((w.heap.size + 1)) (eval_ne (by decide) rfl) 41 MC (fun _ h => h.2.1) _ Tryd.underlying41 rfl (infoMem SM.out)
  refine held_step get1 (by kernel_rfl) (fun K hK => ?_)
  refine step_call2 Tryd.func45 rfl rfl rfl rfl (.agg C0) (.int .u32 3) (eval_ne (by decide) (eval_at (n := 193) rfl (by decide))) rfl (CT.out _) ?_
  rintro e w1 ⟨rfl, hb1⟩
  refine ⟨_, rfl, ?_⟩
  have Z1 := Lib.hid (R1.out.drew'.below hb1 R1.out.lt)
  have Z2 := Lib.hid (R2.out.drew'.below hb1 R2.out.lt)
  have ZB := Lib.hid (BV.out.drew.trans (hb1.mono BV.out.size))
  refine hK.out _ _ ⟨hS.1.below hb1 HC.out.lt, hS.2.1.below hb1 HM.out.lt, trivial⟩ (fun hS2 => ?_)
  clear hK K hb1
  refine held_step get3 (by kernel_rfl) (fun K hK => ?_)
  refine step_store 38 (.tmp 6) (.tmp 65) rfl rfl (w.heap.size + 1 + 1 + 1) C2 (eval_ne (by decide) (eval_ne (by decide) (eval_ne (by decide) rfl))) (eval_at (n := 193) (size_put (size_put rfl)) (by decide)) 38 zeros38 Z1.out (infoCpu SZ.out) (by rw [SZ.out]; rfl) ONE.out ?_
  refine hK.out _ _ ⟨hS2.1.only (by omega) (Only.setRow _ (w.heap.size + 1 + 1 + 1) C2), hS2.2.1.only (by omega) (Only.setRow _ (w.heap.size + 1 + 1 + 1) C2), trivial⟩ (fun hS3 => ?_)
  clear hK K
  refine held_step get4 (by kernel_rfl) (fun K hK => ?_)
  refine step_store 41 (.tmp 7) (.tmp 66) rfl rfl (w.heap.size + 1 + 1 + 1 + 1) MC (eval_none (eval_ne (by decide) (eval_ne (by decide) (eval_ne (by decide) rfl)))) (eval_none (eval_ne (by decide) (eval_at (n := 193) (size_put rfl) (by decide)))) 41 zeros41 (Z2.out.only (by omega) (Only.setRow _ (w.heap.size + 1 + 1 + 1) C2)) (infoMem SM.out) (by rw [SM.out]; rfl) ONM.out ?_
  refine hK.out _ _ ⟨hS3.1.only (by omega) (Only.setRow _ (w.heap.size + 1 + 1 + 1 + 1) MC), hS3.2.1.only (by omega) (Only.setRow _ (w.heap.size + 1 + 1 + 1 + 1) MC), trivial⟩ (fun hS4 => ?_)
  clear hK K
  refine wpAnyH_done (by kernel_rfl) ?_ _
  go_wp2_with fail
  refine bodyPost_ret (v := .tuple #[.agg C2, .agg MC]) (results_two_rows2 rfl _ _ (w.heap.size + 1 + 1 + 1) (w.heap.size + 1 + 1 + 1 + 1) 38 41 C2 MC _ _ (eval_none (eval_none (eval_ne (by decide) (eval_ne (by decide) (eval_ne (by decide) rfl))))) (eval_none (eval_none (eval_ne (by decide) (eval_ne (by decide) (eval_ne (by decide) rfl))))) ((Z1.out.setRow C2).only (by omega) (Only.setRow _ (w.heap.size + 1 + 1 + 1 + 1) MC)) ((Z2.out.only (by omega) (Only.setRow _ (w.heap.size + 1 + 1 + 1) C2)).setRow MC) Tryd.underlying38 rfl (infoCpu SZ.out) Tryd.underlying41 rfl (infoMem SM.out)) rfl ⟨rfl, ((ZB.out.trans ((Only.setRow _ (w.heap.size + 1 + 1 + 1) C2).below (by omega) (by have := ZB.out.size; simpa using this))).trans ((Only.setRow _ (w.heap.size + 1 + 1 + 1 + 1) MC).below (by omega) (by have := ZB.out.size; simpa using this)))⟩

set_option maxHeartbeats 8000000 in
set_option maxRecDepth 100000 in
theorem refdo_10 (a b cc : Nat) (n : Int) (c : Cp) (A1 A2 : Option Addr) (n1 k1 n2 k2 : Nat) (MC : Array Value) (w : World) (ha : a < 16) (hb : b < 16) (hcc : cc < 16) (ub : 0 ≤ (c.r.getD b 0) ∧ (c.r.getD b 0) ≤ 4294967295) (uc : 0 ≤ (c.r.getD cc 0) ∧ (c.r.getD cc 0) ≤ 4294967295) (hl : c.r.length = 16) (hm : MC.size = 6) (hm1 : MC.all (·.oneCell') = true) (h0 : (c.r.getD cc 0) ≠ 0) :
    Calls Tryd.prog 26 #[.agg (cpuCells c (.slice A1 n1 k1) (.slice A2 n2 k2)), .agg MC, .agg #[.int .i64 10, .int .i64 a, .int .i64 b, .int .i64 cc, .int .i64 n]] w fun e w' => e = .returned (.tuple #[.agg (cpuCells (setC c a (w32 (md (wrap32 (c.r.getD b 0)) (wrap32 (c.r.getD cc 0))))) (.slice A1 n1 k1) (.slice A2 n2 k2)), .agg MC]) ∧ Below w.heap.size w w' := by
  have F0 := fr_made w (cpuCells c (.slice A1 n1 k1) (.slice A2 n2 k2)) MC #[.int .i64 10, .int .i64 a, .int .i64 b, .int .i64 cc, .int .i64 n]
  unfold zeros38 zeros41 at F0
  have FH := Lib.hid F0
  have haI : (a : Int) < 16 := by omega
  have hbI : (b : Int) < 16 := by omega
  have hcI : (cc : Int) < 16 := by omega
  have SM := Lib.hid hm
  have ONM := Lib.hid hm1
  have HLN := Lib.hid hl
  have qa := (F0.c.cell a).trans (cpuCells_reg hl _ _ ha)
  have qb := (F0.c.cell b).trans (cpuCells_reg hl _ _ hb)
  have GA := Lib.hid (cpuCells_reg hl (.slice A1 n1 k1) (.slice A2 n2 k2) ha)
  have GB := Lib.hid (cpuCells_reg hl (.slice A1 n1 k1) (.slice A2 n2 k2) hb)
  have GC := Lib.hid (cpuCells_reg hl (.slice A1 n1 k1) (.slice A2 n2 k2) hcc)
  clear F0 hm hm1 hl
  generalize (c.r.getD a 0) = ra at *
  generalize (c.r.getD b 0) = rb at *
  generalize (c.r.getD cc 0) = rc at *
  have RK := Lib.hid (fun w => reckon_10 rb rc w ub uc h0)
  clear h0
  generalize w32 (md (wrap32 rb) (wrap32 rc)) = av at *
  generalize hC0 : cpuCells c (.slice A1 n1 k1) (.slice A2 n2 k2) = C0 at *
  go_enter Tryd.func26, Tryd.ntmps26
  go_wp2_with fail
  go_quiet (fail)
  have FD := Lib.hid (FH.out.drawn nq)
  clear FH qa qb
  generalize ((((((w.alloc (.cells C0 38)).alloc (.cells MC 41)).alloc (.cells #[.int .i64 10, .int .i64 a, .int .i64 b, .int .i64 cc, .int .i64 n] 54)).alloc (.cells #[.int .u32 0, .int .u32 0, .int .u32 0, .int .u32 0, .int .u32 0, .int .u32 0, .int .u32 0, .int .u32 0, .int .u32 0, .int .u32 0, .int .u32 0, .int .u32 0, .int .u32 0, .int .u32 0, .int .u32 0, .int .u32 0, .int .u32 0, .int .u32 0, .int .u32 0, .int .i64 0, .int .i64 0, .int .i64 0, .int .i64 0, .slice none 0 0, .int .u32 0, .int .u32 0, .int .u32 0, .int .u32 0, .slice none 0 0] 38)).alloc (.cells #[.int .u32 0, .int .u32 0, .int .u32 0, .int .u32 0, .int .u32 0, .slice none 0 0] 41)).drewN nq) = W at *
  subst hC0
  have qa : W.cell? ⟨w.heap.size, a, none⟩ = some (.int .u32 ra) := (FD.out.c.cell a).trans GA.out
  have qc : W.cell? ⟨w.heap.size, cc, none⟩ = some (.int .u32 rc) := (FD.out.c.cell cc).trans GC.out
  have q14 : W.cell? ⟨w.heap.size, 14, none⟩ = some (.int .u32 (c.r.getD 14 0)) := (FD.out.c.cell 14).trans (cpuCells_reg HLN.out _ _ (by decide))
  have q16 : W.cell? ⟨w.heap.size, 16, none⟩ = some (.int .u32 c.pc) := (FD.out.c.cell 16).trans (cpuCells_pc HLN.out _ _)
  have q19 : W.cell? ⟨w.heap.size, 19, none⟩ = some (.int .i64 c.st) := (FD.out.c.cell 19).trans (cpuCells_st HLN.out _ _)
  have hf : ∀ j, W.frozen? ⟨w.heap.size, j, none⟩ = false := FD.out.c.free
  have g2 : w.heap.size + 1 + 1 ≠ w.heap.size := by omega
  have i0 : W.cell? ⟨w.heap.size + 1 + 1, 0, none⟩ = some (.int .i64 10) := FD.out.i.cell 0
  have i1 : W.cell? ⟨w.heap.size + 1 + 1, 1, none⟩ = some (.int .i64 a) := FD.out.i.cell 1
  have i3 : W.cell? ⟨w.heap.size + 1 + 1, 3, none⟩ = some (.int .i64 cc) := FD.out.i.cell 3
  have i4 : W.cell? ⟨w.heap.size + 1 + 1, 4, none⟩ = some (.int .i64 n) := FD.out.i.cell 4
  go_wp2_with fail
  go_quiet (first | (go_at_call 44; refine Calls.quiet_of_same ((RK.out _).mono (fun _ _ h => ⟨h.1, h.2.symm⟩))))
  have FD := Lib.hid (FD.out.drawn nq)
  clear i0 i1 i3 i4 qa qc q14 q16 q19 hf
  generalize hW2 : W.drewN nq = X at *
  clear hW2
  have i1 : X.cell? ⟨w.heap.size + 1 + 1, 1, none⟩ = some (.int .i64 a) := FD.out.i.cell 1
  have qa : X.cell? ⟨w.heap.size, a, none⟩ = some (.int .u32 ra) := (FD.out.c.cell a).trans GA.out
  have q16 : X.cell? ⟨w.heap.size, 16, none⟩ = some (.int .u32 c.pc) := (FD.out.c.cell 16).trans (cpuCells_pc HLN.out _ _)
  have hf : ∀ j, X.frozen? ⟨w.heap.size, j, none⟩ = false := FD.out.c.free
  go_wp2_with fail
  have FE := Lib.hid (show Fr w ((X.setCell ⟨w.heap.size, a, none⟩ (.int .u32 (av))).setCell ⟨w.heap.size, 16, none⟩ (.int .u32 ((c.pc + 4) % 4294967296))) (cpuCells (setC c a (av)) (.slice A1 n1 k1) (.slice A2 n2 k2)) MC _ from (FD.out.setReg HLN.out ha _).set_pc (by simp [HLN.out]) _)
  clear FD i1 qa q16 hf
  generalize (X.setCell ⟨w.heap.size, a, none⟩ (.int .u32 (av))).setCell ⟨w.heap.size, 16, none⟩ (.int .u32 ((c.pc + 4) % 4294967296)) = V at *
  have hlf : (setC c a (av)).r.length = 16 := by first | exact HLN.out | (show (List.set _ _ _).length = 16; rw [List.length_set]; exact HLN.out)
  have SZ := Lib.hid (cpuCells_size hlf (.slice A1 n1 k1) (.slice A2 n2 k2))
  have ONE := Lib.hid (cpu_one (setC c a (av)) (o := (.slice A1 n1 k1)) (i := (.slice A2 n2 k2)) rfl rfl)
  clear hlf
  generalize hC2 : cpuCells (setC c a (av)) (.slice A1 n1 k1) (.slice A2 n2 k2) = C2 at *
  have CE := Lib.hid hC2
  clear hC2
  have HC := Lib.hid FE.out.c
  have HM := Lib.hid FE.out.m
  have R1 := Lib.hid FE.out.r1
  have R2 := Lib.hid FE.out.r2
  have BV := Lib.hid FE.out.bel
  refine held_start 4 rfl (S := fun y => Whole y w.heap.size 38 C2 ∧ Whole y (w.heap.size + 1) 41 MC) (by kernel_rfl) ⟨HC.out.drew', HM.out.drew'⟩ (fun hS => ?_)
  refine wpAnyH_take (i := 0) (v := .agg C2) get0 ?_ ?_ ?_ ?_ ?_ hS ?_
  · kernel_rfl
  · kernel_rfl
  · kernel_rfl
  · exact fun _ _ _ h => h
  · exact take_load 38 (.tmp 3) rfl rfl (w.heap.size) rfl 38 C2 (fun _ h => h.1) _ Tryd.underlying38 rfl (infoCpu SZ.out)
  refine wpAnyH_take (i := 1) (v := .agg MC) get1 ?_ ?_ ?_ ?_ ?_ hS ?_
  · kernel_rfl
  · kernel_rfl
  · kernel_rfl
  · exact fun _ _ _ h => h
  · exact take_load 41 (.tmp 4) rfl rfl ((w.heap.size + 1)) rfl 41 MC (fun _ h => h.2) _ Tryd.underlying41 rfl (infoMem SM.out)
  refine held_step get2 (by kernel_rfl) (fun K hK => ?_)
  refine step_store 38 (.tmp 6) (.tmp 74) rfl rfl (w.heap.size + 1 + 1 + 1) C2 rfl rfl 38 zeros38 R1.out.drew' (infoCpu SZ.out) (by rw [SZ.out]; rfl) ONE.out ?_
  refine hK.out _ _ ⟨HC.out.drew'.only (by omega) (Only.setRow _ (w.heap.size + 1 + 1 + 1) C2), HM.out.drew'.only (by omega) (Only.setRow _ (w.heap.size + 1 + 1 + 1) C2)⟩ (fun hS2 => ?_)
  clear hK K
  refine held_step get3 (by kernel_rfl) (fun K hK => ?_)
  refine step_store 41 (.tmp 7) (.tmp 75) rfl rfl (w.heap.size + 1 + 1 + 1 + 1) MC rfl rfl 41 zeros41 (R2.out.drew'.only (by omega) (Only.setRow _ (w.heap.size + 1 + 1 + 1) C2)) (infoMem SM.out) (by rw [SM.out]; rfl) ONM.out ?_
  refine hK.out _ _ ⟨hS2.1.only (by omega) (Only.setRow _ (w.heap.size + 1 + 1 + 1 + 1) MC), hS2.2.only (by omega) (Only.setRow _ (w.heap.size + 1 + 1 + 1 + 1) MC)⟩ (fun hS3 => ?_)
  clear hK K
  refine wpAnyH_done (by kernel_rfl) ?_ _
  go_wp2_with fail
  refine bodyPost_ret (v := .tuple #[.agg C2, .agg MC]) (results_two_rows rfl _ _ (w.heap.size + 1 + 1 + 1) (w.heap.size + 1 + 1 + 1 + 1) 38 41 C2 MC _ _ rfl rfl ((R1.out.drew'.setRow C2).only (by omega) (Only.setRow _ (w.heap.size + 1 + 1 + 1 + 1) MC)) ((R2.out.drew'.only (by omega) (Only.setRow _ (w.heap.size + 1 + 1 + 1) C2)).setRow MC) Tryd.underlying38 rfl (infoCpu SZ.out) Tryd.underlying41 rfl (infoMem SM.out)) rfl ⟨by rw [CE.out], ((BV.out.drew.trans ((Only.setRow _ (w.heap.size + 1 + 1 + 1) C2).below (by omega) (by have := BV.out.size; simpa using this))).trans ((Only.setRow _ (w.heap.size + 1 + 1 + 1 + 1) MC).below (by omega) (by have := BV.out.size; simpa using this)))⟩

set_option maxHeartbeats 8000000 in
set_option maxRecDepth 100000 in
theorem refdo_10_zero (a b cc : Nat) (n : Int) (c : Cp) (A1 A2 : Option Addr) (n1 k1 n2 k2 : Nat) (MC : Array Value) (w : World) (ha : a < 16) (hb : b < 16) (hcc : cc < 16) (ub : 0 ≤ (c.r.getD b 0) ∧ (c.r.getD b 0) ≤ 4294967295) (uc : 0 ≤ (c.r.getD cc 0) ∧ (c.r.getD cc 0) ≤ 4294967295) (hl : c.r.length = 16) (hm : MC.size = 6) (hm1 : MC.all (·.oneCell') = true) (h0 : (c.r.getD cc 0) = 0) :
    Calls Tryd.prog 26 #[.agg (cpuCells c (.slice A1 n1 k1) (.slice A2 n2 k2)), .agg MC, .agg #[.int .i64 10, .int .i64 a, .int .i64 b, .int .i64 cc, .int .i64 n]] w fun e w' => e = .returned (.tuple #[.agg (cpuCells (trapC c 3) (.slice A1 n1 k1) (.slice A2 n2 k2)), .agg MC]) ∧ Below w.heap.size w w' := by
  have F0 := fr_made w (cpuCells c (.slice A1 n1 k1) (.slice A2 n2 k2)) MC #[.int .i64 10, .int .i64 a, .int .i64 b, .int .i64 cc, .int .i64 n]
  unfold zeros38 zeros41 at F0
  have FH := Lib.hid F0
  have haI : (a : Int) < 16 := by omega
  have hbI : (b : Int) < 16 := by omega
  have hcI : (cc : Int) < 16 := by omega
  have SM := Lib.hid hm
  have ONM := Lib.hid hm1
  have HLN := Lib.hid hl
  have qa := (F0.c.cell a).trans (cpuCells_reg hl _ _ ha)
  have qb := (F0.c.cell b).trans (cpuCells_reg hl _ _ hb)
  have GA := Lib.hid (cpuCells_reg hl (.slice A1 n1 k1) (.slice A2 n2 k2) ha)
  have GB := Lib.hid (cpuCells_reg hl (.slice A1 n1 k1) (.slice A2 n2 k2) hb)
  have GC := Lib.hid (cpuCells_reg hl (.slice A1 n1 k1) (.slice A2 n2 k2) hcc)
  have CT := Lib.hid (fun w => reftrap_any c A1 A2 n1 k1 n2 k2 3 w hl)
  have SZ0 := Lib.hid (cpuCells_size hl (.slice A1 n1 k1) (.slice A2 n2 k2))
  clear F0 hm hm1 hl
  generalize (c.r.getD a 0) = ra at *
  generalize (c.r.getD b 0) = rb at *
  generalize (c.r.getD cc 0) = rc at *
  subst h0
  have RK := Lib.hid (fun w => reckon_10_zero rb w)
  have hl2 : (trapC c 3 : Cp).r.length = 16 := by first | exact HLN.out | exact trapC_len HLN.out | (show (List.set _ _ _).length = 16; rw [List.length_set]; exact HLN.out)
  have SZ := Lib.hid (cpuCells_size hl2 (.slice A1 n1 k1) (.slice A2 n2 k2))
  have ONE := Lib.hid (cpu_one (trapC c 3) (o := (.slice A1 n1 k1)) (i := (.slice A2 n2 k2)) rfl rfl)
  clear hl2
  generalize hC2 : cpuCells (trapC c 3) (.slice A1 n1 k1) (.slice A2 n2 k2) = C2 at *
  have CE := Lib.hid hC2
  clear hC2
  generalize hC0 : cpuCells c (.slice A1 n1 k1) (.slice A2 n2 k2) = C0 at *
  go_enter Tryd.func26, Tryd.ntmps26
  go_wp2_with fail
  go_quiet (fail)
  have FD := Lib.hid (FH.out.drawn nq)
  clear FH qa qb
  generalize ((((((w.alloc (.cells C0 38)).alloc (.cells MC 41)).alloc (.cells #[.int .i64 10, .int .i64 a, .int .i64 b, .int .i64 cc, .int .i64 n] 54)).alloc (.cells #[.int .u32 0, .int .u32 0, .int .u32 0, .int .u32 0, .int .u32 0, .int .u32 0, .int .u32 0, .int .u32 0, .int .u32 0, .int .u32 0, .int .u32 0, .int .u32 0, .int .u32 0, .int .u32 0, .int .u32 0, .int .u32 0, .int .u32 0, .int .u32 0, .int .u32 0, .int .i64 0, .int .i64 0, .int .i64 0, .int .i64 0, .slice none 0 0, .int .u32 0, .int .u32 0, .int .u32 0, .int .u32 0, .slice none 0 0] 38)).alloc (.cells #[.int .u32 0, .int .u32 0, .int .u32 0, .int .u32 0, .int .u32 0, .slice none 0 0] 41)).drewN nq) = W at *
  have qa : W.cell? ⟨w.heap.size, a, none⟩ = some (.int .u32 ra) := (FD.out.c.cell a).trans GA.out
  have qc : W.cell? ⟨w.heap.size, cc, none⟩ = some (.int .u32 0) := (FD.out.c.cell cc).trans GC.out
  have q14 : W.cell? ⟨w.heap.size, 14, none⟩ = some (.int .u32 (c.r.getD 14 0)) := by subst hC0; exact (FD.out.c.cell 14).trans (cpuCells_reg HLN.out _ _ (by decide))
  have q16 : W.cell? ⟨w.heap.size, 16, none⟩ = some (.int .u32 c.pc) := by subst hC0; exact (FD.out.c.cell 16).trans (cpuCells_pc HLN.out _ _)
  have q19 : W.cell? ⟨w.heap.size, 19, none⟩ = some (.int .i64 c.st) := by subst hC0; exact (FD.out.c.cell 19).trans (cpuCells_st HLN.out _ _)
  have hf : ∀ j, W.frozen? ⟨w.heap.size, j, none⟩ = false := FD.out.c.free
  have g2 : w.heap.size + 1 + 1 ≠ w.heap.size := by omega
  have i0 : W.cell? ⟨w.heap.size + 1 + 1, 0, none⟩ = some (.int .i64 10) := FD.out.i.cell 0
  have i1 : W.cell? ⟨w.heap.size + 1 + 1, 1, none⟩ = some (.int .i64 a) := FD.out.i.cell 1
  have i3 : W.cell? ⟨w.heap.size + 1 + 1, 3, none⟩ = some (.int .i64 cc) := FD.out.i.cell 3
  have i4 : W.cell? ⟨w.heap.size + 1 + 1, 4, none⟩ = some (.int .i64 n) := FD.out.i.cell 4
  go_wp2_with fail
  go_quiet (first | (go_at_call 44; refine Calls.quiet_of_same ((RK.out _).mono (fun _ _ h => ⟨h.1, h.2.symm⟩))))
  have FD := Lib.hid (FD.out.drawn nq)
  clear i0 i1 i3 i4 qa qc q14 q16 q19 hf
  generalize hW2 : W.drewN nq = X at *
  clear hW2
  have HC := Lib.hid FD.out.c
  have HM := Lib.hid FD.out.m
  have HI := Lib.hid FD.out.i
  have R1 := Lib.hid FD.out.r1
  have R2 := Lib.hid FD.out.r2
  have BV := Lib.hid FD.out.bel
  clear FD
  go_wp2_with fail
  refine held_start 5 rfl (S := fun y => Whole y w.heap.size 38 C0 ∧ Whole y (w.heap.size + 1) 41 MC ∧ True) (by kernel_rfl) ⟨HC.out.drew', HM.out.drew', trivial⟩ (fun hS => ?_)
  refine wpAnyH_take (i := 0) (v := .agg C0) get0 ?_ ?_ ?_ ?_ ?_ hS ?_
  · kernel_rfl
  · kernel_rfl
  · kernel_rfl
  · exact fun _ _ _ h => h
  · exact take_load 38 (.tmp 3) rfl rfl (w.heap.size) rfl 38 C0 (fun _ h => h.1) _ Tryd.underlying38 rfl (infoCpu SZ0.out)
  refine wpAnyH_take (i := 2) (v := .agg MC) get2 ?_ ?_ ?_ ?_ ?_ hS ?_
  · kernel_rfl
  · kernel_rfl
  · kernel_rfl
  · exact fun _ _ _ h => h
  · exact take_load 41 (.tmp 4) rfl rfl ((w.heap.size + 1)) (eval_ne (by decide) rfl) 41 MC (fun _ h => h.2.1) _ Tryd.underlying41 rfl (infoMem SM.out)
  refine held_step get1 (by kernel_rfl) (fun K hK => ?_)
  refine step_call2 Tryd.func45 rfl rfl rfl rfl (.agg C0) (.int .u32 3) (eval_ne (by decide) (eval_at (n := 193) rfl (by decide))) rfl (CT.out _) ?_
  rintro e w1 ⟨rfl, hb1⟩
  refine ⟨_, rfl, ?_⟩
  have Z1 := Lib.hid (R1.out.drew'.below hb1 R1.out.lt)
  have Z2 := Lib.hid (R2.out.drew'.below hb1 R2.out.lt)
  have ZB := Lib.hid (BV.out.drew.trans (hb1.mono BV.out.size))
  refine hK.out _ _ ⟨hS.1.below hb1 HC.out.lt, hS.2.1.below hb1 HM.out.lt, trivial⟩ (fun hS2 => ?_)
  clear hK K hb1
  refine held_step get3 (by kernel_rfl) (fun K hK => ?_)
  refine step_store 38 (.tmp 6) (.tmp 65) rfl rfl (w.heap.size + 1 + 1 + 1) C2 (eval_ne (by decide) (eval_ne (by decide) (eval_ne (by decide) rfl))) (eval_at (n := 193) (size_put (size_put rfl)) (by decide)) 38 zeros38 Z1.out (infoCpu SZ.out) (by rw [SZ.out]; rfl) ONE.out ?_
  refine hK.out _ _ ⟨hS2.1.only (by omega) (Only.setRow _ (w.heap.size + 1 + 1 + 1) C2), hS2.2.1.only (by omega) (Only.setRow _ (w.heap.size + 1 + 1 + 1) C2), trivial⟩ (fun hS3 => ?_)
  clear hK K
  refine held_step get4 (by kernel_rfl) (fun K hK => ?_)
  refine step_store 41 (.tmp 7) (.tmp 66) rfl rfl (w.heap.size + 1 + 1 + 1 + 1) MC (eval_none (eval_ne (by decide) (eval_ne (by decide) (eval_ne (by decide) rfl)))) (eval_none (eval_ne (by decide) (eval_at (n := 193) (size_put rfl) (by decide)))) 41 zeros41 (Z2.out.only (by omega) (Only.setRow _ (w.heap.size + 1 + 1 + 1) C2)) (infoMem SM.out) (by rw [SM.out]; rfl) ONM.out ?_
  refine hK.out _ _ ⟨hS3.1.only (by omega) (Only.setRow _ (w.heap.size + 1 + 1 + 1 + 1) MC), hS3.2.1.only (by omega) (Only.setRow _ (w.heap.size + 1 + 1 + 1 + 1) MC), trivial⟩ (fun hS4 => ?_)
  clear hK K
  refine wpAnyH_done (by kernel_rfl) ?_ _
  go_wp2_with fail
  refine bodyPost_ret (v := .tuple #[.agg C2, .agg MC]) (results_two_rows2 rfl _ _ (w.heap.size + 1 + 1 + 1) (w.heap.size + 1 + 1 + 1 + 1) 38 41 C2 MC _ _ (eval_none (eval_none (eval_ne (by decide) (eval_ne (by decide) (eval_ne (by decide) rfl))))) (eval_none (eval_none (eval_ne (by decide) (eval_ne (by decide) (eval_ne (by decide) rfl))))) ((Z1.out.setRow C2).only (by omega) (Only.setRow _ (w.heap.size + 1 + 1 + 1 + 1) MC)) ((Z2.out.only (by omega) (Only.setRow _ (w.heap.size + 1 + 1 + 1) C2)).setRow MC) Tryd.underlying38 rfl (infoCpu SZ.out) Tryd.underlying41 rfl (infoMem SM.out)) rfl ⟨rfl, ((ZB.out.trans ((Only.setRow _ (w.heap.size + 1 + 1 + 1) C2).below (by omega) (by have := ZB.out.size; simpa using this))).trans ((Only.setRow _ (w.heap.size + 1 + 1 + 1 + 1) MC).below (by omega) (by have := ZB.out.size; simpa using this)))⟩

end Go.Proofs.YtinpdgjbiimgkaaDoor

/- The answers' do, by operation. -/
namespace Go.Proofs.YtinpdgjbiimgkaaDoor
open Go.ChangeShapes Go.WideShapes Go.ChangeAt Go.RowKit
set_option linter.unusedVariables false

set_option maxHeartbeats 8000000 in
set_option maxRecDepth 100000 in
theorem refdo_24 (a b cc : Nat) (n : Int) (c : Cp) (A1 A2 : Option Addr) (n1 k1 n2 k2 : Nat) (MC : Array Value) (w : World) (ha : a < 16) (hb : b < 16) (hcc : cc < 16) (ub : 0 ≤ (c.r.getD b 0) ∧ (c.r.getD b 0) ≤ 4294967295) (uc : 0 ≤ (c.r.getD cc 0) ∧ (c.r.getD cc 0) ≤ 4294967295) (hl : c.r.length = 16) (hm : MC.size = 6) (hm1 : MC.all (·.oneCell') = true) (ux : 0 ≤ (c.r.getD a 0) ∧ (c.r.getD a 0) ≤ 4294967295)  :
    Calls Tryd.prog 26 #[.agg (cpuCells c (.slice A1 n1 k1) (.slice A2 n2 k2)), .agg MC, .agg #[.int .i64 24, .int .i64 a, .int .i64 b, .int .i64 cc, .int .i64 n]] w fun e w' => e = .returned (.tuple #[.agg (cpuCells ({ c with pc := (c.r.getD a 0) }) (.slice A1 n1 k1) (.slice A2 n2 k2)), .agg MC]) ∧ Below w.heap.size w w' := by
  have F0 := fr_made w (cpuCells c (.slice A1 n1 k1) (.slice A2 n2 k2)) MC #[.int .i64 24, .int .i64 a, .int .i64 b, .int .i64 cc, .int .i64 n]
  unfold zeros38 zeros41 at F0
  have FH := Lib.hid F0
  have haI : (a : Int) < 16 := by omega
  have hbI : (b : Int) < 16 := by omega
  have hcI : (cc : Int) < 16 := by omega
  have SM := Lib.hid hm
  have ONM := Lib.hid hm1
  have HLN := Lib.hid hl
  have qa := (F0.c.cell a).trans (cpuCells_reg hl _ _ ha)
  have qb := (F0.c.cell b).trans (cpuCells_reg hl _ _ hb)
  have GA := Lib.hid (cpuCells_reg hl (.slice A1 n1 k1) (.slice A2 n2 k2) ha)
  have GB := Lib.hid (cpuCells_reg hl (.slice A1 n1 k1) (.slice A2 n2 k2) hb)
  have GC := Lib.hid (cpuCells_reg hl (.slice A1 n1 k1) (.slice A2 n2 k2) hcc)
  have CT := Lib.hid (fun w => refothers_24 a b cc n (c.r.getD a 0) c A1 A2 n1 k1 n2 k2 w ha hb ux hl)
  have SZ0 := Lib.hid (cpuCells_size hl (.slice A1 n1 k1) (.slice A2 n2 k2))
  clear F0 hm hm1 hl
  clear ux
  generalize (c.r.getD a 0) = ra at *
  generalize (c.r.getD b 0) = rb at *
  generalize (c.r.getD cc 0) = rc at *
  have hl2 : ({ c with pc := ra } : Cp).r.length = 16 := by first | exact HLN.out | exact trapC_len HLN.out | (show (List.set _ _ _).length = 16; rw [List.length_set]; exact HLN.out)
  have SZ := Lib.hid (cpuCells_size hl2 (.slice A1 n1 k1) (.slice A2 n2 k2))
  have ONE := Lib.hid (cpu_one ({ c with pc := ra }) (o := (.slice A1 n1 k1)) (i := (.slice A2 n2 k2)) rfl rfl)
  clear hl2
  generalize hC2 : cpuCells ({ c with pc := ra }) (.slice A1 n1 k1) (.slice A2 n2 k2) = C2 at *
  have CE := Lib.hid hC2
  clear hC2
  generalize hC0 : cpuCells c (.slice A1 n1 k1) (.slice A2 n2 k2) = C0 at *
  go_enter Tryd.func26, Tryd.ntmps26
  go_wp2_with fail
  go_quiet (fail)
  have FD := Lib.hid (FH.out.drawn nq)
  clear FH qa qb
  generalize ((((((w.alloc (.cells C0 38)).alloc (.cells MC 41)).alloc (.cells #[.int .i64 24, .int .i64 a, .int .i64 b, .int .i64 cc, .int .i64 n] 54)).alloc (.cells #[.int .u32 0, .int .u32 0, .int .u32 0, .int .u32 0, .int .u32 0, .int .u32 0, .int .u32 0, .int .u32 0, .int .u32 0, .int .u32 0, .int .u32 0, .int .u32 0, .int .u32 0, .int .u32 0, .int .u32 0, .int .u32 0, .int .u32 0, .int .u32 0, .int .u32 0, .int .i64 0, .int .i64 0, .int .i64 0, .int .i64 0, .slice none 0 0, .int .u32 0, .int .u32 0, .int .u32 0, .int .u32 0, .slice none 0 0] 38)).alloc (.cells #[.int .u32 0, .int .u32 0, .int .u32 0, .int .u32 0, .int .u32 0, .slice none 0 0] 41)).drewN nq) = W at *
  have i0 : W.cell? ⟨w.heap.size + 1 + 1, 0, none⟩ = some (.int .i64 24) := FD.out.i.cell 0
  have i4 : W.cell? ⟨w.heap.size + 1 + 1, 4, none⟩ = some (.int .i64 n) := FD.out.i.cell 4
  have q16 : W.cell? ⟨w.heap.size, 16, none⟩ = some (.int .u32 c.pc) := by subst hC0; exact (FD.out.c.cell 16).trans (cpuCells_pc HLN.out _ _)
  have HC := Lib.hid FD.out.c
  have HM := Lib.hid FD.out.m
  have HI := Lib.hid FD.out.i
  have R1 := Lib.hid FD.out.r1
  have R2 := Lib.hid FD.out.r2
  have BV := Lib.hid FD.out.bel
  clear FD
  go_wp2_with fail
  refine held_start 7 rfl (S := fun y => Whole y w.heap.size 38 C0 ∧ Whole y (w.heap.size + 1) 41 MC ∧ Whole y (w.heap.size + 1 + 1) 54 #[.int .i64 24, .int .i64 a, .int .i64 b, .int .i64 cc, .int .i64 n]) (by kernel_rfl) ⟨HC.out.drew', HM.out.drew', HI.out.drew'⟩ (fun hS => ?_)
  refine wpAnyH_take (i := 0) (v := .agg C0) get0 ?_ ?_ ?_ ?_ ?_ hS ?_
  · kernel_rfl
  · kernel_rfl
  · kernel_rfl
  · exact fun _ _ _ h => h
  · exact take_load 38 (.tmp 3) rfl rfl (w.heap.size) rfl 38 C0 (fun _ h => h.1) _ Tryd.underlying38 rfl (infoCpu SZ0.out)
  refine wpAnyH_take (i := 1) (v := .agg #[.int .i64 24, .int .i64 a, .int .i64 b, .int .i64 cc, .int .i64 n]) get1 ?_ ?_ ?_ ?_ ?_ hS ?_
  · kernel_rfl
  · kernel_rfl
  · kernel_rfl
  · exact fun _ _ _ h => h
  · exact take_load 54 (.tmp 5) rfl rfl (w.heap.size + 1 + 1) (eval_ne (by decide) rfl) 54 _ (fun _ h => h.2.2) _ Tryd.underlying54 rfl (infoI rfl)
  refine wpAnyH_take (i := 2) (v := .int .u32 ra) get2 ?_ ?_ ?_ ?_ ?_ hS ?_
  · kernel_rfl
  · kernel_rfl
  · kernel_rfl
  · exact fun _ _ _ h => h
  · exact take_slot (.tmp 8) rfl rfl (eval_ne (by decide) (eval_ne (by decide) rfl))
  refine wpAnyH_take (i := 4) (v := .agg MC) get4 ?_ ?_ ?_ ?_ ?_ hS ?_
  · kernel_rfl
  · kernel_rfl
  · kernel_rfl
  · exact fun _ _ _ h => h
  · exact take_load 41 (.tmp 4) rfl rfl ((w.heap.size + 1)) (eval_ne (by decide) (eval_ne (by decide) (eval_ne (by decide) rfl))) 41 MC (fun _ h => h.2.1) _ Tryd.underlying41 rfl (infoMem SM.out)
  refine held_step get3 (by kernel_rfl) (fun K hK => ?_)
  refine step_call3 Tryd.func47 rfl rfl rfl rfl (.agg C0) (.agg #[.int .i64 24, .int .i64 a, .int .i64 b, .int .i64 cc, .int .i64 n]) (.int .u32 ra) (eval_ne (by decide) (eval_ne (by decide) (eval_ne (by decide) (eval_at (n := 193) rfl (by decide))))) (eval_ne (by decide) (eval_ne (by decide) (eval_at (n := 193) (size_put rfl) (by decide)))) (eval_ne (by decide) (eval_at (n := 193) (size_put (size_put rfl)) (by decide))) (CT.out _) ?_
  rintro e w1 ⟨rfl, hb1⟩
  refine ⟨_, rfl, ?_⟩
  have Z1 := Lib.hid (R1.out.drew'.below hb1 R1.out.lt)
  have Z2 := Lib.hid (R2.out.drew'.below hb1 R2.out.lt)
  have ZB := Lib.hid (BV.out.drew.trans (hb1.mono BV.out.size))
  refine hK.out _ _ ⟨hS.1.below hb1 HC.out.lt, hS.2.1.below hb1 HM.out.lt, hS.2.2.below hb1 HI.out.lt⟩ (fun hS2 => ?_)
  clear hK K hb1
  refine held_step get5 (by kernel_rfl) (fun K hK => ?_)
  refine step_store 38 (.tmp 6) (.tmp 81) rfl rfl (w.heap.size + 1 + 1 + 1) C2 (eval_ne (by decide) (eval_ne (by decide) (eval_ne (by decide) (eval_ne (by decide) (eval_ne (by decide) rfl))))) (eval_at (n := 193) (size_put (size_put (size_put (size_put rfl)))) (by decide)) 38 zeros38 Z1.out (infoCpu SZ.out) (by rw [SZ.out]; rfl) ONE.out ?_
  refine hK.out _ _ ⟨hS2.1.only (by omega) (Only.setRow _ (w.heap.size + 1 + 1 + 1) C2), hS2.2.1.only (by omega) (Only.setRow _ (w.heap.size + 1 + 1 + 1) C2), hS2.2.2.only (by omega) (Only.setRow _ (w.heap.size + 1 + 1 + 1) C2)⟩ (fun hS3 => ?_)
  clear hK K
  refine held_step get6 (by kernel_rfl) (fun K hK => ?_)
  refine step_store 41 (.tmp 7) (.tmp 82) rfl rfl (w.heap.size + 1 + 1 + 1 + 1) MC (eval_none (eval_ne (by decide) (eval_ne (by decide) (eval_ne (by decide) (eval_ne (by decide) (eval_ne (by decide) rfl)))))) (eval_none (eval_ne (by decide) (eval_at (n := 193) (size_put (size_put (size_put rfl))) (by decide)))) 41 zeros41 (Z2.out.only (by omega) (Only.setRow _ (w.heap.size + 1 + 1 + 1) C2)) (infoMem SM.out) (by rw [SM.out]; rfl) ONM.out ?_
  refine hK.out _ _ ⟨hS3.1.only (by omega) (Only.setRow _ (w.heap.size + 1 + 1 + 1 + 1) MC), hS3.2.1.only (by omega) (Only.setRow _ (w.heap.size + 1 + 1 + 1 + 1) MC), hS3.2.2.only (by omega) (Only.setRow _ (w.heap.size + 1 + 1 + 1 + 1) MC)⟩ (fun hS4 => ?_)
  clear hK K
  refine wpAnyH_done (by kernel_rfl) ?_ _
  go_wp2_with fail
  refine bodyPost_ret (v := .tuple #[.agg C2, .agg MC]) (results_two_rows2 rfl _ _ (w.heap.size + 1 + 1 + 1) (w.heap.size + 1 + 1 + 1 + 1) 38 41 C2 MC _ _ (eval_none (eval_none (eval_ne (by decide) (eval_ne (by decide) (eval_ne (by decide) (eval_ne (by decide) (eval_ne (by decide) rfl))))))) (eval_none (eval_none (eval_ne (by decide) (eval_ne (by decide) (eval_ne (by decide) (eval_ne (by decide) (eval_ne (by decide) rfl))))))) ((Z1.out.setRow C2).only (by omega) (Only.setRow _ (w.heap.size + 1 + 1 + 1 + 1) MC)) ((Z2.out.only (by omega) (Only.setRow _ (w.heap.size + 1 + 1 + 1) C2)).setRow MC) Tryd.underlying38 rfl (infoCpu SZ.out) Tryd.underlying41 rfl (infoMem SM.out)) rfl ⟨rfl, ((ZB.out.trans ((Only.setRow _ (w.heap.size + 1 + 1 + 1) C2).below (by omega) (by have := ZB.out.size; simpa using this))).trans ((Only.setRow _ (w.heap.size + 1 + 1 + 1 + 1) MC).below (by omega) (by have := ZB.out.size; simpa using this)))⟩

set_option maxHeartbeats 8000000 in
set_option maxRecDepth 100000 in
theorem refdo_25 (a b cc : Nat) (n : Int) (c : Cp) (A1 A2 : Option Addr) (n1 k1 n2 k2 : Nat) (MC : Array Value) (w : World) (ha : a < 16) (hb : b < 16) (hcc : cc < 16) (ub : 0 ≤ (c.r.getD b 0) ∧ (c.r.getD b 0) ≤ 4294967295) (uc : 0 ≤ (c.r.getD cc 0) ∧ (c.r.getD cc 0) ≤ 4294967295) (hl : c.r.length = 16) (hm : MC.size = 6) (hm1 : MC.all (·.oneCell') = true) (ux : 0 ≤ (c.r.getD a 0) ∧ (c.r.getD a 0) ≤ 4294967295)  :
    Calls Tryd.prog 26 #[.agg (cpuCells c (.slice A1 n1 k1) (.slice A2 n2 k2)), .agg MC, .agg #[.int .i64 25, .int .i64 a, .int .i64 b, .int .i64 cc, .int .i64 n]] w fun e w' => e = .returned (.tuple #[.agg (cpuCells ({ c with r := c.r.set 14 (w32 (c.pc + 4)), pc := (c.r.getD a 0) }) (.slice A1 n1 k1) (.slice A2 n2 k2)), .agg MC]) ∧ Below w.heap.size w w' := by
  have F0 := fr_made w (cpuCells c (.slice A1 n1 k1) (.slice A2 n2 k2)) MC #[.int .i64 25, .int .i64 a, .int .i64 b, .int .i64 cc, .int .i64 n]
  unfold zeros38 zeros41 at F0
  have FH := Lib.hid F0
  have haI : (a : Int) < 16 := by omega
  have hbI : (b : Int) < 16 := by omega
  have hcI : (cc : Int) < 16 := by omega
  have SM := Lib.hid hm
  have ONM := Lib.hid hm1
  have HLN := Lib.hid hl
  have qa := (F0.c.cell a).trans (cpuCells_reg hl _ _ ha)
  have qb := (F0.c.cell b).trans (cpuCells_reg hl _ _ hb)
  have GA := Lib.hid (cpuCells_reg hl (.slice A1 n1 k1) (.slice A2 n2 k2) ha)
  have GB := Lib.hid (cpuCells_reg hl (.slice A1 n1 k1) (.slice A2 n2 k2) hb)
  have GC := Lib.hid (cpuCells_reg hl (.slice A1 n1 k1) (.slice A2 n2 k2) hcc)
  have CT := Lib.hid (fun w => refothers_25 a b cc n (c.r.getD a 0) c A1 A2 n1 k1 n2 k2 w ha hb ux hl)
  have SZ0 := Lib.hid (cpuCells_size hl (.slice A1 n1 k1) (.slice A2 n2 k2))
  clear F0 hm hm1 hl
  clear ux
  generalize (c.r.getD a 0) = ra at *
  generalize (c.r.getD b 0) = rb at *
  generalize (c.r.getD cc 0) = rc at *
  have hl2 : ({ c with r := c.r.set 14 (w32 (c.pc + 4)), pc := ra } : Cp).r.length = 16 := by first | exact HLN.out | exact trapC_len HLN.out | (show (List.set _ _ _).length = 16; rw [List.length_set]; exact HLN.out)
  have SZ := Lib.hid (cpuCells_size hl2 (.slice A1 n1 k1) (.slice A2 n2 k2))
  have ONE := Lib.hid (cpu_one ({ c with r := c.r.set 14 (w32 (c.pc + 4)), pc := ra }) (o := (.slice A1 n1 k1)) (i := (.slice A2 n2 k2)) rfl rfl)
  clear hl2
  generalize hC2 : cpuCells ({ c with r := c.r.set 14 (w32 (c.pc + 4)), pc := ra }) (.slice A1 n1 k1) (.slice A2 n2 k2) = C2 at *
  have CE := Lib.hid hC2
  clear hC2
  generalize hC0 : cpuCells c (.slice A1 n1 k1) (.slice A2 n2 k2) = C0 at *
  go_enter Tryd.func26, Tryd.ntmps26
  go_wp2_with fail
  go_quiet (fail)
  have FD := Lib.hid (FH.out.drawn nq)
  clear FH qa qb
  generalize ((((((w.alloc (.cells C0 38)).alloc (.cells MC 41)).alloc (.cells #[.int .i64 25, .int .i64 a, .int .i64 b, .int .i64 cc, .int .i64 n] 54)).alloc (.cells #[.int .u32 0, .int .u32 0, .int .u32 0, .int .u32 0, .int .u32 0, .int .u32 0, .int .u32 0, .int .u32 0, .int .u32 0, .int .u32 0, .int .u32 0, .int .u32 0, .int .u32 0, .int .u32 0, .int .u32 0, .int .u32 0, .int .u32 0, .int .u32 0, .int .u32 0, .int .i64 0, .int .i64 0, .int .i64 0, .int .i64 0, .slice none 0 0, .int .u32 0, .int .u32 0, .int .u32 0, .int .u32 0, .slice none 0 0] 38)).alloc (.cells #[.int .u32 0, .int .u32 0, .int .u32 0, .int .u32 0, .int .u32 0, .slice none 0 0] 41)).drewN nq) = W at *
  have i0 : W.cell? ⟨w.heap.size + 1 + 1, 0, none⟩ = some (.int .i64 25) := FD.out.i.cell 0
  have i4 : W.cell? ⟨w.heap.size + 1 + 1, 4, none⟩ = some (.int .i64 n) := FD.out.i.cell 4
  have q16 : W.cell? ⟨w.heap.size, 16, none⟩ = some (.int .u32 c.pc) := by subst hC0; exact (FD.out.c.cell 16).trans (cpuCells_pc HLN.out _ _)
  have HC := Lib.hid FD.out.c
  have HM := Lib.hid FD.out.m
  have HI := Lib.hid FD.out.i
  have R1 := Lib.hid FD.out.r1
  have R2 := Lib.hid FD.out.r2
  have BV := Lib.hid FD.out.bel
  clear FD
  go_wp2_with fail
  refine held_start 7 rfl (S := fun y => Whole y w.heap.size 38 C0 ∧ Whole y (w.heap.size + 1) 41 MC ∧ Whole y (w.heap.size + 1 + 1) 54 #[.int .i64 25, .int .i64 a, .int .i64 b, .int .i64 cc, .int .i64 n]) (by kernel_rfl) ⟨HC.out.drew', HM.out.drew', HI.out.drew'⟩ (fun hS => ?_)
  refine wpAnyH_take (i := 0) (v := .agg C0) get0 ?_ ?_ ?_ ?_ ?_ hS ?_
  · kernel_rfl
  · kernel_rfl
  · kernel_rfl
  · exact fun _ _ _ h => h
  · exact take_load 38 (.tmp 3) rfl rfl (w.heap.size) rfl 38 C0 (fun _ h => h.1) _ Tryd.underlying38 rfl (infoCpu SZ0.out)
  refine wpAnyH_take (i := 1) (v := .agg #[.int .i64 25, .int .i64 a, .int .i64 b, .int .i64 cc, .int .i64 n]) get1 ?_ ?_ ?_ ?_ ?_ hS ?_
  · kernel_rfl
  · kernel_rfl
  · kernel_rfl
  · exact fun _ _ _ h => h
  · exact take_load 54 (.tmp 5) rfl rfl (w.heap.size + 1 + 1) (eval_ne (by decide) rfl) 54 _ (fun _ h => h.2.2) _ Tryd.underlying54 rfl (infoI rfl)
  refine wpAnyH_take (i := 2) (v := .int .u32 ra) get2 ?_ ?_ ?_ ?_ ?_ hS ?_
  · kernel_rfl
  · kernel_rfl
  · kernel_rfl
  · exact fun _ _ _ h => h
  · exact take_slot (.tmp 8) rfl rfl (eval_ne (by decide) (eval_ne (by decide) rfl))
  refine wpAnyH_take (i := 4) (v := .agg MC) get4 ?_ ?_ ?_ ?_ ?_ hS ?_
  · kernel_rfl
  · kernel_rfl
  · kernel_rfl
  · exact fun _ _ _ h => h
  · exact take_load 41 (.tmp 4) rfl rfl ((w.heap.size + 1)) (eval_ne (by decide) (eval_ne (by decide) (eval_ne (by decide) rfl))) 41 MC (fun _ h => h.2.1) _ Tryd.underlying41 rfl (infoMem SM.out)
  refine held_step get3 (by kernel_rfl) (fun K hK => ?_)
  refine step_call3 Tryd.func47 rfl rfl rfl rfl (.agg C0) (.agg #[.int .i64 25, .int .i64 a, .int .i64 b, .int .i64 cc, .int .i64 n]) (.int .u32 ra) (eval_ne (by decide) (eval_ne (by decide) (eval_ne (by decide) (eval_at (n := 193) rfl (by decide))))) (eval_ne (by decide) (eval_ne (by decide) (eval_at (n := 193) (size_put rfl) (by decide)))) (eval_ne (by decide) (eval_at (n := 193) (size_put (size_put rfl)) (by decide))) (CT.out _) ?_
  rintro e w1 ⟨rfl, hb1⟩
  refine ⟨_, rfl, ?_⟩
  have Z1 := Lib.hid (R1.out.drew'.below hb1 R1.out.lt)
  have Z2 := Lib.hid (R2.out.drew'.below hb1 R2.out.lt)
  have ZB := Lib.hid (BV.out.drew.trans (hb1.mono BV.out.size))
  refine hK.out _ _ ⟨hS.1.below hb1 HC.out.lt, hS.2.1.below hb1 HM.out.lt, hS.2.2.below hb1 HI.out.lt⟩ (fun hS2 => ?_)
  clear hK K hb1
  refine held_step get5 (by kernel_rfl) (fun K hK => ?_)
  refine step_store 38 (.tmp 6) (.tmp 81) rfl rfl (w.heap.size + 1 + 1 + 1) C2 (eval_ne (by decide) (eval_ne (by decide) (eval_ne (by decide) (eval_ne (by decide) (eval_ne (by decide) rfl))))) (eval_at (n := 193) (size_put (size_put (size_put (size_put rfl)))) (by decide)) 38 zeros38 Z1.out (infoCpu SZ.out) (by rw [SZ.out]; rfl) ONE.out ?_
  refine hK.out _ _ ⟨hS2.1.only (by omega) (Only.setRow _ (w.heap.size + 1 + 1 + 1) C2), hS2.2.1.only (by omega) (Only.setRow _ (w.heap.size + 1 + 1 + 1) C2), hS2.2.2.only (by omega) (Only.setRow _ (w.heap.size + 1 + 1 + 1) C2)⟩ (fun hS3 => ?_)
  clear hK K
  refine held_step get6 (by kernel_rfl) (fun K hK => ?_)
  refine step_store 41 (.tmp 7) (.tmp 82) rfl rfl (w.heap.size + 1 + 1 + 1 + 1) MC (eval_none (eval_ne (by decide) (eval_ne (by decide) (eval_ne (by decide) (eval_ne (by decide) (eval_ne (by decide) rfl)))))) (eval_none (eval_ne (by decide) (eval_at (n := 193) (size_put (size_put (size_put rfl))) (by decide)))) 41 zeros41 (Z2.out.only (by omega) (Only.setRow _ (w.heap.size + 1 + 1 + 1) C2)) (infoMem SM.out) (by rw [SM.out]; rfl) ONM.out ?_
  refine hK.out _ _ ⟨hS3.1.only (by omega) (Only.setRow _ (w.heap.size + 1 + 1 + 1 + 1) MC), hS3.2.1.only (by omega) (Only.setRow _ (w.heap.size + 1 + 1 + 1 + 1) MC), hS3.2.2.only (by omega) (Only.setRow _ (w.heap.size + 1 + 1 + 1 + 1) MC)⟩ (fun hS4 => ?_)
  clear hK K
  refine wpAnyH_done (by kernel_rfl) ?_ _
  go_wp2_with fail
  refine bodyPost_ret (v := .tuple #[.agg C2, .agg MC]) (results_two_rows2 rfl _ _ (w.heap.size + 1 + 1 + 1) (w.heap.size + 1 + 1 + 1 + 1) 38 41 C2 MC _ _ (eval_none (eval_none (eval_ne (by decide) (eval_ne (by decide) (eval_ne (by decide) (eval_ne (by decide) (eval_ne (by decide) rfl))))))) (eval_none (eval_none (eval_ne (by decide) (eval_ne (by decide) (eval_ne (by decide) (eval_ne (by decide) (eval_ne (by decide) rfl))))))) ((Z1.out.setRow C2).only (by omega) (Only.setRow _ (w.heap.size + 1 + 1 + 1 + 1) MC)) ((Z2.out.only (by omega) (Only.setRow _ (w.heap.size + 1 + 1 + 1) C2)).setRow MC) Tryd.underlying38 rfl (infoCpu SZ.out) Tryd.underlying41 rfl (infoMem SM.out)) rfl ⟨rfl, ((ZB.out.trans ((Only.setRow _ (w.heap.size + 1 + 1 + 1) C2).below (by omega) (by have := ZB.out.size; simpa using this))).trans ((Only.setRow _ (w.heap.size + 1 + 1 + 1 + 1) MC).below (by omega) (by have := ZB.out.size; simpa using this)))⟩

set_option maxHeartbeats 8000000 in
set_option maxRecDepth 100000 in
theorem refdo_26_pass (a b cc : Nat) (n : Int) (c : Cp) (A1 A2 : Option Addr) (n1 k1 n2 k2 : Nat) (MC : Array Value) (w : World) (ha : a < 16) (hb : b < 16) (hcc : cc < 16) (ub : 0 ≤ (c.r.getD b 0) ∧ (c.r.getD b 0) ≤ 4294967295) (uc : 0 ≤ (c.r.getD cc 0) ∧ (c.r.getD cc 0) ≤ 4294967295) (hl : c.r.length = 16) (hm : MC.size = 6) (hm1 : MC.all (·.oneCell') = true) (ux : 0 ≤ (c.r.getD a 0) ∧ (c.r.getD a 0) ≤ 4294967295) (hd : decide (n % 4294967296 ≤ (c.r.getD a 0)) = false) :
    Calls Tryd.prog 26 #[.agg (cpuCells c (.slice A1 n1 k1) (.slice A2 n2 k2)), .agg MC, .agg #[.int .i64 26, .int .i64 a, .int .i64 b, .int .i64 cc, .int .i64 n]] w fun e w' => e = .returned (.tuple #[.agg (cpuCells (passC c) (.slice A1 n1 k1) (.slice A2 n2 k2)), .agg MC]) ∧ Below w.heap.size w w' := by
  have F0 := fr_made w (cpuCells c (.slice A1 n1 k1) (.slice A2 n2 k2)) MC #[.int .i64 26, .int .i64 a, .int .i64 b, .int .i64 cc, .int .i64 n]
  unfold zeros38 zeros41 at F0
  have FH := Lib.hid F0
  have haI : (a : Int) < 16 := by omega
  have hbI : (b : Int) < 16 := by omega
  have hcI : (cc : Int) < 16 := by omega
  have SM := Lib.hid hm
  have ONM := Lib.hid hm1
  have HLN := Lib.hid hl
  have qa := (F0.c.cell a).trans (cpuCells_reg hl _ _ ha)
  have qb := (F0.c.cell b).trans (cpuCells_reg hl _ _ hb)
  have GA := Lib.hid (cpuCells_reg hl (.slice A1 n1 k1) (.slice A2 n2 k2) ha)
  have GB := Lib.hid (cpuCells_reg hl (.slice A1 n1 k1) (.slice A2 n2 k2) hb)
  have GC := Lib.hid (cpuCells_reg hl (.slice A1 n1 k1) (.slice A2 n2 k2) hcc)
  have CT := Lib.hid (fun w => refothers_26_pass a b cc n (c.r.getD a 0) c A1 A2 n1 k1 n2 k2 w ha hb ux hl hd)
  have SZ0 := Lib.hid (cpuCells_size hl (.slice A1 n1 k1) (.slice A2 n2 k2))
  clear F0 hm hm1 hl
  clear ux
  generalize (c.r.getD a 0) = ra at *
  generalize (c.r.getD b 0) = rb at *
  generalize (c.r.getD cc 0) = rc at *
  have hl2 : (passC c : Cp).r.length = 16 := by first | exact HLN.out | exact trapC_len HLN.out | (show (List.set _ _ _).length = 16; rw [List.length_set]; exact HLN.out)
  have SZ := Lib.hid (cpuCells_size hl2 (.slice A1 n1 k1) (.slice A2 n2 k2))
  have ONE := Lib.hid (cpu_one (passC c) (o := (.slice A1 n1 k1)) (i := (.slice A2 n2 k2)) rfl rfl)
  clear hl2
  generalize hC2 : cpuCells (passC c) (.slice A1 n1 k1) (.slice A2 n2 k2) = C2 at *
  have CE := Lib.hid hC2
  clear hC2
  clear hd
  generalize hC0 : cpuCells c (.slice A1 n1 k1) (.slice A2 n2 k2) = C0 at *
  go_enter Tryd.func26, Tryd.ntmps26
  go_wp2_with fail
  go_quiet (fail)
  have FD := Lib.hid (FH.out.drawn nq)
  clear FH qa qb
  generalize ((((((w.alloc (.cells C0 38)).alloc (.cells MC 41)).alloc (.cells #[.int .i64 26, .int .i64 a, .int .i64 b, .int .i64 cc, .int .i64 n] 54)).alloc (.cells #[.int .u32 0, .int .u32 0, .int .u32 0, .int .u32 0, .int .u32 0, .int .u32 0, .int .u32 0, .int .u32 0, .int .u32 0, .int .u32 0, .int .u32 0, .int .u32 0, .int .u32 0, .int .u32 0, .int .u32 0, .int .u32 0, .int .u32 0, .int .u32 0, .int .u32 0, .int .i64 0, .int .i64 0, .int .i64 0, .int .i64 0, .slice none 0 0, .int .u32 0, .int .u32 0, .int .u32 0, .int .u32 0, .slice none 0 0] 38)).alloc (.cells #[.int .u32 0, .int .u32 0, .int .u32 0, .int .u32 0, .int .u32 0, .slice none 0 0] 41)).drewN nq) = W at *
  have i0 : W.cell? ⟨w.heap.size + 1 + 1, 0, none⟩ = some (.int .i64 26) := FD.out.i.cell 0
  have i4 : W.cell? ⟨w.heap.size + 1 + 1, 4, none⟩ = some (.int .i64 n) := FD.out.i.cell 4
  have q16 : W.cell? ⟨w.heap.size, 16, none⟩ = some (.int .u32 c.pc) := by subst hC0; exact (FD.out.c.cell 16).trans (cpuCells_pc HLN.out _ _)
  have HC := Lib.hid FD.out.c
  have HM := Lib.hid FD.out.m
  have HI := Lib.hid FD.out.i
  have R1 := Lib.hid FD.out.r1
  have R2 := Lib.hid FD.out.r2
  have BV := Lib.hid FD.out.bel
  clear FD
  go_wp2_with fail
  refine held_start 7 rfl (S := fun y => Whole y w.heap.size 38 C0 ∧ Whole y (w.heap.size + 1) 41 MC ∧ Whole y (w.heap.size + 1 + 1) 54 #[.int .i64 26, .int .i64 a, .int .i64 b, .int .i64 cc, .int .i64 n]) (by kernel_rfl) ⟨HC.out.drew', HM.out.drew', HI.out.drew'⟩ (fun hS => ?_)
  refine wpAnyH_take (i := 0) (v := .agg C0) get0 ?_ ?_ ?_ ?_ ?_ hS ?_
  · kernel_rfl
  · kernel_rfl
  · kernel_rfl
  · exact fun _ _ _ h => h
  · exact take_load 38 (.tmp 3) rfl rfl (w.heap.size) rfl 38 C0 (fun _ h => h.1) _ Tryd.underlying38 rfl (infoCpu SZ0.out)
  refine wpAnyH_take (i := 1) (v := .agg #[.int .i64 26, .int .i64 a, .int .i64 b, .int .i64 cc, .int .i64 n]) get1 ?_ ?_ ?_ ?_ ?_ hS ?_
  · kernel_rfl
  · kernel_rfl
  · kernel_rfl
  · exact fun _ _ _ h => h
  · exact take_load 54 (.tmp 5) rfl rfl (w.heap.size + 1 + 1) (eval_ne (by decide) rfl) 54 _ (fun _ h => h.2.2) _ Tryd.underlying54 rfl (infoI rfl)
  refine wpAnyH_take (i := 2) (v := .int .u32 ra) get2 ?_ ?_ ?_ ?_ ?_ hS ?_
  · kernel_rfl
  · kernel_rfl
  · kernel_rfl
  · exact fun _ _ _ h => h
  · exact take_slot (.tmp 8) rfl rfl (eval_ne (by decide) (eval_ne (by decide) rfl))
  refine wpAnyH_take (i := 4) (v := .agg MC) get4 ?_ ?_ ?_ ?_ ?_ hS ?_
  · kernel_rfl
  · kernel_rfl
  · kernel_rfl
  · exact fun _ _ _ h => h
  · exact take_load 41 (.tmp 4) rfl rfl ((w.heap.size + 1)) (eval_ne (by decide) (eval_ne (by decide) (eval_ne (by decide) rfl))) 41 MC (fun _ h => h.2.1) _ Tryd.underlying41 rfl (infoMem SM.out)
  refine held_step get3 (by kernel_rfl) (fun K hK => ?_)
  refine step_call3 Tryd.func47 rfl rfl rfl rfl (.agg C0) (.agg #[.int .i64 26, .int .i64 a, .int .i64 b, .int .i64 cc, .int .i64 n]) (.int .u32 ra) (eval_ne (by decide) (eval_ne (by decide) (eval_ne (by decide) (eval_at (n := 193) rfl (by decide))))) (eval_ne (by decide) (eval_ne (by decide) (eval_at (n := 193) (size_put rfl) (by decide)))) (eval_ne (by decide) (eval_at (n := 193) (size_put (size_put rfl)) (by decide))) (CT.out _) ?_
  rintro e w1 ⟨rfl, hb1⟩
  refine ⟨_, rfl, ?_⟩
  have Z1 := Lib.hid (R1.out.drew'.below hb1 R1.out.lt)
  have Z2 := Lib.hid (R2.out.drew'.below hb1 R2.out.lt)
  have ZB := Lib.hid (BV.out.drew.trans (hb1.mono BV.out.size))
  refine hK.out _ _ ⟨hS.1.below hb1 HC.out.lt, hS.2.1.below hb1 HM.out.lt, hS.2.2.below hb1 HI.out.lt⟩ (fun hS2 => ?_)
  clear hK K hb1
  refine held_step get5 (by kernel_rfl) (fun K hK => ?_)
  refine step_store 38 (.tmp 6) (.tmp 81) rfl rfl (w.heap.size + 1 + 1 + 1) C2 (eval_ne (by decide) (eval_ne (by decide) (eval_ne (by decide) (eval_ne (by decide) (eval_ne (by decide) rfl))))) (eval_at (n := 193) (size_put (size_put (size_put (size_put rfl)))) (by decide)) 38 zeros38 Z1.out (infoCpu SZ.out) (by rw [SZ.out]; rfl) ONE.out ?_
  refine hK.out _ _ ⟨hS2.1.only (by omega) (Only.setRow _ (w.heap.size + 1 + 1 + 1) C2), hS2.2.1.only (by omega) (Only.setRow _ (w.heap.size + 1 + 1 + 1) C2), hS2.2.2.only (by omega) (Only.setRow _ (w.heap.size + 1 + 1 + 1) C2)⟩ (fun hS3 => ?_)
  clear hK K
  refine held_step get6 (by kernel_rfl) (fun K hK => ?_)
  refine step_store 41 (.tmp 7) (.tmp 82) rfl rfl (w.heap.size + 1 + 1 + 1 + 1) MC (eval_none (eval_ne (by decide) (eval_ne (by decide) (eval_ne (by decide) (eval_ne (by decide) (eval_ne (by decide) rfl)))))) (eval_none (eval_ne (by decide) (eval_at (n := 193) (size_put (size_put (size_put rfl))) (by decide)))) 41 zeros41 (Z2.out.only (by omega) (Only.setRow _ (w.heap.size + 1 + 1 + 1) C2)) (infoMem SM.out) (by rw [SM.out]; rfl) ONM.out ?_
  refine hK.out _ _ ⟨hS3.1.only (by omega) (Only.setRow _ (w.heap.size + 1 + 1 + 1 + 1) MC), hS3.2.1.only (by omega) (Only.setRow _ (w.heap.size + 1 + 1 + 1 + 1) MC), hS3.2.2.only (by omega) (Only.setRow _ (w.heap.size + 1 + 1 + 1 + 1) MC)⟩ (fun hS4 => ?_)
  clear hK K
  refine wpAnyH_done (by kernel_rfl) ?_ _
  go_wp2_with fail
  refine bodyPost_ret (v := .tuple #[.agg C2, .agg MC]) (results_two_rows2 rfl _ _ (w.heap.size + 1 + 1 + 1) (w.heap.size + 1 + 1 + 1 + 1) 38 41 C2 MC _ _ (eval_none (eval_none (eval_ne (by decide) (eval_ne (by decide) (eval_ne (by decide) (eval_ne (by decide) (eval_ne (by decide) rfl))))))) (eval_none (eval_none (eval_ne (by decide) (eval_ne (by decide) (eval_ne (by decide) (eval_ne (by decide) (eval_ne (by decide) rfl))))))) ((Z1.out.setRow C2).only (by omega) (Only.setRow _ (w.heap.size + 1 + 1 + 1 + 1) MC)) ((Z2.out.only (by omega) (Only.setRow _ (w.heap.size + 1 + 1 + 1) C2)).setRow MC) Tryd.underlying38 rfl (infoCpu SZ.out) Tryd.underlying41 rfl (infoMem SM.out)) rfl ⟨rfl, ((ZB.out.trans ((Only.setRow _ (w.heap.size + 1 + 1 + 1) C2).below (by omega) (by have := ZB.out.size; simpa using this))).trans ((Only.setRow _ (w.heap.size + 1 + 1 + 1 + 1) MC).below (by omega) (by have := ZB.out.size; simpa using this)))⟩

set_option maxHeartbeats 8000000 in
set_option maxRecDepth 100000 in
theorem refdo_26_trap (a b cc : Nat) (n : Int) (c : Cp) (A1 A2 : Option Addr) (n1 k1 n2 k2 : Nat) (MC : Array Value) (w : World) (ha : a < 16) (hb : b < 16) (hcc : cc < 16) (ub : 0 ≤ (c.r.getD b 0) ∧ (c.r.getD b 0) ≤ 4294967295) (uc : 0 ≤ (c.r.getD cc 0) ∧ (c.r.getD cc 0) ≤ 4294967295) (hl : c.r.length = 16) (hm : MC.size = 6) (hm1 : MC.all (·.oneCell') = true) (ux : 0 ≤ (c.r.getD a 0) ∧ (c.r.getD a 0) ≤ 4294967295) (hd : decide (n % 4294967296 ≤ (c.r.getD a 0)) = true) :
    Calls Tryd.prog 26 #[.agg (cpuCells c (.slice A1 n1 k1) (.slice A2 n2 k2)), .agg MC, .agg #[.int .i64 26, .int .i64 a, .int .i64 b, .int .i64 cc, .int .i64 n]] w fun e w' => e = .returned (.tuple #[.agg (cpuCells (trapC c b) (.slice A1 n1 k1) (.slice A2 n2 k2)), .agg MC]) ∧ Below w.heap.size w w' := by
  have F0 := fr_made w (cpuCells c (.slice A1 n1 k1) (.slice A2 n2 k2)) MC #[.int .i64 26, .int .i64 a, .int .i64 b, .int .i64 cc, .int .i64 n]
  unfold zeros38 zeros41 at F0
  have FH := Lib.hid F0
  have haI : (a : Int) < 16 := by omega
  have hbI : (b : Int) < 16 := by omega
  have hcI : (cc : Int) < 16 := by omega
  have SM := Lib.hid hm
  have ONM := Lib.hid hm1
  have HLN := Lib.hid hl
  have qa := (F0.c.cell a).trans (cpuCells_reg hl _ _ ha)
  have qb := (F0.c.cell b).trans (cpuCells_reg hl _ _ hb)
  have GA := Lib.hid (cpuCells_reg hl (.slice A1 n1 k1) (.slice A2 n2 k2) ha)
  have GB := Lib.hid (cpuCells_reg hl (.slice A1 n1 k1) (.slice A2 n2 k2) hb)
  have GC := Lib.hid (cpuCells_reg hl (.slice A1 n1 k1) (.slice A2 n2 k2) hcc)
  have CT := Lib.hid (fun w => refothers_26_trap a b cc n (c.r.getD a 0) c A1 A2 n1 k1 n2 k2 w ha hb ux hl hd)
  have SZ0 := Lib.hid (cpuCells_size hl (.slice A1 n1 k1) (.slice A2 n2 k2))
  clear F0 hm hm1 hl
  clear ux
  generalize (c.r.getD a 0) = ra at *
  generalize (c.r.getD b 0) = rb at *
  generalize (c.r.getD cc 0) = rc at *
  have hl2 : (trapC c b : Cp).r.length = 16 := by first | exact HLN.out | exact trapC_len HLN.out | (show (List.set _ _ _).length = 16; rw [List.length_set]; exact HLN.out)
  have SZ := Lib.hid (cpuCells_size hl2 (.slice A1 n1 k1) (.slice A2 n2 k2))
  have ONE := Lib.hid (cpu_one (trapC c b) (o := (.slice A1 n1 k1)) (i := (.slice A2 n2 k2)) rfl rfl)
  clear hl2
  generalize hC2 : cpuCells (trapC c b) (.slice A1 n1 k1) (.slice A2 n2 k2) = C2 at *
  have CE := Lib.hid hC2
  clear hC2
  clear hd
  generalize hC0 : cpuCells c (.slice A1 n1 k1) (.slice A2 n2 k2) = C0 at *
  go_enter Tryd.func26, Tryd.ntmps26
  go_wp2_with fail
  go_quiet (fail)
  have FD := Lib.hid (FH.out.drawn nq)
  clear FH qa qb
  generalize ((((((w.alloc (.cells C0 38)).alloc (.cells MC 41)).alloc (.cells #[.int .i64 26, .int .i64 a, .int .i64 b, .int .i64 cc, .int .i64 n] 54)).alloc (.cells #[.int .u32 0, .int .u32 0, .int .u32 0, .int .u32 0, .int .u32 0, .int .u32 0, .int .u32 0, .int .u32 0, .int .u32 0, .int .u32 0, .int .u32 0, .int .u32 0, .int .u32 0, .int .u32 0, .int .u32 0, .int .u32 0, .int .u32 0, .int .u32 0, .int .u32 0, .int .i64 0, .int .i64 0, .int .i64 0, .int .i64 0, .slice none 0 0, .int .u32 0, .int .u32 0, .int .u32 0, .int .u32 0, .slice none 0 0] 38)).alloc (.cells #[.int .u32 0, .int .u32 0, .int .u32 0, .int .u32 0, .int .u32 0, .slice none 0 0] 41)).drewN nq) = W at *
  have i0 : W.cell? ⟨w.heap.size + 1 + 1, 0, none⟩ = some (.int .i64 26) := FD.out.i.cell 0
  have i4 : W.cell? ⟨w.heap.size + 1 + 1, 4, none⟩ = some (.int .i64 n) := FD.out.i.cell 4
  have q16 : W.cell? ⟨w.heap.size, 16, none⟩ = some (.int .u32 c.pc) := by subst hC0; exact (FD.out.c.cell 16).trans (cpuCells_pc HLN.out _ _)
  have HC := Lib.hid FD.out.c
  have HM := Lib.hid FD.out.m
  have HI := Lib.hid FD.out.i
  have R1 := Lib.hid FD.out.r1
  have R2 := Lib.hid FD.out.r2
  have BV := Lib.hid FD.out.bel
  clear FD
  go_wp2_with fail
  refine held_start 7 rfl (S := fun y => Whole y w.heap.size 38 C0 ∧ Whole y (w.heap.size + 1) 41 MC ∧ Whole y (w.heap.size + 1 + 1) 54 #[.int .i64 26, .int .i64 a, .int .i64 b, .int .i64 cc, .int .i64 n]) (by kernel_rfl) ⟨HC.out.drew', HM.out.drew', HI.out.drew'⟩ (fun hS => ?_)
  refine wpAnyH_take (i := 0) (v := .agg C0) get0 ?_ ?_ ?_ ?_ ?_ hS ?_
  · kernel_rfl
  · kernel_rfl
  · kernel_rfl
  · exact fun _ _ _ h => h
  · exact take_load 38 (.tmp 3) rfl rfl (w.heap.size) rfl 38 C0 (fun _ h => h.1) _ Tryd.underlying38 rfl (infoCpu SZ0.out)
  refine wpAnyH_take (i := 1) (v := .agg #[.int .i64 26, .int .i64 a, .int .i64 b, .int .i64 cc, .int .i64 n]) get1 ?_ ?_ ?_ ?_ ?_ hS ?_
  · kernel_rfl
  · kernel_rfl
  · kernel_rfl
  · exact fun _ _ _ h => h
  · exact take_load 54 (.tmp 5) rfl rfl (w.heap.size + 1 + 1) (eval_ne (by decide) rfl) 54 _ (fun _ h => h.2.2) _ Tryd.underlying54 rfl (infoI rfl)
  refine wpAnyH_take (i := 2) (v := .int .u32 ra) get2 ?_ ?_ ?_ ?_ ?_ hS ?_
  · kernel_rfl
  · kernel_rfl
  · kernel_rfl
  · exact fun _ _ _ h => h
  · exact take_slot (.tmp 8) rfl rfl (eval_ne (by decide) (eval_ne (by decide) rfl))
  refine wpAnyH_take (i := 4) (v := .agg MC) get4 ?_ ?_ ?_ ?_ ?_ hS ?_
  · kernel_rfl
  · kernel_rfl
  · kernel_rfl
  · exact fun _ _ _ h => h
  · exact take_load 41 (.tmp 4) rfl rfl ((w.heap.size + 1)) (eval_ne (by decide) (eval_ne (by decide) (eval_ne (by decide) rfl))) 41 MC (fun _ h => h.2.1) _ Tryd.underlying41 rfl (infoMem SM.out)
  refine held_step get3 (by kernel_rfl) (fun K hK => ?_)
  refine step_call3 Tryd.func47 rfl rfl rfl rfl (.agg C0) (.agg #[.int .i64 26, .int .i64 a, .int .i64 b, .int .i64 cc, .int .i64 n]) (.int .u32 ra) (eval_ne (by decide) (eval_ne (by decide) (eval_ne (by decide) (eval_at (n := 193) rfl (by decide))))) (eval_ne (by decide) (eval_ne (by decide) (eval_at (n := 193) (size_put rfl) (by decide)))) (eval_ne (by decide) (eval_at (n := 193) (size_put (size_put rfl)) (by decide))) (CT.out _) ?_
  rintro e w1 ⟨rfl, hb1⟩
  refine ⟨_, rfl, ?_⟩
  have Z1 := Lib.hid (R1.out.drew'.below hb1 R1.out.lt)
  have Z2 := Lib.hid (R2.out.drew'.below hb1 R2.out.lt)
  have ZB := Lib.hid (BV.out.drew.trans (hb1.mono BV.out.size))
  refine hK.out _ _ ⟨hS.1.below hb1 HC.out.lt, hS.2.1.below hb1 HM.out.lt, hS.2.2.below hb1 HI.out.lt⟩ (fun hS2 => ?_)
  clear hK K hb1
  refine held_step get5 (by kernel_rfl) (fun K hK => ?_)
  refine step_store 38 (.tmp 6) (.tmp 81) rfl rfl (w.heap.size + 1 + 1 + 1) C2 (eval_ne (by decide) (eval_ne (by decide) (eval_ne (by decide) (eval_ne (by decide) (eval_ne (by decide) rfl))))) (eval_at (n := 193) (size_put (size_put (size_put (size_put rfl)))) (by decide)) 38 zeros38 Z1.out (infoCpu SZ.out) (by rw [SZ.out]; rfl) ONE.out ?_
  refine hK.out _ _ ⟨hS2.1.only (by omega) (Only.setRow _ (w.heap.size + 1 + 1 + 1) C2), hS2.2.1.only (by omega) (Only.setRow _ (w.heap.size + 1 + 1 + 1) C2), hS2.2.2.only (by omega) (Only.setRow _ (w.heap.size + 1 + 1 + 1) C2)⟩ (fun hS3 => ?_)
  clear hK K
  refine held_step get6 (by kernel_rfl) (fun K hK => ?_)
  refine step_store 41 (.tmp 7) (.tmp 82) rfl rfl (w.heap.size + 1 + 1 + 1 + 1) MC (eval_none (eval_ne (by decide) (eval_ne (by decide) (eval_ne (by decide) (eval_ne (by decide) (eval_ne (by decide) rfl)))))) (eval_none (eval_ne (by decide) (eval_at (n := 193) (size_put (size_put (size_put rfl))) (by decide)))) 41 zeros41 (Z2.out.only (by omega) (Only.setRow _ (w.heap.size + 1 + 1 + 1) C2)) (infoMem SM.out) (by rw [SM.out]; rfl) ONM.out ?_
  refine hK.out _ _ ⟨hS3.1.only (by omega) (Only.setRow _ (w.heap.size + 1 + 1 + 1 + 1) MC), hS3.2.1.only (by omega) (Only.setRow _ (w.heap.size + 1 + 1 + 1 + 1) MC), hS3.2.2.only (by omega) (Only.setRow _ (w.heap.size + 1 + 1 + 1 + 1) MC)⟩ (fun hS4 => ?_)
  clear hK K
  refine wpAnyH_done (by kernel_rfl) ?_ _
  go_wp2_with fail
  refine bodyPost_ret (v := .tuple #[.agg C2, .agg MC]) (results_two_rows2 rfl _ _ (w.heap.size + 1 + 1 + 1) (w.heap.size + 1 + 1 + 1 + 1) 38 41 C2 MC _ _ (eval_none (eval_none (eval_ne (by decide) (eval_ne (by decide) (eval_ne (by decide) (eval_ne (by decide) (eval_ne (by decide) rfl))))))) (eval_none (eval_none (eval_ne (by decide) (eval_ne (by decide) (eval_ne (by decide) (eval_ne (by decide) (eval_ne (by decide) rfl))))))) ((Z1.out.setRow C2).only (by omega) (Only.setRow _ (w.heap.size + 1 + 1 + 1 + 1) MC)) ((Z2.out.only (by omega) (Only.setRow _ (w.heap.size + 1 + 1 + 1) C2)).setRow MC) Tryd.underlying38 rfl (infoCpu SZ.out) Tryd.underlying41 rfl (infoMem SM.out)) rfl ⟨rfl, ((ZB.out.trans ((Only.setRow _ (w.heap.size + 1 + 1 + 1) C2).below (by omega) (by have := ZB.out.size; simpa using this))).trans ((Only.setRow _ (w.heap.size + 1 + 1 + 1 + 1) MC).below (by omega) (by have := ZB.out.size; simpa using this)))⟩

set_option maxHeartbeats 8000000 in
set_option maxRecDepth 100000 in
theorem refdo_27_pass (a b cc : Nat) (n : Int) (c : Cp) (A1 A2 : Option Addr) (n1 k1 n2 k2 : Nat) (MC : Array Value) (w : World) (ha : a < 16) (hb : b < 16) (hcc : cc < 16) (ub : 0 ≤ (c.r.getD b 0) ∧ (c.r.getD b 0) ≤ 4294967295) (uc : 0 ≤ (c.r.getD cc 0) ∧ (c.r.getD cc 0) ≤ 4294967295) (hl : c.r.length = 16) (hm : MC.size = 6) (hm1 : MC.all (·.oneCell') = true) (ux : 0 ≤ (c.r.getD a 0) ∧ (c.r.getD a 0) ≤ 4294967295) (hd : ((c.r.getD a 0) == 0) = false) :
    Calls Tryd.prog 26 #[.agg (cpuCells c (.slice A1 n1 k1) (.slice A2 n2 k2)), .agg MC, .agg #[.int .i64 27, .int .i64 a, .int .i64 b, .int .i64 cc, .int .i64 n]] w fun e w' => e = .returned (.tuple #[.agg (cpuCells (passC c) (.slice A1 n1 k1) (.slice A2 n2 k2)), .agg MC]) ∧ Below w.heap.size w w' := by
  have F0 := fr_made w (cpuCells c (.slice A1 n1 k1) (.slice A2 n2 k2)) MC #[.int .i64 27, .int .i64 a, .int .i64 b, .int .i64 cc, .int .i64 n]
  unfold zeros38 zeros41 at F0
  have FH := Lib.hid F0
  have haI : (a : Int) < 16 := by omega
  have hbI : (b : Int) < 16 := by omega
  have hcI : (cc : Int) < 16 := by omega
  have SM := Lib.hid hm
  have ONM := Lib.hid hm1
  have HLN := Lib.hid hl
  have qa := (F0.c.cell a).trans (cpuCells_reg hl _ _ ha)
  have qb := (F0.c.cell b).trans (cpuCells_reg hl _ _ hb)
  have GA := Lib.hid (cpuCells_reg hl (.slice A1 n1 k1) (.slice A2 n2 k2) ha)
  have GB := Lib.hid (cpuCells_reg hl (.slice A1 n1 k1) (.slice A2 n2 k2) hb)
  have GC := Lib.hid (cpuCells_reg hl (.slice A1 n1 k1) (.slice A2 n2 k2) hcc)
  have CT := Lib.hid (fun w => refothers_27_pass a b cc n (c.r.getD a 0) c A1 A2 n1 k1 n2 k2 w ha hb ux hl hd)
  have SZ0 := Lib.hid (cpuCells_size hl (.slice A1 n1 k1) (.slice A2 n2 k2))
  clear F0 hm hm1 hl
  clear ux
  generalize (c.r.getD a 0) = ra at *
  generalize (c.r.getD b 0) = rb at *
  generalize (c.r.getD cc 0) = rc at *
  have hl2 : (passC c : Cp).r.length = 16 := by first | exact HLN.out | exact trapC_len HLN.out | (show (List.set _ _ _).length = 16; rw [List.length_set]; exact HLN.out)
  have SZ := Lib.hid (cpuCells_size hl2 (.slice A1 n1 k1) (.slice A2 n2 k2))
  have ONE := Lib.hid (cpu_one (passC c) (o := (.slice A1 n1 k1)) (i := (.slice A2 n2 k2)) rfl rfl)
  clear hl2
  generalize hC2 : cpuCells (passC c) (.slice A1 n1 k1) (.slice A2 n2 k2) = C2 at *
  have CE := Lib.hid hC2
  clear hC2
  clear hd
  generalize hC0 : cpuCells c (.slice A1 n1 k1) (.slice A2 n2 k2) = C0 at *
  go_enter Tryd.func26, Tryd.ntmps26
  go_wp2_with fail
  go_quiet (fail)
  have FD := Lib.hid (FH.out.drawn nq)
  clear FH qa qb
  generalize ((((((w.alloc (.cells C0 38)).alloc (.cells MC 41)).alloc (.cells #[.int .i64 27, .int .i64 a, .int .i64 b, .int .i64 cc, .int .i64 n] 54)).alloc (.cells #[.int .u32 0, .int .u32 0, .int .u32 0, .int .u32 0, .int .u32 0, .int .u32 0, .int .u32 0, .int .u32 0, .int .u32 0, .int .u32 0, .int .u32 0, .int .u32 0, .int .u32 0, .int .u32 0, .int .u32 0, .int .u32 0, .int .u32 0, .int .u32 0, .int .u32 0, .int .i64 0, .int .i64 0, .int .i64 0, .int .i64 0, .slice none 0 0, .int .u32 0, .int .u32 0, .int .u32 0, .int .u32 0, .slice none 0 0] 38)).alloc (.cells #[.int .u32 0, .int .u32 0, .int .u32 0, .int .u32 0, .int .u32 0, .slice none 0 0] 41)).drewN nq) = W at *
  have i0 : W.cell? ⟨w.heap.size + 1 + 1, 0, none⟩ = some (.int .i64 27) := FD.out.i.cell 0
  have i4 : W.cell? ⟨w.heap.size + 1 + 1, 4, none⟩ = some (.int .i64 n) := FD.out.i.cell 4
  have q16 : W.cell? ⟨w.heap.size, 16, none⟩ = some (.int .u32 c.pc) := by subst hC0; exact (FD.out.c.cell 16).trans (cpuCells_pc HLN.out _ _)
  have HC := Lib.hid FD.out.c
  have HM := Lib.hid FD.out.m
  have HI := Lib.hid FD.out.i
  have R1 := Lib.hid FD.out.r1
  have R2 := Lib.hid FD.out.r2
  have BV := Lib.hid FD.out.bel
  clear FD
  go_wp2_with fail
  refine held_start 7 rfl (S := fun y => Whole y w.heap.size 38 C0 ∧ Whole y (w.heap.size + 1) 41 MC ∧ Whole y (w.heap.size + 1 + 1) 54 #[.int .i64 27, .int .i64 a, .int .i64 b, .int .i64 cc, .int .i64 n]) (by kernel_rfl) ⟨HC.out.drew', HM.out.drew', HI.out.drew'⟩ (fun hS => ?_)
  refine wpAnyH_take (i := 0) (v := .agg C0) get0 ?_ ?_ ?_ ?_ ?_ hS ?_
  · kernel_rfl
  · kernel_rfl
  · kernel_rfl
  · exact fun _ _ _ h => h
  · exact take_load 38 (.tmp 3) rfl rfl (w.heap.size) rfl 38 C0 (fun _ h => h.1) _ Tryd.underlying38 rfl (infoCpu SZ0.out)
  refine wpAnyH_take (i := 1) (v := .agg #[.int .i64 27, .int .i64 a, .int .i64 b, .int .i64 cc, .int .i64 n]) get1 ?_ ?_ ?_ ?_ ?_ hS ?_
  · kernel_rfl
  · kernel_rfl
  · kernel_rfl
  · exact fun _ _ _ h => h
  · exact take_load 54 (.tmp 5) rfl rfl (w.heap.size + 1 + 1) (eval_ne (by decide) rfl) 54 _ (fun _ h => h.2.2) _ Tryd.underlying54 rfl (infoI rfl)
  refine wpAnyH_take (i := 2) (v := .int .u32 ra) get2 ?_ ?_ ?_ ?_ ?_ hS ?_
  · kernel_rfl
  · kernel_rfl
  · kernel_rfl
  · exact fun _ _ _ h => h
  · exact take_slot (.tmp 8) rfl rfl (eval_ne (by decide) (eval_ne (by decide) rfl))
  refine wpAnyH_take (i := 4) (v := .agg MC) get4 ?_ ?_ ?_ ?_ ?_ hS ?_
  · kernel_rfl
  · kernel_rfl
  · kernel_rfl
  · exact fun _ _ _ h => h
  · exact take_load 41 (.tmp 4) rfl rfl ((w.heap.size + 1)) (eval_ne (by decide) (eval_ne (by decide) (eval_ne (by decide) rfl))) 41 MC (fun _ h => h.2.1) _ Tryd.underlying41 rfl (infoMem SM.out)
  refine held_step get3 (by kernel_rfl) (fun K hK => ?_)
  refine step_call3 Tryd.func47 rfl rfl rfl rfl (.agg C0) (.agg #[.int .i64 27, .int .i64 a, .int .i64 b, .int .i64 cc, .int .i64 n]) (.int .u32 ra) (eval_ne (by decide) (eval_ne (by decide) (eval_ne (by decide) (eval_at (n := 193) rfl (by decide))))) (eval_ne (by decide) (eval_ne (by decide) (eval_at (n := 193) (size_put rfl) (by decide)))) (eval_ne (by decide) (eval_at (n := 193) (size_put (size_put rfl)) (by decide))) (CT.out _) ?_
  rintro e w1 ⟨rfl, hb1⟩
  refine ⟨_, rfl, ?_⟩
  have Z1 := Lib.hid (R1.out.drew'.below hb1 R1.out.lt)
  have Z2 := Lib.hid (R2.out.drew'.below hb1 R2.out.lt)
  have ZB := Lib.hid (BV.out.drew.trans (hb1.mono BV.out.size))
  refine hK.out _ _ ⟨hS.1.below hb1 HC.out.lt, hS.2.1.below hb1 HM.out.lt, hS.2.2.below hb1 HI.out.lt⟩ (fun hS2 => ?_)
  clear hK K hb1
  refine held_step get5 (by kernel_rfl) (fun K hK => ?_)
  refine step_store 38 (.tmp 6) (.tmp 81) rfl rfl (w.heap.size + 1 + 1 + 1) C2 (eval_ne (by decide) (eval_ne (by decide) (eval_ne (by decide) (eval_ne (by decide) (eval_ne (by decide) rfl))))) (eval_at (n := 193) (size_put (size_put (size_put (size_put rfl)))) (by decide)) 38 zeros38 Z1.out (infoCpu SZ.out) (by rw [SZ.out]; rfl) ONE.out ?_
  refine hK.out _ _ ⟨hS2.1.only (by omega) (Only.setRow _ (w.heap.size + 1 + 1 + 1) C2), hS2.2.1.only (by omega) (Only.setRow _ (w.heap.size + 1 + 1 + 1) C2), hS2.2.2.only (by omega) (Only.setRow _ (w.heap.size + 1 + 1 + 1) C2)⟩ (fun hS3 => ?_)
  clear hK K
  refine held_step get6 (by kernel_rfl) (fun K hK => ?_)
  refine step_store 41 (.tmp 7) (.tmp 82) rfl rfl (w.heap.size + 1 + 1 + 1 + 1) MC (eval_none (eval_ne (by decide) (eval_ne (by decide) (eval_ne (by decide) (eval_ne (by decide) (eval_ne (by decide) rfl)))))) (eval_none (eval_ne (by decide) (eval_at (n := 193) (size_put (size_put (size_put rfl))) (by decide)))) 41 zeros41 (Z2.out.only (by omega) (Only.setRow _ (w.heap.size + 1 + 1 + 1) C2)) (infoMem SM.out) (by rw [SM.out]; rfl) ONM.out ?_
  refine hK.out _ _ ⟨hS3.1.only (by omega) (Only.setRow _ (w.heap.size + 1 + 1 + 1 + 1) MC), hS3.2.1.only (by omega) (Only.setRow _ (w.heap.size + 1 + 1 + 1 + 1) MC), hS3.2.2.only (by omega) (Only.setRow _ (w.heap.size + 1 + 1 + 1 + 1) MC)⟩ (fun hS4 => ?_)
  clear hK K
  refine wpAnyH_done (by kernel_rfl) ?_ _
  go_wp2_with fail
  refine bodyPost_ret (v := .tuple #[.agg C2, .agg MC]) (results_two_rows2 rfl _ _ (w.heap.size + 1 + 1 + 1) (w.heap.size + 1 + 1 + 1 + 1) 38 41 C2 MC _ _ (eval_none (eval_none (eval_ne (by decide) (eval_ne (by decide) (eval_ne (by decide) (eval_ne (by decide) (eval_ne (by decide) rfl))))))) (eval_none (eval_none (eval_ne (by decide) (eval_ne (by decide) (eval_ne (by decide) (eval_ne (by decide) (eval_ne (by decide) rfl))))))) ((Z1.out.setRow C2).only (by omega) (Only.setRow _ (w.heap.size + 1 + 1 + 1 + 1) MC)) ((Z2.out.only (by omega) (Only.setRow _ (w.heap.size + 1 + 1 + 1) C2)).setRow MC) Tryd.underlying38 rfl (infoCpu SZ.out) Tryd.underlying41 rfl (infoMem SM.out)) rfl ⟨rfl, ((ZB.out.trans ((Only.setRow _ (w.heap.size + 1 + 1 + 1) C2).below (by omega) (by have := ZB.out.size; simpa using this))).trans ((Only.setRow _ (w.heap.size + 1 + 1 + 1 + 1) MC).below (by omega) (by have := ZB.out.size; simpa using this)))⟩

set_option maxHeartbeats 8000000 in
set_option maxRecDepth 100000 in
theorem refdo_27_trap (a b cc : Nat) (n : Int) (c : Cp) (A1 A2 : Option Addr) (n1 k1 n2 k2 : Nat) (MC : Array Value) (w : World) (ha : a < 16) (hb : b < 16) (hcc : cc < 16) (ub : 0 ≤ (c.r.getD b 0) ∧ (c.r.getD b 0) ≤ 4294967295) (uc : 0 ≤ (c.r.getD cc 0) ∧ (c.r.getD cc 0) ≤ 4294967295) (hl : c.r.length = 16) (hm : MC.size = 6) (hm1 : MC.all (·.oneCell') = true) (ux : 0 ≤ (c.r.getD a 0) ∧ (c.r.getD a 0) ≤ 4294967295) (hd : ((c.r.getD a 0) == 0) = true) :
    Calls Tryd.prog 26 #[.agg (cpuCells c (.slice A1 n1 k1) (.slice A2 n2 k2)), .agg MC, .agg #[.int .i64 27, .int .i64 a, .int .i64 b, .int .i64 cc, .int .i64 n]] w fun e w' => e = .returned (.tuple #[.agg (cpuCells (trapC c 2) (.slice A1 n1 k1) (.slice A2 n2 k2)), .agg MC]) ∧ Below w.heap.size w w' := by
  have F0 := fr_made w (cpuCells c (.slice A1 n1 k1) (.slice A2 n2 k2)) MC #[.int .i64 27, .int .i64 a, .int .i64 b, .int .i64 cc, .int .i64 n]
  unfold zeros38 zeros41 at F0
  have FH := Lib.hid F0
  have haI : (a : Int) < 16 := by omega
  have hbI : (b : Int) < 16 := by omega
  have hcI : (cc : Int) < 16 := by omega
  have SM := Lib.hid hm
  have ONM := Lib.hid hm1
  have HLN := Lib.hid hl
  have qa := (F0.c.cell a).trans (cpuCells_reg hl _ _ ha)
  have qb := (F0.c.cell b).trans (cpuCells_reg hl _ _ hb)
  have GA := Lib.hid (cpuCells_reg hl (.slice A1 n1 k1) (.slice A2 n2 k2) ha)
  have GB := Lib.hid (cpuCells_reg hl (.slice A1 n1 k1) (.slice A2 n2 k2) hb)
  have GC := Lib.hid (cpuCells_reg hl (.slice A1 n1 k1) (.slice A2 n2 k2) hcc)
  have CT := Lib.hid (fun w => refothers_27_trap a b cc n (c.r.getD a 0) c A1 A2 n1 k1 n2 k2 w ha hb ux hl hd)
  have SZ0 := Lib.hid (cpuCells_size hl (.slice A1 n1 k1) (.slice A2 n2 k2))
  clear F0 hm hm1 hl
  clear ux
  generalize (c.r.getD a 0) = ra at *
  generalize (c.r.getD b 0) = rb at *
  generalize (c.r.getD cc 0) = rc at *
  have hl2 : (trapC c 2 : Cp).r.length = 16 := by first | exact HLN.out | exact trapC_len HLN.out | (show (List.set _ _ _).length = 16; rw [List.length_set]; exact HLN.out)
  have SZ := Lib.hid (cpuCells_size hl2 (.slice A1 n1 k1) (.slice A2 n2 k2))
  have ONE := Lib.hid (cpu_one (trapC c 2) (o := (.slice A1 n1 k1)) (i := (.slice A2 n2 k2)) rfl rfl)
  clear hl2
  generalize hC2 : cpuCells (trapC c 2) (.slice A1 n1 k1) (.slice A2 n2 k2) = C2 at *
  have CE := Lib.hid hC2
  clear hC2
  clear hd
  generalize hC0 : cpuCells c (.slice A1 n1 k1) (.slice A2 n2 k2) = C0 at *
  go_enter Tryd.func26, Tryd.ntmps26
  go_wp2_with fail
  go_quiet (fail)
  have FD := Lib.hid (FH.out.drawn nq)
  clear FH qa qb
  generalize ((((((w.alloc (.cells C0 38)).alloc (.cells MC 41)).alloc (.cells #[.int .i64 27, .int .i64 a, .int .i64 b, .int .i64 cc, .int .i64 n] 54)).alloc (.cells #[.int .u32 0, .int .u32 0, .int .u32 0, .int .u32 0, .int .u32 0, .int .u32 0, .int .u32 0, .int .u32 0, .int .u32 0, .int .u32 0, .int .u32 0, .int .u32 0, .int .u32 0, .int .u32 0, .int .u32 0, .int .u32 0, .int .u32 0, .int .u32 0, .int .u32 0, .int .i64 0, .int .i64 0, .int .i64 0, .int .i64 0, .slice none 0 0, .int .u32 0, .int .u32 0, .int .u32 0, .int .u32 0, .slice none 0 0] 38)).alloc (.cells #[.int .u32 0, .int .u32 0, .int .u32 0, .int .u32 0, .int .u32 0, .slice none 0 0] 41)).drewN nq) = W at *
  have i0 : W.cell? ⟨w.heap.size + 1 + 1, 0, none⟩ = some (.int .i64 27) := FD.out.i.cell 0
  have i4 : W.cell? ⟨w.heap.size + 1 + 1, 4, none⟩ = some (.int .i64 n) := FD.out.i.cell 4
  have q16 : W.cell? ⟨w.heap.size, 16, none⟩ = some (.int .u32 c.pc) := by subst hC0; exact (FD.out.c.cell 16).trans (cpuCells_pc HLN.out _ _)
  have HC := Lib.hid FD.out.c
  have HM := Lib.hid FD.out.m
  have HI := Lib.hid FD.out.i
  have R1 := Lib.hid FD.out.r1
  have R2 := Lib.hid FD.out.r2
  have BV := Lib.hid FD.out.bel
  clear FD
  go_wp2_with fail
  refine held_start 7 rfl (S := fun y => Whole y w.heap.size 38 C0 ∧ Whole y (w.heap.size + 1) 41 MC ∧ Whole y (w.heap.size + 1 + 1) 54 #[.int .i64 27, .int .i64 a, .int .i64 b, .int .i64 cc, .int .i64 n]) (by kernel_rfl) ⟨HC.out.drew', HM.out.drew', HI.out.drew'⟩ (fun hS => ?_)
  refine wpAnyH_take (i := 0) (v := .agg C0) get0 ?_ ?_ ?_ ?_ ?_ hS ?_
  · kernel_rfl
  · kernel_rfl
  · kernel_rfl
  · exact fun _ _ _ h => h
  · exact take_load 38 (.tmp 3) rfl rfl (w.heap.size) rfl 38 C0 (fun _ h => h.1) _ Tryd.underlying38 rfl (infoCpu SZ0.out)
  refine wpAnyH_take (i := 1) (v := .agg #[.int .i64 27, .int .i64 a, .int .i64 b, .int .i64 cc, .int .i64 n]) get1 ?_ ?_ ?_ ?_ ?_ hS ?_
  · kernel_rfl
  · kernel_rfl
  · kernel_rfl
  · exact fun _ _ _ h => h
  · exact take_load 54 (.tmp 5) rfl rfl (w.heap.size + 1 + 1) (eval_ne (by decide) rfl) 54 _ (fun _ h => h.2.2) _ Tryd.underlying54 rfl (infoI rfl)
  refine wpAnyH_take (i := 2) (v := .int .u32 ra) get2 ?_ ?_ ?_ ?_ ?_ hS ?_
  · kernel_rfl
  · kernel_rfl
  · kernel_rfl
  · exact fun _ _ _ h => h
  · exact take_slot (.tmp 8) rfl rfl (eval_ne (by decide) (eval_ne (by decide) rfl))
  refine wpAnyH_take (i := 4) (v := .agg MC) get4 ?_ ?_ ?_ ?_ ?_ hS ?_
  · kernel_rfl
  · kernel_rfl
  · kernel_rfl
  · exact fun _ _ _ h => h
  · exact take_load 41 (.tmp 4) rfl rfl ((w.heap.size + 1)) (eval_ne (by decide) (eval_ne (by decide) (eval_ne (by decide) rfl))) 41 MC (fun _ h => h.2.1) _ Tryd.underlying41 rfl (infoMem SM.out)
  refine held_step get3 (by kernel_rfl) (fun K hK => ?_)
  refine step_call3 Tryd.func47 rfl rfl rfl rfl (.agg C0) (.agg #[.int .i64 27, .int .i64 a, .int .i64 b, .int .i64 cc, .int .i64 n]) (.int .u32 ra) (eval_ne (by decide) (eval_ne (by decide) (eval_ne (by decide) (eval_at (n := 193) rfl (by decide))))) (eval_ne (by decide) (eval_ne (by decide) (eval_at (n := 193) (size_put rfl) (by decide)))) (eval_ne (by decide) (eval_at (n := 193) (size_put (size_put rfl)) (by decide))) (CT.out _) ?_
  rintro e w1 ⟨rfl, hb1⟩
  refine ⟨_, rfl, ?_⟩
  have Z1 := Lib.hid (R1.out.drew'.below hb1 R1.out.lt)
  have Z2 := Lib.hid (R2.out.drew'.below hb1 R2.out.lt)
  have ZB := Lib.hid (BV.out.drew.trans (hb1.mono BV.out.size))
  refine hK.out _ _ ⟨hS.1.below hb1 HC.out.lt, hS.2.1.below hb1 HM.out.lt, hS.2.2.below hb1 HI.out.lt⟩ (fun hS2 => ?_)
  clear hK K hb1
  refine held_step get5 (by kernel_rfl) (fun K hK => ?_)
  refine step_store 38 (.tmp 6) (.tmp 81) rfl rfl (w.heap.size + 1 + 1 + 1) C2 (eval_ne (by decide) (eval_ne (by decide) (eval_ne (by decide) (eval_ne (by decide) (eval_ne (by decide) rfl))))) (eval_at (n := 193) (size_put (size_put (size_put (size_put rfl)))) (by decide)) 38 zeros38 Z1.out (infoCpu SZ.out) (by rw [SZ.out]; rfl) ONE.out ?_
  refine hK.out _ _ ⟨hS2.1.only (by omega) (Only.setRow _ (w.heap.size + 1 + 1 + 1) C2), hS2.2.1.only (by omega) (Only.setRow _ (w.heap.size + 1 + 1 + 1) C2), hS2.2.2.only (by omega) (Only.setRow _ (w.heap.size + 1 + 1 + 1) C2)⟩ (fun hS3 => ?_)
  clear hK K
  refine held_step get6 (by kernel_rfl) (fun K hK => ?_)
  refine step_store 41 (.tmp 7) (.tmp 82) rfl rfl (w.heap.size + 1 + 1 + 1 + 1) MC (eval_none (eval_ne (by decide) (eval_ne (by decide) (eval_ne (by decide) (eval_ne (by decide) (eval_ne (by decide) rfl)))))) (eval_none (eval_ne (by decide) (eval_at (n := 193) (size_put (size_put (size_put rfl))) (by decide)))) 41 zeros41 (Z2.out.only (by omega) (Only.setRow _ (w.heap.size + 1 + 1 + 1) C2)) (infoMem SM.out) (by rw [SM.out]; rfl) ONM.out ?_
  refine hK.out _ _ ⟨hS3.1.only (by omega) (Only.setRow _ (w.heap.size + 1 + 1 + 1 + 1) MC), hS3.2.1.only (by omega) (Only.setRow _ (w.heap.size + 1 + 1 + 1 + 1) MC), hS3.2.2.only (by omega) (Only.setRow _ (w.heap.size + 1 + 1 + 1 + 1) MC)⟩ (fun hS4 => ?_)
  clear hK K
  refine wpAnyH_done (by kernel_rfl) ?_ _
  go_wp2_with fail
  refine bodyPost_ret (v := .tuple #[.agg C2, .agg MC]) (results_two_rows2 rfl _ _ (w.heap.size + 1 + 1 + 1) (w.heap.size + 1 + 1 + 1 + 1) 38 41 C2 MC _ _ (eval_none (eval_none (eval_ne (by decide) (eval_ne (by decide) (eval_ne (by decide) (eval_ne (by decide) (eval_ne (by decide) rfl))))))) (eval_none (eval_none (eval_ne (by decide) (eval_ne (by decide) (eval_ne (by decide) (eval_ne (by decide) (eval_ne (by decide) rfl))))))) ((Z1.out.setRow C2).only (by omega) (Only.setRow _ (w.heap.size + 1 + 1 + 1 + 1) MC)) ((Z2.out.only (by omega) (Only.setRow _ (w.heap.size + 1 + 1 + 1) C2)).setRow MC) Tryd.underlying38 rfl (infoCpu SZ.out) Tryd.underlying41 rfl (infoMem SM.out)) rfl ⟨rfl, ((ZB.out.trans ((Only.setRow _ (w.heap.size + 1 + 1 + 1) C2).below (by omega) (by have := ZB.out.size; simpa using this))).trans ((Only.setRow _ (w.heap.size + 1 + 1 + 1 + 1) MC).below (by omega) (by have := ZB.out.size; simpa using this)))⟩

set_option maxHeartbeats 8000000 in
set_option maxRecDepth 100000 in
theorem refdo_28 (a b cc : Nat) (n : Int) (c : Cp) (A1 A2 : Option Addr) (n1 k1 n2 k2 : Nat) (MC : Array Value) (w : World) (ha : a < 16) (hb : b < 16) (hcc : cc < 16) (ub : 0 ≤ (c.r.getD b 0) ∧ (c.r.getD b 0) ≤ 4294967295) (uc : 0 ≤ (c.r.getD cc 0) ∧ (c.r.getD cc 0) ≤ 4294967295) (hl : c.r.length = 16) (hm : MC.size = 6) (hm1 : MC.all (·.oneCell') = true) (ux : 0 ≤ (c.r.getD a 0) ∧ (c.r.getD a 0) ≤ 4294967295)  :
    Calls Tryd.prog 26 #[.agg (cpuCells c (.slice A1 n1 k1) (.slice A2 n2 k2)), .agg MC, .agg #[.int .i64 28, .int .i64 a, .int .i64 b, .int .i64 cc, .int .i64 n]] w fun e w' => e = .returned (.tuple #[.agg (cpuCells (trapC c (n % 4294967296)) (.slice A1 n1 k1) (.slice A2 n2 k2)), .agg MC]) ∧ Below w.heap.size w w' := by
  have F0 := fr_made w (cpuCells c (.slice A1 n1 k1) (.slice A2 n2 k2)) MC #[.int .i64 28, .int .i64 a, .int .i64 b, .int .i64 cc, .int .i64 n]
  unfold zeros38 zeros41 at F0
  have FH := Lib.hid F0
  have haI : (a : Int) < 16 := by omega
  have hbI : (b : Int) < 16 := by omega
  have hcI : (cc : Int) < 16 := by omega
  have SM := Lib.hid hm
  have ONM := Lib.hid hm1
  have HLN := Lib.hid hl
  have qa := (F0.c.cell a).trans (cpuCells_reg hl _ _ ha)
  have qb := (F0.c.cell b).trans (cpuCells_reg hl _ _ hb)
  have GA := Lib.hid (cpuCells_reg hl (.slice A1 n1 k1) (.slice A2 n2 k2) ha)
  have GB := Lib.hid (cpuCells_reg hl (.slice A1 n1 k1) (.slice A2 n2 k2) hb)
  have GC := Lib.hid (cpuCells_reg hl (.slice A1 n1 k1) (.slice A2 n2 k2) hcc)
  have CT := Lib.hid (fun w => refothers_28 a b cc n (c.r.getD a 0) c A1 A2 n1 k1 n2 k2 w ha hb ux hl)
  have SZ0 := Lib.hid (cpuCells_size hl (.slice A1 n1 k1) (.slice A2 n2 k2))
  clear F0 hm hm1 hl
  clear ux
  generalize (c.r.getD a 0) = ra at *
  generalize (c.r.getD b 0) = rb at *
  generalize (c.r.getD cc 0) = rc at *
  have hl2 : (trapC c (n % 4294967296) : Cp).r.length = 16 := by first | exact HLN.out | exact trapC_len HLN.out | (show (List.set _ _ _).length = 16; rw [List.length_set]; exact HLN.out)
  have SZ := Lib.hid (cpuCells_size hl2 (.slice A1 n1 k1) (.slice A2 n2 k2))
  have ONE := Lib.hid (cpu_one (trapC c (n % 4294967296)) (o := (.slice A1 n1 k1)) (i := (.slice A2 n2 k2)) rfl rfl)
  clear hl2
  generalize hC2 : cpuCells (trapC c (n % 4294967296)) (.slice A1 n1 k1) (.slice A2 n2 k2) = C2 at *
  have CE := Lib.hid hC2
  clear hC2
  generalize hC0 : cpuCells c (.slice A1 n1 k1) (.slice A2 n2 k2) = C0 at *
  go_enter Tryd.func26, Tryd.ntmps26
  go_wp2_with fail
  go_quiet (fail)
  have FD := Lib.hid (FH.out.drawn nq)
  clear FH qa qb
  generalize ((((((w.alloc (.cells C0 38)).alloc (.cells MC 41)).alloc (.cells #[.int .i64 28, .int .i64 a, .int .i64 b, .int .i64 cc, .int .i64 n] 54)).alloc (.cells #[.int .u32 0, .int .u32 0, .int .u32 0, .int .u32 0, .int .u32 0, .int .u32 0, .int .u32 0, .int .u32 0, .int .u32 0, .int .u32 0, .int .u32 0, .int .u32 0, .int .u32 0, .int .u32 0, .int .u32 0, .int .u32 0, .int .u32 0, .int .u32 0, .int .u32 0, .int .i64 0, .int .i64 0, .int .i64 0, .int .i64 0, .slice none 0 0, .int .u32 0, .int .u32 0, .int .u32 0, .int .u32 0, .slice none 0 0] 38)).alloc (.cells #[.int .u32 0, .int .u32 0, .int .u32 0, .int .u32 0, .int .u32 0, .slice none 0 0] 41)).drewN nq) = W at *
  have i0 : W.cell? ⟨w.heap.size + 1 + 1, 0, none⟩ = some (.int .i64 28) := FD.out.i.cell 0
  have i4 : W.cell? ⟨w.heap.size + 1 + 1, 4, none⟩ = some (.int .i64 n) := FD.out.i.cell 4
  have q16 : W.cell? ⟨w.heap.size, 16, none⟩ = some (.int .u32 c.pc) := by subst hC0; exact (FD.out.c.cell 16).trans (cpuCells_pc HLN.out _ _)
  have HC := Lib.hid FD.out.c
  have HM := Lib.hid FD.out.m
  have HI := Lib.hid FD.out.i
  have R1 := Lib.hid FD.out.r1
  have R2 := Lib.hid FD.out.r2
  have BV := Lib.hid FD.out.bel
  clear FD
  go_wp2_with fail
  refine held_start 7 rfl (S := fun y => Whole y w.heap.size 38 C0 ∧ Whole y (w.heap.size + 1) 41 MC ∧ Whole y (w.heap.size + 1 + 1) 54 #[.int .i64 28, .int .i64 a, .int .i64 b, .int .i64 cc, .int .i64 n]) (by kernel_rfl) ⟨HC.out.drew', HM.out.drew', HI.out.drew'⟩ (fun hS => ?_)
  refine wpAnyH_take (i := 0) (v := .agg C0) get0 ?_ ?_ ?_ ?_ ?_ hS ?_
  · kernel_rfl
  · kernel_rfl
  · kernel_rfl
  · exact fun _ _ _ h => h
  · exact take_load 38 (.tmp 3) rfl rfl (w.heap.size) rfl 38 C0 (fun _ h => h.1) _ Tryd.underlying38 rfl (infoCpu SZ0.out)
  refine wpAnyH_take (i := 1) (v := .agg #[.int .i64 28, .int .i64 a, .int .i64 b, .int .i64 cc, .int .i64 n]) get1 ?_ ?_ ?_ ?_ ?_ hS ?_
  · kernel_rfl
  · kernel_rfl
  · kernel_rfl
  · exact fun _ _ _ h => h
  · exact take_load 54 (.tmp 5) rfl rfl (w.heap.size + 1 + 1) (eval_ne (by decide) rfl) 54 _ (fun _ h => h.2.2) _ Tryd.underlying54 rfl (infoI rfl)
  refine wpAnyH_take (i := 2) (v := .int .u32 ra) get2 ?_ ?_ ?_ ?_ ?_ hS ?_
  · kernel_rfl
  · kernel_rfl
  · kernel_rfl
  · exact fun _ _ _ h => h
  · exact take_slot (.tmp 8) rfl rfl (eval_ne (by decide) (eval_ne (by decide) rfl))
  refine wpAnyH_take (i := 4) (v := .agg MC) get4 ?_ ?_ ?_ ?_ ?_ hS ?_
  · kernel_rfl
  · kernel_rfl
  · kernel_rfl
  · exact fun _ _ _ h => h
  · exact take_load 41 (.tmp 4) rfl rfl ((w.heap.size + 1)) (eval_ne (by decide) (eval_ne (by decide) (eval_ne (by decide) rfl))) 41 MC (fun _ h => h.2.1) _ Tryd.underlying41 rfl (infoMem SM.out)
  refine held_step get3 (by kernel_rfl) (fun K hK => ?_)
  refine step_call3 Tryd.func47 rfl rfl rfl rfl (.agg C0) (.agg #[.int .i64 28, .int .i64 a, .int .i64 b, .int .i64 cc, .int .i64 n]) (.int .u32 ra) (eval_ne (by decide) (eval_ne (by decide) (eval_ne (by decide) (eval_at (n := 193) rfl (by decide))))) (eval_ne (by decide) (eval_ne (by decide) (eval_at (n := 193) (size_put rfl) (by decide)))) (eval_ne (by decide) (eval_at (n := 193) (size_put (size_put rfl)) (by decide))) (CT.out _) ?_
  rintro e w1 ⟨rfl, hb1⟩
  refine ⟨_, rfl, ?_⟩
  have Z1 := Lib.hid (R1.out.drew'.below hb1 R1.out.lt)
  have Z2 := Lib.hid (R2.out.drew'.below hb1 R2.out.lt)
  have ZB := Lib.hid (BV.out.drew.trans (hb1.mono BV.out.size))
  refine hK.out _ _ ⟨hS.1.below hb1 HC.out.lt, hS.2.1.below hb1 HM.out.lt, hS.2.2.below hb1 HI.out.lt⟩ (fun hS2 => ?_)
  clear hK K hb1
  refine held_step get5 (by kernel_rfl) (fun K hK => ?_)
  refine step_store 38 (.tmp 6) (.tmp 81) rfl rfl (w.heap.size + 1 + 1 + 1) C2 (eval_ne (by decide) (eval_ne (by decide) (eval_ne (by decide) (eval_ne (by decide) (eval_ne (by decide) rfl))))) (eval_at (n := 193) (size_put (size_put (size_put (size_put rfl)))) (by decide)) 38 zeros38 Z1.out (infoCpu SZ.out) (by rw [SZ.out]; rfl) ONE.out ?_
  refine hK.out _ _ ⟨hS2.1.only (by omega) (Only.setRow _ (w.heap.size + 1 + 1 + 1) C2), hS2.2.1.only (by omega) (Only.setRow _ (w.heap.size + 1 + 1 + 1) C2), hS2.2.2.only (by omega) (Only.setRow _ (w.heap.size + 1 + 1 + 1) C2)⟩ (fun hS3 => ?_)
  clear hK K
  refine held_step get6 (by kernel_rfl) (fun K hK => ?_)
  refine step_store 41 (.tmp 7) (.tmp 82) rfl rfl (w.heap.size + 1 + 1 + 1 + 1) MC (eval_none (eval_ne (by decide) (eval_ne (by decide) (eval_ne (by decide) (eval_ne (by decide) (eval_ne (by decide) rfl)))))) (eval_none (eval_ne (by decide) (eval_at (n := 193) (size_put (size_put (size_put rfl))) (by decide)))) 41 zeros41 (Z2.out.only (by omega) (Only.setRow _ (w.heap.size + 1 + 1 + 1) C2)) (infoMem SM.out) (by rw [SM.out]; rfl) ONM.out ?_
  refine hK.out _ _ ⟨hS3.1.only (by omega) (Only.setRow _ (w.heap.size + 1 + 1 + 1 + 1) MC), hS3.2.1.only (by omega) (Only.setRow _ (w.heap.size + 1 + 1 + 1 + 1) MC), hS3.2.2.only (by omega) (Only.setRow _ (w.heap.size + 1 + 1 + 1 + 1) MC)⟩ (fun hS4 => ?_)
  clear hK K
  refine wpAnyH_done (by kernel_rfl) ?_ _
  go_wp2_with fail
  refine bodyPost_ret (v := .tuple #[.agg C2, .agg MC]) (results_two_rows2 rfl _ _ (w.heap.size + 1 + 1 + 1) (w.heap.size + 1 + 1 + 1 + 1) 38 41 C2 MC _ _ (eval_none (eval_none (eval_ne (by decide) (eval_ne (by decide) (eval_ne (by decide) (eval_ne (by decide) (eval_ne (by decide) rfl))))))) (eval_none (eval_none (eval_ne (by decide) (eval_ne (by decide) (eval_ne (by decide) (eval_ne (by decide) (eval_ne (by decide) rfl))))))) ((Z1.out.setRow C2).only (by omega) (Only.setRow _ (w.heap.size + 1 + 1 + 1 + 1) MC)) ((Z2.out.only (by omega) (Only.setRow _ (w.heap.size + 1 + 1 + 1) C2)).setRow MC) Tryd.underlying38 rfl (infoCpu SZ.out) Tryd.underlying41 rfl (infoMem SM.out)) rfl ⟨rfl, ((ZB.out.trans ((Only.setRow _ (w.heap.size + 1 + 1 + 1) C2).below (by omega) (by have := ZB.out.size; simpa using this))).trans ((Only.setRow _ (w.heap.size + 1 + 1 + 1 + 1) MC).below (by omega) (by have := ZB.out.size; simpa using this)))⟩

set_option maxHeartbeats 8000000 in
set_option maxRecDepth 100000 in
theorem refdo_29 (a b cc : Nat) (n : Int) (c : Cp) (A1 A2 : Option Addr) (n1 k1 n2 k2 : Nat) (MC : Array Value) (w : World) (ha : a < 16) (hb : b < 16) (hcc : cc < 16) (ub : 0 ≤ (c.r.getD b 0) ∧ (c.r.getD b 0) ≤ 4294967295) (uc : 0 ≤ (c.r.getD cc 0) ∧ (c.r.getD cc 0) ≤ 4294967295) (hl : c.r.length = 16) (hm : MC.size = 6) (hm1 : MC.all (·.oneCell') = true) (ux : 0 ≤ (c.r.getD a 0) ∧ (c.r.getD a 0) ≤ 4294967295)  :
    Calls Tryd.prog 26 #[.agg (cpuCells c (.slice A1 n1 k1) (.slice A2 n2 k2)), .agg MC, .agg #[.int .i64 29, .int .i64 a, .int .i64 b, .int .i64 cc, .int .i64 n]] w fun e w' => e = .returned (.tuple #[.agg (cpuCells (trapC c (c.r.getD a 0)) (.slice A1 n1 k1) (.slice A2 n2 k2)), .agg MC]) ∧ Below w.heap.size w w' := by
  have F0 := fr_made w (cpuCells c (.slice A1 n1 k1) (.slice A2 n2 k2)) MC #[.int .i64 29, .int .i64 a, .int .i64 b, .int .i64 cc, .int .i64 n]
  unfold zeros38 zeros41 at F0
  have FH := Lib.hid F0
  have haI : (a : Int) < 16 := by omega
  have hbI : (b : Int) < 16 := by omega
  have hcI : (cc : Int) < 16 := by omega
  have SM := Lib.hid hm
  have ONM := Lib.hid hm1
  have HLN := Lib.hid hl
  have qa := (F0.c.cell a).trans (cpuCells_reg hl _ _ ha)
  have qb := (F0.c.cell b).trans (cpuCells_reg hl _ _ hb)
  have GA := Lib.hid (cpuCells_reg hl (.slice A1 n1 k1) (.slice A2 n2 k2) ha)
  have GB := Lib.hid (cpuCells_reg hl (.slice A1 n1 k1) (.slice A2 n2 k2) hb)
  have GC := Lib.hid (cpuCells_reg hl (.slice A1 n1 k1) (.slice A2 n2 k2) hcc)
  have CT := Lib.hid (fun w => refothers_29 a b cc n (c.r.getD a 0) c A1 A2 n1 k1 n2 k2 w ha hb ux hl)
  have SZ0 := Lib.hid (cpuCells_size hl (.slice A1 n1 k1) (.slice A2 n2 k2))
  clear F0 hm hm1 hl
  clear ux
  generalize (c.r.getD a 0) = ra at *
  generalize (c.r.getD b 0) = rb at *
  generalize (c.r.getD cc 0) = rc at *
  have hl2 : (trapC c ra : Cp).r.length = 16 := by first | exact HLN.out | exact trapC_len HLN.out | (show (List.set _ _ _).length = 16; rw [List.length_set]; exact HLN.out)
  have SZ := Lib.hid (cpuCells_size hl2 (.slice A1 n1 k1) (.slice A2 n2 k2))
  have ONE := Lib.hid (cpu_one (trapC c ra) (o := (.slice A1 n1 k1)) (i := (.slice A2 n2 k2)) rfl rfl)
  clear hl2
  generalize hC2 : cpuCells (trapC c ra) (.slice A1 n1 k1) (.slice A2 n2 k2) = C2 at *
  have CE := Lib.hid hC2
  clear hC2
  generalize hC0 : cpuCells c (.slice A1 n1 k1) (.slice A2 n2 k2) = C0 at *
  go_enter Tryd.func26, Tryd.ntmps26
  go_wp2_with fail
  go_quiet (fail)
  have FD := Lib.hid (FH.out.drawn nq)
  clear FH qa qb
  generalize ((((((w.alloc (.cells C0 38)).alloc (.cells MC 41)).alloc (.cells #[.int .i64 29, .int .i64 a, .int .i64 b, .int .i64 cc, .int .i64 n] 54)).alloc (.cells #[.int .u32 0, .int .u32 0, .int .u32 0, .int .u32 0, .int .u32 0, .int .u32 0, .int .u32 0, .int .u32 0, .int .u32 0, .int .u32 0, .int .u32 0, .int .u32 0, .int .u32 0, .int .u32 0, .int .u32 0, .int .u32 0, .int .u32 0, .int .u32 0, .int .u32 0, .int .i64 0, .int .i64 0, .int .i64 0, .int .i64 0, .slice none 0 0, .int .u32 0, .int .u32 0, .int .u32 0, .int .u32 0, .slice none 0 0] 38)).alloc (.cells #[.int .u32 0, .int .u32 0, .int .u32 0, .int .u32 0, .int .u32 0, .slice none 0 0] 41)).drewN nq) = W at *
  have i0 : W.cell? ⟨w.heap.size + 1 + 1, 0, none⟩ = some (.int .i64 29) := FD.out.i.cell 0
  have i4 : W.cell? ⟨w.heap.size + 1 + 1, 4, none⟩ = some (.int .i64 n) := FD.out.i.cell 4
  have q16 : W.cell? ⟨w.heap.size, 16, none⟩ = some (.int .u32 c.pc) := by subst hC0; exact (FD.out.c.cell 16).trans (cpuCells_pc HLN.out _ _)
  have HC := Lib.hid FD.out.c
  have HM := Lib.hid FD.out.m
  have HI := Lib.hid FD.out.i
  have R1 := Lib.hid FD.out.r1
  have R2 := Lib.hid FD.out.r2
  have BV := Lib.hid FD.out.bel
  clear FD
  go_wp2_with fail
  refine held_start 7 rfl (S := fun y => Whole y w.heap.size 38 C0 ∧ Whole y (w.heap.size + 1) 41 MC ∧ Whole y (w.heap.size + 1 + 1) 54 #[.int .i64 29, .int .i64 a, .int .i64 b, .int .i64 cc, .int .i64 n]) (by kernel_rfl) ⟨HC.out.drew', HM.out.drew', HI.out.drew'⟩ (fun hS => ?_)
  refine wpAnyH_take (i := 0) (v := .agg C0) get0 ?_ ?_ ?_ ?_ ?_ hS ?_
  · kernel_rfl
  · kernel_rfl
  · kernel_rfl
  · exact fun _ _ _ h => h
  · exact take_load 38 (.tmp 3) rfl rfl (w.heap.size) rfl 38 C0 (fun _ h => h.1) _ Tryd.underlying38 rfl (infoCpu SZ0.out)
  refine wpAnyH_take (i := 1) (v := .agg #[.int .i64 29, .int .i64 a, .int .i64 b, .int .i64 cc, .int .i64 n]) get1 ?_ ?_ ?_ ?_ ?_ hS ?_
  · kernel_rfl
  · kernel_rfl
  · kernel_rfl
  · exact fun _ _ _ h => h
  · exact take_load 54 (.tmp 5) rfl rfl (w.heap.size + 1 + 1) (eval_ne (by decide) rfl) 54 _ (fun _ h => h.2.2) _ Tryd.underlying54 rfl (infoI rfl)
  refine wpAnyH_take (i := 2) (v := .int .u32 ra) get2 ?_ ?_ ?_ ?_ ?_ hS ?_
  · kernel_rfl
  · kernel_rfl
  · kernel_rfl
  · exact fun _ _ _ h => h
  · exact take_slot (.tmp 8) rfl rfl (eval_ne (by decide) (eval_ne (by decide) rfl))
  refine wpAnyH_take (i := 4) (v := .agg MC) get4 ?_ ?_ ?_ ?_ ?_ hS ?_
  · kernel_rfl
  · kernel_rfl
  · kernel_rfl
  · exact fun _ _ _ h => h
  · exact take_load 41 (.tmp 4) rfl rfl ((w.heap.size + 1)) (eval_ne (by decide) (eval_ne (by decide) (eval_ne (by decide) rfl))) 41 MC (fun _ h => h.2.1) _ Tryd.underlying41 rfl (infoMem SM.out)
  refine held_step get3 (by kernel_rfl) (fun K hK => ?_)
  refine step_call3 Tryd.func47 rfl rfl rfl rfl (.agg C0) (.agg #[.int .i64 29, .int .i64 a, .int .i64 b, .int .i64 cc, .int .i64 n]) (.int .u32 ra) (eval_ne (by decide) (eval_ne (by decide) (eval_ne (by decide) (eval_at (n := 193) rfl (by decide))))) (eval_ne (by decide) (eval_ne (by decide) (eval_at (n := 193) (size_put rfl) (by decide)))) (eval_ne (by decide) (eval_at (n := 193) (size_put (size_put rfl)) (by decide))) (CT.out _) ?_
  rintro e w1 ⟨rfl, hb1⟩
  refine ⟨_, rfl, ?_⟩
  have Z1 := Lib.hid (R1.out.drew'.below hb1 R1.out.lt)
  have Z2 := Lib.hid (R2.out.drew'.below hb1 R2.out.lt)
  have ZB := Lib.hid (BV.out.drew.trans (hb1.mono BV.out.size))
  refine hK.out _ _ ⟨hS.1.below hb1 HC.out.lt, hS.2.1.below hb1 HM.out.lt, hS.2.2.below hb1 HI.out.lt⟩ (fun hS2 => ?_)
  clear hK K hb1
  refine held_step get5 (by kernel_rfl) (fun K hK => ?_)
  refine step_store 38 (.tmp 6) (.tmp 81) rfl rfl (w.heap.size + 1 + 1 + 1) C2 (eval_ne (by decide) (eval_ne (by decide) (eval_ne (by decide) (eval_ne (by decide) (eval_ne (by decide) rfl))))) (eval_at (n := 193) (size_put (size_put (size_put (size_put rfl)))) (by decide)) 38 zeros38 Z1.out (infoCpu SZ.out) (by rw [SZ.out]; rfl) ONE.out ?_
  refine hK.out _ _ ⟨hS2.1.only (by omega) (Only.setRow _ (w.heap.size + 1 + 1 + 1) C2), hS2.2.1.only (by omega) (Only.setRow _ (w.heap.size + 1 + 1 + 1) C2), hS2.2.2.only (by omega) (Only.setRow _ (w.heap.size + 1 + 1 + 1) C2)⟩ (fun hS3 => ?_)
  clear hK K
  refine held_step get6 (by kernel_rfl) (fun K hK => ?_)
  refine step_store 41 (.tmp 7) (.tmp 82) rfl rfl (w.heap.size + 1 + 1 + 1 + 1) MC (eval_none (eval_ne (by decide) (eval_ne (by decide) (eval_ne (by decide) (eval_ne (by decide) (eval_ne (by decide) rfl)))))) (eval_none (eval_ne (by decide) (eval_at (n := 193) (size_put (size_put (size_put rfl))) (by decide)))) 41 zeros41 (Z2.out.only (by omega) (Only.setRow _ (w.heap.size + 1 + 1 + 1) C2)) (infoMem SM.out) (by rw [SM.out]; rfl) ONM.out ?_
  refine hK.out _ _ ⟨hS3.1.only (by omega) (Only.setRow _ (w.heap.size + 1 + 1 + 1 + 1) MC), hS3.2.1.only (by omega) (Only.setRow _ (w.heap.size + 1 + 1 + 1 + 1) MC), hS3.2.2.only (by omega) (Only.setRow _ (w.heap.size + 1 + 1 + 1 + 1) MC)⟩ (fun hS4 => ?_)
  clear hK K
  refine wpAnyH_done (by kernel_rfl) ?_ _
  go_wp2_with fail
  refine bodyPost_ret (v := .tuple #[.agg C2, .agg MC]) (results_two_rows2 rfl _ _ (w.heap.size + 1 + 1 + 1) (w.heap.size + 1 + 1 + 1 + 1) 38 41 C2 MC _ _ (eval_none (eval_none (eval_ne (by decide) (eval_ne (by decide) (eval_ne (by decide) (eval_ne (by decide) (eval_ne (by decide) rfl))))))) (eval_none (eval_none (eval_ne (by decide) (eval_ne (by decide) (eval_ne (by decide) (eval_ne (by decide) (eval_ne (by decide) rfl))))))) ((Z1.out.setRow C2).only (by omega) (Only.setRow _ (w.heap.size + 1 + 1 + 1 + 1) MC)) ((Z2.out.only (by omega) (Only.setRow _ (w.heap.size + 1 + 1 + 1) C2)).setRow MC) Tryd.underlying38 rfl (infoCpu SZ.out) Tryd.underlying41 rfl (infoMem SM.out)) rfl ⟨rfl, ((ZB.out.trans ((Only.setRow _ (w.heap.size + 1 + 1 + 1) C2).below (by omega) (by have := ZB.out.size; simpa using this))).trans ((Only.setRow _ (w.heap.size + 1 + 1 + 1 + 1) MC).below (by omega) (by have := ZB.out.size; simpa using this)))⟩

end Go.Proofs.YtinpdgjbiimgkaaDoor

/- The answers' do, by operation. -/
namespace Go.Proofs.YtinpdgjbiimgkaaDoor
open Go.ChangeShapes Go.WideShapes Go.ChangeAt Go.RowKit
set_option linter.unusedVariables false

set_option maxHeartbeats 8000000 in
set_option maxRecDepth 100000 in
theorem refdo_31_trap (a b cc : Nat) (n : Int) (c : Cp) (A1 A2 : Option Addr) (n1 k1 n2 k2 : Nat) (MC : Array Value) (w : World) (ha : a < 16) (hb : b < 16) (hcc : cc < 16) (ub : 0 ≤ (c.r.getD b 0) ∧ (c.r.getD b 0) ≤ 4294967295) (uc : 0 ≤ (c.r.getD cc 0) ∧ (c.r.getD cc 0) ≤ 4294967295) (hl : c.r.length = 16) (hm : MC.size = 6) (hm1 : MC.all (·.oneCell') = true) (ux : 0 ≤ (c.r.getD a 0) ∧ (c.r.getD a 0) ≤ 4294967295) (k : Nat) (hk : c.taken = k) (hd : decide (n2 ≤ k) = true) :
    Calls Tryd.prog 26 #[.agg (cpuCells c (.slice A1 n1 k1) (.slice A2 n2 k2)), .agg MC, .agg #[.int .i64 31, .int .i64 a, .int .i64 b, .int .i64 cc, .int .i64 n]] w fun e w' => e = .returned (.tuple #[.agg (cpuCells (trapC c 7) (.slice A1 n1 k1) (.slice A2 n2 k2)), .agg MC]) ∧ Below w.heap.size w w' := by
  have F0 := fr_made w (cpuCells c (.slice A1 n1 k1) (.slice A2 n2 k2)) MC #[.int .i64 31, .int .i64 a, .int .i64 b, .int .i64 cc, .int .i64 n]
  unfold zeros38 zeros41 at F0
  have FH := Lib.hid F0
  have haI : (a : Int) < 16 := by omega
  have hbI : (b : Int) < 16 := by omega
  have hcI : (cc : Int) < 16 := by omega
  have SM := Lib.hid hm
  have ONM := Lib.hid hm1
  have HLN := Lib.hid hl
  have qa := (F0.c.cell a).trans (cpuCells_reg hl _ _ ha)
  have qb := (F0.c.cell b).trans (cpuCells_reg hl _ _ hb)
  have GA := Lib.hid (cpuCells_reg hl (.slice A1 n1 k1) (.slice A2 n2 k2) ha)
  have GB := Lib.hid (cpuCells_reg hl (.slice A1 n1 k1) (.slice A2 n2 k2) hb)
  have GC := Lib.hid (cpuCells_reg hl (.slice A1 n1 k1) (.slice A2 n2 k2) hcc)
  have CT := Lib.hid (fun w => refothers_31_trap a b cc n (c.r.getD a 0) c A1 A2 n1 k1 n2 k2 w ha hb ux hl k hk hd)
  have SZ0 := Lib.hid (cpuCells_size hl (.slice A1 n1 k1) (.slice A2 n2 k2))
  clear F0 hm hm1 hl
  clear ux
  generalize (c.r.getD a 0) = ra at *
  generalize (c.r.getD b 0) = rb at *
  generalize (c.r.getD cc 0) = rc at *
  have hl2 : (trapC c 7 : Cp).r.length = 16 := by first | exact HLN.out | exact trapC_len HLN.out | (show (List.set _ _ _).length = 16; rw [List.length_set]; exact HLN.out)
  have SZ := Lib.hid (cpuCells_size hl2 (.slice A1 n1 k1) (.slice A2 n2 k2))
  have ONE := Lib.hid (cpu_one (trapC c 7) (o := (.slice A1 n1 k1)) (i := (.slice A2 n2 k2)) rfl rfl)
  clear hl2
  generalize hC2 : cpuCells (trapC c 7) (.slice A1 n1 k1) (.slice A2 n2 k2) = C2 at *
  have CE := Lib.hid hC2
  clear hC2
  clear hd hk
  generalize hC0 : cpuCells c (.slice A1 n1 k1) (.slice A2 n2 k2) = C0 at *
  go_enter Tryd.func26, Tryd.ntmps26
  go_wp2_with fail
  go_quiet (fail)
  have FD := Lib.hid (FH.out.drawn nq)
  clear FH qa qb
  generalize ((((((w.alloc (.cells C0 38)).alloc (.cells MC 41)).alloc (.cells #[.int .i64 31, .int .i64 a, .int .i64 b, .int .i64 cc, .int .i64 n] 54)).alloc (.cells #[.int .u32 0, .int .u32 0, .int .u32 0, .int .u32 0, .int .u32 0, .int .u32 0, .int .u32 0, .int .u32 0, .int .u32 0, .int .u32 0, .int .u32 0, .int .u32 0, .int .u32 0, .int .u32 0, .int .u32 0, .int .u32 0, .int .u32 0, .int .u32 0, .int .u32 0, .int .i64 0, .int .i64 0, .int .i64 0, .int .i64 0, .slice none 0 0, .int .u32 0, .int .u32 0, .int .u32 0, .int .u32 0, .slice none 0 0] 38)).alloc (.cells #[.int .u32 0, .int .u32 0, .int .u32 0, .int .u32 0, .int .u32 0, .slice none 0 0] 41)).drewN nq) = W at *
  have i0 : W.cell? ⟨w.heap.size + 1 + 1, 0, none⟩ = some (.int .i64 31) := FD.out.i.cell 0
  have i4 : W.cell? ⟨w.heap.size + 1 + 1, 4, none⟩ = some (.int .i64 n) := FD.out.i.cell 4
  have q16 : W.cell? ⟨w.heap.size, 16, none⟩ = some (.int .u32 c.pc) := by subst hC0; exact (FD.out.c.cell 16).trans (cpuCells_pc HLN.out _ _)
  have HC := Lib.hid FD.out.c
  have HM := Lib.hid FD.out.m
  have HI := Lib.hid FD.out.i
  have R1 := Lib.hid FD.out.r1
  have R2 := Lib.hid FD.out.r2
  have BV := Lib.hid FD.out.bel
  clear FD
  go_wp2_with fail
  refine held_start 7 rfl (S := fun y => Whole y w.heap.size 38 C0 ∧ Whole y (w.heap.size + 1) 41 MC ∧ Whole y (w.heap.size + 1 + 1) 54 #[.int .i64 31, .int .i64 a, .int .i64 b, .int .i64 cc, .int .i64 n]) (by kernel_rfl) ⟨HC.out.drew', HM.out.drew', HI.out.drew'⟩ (fun hS => ?_)
  refine wpAnyH_take (i := 0) (v := .agg C0) get0 ?_ ?_ ?_ ?_ ?_ hS ?_
  · kernel_rfl
  · kernel_rfl
  · kernel_rfl
  · exact fun _ _ _ h => h
  · exact take_load 38 (.tmp 3) rfl rfl (w.heap.size) rfl 38 C0 (fun _ h => h.1) _ Tryd.underlying38 rfl (infoCpu SZ0.out)
  refine wpAnyH_take (i := 1) (v := .agg #[.int .i64 31, .int .i64 a, .int .i64 b, .int .i64 cc, .int .i64 n]) get1 ?_ ?_ ?_ ?_ ?_ hS ?_
  · kernel_rfl
  · kernel_rfl
  · kernel_rfl
  · exact fun _ _ _ h => h
  · exact take_load 54 (.tmp 5) rfl rfl (w.heap.size + 1 + 1) (eval_ne (by decide) rfl) 54 _ (fun _ h => h.2.2) _ Tryd.underlying54 rfl (infoI rfl)
  refine wpAnyH_take (i := 2) (v := .int .u32 ra) get2 ?_ ?_ ?_ ?_ ?_ hS ?_
  · kernel_rfl
  · kernel_rfl
  · kernel_rfl
  · exact fun _ _ _ h => h
  · exact take_slot (.tmp 8) rfl rfl (eval_ne (by decide) (eval_ne (by decide) rfl))
  refine wpAnyH_take (i := 4) (v := .agg MC) get4 ?_ ?_ ?_ ?_ ?_ hS ?_
  · kernel_rfl
  · kernel_rfl
  · kernel_rfl
  · exact fun _ _ _ h => h
  · exact take_load 41 (.tmp 4) rfl rfl ((w.heap.size + 1)) (eval_ne (by decide) (eval_ne (by decide) (eval_ne (by decide) rfl))) 41 MC (fun _ h => h.2.1) _ Tryd.underlying41 rfl (infoMem SM.out)
  refine held_step get3 (by kernel_rfl) (fun K hK => ?_)
  refine step_call3 Tryd.func47 rfl rfl rfl rfl (.agg C0) (.agg #[.int .i64 31, .int .i64 a, .int .i64 b, .int .i64 cc, .int .i64 n]) (.int .u32 ra) (eval_ne (by decide) (eval_ne (by decide) (eval_ne (by decide) (eval_at (n := 193) rfl (by decide))))) (eval_ne (by decide) (eval_ne (by decide) (eval_at (n := 193) (size_put rfl) (by decide)))) (eval_ne (by decide) (eval_at (n := 193) (size_put (size_put rfl)) (by decide))) (CT.out _) ?_
  rintro e w1 ⟨rfl, hb1⟩
  refine ⟨_, rfl, ?_⟩
  have Z1 := Lib.hid (R1.out.drew'.below hb1 R1.out.lt)
  have Z2 := Lib.hid (R2.out.drew'.below hb1 R2.out.lt)
  have ZB := Lib.hid (BV.out.drew.trans (hb1.mono BV.out.size))
  refine hK.out _ _ ⟨hS.1.below hb1 HC.out.lt, hS.2.1.below hb1 HM.out.lt, hS.2.2.below hb1 HI.out.lt⟩ (fun hS2 => ?_)
  clear hK K hb1
  refine held_step get5 (by kernel_rfl) (fun K hK => ?_)
  refine step_store 38 (.tmp 6) (.tmp 81) rfl rfl (w.heap.size + 1 + 1 + 1) C2 (eval_ne (by decide) (eval_ne (by decide) (eval_ne (by decide) (eval_ne (by decide) (eval_ne (by decide) rfl))))) (eval_at (n := 193) (size_put (size_put (size_put (size_put rfl)))) (by decide)) 38 zeros38 Z1.out (infoCpu SZ.out) (by rw [SZ.out]; rfl) ONE.out ?_
  refine hK.out _ _ ⟨hS2.1.only (by omega) (Only.setRow _ (w.heap.size + 1 + 1 + 1) C2), hS2.2.1.only (by omega) (Only.setRow _ (w.heap.size + 1 + 1 + 1) C2), hS2.2.2.only (by omega) (Only.setRow _ (w.heap.size + 1 + 1 + 1) C2)⟩ (fun hS3 => ?_)
  clear hK K
  refine held_step get6 (by kernel_rfl) (fun K hK => ?_)
  refine step_store 41 (.tmp 7) (.tmp 82) rfl rfl (w.heap.size + 1 + 1 + 1 + 1) MC (eval_none (eval_ne (by decide) (eval_ne (by decide) (eval_ne (by decide) (eval_ne (by decide) (eval_ne (by decide) rfl)))))) (eval_none (eval_ne (by decide) (eval_at (n := 193) (size_put (size_put (size_put rfl))) (by decide)))) 41 zeros41 (Z2.out.only (by omega) (Only.setRow _ (w.heap.size + 1 + 1 + 1) C2)) (infoMem SM.out) (by rw [SM.out]; rfl) ONM.out ?_
  refine hK.out _ _ ⟨hS3.1.only (by omega) (Only.setRow _ (w.heap.size + 1 + 1 + 1 + 1) MC), hS3.2.1.only (by omega) (Only.setRow _ (w.heap.size + 1 + 1 + 1 + 1) MC), hS3.2.2.only (by omega) (Only.setRow _ (w.heap.size + 1 + 1 + 1 + 1) MC)⟩ (fun hS4 => ?_)
  clear hK K
  refine wpAnyH_done (by kernel_rfl) ?_ _
  go_wp2_with fail
  refine bodyPost_ret (v := .tuple #[.agg C2, .agg MC]) (results_two_rows2 rfl _ _ (w.heap.size + 1 + 1 + 1) (w.heap.size + 1 + 1 + 1 + 1) 38 41 C2 MC _ _ (eval_none (eval_none (eval_ne (by decide) (eval_ne (by decide) (eval_ne (by decide) (eval_ne (by decide) (eval_ne (by decide) rfl))))))) (eval_none (eval_none (eval_ne (by decide) (eval_ne (by decide) (eval_ne (by decide) (eval_ne (by decide) (eval_ne (by decide) rfl))))))) ((Z1.out.setRow C2).only (by omega) (Only.setRow _ (w.heap.size + 1 + 1 + 1 + 1) MC)) ((Z2.out.only (by omega) (Only.setRow _ (w.heap.size + 1 + 1 + 1) C2)).setRow MC) Tryd.underlying38 rfl (infoCpu SZ.out) Tryd.underlying41 rfl (infoMem SM.out)) rfl ⟨rfl, ((ZB.out.trans ((Only.setRow _ (w.heap.size + 1 + 1 + 1) C2).below (by omega) (by have := ZB.out.size; simpa using this))).trans ((Only.setRow _ (w.heap.size + 1 + 1 + 1 + 1) MC).below (by omega) (by have := ZB.out.size; simpa using this)))⟩

set_option maxHeartbeats 8000000 in
set_option maxRecDepth 100000 in
theorem refdo_32_pass (a b cc : Nat) (n : Int) (c : Cp) (A1 A2 : Option Addr) (n1 k1 n2 k2 : Nat) (MC : Array Value) (w : World) (ha : a < 16) (hb : b < 16) (hcc : cc < 16) (ub : 0 ≤ (c.r.getD b 0) ∧ (c.r.getD b 0) ≤ 4294967295) (uc : 0 ≤ (c.r.getD cc 0) ∧ (c.r.getD cc 0) ≤ 4294967295) (hl : c.r.length = 16) (hm : MC.size = 6) (hm1 : MC.all (·.oneCell') = true) (ux : 0 ≤ (c.r.getD a 0) ∧ (c.r.getD a 0) ≤ 4294967295) (hd : decide (wrap32 (c.r.getD a 0) < wrap32 c.li) = false) :
    Calls Tryd.prog 26 #[.agg (cpuCells c (.slice A1 n1 k1) (.slice A2 n2 k2)), .agg MC, .agg #[.int .i64 32, .int .i64 a, .int .i64 b, .int .i64 cc, .int .i64 n]] w fun e w' => e = .returned (.tuple #[.agg (cpuCells (passC c) (.slice A1 n1 k1) (.slice A2 n2 k2)), .agg MC]) ∧ Below w.heap.size w w' := by
  have F0 := fr_made w (cpuCells c (.slice A1 n1 k1) (.slice A2 n2 k2)) MC #[.int .i64 32, .int .i64 a, .int .i64 b, .int .i64 cc, .int .i64 n]
  unfold zeros38 zeros41 at F0
  have FH := Lib.hid F0
  have haI : (a : Int) < 16 := by omega
  have hbI : (b : Int) < 16 := by omega
  have hcI : (cc : Int) < 16 := by omega
  have SM := Lib.hid hm
  have ONM := Lib.hid hm1
  have HLN := Lib.hid hl
  have qa := (F0.c.cell a).trans (cpuCells_reg hl _ _ ha)
  have qb := (F0.c.cell b).trans (cpuCells_reg hl _ _ hb)
  have GA := Lib.hid (cpuCells_reg hl (.slice A1 n1 k1) (.slice A2 n2 k2) ha)
  have GB := Lib.hid (cpuCells_reg hl (.slice A1 n1 k1) (.slice A2 n2 k2) hb)
  have GC := Lib.hid (cpuCells_reg hl (.slice A1 n1 k1) (.slice A2 n2 k2) hcc)
  have CT := Lib.hid (fun w => refothers_32_pass a b cc n (c.r.getD a 0) c A1 A2 n1 k1 n2 k2 w ha hb ux hl hd)
  have SZ0 := Lib.hid (cpuCells_size hl (.slice A1 n1 k1) (.slice A2 n2 k2))
  clear F0 hm hm1 hl
  clear ux
  generalize (c.r.getD a 0) = ra at *
  generalize (c.r.getD b 0) = rb at *
  generalize (c.r.getD cc 0) = rc at *
  have hl2 : (passC c : Cp).r.length = 16 := by first | exact HLN.out | exact trapC_len HLN.out | (show (List.set _ _ _).length = 16; rw [List.length_set]; exact HLN.out)
  have SZ := Lib.hid (cpuCells_size hl2 (.slice A1 n1 k1) (.slice A2 n2 k2))
  have ONE := Lib.hid (cpu_one (passC c) (o := (.slice A1 n1 k1)) (i := (.slice A2 n2 k2)) rfl rfl)
  clear hl2
  generalize hC2 : cpuCells (passC c) (.slice A1 n1 k1) (.slice A2 n2 k2) = C2 at *
  have CE := Lib.hid hC2
  clear hC2
  clear hd
  generalize hC0 : cpuCells c (.slice A1 n1 k1) (.slice A2 n2 k2) = C0 at *
  go_enter Tryd.func26, Tryd.ntmps26
  go_wp2_with fail
  go_quiet (fail)
  have FD := Lib.hid (FH.out.drawn nq)
  clear FH qa qb
  generalize ((((((w.alloc (.cells C0 38)).alloc (.cells MC 41)).alloc (.cells #[.int .i64 32, .int .i64 a, .int .i64 b, .int .i64 cc, .int .i64 n] 54)).alloc (.cells #[.int .u32 0, .int .u32 0, .int .u32 0, .int .u32 0, .int .u32 0, .int .u32 0, .int .u32 0, .int .u32 0, .int .u32 0, .int .u32 0, .int .u32 0, .int .u32 0, .int .u32 0, .int .u32 0, .int .u32 0, .int .u32 0, .int .u32 0, .int .u32 0, .int .u32 0, .int .i64 0, .int .i64 0, .int .i64 0, .int .i64 0, .slice none 0 0, .int .u32 0, .int .u32 0, .int .u32 0, .int .u32 0, .slice none 0 0] 38)).alloc (.cells #[.int .u32 0, .int .u32 0, .int .u32 0, .int .u32 0, .int .u32 0, .slice none 0 0] 41)).drewN nq) = W at *
  have i0 : W.cell? ⟨w.heap.size + 1 + 1, 0, none⟩ = some (.int .i64 32) := FD.out.i.cell 0
  have i4 : W.cell? ⟨w.heap.size + 1 + 1, 4, none⟩ = some (.int .i64 n) := FD.out.i.cell 4
  have q16 : W.cell? ⟨w.heap.size, 16, none⟩ = some (.int .u32 c.pc) := by subst hC0; exact (FD.out.c.cell 16).trans (cpuCells_pc HLN.out _ _)
  have HC := Lib.hid FD.out.c
  have HM := Lib.hid FD.out.m
  have HI := Lib.hid FD.out.i
  have R1 := Lib.hid FD.out.r1
  have R2 := Lib.hid FD.out.r2
  have BV := Lib.hid FD.out.bel
  clear FD
  go_wp2_with fail
  refine held_start 7 rfl (S := fun y => Whole y w.heap.size 38 C0 ∧ Whole y (w.heap.size + 1) 41 MC ∧ Whole y (w.heap.size + 1 + 1) 54 #[.int .i64 32, .int .i64 a, .int .i64 b, .int .i64 cc, .int .i64 n]) (by kernel_rfl) ⟨HC.out.drew', HM.out.drew', HI.out.drew'⟩ (fun hS => ?_)
  refine wpAnyH_take (i := 0) (v := .agg C0) get0 ?_ ?_ ?_ ?_ ?_ hS ?_
  · kernel_rfl
  · kernel_rfl
  · kernel_rfl
  · exact fun _ _ _ h => h
  · exact take_load 38 (.tmp 3) rfl rfl (w.heap.size) rfl 38 C0 (fun _ h => h.1) _ Tryd.underlying38 rfl (infoCpu SZ0.out)
  refine wpAnyH_take (i := 1) (v := .agg #[.int .i64 32, .int .i64 a, .int .i64 b, .int .i64 cc, .int .i64 n]) get1 ?_ ?_ ?_ ?_ ?_ hS ?_
  · kernel_rfl
  · kernel_rfl
  · kernel_rfl
  · exact fun _ _ _ h => h
  · exact take_load 54 (.tmp 5) rfl rfl (w.heap.size + 1 + 1) (eval_ne (by decide) rfl) 54 _ (fun _ h => h.2.2) _ Tryd.underlying54 rfl (infoI rfl)
  refine wpAnyH_take (i := 2) (v := .int .u32 ra) get2 ?_ ?_ ?_ ?_ ?_ hS ?_
  · kernel_rfl
  · kernel_rfl
  · kernel_rfl
  · exact fun _ _ _ h => h
  · exact take_slot (.tmp 8) rfl rfl (eval_ne (by decide) (eval_ne (by decide) rfl))
  refine wpAnyH_take (i := 4) (v := .agg MC) get4 ?_ ?_ ?_ ?_ ?_ hS ?_
  · kernel_rfl
  · kernel_rfl
  · kernel_rfl
  · exact fun _ _ _ h => h
  · exact take_load 41 (.tmp 4) rfl rfl ((w.heap.size + 1)) (eval_ne (by decide) (eval_ne (by decide) (eval_ne (by decide) rfl))) 41 MC (fun _ h => h.2.1) _ Tryd.underlying41 rfl (infoMem SM.out)
  refine held_step get3 (by kernel_rfl) (fun K hK => ?_)
  refine step_call3 Tryd.func47 rfl rfl rfl rfl (.agg C0) (.agg #[.int .i64 32, .int .i64 a, .int .i64 b, .int .i64 cc, .int .i64 n]) (.int .u32 ra) (eval_ne (by decide) (eval_ne (by decide) (eval_ne (by decide) (eval_at (n := 193) rfl (by decide))))) (eval_ne (by decide) (eval_ne (by decide) (eval_at (n := 193) (size_put rfl) (by decide)))) (eval_ne (by decide) (eval_at (n := 193) (size_put (size_put rfl)) (by decide))) (CT.out _) ?_
  rintro e w1 ⟨rfl, hb1⟩
  refine ⟨_, rfl, ?_⟩
  have Z1 := Lib.hid (R1.out.drew'.below hb1 R1.out.lt)
  have Z2 := Lib.hid (R2.out.drew'.below hb1 R2.out.lt)
  have ZB := Lib.hid (BV.out.drew.trans (hb1.mono BV.out.size))
  refine hK.out _ _ ⟨hS.1.below hb1 HC.out.lt, hS.2.1.below hb1 HM.out.lt, hS.2.2.below hb1 HI.out.lt⟩ (fun hS2 => ?_)
  clear hK K hb1
  refine held_step get5 (by kernel_rfl) (fun K hK => ?_)
  refine step_store 38 (.tmp 6) (.tmp 81) rfl rfl (w.heap.size + 1 + 1 + 1) C2 (eval_ne (by decide) (eval_ne (by decide) (eval_ne (by decide) (eval_ne (by decide) (eval_ne (by decide) rfl))))) (eval_at (n := 193) (size_put (size_put (size_put (size_put rfl)))) (by decide)) 38 zeros38 Z1.out (infoCpu SZ.out) (by rw [SZ.out]; rfl) ONE.out ?_
  refine hK.out _ _ ⟨hS2.1.only (by omega) (Only.setRow _ (w.heap.size + 1 + 1 + 1) C2), hS2.2.1.only (by omega) (Only.setRow _ (w.heap.size + 1 + 1 + 1) C2), hS2.2.2.only (by omega) (Only.setRow _ (w.heap.size + 1 + 1 + 1) C2)⟩ (fun hS3 => ?_)
  clear hK K
  refine held_step get6 (by kernel_rfl) (fun K hK => ?_)
  refine step_store 41 (.tmp 7) (.tmp 82) rfl rfl (w.heap.size + 1 + 1 + 1 + 1) MC (eval_none (eval_ne (by decide) (eval_ne (by decide) (eval_ne (by decide) (eval_ne (by decide) (eval_ne (by decide) rfl)))))) (eval_none (eval_ne (by decide) (eval_at (n := 193) (size_put (size_put (size_put rfl))) (by decide)))) 41 zeros41 (Z2.out.only (by omega) (Only.setRow _ (w.heap.size + 1 + 1 + 1) C2)) (infoMem SM.out) (by rw [SM.out]; rfl) ONM.out ?_
  refine hK.out _ _ ⟨hS3.1.only (by omega) (Only.setRow _ (w.heap.size + 1 + 1 + 1 + 1) MC), hS3.2.1.only (by omega) (Only.setRow _ (w.heap.size + 1 + 1 + 1 + 1) MC), hS3.2.2.only (by omega) (Only.setRow _ (w.heap.size + 1 + 1 + 1 + 1) MC)⟩ (fun hS4 => ?_)
  clear hK K
  refine wpAnyH_done (by kernel_rfl) ?_ _
  go_wp2_with fail
  refine bodyPost_ret (v := .tuple #[.agg C2, .agg MC]) (results_two_rows2 rfl _ _ (w.heap.size + 1 + 1 + 1) (w.heap.size + 1 + 1 + 1 + 1) 38 41 C2 MC _ _ (eval_none (eval_none (eval_ne (by decide) (eval_ne (by decide) (eval_ne (by decide) (eval_ne (by decide) (eval_ne (by decide) rfl))))))) (eval_none (eval_none (eval_ne (by decide) (eval_ne (by decide) (eval_ne (by decide) (eval_ne (by decide) (eval_ne (by decide) rfl))))))) ((Z1.out.setRow C2).only (by omega) (Only.setRow _ (w.heap.size + 1 + 1 + 1 + 1) MC)) ((Z2.out.only (by omega) (Only.setRow _ (w.heap.size + 1 + 1 + 1) C2)).setRow MC) Tryd.underlying38 rfl (infoCpu SZ.out) Tryd.underlying41 rfl (infoMem SM.out)) rfl ⟨rfl, ((ZB.out.trans ((Only.setRow _ (w.heap.size + 1 + 1 + 1) C2).below (by omega) (by have := ZB.out.size; simpa using this))).trans ((Only.setRow _ (w.heap.size + 1 + 1 + 1 + 1) MC).below (by omega) (by have := ZB.out.size; simpa using this)))⟩

set_option maxHeartbeats 8000000 in
set_option maxRecDepth 100000 in
theorem refdo_32_trap (a b cc : Nat) (n : Int) (c : Cp) (A1 A2 : Option Addr) (n1 k1 n2 k2 : Nat) (MC : Array Value) (w : World) (ha : a < 16) (hb : b < 16) (hcc : cc < 16) (ub : 0 ≤ (c.r.getD b 0) ∧ (c.r.getD b 0) ≤ 4294967295) (uc : 0 ≤ (c.r.getD cc 0) ∧ (c.r.getD cc 0) ≤ 4294967295) (hl : c.r.length = 16) (hm : MC.size = 6) (hm1 : MC.all (·.oneCell') = true) (ux : 0 ≤ (c.r.getD a 0) ∧ (c.r.getD a 0) ≤ 4294967295) (hd : decide (wrap32 (c.r.getD a 0) < wrap32 c.li) = true) :
    Calls Tryd.prog 26 #[.agg (cpuCells c (.slice A1 n1 k1) (.slice A2 n2 k2)), .agg MC, .agg #[.int .i64 32, .int .i64 a, .int .i64 b, .int .i64 cc, .int .i64 n]] w fun e w' => e = .returned (.tuple #[.agg (cpuCells (trapC c 5) (.slice A1 n1 k1) (.slice A2 n2 k2)), .agg MC]) ∧ Below w.heap.size w w' := by
  have F0 := fr_made w (cpuCells c (.slice A1 n1 k1) (.slice A2 n2 k2)) MC #[.int .i64 32, .int .i64 a, .int .i64 b, .int .i64 cc, .int .i64 n]
  unfold zeros38 zeros41 at F0
  have FH := Lib.hid F0
  have haI : (a : Int) < 16 := by omega
  have hbI : (b : Int) < 16 := by omega
  have hcI : (cc : Int) < 16 := by omega
  have SM := Lib.hid hm
  have ONM := Lib.hid hm1
  have HLN := Lib.hid hl
  have qa := (F0.c.cell a).trans (cpuCells_reg hl _ _ ha)
  have qb := (F0.c.cell b).trans (cpuCells_reg hl _ _ hb)
  have GA := Lib.hid (cpuCells_reg hl (.slice A1 n1 k1) (.slice A2 n2 k2) ha)
  have GB := Lib.hid (cpuCells_reg hl (.slice A1 n1 k1) (.slice A2 n2 k2) hb)
  have GC := Lib.hid (cpuCells_reg hl (.slice A1 n1 k1) (.slice A2 n2 k2) hcc)
  have CT := Lib.hid (fun w => refothers_32_trap a b cc n (c.r.getD a 0) c A1 A2 n1 k1 n2 k2 w ha hb ux hl hd)
  have SZ0 := Lib.hid (cpuCells_size hl (.slice A1 n1 k1) (.slice A2 n2 k2))
  clear F0 hm hm1 hl
  clear ux
  generalize (c.r.getD a 0) = ra at *
  generalize (c.r.getD b 0) = rb at *
  generalize (c.r.getD cc 0) = rc at *
  have hl2 : (trapC c 5 : Cp).r.length = 16 := by first | exact HLN.out | exact trapC_len HLN.out | (show (List.set _ _ _).length = 16; rw [List.length_set]; exact HLN.out)
  have SZ := Lib.hid (cpuCells_size hl2 (.slice A1 n1 k1) (.slice A2 n2 k2))
  have ONE := Lib.hid (cpu_one (trapC c 5) (o := (.slice A1 n1 k1)) (i := (.slice A2 n2 k2)) rfl rfl)
  clear hl2
  generalize hC2 : cpuCells (trapC c 5) (.slice A1 n1 k1) (.slice A2 n2 k2) = C2 at *
  have CE := Lib.hid hC2
  clear hC2
  clear hd
  generalize hC0 : cpuCells c (.slice A1 n1 k1) (.slice A2 n2 k2) = C0 at *
  go_enter Tryd.func26, Tryd.ntmps26
  go_wp2_with fail
  go_quiet (fail)
  have FD := Lib.hid (FH.out.drawn nq)
  clear FH qa qb
  generalize ((((((w.alloc (.cells C0 38)).alloc (.cells MC 41)).alloc (.cells #[.int .i64 32, .int .i64 a, .int .i64 b, .int .i64 cc, .int .i64 n] 54)).alloc (.cells #[.int .u32 0, .int .u32 0, .int .u32 0, .int .u32 0, .int .u32 0, .int .u32 0, .int .u32 0, .int .u32 0, .int .u32 0, .int .u32 0, .int .u32 0, .int .u32 0, .int .u32 0, .int .u32 0, .int .u32 0, .int .u32 0, .int .u32 0, .int .u32 0, .int .u32 0, .int .i64 0, .int .i64 0, .int .i64 0, .int .i64 0, .slice none 0 0, .int .u32 0, .int .u32 0, .int .u32 0, .int .u32 0, .slice none 0 0] 38)).alloc (.cells #[.int .u32 0, .int .u32 0, .int .u32 0, .int .u32 0, .int .u32 0, .slice none 0 0] 41)).drewN nq) = W at *
  have i0 : W.cell? ⟨w.heap.size + 1 + 1, 0, none⟩ = some (.int .i64 32) := FD.out.i.cell 0
  have i4 : W.cell? ⟨w.heap.size + 1 + 1, 4, none⟩ = some (.int .i64 n) := FD.out.i.cell 4
  have q16 : W.cell? ⟨w.heap.size, 16, none⟩ = some (.int .u32 c.pc) := by subst hC0; exact (FD.out.c.cell 16).trans (cpuCells_pc HLN.out _ _)
  have HC := Lib.hid FD.out.c
  have HM := Lib.hid FD.out.m
  have HI := Lib.hid FD.out.i
  have R1 := Lib.hid FD.out.r1
  have R2 := Lib.hid FD.out.r2
  have BV := Lib.hid FD.out.bel
  clear FD
  go_wp2_with fail
  refine held_start 7 rfl (S := fun y => Whole y w.heap.size 38 C0 ∧ Whole y (w.heap.size + 1) 41 MC ∧ Whole y (w.heap.size + 1 + 1) 54 #[.int .i64 32, .int .i64 a, .int .i64 b, .int .i64 cc, .int .i64 n]) (by kernel_rfl) ⟨HC.out.drew', HM.out.drew', HI.out.drew'⟩ (fun hS => ?_)
  refine wpAnyH_take (i := 0) (v := .agg C0) get0 ?_ ?_ ?_ ?_ ?_ hS ?_
  · kernel_rfl
  · kernel_rfl
  · kernel_rfl
  · exact fun _ _ _ h => h
  · exact take_load 38 (.tmp 3) rfl rfl (w.heap.size) rfl 38 C0 (fun _ h => h.1) _ Tryd.underlying38 rfl (infoCpu SZ0.out)
  refine wpAnyH_take (i := 1) (v := .agg #[.int .i64 32, .int .i64 a, .int .i64 b, .int .i64 cc, .int .i64 n]) get1 ?_ ?_ ?_ ?_ ?_ hS ?_
  · kernel_rfl
  · kernel_rfl
  · kernel_rfl
  · exact fun _ _ _ h => h
  · exact take_load 54 (.tmp 5) rfl rfl (w.heap.size + 1 + 1) (eval_ne (by decide) rfl) 54 _ (fun _ h => h.2.2) _ Tryd.underlying54 rfl (infoI rfl)
  refine wpAnyH_take (i := 2) (v := .int .u32 ra) get2 ?_ ?_ ?_ ?_ ?_ hS ?_
  · kernel_rfl
  · kernel_rfl
  · kernel_rfl
  · exact fun _ _ _ h => h
  · exact take_slot (.tmp 8) rfl rfl (eval_ne (by decide) (eval_ne (by decide) rfl))
  refine wpAnyH_take (i := 4) (v := .agg MC) get4 ?_ ?_ ?_ ?_ ?_ hS ?_
  · kernel_rfl
  · kernel_rfl
  · kernel_rfl
  · exact fun _ _ _ h => h
  · exact take_load 41 (.tmp 4) rfl rfl ((w.heap.size + 1)) (eval_ne (by decide) (eval_ne (by decide) (eval_ne (by decide) rfl))) 41 MC (fun _ h => h.2.1) _ Tryd.underlying41 rfl (infoMem SM.out)
  refine held_step get3 (by kernel_rfl) (fun K hK => ?_)
  refine step_call3 Tryd.func47 rfl rfl rfl rfl (.agg C0) (.agg #[.int .i64 32, .int .i64 a, .int .i64 b, .int .i64 cc, .int .i64 n]) (.int .u32 ra) (eval_ne (by decide) (eval_ne (by decide) (eval_ne (by decide) (eval_at (n := 193) rfl (by decide))))) (eval_ne (by decide) (eval_ne (by decide) (eval_at (n := 193) (size_put rfl) (by decide)))) (eval_ne (by decide) (eval_at (n := 193) (size_put (size_put rfl)) (by decide))) (CT.out _) ?_
  rintro e w1 ⟨rfl, hb1⟩
  refine ⟨_, rfl, ?_⟩
  have Z1 := Lib.hid (R1.out.drew'.below hb1 R1.out.lt)
  have Z2 := Lib.hid (R2.out.drew'.below hb1 R2.out.lt)
  have ZB := Lib.hid (BV.out.drew.trans (hb1.mono BV.out.size))
  refine hK.out _ _ ⟨hS.1.below hb1 HC.out.lt, hS.2.1.below hb1 HM.out.lt, hS.2.2.below hb1 HI.out.lt⟩ (fun hS2 => ?_)
  clear hK K hb1
  refine held_step get5 (by kernel_rfl) (fun K hK => ?_)
  refine step_store 38 (.tmp 6) (.tmp 81) rfl rfl (w.heap.size + 1 + 1 + 1) C2 (eval_ne (by decide) (eval_ne (by decide) (eval_ne (by decide) (eval_ne (by decide) (eval_ne (by decide) rfl))))) (eval_at (n := 193) (size_put (size_put (size_put (size_put rfl)))) (by decide)) 38 zeros38 Z1.out (infoCpu SZ.out) (by rw [SZ.out]; rfl) ONE.out ?_
  refine hK.out _ _ ⟨hS2.1.only (by omega) (Only.setRow _ (w.heap.size + 1 + 1 + 1) C2), hS2.2.1.only (by omega) (Only.setRow _ (w.heap.size + 1 + 1 + 1) C2), hS2.2.2.only (by omega) (Only.setRow _ (w.heap.size + 1 + 1 + 1) C2)⟩ (fun hS3 => ?_)
  clear hK K
  refine held_step get6 (by kernel_rfl) (fun K hK => ?_)
  refine step_store 41 (.tmp 7) (.tmp 82) rfl rfl (w.heap.size + 1 + 1 + 1 + 1) MC (eval_none (eval_ne (by decide) (eval_ne (by decide) (eval_ne (by decide) (eval_ne (by decide) (eval_ne (by decide) rfl)))))) (eval_none (eval_ne (by decide) (eval_at (n := 193) (size_put (size_put (size_put rfl))) (by decide)))) 41 zeros41 (Z2.out.only (by omega) (Only.setRow _ (w.heap.size + 1 + 1 + 1) C2)) (infoMem SM.out) (by rw [SM.out]; rfl) ONM.out ?_
  refine hK.out _ _ ⟨hS3.1.only (by omega) (Only.setRow _ (w.heap.size + 1 + 1 + 1 + 1) MC), hS3.2.1.only (by omega) (Only.setRow _ (w.heap.size + 1 + 1 + 1 + 1) MC), hS3.2.2.only (by omega) (Only.setRow _ (w.heap.size + 1 + 1 + 1 + 1) MC)⟩ (fun hS4 => ?_)
  clear hK K
  refine wpAnyH_done (by kernel_rfl) ?_ _
  go_wp2_with fail
  refine bodyPost_ret (v := .tuple #[.agg C2, .agg MC]) (results_two_rows2 rfl _ _ (w.heap.size + 1 + 1 + 1) (w.heap.size + 1 + 1 + 1 + 1) 38 41 C2 MC _ _ (eval_none (eval_none (eval_ne (by decide) (eval_ne (by decide) (eval_ne (by decide) (eval_ne (by decide) (eval_ne (by decide) rfl))))))) (eval_none (eval_none (eval_ne (by decide) (eval_ne (by decide) (eval_ne (by decide) (eval_ne (by decide) (eval_ne (by decide) rfl))))))) ((Z1.out.setRow C2).only (by omega) (Only.setRow _ (w.heap.size + 1 + 1 + 1 + 1) MC)) ((Z2.out.only (by omega) (Only.setRow _ (w.heap.size + 1 + 1 + 1) C2)).setRow MC) Tryd.underlying38 rfl (infoCpu SZ.out) Tryd.underlying41 rfl (infoMem SM.out)) rfl ⟨rfl, ((ZB.out.trans ((Only.setRow _ (w.heap.size + 1 + 1 + 1) C2).below (by omega) (by have := ZB.out.size; simpa using this))).trans ((Only.setRow _ (w.heap.size + 1 + 1 + 1 + 1) MC).below (by omega) (by have := ZB.out.size; simpa using this)))⟩

set_option maxHeartbeats 8000000 in
set_option maxRecDepth 100000 in
theorem refdo_33_bad (a b cc : Nat) (n : Int) (c : Cp) (A1 A2 : Option Addr) (n1 k1 n2 k2 : Nat) (MC : Array Value) (w : World) (ha : a < 16) (hb : b < 16) (hcc : cc < 16) (ub : 0 ≤ (c.r.getD b 0) ∧ (c.r.getD b 0) ≤ 4294967295) (uc : 0 ≤ (c.r.getD cc 0) ∧ (c.r.getD cc 0) ≤ 4294967295) (hl : c.r.length = 16) (hm : MC.size = 6) (hm1 : MC.all (·.oneCell') = true) (ux : 0 ≤ (c.r.getD a 0) ∧ (c.r.getD a 0) ≤ 4294967295) (hd : decide (1 < n) = true) :
    Calls Tryd.prog 26 #[.agg (cpuCells c (.slice A1 n1 k1) (.slice A2 n2 k2)), .agg MC, .agg #[.int .i64 33, .int .i64 a, .int .i64 b, .int .i64 cc, .int .i64 n]] w fun e w' => e = .returned (.tuple #[.agg (cpuCells (faultC c 20) (.slice A1 n1 k1) (.slice A2 n2 k2)), .agg MC]) ∧ Below w.heap.size w w' := by
  have F0 := fr_made w (cpuCells c (.slice A1 n1 k1) (.slice A2 n2 k2)) MC #[.int .i64 33, .int .i64 a, .int .i64 b, .int .i64 cc, .int .i64 n]
  unfold zeros38 zeros41 at F0
  have FH := Lib.hid F0
  have haI : (a : Int) < 16 := by omega
  have hbI : (b : Int) < 16 := by omega
  have hcI : (cc : Int) < 16 := by omega
  have SM := Lib.hid hm
  have ONM := Lib.hid hm1
  have HLN := Lib.hid hl
  have qa := (F0.c.cell a).trans (cpuCells_reg hl _ _ ha)
  have qb := (F0.c.cell b).trans (cpuCells_reg hl _ _ hb)
  have GA := Lib.hid (cpuCells_reg hl (.slice A1 n1 k1) (.slice A2 n2 k2) ha)
  have GB := Lib.hid (cpuCells_reg hl (.slice A1 n1 k1) (.slice A2 n2 k2) hb)
  have GC := Lib.hid (cpuCells_reg hl (.slice A1 n1 k1) (.slice A2 n2 k2) hcc)
  have CT := Lib.hid (fun w => refothers_33_bad a b cc n (c.r.getD a 0) c A1 A2 n1 k1 n2 k2 w ha hb ux hl hd)
  have SZ0 := Lib.hid (cpuCells_size hl (.slice A1 n1 k1) (.slice A2 n2 k2))
  clear F0 hm hm1 hl
  clear ux
  generalize (c.r.getD a 0) = ra at *
  generalize (c.r.getD b 0) = rb at *
  generalize (c.r.getD cc 0) = rc at *
  have hl2 : (faultC c 20 : Cp).r.length = 16 := by first | exact HLN.out | exact trapC_len HLN.out | (show (List.set _ _ _).length = 16; rw [List.length_set]; exact HLN.out)
  have SZ := Lib.hid (cpuCells_size hl2 (.slice A1 n1 k1) (.slice A2 n2 k2))
  have ONE := Lib.hid (cpu_one (faultC c 20) (o := (.slice A1 n1 k1)) (i := (.slice A2 n2 k2)) rfl rfl)
  clear hl2
  generalize hC2 : cpuCells (faultC c 20) (.slice A1 n1 k1) (.slice A2 n2 k2) = C2 at *
  have CE := Lib.hid hC2
  clear hC2
  clear hd
  generalize hC0 : cpuCells c (.slice A1 n1 k1) (.slice A2 n2 k2) = C0 at *
  go_enter Tryd.func26, Tryd.ntmps26
  go_wp2_with fail
  go_quiet (fail)
  have FD := Lib.hid (FH.out.drawn nq)
  clear FH qa qb
  generalize ((((((w.alloc (.cells C0 38)).alloc (.cells MC 41)).alloc (.cells #[.int .i64 33, .int .i64 a, .int .i64 b, .int .i64 cc, .int .i64 n] 54)).alloc (.cells #[.int .u32 0, .int .u32 0, .int .u32 0, .int .u32 0, .int .u32 0, .int .u32 0, .int .u32 0, .int .u32 0, .int .u32 0, .int .u32 0, .int .u32 0, .int .u32 0, .int .u32 0, .int .u32 0, .int .u32 0, .int .u32 0, .int .u32 0, .int .u32 0, .int .u32 0, .int .i64 0, .int .i64 0, .int .i64 0, .int .i64 0, .slice none 0 0, .int .u32 0, .int .u32 0, .int .u32 0, .int .u32 0, .slice none 0 0] 38)).alloc (.cells #[.int .u32 0, .int .u32 0, .int .u32 0, .int .u32 0, .int .u32 0, .slice none 0 0] 41)).drewN nq) = W at *
  have i0 : W.cell? ⟨w.heap.size + 1 + 1, 0, none⟩ = some (.int .i64 33) := FD.out.i.cell 0
  have i4 : W.cell? ⟨w.heap.size + 1 + 1, 4, none⟩ = some (.int .i64 n) := FD.out.i.cell 4
  have q16 : W.cell? ⟨w.heap.size, 16, none⟩ = some (.int .u32 c.pc) := by subst hC0; exact (FD.out.c.cell 16).trans (cpuCells_pc HLN.out _ _)
  have HC := Lib.hid FD.out.c
  have HM := Lib.hid FD.out.m
  have HI := Lib.hid FD.out.i
  have R1 := Lib.hid FD.out.r1
  have R2 := Lib.hid FD.out.r2
  have BV := Lib.hid FD.out.bel
  clear FD
  go_wp2_with fail
  refine held_start 7 rfl (S := fun y => Whole y w.heap.size 38 C0 ∧ Whole y (w.heap.size + 1) 41 MC ∧ Whole y (w.heap.size + 1 + 1) 54 #[.int .i64 33, .int .i64 a, .int .i64 b, .int .i64 cc, .int .i64 n]) (by kernel_rfl) ⟨HC.out.drew', HM.out.drew', HI.out.drew'⟩ (fun hS => ?_)
  refine wpAnyH_take (i := 0) (v := .agg C0) get0 ?_ ?_ ?_ ?_ ?_ hS ?_
  · kernel_rfl
  · kernel_rfl
  · kernel_rfl
  · exact fun _ _ _ h => h
  · exact take_load 38 (.tmp 3) rfl rfl (w.heap.size) rfl 38 C0 (fun _ h => h.1) _ Tryd.underlying38 rfl (infoCpu SZ0.out)
  refine wpAnyH_take (i := 1) (v := .agg #[.int .i64 33, .int .i64 a, .int .i64 b, .int .i64 cc, .int .i64 n]) get1 ?_ ?_ ?_ ?_ ?_ hS ?_
  · kernel_rfl
  · kernel_rfl
  · kernel_rfl
  · exact fun _ _ _ h => h
  · exact take_load 54 (.tmp 5) rfl rfl (w.heap.size + 1 + 1) (eval_ne (by decide) rfl) 54 _ (fun _ h => h.2.2) _ Tryd.underlying54 rfl (infoI rfl)
  refine wpAnyH_take (i := 2) (v := .int .u32 ra) get2 ?_ ?_ ?_ ?_ ?_ hS ?_
  · kernel_rfl
  · kernel_rfl
  · kernel_rfl
  · exact fun _ _ _ h => h
  · exact take_slot (.tmp 8) rfl rfl (eval_ne (by decide) (eval_ne (by decide) rfl))
  refine wpAnyH_take (i := 4) (v := .agg MC) get4 ?_ ?_ ?_ ?_ ?_ hS ?_
  · kernel_rfl
  · kernel_rfl
  · kernel_rfl
  · exact fun _ _ _ h => h
  · exact take_load 41 (.tmp 4) rfl rfl ((w.heap.size + 1)) (eval_ne (by decide) (eval_ne (by decide) (eval_ne (by decide) rfl))) 41 MC (fun _ h => h.2.1) _ Tryd.underlying41 rfl (infoMem SM.out)
  refine held_step get3 (by kernel_rfl) (fun K hK => ?_)
  refine step_call3 Tryd.func47 rfl rfl rfl rfl (.agg C0) (.agg #[.int .i64 33, .int .i64 a, .int .i64 b, .int .i64 cc, .int .i64 n]) (.int .u32 ra) (eval_ne (by decide) (eval_ne (by decide) (eval_ne (by decide) (eval_at (n := 193) rfl (by decide))))) (eval_ne (by decide) (eval_ne (by decide) (eval_at (n := 193) (size_put rfl) (by decide)))) (eval_ne (by decide) (eval_at (n := 193) (size_put (size_put rfl)) (by decide))) (CT.out _) ?_
  rintro e w1 ⟨rfl, hb1⟩
  refine ⟨_, rfl, ?_⟩
  have Z1 := Lib.hid (R1.out.drew'.below hb1 R1.out.lt)
  have Z2 := Lib.hid (R2.out.drew'.below hb1 R2.out.lt)
  have ZB := Lib.hid (BV.out.drew.trans (hb1.mono BV.out.size))
  refine hK.out _ _ ⟨hS.1.below hb1 HC.out.lt, hS.2.1.below hb1 HM.out.lt, hS.2.2.below hb1 HI.out.lt⟩ (fun hS2 => ?_)
  clear hK K hb1
  refine held_step get5 (by kernel_rfl) (fun K hK => ?_)
  refine step_store 38 (.tmp 6) (.tmp 81) rfl rfl (w.heap.size + 1 + 1 + 1) C2 (eval_ne (by decide) (eval_ne (by decide) (eval_ne (by decide) (eval_ne (by decide) (eval_ne (by decide) rfl))))) (eval_at (n := 193) (size_put (size_put (size_put (size_put rfl)))) (by decide)) 38 zeros38 Z1.out (infoCpu SZ.out) (by rw [SZ.out]; rfl) ONE.out ?_
  refine hK.out _ _ ⟨hS2.1.only (by omega) (Only.setRow _ (w.heap.size + 1 + 1 + 1) C2), hS2.2.1.only (by omega) (Only.setRow _ (w.heap.size + 1 + 1 + 1) C2), hS2.2.2.only (by omega) (Only.setRow _ (w.heap.size + 1 + 1 + 1) C2)⟩ (fun hS3 => ?_)
  clear hK K
  refine held_step get6 (by kernel_rfl) (fun K hK => ?_)
  refine step_store 41 (.tmp 7) (.tmp 82) rfl rfl (w.heap.size + 1 + 1 + 1 + 1) MC (eval_none (eval_ne (by decide) (eval_ne (by decide) (eval_ne (by decide) (eval_ne (by decide) (eval_ne (by decide) rfl)))))) (eval_none (eval_ne (by decide) (eval_at (n := 193) (size_put (size_put (size_put rfl))) (by decide)))) 41 zeros41 (Z2.out.only (by omega) (Only.setRow _ (w.heap.size + 1 + 1 + 1) C2)) (infoMem SM.out) (by rw [SM.out]; rfl) ONM.out ?_
  refine hK.out _ _ ⟨hS3.1.only (by omega) (Only.setRow _ (w.heap.size + 1 + 1 + 1 + 1) MC), hS3.2.1.only (by omega) (Only.setRow _ (w.heap.size + 1 + 1 + 1 + 1) MC), hS3.2.2.only (by omega) (Only.setRow _ (w.heap.size + 1 + 1 + 1 + 1) MC)⟩ (fun hS4 => ?_)
  clear hK K
  refine wpAnyH_done (by kernel_rfl) ?_ _
  go_wp2_with fail
  refine bodyPost_ret (v := .tuple #[.agg C2, .agg MC]) (results_two_rows2 rfl _ _ (w.heap.size + 1 + 1 + 1) (w.heap.size + 1 + 1 + 1 + 1) 38 41 C2 MC _ _ (eval_none (eval_none (eval_ne (by decide) (eval_ne (by decide) (eval_ne (by decide) (eval_ne (by decide) (eval_ne (by decide) rfl))))))) (eval_none (eval_none (eval_ne (by decide) (eval_ne (by decide) (eval_ne (by decide) (eval_ne (by decide) (eval_ne (by decide) rfl))))))) ((Z1.out.setRow C2).only (by omega) (Only.setRow _ (w.heap.size + 1 + 1 + 1 + 1) MC)) ((Z2.out.only (by omega) (Only.setRow _ (w.heap.size + 1 + 1 + 1) C2)).setRow MC) Tryd.underlying38 rfl (infoCpu SZ.out) Tryd.underlying41 rfl (infoMem SM.out)) rfl ⟨rfl, ((ZB.out.trans ((Only.setRow _ (w.heap.size + 1 + 1 + 1) C2).below (by omega) (by have := ZB.out.size; simpa using this))).trans ((Only.setRow _ (w.heap.size + 1 + 1 + 1 + 1) MC).below (by omega) (by have := ZB.out.size; simpa using this)))⟩

set_option maxHeartbeats 8000000 in
set_option maxRecDepth 100000 in
theorem refdo_33_0 (a b cc : Nat) (n : Int) (c : Cp) (A1 A2 : Option Addr) (n1 k1 n2 k2 : Nat) (MC : Array Value) (w : World) (ha : a < 16) (hb : b < 16) (hcc : cc < 16) (ub : 0 ≤ (c.r.getD b 0) ∧ (c.r.getD b 0) ≤ 4294967295) (uc : 0 ≤ (c.r.getD cc 0) ∧ (c.r.getD cc 0) ≤ 4294967295) (hl : c.r.length = 16) (hm : MC.size = 6) (hm1 : MC.all (·.oneCell') = true) (ux : 0 ≤ (c.r.getD a 0) ∧ (c.r.getD a 0) ≤ 4294967295) (hd : decide (1 < n) = false) (hd1 : (n == 1) = false) :
    Calls Tryd.prog 26 #[.agg (cpuCells c (.slice A1 n1 k1) (.slice A2 n2 k2)), .agg MC, .agg #[.int .i64 33, .int .i64 a, .int .i64 b, .int .i64 cc, .int .i64 n]] w fun e w' => e = .returned (.tuple #[.agg (cpuCells (setC c a c.epc) (.slice A1 n1 k1) (.slice A2 n2 k2)), .agg MC]) ∧ Below w.heap.size w w' := by
  have F0 := fr_made w (cpuCells c (.slice A1 n1 k1) (.slice A2 n2 k2)) MC #[.int .i64 33, .int .i64 a, .int .i64 b, .int .i64 cc, .int .i64 n]
  unfold zeros38 zeros41 at F0
  have FH := Lib.hid F0
  have haI : (a : Int) < 16 := by omega
  have hbI : (b : Int) < 16 := by omega
  have hcI : (cc : Int) < 16 := by omega
  have SM := Lib.hid hm
  have ONM := Lib.hid hm1
  have HLN := Lib.hid hl
  have qa := (F0.c.cell a).trans (cpuCells_reg hl _ _ ha)
  have qb := (F0.c.cell b).trans (cpuCells_reg hl _ _ hb)
  have GA := Lib.hid (cpuCells_reg hl (.slice A1 n1 k1) (.slice A2 n2 k2) ha)
  have GB := Lib.hid (cpuCells_reg hl (.slice A1 n1 k1) (.slice A2 n2 k2) hb)
  have GC := Lib.hid (cpuCells_reg hl (.slice A1 n1 k1) (.slice A2 n2 k2) hcc)
  have CT := Lib.hid (fun w => refothers_33_0 a b cc n (c.r.getD a 0) c A1 A2 n1 k1 n2 k2 w ha hb ux hl hd hd1)
  have SZ0 := Lib.hid (cpuCells_size hl (.slice A1 n1 k1) (.slice A2 n2 k2))
  clear F0 hm hm1 hl
  clear ux
  generalize (c.r.getD a 0) = ra at *
  generalize (c.r.getD b 0) = rb at *
  generalize (c.r.getD cc 0) = rc at *
  have hl2 : (setC c a c.epc : Cp).r.length = 16 := by first | exact HLN.out | exact trapC_len HLN.out | (show (List.set _ _ _).length = 16; rw [List.length_set]; exact HLN.out)
  have SZ := Lib.hid (cpuCells_size hl2 (.slice A1 n1 k1) (.slice A2 n2 k2))
  have ONE := Lib.hid (cpu_one (setC c a c.epc) (o := (.slice A1 n1 k1)) (i := (.slice A2 n2 k2)) rfl rfl)
  clear hl2
  generalize hC2 : cpuCells (setC c a c.epc) (.slice A1 n1 k1) (.slice A2 n2 k2) = C2 at *
  have CE := Lib.hid hC2
  clear hC2
  clear hd hd1
  generalize hC0 : cpuCells c (.slice A1 n1 k1) (.slice A2 n2 k2) = C0 at *
  go_enter Tryd.func26, Tryd.ntmps26
  go_wp2_with fail
  go_quiet (fail)
  have FD := Lib.hid (FH.out.drawn nq)
  clear FH qa qb
  generalize ((((((w.alloc (.cells C0 38)).alloc (.cells MC 41)).alloc (.cells #[.int .i64 33, .int .i64 a, .int .i64 b, .int .i64 cc, .int .i64 n] 54)).alloc (.cells #[.int .u32 0, .int .u32 0, .int .u32 0, .int .u32 0, .int .u32 0, .int .u32 0, .int .u32 0, .int .u32 0, .int .u32 0, .int .u32 0, .int .u32 0, .int .u32 0, .int .u32 0, .int .u32 0, .int .u32 0, .int .u32 0, .int .u32 0, .int .u32 0, .int .u32 0, .int .i64 0, .int .i64 0, .int .i64 0, .int .i64 0, .slice none 0 0, .int .u32 0, .int .u32 0, .int .u32 0, .int .u32 0, .slice none 0 0] 38)).alloc (.cells #[.int .u32 0, .int .u32 0, .int .u32 0, .int .u32 0, .int .u32 0, .slice none 0 0] 41)).drewN nq) = W at *
  have i0 : W.cell? ⟨w.heap.size + 1 + 1, 0, none⟩ = some (.int .i64 33) := FD.out.i.cell 0
  have i4 : W.cell? ⟨w.heap.size + 1 + 1, 4, none⟩ = some (.int .i64 n) := FD.out.i.cell 4
  have q16 : W.cell? ⟨w.heap.size, 16, none⟩ = some (.int .u32 c.pc) := by subst hC0; exact (FD.out.c.cell 16).trans (cpuCells_pc HLN.out _ _)
  have HC := Lib.hid FD.out.c
  have HM := Lib.hid FD.out.m
  have HI := Lib.hid FD.out.i
  have R1 := Lib.hid FD.out.r1
  have R2 := Lib.hid FD.out.r2
  have BV := Lib.hid FD.out.bel
  clear FD
  go_wp2_with fail
  refine held_start 7 rfl (S := fun y => Whole y w.heap.size 38 C0 ∧ Whole y (w.heap.size + 1) 41 MC ∧ Whole y (w.heap.size + 1 + 1) 54 #[.int .i64 33, .int .i64 a, .int .i64 b, .int .i64 cc, .int .i64 n]) (by kernel_rfl) ⟨HC.out.drew', HM.out.drew', HI.out.drew'⟩ (fun hS => ?_)
  refine wpAnyH_take (i := 0) (v := .agg C0) get0 ?_ ?_ ?_ ?_ ?_ hS ?_
  · kernel_rfl
  · kernel_rfl
  · kernel_rfl
  · exact fun _ _ _ h => h
  · exact take_load 38 (.tmp 3) rfl rfl (w.heap.size) rfl 38 C0 (fun _ h => h.1) _ Tryd.underlying38 rfl (infoCpu SZ0.out)
  refine wpAnyH_take (i := 1) (v := .agg #[.int .i64 33, .int .i64 a, .int .i64 b, .int .i64 cc, .int .i64 n]) get1 ?_ ?_ ?_ ?_ ?_ hS ?_
  · kernel_rfl
  · kernel_rfl
  · kernel_rfl
  · exact fun _ _ _ h => h
  · exact take_load 54 (.tmp 5) rfl rfl (w.heap.size + 1 + 1) (eval_ne (by decide) rfl) 54 _ (fun _ h => h.2.2) _ Tryd.underlying54 rfl (infoI rfl)
  refine wpAnyH_take (i := 2) (v := .int .u32 ra) get2 ?_ ?_ ?_ ?_ ?_ hS ?_
  · kernel_rfl
  · kernel_rfl
  · kernel_rfl
  · exact fun _ _ _ h => h
  · exact take_slot (.tmp 8) rfl rfl (eval_ne (by decide) (eval_ne (by decide) rfl))
  refine wpAnyH_take (i := 4) (v := .agg MC) get4 ?_ ?_ ?_ ?_ ?_ hS ?_
  · kernel_rfl
  · kernel_rfl
  · kernel_rfl
  · exact fun _ _ _ h => h
  · exact take_load 41 (.tmp 4) rfl rfl ((w.heap.size + 1)) (eval_ne (by decide) (eval_ne (by decide) (eval_ne (by decide) rfl))) 41 MC (fun _ h => h.2.1) _ Tryd.underlying41 rfl (infoMem SM.out)
  refine held_step get3 (by kernel_rfl) (fun K hK => ?_)
  refine step_call3 Tryd.func47 rfl rfl rfl rfl (.agg C0) (.agg #[.int .i64 33, .int .i64 a, .int .i64 b, .int .i64 cc, .int .i64 n]) (.int .u32 ra) (eval_ne (by decide) (eval_ne (by decide) (eval_ne (by decide) (eval_at (n := 193) rfl (by decide))))) (eval_ne (by decide) (eval_ne (by decide) (eval_at (n := 193) (size_put rfl) (by decide)))) (eval_ne (by decide) (eval_at (n := 193) (size_put (size_put rfl)) (by decide))) (CT.out _) ?_
  rintro e w1 ⟨rfl, hb1⟩
  refine ⟨_, rfl, ?_⟩
  have Z1 := Lib.hid (R1.out.drew'.below hb1 R1.out.lt)
  have Z2 := Lib.hid (R2.out.drew'.below hb1 R2.out.lt)
  have ZB := Lib.hid (BV.out.drew.trans (hb1.mono BV.out.size))
  refine hK.out _ _ ⟨hS.1.below hb1 HC.out.lt, hS.2.1.below hb1 HM.out.lt, hS.2.2.below hb1 HI.out.lt⟩ (fun hS2 => ?_)
  clear hK K hb1
  refine held_step get5 (by kernel_rfl) (fun K hK => ?_)
  refine step_store 38 (.tmp 6) (.tmp 81) rfl rfl (w.heap.size + 1 + 1 + 1) C2 (eval_ne (by decide) (eval_ne (by decide) (eval_ne (by decide) (eval_ne (by decide) (eval_ne (by decide) rfl))))) (eval_at (n := 193) (size_put (size_put (size_put (size_put rfl)))) (by decide)) 38 zeros38 Z1.out (infoCpu SZ.out) (by rw [SZ.out]; rfl) ONE.out ?_
  refine hK.out _ _ ⟨hS2.1.only (by omega) (Only.setRow _ (w.heap.size + 1 + 1 + 1) C2), hS2.2.1.only (by omega) (Only.setRow _ (w.heap.size + 1 + 1 + 1) C2), hS2.2.2.only (by omega) (Only.setRow _ (w.heap.size + 1 + 1 + 1) C2)⟩ (fun hS3 => ?_)
  clear hK K
  refine held_step get6 (by kernel_rfl) (fun K hK => ?_)
  refine step_store 41 (.tmp 7) (.tmp 82) rfl rfl (w.heap.size + 1 + 1 + 1 + 1) MC (eval_none (eval_ne (by decide) (eval_ne (by decide) (eval_ne (by decide) (eval_ne (by decide) (eval_ne (by decide) rfl)))))) (eval_none (eval_ne (by decide) (eval_at (n := 193) (size_put (size_put (size_put rfl))) (by decide)))) 41 zeros41 (Z2.out.only (by omega) (Only.setRow _ (w.heap.size + 1 + 1 + 1) C2)) (infoMem SM.out) (by rw [SM.out]; rfl) ONM.out ?_
  refine hK.out _ _ ⟨hS3.1.only (by omega) (Only.setRow _ (w.heap.size + 1 + 1 + 1 + 1) MC), hS3.2.1.only (by omega) (Only.setRow _ (w.heap.size + 1 + 1 + 1 + 1) MC), hS3.2.2.only (by omega) (Only.setRow _ (w.heap.size + 1 + 1 + 1 + 1) MC)⟩ (fun hS4 => ?_)
  clear hK K
  refine wpAnyH_done (by kernel_rfl) ?_ _
  go_wp2_with fail
  refine bodyPost_ret (v := .tuple #[.agg C2, .agg MC]) (results_two_rows2 rfl _ _ (w.heap.size + 1 + 1 + 1) (w.heap.size + 1 + 1 + 1 + 1) 38 41 C2 MC _ _ (eval_none (eval_none (eval_ne (by decide) (eval_ne (by decide) (eval_ne (by decide) (eval_ne (by decide) (eval_ne (by decide) rfl))))))) (eval_none (eval_none (eval_ne (by decide) (eval_ne (by decide) (eval_ne (by decide) (eval_ne (by decide) (eval_ne (by decide) rfl))))))) ((Z1.out.setRow C2).only (by omega) (Only.setRow _ (w.heap.size + 1 + 1 + 1 + 1) MC)) ((Z2.out.only (by omega) (Only.setRow _ (w.heap.size + 1 + 1 + 1) C2)).setRow MC) Tryd.underlying38 rfl (infoCpu SZ.out) Tryd.underlying41 rfl (infoMem SM.out)) rfl ⟨rfl, ((ZB.out.trans ((Only.setRow _ (w.heap.size + 1 + 1 + 1) C2).below (by omega) (by have := ZB.out.size; simpa using this))).trans ((Only.setRow _ (w.heap.size + 1 + 1 + 1 + 1) MC).below (by omega) (by have := ZB.out.size; simpa using this)))⟩

set_option maxHeartbeats 8000000 in
set_option maxRecDepth 100000 in
theorem refdo_33_1 (a b cc : Nat) (n : Int) (c : Cp) (A1 A2 : Option Addr) (n1 k1 n2 k2 : Nat) (MC : Array Value) (w : World) (ha : a < 16) (hb : b < 16) (hcc : cc < 16) (ub : 0 ≤ (c.r.getD b 0) ∧ (c.r.getD b 0) ≤ 4294967295) (uc : 0 ≤ (c.r.getD cc 0) ∧ (c.r.getD cc 0) ≤ 4294967295) (hl : c.r.length = 16) (hm : MC.size = 6) (hm1 : MC.all (·.oneCell') = true) (ux : 0 ≤ (c.r.getD a 0) ∧ (c.r.getD a 0) ≤ 4294967295) (hd : decide (1 < n) = false) (hd1 : (n == 1) = true) :
    Calls Tryd.prog 26 #[.agg (cpuCells c (.slice A1 n1 k1) (.slice A2 n2 k2)), .agg MC, .agg #[.int .i64 33, .int .i64 a, .int .i64 b, .int .i64 cc, .int .i64 n]] w fun e w' => e = .returned (.tuple #[.agg (cpuCells (setC c a c.cause) (.slice A1 n1 k1) (.slice A2 n2 k2)), .agg MC]) ∧ Below w.heap.size w w' := by
  have F0 := fr_made w (cpuCells c (.slice A1 n1 k1) (.slice A2 n2 k2)) MC #[.int .i64 33, .int .i64 a, .int .i64 b, .int .i64 cc, .int .i64 n]
  unfold zeros38 zeros41 at F0
  have FH := Lib.hid F0
  have haI : (a : Int) < 16 := by omega
  have hbI : (b : Int) < 16 := by omega
  have hcI : (cc : Int) < 16 := by omega
  have SM := Lib.hid hm
  have ONM := Lib.hid hm1
  have HLN := Lib.hid hl
  have qa := (F0.c.cell a).trans (cpuCells_reg hl _ _ ha)
  have qb := (F0.c.cell b).trans (cpuCells_reg hl _ _ hb)
  have GA := Lib.hid (cpuCells_reg hl (.slice A1 n1 k1) (.slice A2 n2 k2) ha)
  have GB := Lib.hid (cpuCells_reg hl (.slice A1 n1 k1) (.slice A2 n2 k2) hb)
  have GC := Lib.hid (cpuCells_reg hl (.slice A1 n1 k1) (.slice A2 n2 k2) hcc)
  have CT := Lib.hid (fun w => refothers_33_1 a b cc n (c.r.getD a 0) c A1 A2 n1 k1 n2 k2 w ha hb ux hl hd hd1)
  have SZ0 := Lib.hid (cpuCells_size hl (.slice A1 n1 k1) (.slice A2 n2 k2))
  clear F0 hm hm1 hl
  clear ux
  generalize (c.r.getD a 0) = ra at *
  generalize (c.r.getD b 0) = rb at *
  generalize (c.r.getD cc 0) = rc at *
  have hl2 : (setC c a c.cause : Cp).r.length = 16 := by first | exact HLN.out | exact trapC_len HLN.out | (show (List.set _ _ _).length = 16; rw [List.length_set]; exact HLN.out)
  have SZ := Lib.hid (cpuCells_size hl2 (.slice A1 n1 k1) (.slice A2 n2 k2))
  have ONE := Lib.hid (cpu_one (setC c a c.cause) (o := (.slice A1 n1 k1)) (i := (.slice A2 n2 k2)) rfl rfl)
  clear hl2
  generalize hC2 : cpuCells (setC c a c.cause) (.slice A1 n1 k1) (.slice A2 n2 k2) = C2 at *
  have CE := Lib.hid hC2
  clear hC2
  clear hd hd1
  generalize hC0 : cpuCells c (.slice A1 n1 k1) (.slice A2 n2 k2) = C0 at *
  go_enter Tryd.func26, Tryd.ntmps26
  go_wp2_with fail
  go_quiet (fail)
  have FD := Lib.hid (FH.out.drawn nq)
  clear FH qa qb
  generalize ((((((w.alloc (.cells C0 38)).alloc (.cells MC 41)).alloc (.cells #[.int .i64 33, .int .i64 a, .int .i64 b, .int .i64 cc, .int .i64 n] 54)).alloc (.cells #[.int .u32 0, .int .u32 0, .int .u32 0, .int .u32 0, .int .u32 0, .int .u32 0, .int .u32 0, .int .u32 0, .int .u32 0, .int .u32 0, .int .u32 0, .int .u32 0, .int .u32 0, .int .u32 0, .int .u32 0, .int .u32 0, .int .u32 0, .int .u32 0, .int .u32 0, .int .i64 0, .int .i64 0, .int .i64 0, .int .i64 0, .slice none 0 0, .int .u32 0, .int .u32 0, .int .u32 0, .int .u32 0, .slice none 0 0] 38)).alloc (.cells #[.int .u32 0, .int .u32 0, .int .u32 0, .int .u32 0, .int .u32 0, .slice none 0 0] 41)).drewN nq) = W at *
  have i0 : W.cell? ⟨w.heap.size + 1 + 1, 0, none⟩ = some (.int .i64 33) := FD.out.i.cell 0
  have i4 : W.cell? ⟨w.heap.size + 1 + 1, 4, none⟩ = some (.int .i64 n) := FD.out.i.cell 4
  have q16 : W.cell? ⟨w.heap.size, 16, none⟩ = some (.int .u32 c.pc) := by subst hC0; exact (FD.out.c.cell 16).trans (cpuCells_pc HLN.out _ _)
  have HC := Lib.hid FD.out.c
  have HM := Lib.hid FD.out.m
  have HI := Lib.hid FD.out.i
  have R1 := Lib.hid FD.out.r1
  have R2 := Lib.hid FD.out.r2
  have BV := Lib.hid FD.out.bel
  clear FD
  go_wp2_with fail
  refine held_start 7 rfl (S := fun y => Whole y w.heap.size 38 C0 ∧ Whole y (w.heap.size + 1) 41 MC ∧ Whole y (w.heap.size + 1 + 1) 54 #[.int .i64 33, .int .i64 a, .int .i64 b, .int .i64 cc, .int .i64 n]) (by kernel_rfl) ⟨HC.out.drew', HM.out.drew', HI.out.drew'⟩ (fun hS => ?_)
  refine wpAnyH_take (i := 0) (v := .agg C0) get0 ?_ ?_ ?_ ?_ ?_ hS ?_
  · kernel_rfl
  · kernel_rfl
  · kernel_rfl
  · exact fun _ _ _ h => h
  · exact take_load 38 (.tmp 3) rfl rfl (w.heap.size) rfl 38 C0 (fun _ h => h.1) _ Tryd.underlying38 rfl (infoCpu SZ0.out)
  refine wpAnyH_take (i := 1) (v := .agg #[.int .i64 33, .int .i64 a, .int .i64 b, .int .i64 cc, .int .i64 n]) get1 ?_ ?_ ?_ ?_ ?_ hS ?_
  · kernel_rfl
  · kernel_rfl
  · kernel_rfl
  · exact fun _ _ _ h => h
  · exact take_load 54 (.tmp 5) rfl rfl (w.heap.size + 1 + 1) (eval_ne (by decide) rfl) 54 _ (fun _ h => h.2.2) _ Tryd.underlying54 rfl (infoI rfl)
  refine wpAnyH_take (i := 2) (v := .int .u32 ra) get2 ?_ ?_ ?_ ?_ ?_ hS ?_
  · kernel_rfl
  · kernel_rfl
  · kernel_rfl
  · exact fun _ _ _ h => h
  · exact take_slot (.tmp 8) rfl rfl (eval_ne (by decide) (eval_ne (by decide) rfl))
  refine wpAnyH_take (i := 4) (v := .agg MC) get4 ?_ ?_ ?_ ?_ ?_ hS ?_
  · kernel_rfl
  · kernel_rfl
  · kernel_rfl
  · exact fun _ _ _ h => h
  · exact take_load 41 (.tmp 4) rfl rfl ((w.heap.size + 1)) (eval_ne (by decide) (eval_ne (by decide) (eval_ne (by decide) rfl))) 41 MC (fun _ h => h.2.1) _ Tryd.underlying41 rfl (infoMem SM.out)
  refine held_step get3 (by kernel_rfl) (fun K hK => ?_)
  refine step_call3 Tryd.func47 rfl rfl rfl rfl (.agg C0) (.agg #[.int .i64 33, .int .i64 a, .int .i64 b, .int .i64 cc, .int .i64 n]) (.int .u32 ra) (eval_ne (by decide) (eval_ne (by decide) (eval_ne (by decide) (eval_at (n := 193) rfl (by decide))))) (eval_ne (by decide) (eval_ne (by decide) (eval_at (n := 193) (size_put rfl) (by decide)))) (eval_ne (by decide) (eval_at (n := 193) (size_put (size_put rfl)) (by decide))) (CT.out _) ?_
  rintro e w1 ⟨rfl, hb1⟩
  refine ⟨_, rfl, ?_⟩
  have Z1 := Lib.hid (R1.out.drew'.below hb1 R1.out.lt)
  have Z2 := Lib.hid (R2.out.drew'.below hb1 R2.out.lt)
  have ZB := Lib.hid (BV.out.drew.trans (hb1.mono BV.out.size))
  refine hK.out _ _ ⟨hS.1.below hb1 HC.out.lt, hS.2.1.below hb1 HM.out.lt, hS.2.2.below hb1 HI.out.lt⟩ (fun hS2 => ?_)
  clear hK K hb1
  refine held_step get5 (by kernel_rfl) (fun K hK => ?_)
  refine step_store 38 (.tmp 6) (.tmp 81) rfl rfl (w.heap.size + 1 + 1 + 1) C2 (eval_ne (by decide) (eval_ne (by decide) (eval_ne (by decide) (eval_ne (by decide) (eval_ne (by decide) rfl))))) (eval_at (n := 193) (size_put (size_put (size_put (size_put rfl)))) (by decide)) 38 zeros38 Z1.out (infoCpu SZ.out) (by rw [SZ.out]; rfl) ONE.out ?_
  refine hK.out _ _ ⟨hS2.1.only (by omega) (Only.setRow _ (w.heap.size + 1 + 1 + 1) C2), hS2.2.1.only (by omega) (Only.setRow _ (w.heap.size + 1 + 1 + 1) C2), hS2.2.2.only (by omega) (Only.setRow _ (w.heap.size + 1 + 1 + 1) C2)⟩ (fun hS3 => ?_)
  clear hK K
  refine held_step get6 (by kernel_rfl) (fun K hK => ?_)
  refine step_store 41 (.tmp 7) (.tmp 82) rfl rfl (w.heap.size + 1 + 1 + 1 + 1) MC (eval_none (eval_ne (by decide) (eval_ne (by decide) (eval_ne (by decide) (eval_ne (by decide) (eval_ne (by decide) rfl)))))) (eval_none (eval_ne (by decide) (eval_at (n := 193) (size_put (size_put (size_put rfl))) (by decide)))) 41 zeros41 (Z2.out.only (by omega) (Only.setRow _ (w.heap.size + 1 + 1 + 1) C2)) (infoMem SM.out) (by rw [SM.out]; rfl) ONM.out ?_
  refine hK.out _ _ ⟨hS3.1.only (by omega) (Only.setRow _ (w.heap.size + 1 + 1 + 1 + 1) MC), hS3.2.1.only (by omega) (Only.setRow _ (w.heap.size + 1 + 1 + 1 + 1) MC), hS3.2.2.only (by omega) (Only.setRow _ (w.heap.size + 1 + 1 + 1 + 1) MC)⟩ (fun hS4 => ?_)
  clear hK K
  refine wpAnyH_done (by kernel_rfl) ?_ _
  go_wp2_with fail
  refine bodyPost_ret (v := .tuple #[.agg C2, .agg MC]) (results_two_rows2 rfl _ _ (w.heap.size + 1 + 1 + 1) (w.heap.size + 1 + 1 + 1 + 1) 38 41 C2 MC _ _ (eval_none (eval_none (eval_ne (by decide) (eval_ne (by decide) (eval_ne (by decide) (eval_ne (by decide) (eval_ne (by decide) rfl))))))) (eval_none (eval_none (eval_ne (by decide) (eval_ne (by decide) (eval_ne (by decide) (eval_ne (by decide) (eval_ne (by decide) rfl))))))) ((Z1.out.setRow C2).only (by omega) (Only.setRow _ (w.heap.size + 1 + 1 + 1 + 1) MC)) ((Z2.out.only (by omega) (Only.setRow _ (w.heap.size + 1 + 1 + 1) C2)).setRow MC) Tryd.underlying38 rfl (infoCpu SZ.out) Tryd.underlying41 rfl (infoMem SM.out)) rfl ⟨rfl, ((ZB.out.trans ((Only.setRow _ (w.heap.size + 1 + 1 + 1) C2).below (by omega) (by have := ZB.out.size; simpa using this))).trans ((Only.setRow _ (w.heap.size + 1 + 1 + 1 + 1) MC).below (by omega) (by have := ZB.out.size; simpa using this)))⟩

end Go.Proofs.YtinpdgjbiimgkaaDoor

/- The answers' do, by operation. -/
namespace Go.Proofs.YtinpdgjbiimgkaaDoor
open Go.ChangeShapes Go.WideShapes Go.ChangeAt Go.RowKit
set_option linter.unusedVariables false

theorem Fr.swap {w W : World} {C MC I : Array Value} (h : Fr w W C MC I) (M2 : Array Value) : Fr w (((W.alloc (.cells zeros41 41)).setRow W.heap.size M2).setRow (w.heap.size + 1) M2) C M2 I := by
  have l1 := h.c.lt
  have l2 := h.m.lt
  have l3 := h.i.lt
  have l4 := h.r1.lt
  have l5 := h.r2.lt
  have o1 := Only.setRow (W.alloc (.cells zeros41 41)) W.heap.size M2
  have o2 := Only.setRow ((W.alloc (.cells zeros41 41)).setRow W.heap.size M2) (w.heap.size + 1) M2
  have hb := h.bel.size
  have s0 : (W.alloc (.cells zeros41 41)).heap.size = W.heap.size + 1 := by simp
  have s1 := o1.size
  exact ⟨((h.c.alloc _).only (by omega) o1).only (by omega) o2, ((h.m.alloc _).only (by omega) o1).setRow M2, ((h.i.alloc _).only (by omega) o1).only (by omega) o2, ((h.r1.alloc _).only (by omega) o1).only (by omega) o2, ((h.r2.alloc _).only (by omega) o1).only (by omega) o2, ((h.bel.alloc (by omega) _).trans (o1.below (by omega) (by omega))).trans (o2.below (by omega) (by omega))⟩

/-- What 'do' leaves with a store. -/
def St19Post (C2 : Array Value) (e0 e1 e2 e3 e4 : Int) (m : Nat) (ws' : List Int) (hh : Nat) (w : World) (e : Ending) (w' : World) : Prop :=
  ∃ h', e = .returned (.tuple #[.agg C2, .agg (memCells e0 e1 e2 e3 e4 h' m)]) ∧ Whole w' h' 22 (words ws') ∧ (h' = hh ∨ w.heap.size ≤ h') ∧ Below w.heap.size w w'

theorem infoMem2 {e0 e1 e2 e3 e4 : Int} {h m : Nat} : (memCells e0 e1 e2 e3 e4 h m).size = 6 := rfl

theorem one_mem2 (e0 e1 e2 e3 e4 : Int) (h m : Nat) : (memCells e0 e1 e2 e3 e4 h m).all (·.oneCell') = true := by
  rw [Array.all_eq_true_iff_forall_mem]
  intro v hv
  simp [memCells] at hv
  rcases hv with rfl | rfl | rfl | rfl | rfl | rfl <;> rfl

set_option maxHeartbeats 8000000 in
set_option maxRecDepth 100000 in
theorem refdo_18_ok (a b cc : Nat) (n : Int) (c : Cp) (A1 A2 : Option Addr) (n1 k1 n2 k2 : Nat) (MC : Array Value) (w : World) (ha : a < 16) (hb : b < 16) (hcc : cc < 16) (ub : 0 ≤ (c.r.getD b 0) ∧ (c.r.getD b 0) ≤ 4294967295) (uc : 0 ≤ (c.r.getD cc 0) ∧ (c.r.getD cc 0) ≤ 4294967295) (hl : c.r.length = 16) (hm : MC.size = 6) (hm1 : MC.all (·.oneCell') = true) (hh m : Nat) (e0 e1 e2 e3 e4 : Int) (ws : List Int) (hMC : MC = memCells e0 e1 e2 e3 e4 hh m) (hW : Whole w hh 22 (words ws)) (hwl : ws.length = m) (hm2 : m ≤ 1000000) (h4 : e4 = 4 * m) (hws : ∀ z ∈ ws, U32 z) (hz : checkRes (((c.r.getD b 0) + n) % 4294967296) e4 = 0) :
    Calls Tryd.prog 26 #[.agg (cpuCells c (.slice A1 n1 k1) (.slice A2 n2 k2)), .agg MC, .agg #[.int .i64 18, .int .i64 a, .int .i64 b, .int .i64 cc, .int .i64 n]] w fun e w' => e = .returned (.tuple #[.agg (cpuCells (setC c a (readVal (((c.r.getD b 0) + n) % 4294967296) e4 ws)) (.slice A1 n1 k1) (.slice A2 n2 k2)), .agg MC]) ∧ Below w.heap.size w w' := by
  have F0 := fr_made w (cpuCells c (.slice A1 n1 k1) (.slice A2 n2 k2)) MC #[.int .i64 18, .int .i64 a, .int .i64 b, .int .i64 cc, .int .i64 n]
  unfold zeros38 zeros41 at F0
  have FH := Lib.hid F0
  have haI : (a : Int) < 16 := by omega
  have hbI : (b : Int) < 16 := by omega
  have hcI : (cc : Int) < 16 := by omega
  have SM := Lib.hid hm
  have ONM := Lib.hid hm1
  have HLN := Lib.hid hl
  have qa := (F0.c.cell a).trans (cpuCells_reg hl _ _ ha)
  have qb := (F0.c.cell b).trans (cpuCells_reg hl _ _ hb)
  have GA := Lib.hid (cpuCells_reg hl (.slice A1 n1 k1) (.slice A2 n2 k2) ha)
  have GB := Lib.hid (cpuCells_reg hl (.slice A1 n1 k1) (.slice A2 n2 k2) hb)
  have GC := Lib.hid (cpuCells_reg hl (.slice A1 n1 k1) (.slice A2 n2 k2) hcc)
  have LD := Lib.hid (fun w' hb => refload_any hh m e0 e1 e2 e3 e4 (((c.r.getD b 0) + n) % 4294967296) ws w' (by unfold U32; omega) (hW.below (B := w.heap.size) hb hW.lt) hwl hm2 h4 hws)
  rw [← hMC] at LD
  simp only [hz] at LD
  clear F0 hm hm1 hl
  generalize (c.r.getD a 0) = ra at *
  generalize (c.r.getD b 0) = rb at *
  generalize (c.r.getD cc 0) = rc at *
  clear hz hW hwl h4 hws hMC
  generalize readVal ((rb + n) % 4294967296) e4 ws = lv at *
  generalize hC0 : cpuCells c (.slice A1 n1 k1) (.slice A2 n2 k2) = C0 at *
  go_enter Tryd.func26, Tryd.ntmps26
  go_wp2_with fail
  go_quiet (fail)
  have FD := Lib.hid (FH.out.drawn nq)
  clear FH qa qb
  generalize ((((((w.alloc (.cells C0 38)).alloc (.cells MC 41)).alloc (.cells #[.int .i64 18, .int .i64 a, .int .i64 b, .int .i64 cc, .int .i64 n] 54)).alloc (.cells #[.int .u32 0, .int .u32 0, .int .u32 0, .int .u32 0, .int .u32 0, .int .u32 0, .int .u32 0, .int .u32 0, .int .u32 0, .int .u32 0, .int .u32 0, .int .u32 0, .int .u32 0, .int .u32 0, .int .u32 0, .int .u32 0, .int .u32 0, .int .u32 0, .int .u32 0, .int .i64 0, .int .i64 0, .int .i64 0, .int .i64 0, .slice none 0 0, .int .u32 0, .int .u32 0, .int .u32 0, .int .u32 0, .slice none 0 0] 38)).alloc (.cells #[.int .u32 0, .int .u32 0, .int .u32 0, .int .u32 0, .int .u32 0, .slice none 0 0] 41)).drewN nq) = W at *
  subst hC0
  have qa : W.cell? ⟨w.heap.size, a, none⟩ = some (.int .u32 ra) := (FD.out.c.cell a).trans GA.out
  have qc : W.cell? ⟨w.heap.size, cc, none⟩ = some (.int .u32 rc) := (FD.out.c.cell cc).trans GC.out
  have q14 : W.cell? ⟨w.heap.size, 14, none⟩ = some (.int .u32 (c.r.getD 14 0)) := (FD.out.c.cell 14).trans (cpuCells_reg HLN.out _ _ (by decide))
  have q16 : W.cell? ⟨w.heap.size, 16, none⟩ = some (.int .u32 c.pc) := (FD.out.c.cell 16).trans (cpuCells_pc HLN.out _ _)
  have q19 : W.cell? ⟨w.heap.size, 19, none⟩ = some (.int .i64 c.st) := (FD.out.c.cell 19).trans (cpuCells_st HLN.out _ _)
  have hf : ∀ j, W.frozen? ⟨w.heap.size, j, none⟩ = false := FD.out.c.free
  have g2 : w.heap.size + 1 + 1 ≠ w.heap.size := by omega
  have i0 : W.cell? ⟨w.heap.size + 1 + 1, 0, none⟩ = some (.int .i64 18) := FD.out.i.cell 0
  have i1 : W.cell? ⟨w.heap.size + 1 + 1, 1, none⟩ = some (.int .i64 a) := FD.out.i.cell 1
  have i4 : W.cell? ⟨w.heap.size + 1 + 1, 4, none⟩ = some (.int .i64 n) := FD.out.i.cell 4
  go_wp2_with (refine wpList_load_row rfl 41 (.tmp 4) rfl (w.heap.size + 1) rfl 41 MC (0, 0) _ FD.out.m Tryd.underlying41 rfl (infoMem SM.out) ?_)
  refine (LD.out _ FD.out.bel).mono ?_
  rintro e w1 ⟨rfl, hb1⟩
  have FD := Lib.hid (FD.out.later hb1)
  clear i0 i1 i4 qa qc q14 q16 q19 hf hb1
  have i1 : w1.cell? ⟨w.heap.size + 1 + 1, 1, none⟩ = some (.int .i64 a) := FD.out.i.cell 1
  have qa : w1.cell? ⟨w.heap.size, a, none⟩ = some (.int .u32 ra) := (FD.out.c.cell a).trans GA.out
  have q16 : w1.cell? ⟨w.heap.size, 16, none⟩ = some (.int .u32 c.pc) := (FD.out.c.cell 16).trans (cpuCells_pc HLN.out _ _)
  have hf : ∀ j, w1.frozen? ⟨w.heap.size, j, none⟩ = false := FD.out.c.free
  go_wp2_with fail
  have FE := Lib.hid (show Fr w ((w1.setCell ⟨w.heap.size, a, none⟩ (.int .u32 (lv))).setCell ⟨w.heap.size, 16, none⟩ (.int .u32 ((c.pc + 4) % 4294967296))) (cpuCells (setC c a (lv)) (.slice A1 n1 k1) (.slice A2 n2 k2)) MC _ from (FD.out.setReg HLN.out ha _).set_pc (by simp [HLN.out]) _)
  clear FD i1 qa q16 hf
  generalize (w1.setCell ⟨w.heap.size, a, none⟩ (.int .u32 (lv))).setCell ⟨w.heap.size, 16, none⟩ (.int .u32 ((c.pc + 4) % 4294967296)) = V at *
  have hlf : (setC c a (lv)).r.length = 16 := by first | exact HLN.out | (show (List.set _ _ _).length = 16; rw [List.length_set]; exact HLN.out)
  have SZ := Lib.hid (cpuCells_size hlf (.slice A1 n1 k1) (.slice A2 n2 k2))
  have ONE := Lib.hid (cpu_one (setC c a (lv)) (o := (.slice A1 n1 k1)) (i := (.slice A2 n2 k2)) rfl rfl)
  clear hlf
  generalize hC2 : cpuCells (setC c a (lv)) (.slice A1 n1 k1) (.slice A2 n2 k2) = C2 at *
  have CE := Lib.hid hC2
  clear hC2
  have HC := Lib.hid FE.out.c
  have HM := Lib.hid FE.out.m
  have R1 := Lib.hid FE.out.r1
  have R2 := Lib.hid FE.out.r2
  have BV := Lib.hid FE.out.bel
  refine held_start 4 rfl (S := fun y => Whole y w.heap.size 38 C2 ∧ Whole y (w.heap.size + 1) 41 MC) (by kernel_rfl) ⟨HC.out.drew', HM.out.drew'⟩ (fun hS => ?_)
  refine wpAnyH_take (i := 0) (v := .agg C2) get0 ?_ ?_ ?_ ?_ ?_ hS ?_
  · kernel_rfl
  · kernel_rfl
  · kernel_rfl
  · exact fun _ _ _ h => h
  · exact take_load 38 (.tmp 3) rfl rfl (w.heap.size) rfl 38 C2 (fun _ h => h.1) _ Tryd.underlying38 rfl (infoCpu SZ.out)
  refine wpAnyH_take (i := 1) (v := .agg MC) get1 ?_ ?_ ?_ ?_ ?_ hS ?_
  · kernel_rfl
  · kernel_rfl
  · kernel_rfl
  · exact fun _ _ _ h => h
  · exact take_load 41 (.tmp 4) rfl rfl ((w.heap.size + 1)) rfl 41 MC (fun _ h => h.2) _ Tryd.underlying41 rfl (infoMem SM.out)
  refine held_step get2 (by kernel_rfl) (fun K hK => ?_)
  refine step_store 38 (.tmp 6) (.tmp 191) rfl rfl (w.heap.size + 1 + 1 + 1) C2 rfl rfl 38 zeros38 R1.out.drew' (infoCpu SZ.out) (by rw [SZ.out]; rfl) ONE.out ?_
  refine hK.out _ _ ⟨HC.out.drew'.only (by omega) (Only.setRow _ (w.heap.size + 1 + 1 + 1) C2), HM.out.drew'.only (by omega) (Only.setRow _ (w.heap.size + 1 + 1 + 1) C2)⟩ (fun hS2 => ?_)
  clear hK K
  refine held_step get3 (by kernel_rfl) (fun K hK => ?_)
  refine step_store 41 (.tmp 7) (.tmp 192) rfl rfl (w.heap.size + 1 + 1 + 1 + 1) MC rfl rfl 41 zeros41 (R2.out.drew'.only (by omega) (Only.setRow _ (w.heap.size + 1 + 1 + 1) C2)) (infoMem SM.out) (by rw [SM.out]; rfl) ONM.out ?_
  refine hK.out _ _ ⟨hS2.1.only (by omega) (Only.setRow _ (w.heap.size + 1 + 1 + 1 + 1) MC), hS2.2.only (by omega) (Only.setRow _ (w.heap.size + 1 + 1 + 1 + 1) MC)⟩ (fun hS3 => ?_)
  clear hK K
  refine wpAnyH_done (by kernel_rfl) ?_ _
  go_wp2_with fail
  refine bodyPost_ret (v := .tuple #[.agg C2, .agg MC]) (results_two_rows rfl _ _ (w.heap.size + 1 + 1 + 1) (w.heap.size + 1 + 1 + 1 + 1) 38 41 C2 MC _ _ rfl rfl ((R1.out.drew'.setRow C2).only (by omega) (Only.setRow _ (w.heap.size + 1 + 1 + 1 + 1) MC)) ((R2.out.drew'.only (by omega) (Only.setRow _ (w.heap.size + 1 + 1 + 1) C2)).setRow MC) Tryd.underlying38 rfl (infoCpu SZ.out) Tryd.underlying41 rfl (infoMem SM.out)) rfl ⟨by rw [CE.out], ((BV.out.drew.trans ((Only.setRow _ (w.heap.size + 1 + 1 + 1) C2).below (by omega) (by have := BV.out.size; simpa using this))).trans ((Only.setRow _ (w.heap.size + 1 + 1 + 1 + 1) MC).below (by omega) (by have := BV.out.size; simpa using this)))⟩

set_option maxHeartbeats 8000000 in
set_option maxRecDepth 100000 in
theorem refdo_18_err (a b cc : Nat) (n : Int) (c : Cp) (A1 A2 : Option Addr) (n1 k1 n2 k2 : Nat) (MC : Array Value) (w : World) (ha : a < 16) (hb : b < 16) (hcc : cc < 16) (ub : 0 ≤ (c.r.getD b 0) ∧ (c.r.getD b 0) ≤ 4294967295) (uc : 0 ≤ (c.r.getD cc 0) ∧ (c.r.getD cc 0) ≤ 4294967295) (hl : c.r.length = 16) (hm : MC.size = 6) (hm1 : MC.all (·.oneCell') = true) (hh m : Nat) (e0 e1 e2 e3 e4 : Int) (ws : List Int) (hMC : MC = memCells e0 e1 e2 e3 e4 hh m) (hW : Whole w hh 22 (words ws)) (hwl : ws.length = m) (hm2 : m ≤ 1000000) (h4 : e4 = 4 * m) (hws : ∀ z ∈ ws, U32 z) (er : Int) (hz : checkRes (((c.r.getD b 0) + n) % 4294967296) e4 = er) (hne : (er != 0) = true) :
    Calls Tryd.prog 26 #[.agg (cpuCells c (.slice A1 n1 k1) (.slice A2 n2 k2)), .agg MC, .agg #[.int .i64 18, .int .i64 a, .int .i64 b, .int .i64 cc, .int .i64 n]] w fun e w' => e = .returned (.tuple #[.agg (cpuCells (faultC c er) (.slice A1 n1 k1) (.slice A2 n2 k2)), .agg MC]) ∧ Below w.heap.size w w' := by
  have F0 := fr_made w (cpuCells c (.slice A1 n1 k1) (.slice A2 n2 k2)) MC #[.int .i64 18, .int .i64 a, .int .i64 b, .int .i64 cc, .int .i64 n]
  unfold zeros38 zeros41 at F0
  have FH := Lib.hid F0
  have haI : (a : Int) < 16 := by omega
  have hbI : (b : Int) < 16 := by omega
  have hcI : (cc : Int) < 16 := by omega
  have SM := Lib.hid hm
  have ONM := Lib.hid hm1
  have HLN := Lib.hid hl
  have qa := (F0.c.cell a).trans (cpuCells_reg hl _ _ ha)
  have qb := (F0.c.cell b).trans (cpuCells_reg hl _ _ hb)
  have GA := Lib.hid (cpuCells_reg hl (.slice A1 n1 k1) (.slice A2 n2 k2) ha)
  have GB := Lib.hid (cpuCells_reg hl (.slice A1 n1 k1) (.slice A2 n2 k2) hb)
  have GC := Lib.hid (cpuCells_reg hl (.slice A1 n1 k1) (.slice A2 n2 k2) hcc)
  have LD := Lib.hid (fun w' hb => refload_any hh m e0 e1 e2 e3 e4 (((c.r.getD b 0) + n) % 4294967296) ws w' (by unfold U32; omega) (hW.below (B := w.heap.size) hb hW.lt) hwl hm2 h4 hws)
  rw [← hMC] at LD
  simp only [hz] at LD
  have CT := Lib.hid (fun w => reffault_any c A1 A2 n1 k1 n2 k2 er w hl)
  have SZ0 := Lib.hid (cpuCells_size hl (.slice A1 n1 k1) (.slice A2 n2 k2))
  clear F0 hm hm1 hl
  generalize (c.r.getD a 0) = ra at *
  generalize (c.r.getD b 0) = rb at *
  generalize (c.r.getD cc 0) = rc at *
  have hl2 : (faultC c er : Cp).r.length = 16 := by first | exact HLN.out | exact trapC_len HLN.out | (show (List.set _ _ _).length = 16; rw [List.length_set]; exact HLN.out)
  have SZ := Lib.hid (cpuCells_size hl2 (.slice A1 n1 k1) (.slice A2 n2 k2))
  have ONE := Lib.hid (cpu_one (faultC c er) (o := (.slice A1 n1 k1)) (i := (.slice A2 n2 k2)) rfl rfl)
  clear hl2
  generalize hC2 : cpuCells (faultC c er) (.slice A1 n1 k1) (.slice A2 n2 k2) = C2 at *
  have CE := Lib.hid hC2
  clear hC2
  clear hz hW hwl h4 hws hMC
  generalize readVal ((rb + n) % 4294967296) e4 ws = lv at *
  generalize hC0 : cpuCells c (.slice A1 n1 k1) (.slice A2 n2 k2) = C0 at *
  go_enter Tryd.func26, Tryd.ntmps26
  go_wp2_with fail
  go_quiet (fail)
  have FD := Lib.hid (FH.out.drawn nq)
  clear FH qa qb
  generalize ((((((w.alloc (.cells C0 38)).alloc (.cells MC 41)).alloc (.cells #[.int .i64 18, .int .i64 a, .int .i64 b, .int .i64 cc, .int .i64 n] 54)).alloc (.cells #[.int .u32 0, .int .u32 0, .int .u32 0, .int .u32 0, .int .u32 0, .int .u32 0, .int .u32 0, .int .u32 0, .int .u32 0, .int .u32 0, .int .u32 0, .int .u32 0, .int .u32 0, .int .u32 0, .int .u32 0, .int .u32 0, .int .u32 0, .int .u32 0, .int .u32 0, .int .i64 0, .int .i64 0, .int .i64 0, .int .i64 0, .slice none 0 0, .int .u32 0, .int .u32 0, .int .u32 0, .int .u32 0, .slice none 0 0] 38)).alloc (.cells #[.int .u32 0, .int .u32 0, .int .u32 0, .int .u32 0, .int .u32 0, .slice none 0 0] 41)).drewN nq) = W at *
  have i0 : W.cell? ⟨w.heap.size + 1 + 1, 0, none⟩ = some (.int .i64 18) := FD.out.i.cell 0
  have i4 : W.cell? ⟨w.heap.size + 1 + 1, 4, none⟩ = some (.int .i64 n) := FD.out.i.cell 4
  have q16 : W.cell? ⟨w.heap.size, 16, none⟩ = some (.int .u32 c.pc) := by subst hC0; exact (FD.out.c.cell 16).trans (cpuCells_pc HLN.out _ _)
  go_wp2_with (refine wpList_load_row rfl 41 (.tmp 4) rfl (w.heap.size + 1) rfl 41 MC (0, 0) _ FD.out.m Tryd.underlying41 rfl (infoMem SM.out) ?_)
  refine (LD.out _ FD.out.bel).mono ?_
  rintro e w1 ⟨rfl, hb1⟩
  have FD := Lib.hid (FD.out.later hb1)
  clear i0 i4 q16 hb1
  have HC := Lib.hid FD.out.c
  have HM := Lib.hid FD.out.m
  have HI := Lib.hid FD.out.i
  have R1 := Lib.hid FD.out.r1
  have R2 := Lib.hid FD.out.r2
  have BV := Lib.hid FD.out.bel
  clear FD
  go_wp2_with fail
  refine held_start 6 rfl (S := fun y => Whole y w.heap.size 38 C0 ∧ Whole y (w.heap.size + 1) 41 MC ∧ True) (by kernel_rfl) ⟨HC.out.drew', HM.out.drew', trivial⟩ (fun hS => ?_)
  refine wpAnyH_take (i := 0) (v := .agg C0) get0 ?_ ?_ ?_ ?_ ?_ hS ?_
  · kernel_rfl
  · kernel_rfl
  · kernel_rfl
  · exact fun _ _ _ h => h
  · exact take_load 38 (.tmp 3) rfl rfl (w.heap.size) rfl 38 C0 (fun _ h => h.1) _ Tryd.underlying38 rfl (infoCpu SZ0.out)
  refine wpAnyH_take (i := 1) (v := .int .i64 er) get1 ?_ ?_ ?_ ?_ ?_ hS ?_
  · kernel_rfl
  · kernel_rfl
  · kernel_rfl
  · exact fun _ _ _ h => h
  · exact take_slot (.tmp 17) rfl rfl (eval_ne (by decide) rfl)
  refine wpAnyH_take (i := 3) (v := .agg MC) get3 ?_ ?_ ?_ ?_ ?_ hS ?_
  · kernel_rfl
  · kernel_rfl
  · kernel_rfl
  · exact fun _ _ _ h => h
  · exact take_load 41 (.tmp 4) rfl rfl ((w.heap.size + 1)) (eval_ne (by decide) (eval_ne (by decide) rfl)) 41 MC (fun _ h => h.2.1) _ Tryd.underlying41 rfl (infoMem SM.out)
  refine held_step get2 (by kernel_rfl) (fun K hK => ?_)
  refine step_call2 Tryd.func24 rfl rfl rfl rfl (.agg C0) (.int .i64 er) (eval_ne (by decide) (eval_ne (by decide) (eval_at (n := 193) rfl (by decide)))) (eval_ne (by decide) (eval_at (n := 193) (size_put rfl) (by decide))) (CT.out _) ?_
  rintro e w1 ⟨rfl, hb1⟩
  refine ⟨_, rfl, ?_⟩
  have Z1 := Lib.hid (R1.out.drew'.below hb1 R1.out.lt)
  have Z2 := Lib.hid (R2.out.drew'.below hb1 R2.out.lt)
  have ZB := Lib.hid (BV.out.drew.trans (hb1.mono BV.out.size))
  refine hK.out _ _ ⟨hS.1.below hb1 HC.out.lt, hS.2.1.below hb1 HM.out.lt, trivial⟩ (fun hS2 => ?_)
  clear hK K hb1
  refine held_step get4 (by kernel_rfl) (fun K hK => ?_)
  refine step_store 38 (.tmp 6) (.tmp 144) rfl rfl (w.heap.size + 1 + 1 + 1) C2 (eval_ne (by decide) (eval_ne (by decide) (eval_ne (by decide) (eval_ne (by decide) rfl)))) (eval_at (n := 193) (size_put (size_put (size_put rfl))) (by decide)) 38 zeros38 Z1.out (infoCpu SZ.out) (by rw [SZ.out]; rfl) ONE.out ?_
  refine hK.out _ _ ⟨hS2.1.only (by omega) (Only.setRow _ (w.heap.size + 1 + 1 + 1) C2), hS2.2.1.only (by omega) (Only.setRow _ (w.heap.size + 1 + 1 + 1) C2), trivial⟩ (fun hS3 => ?_)
  clear hK K
  refine held_step get5 (by kernel_rfl) (fun K hK => ?_)
  refine step_store 41 (.tmp 7) (.tmp 145) rfl rfl (w.heap.size + 1 + 1 + 1 + 1) MC (eval_none (eval_ne (by decide) (eval_ne (by decide) (eval_ne (by decide) (eval_ne (by decide) rfl))))) (eval_none (eval_ne (by decide) (eval_at (n := 193) (size_put (size_put rfl)) (by decide)))) 41 zeros41 (Z2.out.only (by omega) (Only.setRow _ (w.heap.size + 1 + 1 + 1) C2)) (infoMem SM.out) (by rw [SM.out]; rfl) ONM.out ?_
  refine hK.out _ _ ⟨hS3.1.only (by omega) (Only.setRow _ (w.heap.size + 1 + 1 + 1 + 1) MC), hS3.2.1.only (by omega) (Only.setRow _ (w.heap.size + 1 + 1 + 1 + 1) MC), trivial⟩ (fun hS4 => ?_)
  clear hK K
  refine wpAnyH_done (by kernel_rfl) ?_ _
  go_wp2_with fail
  refine bodyPost_ret (v := .tuple #[.agg C2, .agg MC]) (results_two_rows2 rfl _ _ (w.heap.size + 1 + 1 + 1) (w.heap.size + 1 + 1 + 1 + 1) 38 41 C2 MC _ _ (eval_none (eval_none (eval_ne (by decide) (eval_ne (by decide) (eval_ne (by decide) (eval_ne (by decide) rfl)))))) (eval_none (eval_none (eval_ne (by decide) (eval_ne (by decide) (eval_ne (by decide) (eval_ne (by decide) rfl)))))) ((Z1.out.setRow C2).only (by omega) (Only.setRow _ (w.heap.size + 1 + 1 + 1 + 1) MC)) ((Z2.out.only (by omega) (Only.setRow _ (w.heap.size + 1 + 1 + 1) C2)).setRow MC) Tryd.underlying38 rfl (infoCpu SZ.out) Tryd.underlying41 rfl (infoMem SM.out)) rfl ⟨rfl, ((ZB.out.trans ((Only.setRow _ (w.heap.size + 1 + 1 + 1) C2).below (by omega) (by have := ZB.out.size; simpa using this))).trans ((Only.setRow _ (w.heap.size + 1 + 1 + 1 + 1) MC).below (by omega) (by have := ZB.out.size; simpa using this)))⟩

set_option maxHeartbeats 8000000 in
set_option maxRecDepth 100000 in
theorem refdo_19_ok (a b cc : Nat) (n : Int) (c : Cp) (A1 A2 : Option Addr) (n1 k1 n2 k2 : Nat) (MC : Array Value) (w : World) (ha : a < 16) (hb : b < 16) (hcc : cc < 16) (ub : 0 ≤ (c.r.getD b 0) ∧ (c.r.getD b 0) ≤ 4294967295) (uc : 0 ≤ (c.r.getD cc 0) ∧ (c.r.getD cc 0) ≤ 4294967295) (hl : c.r.length = 16) (hm : MC.size = 6) (hm1 : MC.all (·.oneCell') = true) (hh m : Nat) (e0 e1 e2 e3 e4 : Int) (ws : List Int) (hMC : MC = memCells e0 e1 e2 e3 e4 hh m) (hW : Whole w hh 22 (words ws)) (hwl : ws.length = m) (hm2 : m ≤ 1000000) (h4 : e4 = 4 * m) (hws : ∀ z ∈ ws, U32 z) (ua : U32 (c.r.getD a 0)) (hz : storeRes (((c.r.getD b 0) + n) % 4294967296) e1 e4 = 0) :
    Calls Tryd.prog 26 #[.agg (cpuCells c (.slice A1 n1 k1) (.slice A2 n2 k2)), .agg MC, .agg #[.int .i64 19, .int .i64 a, .int .i64 b, .int .i64 cc, .int .i64 n]] w (St19Post (cpuCells (passC c) (.slice A1 n1 k1) (.slice A2 n2 k2)) e0 e1 e2 e3 e4 m (storeWs (((c.r.getD b 0) + n) % 4294967296) e1 e4 (c.r.getD a 0) ws) hh w) := by
  have F0 := fr_made w (cpuCells c (.slice A1 n1 k1) (.slice A2 n2 k2)) MC #[.int .i64 19, .int .i64 a, .int .i64 b, .int .i64 cc, .int .i64 n]
  unfold zeros38 zeros41 at F0
  have FH := Lib.hid F0
  have haI : (a : Int) < 16 := by omega
  have hbI : (b : Int) < 16 := by omega
  have hcI : (cc : Int) < 16 := by omega
  have SM := Lib.hid hm
  have ONM := Lib.hid hm1
  have HLN := Lib.hid hl
  have qa := (F0.c.cell a).trans (cpuCells_reg hl _ _ ha)
  have qb := (F0.c.cell b).trans (cpuCells_reg hl _ _ hb)
  have GA := Lib.hid (cpuCells_reg hl (.slice A1 n1 k1) (.slice A2 n2 k2) ha)
  have GB := Lib.hid (cpuCells_reg hl (.slice A1 n1 k1) (.slice A2 n2 k2) hb)
  have GC := Lib.hid (cpuCells_reg hl (.slice A1 n1 k1) (.slice A2 n2 k2) hcc)
  have LD := Lib.hid (fun w' hb => refstore_any hh m e0 e1 e2 e3 e4 (((c.r.getD b 0) + n) % 4294967296) (c.r.getD a 0) ws w' (by unfold U32; omega) ua (hW.below (B := w.heap.size) hb hW.lt) hwl hm2 h4 hws)
  have HM2 := Lib.hid (fun h' => one_mem2 e0 e1 e2 e3 e4 h' m)
  have WH := Lib.hid hW
  have CMC := Lib.hid hMC
  rw [← hMC] at LD
  simp only [hz] at LD
  clear F0 hm hm1 hl
  generalize (c.r.getD a 0) = ra at *
  generalize (c.r.getD b 0) = rb at *
  generalize (c.r.getD cc 0) = rc at *
  clear hz hW hwl h4 hws hMC ua
  generalize storeWs ((rb + n) % 4294967296) e1 e4 ra ws = ws2 at *
  unfold St19Post
  generalize hC0 : cpuCells c (.slice A1 n1 k1) (.slice A2 n2 k2) = C0 at *
  go_enter Tryd.func26, Tryd.ntmps26
  go_wp2_with fail
  go_quiet (fail)
  have FD := Lib.hid (FH.out.drawn nq)
  clear FH qa qb
  generalize ((((((w.alloc (.cells C0 38)).alloc (.cells MC 41)).alloc (.cells #[.int .i64 19, .int .i64 a, .int .i64 b, .int .i64 cc, .int .i64 n] 54)).alloc (.cells #[.int .u32 0, .int .u32 0, .int .u32 0, .int .u32 0, .int .u32 0, .int .u32 0, .int .u32 0, .int .u32 0, .int .u32 0, .int .u32 0, .int .u32 0, .int .u32 0, .int .u32 0, .int .u32 0, .int .u32 0, .int .u32 0, .int .u32 0, .int .u32 0, .int .u32 0, .int .i64 0, .int .i64 0, .int .i64 0, .int .i64 0, .slice none 0 0, .int .u32 0, .int .u32 0, .int .u32 0, .int .u32 0, .slice none 0 0] 38)).alloc (.cells #[.int .u32 0, .int .u32 0, .int .u32 0, .int .u32 0, .int .u32 0, .slice none 0 0] 41)).drewN nq) = W at *
  subst hC0
  have qa : W.cell? ⟨w.heap.size, a, none⟩ = some (.int .u32 ra) := (FD.out.c.cell a).trans GA.out
  have qc : W.cell? ⟨w.heap.size, cc, none⟩ = some (.int .u32 rc) := (FD.out.c.cell cc).trans GC.out
  have q14 : W.cell? ⟨w.heap.size, 14, none⟩ = some (.int .u32 (c.r.getD 14 0)) := (FD.out.c.cell 14).trans (cpuCells_reg HLN.out _ _ (by decide))
  have q16 : W.cell? ⟨w.heap.size, 16, none⟩ = some (.int .u32 c.pc) := (FD.out.c.cell 16).trans (cpuCells_pc HLN.out _ _)
  have q19 : W.cell? ⟨w.heap.size, 19, none⟩ = some (.int .i64 c.st) := (FD.out.c.cell 19).trans (cpuCells_st HLN.out _ _)
  have hf : ∀ j, W.frozen? ⟨w.heap.size, j, none⟩ = false := FD.out.c.free
  have g2 : w.heap.size + 1 + 1 ≠ w.heap.size := by omega
  have i0 : W.cell? ⟨w.heap.size + 1 + 1, 0, none⟩ = some (.int .i64 19) := FD.out.i.cell 0
  have i1 : W.cell? ⟨w.heap.size + 1 + 1, 1, none⟩ = some (.int .i64 a) := FD.out.i.cell 1
  have i4 : W.cell? ⟨w.heap.size + 1 + 1, 4, none⟩ = some (.int .i64 n) := FD.out.i.cell 4
  go_wp2_with (refine wpList_load_row rfl 41 (.tmp 4) rfl (w.heap.size + 1) rfl 41 MC (0, 0) _ FD.out.m Tryd.underlying41 rfl (infoMem SM.out) ?_)
  have LTW := Lib.hid FD.out.m.lt
  have LSW := Lib.hid FD.out.bel.size
  have LTR := Lib.hid FD.out.r2.lt
  refine (LD.out _ FD.out.bel).mono ?_
  rintro e w1 ⟨h', rfl, hX, hh', hb1⟩
  have NE := Lib.hid (show h' ≠ w.heap.size + 1 ∧ h' ≠ w.heap.size + 1 + 1 + 1 + 1 ∧ (h' = hh ∨ w.heap.size ≤ h') ∧ h' ≠ w.heap.size + 1 + 1 + 1 ∧ h' ≠ w.heap.size by have := WH.out.lt; have := LTW.out; have := LSW.out; have := LTR.out; omega)
  have FD := Lib.hid (FD.out.later hb1)
  have SM2 := Lib.hid (infoMem2 (e0 := e0) (e1 := e1) (e2 := e2) (e3 := e3) (e4 := e4) (h := h') (m := m))
  have ON2 := Lib.hid (HM2.out h')
  have HB1 := Lib.hid hb1
  have HX := Lib.hid hX
  have HH := Lib.hid hh'
  generalize hM2 : memCells e0 e1 e2 e3 e4 h' m = M2 at *
  have CM2 := Lib.hid hM2
  clear hM2 hX hh' hb1
  clear i0 i1 i4 qa qc q14 q16 q19 hf
  have F2 := FD.out.swap M2
  have OLD := Lib.hid (show Whole (((w1.alloc (.cells #[.int .u32 0, .int .u32 0, .int .u32 0, .int .u32 0, .int .u32 0, .slice none 0 0] 41))).setRow w1.heap.size M2) (w.heap.size + 1) 41 MC from (FD.out.m.alloc _).only (by have := FD.out.m.lt; omega) (Only.setRow _ w1.heap.size M2))
  have LT1 := Lib.hid FD.out.c.lt
  have LT2 := Lib.hid FD.out.bel.size
  have XH := Lib.hid (show Whole (((w1.alloc (.cells #[.int .u32 0, .int .u32 0, .int .u32 0, .int .u32 0, .int .u32 0, .slice none 0 0] 41)).setRow w1.heap.size M2).setRow (w.heap.size + 1) M2) h' 22 (words ws2) from ((HX.out.alloc _).only (by have := HX.out.lt; omega) (Only.setRow _ w1.heap.size M2)).only NE.out.1 (Only.setRow _ (w.heap.size + 1) M2))
  unfold zeros41 at F2
  have FD := Lib.hid (show Fr w (((w1.alloc (.cells #[.int .u32 0, .int .u32 0, .int .u32 0, .int .u32 0, .int .u32 0, .slice none 0 0] 41)).setRow w1.heap.size M2).setRow (w.heap.size + 1) M2) (cpuCells c (.slice A1 n1 k1) (.slice A2 n2 k2)) M2 _ from F2)
  have q16 : (((w1.alloc (.cells #[.int .u32 0, .int .u32 0, .int .u32 0, .int .u32 0, .int .u32 0, .slice none 0 0] 41)).setRow w1.heap.size M2).setRow (w.heap.size + 1) M2).cell? ⟨w.heap.size, 16, none⟩ = some (.int .u32 c.pc) := (FD.out.c.cell 16).trans (cpuCells_pc HLN.out _ _)
  have hf : ∀ j, (((w1.alloc (.cells #[.int .u32 0, .int .u32 0, .int .u32 0, .int .u32 0, .int .u32 0, .slice none 0 0] 41)).setRow w1.heap.size M2).setRow (w.heap.size + 1) M2).frozen? ⟨w.heap.size, j, none⟩ = false := FD.out.c.free
  clear F2
  go_wp2_with (first
    | (refine wpList_store_row rfl 41 (.tmp 18) (.tmp 160) rfl w1.heap.size M2 rfl rfl 41 zeros41 (Whole.made w1 41 zeros41 _ rfl) (infoMem SM2.out) (by rw [SM2.out]; rfl) ON2.out ?_)
    | (refine wpList_load_row rfl 41 (.tmp 18) rfl w1.heap.size rfl 41 M2 (0, 0) _ ((Whole.made w1 41 zeros41 _ rfl).setRow M2) Tryd.underlying41 rfl (infoMem SM2.out) ?_)
    | (refine wpList_store_row rfl 41 (.tmp 4) (.tmp 168) rfl (w.heap.size + 1) M2 rfl rfl 41 MC OLD.out (infoMem SM2.out) (by rw [SM.out, SM2.out]) ON2.out ?_))
  generalize (((w1.alloc (.cells #[.int .u32 0, .int .u32 0, .int .u32 0, .int .u32 0, .int .u32 0, .slice none 0 0] 41)).setRow w1.heap.size M2).setRow (w.heap.size + 1) M2) = W2 at *
  have XV := Lib.hid (show Whole (W2.setCell ⟨w.heap.size, 16, none⟩ (.int .u32 ((c.pc + 4) % 4294967296))) h' 22 (words ws2) from XH.out.far (show h' ≠ w.heap.size from NE.out.2.2.2.2) _)
  have FE := Lib.hid (show Fr w (W2.setCell ⟨w.heap.size, 16, none⟩ (.int .u32 ((c.pc + 4) % 4294967296))) (cpuCells (passC c) (.slice A1 n1 k1) (.slice A2 n2 k2)) M2 _ from FD.out.set_pc HLN.out _)
  clear FD q16 hf XH
  generalize W2.setCell ⟨w.heap.size, 16, none⟩ (.int .u32 ((c.pc + 4) % 4294967296)) = V at *
  have hlf : (passC c).r.length = 16 := by first | exact HLN.out | (show (List.set _ _ _).length = 16; rw [List.length_set]; exact HLN.out)
  have SZ := Lib.hid (cpuCells_size hlf (.slice A1 n1 k1) (.slice A2 n2 k2))
  have ONE := Lib.hid (cpu_one (passC c) (o := (.slice A1 n1 k1)) (i := (.slice A2 n2 k2)) rfl rfl)
  clear hlf
  generalize hC2 : cpuCells (passC c) (.slice A1 n1 k1) (.slice A2 n2 k2) = C2 at *
  have CE := Lib.hid hC2
  clear hC2
  have HC := Lib.hid FE.out.c
  have HM := Lib.hid FE.out.m
  have R1 := Lib.hid FE.out.r1
  have R2 := Lib.hid FE.out.r2
  have BV := Lib.hid FE.out.bel
  refine held_start 4 rfl (S := fun y => Whole y w.heap.size 38 C2 ∧ Whole y (w.heap.size + 1) 41 M2) (by kernel_rfl) ⟨HC.out.drew', HM.out.drew'⟩ (fun hS => ?_)
  refine wpAnyH_take (i := 0) (v := .agg C2) get0 ?_ ?_ ?_ ?_ ?_ hS ?_
  · kernel_rfl
  · kernel_rfl
  · kernel_rfl
  · exact fun _ _ _ h => h
  · exact take_load 38 (.tmp 3) rfl rfl (w.heap.size) rfl 38 C2 (fun _ h => h.1) _ Tryd.underlying38 rfl (infoCpu SZ.out)
  refine wpAnyH_take (i := 1) (v := .agg M2) get1 ?_ ?_ ?_ ?_ ?_ hS ?_
  · kernel_rfl
  · kernel_rfl
  · kernel_rfl
  · exact fun _ _ _ h => h
  · exact take_load 41 (.tmp 4) rfl rfl ((w.heap.size + 1)) rfl 41 M2 (fun _ h => h.2) _ Tryd.underlying41 rfl (infoMem SM2.out)
  refine held_step get2 (by kernel_rfl) (fun K hK => ?_)
  refine step_store 38 (.tmp 6) (.tmp 191) rfl rfl (w.heap.size + 1 + 1 + 1) C2 rfl rfl 38 zeros38 R1.out.drew' (infoCpu SZ.out) (by rw [SZ.out]; rfl) ONE.out ?_
  refine hK.out _ _ ⟨HC.out.drew'.only (by omega) (Only.setRow _ (w.heap.size + 1 + 1 + 1) C2), HM.out.drew'.only (by omega) (Only.setRow _ (w.heap.size + 1 + 1 + 1) C2)⟩ (fun hS2 => ?_)
  clear hK K
  refine held_step get3 (by kernel_rfl) (fun K hK => ?_)
  refine step_store 41 (.tmp 7) (.tmp 192) rfl rfl (w.heap.size + 1 + 1 + 1 + 1) M2 rfl rfl 41 zeros41 (R2.out.drew'.only (by omega) (Only.setRow _ (w.heap.size + 1 + 1 + 1) C2)) (infoMem SM2.out) (by rw [SM2.out]; rfl) ON2.out ?_
  refine hK.out _ _ ⟨hS2.1.only (by omega) (Only.setRow _ (w.heap.size + 1 + 1 + 1 + 1) M2), hS2.2.only (by omega) (Only.setRow _ (w.heap.size + 1 + 1 + 1 + 1) M2)⟩ (fun hS3 => ?_)
  clear hK K
  refine wpAnyH_done (by kernel_rfl) ?_ _
  go_wp2_with fail
  refine bodyPost_ret (v := .tuple #[.agg C2, .agg M2]) (results_two_rows rfl _ _ (w.heap.size + 1 + 1 + 1) (w.heap.size + 1 + 1 + 1 + 1) 38 41 C2 M2 _ _ rfl rfl ((R1.out.drew'.setRow C2).only (by omega) (Only.setRow _ (w.heap.size + 1 + 1 + 1 + 1) M2)) ((R2.out.drew'.only (by omega) (Only.setRow _ (w.heap.size + 1 + 1 + 1) C2)).setRow M2) Tryd.underlying38 rfl (infoCpu SZ.out) Tryd.underlying41 rfl (infoMem SM2.out)) rfl ⟨h', by rw [CE.out, CM2.out], (XV.out.drew'.only NE.out.2.2.2.1 (Only.setRow _ (w.heap.size + 1 + 1 + 1) C2)).only NE.out.2.1 (Only.setRow _ (w.heap.size + 1 + 1 + 1 + 1) M2), NE.out.2.2.1, ((BV.out.drew.trans ((Only.setRow _ (w.heap.size + 1 + 1 + 1) C2).below (by omega) (by have := BV.out.size; simpa using this))).trans ((Only.setRow _ (w.heap.size + 1 + 1 + 1 + 1) M2).below (by omega) (by have := BV.out.size; simpa using this)))⟩

set_option maxHeartbeats 8000000 in
set_option maxRecDepth 100000 in
theorem refdo_19_err (a b cc : Nat) (n : Int) (c : Cp) (A1 A2 : Option Addr) (n1 k1 n2 k2 : Nat) (MC : Array Value) (w : World) (ha : a < 16) (hb : b < 16) (hcc : cc < 16) (ub : 0 ≤ (c.r.getD b 0) ∧ (c.r.getD b 0) ≤ 4294967295) (uc : 0 ≤ (c.r.getD cc 0) ∧ (c.r.getD cc 0) ≤ 4294967295) (hl : c.r.length = 16) (hm : MC.size = 6) (hm1 : MC.all (·.oneCell') = true) (hh m : Nat) (e0 e1 e2 e3 e4 : Int) (ws : List Int) (hMC : MC = memCells e0 e1 e2 e3 e4 hh m) (hW : Whole w hh 22 (words ws)) (hwl : ws.length = m) (hm2 : m ≤ 1000000) (h4 : e4 = 4 * m) (hws : ∀ z ∈ ws, U32 z) (ua : U32 (c.r.getD a 0)) (er : Int) (hz : storeRes (((c.r.getD b 0) + n) % 4294967296) e1 e4 = er) (hne : (er != 0) = true) :
    Calls Tryd.prog 26 #[.agg (cpuCells c (.slice A1 n1 k1) (.slice A2 n2 k2)), .agg MC, .agg #[.int .i64 19, .int .i64 a, .int .i64 b, .int .i64 cc, .int .i64 n]] w (St19Post (cpuCells (faultC c er) (.slice A1 n1 k1) (.slice A2 n2 k2)) e0 e1 e2 e3 e4 m (ws) hh w) := by
  have F0 := fr_made w (cpuCells c (.slice A1 n1 k1) (.slice A2 n2 k2)) MC #[.int .i64 19, .int .i64 a, .int .i64 b, .int .i64 cc, .int .i64 n]
  unfold zeros38 zeros41 at F0
  have FH := Lib.hid F0
  have haI : (a : Int) < 16 := by omega
  have hbI : (b : Int) < 16 := by omega
  have hcI : (cc : Int) < 16 := by omega
  have SM := Lib.hid hm
  have ONM := Lib.hid hm1
  have HLN := Lib.hid hl
  have qa := (F0.c.cell a).trans (cpuCells_reg hl _ _ ha)
  have qb := (F0.c.cell b).trans (cpuCells_reg hl _ _ hb)
  have GA := Lib.hid (cpuCells_reg hl (.slice A1 n1 k1) (.slice A2 n2 k2) ha)
  have GB := Lib.hid (cpuCells_reg hl (.slice A1 n1 k1) (.slice A2 n2 k2) hb)
  have GC := Lib.hid (cpuCells_reg hl (.slice A1 n1 k1) (.slice A2 n2 k2) hcc)
  have LD := Lib.hid (fun w' hb => refstore_any hh m e0 e1 e2 e3 e4 (((c.r.getD b 0) + n) % 4294967296) (c.r.getD a 0) ws w' (by unfold U32; omega) ua (hW.below (B := w.heap.size) hb hW.lt) hwl hm2 h4 hws)
  have HM2 := Lib.hid (fun h' => one_mem2 e0 e1 e2 e3 e4 h' m)
  have WH := Lib.hid hW
  have CMC := Lib.hid hMC
  rw [← hMC] at LD
  simp only [hz] at LD
  have CT := Lib.hid (fun w => reffault_any c A1 A2 n1 k1 n2 k2 er w hl)
  have SZ0 := Lib.hid (cpuCells_size hl (.slice A1 n1 k1) (.slice A2 n2 k2))
  clear F0 hm hm1 hl
  generalize (c.r.getD a 0) = ra at *
  generalize (c.r.getD b 0) = rb at *
  generalize (c.r.getD cc 0) = rc at *
  have hl2 : (faultC c er : Cp).r.length = 16 := by first | exact HLN.out | exact trapC_len HLN.out | (show (List.set _ _ _).length = 16; rw [List.length_set]; exact HLN.out)
  have SZ := Lib.hid (cpuCells_size hl2 (.slice A1 n1 k1) (.slice A2 n2 k2))
  have ONE := Lib.hid (cpu_one (faultC c er) (o := (.slice A1 n1 k1)) (i := (.slice A2 n2 k2)) rfl rfl)
  clear hl2
  generalize hC2 : cpuCells (faultC c er) (.slice A1 n1 k1) (.slice A2 n2 k2) = C2 at *
  have CE := Lib.hid hC2
  clear hC2
  clear hz hW hwl h4 hws hMC ua
  generalize storeWs ((rb + n) % 4294967296) e1 e4 ra ws = ws2 at *
  unfold St19Post
  generalize hC0 : cpuCells c (.slice A1 n1 k1) (.slice A2 n2 k2) = C0 at *
  go_enter Tryd.func26, Tryd.ntmps26
  go_wp2_with fail
  go_quiet (fail)
  have FD := Lib.hid (FH.out.drawn nq)
  clear FH qa qb
  generalize ((((((w.alloc (.cells C0 38)).alloc (.cells MC 41)).alloc (.cells #[.int .i64 19, .int .i64 a, .int .i64 b, .int .i64 cc, .int .i64 n] 54)).alloc (.cells #[.int .u32 0, .int .u32 0, .int .u32 0, .int .u32 0, .int .u32 0, .int .u32 0, .int .u32 0, .int .u32 0, .int .u32 0, .int .u32 0, .int .u32 0, .int .u32 0, .int .u32 0, .int .u32 0, .int .u32 0, .int .u32 0, .int .u32 0, .int .u32 0, .int .u32 0, .int .i64 0, .int .i64 0, .int .i64 0, .int .i64 0, .slice none 0 0, .int .u32 0, .int .u32 0, .int .u32 0, .int .u32 0, .slice none 0 0] 38)).alloc (.cells #[.int .u32 0, .int .u32 0, .int .u32 0, .int .u32 0, .int .u32 0, .slice none 0 0] 41)).drewN nq) = W at *
  have i0 : W.cell? ⟨w.heap.size + 1 + 1, 0, none⟩ = some (.int .i64 19) := FD.out.i.cell 0
  have i4 : W.cell? ⟨w.heap.size + 1 + 1, 4, none⟩ = some (.int .i64 n) := FD.out.i.cell 4
  have q16 : W.cell? ⟨w.heap.size, 16, none⟩ = some (.int .u32 c.pc) := by subst hC0; exact (FD.out.c.cell 16).trans (cpuCells_pc HLN.out _ _)
  go_wp2_with (refine wpList_load_row rfl 41 (.tmp 4) rfl (w.heap.size + 1) rfl 41 MC (0, 0) _ FD.out.m Tryd.underlying41 rfl (infoMem SM.out) ?_)
  have LTW := Lib.hid FD.out.m.lt
  have LSW := Lib.hid FD.out.bel.size
  have LTR := Lib.hid FD.out.r2.lt
  refine (LD.out _ FD.out.bel).mono ?_
  rintro e w1 ⟨h', rfl, hX, hh', hb1⟩
  have NE := Lib.hid (show h' ≠ w.heap.size + 1 ∧ h' ≠ w.heap.size + 1 + 1 + 1 + 1 ∧ (h' = hh ∨ w.heap.size ≤ h') ∧ h' ≠ w.heap.size + 1 + 1 + 1 ∧ h' ≠ w.heap.size by have := WH.out.lt; have := LTW.out; have := LSW.out; have := LTR.out; omega)
  have FD := Lib.hid (FD.out.later hb1)
  have SM2 := Lib.hid (infoMem2 (e0 := e0) (e1 := e1) (e2 := e2) (e3 := e3) (e4 := e4) (h := h') (m := m))
  have ON2 := Lib.hid (HM2.out h')
  have HB1 := Lib.hid hb1
  have HX := Lib.hid hX
  have HH := Lib.hid hh'
  generalize hM2 : memCells e0 e1 e2 e3 e4 h' m = M2 at *
  have CM2 := Lib.hid hM2
  clear hM2 hX hh' hb1
  clear i0 i4 q16
  have B1 : Below w1.heap.size w1 ((w1.alloc (.cells #[.int .u32 0, .int .u32 0, .int .u32 0, .int .u32 0, .int .u32 0, .slice none 0 0] 41)).setRow w1.heap.size M2) := ((Below.refl w1.heap.size w1).alloc (Nat.le_refl _) _).trans ((Only.setRow _ w1.heap.size M2).below (Nat.le_refl _) (by simp))
  have FD := Lib.hid (FD.out.later B1)
  clear B1
  go_wp2_with (refine wpList_store_row rfl 41 (.tmp 18) (.tmp 160) rfl w1.heap.size M2 rfl rfl 41 zeros41 (Whole.made w1 41 zeros41 _ rfl) (infoMem SM2.out) (by rw [SM2.out]; rfl) ON2.out ?_)
  generalize ((w1.alloc (.cells #[.int .u32 0, .int .u32 0, .int .u32 0, .int .u32 0, .int .u32 0, .slice none 0 0] 41)).setRow w1.heap.size M2) = W2 at *
  have HC := Lib.hid FD.out.c
  have HM := Lib.hid FD.out.m
  have HI := Lib.hid FD.out.i
  have R1 := Lib.hid FD.out.r1
  have R2 := Lib.hid FD.out.r2
  have BV := Lib.hid FD.out.bel
  clear FD
  refine held_start 6 rfl (S := fun y => Whole y w.heap.size 38 C0 ∧ Whole y (w.heap.size + 1) 41 MC ∧ True) (by kernel_rfl) ⟨HC.out.drew', HM.out.drew', trivial⟩ (fun hS => ?_)
  refine wpAnyH_take (i := 0) (v := .agg C0) get0 ?_ ?_ ?_ ?_ ?_ hS ?_
  · kernel_rfl
  · kernel_rfl
  · kernel_rfl
  · exact fun _ _ _ h => h
  · exact take_load 38 (.tmp 3) rfl rfl (w.heap.size) rfl 38 C0 (fun _ h => h.1) _ Tryd.underlying38 rfl (infoCpu SZ0.out)
  refine wpAnyH_take (i := 1) (v := .int .i64 er) get1 ?_ ?_ ?_ ?_ ?_ hS ?_
  · kernel_rfl
  · kernel_rfl
  · kernel_rfl
  · exact fun _ _ _ h => h
  · exact take_slot (.tmp 19) rfl rfl (eval_ne (by decide) rfl)
  refine wpAnyH_take (i := 3) (v := .agg MC) get3 ?_ ?_ ?_ ?_ ?_ hS ?_
  · kernel_rfl
  · kernel_rfl
  · kernel_rfl
  · exact fun _ _ _ h => h
  · exact take_load 41 (.tmp 4) rfl rfl ((w.heap.size + 1)) (eval_ne (by decide) (eval_ne (by decide) rfl)) 41 MC (fun _ h => h.2.1) _ Tryd.underlying41 rfl (infoMem SM.out)
  refine held_step get2 (by kernel_rfl) (fun K hK => ?_)
  refine step_call2 Tryd.func24 rfl rfl rfl rfl (.agg C0) (.int .i64 er) (eval_ne (by decide) (eval_ne (by decide) (eval_at (n := 193) rfl (by decide)))) (eval_ne (by decide) (eval_at (n := 193) (size_put rfl) (by decide))) (CT.out _) ?_
  rintro e w1 ⟨rfl, hb1⟩
  refine ⟨_, rfl, ?_⟩
  have Z1 := Lib.hid (R1.out.drew'.below hb1 R1.out.lt)
  have Z2 := Lib.hid (R2.out.drew'.below hb1 R2.out.lt)
  have ZB := Lib.hid (BV.out.drew.trans (hb1.mono BV.out.size))
  refine hK.out _ _ ⟨hS.1.below hb1 HC.out.lt, hS.2.1.below hb1 HM.out.lt, trivial⟩ (fun hS2 => ?_)
  clear hK K hb1
  refine held_step get4 (by kernel_rfl) (fun K hK => ?_)
  refine step_store 38 (.tmp 6) (.tmp 166) rfl rfl (w.heap.size + 1 + 1 + 1) C2 (eval_ne (by decide) (eval_ne (by decide) (eval_ne (by decide) (eval_ne (by decide) rfl)))) (eval_at (n := 193) (size_put (size_put (size_put rfl))) (by decide)) 38 zeros38 Z1.out (infoCpu SZ.out) (by rw [SZ.out]; rfl) ONE.out ?_
  refine hK.out _ _ ⟨hS2.1.only (by omega) (Only.setRow _ (w.heap.size + 1 + 1 + 1) C2), hS2.2.1.only (by omega) (Only.setRow _ (w.heap.size + 1 + 1 + 1) C2), trivial⟩ (fun hS3 => ?_)
  clear hK K
  refine held_step get5 (by kernel_rfl) (fun K hK => ?_)
  refine step_store 41 (.tmp 7) (.tmp 167) rfl rfl (w.heap.size + 1 + 1 + 1 + 1) MC (eval_none (eval_ne (by decide) (eval_ne (by decide) (eval_ne (by decide) (eval_ne (by decide) rfl))))) (eval_none (eval_ne (by decide) (eval_at (n := 193) (size_put (size_put rfl)) (by decide)))) 41 zeros41 (Z2.out.only (by omega) (Only.setRow _ (w.heap.size + 1 + 1 + 1) C2)) (infoMem SM.out) (by rw [SM.out]; rfl) ONM.out ?_
  refine hK.out _ _ ⟨hS3.1.only (by omega) (Only.setRow _ (w.heap.size + 1 + 1 + 1 + 1) MC), hS3.2.1.only (by omega) (Only.setRow _ (w.heap.size + 1 + 1 + 1 + 1) MC), trivial⟩ (fun hS4 => ?_)
  clear hK K
  refine wpAnyH_done (by kernel_rfl) ?_ _
  go_wp2_with fail
  refine bodyPost_ret (v := .tuple #[.agg C2, .agg MC]) (results_two_rows2 rfl _ _ (w.heap.size + 1 + 1 + 1) (w.heap.size + 1 + 1 + 1 + 1) 38 41 C2 MC _ _ (eval_none (eval_none (eval_ne (by decide) (eval_ne (by decide) (eval_ne (by decide) (eval_ne (by decide) rfl)))))) (eval_none (eval_none (eval_ne (by decide) (eval_ne (by decide) (eval_ne (by decide) (eval_ne (by decide) rfl)))))) ((Z1.out.setRow C2).only (by omega) (Only.setRow _ (w.heap.size + 1 + 1 + 1 + 1) MC)) ((Z2.out.only (by omega) (Only.setRow _ (w.heap.size + 1 + 1 + 1) C2)).setRow MC) Tryd.underlying38 rfl (infoCpu SZ.out) Tryd.underlying41 rfl (infoMem SM.out)) rfl ⟨hh, by rw [CMC.out], WH.out.below (B := w.heap.size) (((ZB.out.trans ((Only.setRow _ (w.heap.size + 1 + 1 + 1) C2).below (by omega) (by have := ZB.out.size; simpa using this))).trans ((Only.setRow _ (w.heap.size + 1 + 1 + 1 + 1) MC).below (by omega) (by have := ZB.out.size; simpa using this)))) WH.out.lt, .inl rfl, ((ZB.out.trans ((Only.setRow _ (w.heap.size + 1 + 1 + 1) C2).below (by omega) (by have := ZB.out.size; simpa using this))).trans ((Only.setRow _ (w.heap.size + 1 + 1 + 1 + 1) MC).below (by omega) (by have := ZB.out.size; simpa using this)))⟩

end Go.Proofs.YtinpdgjbiimgkaaDoor

/- The answers' do, by operation. -/
namespace Go.Proofs.YtinpdgjbiimgkaaDoor
open Go.ChangeShapes Go.WideShapes Go.ChangeAt Go.RowKit
set_option linter.unusedVariables false

set_option maxHeartbeats 8000000 in
set_option maxRecDepth 100000 in
theorem refdo_31_some (a b cc : Nat) (n : Int) (c : Cp) (A1 A2 : Option Addr) (n1 k1 n2 k2 : Nat) (MC : Array Value) (w : World) (ha : a < 16) (hb : b < 16) (hcc : cc < 16) (ub : 0 ≤ (c.r.getD b 0) ∧ (c.r.getD b 0) ≤ 4294967295) (uc : 0 ≤ (c.r.getD cc 0) ∧ (c.r.getD cc 0) ≤ 4294967295) (hl : c.r.length = 16) (hm : MC.size = 6) (hm1 : MC.all (·.oneCell') = true) (ux : 0 ≤ (c.r.getD a 0) ∧ (c.r.getD a 0) ≤ 4294967295) (k : Nat) (hk : c.taken = k) (h1 : k < n2) (hm2 : n2 ≤ 1000000) (zs : List Int) (hz : Nums .i32 w A2 n2 zs) :
    Calls Tryd.prog 26 #[.agg (cpuCells c (.slice A1 n1 k1) (.slice A2 n2 k2)), .agg MC, .agg #[.int .i64 31, .int .i64 a, .int .i64 b, .int .i64 cc, .int .i64 n]] w fun e w' => e = .returned (.tuple #[.agg (cpuCells ({ setC c a (w32 (zs.getD k 0)) with taken := c.taken + 1 }) (.slice A1 n1 k1) (.slice A2 n2 k2)), .agg MC]) ∧ Below w.heap.size w w' := by
  have F0 := fr_made w (cpuCells c (.slice A1 n1 k1) (.slice A2 n2 k2)) MC #[.int .i64 31, .int .i64 a, .int .i64 b, .int .i64 cc, .int .i64 n]
  unfold zeros38 zeros41 at F0
  have FH := Lib.hid F0
  have haI : (a : Int) < 16 := by omega
  have hbI : (b : Int) < 16 := by omega
  have hcI : (cc : Int) < 16 := by omega
  have SM := Lib.hid hm
  have ONM := Lib.hid hm1
  have HLN := Lib.hid hl
  have qa := (F0.c.cell a).trans (cpuCells_reg hl _ _ ha)
  have qb := (F0.c.cell b).trans (cpuCells_reg hl _ _ hb)
  have GA := Lib.hid (cpuCells_reg hl (.slice A1 n1 k1) (.slice A2 n2 k2) ha)
  have GB := Lib.hid (cpuCells_reg hl (.slice A1 n1 k1) (.slice A2 n2 k2) hb)
  have GC := Lib.hid (cpuCells_reg hl (.slice A1 n1 k1) (.slice A2 n2 k2) hcc)
  have CT := Lib.hid (fun w' hz' => refothers_31_some a b cc n (c.r.getD a 0) c A1 A2 n1 k1 n2 k2 w' ha hb ux hl k hk h1 hm2 zs hz')
  have SZ0 := Lib.hid (cpuCells_size hl (.slice A1 n1 k1) (.slice A2 n2 k2))
  have HZ := Lib.hid hz
  clear F0 hm hm1 hl
  clear ux
  generalize (c.r.getD a 0) = ra at *
  generalize (c.r.getD b 0) = rb at *
  generalize (c.r.getD cc 0) = rc at *
  have hl2 : ({ setC c a (w32 (zs.getD k 0)) with taken := c.taken + 1 } : Cp).r.length = 16 := by first | exact HLN.out | exact trapC_len HLN.out | (show (List.set _ _ _).length = 16; rw [List.length_set]; exact HLN.out)
  have SZ := Lib.hid (cpuCells_size hl2 (.slice A1 n1 k1) (.slice A2 n2 k2))
  have ONE := Lib.hid (cpu_one ({ setC c a (w32 (zs.getD k 0)) with taken := c.taken + 1 }) (o := (.slice A1 n1 k1)) (i := (.slice A2 n2 k2)) rfl rfl)
  clear hl2
  generalize hC2 : cpuCells ({ setC c a (w32 (zs.getD k 0)) with taken := c.taken + 1 }) (.slice A1 n1 k1) (.slice A2 n2 k2) = C2 at *
  have CE := Lib.hid hC2
  clear hC2
  clear hk h1 hz
  generalize hC0 : cpuCells c (.slice A1 n1 k1) (.slice A2 n2 k2) = C0 at *
  go_enter Tryd.func26, Tryd.ntmps26
  go_wp2_with fail
  go_quiet (fail)
  have FD := Lib.hid (FH.out.drawn nq)
  clear FH qa qb
  generalize ((((((w.alloc (.cells C0 38)).alloc (.cells MC 41)).alloc (.cells #[.int .i64 31, .int .i64 a, .int .i64 b, .int .i64 cc, .int .i64 n] 54)).alloc (.cells #[.int .u32 0, .int .u32 0, .int .u32 0, .int .u32 0, .int .u32 0, .int .u32 0, .int .u32 0, .int .u32 0, .int .u32 0, .int .u32 0, .int .u32 0, .int .u32 0, .int .u32 0, .int .u32 0, .int .u32 0, .int .u32 0, .int .u32 0, .int .u32 0, .int .u32 0, .int .i64 0, .int .i64 0, .int .i64 0, .int .i64 0, .slice none 0 0, .int .u32 0, .int .u32 0, .int .u32 0, .int .u32 0, .slice none 0 0] 38)).alloc (.cells #[.int .u32 0, .int .u32 0, .int .u32 0, .int .u32 0, .int .u32 0, .slice none 0 0] 41)).drewN nq) = W at *
  have i0 : W.cell? ⟨w.heap.size + 1 + 1, 0, none⟩ = some (.int .i64 31) := FD.out.i.cell 0
  have i4 : W.cell? ⟨w.heap.size + 1 + 1, 4, none⟩ = some (.int .i64 n) := FD.out.i.cell 4
  have q16 : W.cell? ⟨w.heap.size, 16, none⟩ = some (.int .u32 c.pc) := by subst hC0; exact (FD.out.c.cell 16).trans (cpuCells_pc HLN.out _ _)
  have HC := Lib.hid FD.out.c
  have HM := Lib.hid FD.out.m
  have HI := Lib.hid FD.out.i
  have R1 := Lib.hid FD.out.r1
  have R2 := Lib.hid FD.out.r2
  have BV := Lib.hid FD.out.bel
  clear FD
  go_wp2_with fail
  refine held_start 7 rfl (S := fun y => Whole y w.heap.size 38 C0 ∧ Whole y (w.heap.size + 1) 41 MC ∧ Whole y (w.heap.size + 1 + 1) 54 #[.int .i64 31, .int .i64 a, .int .i64 b, .int .i64 cc, .int .i64 n]) (by kernel_rfl) ⟨HC.out.drew', HM.out.drew', HI.out.drew'⟩ (fun hS => ?_)
  refine wpAnyH_take (i := 0) (v := .agg C0) get0 ?_ ?_ ?_ ?_ ?_ hS ?_
  · kernel_rfl
  · kernel_rfl
  · kernel_rfl
  · exact fun _ _ _ h => h
  · exact take_load 38 (.tmp 3) rfl rfl (w.heap.size) rfl 38 C0 (fun _ h => h.1) _ Tryd.underlying38 rfl (infoCpu SZ0.out)
  refine wpAnyH_take (i := 1) (v := .agg #[.int .i64 31, .int .i64 a, .int .i64 b, .int .i64 cc, .int .i64 n]) get1 ?_ ?_ ?_ ?_ ?_ hS ?_
  · kernel_rfl
  · kernel_rfl
  · kernel_rfl
  · exact fun _ _ _ h => h
  · exact take_load 54 (.tmp 5) rfl rfl (w.heap.size + 1 + 1) (eval_ne (by decide) rfl) 54 _ (fun _ h => h.2.2) _ Tryd.underlying54 rfl (infoI rfl)
  refine wpAnyH_take (i := 2) (v := .int .u32 ra) get2 ?_ ?_ ?_ ?_ ?_ hS ?_
  · kernel_rfl
  · kernel_rfl
  · kernel_rfl
  · exact fun _ _ _ h => h
  · exact take_slot (.tmp 8) rfl rfl (eval_ne (by decide) (eval_ne (by decide) rfl))
  refine wpAnyH_take (i := 4) (v := .agg MC) get4 ?_ ?_ ?_ ?_ ?_ hS ?_
  · kernel_rfl
  · kernel_rfl
  · kernel_rfl
  · exact fun _ _ _ h => h
  · exact take_load 41 (.tmp 4) rfl rfl ((w.heap.size + 1)) (eval_ne (by decide) (eval_ne (by decide) (eval_ne (by decide) rfl))) 41 MC (fun _ h => h.2.1) _ Tryd.underlying41 rfl (infoMem SM.out)
  refine held_step get3 (by kernel_rfl) (fun K hK => ?_)
  refine step_call3 Tryd.func47 rfl rfl rfl rfl (.agg C0) (.agg #[.int .i64 31, .int .i64 a, .int .i64 b, .int .i64 cc, .int .i64 n]) (.int .u32 ra) (eval_ne (by decide) (eval_ne (by decide) (eval_ne (by decide) (eval_at (n := 193) rfl (by decide))))) (eval_ne (by decide) (eval_ne (by decide) (eval_at (n := 193) (size_put rfl) (by decide)))) (eval_ne (by decide) (eval_at (n := 193) (size_put (size_put rfl)) (by decide))) (CT.out _ (HZ.out.below BV.out.drew)) ?_
  rintro e w1 ⟨rfl, hb1⟩
  refine ⟨_, rfl, ?_⟩
  have Z1 := Lib.hid (R1.out.drew'.below hb1 R1.out.lt)
  have Z2 := Lib.hid (R2.out.drew'.below hb1 R2.out.lt)
  have ZB := Lib.hid (BV.out.drew.trans (hb1.mono BV.out.size))
  refine hK.out _ _ ⟨hS.1.below hb1 HC.out.lt, hS.2.1.below hb1 HM.out.lt, hS.2.2.below hb1 HI.out.lt⟩ (fun hS2 => ?_)
  clear hK K hb1
  refine held_step get5 (by kernel_rfl) (fun K hK => ?_)
  refine step_store 38 (.tmp 6) (.tmp 81) rfl rfl (w.heap.size + 1 + 1 + 1) C2 (eval_ne (by decide) (eval_ne (by decide) (eval_ne (by decide) (eval_ne (by decide) (eval_ne (by decide) rfl))))) (eval_at (n := 193) (size_put (size_put (size_put (size_put rfl)))) (by decide)) 38 zeros38 Z1.out (infoCpu SZ.out) (by rw [SZ.out]; rfl) ONE.out ?_
  refine hK.out _ _ ⟨hS2.1.only (by omega) (Only.setRow _ (w.heap.size + 1 + 1 + 1) C2), hS2.2.1.only (by omega) (Only.setRow _ (w.heap.size + 1 + 1 + 1) C2), hS2.2.2.only (by omega) (Only.setRow _ (w.heap.size + 1 + 1 + 1) C2)⟩ (fun hS3 => ?_)
  clear hK K
  refine held_step get6 (by kernel_rfl) (fun K hK => ?_)
  refine step_store 41 (.tmp 7) (.tmp 82) rfl rfl (w.heap.size + 1 + 1 + 1 + 1) MC (eval_none (eval_ne (by decide) (eval_ne (by decide) (eval_ne (by decide) (eval_ne (by decide) (eval_ne (by decide) rfl)))))) (eval_none (eval_ne (by decide) (eval_at (n := 193) (size_put (size_put (size_put rfl))) (by decide)))) 41 zeros41 (Z2.out.only (by omega) (Only.setRow _ (w.heap.size + 1 + 1 + 1) C2)) (infoMem SM.out) (by rw [SM.out]; rfl) ONM.out ?_
  refine hK.out _ _ ⟨hS3.1.only (by omega) (Only.setRow _ (w.heap.size + 1 + 1 + 1 + 1) MC), hS3.2.1.only (by omega) (Only.setRow _ (w.heap.size + 1 + 1 + 1 + 1) MC), hS3.2.2.only (by omega) (Only.setRow _ (w.heap.size + 1 + 1 + 1 + 1) MC)⟩ (fun hS4 => ?_)
  clear hK K
  refine wpAnyH_done (by kernel_rfl) ?_ _
  go_wp2_with fail
  refine bodyPost_ret (v := .tuple #[.agg C2, .agg MC]) (results_two_rows2 rfl _ _ (w.heap.size + 1 + 1 + 1) (w.heap.size + 1 + 1 + 1 + 1) 38 41 C2 MC _ _ (eval_none (eval_none (eval_ne (by decide) (eval_ne (by decide) (eval_ne (by decide) (eval_ne (by decide) (eval_ne (by decide) rfl))))))) (eval_none (eval_none (eval_ne (by decide) (eval_ne (by decide) (eval_ne (by decide) (eval_ne (by decide) (eval_ne (by decide) rfl))))))) ((Z1.out.setRow C2).only (by omega) (Only.setRow _ (w.heap.size + 1 + 1 + 1 + 1) MC)) ((Z2.out.only (by omega) (Only.setRow _ (w.heap.size + 1 + 1 + 1) C2)).setRow MC) Tryd.underlying38 rfl (infoCpu SZ.out) Tryd.underlying41 rfl (infoMem SM.out)) rfl ⟨rfl, ((ZB.out.trans ((Only.setRow _ (w.heap.size + 1 + 1 + 1) C2).below (by omega) (by have := ZB.out.size; simpa using this))).trans ((Only.setRow _ (w.heap.size + 1 + 1 + 1 + 1) MC).below (by omega) (by have := ZB.out.size; simpa using this)))⟩

/-- What 'do' leaves with an event. -/
def D30Post (c : Cp) (i : Value) (MC : Array Value) (m : Nat) (evs : List (Int × Int)) (w : World) (e : Ending) (w' : World) : Prop :=
  ∃ A' k', e = .returned (.tuple #[.agg (cpuCells c (.slice A' m k') i), .agg MC]) ∧ (∀ b off, A' = some ⟨b, off, none⟩ → w.heap.size ≤ b) ∧ Evs w' A' m evs ∧ Below w.heap.size w w'

set_option maxHeartbeats 8000000 in
set_option maxRecDepth 100000 in
theorem refdo_30 (a b cc : Nat) (n : Int) (c : Cp) (A1 A2 : Option Addr) (n1 k1 n2 k2 : Nat) (MC : Array Value) (w : World) (ha : a < 16) (hb : b < 16) (hcc : cc < 16) (ub : 0 ≤ (c.r.getD b 0) ∧ (c.r.getD b 0) ≤ 4294967295) (uc : 0 ≤ (c.r.getD cc 0) ∧ (c.r.getD cc 0) ≤ 4294967295) (hl : c.r.length = 16) (hm : MC.size = 6) (hm1 : MC.all (·.oneCell') = true) (ux : 0 ≤ (c.r.getD a 0) ∧ (c.r.getD a 0) ≤ 4294967295) (evs : List (Int × Int)) (hE : Evs w A1 n1 evs) (hn : n1 ≤ 900000000) :
    Calls Tryd.prog 26 #[.agg (cpuCells c (.slice A1 n1 k1) (.slice A2 n2 k2)), .agg MC, .agg #[.int .i64 30, .int .i64 a, .int .i64 b, .int .i64 cc, .int .i64 n]] w (D30Post (passC c) (.slice A2 n2 k2) MC (n1 + 1) (evs ++ [(n, wrap32 (c.r.getD a 0))]) w) := by
  have F0 := fr_made w (cpuCells c (.slice A1 n1 k1) (.slice A2 n2 k2)) MC #[.int .i64 30, .int .i64 a, .int .i64 b, .int .i64 cc, .int .i64 n]
  unfold zeros38 zeros41 at F0
  have FH := Lib.hid F0
  have haI : (a : Int) < 16 := by omega
  have hbI : (b : Int) < 16 := by omega
  have hcI : (cc : Int) < 16 := by omega
  have SM := Lib.hid hm
  have ONM := Lib.hid hm1
  have HLN := Lib.hid hl
  have qa := (F0.c.cell a).trans (cpuCells_reg hl _ _ ha)
  have qb := (F0.c.cell b).trans (cpuCells_reg hl _ _ hb)
  have GA := Lib.hid (cpuCells_reg hl (.slice A1 n1 k1) (.slice A2 n2 k2) ha)
  have GB := Lib.hid (cpuCells_reg hl (.slice A1 n1 k1) (.slice A2 n2 k2) hb)
  have GC := Lib.hid (cpuCells_reg hl (.slice A1 n1 k1) (.slice A2 n2 k2) hcc)
  have CT := Lib.hid (fun w' hz' => refothers_30 a b cc n (c.r.getD a 0) c A1 A2 n1 k1 n2 k2 w' ux hl evs hz' hn)
  have SZ0 := Lib.hid (cpuCells_size hl (.slice A1 n1 k1) (.slice A2 n2 k2))
  have HE := Lib.hid hE
  clear F0 hm hm1 hl
  clear ux
  generalize (c.r.getD a 0) = ra at *
  generalize (c.r.getD b 0) = rb at *
  generalize (c.r.getD cc 0) = rc at *
  unfold D30Post
  unfold O30Post at CT
  clear hE hn
  generalize hC0 : cpuCells c (.slice A1 n1 k1) (.slice A2 n2 k2) = C0 at *
  go_enter Tryd.func26, Tryd.ntmps26
  go_wp2_with fail
  go_quiet (fail)
  have FD := Lib.hid (FH.out.drawn nq)
  clear FH qa qb
  generalize ((((((w.alloc (.cells C0 38)).alloc (.cells MC 41)).alloc (.cells #[.int .i64 30, .int .i64 a, .int .i64 b, .int .i64 cc, .int .i64 n] 54)).alloc (.cells #[.int .u32 0, .int .u32 0, .int .u32 0, .int .u32 0, .int .u32 0, .int .u32 0, .int .u32 0, .int .u32 0, .int .u32 0, .int .u32 0, .int .u32 0, .int .u32 0, .int .u32 0, .int .u32 0, .int .u32 0, .int .u32 0, .int .u32 0, .int .u32 0, .int .u32 0, .int .i64 0, .int .i64 0, .int .i64 0, .int .i64 0, .slice none 0 0, .int .u32 0, .int .u32 0, .int .u32 0, .int .u32 0, .slice none 0 0] 38)).alloc (.cells #[.int .u32 0, .int .u32 0, .int .u32 0, .int .u32 0, .int .u32 0, .slice none 0 0] 41)).drewN nq) = W at *
  have i0 : W.cell? ⟨w.heap.size + 1 + 1, 0, none⟩ = some (.int .i64 30) := FD.out.i.cell 0
  have i4 : W.cell? ⟨w.heap.size + 1 + 1, 4, none⟩ = some (.int .i64 n) := FD.out.i.cell 4
  have q16 : W.cell? ⟨w.heap.size, 16, none⟩ = some (.int .u32 c.pc) := by subst hC0; exact (FD.out.c.cell 16).trans (cpuCells_pc HLN.out _ _)
  have HC := Lib.hid FD.out.c
  have HM := Lib.hid FD.out.m
  have HI := Lib.hid FD.out.i
  have R1 := Lib.hid FD.out.r1
  have R2 := Lib.hid FD.out.r2
  have BV := Lib.hid FD.out.bel
  clear FD
  go_wp2_with fail
  refine held_start 7 rfl (S := fun y => Whole y w.heap.size 38 C0 ∧ Whole y (w.heap.size + 1) 41 MC ∧ Whole y (w.heap.size + 1 + 1) 54 #[.int .i64 30, .int .i64 a, .int .i64 b, .int .i64 cc, .int .i64 n]) (by kernel_rfl) ⟨HC.out.drew', HM.out.drew', HI.out.drew'⟩ (fun hS => ?_)
  refine wpAnyH_take (i := 0) (v := .agg C0) get0 ?_ ?_ ?_ ?_ ?_ hS ?_
  · kernel_rfl
  · kernel_rfl
  · kernel_rfl
  · exact fun _ _ _ h => h
  · exact take_load 38 (.tmp 3) rfl rfl (w.heap.size) rfl 38 C0 (fun _ h => h.1) _ Tryd.underlying38 rfl (infoCpu SZ0.out)
  refine wpAnyH_take (i := 1) (v := .agg #[.int .i64 30, .int .i64 a, .int .i64 b, .int .i64 cc, .int .i64 n]) get1 ?_ ?_ ?_ ?_ ?_ hS ?_
  · kernel_rfl
  · kernel_rfl
  · kernel_rfl
  · exact fun _ _ _ h => h
  · exact take_load 54 (.tmp 5) rfl rfl (w.heap.size + 1 + 1) (eval_ne (by decide) rfl) 54 _ (fun _ h => h.2.2) _ Tryd.underlying54 rfl (infoI rfl)
  refine wpAnyH_take (i := 2) (v := .int .u32 ra) get2 ?_ ?_ ?_ ?_ ?_ hS ?_
  · kernel_rfl
  · kernel_rfl
  · kernel_rfl
  · exact fun _ _ _ h => h
  · exact take_slot (.tmp 8) rfl rfl (eval_ne (by decide) (eval_ne (by decide) rfl))
  refine wpAnyH_take (i := 4) (v := .agg MC) get4 ?_ ?_ ?_ ?_ ?_ hS ?_
  · kernel_rfl
  · kernel_rfl
  · kernel_rfl
  · exact fun _ _ _ h => h
  · exact take_load 41 (.tmp 4) rfl rfl ((w.heap.size + 1)) (eval_ne (by decide) (eval_ne (by decide) (eval_ne (by decide) rfl))) 41 MC (fun _ h => h.2.1) _ Tryd.underlying41 rfl (infoMem SM.out)
  refine held_step get3 (by kernel_rfl) (fun K hK => ?_)
  refine step_call3 Tryd.func47 rfl rfl rfl rfl (.agg C0) (.agg #[.int .i64 30, .int .i64 a, .int .i64 b, .int .i64 cc, .int .i64 n]) (.int .u32 ra) (eval_ne (by decide) (eval_ne (by decide) (eval_ne (by decide) (eval_at (n := 193) rfl (by decide))))) (eval_ne (by decide) (eval_ne (by decide) (eval_at (n := 193) (size_put rfl) (by decide)))) (eval_ne (by decide) (eval_at (n := 193) (size_put (size_put rfl)) (by decide))) (CT.out _ (HE.out.below BV.out.drew)) ?_
  rintro e w1 ⟨A', k', rfl, hfr, hev, hb1⟩
  refine ⟨_, rfl, ?_⟩
  have hl2 : (passC c).r.length = 16 := HLN.out
  have SZ := Lib.hid (cpuCells_size hl2 (.slice A' (n1 + 1) k') (.slice A2 n2 k2))
  have ONE := Lib.hid (cpu_one (passC c) (o := .slice A' (n1 + 1) k') (i := (.slice A2 n2 k2)) rfl rfl)
  have FR3 := Lib.hid (show ∀ b off, A' = some ⟨b, off, none⟩ → b ≠ w.heap.size + 1 + 1 + 1 ∧ b ≠ w.heap.size + 1 + 1 + 1 + 1 ∧ w.heap.size ≤ b from fun b off hb => by have h1 : _ ≤ b := hfr b off hb; have h2 := R2.out.drew'.lt; omega)
  have EV1 := Lib.hid hev
  clear hl2 hfr hev
  generalize hC2 : cpuCells (passC c) (.slice A' (n1 + 1) k') (.slice A2 n2 k2) = C2 at *
  have CE := Lib.hid hC2
  clear hC2
  have Z1 := Lib.hid (R1.out.drew'.below hb1 R1.out.lt)
  have Z2 := Lib.hid (R2.out.drew'.below hb1 R2.out.lt)
  have ZB := Lib.hid (BV.out.drew.trans (hb1.mono BV.out.size))
  refine hK.out _ _ ⟨hS.1.below hb1 HC.out.lt, hS.2.1.below hb1 HM.out.lt, hS.2.2.below hb1 HI.out.lt⟩ (fun hS2 => ?_)
  clear hK K hb1
  refine held_step get5 (by kernel_rfl) (fun K hK => ?_)
  refine step_store 38 (.tmp 6) (.tmp 81) rfl rfl (w.heap.size + 1 + 1 + 1) C2 (eval_ne (by decide) (eval_ne (by decide) (eval_ne (by decide) (eval_ne (by decide) (eval_ne (by decide) rfl))))) (eval_at (n := 193) (size_put (size_put (size_put (size_put rfl)))) (by decide)) 38 zeros38 Z1.out (infoCpu SZ.out) (by rw [SZ.out]; rfl) ONE.out ?_
  refine hK.out _ _ ⟨hS2.1.only (by omega) (Only.setRow _ (w.heap.size + 1 + 1 + 1) C2), hS2.2.1.only (by omega) (Only.setRow _ (w.heap.size + 1 + 1 + 1) C2), hS2.2.2.only (by omega) (Only.setRow _ (w.heap.size + 1 + 1 + 1) C2)⟩ (fun hS3 => ?_)
  clear hK K
  refine held_step get6 (by kernel_rfl) (fun K hK => ?_)
  refine step_store 41 (.tmp 7) (.tmp 82) rfl rfl (w.heap.size + 1 + 1 + 1 + 1) MC (eval_none (eval_ne (by decide) (eval_ne (by decide) (eval_ne (by decide) (eval_ne (by decide) (eval_ne (by decide) rfl)))))) (eval_none (eval_ne (by decide) (eval_at (n := 193) (size_put (size_put (size_put rfl))) (by decide)))) 41 zeros41 (Z2.out.only (by omega) (Only.setRow _ (w.heap.size + 1 + 1 + 1) C2)) (infoMem SM.out) (by rw [SM.out]; rfl) ONM.out ?_
  refine hK.out _ _ ⟨hS3.1.only (by omega) (Only.setRow _ (w.heap.size + 1 + 1 + 1 + 1) MC), hS3.2.1.only (by omega) (Only.setRow _ (w.heap.size + 1 + 1 + 1 + 1) MC), hS3.2.2.only (by omega) (Only.setRow _ (w.heap.size + 1 + 1 + 1 + 1) MC)⟩ (fun hS4 => ?_)
  clear hK K
  refine wpAnyH_done (by kernel_rfl) ?_ _
  go_wp2_with fail
  refine bodyPost_ret (v := .tuple #[.agg C2, .agg MC]) (results_two_rows2 rfl _ _ (w.heap.size + 1 + 1 + 1) (w.heap.size + 1 + 1 + 1 + 1) 38 41 C2 MC _ _ (eval_none (eval_none (eval_ne (by decide) (eval_ne (by decide) (eval_ne (by decide) (eval_ne (by decide) (eval_ne (by decide) rfl))))))) (eval_none (eval_none (eval_ne (by decide) (eval_ne (by decide) (eval_ne (by decide) (eval_ne (by decide) (eval_ne (by decide) rfl))))))) ((Z1.out.setRow C2).only (by omega) (Only.setRow _ (w.heap.size + 1 + 1 + 1 + 1) MC)) ((Z2.out.only (by omega) (Only.setRow _ (w.heap.size + 1 + 1 + 1) C2)).setRow MC) Tryd.underlying38 rfl (infoCpu SZ.out) Tryd.underlying41 rfl (infoMem SM.out)) rfl ⟨A', k', by rw [CE.out], fun b off hb => (FR3.out b off hb).2.2, (EV1.out.but (But.of_only (Only.setRow _ (w.heap.size + 1 + 1 + 1) C2)) (fun b off hb => by have := FR3.out b off hb; simp; omega)).but (But.of_only (Only.setRow _ (w.heap.size + 1 + 1 + 1 + 1) MC)) (fun b off hb => by have := FR3.out b off hb; simp; omega), ((ZB.out.trans ((Only.setRow _ (w.heap.size + 1 + 1 + 1) C2).below (by omega) (by have := ZB.out.size; simpa using this))).trans ((Only.setRow _ (w.heap.size + 1 + 1 + 1 + 1) MC).below (by omega) (by have := ZB.out.size; simpa using this)))⟩

end Go.Proofs.YtinpdgjbiimgkaaDoor
