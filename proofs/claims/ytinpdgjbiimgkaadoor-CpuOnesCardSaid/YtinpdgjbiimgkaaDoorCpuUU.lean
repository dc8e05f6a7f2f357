/- CpuU0 CpuU1 CpuU2 in one. -/
import Derived.Test.YtinpdgjbiimgkaaDoorCpuT
import Derived.Test.YtinpdgjbiimgkaaDoorCpuC
import Derived.Test.YtinpdgjbiimgkaaDoorCpuP

/- The answers' do, by operation. -/
namespace Go.Proofs.YtinpdgjbiimgkaaDoor
open Go.ChangeShapes Go.WideShapes Go.ChangeAt Go.RowKit
set_option linter.unusedVariables false

set_option maxHeartbeats 8000000 in
set_option maxRecDepth 100000 in
theorem refdo_2 (a b cc : Nat) (n : Int) (c : Cp) (A1 A2 : Option Addr) (n1 k1 n2 k2 : Nat) (MC : Array Value) (w : World) (ha : a < 16) (hb : b < 16) (hcc : cc < 16) (ub : 0 ≤ (c.r.getD b 0) ∧ (c.r.getD b 0) ≤ 4294967295) (uc : 0 ≤ (c.r.getD cc 0) ∧ (c.r.getD cc 0) ≤ 4294967295) (hl : c.r.length = 16) (hm : MC.size = 6) (hm1 : MC.all (·.oneCell') = true)  :
    Calls Tryd.prog 26 #[.agg (cpuCells c (.slice A1 n1 k1) (.slice A2 n2 k2)), .agg MC, .agg #[.int .i64 2, .int .i64 a, .int .i64 b, .int .i64 cc, .int .i64 n]] w fun e w' => e = .returned (.tuple #[.agg (cpuCells (setC c a (w32 n)) (.slice A1 n1 k1) (.slice A2 n2 k2)), .agg MC]) ∧ Below w.heap.size w w' := by
  have F0 := fr_made w (cpuCells c (.slice A1 n1 k1) (.slice A2 n2 k2)) MC #[.int .i64 2, .int .i64 a, .int .i64 b, .int .i64 cc, .int .i64 n]
  unfold zeros38 zeros41 at F0
  have FH := Lib.hid F0
  have haI : (a : Int) < 16 := by omega
  have hbI : (b : Int) < 16 := by omega
  have hcI : (cc : Int) < 16 := by omega
  have SM := Lib.hid hm
  have ONM := Lib.hid hm1
  have HLN := Lib.hid hl
  have qa := (F0.c.cell a).trans (cpuCells_reg hl _ _ ha)
  have qb := (F0.c.cell b).trans (cpuCells_reg hl _ _ hb)
  have GA := Lib.hid (cpuCells_reg hl (.slice A1 n1 k1) (.slice A2 n2 k2) ha)
  have GB := Lib.hid (cpuCells_reg hl (.slice A1 n1 k1) (.slice A2 n2 k2) hb)
  have GC := Lib.hid (cpuCells_reg hl (.slice A1 n1 k1) (.slice A2 n2 k2) hcc)
  clear F0 hm hm1 hl
  generalize (c.r.getD a 0) = ra at *
  generalize (c.r.getD b 0) = rb at *
  generalize (c.r.getD cc 0) = rc at *
  generalize hC0 : cpuCells c (.slice A1 n1 k1) (.slice A2 n2 k2) = C0 at *
  go_enter Tryd.func26, Tryd.ntmps26
  go_wp2_with fail
  go_quiet (fail)
  have FD := Lib.hid (FH.out.drawn nq)
  clear FH qa qb
  generalize ((((((w.alloc (.cells C0 38)).alloc (.cells MC 41)).alloc (.cells #[.int .i64 2, .int .i64 a, .int .i64 b, .int .i64 cc, .int .i64 n] 54)).alloc (.cells #[.int .u32 0, .int .u32 0, .int .u32 0, .int .u32 0, .int .u32 0, .int .u32 0, .int .u32 0, .int .u32 0, .int .u32 0, .int .u32 0, .int .u32 0, .int .u32 0, .int .u32 0, .int .u32 0, .int .u32 0, .int .u32 0, .int .u32 0, .int .u32 0, .int .u32 0, .int .i64 0, .int .i64 0, .int .i64 0, .int .i64 0, .slice none 0 0, .int .u32 0, .int .u32 0, .int .u32 0, .int .u32 0, .slice none 0 0] 38)).alloc (.cells #[.int .u32 0, .int .u32 0, .int .u32 0, .int .u32 0, .int .u32 0, .slice none 0 0] 41)).drewN nq) = W at *
  subst hC0
  have qa : W.cell? ⟨w.heap.size, a, none⟩ = some (.int .u32 ra) := (FD.out.c.cell a).trans GA.out
  have qc : W.cell? ⟨w.heap.size, cc, none⟩ = some (.int .u32 rc) := (FD.out.c.cell cc).trans GC.out
  have q14 : W.cell? ⟨w.heap.size, 14, none⟩ = some (.int .u32 (c.r.getD 14 0)) := (FD.out.c.cell 14).trans (cpuCells_reg HLN.out _ _ (by decide))
  have q16 : W.cell? ⟨w.heap.size, 16, none⟩ = some (.int .u32 c.pc) := (FD.out.c.cell 16).trans (cpuCells_pc HLN.out _ _)
  have q19 : W.cell? ⟨w.heap.size, 19, none⟩ = some (.int .i64 c.st) := (FD.out.c.cell 19).trans (cpuCells_st HLN.out _ _)
  have hf : ∀ j, W.frozen? ⟨w.heap.size, j, none⟩ = false := FD.out.c.free
  have g2 : w.heap.size + 1 + 1 ≠ w.heap.size := by omega
  have i0 : W.cell? ⟨w.heap.size + 1 + 1, 0, none⟩ = some (.int .i64 2) := FD.out.i.cell 0
  have i1 : W.cell? ⟨w.heap.size + 1 + 1, 1, none⟩ = some (.int .i64 a) := FD.out.i.cell 1
  have i4 : W.cell? ⟨w.heap.size + 1 + 1, 4, none⟩ = some (.int .i64 n) := FD.out.i.cell 4
  go_wp2_with fail
  have FE := Lib.hid (show Fr w ((W.setCell ⟨w.heap.size, a, none⟩ (.int .u32 (n % 4294967296))).setCell ⟨w.heap.size, 16, none⟩ (.int .u32 ((c.pc + 4) % 4294967296))) (cpuCells (setC c a (w32 n)) (.slice A1 n1 k1) (.slice A2 n2 k2)) MC _ from (FD.out.setReg HLN.out ha _).set_pc (by simp [HLN.out]) _)
  clear FD i0 i1 i4 qa qc q14 q16 q19 hf
  generalize (W.setCell ⟨w.heap.size, a, none⟩ (.int .u32 (n % 4294967296))).setCell ⟨w.heap.size, 16, none⟩ (.int .u32 ((c.pc + 4) % 4294967296)) = V at *
  have hlf : (setC c a (w32 n)).r.length = 16 := by first | exact HLN.out | (show (List.set _ _ _).length = 16; rw [List.length_set]; exact HLN.out)
  have SZ := Lib.hid (cpuCells_size hlf (.slice A1 n1 k1) (.slice A2 n2 k2))
  have ONE := Lib.hid (cpu_one (setC c a (w32 n)) (o := (.slice A1 n1 k1)) (i := (.slice A2 n2 k2)) rfl rfl)
  clear hlf
  generalize hC2 : cpuCells (setC c a (w32 n)) (.slice A1 n1 k1) (.slice A2 n2 k2) = C2 at *
  have CE := Lib.hid hC2
  clear hC2
  have HC := Lib.hid FE.out.c
  have HM := Lib.hid FE.out.m
  have R1 := Lib.hid FE.out.r1
  have R2 := Lib.hid FE.out.r2
  have BV := Lib.hid FE.out.bel
  refine held_start 4 rfl (S := fun y => Whole y w.heap.size 38 C2 ∧ Whole y (w.heap.size + 1) 41 MC) (by kernel_rfl) ⟨HC.out.drew', HM.out.drew'⟩ (fun hS => ?_)
  refine wpAnyH_take (i := 0) (v := .agg C2) get0 ?_ ?_ ?_ ?_ ?_ hS ?_
  · kernel_rfl
  · kernel_rfl
  · kernel_rfl
  · exact fun _ _ _ h => h
  · exact take_load 38 (.tmp 3) rfl rfl (w.heap.size) rfl 38 C2 (fun _ h => h.1) _ Tryd.underlying38 rfl (infoCpu SZ.out)
  refine wpAnyH_take (i := 1) (v := .agg MC) get1 ?_ ?_ ?_ ?_ ?_ hS ?_
  · kernel_rfl
  · kernel_rfl
  · kernel_rfl
  · exact fun _ _ _ h => h
  · exact take_load 41 (.tmp 4) rfl rfl ((w.heap.size + 1)) rfl 41 MC (fun _ h => h.2) _ Tryd.underlying41 rfl (infoMem SM.out)
  refine held_step get2 (by kernel_rfl) (fun K hK => ?_)
  refine step_store 38 (.tmp 6) (.tmp 191) rfl rfl (w.heap.size + 1 + 1 + 1) C2 rfl rfl 38 zeros38 R1.out.drew' (infoCpu SZ.out) (by rw [SZ.out]; rfl) ONE.out ?_
  refine hK.out _ _ ⟨HC.out.drew'.only (by omega) (Only.setRow _ (w.heap.size + 1 + 1 + 1) C2), HM.out.drew'.only (by omega) (Only.setRow _ (w.heap.size + 1 + 1 + 1) C2)⟩ (fun hS2 => ?_)
  clear hK K
  refine held_step get3 (by kernel_rfl) (fun K hK => ?_)
  refine step_store 41 (.tmp 7) (.tmp 192) rfl rfl (w.heap.size + 1 + 1 + 1 + 1) MC rfl rfl 41 zeros41 (R2.out.drew'.only (by omega) (Only.setRow _ (w.heap.size + 1 + 1 + 1) C2)) (infoMem SM.out) (by rw [SM.out]; rfl) ONM.out ?_
  refine hK.out _ _ ⟨hS2.1.only (by omega) (Only.setRow _ (w.heap.size + 1 + 1 + 1 + 1) MC), hS2.2.only (by omega) (Only.setRow _ (w.heap.size + 1 + 1 + 1 + 1) MC)⟩ (fun hS3 => ?_)
  clear hK K
  refine wpAnyH_done (by kernel_rfl) ?_ _
  go_wp2_with fail
  refine bodyPost_ret (v := .tuple #[.agg C2, .agg MC]) (results_two_rows rfl _ _ (w.heap.size + 1 + 1 + 1) (w.heap.size + 1 + 1 + 1 + 1) 38 41 C2 MC _ _ rfl rfl ((R1.out.drew'.setRow C2).only (by omega) (Only.setRow _ (w.heap.size + 1 + 1 + 1 + 1) MC)) ((R2.out.drew'.only (by omega) (Only.setRow _ (w.heap.size + 1 + 1 + 1) C2)).setRow MC) Tryd.underlying38 rfl (infoCpu SZ.out) Tryd.underlying41 rfl (infoMem SM.out)) rfl ⟨by rw [CE.out], ((BV.out.drew.trans ((Only.setRow _ (w.heap.size + 1 + 1 + 1) C2).below (by omega) (by have := BV.out.size; simpa using this))).trans ((Only.setRow _ (w.heap.size + 1 + 1 + 1 + 1) MC).below (by omega) (by have := BV.out.size; simpa using this)))⟩

set_option maxHeartbeats 8000000 in
set_option maxRecDepth 100000 in
theorem refdo_3 (a b cc : Nat) (n : Int) (c : Cp) (A1 A2 : Option Addr) (n1 k1 n2 k2 : Nat) (MC : Array Value) (w : World) (ha : a < 16) (hb : b < 16) (hcc : cc < 16) (ub : 0 ≤ (c.r.getD b 0) ∧ (c.r.getD b 0) ≤ 4294967295) (uc : 0 ≤ (c.r.getD cc 0) ∧ (c.r.getD cc 0) ≤ 4294967295) (hl : c.r.length = 16) (hm : MC.size = 6) (hm1 : MC.all (·.oneCell') = true)  :
    Calls Tryd.prog 26 #[.agg (cpuCells c (.slice A1 n1 k1) (.slice A2 n2 k2)), .agg MC, .agg #[.int .i64 3, .int .i64 a, .int .i64 b, .int .i64 cc, .int .i64 n]] w fun e w' => e = .returned (.tuple #[.agg (cpuCells (setC c a (w32 (w32 n * 65536))) (.slice A1 n1 k1) (.slice A2 n2 k2)), .agg MC]) ∧ Below w.heap.size w w' := by
  have F0 := fr_made w (cpuCells c (.slice A1 n1 k1) (.slice A2 n2 k2)) MC #[.int .i64 3, .int .i64 a, .int .i64 b, .int .i64 cc, .int .i64 n]
  unfold zeros38 zeros41 at F0
  have FH := Lib.hid F0
  have haI : (a : Int) < 16 := by omega
  have hbI : (b : Int) < 16 := by omega
  have hcI : (cc : Int) < 16 := by omega
  have SM := Lib.hid hm
  have ONM := Lib.hid hm1
  have HLN := Lib.hid hl
  have qa := (F0.c.cell a).trans (cpuCells_reg hl _ _ ha)
  have qb := (F0.c.cell b).trans (cpuCells_reg hl _ _ hb)
  have GA := Lib.hid (cpuCells_reg hl (.slice A1 n1 k1) (.slice A2 n2 k2) ha)
  have GB := Lib.hid (cpuCells_reg hl (.slice A1 n1 k1) (.slice A2 n2 k2) hb)
  have GC := Lib.hid (cpuCells_reg hl (.slice A1 n1 k1) (.slice A2 n2 k2) hcc)
  clear F0 hm hm1 hl
  generalize (c.r.getD a 0) = ra at *
  generalize (c.r.getD b 0) = rb at *
  generalize (c.r.getD cc 0) = rc at *
  generalize hC0 : cpuCells c (.slice A1 n1 k1) (.slice A2 n2 k2) = C0 at *
  go_enter Tryd.func26, Tryd.ntmps26
  go_wp2_with fail
  go_quiet (fail)
  have FD := Lib.hid (FH.out.drawn nq)
  clear FH qa qb
  generalize ((((((w.alloc (.cells C0 38)).alloc (.cells MC 41)).alloc (.cells #[.int .i64 3, .int .i64 a, .int .i64 b, .int .i64 cc, .int .i64 n] 54)).alloc (.cells #[.int .u32 0, .int .u32 0, .int .u32 0, .int .u32 0, .int .u32 0, .int .u32 0, .int .u32 0, .int .u32 0, .int .u32 0, .int .u32 0, .int .u32 0, .int .u32 0, .int .u32 0, .int .u32 0, .int .u32 0, .int .u32 0, .int .u32 0, .int .u32 0, .int .u32 0, .int .i64 0, .int .i64 0, .int .i64 0, .int .i64 0, .slice none 0 0, .int .u32 0, .int .u32 0, .int .u32 0, .int .u32 0, .slice none 0 0] 38)).alloc (.cells #[.int .u32 0, .int .u32 0, .int .u32 0, .int .u32 0, .int .u32 0, .slice none 0 0] 41)).drewN nq) = W at *
  subst hC0
  have qa : W.cell? ⟨w.heap.size, a, none⟩ = some (.int .u32 ra) := (FD.out.c.cell a).trans GA.out
  have qc : W.cell? ⟨w.heap.size, cc, none⟩ = some (.int .u32 rc) := (FD.out.c.cell cc).trans GC.out
  have q14 : W.cell? ⟨w.heap.size, 14, none⟩ = some (.int .u32 (c.r.getD 14 0)) := (FD.out.c.cell 14).trans (cpuCells_reg HLN.out _ _ (by decide))
  have q16 : W.cell? ⟨w.heap.size, 16, none⟩ = some (.int .u32 c.pc) := (FD.out.c.cell 16).trans (cpuCells_pc HLN.out _ _)
  have q19 : W.cell? ⟨w.heap.size, 19, none⟩ = some (.int .i64 c.st) := (FD.out.c.cell 19).trans (cpuCells_st HLN.out _ _)
  have hf : ∀ j, W.frozen? ⟨w.heap.size, j, none⟩ = false := FD.out.c.free
  have g2 : w.heap.size + 1 + 1 ≠ w.heap.size := by omega
  have i0 : W.cell? ⟨w.heap.size + 1 + 1, 0, none⟩ = some (.int .i64 3) := FD.out.i.cell 0
  have i1 : W.cell? ⟨w.heap.size + 1 + 1, 1, none⟩ = some (.int .i64 a) := FD.out.i.cell 1
  have i4 : W.cell? ⟨w.heap.size + 1 + 1, 4, none⟩ = some (.int .i64 n) := FD.out.i.cell 4
  go_wp2_with fail
  have FE := Lib.hid (show Fr w ((W.setCell ⟨w.heap.size, a, none⟩ (.int .u32 (n % 4294967296 * 65536 % 4294967296))).setCell ⟨w.heap.size, 16, none⟩ (.int .u32 ((c.pc + 4) % 4294967296))) (cpuCells (setC c a (w32 (w32 n * 65536))) (.slice A1 n1 k1) (.slice A2 n2 k2)) MC _ from (FD.out.setReg HLN.out ha _).set_pc (by simp [HLN.out]) _)
  clear FD i0 i1 i4 qa qc q14 q16 q19 hf
  generalize (W.setCell ⟨w.heap.size, a, none⟩ (.int .u32 (n % 4294967296 * 65536 % 4294967296))).setCell ⟨w.heap.size, 16, none⟩ (.int .u32 ((c.pc + 4) % 4294967296)) = V at *
  have hlf : (setC c a (w32 (w32 n * 65536))).r.length = 16 := by first | exact HLN.out | (show (List.set _ _ _).length = 16; rw [List.length_set]; exact HLN.out)
  have SZ := Lib.hid (cpuCells_size hlf (.slice A1 n1 k1) (.slice A2 n2 k2))
  have ONE := Lib.hid (cpu_one (setC c a (w32 (w32 n * 65536))) (o := (.slice A1 n1 k1)) (i := (.slice A2 n2 k2)) rfl rfl)
  clear hlf
  generalize hC2 : cpuCells (setC c a (w32 (w32 n * 65536))) (.slice A1 n1 k1) (.slice A2 n2 k2) = C2 at *
  have CE := Lib.hid hC2
  clear hC2
  have HC := Lib.hid FE.out.c
  have HM := Lib.hid FE.out.m
  have R1 := Lib.hid FE.out.r1
  have R2 := Lib.hid FE.out.r2
  have BV := Lib.hid FE.out.bel
  refine held_start 4 rfl (S := fun y => Whole y w.heap.size 38 C2 ∧ Whole y (w.heap.size + 1) 41 MC) (by kernel_rfl) ⟨HC.out.drew', HM.out.drew'⟩ (fun hS => ?_)
  refine wpAnyH_take (i := 0) (v := .agg C2) get0 ?_ ?_ ?_ ?_ ?_ hS ?_
  · kernel_rfl
  · kernel_rfl
  · kernel_rfl
  · exact fun _ _ _ h => h
  · exact take_load 38 (.tmp 3) rfl rfl (w.heap.size) rfl 38 C2 (fun _ h => h.1) _ Tryd.underlying38 rfl (infoCpu SZ.out)
  refine wpAnyH_take (i := 1) (v := .agg MC) get1 ?_ ?_ ?_ ?_ ?_ hS ?_
  · kernel_rfl
  · kernel_rfl
  · kernel_rfl
  · exact fun _ _ _ h => h
  · exact take_load 41 (.tmp 4) rfl rfl ((w.heap.size + 1)) rfl 41 MC (fun _ h => h.2) _ Tryd.underlying41 rfl (infoMem SM.out)
  refine held_step get2 (by kernel_rfl) (fun K hK => ?_)
  refine step_store 38 (.tmp 6) (.tmp 191) rfl rfl (w.heap.size + 1 + 1 + 1) C2 rfl rfl 38 zeros38 R1.out.drew' (infoCpu SZ.out) (by rw [SZ.out]; rfl) ONE.out ?_
  refine hK.out _ _ ⟨HC.out.drew'.only (by omega) (Only.setRow _ (w.heap.size + 1 + 1 + 1) C2), HM.out.drew'.only (by omega) (Only.setRow _ (w.heap.size + 1 + 1 + 1) C2)⟩ (fun hS2 => ?_)
  clear hK K
  refine held_step get3 (by kernel_rfl) (fun K hK => ?_)
  refine step_store 41 (.tmp 7) (.tmp 192) rfl rfl (w.heap.size + 1 + 1 + 1 + 1) MC rfl rfl 41 zeros41 (R2.out.drew'.only (by omega) (Only.setRow _ (w.heap.size + 1 + 1 + 1) C2)) (infoMem SM.out) (by rw [SM.out]; rfl) ONM.out ?_
  refine hK.out _ _ ⟨hS2.1.only (by omega) (Only.setRow _ (w.heap.size + 1 + 1 + 1 + 1) MC), hS2.2.only (by omega) (Only.setRow _ (w.heap.size + 1 + 1 + 1 + 1) MC)⟩ (fun hS3 => ?_)
  clear hK K
  refine wpAnyH_done (by kernel_rfl) ?_ _
  go_wp2_with fail
  refine bodyPost_ret (v := .tuple #[.agg C2, .agg MC]) (results_two_rows rfl _ _ (w.heap.size + 1 + 1 + 1) (w.heap.size + 1 + 1 + 1 + 1) 38 41 C2 MC _ _ rfl rfl ((R1.out.drew'.setRow C2).only (by omega) (Only.setRow _ (w.heap.size + 1 + 1 + 1 + 1) MC)) ((R2.out.drew'.only (by omega) (Only.setRow _ (w.heap.size + 1 + 1 + 1) C2)).setRow MC) Tryd.underlying38 rfl (infoCpu SZ.out) Tryd.underlying41 rfl (infoMem SM.out)) rfl ⟨by rw [CE.out], ((BV.out.drew.trans ((Only.setRow _ (w.heap.size + 1 + 1 + 1) C2).below (by omega) (by have := BV.out.size; simpa using this))).trans ((Only.setRow _ (w.heap.size + 1 + 1 + 1 + 1) MC).below (by omega) (by have := BV.out.size; simpa using this)))⟩

set_option maxHeartbeats 8000000 in
set_option maxRecDepth 100000 in
theorem refdo_4 (a b cc : Nat) (n : Int) (c : Cp) (A1 A2 : Option Addr) (n1 k1 n2 k2 : Nat) (MC : Array Value) (w : World) (ha : a < 16) (hb : b < 16) (hcc : cc < 16) (ub : 0 ≤ (c.r.getD b 0) ∧ (c.r.getD b 0) ≤ 4294967295) (uc : 0 ≤ (c.r.getD cc 0) ∧ (c.r.getD cc 0) ≤ 4294967295) (hl : c.r.length = 16) (hm : MC.size = 6) (hm1 : MC.all (·.oneCell') = true)  :
    Calls Tryd.prog 26 #[.agg (cpuCells c (.slice A1 n1 k1) (.slice A2 n2 k2)), .agg MC, .agg #[.int .i64 4, .int .i64 a, .int .i64 b, .int .i64 cc, .int .i64 n]] w fun e w' => e = .returned (.tuple #[.agg (cpuCells (setC c a (alu 4 (c.r.getD b 0) (w32 n))) (.slice A1 n1 k1) (.slice A2 n2 k2)), .agg MC]) ∧ Below w.heap.size w w' := by
  have F0 := fr_made w (cpuCells c (.slice A1 n1 k1) (.slice A2 n2 k2)) MC #[.int .i64 4, .int .i64 a, .int .i64 b, .int .i64 cc, .int .i64 n]
  unfold zeros38 zeros41 at F0
  have FH := Lib.hid F0
  have haI : (a : Int) < 16 := by omega
  have hbI : (b : Int) < 16 := by omega
  have hcI : (cc : Int) < 16 := by omega
  have SM := Lib.hid hm
  have ONM := Lib.hid hm1
  have HLN := Lib.hid hl
  have qa := (F0.c.cell a).trans (cpuCells_reg hl _ _ ha)
  have qb := (F0.c.cell b).trans (cpuCells_reg hl _ _ hb)
  have GA := Lib.hid (cpuCells_reg hl (.slice A1 n1 k1) (.slice A2 n2 k2) ha)
  have GB := Lib.hid (cpuCells_reg hl (.slice A1 n1 k1) (.slice A2 n2 k2) hb)
  have GC := Lib.hid (cpuCells_reg hl (.slice A1 n1 k1) (.slice A2 n2 k2) hcc)
  clear F0 hm hm1 hl
  generalize (c.r.getD a 0) = ra at *
  generalize (c.r.getD b 0) = rb at *
  generalize (c.r.getD cc 0) = rc at *
  generalize hC0 : cpuCells c (.slice A1 n1 k1) (.slice A2 n2 k2) = C0 at *
  go_enter Tryd.func26, Tryd.ntmps26
  go_wp2_with fail
  go_quiet (fail)
  have FD := Lib.hid (FH.out.drawn nq)
  clear FH qa qb
  generalize ((((((w.alloc (.cells C0 38)).alloc (.cells MC 41)).alloc (.cells #[.int .i64 4, .int .i64 a, .int .i64 b, .int .i64 cc, .int .i64 n] 54)).alloc (.cells #[.int .u32 0, .int .u32 0, .int .u32 0, .int .u32 0, .int .u32 0, .int .u32 0, .int .u32 0, .int .u32 0, .int .u32 0, .int .u32 0, .int .u32 0, .int .u32 0, .int .u32 0, .int .u32 0, .int .u32 0, .int .u32 0, .int .u32 0, .int .u32 0, .int .u32 0, .int .i64 0, .int .i64 0, .int .i64 0, .int .i64 0, .slice none 0 0, .int .u32 0, .int .u32 0, .int .u32 0, .int .u32 0, .slice none 0 0] 38)).alloc (.cells #[.int .u32 0, .int .u32 0, .int .u32 0, .int .u32 0, .int .u32 0, .slice none 0 0] 41)).drewN nq) = W at *
  subst hC0
  have qa : W.cell? ⟨w.heap.size, a, none⟩ = some (.int .u32 ra) := (FD.out.c.cell a).trans GA.out
  have qc : W.cell? ⟨w.heap.size, cc, none⟩ = some (.int .u32 rc) := (FD.out.c.cell cc).trans GC.out
  have q14 : W.cell? ⟨w.heap.size, 14, none⟩ = some (.int .u32 (c.r.getD 14 0)) := (FD.out.c.cell 14).trans (cpuCells_reg HLN.out _ _ (by decide))
  have q16 : W.cell? ⟨w.heap.size, 16, none⟩ = some (.int .u32 c.pc) := (FD.out.c.cell 16).trans (cpuCells_pc HLN.out _ _)
  have q19 : W.cell? ⟨w.heap.size, 19, none⟩ = some (.int .i64 c.st) := (FD.out.c.cell 19).trans (cpuCells_st HLN.out _ _)
  have hf : ∀ j, W.frozen? ⟨w.heap.size, j, none⟩ = false := FD.out.c.free
  have g2 : w.heap.size + 1 + 1 ≠ w.heap.size := by omega
  have i0 : W.cell? ⟨w.heap.size + 1 + 1, 0, none⟩ = some (.int .i64 4) := FD.out.i.cell 0
  have i1 : W.cell? ⟨w.heap.size + 1 + 1, 1, none⟩ = some (.int .i64 a) := FD.out.i.cell 1
  have i4 : W.cell? ⟨w.heap.size + 1 + 1, 4, none⟩ = some (.int .i64 n) := FD.out.i.cell 4
  go_wp2_with fail
  have FE := Lib.hid (show Fr w ((W.setCell ⟨w.heap.size, a, none⟩ (.int .u32 (bits .or .u32 rb (n % 4294967296)))).setCell ⟨w.heap.size, 16, none⟩ (.int .u32 ((c.pc + 4) % 4294967296))) (cpuCells (setC c a (alu 4 rb (w32 n))) (.slice A1 n1 k1) (.slice A2 n2 k2)) MC _ from (FD.out.setReg HLN.out ha _).set_pc (by simp [HLN.out]) _)
  clear FD i0 i1 i4 qa qc q14 q16 q19 hf
  generalize (W.setCell ⟨w.heap.size, a, none⟩ (.int .u32 (bits .or .u32 rb (n % 4294967296)))).setCell ⟨w.heap.size, 16, none⟩ (.int .u32 ((c.pc + 4) % 4294967296)) = V at *
  have hlf : (setC c a (alu 4 rb (w32 n))).r.length = 16 := by first | exact HLN.out | (show (List.set _ _ _).length = 16; rw [List.length_set]; exact HLN.out)
  have SZ := Lib.hid (cpuCells_size hlf (.slice A1 n1 k1) (.slice A2 n2 k2))
  have ONE := Lib.hid (cpu_one (setC c a (alu 4 rb (w32 n))) (o := (.slice A1 n1 k1)) (i := (.slice A2 n2 k2)) rfl rfl)
  clear hlf
  generalize hC2 : cpuCells (setC c a (alu 4 rb (w32 n))) (.slice A1 n1 k1) (.slice A2 n2 k2) = C2 at *
  have CE := Lib.hid hC2
  clear hC2
  have HC := Lib.hid FE.out.c
  have HM := Lib.hid FE.out.m
  have R1 := Lib.hid FE.out.r1
  have R2 := Lib.hid FE.out.r2
  have BV := Lib.hid FE.out.bel
  refine held_start 4 rfl (S := fun y => Whole y w.heap.size 38 C2 ∧ Whole y (w.heap.size + 1) 41 MC) (by kernel_rfl) ⟨HC.out.drew', HM.out.drew'⟩ (fun hS => ?_)
  refine wpAnyH_take (i := 0) (v := .agg C2) get0 ?_ ?_ ?_ ?_ ?_ hS ?_
  · kernel_rfl
  · kernel_rfl
  · kernel_rfl
  · exact fun _ _ _ h => h
  · exact take_load 38 (.tmp 3) rfl rfl (w.heap.size) rfl 38 C2 (fun _ h => h.1) _ Tryd.underlying38 rfl (infoCpu SZ.out)
  refine wpAnyH_take (i := 1) (v := .agg MC) get1 ?_ ?_ ?_ ?_ ?_ hS ?_
  · kernel_rfl
  · kernel_rfl
  · kernel_rfl
  · exact fun _ _ _ h => h
  · exact take_load 41 (.tmp 4) rfl rfl ((w.heap.size + 1)) rfl 41 MC (fun _ h => h.2) _ Tryd.underlying41 rfl (infoMem SM.out)
  refine held_step get2 (by kernel_rfl) (fun K hK => ?_)
  refine step_store 38 (.tmp 6) (.tmp 191) rfl rfl (w.heap.size + 1 + 1 + 1) C2 rfl rfl 38 zeros38 R1.out.drew' (infoCpu SZ.out) (by rw [SZ.out]; rfl) ONE.out ?_
  refine hK.out _ _ ⟨HC.out.drew'.only (by omega) (Only.setRow _ (w.heap.size + 1 + 1 + 1) C2), HM.out.drew'.only (by omega) (Only.setRow _ (w.heap.size + 1 + 1 + 1) C2)⟩ (fun hS2 => ?_)
  clear hK K
  refine held_step get3 (by kernel_rfl) (fun K hK => ?_)
  refine step_store 41 (.tmp 7) (.tmp 192) rfl rfl (w.heap.size + 1 + 1 + 1 + 1) MC rfl rfl 41 zeros41 (R2.out.drew'.only (by omega) (Only.setRow _ (w.heap.size + 1 + 1 + 1) C2)) (infoMem SM.out) (by rw [SM.out]; rfl) ONM.out ?_
  refine hK.out _ _ ⟨hS2.1.only (by omega) (Only.setRow _ (w.heap.size + 1 + 1 + 1 + 1) MC), hS2.2.only (by omega) (Only.setRow _ (w.heap.size + 1 + 1 + 1 + 1) MC)⟩ (fun hS3 => ?_)
  clear hK K
  refine wpAnyH_done (by kernel_rfl) ?_ _
  go_wp2_with fail
  refine bodyPost_ret (v := .tuple #[.agg C2, .agg MC]) (results_two_rows rfl _ _ (w.heap.size + 1 + 1 + 1) (w.heap.size + 1 + 1 + 1 + 1) 38 41 C2 MC _ _ rfl rfl ((R1.out.drew'.setRow C2).only (by omega) (Only.setRow _ (w.heap.size + 1 + 1 + 1 + 1) MC)) ((R2.out.drew'.only (by omega) (Only.setRow _ (w.heap.size + 1 + 1 + 1) C2)).setRow MC) Tryd.underlying38 rfl (infoCpu SZ.out) Tryd.underlying41 rfl (infoMem SM.out)) rfl ⟨by rw [CE.out], ((BV.out.drew.trans ((Only.setRow _ (w.heap.size + 1 + 1 + 1) C2).below (by omega) (by have := BV.out.size; simpa using this))).trans ((Only.setRow _ (w.heap.size + 1 + 1 + 1 + 1) MC).below (by omega) (by have := BV.out.size; simpa using this)))⟩

set_option maxHeartbeats 8000000 in
set_option maxRecDepth 100000 in
theorem refdo_5 (a b cc : Nat) (n : Int) (c : Cp) (A1 A2 : Option Addr) (n1 k1 n2 k2 : Nat) (MC : Array Value) (w : World) (ha : a < 16) (hb : b < 16) (hcc : cc < 16) (ub : 0 ≤ (c.r.getD b 0) ∧ (c.r.getD b 0) ≤ 4294967295) (uc : 0 ≤ (c.r.getD cc 0) ∧ (c.r.getD cc 0) ≤ 4294967295) (hl : c.r.length = 16) (hm : MC.size = 6) (hm1 : MC.all (·.oneCell') = true)  :
    Calls Tryd.prog 26 #[.agg (cpuCells c (.slice A1 n1 k1) (.slice A2 n2 k2)), .agg MC, .agg #[.int .i64 5, .int .i64 a, .int .i64 b, .int .i64 cc, .int .i64 n]] w fun e w' => e = .returned (.tuple #[.agg (cpuCells (setC c a (alu 5 (c.r.getD b 0) (w32 n))) (.slice A1 n1 k1) (.slice A2 n2 k2)), .agg MC]) ∧ Below w.heap.size w w' := by
  rw [alu5_eq]
  have F0 := fr_made w (cpuCells c (.slice A1 n1 k1) (.slice A2 n2 k2)) MC #[.int .i64 5, .int .i64 a, .int .i64 b, .int .i64 cc, .int .i64 n]
  unfold zeros38 zeros41 at F0
  have FH := Lib.hid F0
  have haI : (a : Int) < 16 := by omega
  have hbI : (b : Int) < 16 := by omega
  have hcI : (cc : Int) < 16 := by omega
  have SM := Lib.hid hm
  have ONM := Lib.hid hm1
  have HLN := Lib.hid hl
  have qa := (F0.c.cell a).trans (cpuCells_reg hl _ _ ha)
  have qb := (F0.c.cell b).trans (cpuCells_reg hl _ _ hb)
  have GA := Lib.hid (cpuCells_reg hl (.slice A1 n1 k1) (.slice A2 n2 k2) ha)
  have GB := Lib.hid (cpuCells_reg hl (.slice A1 n1 k1) (.slice A2 n2 k2) hb)
  have GC := Lib.hid (cpuCells_reg hl (.slice A1 n1 k1) (.slice A2 n2 k2) hcc)
  clear F0 hm hm1 hl
  generalize (c.r.getD a 0) = ra at *
  generalize (c.r.getD b 0) = rb at *
  generalize (c.r.getD cc 0) = rc at *
  generalize hC0 : cpuCells c (.slice A1 n1 k1) (.slice A2 n2 k2) = C0 at *
  go_enter Tryd.func26, Tryd.ntmps26
  go_wp2_with fail
  go_quiet (fail)
  have FD := Lib.hid (FH.out.drawn nq)
  clear FH qa qb
  generalize ((((((w.alloc (.cells C0 38)).alloc (.cells MC 41)).alloc (.cells #[.int .i64 5, .int .i64 a, .int .i64 b, .int .i64 cc, .int .i64 n] 54)).alloc (.cells #[.int .u32 0, .int .u32 0, .int .u32 0, .int .u32 0, .int .u32 0, .int .u32 0, .int .u32 0, .int .u32 0, .int .u32 0, .int .u32 0, .int .u32 0, .int .u32 0, .int .u32 0, .int .u32 0, .int .u32 0, .int .u32 0, .int .u32 0, .int .u32 0, .int .u32 0, .int .i64 0, .int .i64 0, .int .i64 0, .int .i64 0, .slice none 0 0, .int .u32 0, .int .u32 0, .int .u32 0, .int .u32 0, .slice none 0 0] 38)).alloc (.cells #[.int .u32 0, .int .u32 0, .int .u32 0, .int .u32 0, .int .u32 0, .slice none 0 0] 41)).drewN nq) = W at *
  subst hC0
  have qa : W.cell? ⟨w.heap.size, a, none⟩ = some (.int .u32 ra) := (FD.out.c.cell a).trans GA.out
  have qc : W.cell? ⟨w.heap.size, cc, none⟩ = some (.int .u32 rc) := (FD.out.c.cell cc).trans GC.out
  have q14 : W.cell? ⟨w.heap.size, 14, none⟩ = some (.int .u32 (c.r.getD 14 0)) := (FD.out.c.cell 14).trans (cpuCells_reg HLN.out _ _ (by decide))
  have q16 : W.cell? ⟨w.heap.size, 16, none⟩ = some (.int .u32 c.pc) := (FD.out.c.cell 16).trans (cpuCells_pc HLN.out _ _)
  have q19 : W.cell? ⟨w.heap.size, 19, none⟩ = some (.int .i64 c.st) := (FD.out.c.cell 19).trans (cpuCells_st HLN.out _ _)
  have hf : ∀ j, W.frozen? ⟨w.heap.size, j, none⟩ = false := FD.out.c.free
  have g2 : w.heap.size + 1 + 1 ≠ w.heap.size := by omega
  have i0 : W.cell? ⟨w.heap.size + 1 + 1, 0, none⟩ = some (.int .i64 5) := FD.out.i.cell 0
  have i1 : W.cell? ⟨w.heap.size + 1 + 1, 1, none⟩ = some (.int .i64 a) := FD.out.i.cell 1
  have i4 : W.cell? ⟨w.heap.size + 1 + 1, 4, none⟩ = some (.int .i64 n) := FD.out.i.cell 4
  go_wp2_with fail
  have FE := Lib.hid (show Fr w ((W.setCell ⟨w.heap.size, a, none⟩ (.int .u32 ((rb + n) % 4294967296))).setCell ⟨w.heap.size, 16, none⟩ (.int .u32 ((c.pc + 4) % 4294967296))) (cpuCells (setC c a ((rb + n) % 4294967296)) (.slice A1 n1 k1) (.slice A2 n2 k2)) MC _ from (FD.out.setReg HLN.out ha _).set_pc (by simp [HLN.out]) _)
  clear FD i0 i1 i4 qa qc q14 q16 q19 hf
  generalize (W.setCell ⟨w.heap.size, a, none⟩ (.int .u32 ((rb + n) % 4294967296))).setCell ⟨w.heap.size, 16, none⟩ (.int .u32 ((c.pc + 4) % 4294967296)) = V at *
  have hlf : (setC c a ((rb + n) % 4294967296)).r.length = 16 := by first | exact HLN.out | (show (List.set _ _ _).length = 16; rw [List.length_set]; exact HLN.out)
  have SZ := Lib.hid (cpuCells_size hlf (.slice A1 n1 k1) (.slice A2 n2 k2))
  have ONE := Lib.hid (cpu_one (setC c a ((rb + n) % 4294967296)) (o := (.slice A1 n1 k1)) (i := (.slice A2 n2 k2)) rfl rfl)
  clear hlf
  generalize hC2 : cpuCells (setC c a ((rb + n) % 4294967296)) (.slice A1 n1 k1) (.slice A2 n2 k2) = C2 at *
  have CE := Lib.hid hC2
  clear hC2
  have HC := Lib.hid FE.out.c
  have HM := Lib.hid FE.out.m
  have R1 := Lib.hid FE.out.r1
  have R2 := Lib.hid FE.out.r2
  have BV := Lib.hid FE.out.bel
  refine held_start 4 rfl (S := fun y => Whole y w.heap.size 38 C2 ∧ Whole y (w.heap.size + 1) 41 MC) (by kernel_rfl) ⟨HC.out.drew', HM.out.drew'⟩ (fun hS => ?_)
  refine wpAnyH_take (i := 0) (v := .agg C2) get0 ?_ ?_ ?_ ?_ ?_ hS ?_
  · kernel_rfl
  · kernel_rfl
  · kernel_rfl
  · exact fun _ _ _ h => h
  · exact take_load 38 (.tmp 3) rfl rfl (w.heap.size) rfl 38 C2 (fun _ h => h.1) _ Tryd.underlying38 rfl (infoCpu SZ.out)
  refine wpAnyH_take (i := 1) (v := .agg MC) get1 ?_ ?_ ?_ ?_ ?_ hS ?_
  · kernel_rfl
  · kernel_rfl
  · kernel_rfl
  · exact fun _ _ _ h => h
  · exact take_load 41 (.tmp 4) rfl rfl ((w.heap.size + 1)) rfl 41 MC (fun _ h => h.2) _ Tryd.underlying41 rfl (infoMem SM.out)
  refine held_step get2 (by kernel_rfl) (fun K hK => ?_)
  refine step_store 38 (.tmp 6) (.tmp 191) rfl rfl (w.heap.size + 1 + 1 + 1) C2 rfl rfl 38 zeros38 R1.out.drew' (infoCpu SZ.out) (by rw [SZ.out]; rfl) ONE.out ?_
  refine hK.out _ _ ⟨HC.out.drew'.only (by omega) (Only.setRow _ (w.heap.size + 1 + 1 + 1) C2), HM.out.drew'.only (by omega) (Only.setRow _ (w.heap.size + 1 + 1 + 1) C2)⟩ (fun hS2 => ?_)
  clear hK K
  refine held_step get3 (by kernel_rfl) (fun K hK => ?_)
  refine step_store 41 (.tmp 7) (.tmp 192) rfl rfl (w.heap.size + 1 + 1 + 1 + 1) MC rfl rfl 41 zeros41 (R2.out.drew'.only (by omega) (Only.setRow _ (w.heap.size + 1 + 1 + 1) C2)) (infoMem SM.out) (by rw [SM.out]; rfl) ONM.out ?_
  refine hK.out _ _ ⟨hS2.1.only (by omega) (Only.setRow _ (w.heap.size + 1 + 1 + 1 + 1) MC), hS2.2.only (by omega) (Only.setRow _ (w.heap.size + 1 + 1 + 1 + 1) MC)⟩ (fun hS3 => ?_)
  clear hK K
  refine wpAnyH_done (by kernel_rfl) ?_ _
  go_wp2_with fail
  refine bodyPost_ret (v := .tuple #[.agg C2, .agg MC]) (results_two_rows rfl _ _ (w.heap.size + 1 + 1 + 1) (w.heap.size + 1 + 1 + 1 + 1) 38 41 C2 MC _ _ rfl rfl ((R1.out.drew'.setRow C2).only (by omega) (Only.setRow _ (w.heap.size + 1 + 1 + 1 + 1) MC)) ((R2.out.drew'.only (by omega) (Only.setRow _ (w.heap.size + 1 + 1 + 1) C2)).setRow MC) Tryd.underlying38 rfl (infoCpu SZ.out) Tryd.underlying41 rfl (infoMem SM.out)) rfl ⟨by rw [CE.out], ((BV.out.drew.trans ((Only.setRow _ (w.heap.size + 1 + 1 + 1) C2).below (by omega) (by have := BV.out.size; simpa using this))).trans ((Only.setRow _ (w.heap.size + 1 + 1 + 1 + 1) MC).below (by omega) (by have := BV.out.size; simpa using this)))⟩

set_option maxHeartbeats 8000000 in
set_option maxRecDepth 100000 in
theorem refdo_34 (a b cc : Nat) (n : Int) (c : Cp) (A1 A2 : Option Addr) (n1 k1 n2 k2 : Nat) (MC : Array Value) (w : World) (ha : a < 16) (hb : b < 16) (hcc : cc < 16) (ub : 0 ≤ (c.r.getD b 0) ∧ (c.r.getD b 0) ≤ 4294967295) (uc : 0 ≤ (c.r.getD cc 0) ∧ (c.r.getD cc 0) ≤ 4294967295) (hl : c.r.length = 16) (hm : MC.size = 6) (hm1 : MC.all (·.oneCell') = true)  :
    Calls Tryd.prog 26 #[.agg (cpuCells c (.slice A1 n1 k1) (.slice A2 n2 k2)), .agg MC, .agg #[.int .i64 34, .int .i64 a, .int .i64 b, .int .i64 cc, .int .i64 n]] w fun e w' => e = .returned (.tuple #[.agg (cpuCells (setC c a (alu 34 (c.r.getD b 0) (w32 n))) (.slice A1 n1 k1) (.slice A2 n2 k2)), .agg MC]) ∧ Below w.heap.size w w' := by
  have F0 := fr_made w (cpuCells c (.slice A1 n1 k1) (.slice A2 n2 k2)) MC #[.int .i64 34, .int .i64 a, .int .i64 b, .int .i64 cc, .int .i64 n]
  unfold zeros38 zeros41 at F0
  have FH := Lib.hid F0
  have haI : (a : Int) < 16 := by omega
  have hbI : (b : Int) < 16 := by omega
  have hcI : (cc : Int) < 16 := by omega
  have SM := Lib.hid hm
  have ONM := Lib.hid hm1
  have HLN := Lib.hid hl
  have qa := (F0.c.cell a).trans (cpuCells_reg hl _ _ ha)
  have qb := (F0.c.cell b).trans (cpuCells_reg hl _ _ hb)
  have GA := Lib.hid (cpuCells_reg hl (.slice A1 n1 k1) (.slice A2 n2 k2) ha)
  have GB := Lib.hid (cpuCells_reg hl (.slice A1 n1 k1) (.slice A2 n2 k2) hb)
  have GC := Lib.hid (cpuCells_reg hl (.slice A1 n1 k1) (.slice A2 n2 k2) hcc)
  clear F0 hm hm1 hl
  generalize (c.r.getD a 0) = ra at *
  generalize (c.r.getD b 0) = rb at *
  generalize (c.r.getD cc 0) = rc at *
  generalize hC0 : cpuCells c (.slice A1 n1 k1) (.slice A2 n2 k2) = C0 at *
  go_enter Tryd.func26, Tryd.ntmps26
  go_wp2_with fail
  go_quiet (fail)
  have FD := Lib.hid (FH.out.drawn nq)
  clear FH qa qb
  generalize ((((((w.alloc (.cells C0 38)).alloc (.cells MC 41)).alloc (.cells #[.int .i64 34, .int .i64 a, .int .i64 b, .int .i64 cc, .int .i64 n] 54)).alloc (.cells #[.int .u32 0, .int .u32 0, .int .u32 0, .int .u32 0, .int .u32 0, .int .u32 0, .int .u32 0, .int .u32 0, .int .u32 0, .int .u32 0, .int .u32 0, .int .u32 0, .int .u32 0, .int .u32 0, .int .u32 0, .int .u32 0, .int .u32 0, .int .u32 0, .int .u32 0, .int .i64 0, .int .i64 0, .int .i64 0, .int .i64 0, .slice none 0 0, .int .u32 0, .int .u32 0, .int .u32 0, .int .u32 0, .slice none 0 0] 38)).alloc (.cells #[.int .u32 0, .int .u32 0, .int .u32 0, .int .u32 0, .int .u32 0, .slice none 0 0] 41)).drewN nq) = W at *
  subst hC0
  have qa : W.cell? ⟨w.heap.size, a, none⟩ = some (.int .u32 ra) := (FD.out.c.cell a).trans GA.out
  have qc : W.cell? ⟨w.heap.size, cc, none⟩ = some (.int .u32 rc) := (FD.out.c.cell cc).trans GC.out
  have q14 : W.cell? ⟨w.heap.size, 14, none⟩ = some (.int .u32 (c.r.getD 14 0)) := (FD.out.c.cell 14).trans (cpuCells_reg HLN.out _ _ (by decide))
  have q16 : W.cell? ⟨w.heap.size, 16, none⟩ = some (.int .u32 c.pc) := (FD.out.c.cell 16).trans (cpuCells_pc HLN.out _ _)
  have q19 : W.cell? ⟨w.heap.size, 19, none⟩ = some (.int .i64 c.st) := (FD.out.c.cell 19).trans (cpuCells_st HLN.out _ _)
  have hf : ∀ j, W.frozen? ⟨w.heap.size, j, none⟩ = false := FD.out.c.free
  have g2 : w.heap.size + 1 + 1 ≠ w.heap.size := by omega
  have i0 : W.cell? ⟨w.heap.size + 1 + 1, 0, none⟩ = some (.int .i64 34) := FD.out.i.cell 0
  have i1 : W.cell? ⟨w.heap.size + 1 + 1, 1, none⟩ = some (.int .i64 a) := FD.out.i.cell 1
  have i4 : W.cell? ⟨w.heap.size + 1 + 1, 4, none⟩ = some (.int .i64 n) := FD.out.i.cell 4
  go_wp2_with fail
  have FE := Lib.hid (show Fr w ((W.setCell ⟨w.heap.size, a, none⟩ (.int .u32 (bits .xor .u32 rb (n % 4294967296)))).setCell ⟨w.heap.size, 16, none⟩ (.int .u32 ((c.pc + 4) % 4294967296))) (cpuCells (setC c a (alu 34 rb (w32 n))) (.slice A1 n1 k1) (.slice A2 n2 k2)) MC _ from (FD.out.setReg HLN.out ha _).set_pc (by simp [HLN.out]) _)
  clear FD i0 i1 i4 qa qc q14 q16 q19 hf
  generalize (W.setCell ⟨w.heap.size, a, none⟩ (.int .u32 (bits .xor .u32 rb (n % 4294967296)))).setCell ⟨w.heap.size, 16, none⟩ (.int .u32 ((c.pc + 4) % 4294967296)) = V at *
  have hlf : (setC c a (alu 34 rb (w32 n))).r.length = 16 := by first | exact HLN.out | (show (List.set _ _ _).length = 16; rw [List.length_set]; exact HLN.out)
  have SZ := Lib.hid (cpuCells_size hlf (.slice A1 n1 k1) (.slice A2 n2 k2))
  have ONE := Lib.hid (cpu_one (setC c a (alu 34 rb (w32 n))) (o := (.slice A1 n1 k1)) (i := (.slice A2 n2 k2)) rfl rfl)
  clear hlf
  generalize hC2 : cpuCells (setC c a (alu 34 rb (w32 n))) (.slice A1 n1 k1) (.slice A2 n2 k2) = C2 at *
  have CE := Lib.hid hC2
  clear hC2
  have HC := Lib.hid FE.out.c
  have HM := Lib.hid FE.out.m
  have R1 := Lib.hid FE.out.r1
  have R2 := Lib.hid FE.out.r2
  have BV := Lib.hid FE.out.bel
  refine held_start 4 rfl (S := fun y => Whole y w.heap.size 38 C2 ∧ Whole y (w.heap.size + 1) 41 MC) (by kernel_rfl) ⟨HC.out.drew', HM.out.drew'⟩ (fun hS => ?_)
  refine wpAnyH_take (i := 0) (v := .agg C2) get0 ?_ ?_ ?_ ?_ ?_ hS ?_
  · kernel_rfl
  · kernel_rfl
  · kernel_rfl
  · exact fun _ _ _ h => h
  · exact take_load 38 (.tmp 3) rfl rfl (w.heap.size) rfl 38 C2 (fun _ h => h.1) _ Tryd.underlying38 rfl (infoCpu SZ.out)
  refine wpAnyH_take (i := 1) (v := .agg MC) get1 ?_ ?_ ?_ ?_ ?_ hS ?_
  · kernel_rfl
  · kernel_rfl
  · kernel_rfl
  · exact fun _ _ _ h => h
  · exact take_load 41 (.tmp 4) rfl rfl ((w.heap.size + 1)) rfl 41 MC (fun _ h => h.2) _ Tryd.underlying41 rfl (infoMem SM.out)
  refine held_step get2 (by kernel_rfl) (fun K hK => ?_)
  refine step_store 38 (.tmp 6) (.tmp 191) rfl rfl (w.heap.size + 1 + 1 + 1) C2 rfl rfl 38 zeros38 R1.out.drew' (infoCpu SZ.out) (by rw [SZ.out]; rfl) ONE.out ?_
  refine hK.out _ _ ⟨HC.out.drew'.only (by omega) (Only.setRow _ (w.heap.size + 1 + 1 + 1) C2), HM.out.drew'.only (by omega) (Only.setRow _ (w.heap.size + 1 + 1 + 1) C2)⟩ (fun hS2 => ?_)
  clear hK K
  refine held_step get3 (by kernel_rfl) (fun K hK => ?_)
  refine step_store 41 (.tmp 7) (.tmp 192) rfl rfl (w.heap.size + 1 + 1 + 1 + 1) MC rfl rfl 41 zeros41 (R2.out.drew'.only (by omega) (Only.setRow _ (w.heap.size + 1 + 1 + 1) C2)) (infoMem SM.out) (by rw [SM.out]; rfl) ONM.out ?_
  refine hK.out _ _ ⟨hS2.1.only (by omega) (Only.setRow _ (w.heap.size + 1 + 1 + 1 + 1) MC), hS2.2.only (by omega) (Only.setRow _ (w.heap.size + 1 + 1 + 1 + 1) MC)⟩ (fun hS3 => ?_)
  clear hK K
  refine wpAnyH_done (by kernel_rfl) ?_ _
  go_wp2_with fail
  refine bodyPost_ret (v := .tuple #[.agg C2, .agg MC]) (results_two_rows rfl _ _ (w.heap.size + 1 + 1 + 1) (w.heap.size + 1 + 1 + 1 + 1) 38 41 C2 MC _ _ rfl rfl ((R1.out.drew'.setRow C2).only (by omega) (Only.setRow _ (w.heap.size + 1 + 1 + 1 + 1) MC)) ((R2.out.drew'.only (by omega) (Only.setRow _ (w.heap.size + 1 + 1 + 1) C2)).setRow MC) Tryd.underlying38 rfl (infoCpu SZ.out) Tryd.underlying41 rfl (infoMem SM.out)) rfl ⟨by rw [CE.out], ((BV.out.drew.trans ((Only.setRow _ (w.heap.size + 1 + 1 + 1) C2).below (by omega) (by have := BV.out.size; simpa using this))).trans ((Only.setRow _ (w.heap.size + 1 + 1 + 1 + 1) MC).below (by omega) (by have := BV.out.size; simpa using this)))⟩

set_option maxHeartbeats 8000000 in
set_option maxRecDepth 100000 in
theorem refdo_1 (a b cc : Nat) (n : Int) (c : Cp) (A1 A2 : Option Addr) (n1 k1 n2 k2 : Nat) (MC : Array Value) (w : World) (ha : a < 16) (hb : b < 16) (hcc : cc < 16) (ub : 0 ≤ (c.r.getD b 0) ∧ (c.r.getD b 0) ≤ 4294967295) (uc : 0 ≤ (c.r.getD cc 0) ∧ (c.r.getD cc 0) ≤ 4294967295) (hl : c.r.length = 16) (hm : MC.size = 6) (hm1 : MC.all (·.oneCell') = true)  :
    Calls Tryd.prog 26 #[.agg (cpuCells c (.slice A1 n1 k1) (.slice A2 n2 k2)), .agg MC, .agg #[.int .i64 1, .int .i64 a, .int .i64 b, .int .i64 cc, .int .i64 n]] w fun e w' => e = .returned (.tuple #[.agg (cpuCells ({ c with st := 1 }) (.slice A1 n1 k1) (.slice A2 n2 k2)), .agg MC]) ∧ Below w.heap.size w w' := by
  have F0 := fr_made w (cpuCells c (.slice A1 n1 k1) (.slice A2 n2 k2)) MC #[.int .i64 1, .int .i64 a, .int .i64 b, .int .i64 cc, .int .i64 n]
  unfold zeros38 zeros41 at F0
  have FH := Lib.hid F0
  have haI : (a : Int) < 16 := by omega
  have hbI : (b : Int) < 16 := by omega
  have hcI : (cc : Int) < 16 := by omega
  have SM := Lib.hid hm
  have ONM := Lib.hid hm1
  have HLN := Lib.hid hl
  have qa := (F0.c.cell a).trans (cpuCells_reg hl _ _ ha)
  have qb := (F0.c.cell b).trans (cpuCells_reg hl _ _ hb)
  have GA := Lib.hid (cpuCells_reg hl (.slice A1 n1 k1) (.slice A2 n2 k2) ha)
  have GB := Lib.hid (cpuCells_reg hl (.slice A1 n1 k1) (.slice A2 n2 k2) hb)
  have GC := Lib.hid (cpuCells_reg hl (.slice A1 n1 k1) (.slice A2 n2 k2) hcc)
  clear F0 hm hm1 hl
  generalize (c.r.getD a 0) = ra at *
  generalize (c.r.getD b 0) = rb at *
  generalize (c.r.getD cc 0) = rc at *
  generalize hC0 : cpuCells c (.slice A1 n1 k1) (.slice A2 n2 k2) = C0 at *
  go_enter Tryd.func26, Tryd.ntmps26
  go_wp2_with fail
  go_quiet (fail)
  have FD := Lib.hid (FH.out.drawn nq)
  clear FH qa qb
  generalize ((((((w.alloc (.cells C0 38)).alloc (.cells MC 41)).alloc (.cells #[.int .i64 1, .int .i64 a, .int .i64 b, .int .i64 cc, .int .i64 n] 54)).alloc (.cells #[.int .u32 0, .int .u32 0, .int .u32 0, .int .u32 0, .int .u32 0, .int .u32 0, .int .u32 0, .int .u32 0, .int .u32 0, .int .u32 0, .int .u32 0, .int .u32 0, .int .u32 0, .int .u32 0, .int .u32 0, .int .u32 0, .int .u32 0, .int .u32 0, .int .u32 0, .int .i64 0, .int .i64 0, .int .i64 0, .int .i64 0, .slice none 0 0, .int .u32 0, .int .u32 0, .int .u32 0, .int .u32 0, .slice none 0 0] 38)).alloc (.cells #[.int .u32 0, .int .u32 0, .int .u32 0, .int .u32 0, .int .u32 0, .slice none 0 0] 41)).drewN nq) = W at *
  subst hC0
  have qa : W.cell? ⟨w.heap.size, a, none⟩ = some (.int .u32 ra) := (FD.out.c.cell a).trans GA.out
  have qc : W.cell? ⟨w.heap.size, cc, none⟩ = some (.int .u32 rc) := (FD.out.c.cell cc).trans GC.out
  have q14 : W.cell? ⟨w.heap.size, 14, none⟩ = some (.int .u32 (c.r.getD 14 0)) := (FD.out.c.cell 14).trans (cpuCells_reg HLN.out _ _ (by decide))
  have q16 : W.cell? ⟨w.heap.size, 16, none⟩ = some (.int .u32 c.pc) := (FD.out.c.cell 16).trans (cpuCells_pc HLN.out _ _)
  have q19 : W.cell? ⟨w.heap.size, 19, none⟩ = some (.int .i64 c.st) := (FD.out.c.cell 19).trans (cpuCells_st HLN.out _ _)
  have hf : ∀ j, W.frozen? ⟨w.heap.size, j, none⟩ = false := FD.out.c.free
  have g2 : w.heap.size + 1 + 1 ≠ w.heap.size := by omega
  have i0 : W.cell? ⟨w.heap.size + 1 + 1, 0, none⟩ = some (.int .i64 1) := FD.out.i.cell 0
  have i1 : W.cell? ⟨w.heap.size + 1 + 1, 1, none⟩ = some (.int .i64 a) := FD.out.i.cell 1
  have i4 : W.cell? ⟨w.heap.size + 1 + 1, 4, none⟩ = some (.int .i64 n) := FD.out.i.cell 4
  go_wp2_with fail
  have FE := Lib.hid (show Fr w (W.setCell ⟨w.heap.size, 19, none⟩ (.int .i64 1)) (cpuCells ({ c with st := 1 }) (.slice A1 n1 k1) (.slice A2 n2 k2)) MC _ from FD.out.set_st HLN.out 1)
  clear FD i0 i1 i4 qa qc q14 q16 q19 hf
  generalize W.setCell ⟨w.heap.size, 19, none⟩ (.int .i64 1) = V at *
  have hlf : ({ c with st := 1 }).r.length = 16 := by first | exact HLN.out | (show (List.set _ _ _).length = 16; rw [List.length_set]; exact HLN.out)
  have SZ := Lib.hid (cpuCells_size hlf (.slice A1 n1 k1) (.slice A2 n2 k2))
  have ONE := Lib.hid (cpu_one ({ c with st := 1 }) (o := (.slice A1 n1 k1)) (i := (.slice A2 n2 k2)) rfl rfl)
  clear hlf
  generalize hC2 : cpuCells ({ c with st := 1 }) (.slice A1 n1 k1) (.slice A2 n2 k2) = C2 at *
  have CE := Lib.hid hC2
  clear hC2
  have HC := Lib.hid FE.out.c
  have HM := Lib.hid FE.out.m
  have R1 := Lib.hid FE.out.r1
  have R2 := Lib.hid FE.out.r2
  have BV := Lib.hid FE.out.bel
  refine held_start 4 rfl (S := fun y => Whole y w.heap.size 38 C2 ∧ Whole y (w.heap.size + 1) 41 MC) (by kernel_rfl) ⟨HC.out.drew', HM.out.drew'⟩ (fun hS => ?_)
  refine wpAnyH_take (i := 0) (v := .agg C2) get0 ?_ ?_ ?_ ?_ ?_ hS ?_
  · kernel_rfl
  · kernel_rfl
  · kernel_rfl
  · exact fun _ _ _ h => h
  · exact take_load 38 (.tmp 3) rfl rfl (w.heap.size) rfl 38 C2 (fun _ h => h.1) _ Tryd.underlying38 rfl (infoCpu SZ.out)
  refine wpAnyH_take (i := 1) (v := .agg MC) get1 ?_ ?_ ?_ ?_ ?_ hS ?_
  · kernel_rfl
  · kernel_rfl
  · kernel_rfl
  · exact fun _ _ _ h => h
  · exact take_load 41 (.tmp 4) rfl rfl ((w.heap.size + 1)) rfl 41 MC (fun _ h => h.2) _ Tryd.underlying41 rfl (infoMem SM.out)
  refine held_step get2 (by kernel_rfl) (fun K hK => ?_)
  refine step_store 38 (.tmp 6) (.tmp 86) rfl rfl (w.heap.size + 1 + 1 + 1) C2 rfl rfl 38 zeros38 R1.out.drew' (infoCpu SZ.out) (by rw [SZ.out]; rfl) ONE.out ?_
  refine hK.out _ _ ⟨HC.out.drew'.only (by omega) (Only.setRow _ (w.heap.size + 1 + 1 + 1) C2), HM.out.drew'.only (by omega) (Only.setRow _ (w.heap.size + 1 + 1 + 1) C2)⟩ (fun hS2 => ?_)
  clear hK K
  refine held_step get3 (by kernel_rfl) (fun K hK => ?_)
  refine step_store 41 (.tmp 7) (.tmp 87) rfl rfl (w.heap.size + 1 + 1 + 1 + 1) MC rfl rfl 41 zeros41 (R2.out.drew'.only (by omega) (Only.setRow _ (w.heap.size + 1 + 1 + 1) C2)) (infoMem SM.out) (by rw [SM.out]; rfl) ONM.out ?_
  refine hK.out _ _ ⟨hS2.1.only (by omega) (Only.setRow _ (w.heap.size + 1 + 1 + 1 + 1) MC), hS2.2.only (by omega) (Only.setRow _ (w.heap.size + 1 + 1 + 1 + 1) MC)⟩ (fun hS3 => ?_)
  clear hK K
  refine wpAnyH_done (by kernel_rfl) ?_ _
  go_wp2_with fail
  refine bodyPost_ret (v := .tuple #[.agg C2, .agg MC]) (results_two_rows rfl _ _ (w.heap.size + 1 + 1 + 1) (w.heap.size + 1 + 1 + 1 + 1) 38 41 C2 MC _ _ rfl rfl ((R1.out.drew'.setRow C2).only (by omega) (Only.setRow _ (w.heap.size + 1 + 1 + 1 + 1) MC)) ((R2.out.drew'.only (by omega) (Only.setRow _ (w.heap.size + 1 + 1 + 1) C2)).setRow MC) Tryd.underlying38 rfl (infoCpu SZ.out) Tryd.underlying41 rfl (infoMem SM.out)) rfl ⟨by rw [CE.out], ((BV.out.drew.trans ((Only.setRow _ (w.heap.size + 1 + 1 + 1) C2).below (by omega) (by have := BV.out.size; simpa using this))).trans ((Only.setRow _ (w.heap.size + 1 + 1 + 1 + 1) MC).below (by omega) (by have := BV.out.size; simpa using this)))⟩

end Go.Proofs.YtinpdgjbiimgkaaDoor

/- The answers' do, by operation. -/
namespace Go.Proofs.YtinpdgjbiimgkaaDoor
open Go.ChangeShapes Go.WideShapes Go.ChangeAt Go.RowKit
set_option linter.unusedVariables false

set_option maxHeartbeats 8000000 in
set_option maxRecDepth 100000 in
theorem refdo_20_true (a b cc : Nat) (n : Int) (c : Cp) (A1 A2 : Option Addr) (n1 k1 n2 k2 : Nat) (MC : Array Value) (w : World) (ha : a < 16) (hb : b < 16) (hcc : cc < 16) (ub : 0 ≤ (c.r.getD b 0) ∧ (c.r.getD b 0) ≤ 4294967295) (uc : 0 ≤ (c.r.getD cc 0) ∧ (c.r.getD cc 0) ≤ 4294967295) (hl : c.r.length = 16) (hm : MC.size = 6) (hm1 : MC.all (·.oneCell') = true) (hd : ((c.r.getD a 0) == 0) = true) :
    Calls Tryd.prog 26 #[.agg (cpuCells c (.slice A1 n1 k1) (.slice A2 n2 k2)), .agg MC, .agg #[.int .i64 20, .int .i64 a, .int .i64 b, .int .i64 cc, .int .i64 n]] w fun e w' => e = .returned (.tuple #[.agg (cpuCells (jumpC c n) (.slice A1 n1 k1) (.slice A2 n2 k2)), .agg MC]) ∧ Below w.heap.size w w' := by
  rw [jumpC_eq]
  have F0 := fr_made w (cpuCells c (.slice A1 n1 k1) (.slice A2 n2 k2)) MC #[.int .i64 20, .int .i64 a, .int .i64 b, .int .i64 cc, .int .i64 n]
  unfold zeros38 zeros41 at F0
  have FH := Lib.hid F0
  have haI : (a : Int) < 16 := by omega
  have hbI : (b : Int) < 16 := by omega
  have hcI : (cc : Int) < 16 := by omega
  have SM := Lib.hid hm
  have ONM := Lib.hid hm1
  have HLN := Lib.hid hl
  have qa := (F0.c.cell a).trans (cpuCells_reg hl _ _ ha)
  have qb := (F0.c.cell b).trans (cpuCells_reg hl _ _ hb)
  have GA := Lib.hid (cpuCells_reg hl (.slice A1 n1 k1) (.slice A2 n2 k2) ha)
  have GB := Lib.hid (cpuCells_reg hl (.slice A1 n1 k1) (.slice A2 n2 k2) hb)
  have GC := Lib.hid (cpuCells_reg hl (.slice A1 n1 k1) (.slice A2 n2 k2) hcc)
  clear F0 hm hm1 hl
  generalize (c.r.getD a 0) = ra at *
  generalize (c.r.getD b 0) = rb at *
  generalize (c.r.getD cc 0) = rc at *
  generalize hC0 : cpuCells c (.slice A1 n1 k1) (.slice A2 n2 k2) = C0 at *
  go_enter Tryd.func26, Tryd.ntmps26
  go_wp2_with fail
  go_quiet (fail)
  have FD := Lib.hid (FH.out.drawn nq)
  clear FH qa qb
  generalize ((((((w.alloc (.cells C0 38)).alloc (.cells MC 41)).alloc (.cells #[.int .i64 20, .int .i64 a, .int .i64 b, .int .i64 cc, .int .i64 n] 54)).alloc (.cells #[.int .u32 0, .int .u32 0, .int .u32 0, .int .u32 0, .int .u32 0, .int .u32 0, .int .u32 0, .int .u32 0, .int .u32 0, .int .u32 0, .int .u32 0, .int .u32 0, .int .u32 0, .int .u32 0, .int .u32 0, .int .u32 0, .int .u32 0, .int .u32 0, .int .u32 0, .int .i64 0, .int .i64 0, .int .i64 0, .int .i64 0, .slice none 0 0, .int .u32 0, .int .u32 0, .int .u32 0, .int .u32 0, .slice none 0 0] 38)).alloc (.cells #[.int .u32 0, .int .u32 0, .int .u32 0, .int .u32 0, .int .u32 0, .slice none 0 0] 41)).drewN nq) = W at *
  subst hC0
  have qa : W.cell? ⟨w.heap.size, a, none⟩ = some (.int .u32 ra) := (FD.out.c.cell a).trans GA.out
  have qc : W.cell? ⟨w.heap.size, cc, none⟩ = some (.int .u32 rc) := (FD.out.c.cell cc).trans GC.out
  have q14 : W.cell? ⟨w.heap.size, 14, none⟩ = some (.int .u32 (c.r.getD 14 0)) := (FD.out.c.cell 14).trans (cpuCells_reg HLN.out _ _ (by decide))
  have q16 : W.cell? ⟨w.heap.size, 16, none⟩ = some (.int .u32 c.pc) := (FD.out.c.cell 16).trans (cpuCells_pc HLN.out _ _)
  have q19 : W.cell? ⟨w.heap.size, 19, none⟩ = some (.int .i64 c.st) := (FD.out.c.cell 19).trans (cpuCells_st HLN.out _ _)
  have hf : ∀ j, W.frozen? ⟨w.heap.size, j, none⟩ = false := FD.out.c.free
  have g2 : w.heap.size + 1 + 1 ≠ w.heap.size := by omega
  have i0 : W.cell? ⟨w.heap.size + 1 + 1, 0, none⟩ = some (.int .i64 20) := FD.out.i.cell 0
  have i1 : W.cell? ⟨w.heap.size + 1 + 1, 1, none⟩ = some (.int .i64 a) := FD.out.i.cell 1
  have i4 : W.cell? ⟨w.heap.size + 1 + 1, 4, none⟩ = some (.int .i64 n) := FD.out.i.cell 4
  go_wp2_with fail
  have FE := Lib.hid (show Fr w (W.setCell ⟨w.heap.size, 16, none⟩ (.int .u32 ((c.pc + 4 + 4 * (n % 4294967296)) % 4294967296))) (cpuCells ({ c with pc := (c.pc + 4 + 4 * (n % 4294967296)) % 4294967296 }) (.slice A1 n1 k1) (.slice A2 n2 k2)) MC _ from FD.out.set_pc HLN.out _)
  clear FD i0 i1 i4 qa qc q14 q16 q19 hf
  generalize W.setCell ⟨w.heap.size, 16, none⟩ (.int .u32 ((c.pc + 4 + 4 * (n % 4294967296)) % 4294967296)) = V at *
  have hlf : ({ c with pc := (c.pc + 4 + 4 * (n % 4294967296)) % 4294967296 }).r.length = 16 := by first | exact HLN.out | (show (List.set _ _ _).length = 16; rw [List.length_set]; exact HLN.out)
  have SZ := Lib.hid (cpuCells_size hlf (.slice A1 n1 k1) (.slice A2 n2 k2))
  have ONE := Lib.hid (cpu_one ({ c with pc := (c.pc + 4 + 4 * (n % 4294967296)) % 4294967296 }) (o := (.slice A1 n1 k1)) (i := (.slice A2 n2 k2)) rfl rfl)
  clear hlf
  generalize hC2 : cpuCells ({ c with pc := (c.pc + 4 + 4 * (n % 4294967296)) % 4294967296 }) (.slice A1 n1 k1) (.slice A2 n2 k2) = C2 at *
  have CE := Lib.hid hC2
  clear hC2
  have HC := Lib.hid FE.out.c
  have HM := Lib.hid FE.out.m
  have R1 := Lib.hid FE.out.r1
  have R2 := Lib.hid FE.out.r2
  have BV := Lib.hid FE.out.bel
  refine held_start 4 rfl (S := fun y => Whole y w.heap.size 38 C2 ∧ Whole y (w.heap.size + 1) 41 MC) (by kernel_rfl) ⟨HC.out.drew', HM.out.drew'⟩ (fun hS => ?_)
  refine wpAnyH_take (i := 0) (v := .agg C2) get0 ?_ ?_ ?_ ?_ ?_ hS ?_
  · kernel_rfl
  · kernel_rfl
  · kernel_rfl
  · exact fun _ _ _ h => h
  · exact take_load 38 (.tmp 3) rfl rfl (w.heap.size) rfl 38 C2 (fun _ h => h.1) _ Tryd.underlying38 rfl (infoCpu SZ.out)
  refine wpAnyH_take (i := 1) (v := .agg MC) get1 ?_ ?_ ?_ ?_ ?_ hS ?_
  · kernel_rfl
  · kernel_rfl
  · kernel_rfl
  · exact fun _ _ _ h => h
  · exact take_load 41 (.tmp 4) rfl rfl ((w.heap.size + 1)) rfl 41 MC (fun _ h => h.2) _ Tryd.underlying41 rfl (infoMem SM.out)
  refine held_step get2 (by kernel_rfl) (fun K hK => ?_)
  refine step_store 38 (.tmp 6) (.tmp 191) rfl rfl (w.heap.size + 1 + 1 + 1) C2 rfl rfl 38 zeros38 R1.out.drew' (infoCpu SZ.out) (by rw [SZ.out]; rfl) ONE.out ?_
  refine hK.out _ _ ⟨HC.out.drew'.only (by omega) (Only.setRow _ (w.heap.size + 1 + 1 + 1) C2), HM.out.drew'.only (by omega) (Only.setRow _ (w.heap.size + 1 + 1 + 1) C2)⟩ (fun hS2 => ?_)
  clear hK K
  refine held_step get3 (by kernel_rfl) (fun K hK => ?_)
  refine step_store 41 (.tmp 7) (.tmp 192) rfl rfl (w.heap.size + 1 + 1 + 1 + 1) MC rfl rfl 41 zeros41 (R2.out.drew'.only (by omega) (Only.setRow _ (w.heap.size + 1 + 1 + 1) C2)) (infoMem SM.out) (by rw [SM.out]; rfl) ONM.out ?_
  refine hK.out _ _ ⟨hS2.1.only (by omega) (Only.setRow _ (w.heap.size + 1 + 1 + 1 + 1) MC), hS2.2.only (by omega) (Only.setRow _ (w.heap.size + 1 + 1 + 1 + 1) MC)⟩ (fun hS3 => ?_)
  clear hK K
  refine wpAnyH_done (by kernel_rfl) ?_ _
  go_wp2_with fail
  refine bodyPost_ret (v := .tuple #[.agg C2, .agg MC]) (results_two_rows rfl _ _ (w.heap.size + 1 + 1 + 1) (w.heap.size + 1 + 1 + 1 + 1) 38 41 C2 MC _ _ rfl rfl ((R1.out.drew'.setRow C2).only (by omega) (Only.setRow _ (w.heap.size + 1 + 1 + 1 + 1) MC)) ((R2.out.drew'.only (by omega) (Only.setRow _ (w.heap.size + 1 + 1 + 1) C2)).setRow MC) Tryd.underlying38 rfl (infoCpu SZ.out) Tryd.underlying41 rfl (infoMem SM.out)) rfl ⟨by rw [CE.out], ((BV.out.drew.trans ((Only.setRow _ (w.heap.size + 1 + 1 + 1) C2).below (by omega) (by have := BV.out.size; simpa using this))).trans ((Only.setRow _ (w.heap.size + 1 + 1 + 1 + 1) MC).below (by omega) (by have := BV.out.size; simpa using this)))⟩

set_option maxHeartbeats 8000000 in
set_option maxRecDepth 100000 in
theorem refdo_20_false (a b cc : Nat) (n : Int) (c : Cp) (A1 A2 : Option Addr) (n1 k1 n2 k2 : Nat) (MC : Array Value) (w : World) (ha : a < 16) (hb : b < 16) (hcc : cc < 16) (ub : 0 ≤ (c.r.getD b 0) ∧ (c.r.getD b 0) ≤ 4294967295) (uc : 0 ≤ (c.r.getD cc 0) ∧ (c.r.getD cc 0) ≤ 4294967295) (hl : c.r.length = 16) (hm : MC.size = 6) (hm1 : MC.all (·.oneCell') = true) (hd : ((c.r.getD a 0) == 0) = false) :
    Calls Tryd.prog 26 #[.agg (cpuCells c (.slice A1 n1 k1) (.slice A2 n2 k2)), .agg MC, .agg #[.int .i64 20, .int .i64 a, .int .i64 b, .int .i64 cc, .int .i64 n]] w fun e w' => e = .returned (.tuple #[.agg (cpuCells (passC c) (.slice A1 n1 k1) (.slice A2 n2 k2)), .agg MC]) ∧ Below w.heap.size w w' := by
  have F0 := fr_made w (cpuCells c (.slice A1 n1 k1) (.slice A2 n2 k2)) MC #[.int .i64 20, .int .i64 a, .int .i64 b, .int .i64 cc, .int .i64 n]
  unfold zeros38 zeros41 at F0
  have FH := Lib.hid F0
  have haI : (a : Int) < 16 := by omega
  have hbI : (b : Int) < 16 := by omega
  have hcI : (cc : Int) < 16 := by omega
  have SM := Lib.hid hm
  have ONM := Lib.hid hm1
  have HLN := Lib.hid hl
  have qa := (F0.c.cell a).trans (cpuCells_reg hl _ _ ha)
  have qb := (F0.c.cell b).trans (cpuCells_reg hl _ _ hb)
  have GA := Lib.hid (cpuCells_reg hl (.slice A1 n1 k1) (.slice A2 n2 k2) ha)
  have GB := Lib.hid (cpuCells_reg hl (.slice A1 n1 k1) (.slice A2 n2 k2) hb)
  have GC := Lib.hid (cpuCells_reg hl (.slice A1 n1 k1) (.slice A2 n2 k2) hcc)
  clear F0 hm hm1 hl
  generalize (c.r.getD a 0) = ra at *
  generalize (c.r.getD b 0) = rb at *
  generalize (c.r.getD cc 0) = rc at *
  generalize hC0 : cpuCells c (.slice A1 n1 k1) (.slice A2 n2 k2) = C0 at *
  go_enter Tryd.func26, Tryd.ntmps26
  go_wp2_with fail
  go_quiet (fail)
  have FD := Lib.hid (FH.out.drawn nq)
  clear FH qa qb
  generalize ((((((w.alloc (.cells C0 38)).alloc (.cells MC 41)).alloc (.cells #[.int .i64 20, .int .i64 a, .int .i64 b, .int .i64 cc, .int .i64 n] 54)).alloc (.cells #[.int .u32 0, .int .u32 0, .int .u32 0, .int .u32 0, .int .u32 0, .int .u32 0, .int .u32 0, .int .u32 0, .int .u32 0, .int .u32 0, .int .u32 0, .int .u32 0, .int .u32 0, .int .u32 0, .int .u32 0, .int .u32 0, .int .u32 0, .int .u32 0, .int .u32 0, .int .i64 0, .int .i64 0, .int .i64 0, .int .i64 0, .slice none 0 0, .int .u32 0, .int .u32 0, .int .u32 0, .int .u32 0, .slice none 0 0] 38)).alloc (.cells #[.int .u32 0, .int .u32 0, .int .u32 0, .int .u32 0, .int .u32 0, .slice none 0 0] 41)).drewN nq) = W at *
  subst hC0
  have qa : W.cell? ⟨w.heap.size, a, none⟩ = some (.int .u32 ra) := (FD.out.c.cell a).trans GA.out
  have qc : W.cell? ⟨w.heap.size, cc, none⟩ = some (.int .u32 rc) := (FD.out.c.cell cc).trans GC.out
  have q14 : W.cell? ⟨w.heap.size, 14, none⟩ = some (.int .u32 (c.r.getD 14 0)) := (FD.out.c.cell 14).trans (cpuCells_reg HLN.out _ _ (by decide))
  have q16 : W.cell? ⟨w.heap.size, 16, none⟩ = some (.int .u32 c.pc) := (FD.out.c.cell 16).trans (cpuCells_pc HLN.out _ _)
  have q19 : W.cell? ⟨w.heap.size, 19, none⟩ = some (.int .i64 c.st) := (FD.out.c.cell 19).trans (cpuCells_st HLN.out _ _)
  have hf : ∀ j, W.frozen? ⟨w.heap.size, j, none⟩ = false := FD.out.c.free
  have g2 : w.heap.size + 1 + 1 ≠ w.heap.size := by omega
  have i0 : W.cell? ⟨w.heap.size + 1 + 1, 0, none⟩ = some (.int .i64 20) := FD.out.i.cell 0
  have i1 : W.cell? ⟨w.heap.size + 1 + 1, 1, none⟩ = some (.int .i64 a) := FD.out.i.cell 1
  have i4 : W.cell? ⟨w.heap.size + 1 + 1, 4, none⟩ = some (.int .i64 n) := FD.out.i.cell 4
  go_wp2_with fail
  have FE := Lib.hid (show Fr w (W.setCell ⟨w.heap.size, 16, none⟩ (.int .u32 ((c.pc + 4) % 4294967296))) (cpuCells (passC c) (.slice A1 n1 k1) (.slice A2 n2 k2)) MC _ from FD.out.set_pc HLN.out _)
  clear FD i0 i1 i4 qa qc q14 q16 q19 hf
  generalize W.setCell ⟨w.heap.size, 16, none⟩ (.int .u32 ((c.pc + 4) % 4294967296)) = V at *
  have hlf : (passC c).r.length = 16 := by first | exact HLN.out | (show (List.set _ _ _).length = 16; rw [List.length_set]; exact HLN.out)
  have SZ := Lib.hid (cpuCells_size hlf (.slice A1 n1 k1) (.slice A2 n2 k2))
  have ONE := Lib.hid (cpu_one (passC c) (o := (.slice A1 n1 k1)) (i := (.slice A2 n2 k2)) rfl rfl)
  clear hlf
  generalize hC2 : cpuCells (passC c) (.slice A1 n1 k1) (.slice A2 n2 k2) = C2 at *
  have CE := Lib.hid hC2
  clear hC2
  have HC := Lib.hid FE.out.c
  have HM := Lib.hid FE.out.m
  have R1 := Lib.hid FE.out.r1
  have R2 := Lib.hid FE.out.r2
  have BV := Lib.hid FE.out.bel
  refine held_start 4 rfl (S := fun y => Whole y w.heap.size 38 C2 ∧ Whole y (w.heap.size + 1) 41 MC) (by kernel_rfl) ⟨HC.out.drew', HM.out.drew'⟩ (fun hS => ?_)
  refine wpAnyH_take (i := 0) (v := .agg C2) get0 ?_ ?_ ?_ ?_ ?_ hS ?_
  · kernel_rfl
  · kernel_rfl
  · kernel_rfl
  · exact fun _ _ _ h => h
  · exact take_load 38 (.tmp 3) rfl rfl (w.heap.size) rfl 38 C2 (fun _ h => h.1) _ Tryd.underlying38 rfl (infoCpu SZ.out)
  refine wpAnyH_take (i := 1) (v := .agg MC) get1 ?_ ?_ ?_ ?_ ?_ hS ?_
  · kernel_rfl
  · kernel_rfl
  · kernel_rfl
  · exact fun _ _ _ h => h
  · exact take_load 41 (.tmp 4) rfl rfl ((w.heap.size + 1)) rfl 41 MC (fun _ h => h.2) _ Tryd.underlying41 rfl (infoMem SM.out)
  refine held_step get2 (by kernel_rfl) (fun K hK => ?_)
  refine step_store 38 (.tmp 6) (.tmp 191) rfl rfl (w.heap.size + 1 + 1 + 1) C2 rfl rfl 38 zeros38 R1.out.drew' (infoCpu SZ.out) (by rw [SZ.out]; rfl) ONE.out ?_
  refine hK.out _ _ ⟨HC.out.drew'.only (by omega) (Only.setRow _ (w.heap.size + 1 + 1 + 1) C2), HM.out.drew'.only (by omega) (Only.setRow _ (w.heap.size + 1 + 1 + 1) C2)⟩ (fun hS2 => ?_)
  clear hK K
  refine held_step get3 (by kernel_rfl) (fun K hK => ?_)
  refine step_store 41 (.tmp 7) (.tmp 192) rfl rfl (w.heap.size + 1 + 1 + 1 + 1) MC rfl rfl 41 zeros41 (R2.out.drew'.only (by omega) (Only.setRow _ (w.heap.size + 1 + 1 + 1) C2)) (infoMem SM.out) (by rw [SM.out]; rfl) ONM.out ?_
  refine hK.out _ _ ⟨hS2.1.only (by omega) (Only.setRow _ (w.heap.size + 1 + 1 + 1 + 1) MC), hS2.2.only (by omega) (Only.setRow _ (w.heap.size + 1 + 1 + 1 + 1) MC)⟩ (fun hS3 => ?_)
  clear hK K
  refine wpAnyH_done (by kernel_rfl) ?_ _
  go_wp2_with fail
  refine bodyPost_ret (v := .tuple #[.agg C2, .agg MC]) (results_two_rows rfl _ _ (w.heap.size + 1 + 1 + 1) (w.heap.size + 1 + 1 + 1 + 1) 38 41 C2 MC _ _ rfl rfl ((R1.out.drew'.setRow C2).only (by omega) (Only.setRow _ (w.heap.size + 1 + 1 + 1 + 1) MC)) ((R2.out.drew'.only (by omega) (Only.setRow _ (w.heap.size + 1 + 1 + 1) C2)).setRow MC) Tryd.underlying38 rfl (infoCpu SZ.out) Tryd.underlying41 rfl (infoMem SM.out)) rfl ⟨by rw [CE.out], ((BV.out.drew.trans ((Only.setRow _ (w.heap.size + 1 + 1 + 1) C2).below (by omega) (by have := BV.out.size; simpa using this))).trans ((Only.setRow _ (w.heap.size + 1 + 1 + 1 + 1) MC).below (by omega) (by have := BV.out.size; simpa using this)))⟩

set_option maxHeartbeats 8000000 in
set_option maxRecDepth 100000 in
theorem refdo_21_true (a b cc : Nat) (n : Int) (c : Cp) (A1 A2 : Option Addr) (n1 k1 n2 k2 : Nat) (MC : Array Value) (w : World) (ha : a < 16) (hb : b < 16) (hcc : cc < 16) (ub : 0 ≤ (c.r.getD b 0) ∧ (c.r.getD b 0) ≤ 4294967295) (uc : 0 ≤ (c.r.getD cc 0) ∧ (c.r.getD cc 0) ≤ 4294967295) (hl : c.r.length = 16) (hm : MC.size = 6) (hm1 : MC.all (·.oneCell') = true) (hd : ((c.r.getD a 0) != 0) = true) :
    Calls Tryd.prog 26 #[.agg (cpuCells c (.slice A1 n1 k1) (.slice A2 n2 k2)), .agg MC, .agg #[.int .i64 21, .int .i64 a, .int .i64 b, .int .i64 cc, .int .i64 n]] w fun e w' => e = .returned (.tuple #[.agg (cpuCells (jumpC c n) (.slice A1 n1 k1) (.slice A2 n2 k2)), .agg MC]) ∧ Below w.heap.size w w' := by
  rw [jumpC_eq]
  have F0 := fr_made w (cpuCells c (.slice A1 n1 k1) (.slice A2 n2 k2)) MC #[.int .i64 21, .int .i64 a, .int .i64 b, .int .i64 cc, .int .i64 n]
  unfold zeros38 zeros41 at F0
  have FH := Lib.hid F0
  have haI : (a : Int) < 16 := by omega
  have hbI : (b : Int) < 16 := by omega
  have hcI : (cc : Int) < 16 := by omega
  have SM := Lib.hid hm
  have ONM := Lib.hid hm1
  have HLN := Lib.hid hl
  have qa := (F0.c.cell a).trans (cpuCells_reg hl _ _ ha)
  have qb := (F0.c.cell b).trans (cpuCells_reg hl _ _ hb)
  have GA := Lib.hid (cpuCells_reg hl (.slice A1 n1 k1) (.slice A2 n2 k2) ha)
  have GB := Lib.hid (cpuCells_reg hl (.slice A1 n1 k1) (.slice A2 n2 k2) hb)
  have GC := Lib.hid (cpuCells_reg hl (.slice A1 n1 k1) (.slice A2 n2 k2) hcc)
  clear F0 hm hm1 hl
  generalize (c.r.getD a 0) = ra at *
  generalize (c.r.getD b 0) = rb at *
  generalize (c.r.getD cc 0) = rc at *
  generalize hC0 : cpuCells c (.slice A1 n1 k1) (.slice A2 n2 k2) = C0 at *
  go_enter Tryd.func26, Tryd.ntmps26
  go_wp2_with fail
  go_quiet (fail)
  have FD := Lib.hid (FH.out.drawn nq)
  clear FH qa qb
  generalize ((((((w.alloc (.cells C0 38)).alloc (.cells MC 41)).alloc (.cells #[.int .i64 21, .int .i64 a, .int .i64 b, .int .i64 cc, .int .i64 n] 54)).alloc (.cells #[.int .u32 0, .int .u32 0, .int .u32 0, .int .u32 0, .int .u32 0, .int .u32 0, .int .u32 0, .int .u32 0, .int .u32 0, .int .u32 0, .int .u32 0, .int .u32 0, .int .u32 0, .int .u32 0, .int .u32 0, .int .u32 0, .int .u32 0, .int .u32 0, .int .u32 0, .int .i64 0, .int .i64 0, .int .i64 0, .int .i64 0, .slice none 0 0, .int .u32 0, .int .u32 0, .int .u32 0, .int .u32 0, .slice none 0 0] 38)).alloc (.cells #[.int .u32 0, .int .u32 0, .int .u32 0, .int .u32 0, .int .u32 0, .slice none 0 0] 41)).drewN nq) = W at *
  subst hC0
  have qa : W.cell? ⟨w.heap.size, a, none⟩ = some (.int .u32 ra) := (FD.out.c.cell a).trans GA.out
  have qc : W.cell? ⟨w.heap.size, cc, none⟩ = some (.int .u32 rc) := (FD.out.c.cell cc).trans GC.out
  have q14 : W.cell? ⟨w.heap.size, 14, none⟩ = some (.int .u32 (c.r.getD 14 0)) := (FD.out.c.cell 14).trans (cpuCells_reg HLN.out _ _ (by decide))
  have q16 : W.cell? ⟨w.heap.size, 16, none⟩ = some (.int .u32 c.pc) := (FD.out.c.cell 16).trans (cpuCells_pc HLN.out _ _)
  have q19 : W.cell? ⟨w.heap.size, 19, none⟩ = some (.int .i64 c.st) := (FD.out.c.cell 19).trans (cpuCells_st HLN.out _ _)
  have hf : ∀ j, W.frozen? ⟨w.heap.size, j, none⟩ = false := FD.out.c.free
  have g2 : w.heap.size + 1 + 1 ≠ w.heap.size := by omega
  have i0 : W.cell? ⟨w.heap.size + 1 + 1, 0, none⟩ = some (.int .i64 21) := FD.out.i.cell 0
  have i1 : W.cell? ⟨w.heap.size + 1 + 1, 1, none⟩ = some (.int .i64 a) := FD.out.i.cell 1
  have i4 : W.cell? ⟨w.heap.size + 1 + 1, 4, none⟩ = some (.int .i64 n) := FD.out.i.cell 4
  go_wp2_with fail
  have FE := Lib.hid (show Fr w (W.setCell ⟨w.heap.size, 16, none⟩ (.int .u32 ((c.pc + 4 + 4 * (n % 4294967296)) % 4294967296))) (cpuCells ({ c with pc := (c.pc + 4 + 4 * (n % 4294967296)) % 4294967296 }) (.slice A1 n1 k1) (.slice A2 n2 k2)) MC _ from FD.out.set_pc HLN.out _)
  clear FD i0 i1 i4 qa qc q14 q16 q19 hf
  generalize W.setCell ⟨w.heap.size, 16, none⟩ (.int .u32 ((c.pc + 4 + 4 * (n % 4294967296)) % 4294967296)) = V at *
  have hlf : ({ c with pc := (c.pc + 4 + 4 * (n % 4294967296)) % 4294967296 }).r.length = 16 := by first | exact HLN.out | (show (List.set _ _ _).length = 16; rw [List.length_set]; exact HLN.out)
  have SZ := Lib.hid (cpuCells_size hlf (.slice A1 n1 k1) (.slice A2 n2 k2))
  have ONE := Lib.hid (cpu_one ({ c with pc := (c.pc + 4 + 4 * (n % 4294967296)) % 4294967296 }) (o := (.slice A1 n1 k1)) (i := (.slice A2 n2 k2)) rfl rfl)
  clear hlf
  generalize hC2 : cpuCells ({ c with pc := (c.pc + 4 + 4 * (n % 4294967296)) % 4294967296 }) (.slice A1 n1 k1) (.slice A2 n2 k2) = C2 at *
  have CE := Lib.hid hC2
  clear hC2
  have HC := Lib.hid FE.out.c
  have HM := Lib.hid FE.out.m
  have R1 := Lib.hid FE.out.r1
  have R2 := Lib.hid FE.out.r2
  have BV := Lib.hid FE.out.bel
  refine held_start 4 rfl (S := fun y => Whole y w.heap.size 38 C2 ∧ Whole y (w.heap.size + 1) 41 MC) (by kernel_rfl) ⟨HC.out.drew', HM.out.drew'⟩ (fun hS => ?_)
  refine wpAnyH_take (i := 0) (v := .agg C2) get0 ?_ ?_ ?_ ?_ ?_ hS ?_
  · kernel_rfl
  · kernel_rfl
  · kernel_rfl
  · exact fun _ _ _ h => h
  · exact take_load 38 (.tmp 3) rfl rfl (w.heap.size) rfl 38 C2 (fun _ h => h.1) _ Tryd.underlying38 rfl (infoCpu SZ.out)
  refine wpAnyH_take (i := 1) (v := .agg MC) get1 ?_ ?_ ?_ ?_ ?_ hS ?_
  · kernel_rfl
  · kernel_rfl
  · kernel_rfl
  · exact fun _ _ _ h => h
  · exact take_load 41 (.tmp 4) rfl rfl ((w.heap.size + 1)) rfl 41 MC (fun _ h => h.2) _ Tryd.underlying41 rfl (infoMem SM.out)
  refine held_step get2 (by kernel_rfl) (fun K hK => ?_)
  refine step_store 38 (.tmp 6) (.tmp 191) rfl rfl (w.heap.size + 1 + 1 + 1) C2 rfl rfl 38 zeros38 R1.out.drew' (infoCpu SZ.out) (by rw [SZ.out]; rfl) ONE.out ?_
  refine hK.out _ _ ⟨HC.out.drew'.only (by omega) (Only.setRow _ (w.heap.size + 1 + 1 + 1) C2), HM.out.drew'.only (by omega) (Only.setRow _ (w.heap.size + 1 + 1 + 1) C2)⟩ (fun hS2 => ?_)
  clear hK K
  refine held_step get3 (by kernel_rfl) (fun K hK => ?_)
  refine step_store 41 (.tmp 7) (.tmp 192) rfl rfl (w.heap.size + 1 + 1 + 1 + 1) MC rfl rfl 41 zeros41 (R2.out.drew'.only (by omega) (Only.setRow _ (w.heap.size + 1 + 1 + 1) C2)) (infoMem SM.out) (by rw [SM.out]; rfl) ONM.out ?_
  refine hK.out _ _ ⟨hS2.1.only (by omega) (Only.setRow _ (w.heap.size + 1 + 1 + 1 + 1) MC), hS2.2.only (by omega) (Only.setRow _ (w.heap.size + 1 + 1 + 1 + 1) MC)⟩ (fun hS3 => ?_)
  clear hK K
  refine wpAnyH_done (by kernel_rfl) ?_ _
  go_wp2_with fail
  refine bodyPost_ret (v := .tuple #[.agg C2, .agg MC]) (results_two_rows rfl _ _ (w.heap.size + 1 + 1 + 1) (w.heap.size + 1 + 1 + 1 + 1) 38 41 C2 MC _ _ rfl rfl ((R1.out.drew'.setRow C2).only (by omega) (Only.setRow _ (w.heap.size + 1 + 1 + 1 + 1) MC)) ((R2.out.drew'.only (by omega) (Only.setRow _ (w.heap.size + 1 + 1 + 1) C2)).setRow MC) Tryd.underlying38 rfl (infoCpu SZ.out) Tryd.underlying41 rfl (infoMem SM.out)) rfl ⟨by rw [CE.out], ((BV.out.drew.trans ((Only.setRow _ (w.heap.size + 1 + 1 + 1) C2).below (by omega) (by have := BV.out.size; simpa using this))).trans ((Only.setRow _ (w.heap.size + 1 + 1 + 1 + 1) MC).below (by omega) (by have := BV.out.size; simpa using this)))⟩

set_option maxHeartbeats 8000000 in
set_option maxRecDepth 100000 in
theorem refdo_21_false (a b cc : Nat) (n : Int) (c : Cp) (A1 A2 : Option Addr) (n1 k1 n2 k2 : Nat) (MC : Array Value) (w : World) (ha : a < 16) (hb : b < 16) (hcc : cc < 16) (ub : 0 ≤ (c.r.getD b 0) ∧ (c.r.getD b 0) ≤ 4294967295) (uc : 0 ≤ (c.r.getD cc 0) ∧ (c.r.getD cc 0) ≤ 4294967295) (hl : c.r.length = 16) (hm : MC.size = 6) (hm1 : MC.all (·.oneCell') = true) (hd : ((c.r.getD a 0) != 0) = false) :
    Calls Tryd.prog 26 #[.agg (cpuCells c (.slice A1 n1 k1) (.slice A2 n2 k2)), .agg MC, .agg #[.int .i64 21, .int .i64 a, .int .i64 b, .int .i64 cc, .int .i64 n]] w fun e w' => e = .returned (.tuple #[.agg (cpuCells (passC c) (.slice A1 n1 k1) (.slice A2 n2 k2)), .agg MC]) ∧ Below w.heap.size w w' := by
  have F0 := fr_made w (cpuCells c (.slice A1 n1 k1) (.slice A2 n2 k2)) MC #[.int .i64 21, .int .i64 a, .int .i64 b, .int .i64 cc, .int .i64 n]
  unfold zeros38 zeros41 at F0
  have FH := Lib.hid F0
  have haI : (a : Int) < 16 := by omega
  have hbI : (b : Int) < 16 := by omega
  have hcI : (cc : Int) < 16 := by omega
  have SM := Lib.hid hm
  have ONM := Lib.hid hm1
  have HLN := Lib.hid hl
  have qa := (F0.c.cell a).trans (cpuCells_reg hl _ _ ha)
  have qb := (F0.c.cell b).trans (cpuCells_reg hl _ _ hb)
  have GA := Lib.hid (cpuCells_reg hl (.slice A1 n1 k1) (.slice A2 n2 k2) ha)
  have GB := Lib.hid (cpuCells_reg hl (.slice A1 n1 k1) (.slice A2 n2 k2) hb)
  have GC := Lib.hid (cpuCells_reg hl (.slice A1 n1 k1) (.slice A2 n2 k2) hcc)
  clear F0 hm hm1 hl
  generalize (c.r.getD a 0) = ra at *
  generalize (c.r.getD b 0) = rb at *
  generalize (c.r.getD cc 0) = rc at *
  generalize hC0 : cpuCells c (.slice A1 n1 k1) (.slice A2 n2 k2) = C0 at *
  go_enter Tryd.func26, Tryd.ntmps26
  go_wp2_with fail
  go_quiet (fail)
  have FD := Lib.hid (FH.out.drawn nq)
  clear FH qa qb
  generalize ((((((w.alloc (.cells C0 38)).alloc (.cells MC 41)).alloc (.cells #[.int .i64 21, .int .i64 a, .int .i64 b, .int .i64 cc, .int .i64 n] 54)).alloc (.cells #[.int .u32 0, .int .u32 0, .int .u32 0, .int .u32 0, .int .u32 0, .int .u32 0, .int .u32 0, .int .u32 0, .int .u32 0, .int .u32 0, .int .u32 0, .int .u32 0, .int .u32 0, .int .u32 0, .int .u32 0, .int .u32 0, .int .u32 0, .int .u32 0, .int .u32 0, .int .i64 0, .int .i64 0, .int .i64 0, .int .i64 0, .slice none 0 0, .int .u32 0, .int .u32 0, .int .u32 0, .int .u32 0, .slice none 0 0] 38)).alloc (.cells #[.int .u32 0, .int .u32 0, .int .u32 0, .int .u32 0, .int .u32 0, .slice none 0 0] 41)).drewN nq) = W at *
  subst hC0
  have qa : W.cell? ⟨w.heap.size, a, none⟩ = some (.int .u32 ra) := (FD.out.c.cell a).trans GA.out
  have qc : W.cell? ⟨w.heap.size, cc, none⟩ = some (.int .u32 rc) := (FD.out.c.cell cc).trans GC.out
  have q14 : W.cell? ⟨w.heap.size, 14, none⟩ = some (.int .u32 (c.r.getD 14 0)) := (FD.out.c.cell 14).trans (cpuCells_reg HLN.out _ _ (by decide))
  have q16 : W.cell? ⟨w.heap.size, 16, none⟩ = some (.int .u32 c.pc) := (FD.out.c.cell 16).trans (cpuCells_pc HLN.out _ _)
  have q19 : W.cell? ⟨w.heap.size, 19, none⟩ = some (.int .i64 c.st) := (FD.out.c.cell 19).trans (cpuCells_st HLN.out _ _)
  have hf : ∀ j, W.frozen? ⟨w.heap.size, j, none⟩ = false := FD.out.c.free
  have g2 : w.heap.size + 1 + 1 ≠ w.heap.size := by omega
  have i0 : W.cell? ⟨w.heap.size + 1 + 1, 0, none⟩ = some (.int .i64 21) := FD.out.i.cell 0
  have i1 : W.cell? ⟨w.heap.size + 1 + 1, 1, none⟩ = some (.int .i64 a) := FD.out.i.cell 1
  have i4 : W.cell? ⟨w.heap.size + 1 + 1, 4, none⟩ = some (.int .i64 n) := FD.out.i.cell 4
  go_wp2_with fail
  have FE := Lib.hid (show Fr w (W.setCell ⟨w.heap.size, 16, none⟩ (.int .u32 ((c.pc + 4) % 4294967296))) (cpuCells (passC c) (.slice A1 n1 k1) (.slice A2 n2 k2)) MC _ from FD.out.set_pc HLN.out _)
  clear FD i0 i1 i4 qa qc q14 q16 q19 hf
  generalize W.setCell ⟨w.heap.size, 16, none⟩ (.int .u32 ((c.pc + 4) % 4294967296)) = V at *
  have hlf : (passC c).r.length = 16 := by first | exact HLN.out | (show (List.set _ _ _).length = 16; rw [List.length_set]; exact HLN.out)
  have SZ := Lib.hid (cpuCells_size hlf (.slice A1 n1 k1) (.slice A2 n2 k2))
  have ONE := Lib.hid (cpu_one (passC c) (o := (.slice A1 n1 k1)) (i := (.slice A2 n2 k2)) rfl rfl)
  clear hlf
  generalize hC2 : cpuCells (passC c) (.slice A1 n1 k1) (.slice A2 n2 k2) = C2 at *
  have CE := Lib.hid hC2
  clear hC2
  have HC := Lib.hid FE.out.c
  have HM := Lib.hid FE.out.m
  have R1 := Lib.hid FE.out.r1
  have R2 := Lib.hid FE.out.r2
  have BV := Lib.hid FE.out.bel
  refine held_start 4 rfl (S := fun y => Whole y w.heap.size 38 C2 ∧ Whole y (w.heap.size + 1) 41 MC) (by kernel_rfl) ⟨HC.out.drew', HM.out.drew'⟩ (fun hS => ?_)
  refine wpAnyH_take (i := 0) (v := .agg C2) get0 ?_ ?_ ?_ ?_ ?_ hS ?_
  · kernel_rfl
  · kernel_rfl
  · kernel_rfl
  · exact fun _ _ _ h => h
  · exact take_load 38 (.tmp 3) rfl rfl (w.heap.size) rfl 38 C2 (fun _ h => h.1) _ Tryd.underlying38 rfl (infoCpu SZ.out)
  refine wpAnyH_take (i := 1) (v := .agg MC) get1 ?_ ?_ ?_ ?_ ?_ hS ?_
  · kernel_rfl
  · kernel_rfl
  · kernel_rfl
  · exact fun _ _ _ h => h
  · exact take_load 41 (.tmp 4) rfl rfl ((w.heap.size + 1)) rfl 41 MC (fun _ h => h.2) _ Tryd.underlying41 rfl (infoMem SM.out)
  refine held_step get2 (by kernel_rfl) (fun K hK => ?_)
  refine step_store 38 (.tmp 6) (.tmp 191) rfl rfl (w.heap.size + 1 + 1 + 1) C2 rfl rfl 38 zeros38 R1.out.drew' (infoCpu SZ.out) (by rw [SZ.out]; rfl) ONE.out ?_
  refine hK.out _ _ ⟨HC.out.drew'.only (by omega) (Only.setRow _ (w.heap.size + 1 + 1 + 1) C2), HM.out.drew'.only (by omega) (Only.setRow _ (w.heap.size + 1 + 1 + 1) C2)⟩ (fun hS2 => ?_)
  clear hK K
  refine held_step get3 (by kernel_rfl) (fun K hK => ?_)
  refine step_store 41 (.tmp 7) (.tmp 192) rfl rfl (w.heap.size + 1 + 1 + 1 + 1) MC rfl rfl 41 zeros41 (R2.out.drew'.only (by omega) (Only.setRow _ (w.heap.size + 1 + 1 + 1) C2)) (infoMem SM.out) (by rw [SM.out]; rfl) ONM.out ?_
  refine hK.out _ _ ⟨hS2.1.only (by omega) (Only.setRow _ (w.heap.size + 1 + 1 + 1 + 1) MC), hS2.2.only (by omega) (Only.setRow _ (w.heap.size + 1 + 1 + 1 + 1) MC)⟩ (fun hS3 => ?_)
  clear hK K
  refine wpAnyH_done (by kernel_rfl) ?_ _
  go_wp2_with fail
  refine bodyPost_ret (v := .tuple #[.agg C2, .agg MC]) (results_two_rows rfl _ _ (w.heap.size + 1 + 1 + 1) (w.heap.size + 1 + 1 + 1 + 1) 38 41 C2 MC _ _ rfl rfl ((R1.out.drew'.setRow C2).only (by omega) (Only.setRow _ (w.heap.size + 1 + 1 + 1 + 1) MC)) ((R2.out.drew'.only (by omega) (Only.setRow _ (w.heap.size + 1 + 1 + 1) C2)).setRow MC) Tryd.underlying38 rfl (infoCpu SZ.out) Tryd.underlying41 rfl (infoMem SM.out)) rfl ⟨by rw [CE.out], ((BV.out.drew.trans ((Only.setRow _ (w.heap.size + 1 + 1 + 1) C2).below (by omega) (by have := BV.out.size; simpa using this))).trans ((Only.setRow _ (w.heap.size + 1 + 1 + 1 + 1) MC).below (by omega) (by have := BV.out.size; simpa using this)))⟩

set_option maxHeartbeats 8000000 in
set_option maxRecDepth 100000 in
theorem refdo_22 (a b cc : Nat) (n : Int) (c : Cp) (A1 A2 : Option Addr) (n1 k1 n2 k2 : Nat) (MC : Array Value) (w : World) (ha : a < 16) (hb : b < 16) (hcc : cc < 16) (ub : 0 ≤ (c.r.getD b 0) ∧ (c.r.getD b 0) ≤ 4294967295) (uc : 0 ≤ (c.r.getD cc 0) ∧ (c.r.getD cc 0) ≤ 4294967295) (hl : c.r.length = 16) (hm : MC.size = 6) (hm1 : MC.all (·.oneCell') = true)  :
    Calls Tryd.prog 26 #[.agg (cpuCells c (.slice A1 n1 k1) (.slice A2 n2 k2)), .agg MC, .agg #[.int .i64 22, .int .i64 a, .int .i64 b, .int .i64 cc, .int .i64 n]] w fun e w' => e = .returned (.tuple #[.agg (cpuCells (jumpC c n) (.slice A1 n1 k1) (.slice A2 n2 k2)), .agg MC]) ∧ Below w.heap.size w w' := by
  rw [jumpC_eq]
  have F0 := fr_made w (cpuCells c (.slice A1 n1 k1) (.slice A2 n2 k2)) MC #[.int .i64 22, .int .i64 a, .int .i64 b, .int .i64 cc, .int .i64 n]
  unfold zeros38 zeros41 at F0
  have FH := Lib.hid F0
  have haI : (a : Int) < 16 := by omega
  have hbI : (b : Int) < 16 := by omega
  have hcI : (cc : Int) < 16 := by omega
  have SM := Lib.hid hm
  have ONM := Lib.hid hm1
  have HLN := Lib.hid hl
  have qa := (F0.c.cell a).trans (cpuCells_reg hl _ _ ha)
  have qb := (F0.c.cell b).trans (cpuCells_reg hl _ _ hb)
  have GA := Lib.hid (cpuCells_reg hl (.slice A1 n1 k1) (.slice A2 n2 k2) ha)
  have GB := Lib.hid (cpuCells_reg hl (.slice A1 n1 k1) (.slice A2 n2 k2) hb)
  have GC := Lib.hid (cpuCells_reg hl (.slice A1 n1 k1) (.slice A2 n2 k2) hcc)
  clear F0 hm hm1 hl
  generalize (c.r.getD a 0) = ra at *
  generalize (c.r.getD b 0) = rb at *
  generalize (c.r.getD cc 0) = rc at *
  generalize hC0 : cpuCells c (.slice A1 n1 k1) (.slice A2 n2 k2) = C0 at *
  go_enter Tryd.func26, Tryd.ntmps26
  go_wp2_with fail
  go_quiet (fail)
  have FD := Lib.hid (FH.out.drawn nq)
  clear FH qa qb
  generalize ((((((w.alloc (.cells C0 38)).alloc (.cells MC 41)).alloc (.cells #[.int .i64 22, .int .i64 a, .int .i64 b, .int .i64 cc, .int .i64 n] 54)).alloc (.cells #[.int .u32 0, .int .u32 0, .int .u32 0, .int .u32 0, .int .u32 0, .int .u32 0, .int .u32 0, .int .u32 0, .int .u32 0, .int .u32 0, .int .u32 0, .int .u32 0, .int .u32 0, .int .u32 0, .int .u32 0, .int .u32 0, .int .u32 0, .int .u32 0, .int .u32 0, .int .i64 0, .int .i64 0, .int .i64 0, .int .i64 0, .slice none 0 0, .int .u32 0, .int .u32 0, .int .u32 0, .int .u32 0, .slice none 0 0] 38)).alloc (.cells #[.int .u32 0, .int .u32 0, .int .u32 0, .int .u32 0, .int .u32 0, .slice none 0 0] 41)).drewN nq) = W at *
  subst hC0
  have qa : W.cell? ⟨w.heap.size, a, none⟩ = some (.int .u32 ra) := (FD.out.c.cell a).trans GA.out
  have qc : W.cell? ⟨w.heap.size, cc, none⟩ = some (.int .u32 rc) := (FD.out.c.cell cc).trans GC.out
  have q14 : W.cell? ⟨w.heap.size, 14, none⟩ = some (.int .u32 (c.r.getD 14 0)) := (FD.out.c.cell 14).trans (cpuCells_reg HLN.out _ _ (by decide))
  have q16 : W.cell? ⟨w.heap.size, 16, none⟩ = some (.int .u32 c.pc) := (FD.out.c.cell 16).trans (cpuCells_pc HLN.out _ _)
  have q19 : W.cell? ⟨w.heap.size, 19, none⟩ = some (.int .i64 c.st) := (FD.out.c.cell 19).trans (cpuCells_st HLN.out _ _)
  have hf : ∀ j, W.frozen? ⟨w.heap.size, j, none⟩ = false := FD.out.c.free
  have g2 : w.heap.size + 1 + 1 ≠ w.heap.size := by omega
  have i0 : W.cell? ⟨w.heap.size + 1 + 1, 0, none⟩ = some (.int .i64 22) := FD.out.i.cell 0
  have i1 : W.cell? ⟨w.heap.size + 1 + 1, 1, none⟩ = some (.int .i64 a) := FD.out.i.cell 1
  have i4 : W.cell? ⟨w.heap.size + 1 + 1, 4, none⟩ = some (.int .i64 n) := FD.out.i.cell 4
  go_wp2_with fail
  have FE := Lib.hid (show Fr w (W.setCell ⟨w.heap.size, 16, none⟩ (.int .u32 ((c.pc + 4 + 4 * (n % 4294967296)) % 4294967296))) (cpuCells ({ c with pc := (c.pc + 4 + 4 * (n % 4294967296)) % 4294967296 }) (.slice A1 n1 k1) (.slice A2 n2 k2)) MC _ from FD.out.set_pc HLN.out _)
  clear FD i0 i1 i4 qa qc q14 q16 q19 hf
  generalize W.setCell ⟨w.heap.size, 16, none⟩ (.int .u32 ((c.pc + 4 + 4 * (n % 4294967296)) % 4294967296)) = V at *
  have hlf : ({ c with pc := (c.pc + 4 + 4 * (n % 4294967296)) % 4294967296 }).r.length = 16 := by first | exact HLN.out | (show (List.set _ _ _).length = 16; rw [List.length_set]; exact HLN.out)
  have SZ := Lib.hid (cpuCells_size hlf (.slice A1 n1 k1) (.slice A2 n2 k2))
  have ONE := Lib.hid (cpu_one ({ c with pc := (c.pc + 4 + 4 * (n % 4294967296)) % 4294967296 }) (o := (.slice A1 n1 k1)) (i := (.slice A2 n2 k2)) rfl rfl)
  clear hlf
  generalize hC2 : cpuCells ({ c with pc := (c.pc + 4 + 4 * (n % 4294967296)) % 4294967296 }) (.slice A1 n1 k1) (.slice A2 n2 k2) = C2 at *
  have CE := Lib.hid hC2
  clear hC2
  have HC := Lib.hid FE.out.c
  have HM := Lib.hid FE.out.m
  have R1 := Lib.hid FE.out.r1
  have R2 := Lib.hid FE.out.r2
  have BV := Lib.hid FE.out.bel
  refine held_start 4 rfl (S := fun y => Whole y w.heap.size 38 C2 ∧ Whole y (w.heap.size + 1) 41 MC) (by kernel_rfl) ⟨HC.out.drew', HM.out.drew'⟩ (fun hS => ?_)
  refine wpAnyH_take (i := 0) (v := .agg C2) get0 ?_ ?_ ?_ ?_ ?_ hS ?_
  · kernel_rfl
  · kernel_rfl
  · kernel_rfl
  · exact fun _ _ _ h => h
  · exact take_load 38 (.tmp 3) rfl rfl (w.heap.size) rfl 38 C2 (fun _ h => h.1) _ Tryd.underlying38 rfl (infoCpu SZ.out)
  refine wpAnyH_take (i := 1) (v := .agg MC) get1 ?_ ?_ ?_ ?_ ?_ hS ?_
  · kernel_rfl
  · kernel_rfl
  · kernel_rfl
  · exact fun _ _ _ h => h
  · exact take_load 41 (.tmp 4) rfl rfl ((w.heap.size + 1)) rfl 41 MC (fun _ h => h.2) _ Tryd.underlying41 rfl (infoMem SM.out)
  refine held_step get2 (by kernel_rfl) (fun K hK => ?_)
  refine step_store 38 (.tmp 6) (.tmp 191) rfl rfl (w.heap.size + 1 + 1 + 1) C2 rfl rfl 38 zeros38 R1.out.drew' (infoCpu SZ.out) (by rw [SZ.out]; rfl) ONE.out ?_
  refine hK.out _ _ ⟨HC.out.drew'.only (by omega) (Only.setRow _ (w.heap.size + 1 + 1 + 1) C2), HM.out.drew'.only (by omega) (Only.setRow _ (w.heap.size + 1 + 1 + 1) C2)⟩ (fun hS2 => ?_)
  clear hK K
  refine held_step get3 (by kernel_rfl) (fun K hK => ?_)
  refine step_store 41 (.tmp 7) (.tmp 192) rfl rfl (w.heap.size + 1 + 1 + 1 + 1) MC rfl rfl 41 zeros41 (R2.out.drew'.only (by omega) (Only.setRow _ (w.heap.size + 1 + 1 + 1) C2)) (infoMem SM.out) (by rw [SM.out]; rfl) ONM.out ?_
  refine hK.out _ _ ⟨hS2.1.only (by omega) (Only.setRow _ (w.heap.size + 1 + 1 + 1 + 1) MC), hS2.2.only (by omega) (Only.setRow _ (w.heap.size + 1 + 1 + 1 + 1) MC)⟩ (fun hS3 => ?_)
  clear hK K
  refine wpAnyH_done (by kernel_rfl) ?_ _
  go_wp2_with fail
  refine bodyPost_ret (v := .tuple #[.agg C2, .agg MC]) (results_two_rows rfl _ _ (w.heap.size + 1 + 1 + 1) (w.heap.size + 1 + 1 + 1 + 1) 38 41 C2 MC _ _ rfl rfl ((R1.out.drew'.setRow C2).only (by omega) (Only.setRow _ (w.heap.size + 1 + 1 + 1 + 1) MC)) ((R2.out.drew'.only (by omega) (Only.setRow _ (w.heap.size + 1 + 1 + 1) C2)).setRow MC) Tryd.underlying38 rfl (infoCpu SZ.out) Tryd.underlying41 rfl (infoMem SM.out)) rfl ⟨by rw [CE.out], ((BV.out.drew.trans ((Only.setRow _ (w.heap.size + 1 + 1 + 1) C2).below (by omega) (by have := BV.out.size; simpa using this))).trans ((Only.setRow _ (w.heap.size + 1 + 1 + 1 + 1) MC).below (by omega) (by have := BV.out.size; simpa using this)))⟩

set_option maxHeartbeats 8000000 in
set_option maxRecDepth 100000 in
theorem refdo_23 (a b cc : Nat) (n : Int) (c : Cp) (A1 A2 : Option Addr) (n1 k1 n2 k2 : Nat) (MC : Array Value) (w : World) (ha : a < 16) (hb : b < 16) (hcc : cc < 16) (ub : 0 ≤ (c.r.getD b 0) ∧ (c.r.getD b 0) ≤ 4294967295) (uc : 0 ≤ (c.r.getD cc 0) ∧ (c.r.getD cc 0) ≤ 4294967295) (hl : c.r.length = 16) (hm : MC.size = 6) (hm1 : MC.all (·.oneCell') = true)  :
    Calls Tryd.prog 26 #[.agg (cpuCells c (.slice A1 n1 k1) (.slice A2 n2 k2)), .agg MC, .agg #[.int .i64 23, .int .i64 a, .int .i64 b, .int .i64 cc, .int .i64 n]] w fun e w' => e = .returned (.tuple #[.agg (cpuCells (jumpC { c with r := c.r.set 14 (w32 (c.pc + 4)) } n) (.slice A1 n1 k1) (.slice A2 n2 k2)), .agg MC]) ∧ Below w.heap.size w w' := by
  rw [jumpC_eq]
  have F0 := fr_made w (cpuCells c (.slice A1 n1 k1) (.slice A2 n2 k2)) MC #[.int .i64 23, .int .i64 a, .int .i64 b, .int .i64 cc, .int .i64 n]
  unfold zeros38 zeros41 at F0
  have FH := Lib.hid F0
  have haI : (a : Int) < 16 := by omega
  have hbI : (b : Int) < 16 := by omega
  have hcI : (cc : Int) < 16 := by omega
  have SM := Lib.hid hm
  have ONM := Lib.hid hm1
  have HLN := Lib.hid hl
  have qa := (F0.c.cell a).trans (cpuCells_reg hl _ _ ha)
  have qb := (F0.c.cell b).trans (cpuCells_reg hl _ _ hb)
  have GA := Lib.hid (cpuCells_reg hl (.slice A1 n1 k1) (.slice A2 n2 k2) ha)
  have GB := Lib.hid (cpuCells_reg hl (.slice A1 n1 k1) (.slice A2 n2 k2) hb)
  have GC := Lib.hid (cpuCells_reg hl (.slice A1 n1 k1) (.slice A2 n2 k2) hcc)
  clear F0 hm hm1 hl
  generalize (c.r.getD a 0) = ra at *
  generalize (c.r.getD b 0) = rb at *
  generalize (c.r.getD cc 0) = rc at *
  generalize hC0 : cpuCells c (.slice A1 n1 k1) (.slice A2 n2 k2) = C0 at *
  go_enter Tryd.func26, Tryd.ntmps26
  go_wp2_with fail
  go_quiet (fail)
  have FD := Lib.hid (FH.out.drawn nq)
  clear FH qa qb
  generalize ((((((w.alloc (.cells C0 38)).alloc (.cells MC 41)).alloc (.cells #[.int .i64 23, .int .i64 a, .int .i64 b, .int .i64 cc, .int .i64 n] 54)).alloc (.cells #[.int .u32 0, .int .u32 0, .int .u32 0, .int .u32 0, .int .u32 0, .int .u32 0, .int .u32 0, .int .u32 0, .int .u32 0, .int .u32 0, .int .u32 0, .int .u32 0, .int .u32 0, .int .u32 0, .int .u32 0, .int .u32 0, .int .u32 0, .int .u32 0, .int .u32 0, .int .i64 0, .int .i64 0, .int .i64 0, .int .i64 0, .slice none 0 0, .int .u32 0, .int .u32 0, .int .u32 0, .int .u32 0, .slice none 0 0] 38)).alloc (.cells #[.int .u32 0, .int .u32 0, .int .u32 0, .int .u32 0, .int .u32 0, .slice none 0 0] 41)).drewN nq) = W at *
  subst hC0
  have qa : W.cell? ⟨w.heap.size, a, none⟩ = some (.int .u32 ra) := (FD.out.c.cell a).trans GA.out
  have qc : W.cell? ⟨w.heap.size, cc, none⟩ = some (.int .u32 rc) := (FD.out.c.cell cc).trans GC.out
  have q14 : W.cell? ⟨w.heap.size, 14, none⟩ = some (.int .u32 (c.r.getD 14 0)) := (FD.out.c.cell 14).trans (cpuCells_reg HLN.out _ _ (by decide))
  have q16 : W.cell? ⟨w.heap.size, 16, none⟩ = some (.int .u32 c.pc) := (FD.out.c.cell 16).trans (cpuCells_pc HLN.out _ _)
  have q19 : W.cell? ⟨w.heap.size, 19, none⟩ = some (.int .i64 c.st) := (FD.out.c.cell 19).trans (cpuCells_st HLN.out _ _)
  have hf : ∀ j, W.frozen? ⟨w.heap.size, j, none⟩ = false := FD.out.c.free
  have g2 : w.heap.size + 1 + 1 ≠ w.heap.size := by omega
  have i0 : W.cell? ⟨w.heap.size + 1 + 1, 0, none⟩ = some (.int .i64 23) := FD.out.i.cell 0
  have i1 : W.cell? ⟨w.heap.size + 1 + 1, 1, none⟩ = some (.int .i64 a) := FD.out.i.cell 1
  have i4 : W.cell? ⟨w.heap.size + 1 + 1, 4, none⟩ = some (.int .i64 n) := FD.out.i.cell 4
  go_wp2_with fail
  have FE := Lib.hid (show Fr w ((W.setCell ⟨w.heap.size, 14, none⟩ (.int .u32 ((c.pc + 4) % 4294967296))).setCell ⟨w.heap.size, 16, none⟩ (.int .u32 ((c.pc + 4 + 4 * (n % 4294967296)) % 4294967296))) (cpuCells ({ c with r := c.r.set 14 (w32 (c.pc + 4)), pc := (c.pc + 4 + 4 * (n % 4294967296)) % 4294967296 }) (.slice A1 n1 k1) (.slice A2 n2 k2)) MC _ from (FD.out.setReg HLN.out (show 14 < 16 by decide) _).set_pc (by simp [HLN.out]) _)
  clear FD i0 i1 i4 qa qc q14 q16 q19 hf
  generalize (W.setCell ⟨w.heap.size, 14, none⟩ (.int .u32 ((c.pc + 4) % 4294967296))).setCell ⟨w.heap.size, 16, none⟩ (.int .u32 ((c.pc + 4 + 4 * (n % 4294967296)) % 4294967296)) = V at *
  have hlf : ({ c with r := c.r.set 14 (w32 (c.pc + 4)), pc := (c.pc + 4 + 4 * (n % 4294967296)) % 4294967296 }).r.length = 16 := by first | exact HLN.out | (show (List.set _ _ _).length = 16; rw [List.length_set]; exact HLN.out)
  have SZ := Lib.hid (cpuCells_size hlf (.slice A1 n1 k1) (.slice A2 n2 k2))
  have ONE := Lib.hid (cpu_one ({ c with r := c.r.set 14 (w32 (c.pc + 4)), pc := (c.pc + 4 + 4 * (n % 4294967296)) % 4294967296 }) (o := (.slice A1 n1 k1)) (i := (.slice A2 n2 k2)) rfl rfl)
  clear hlf
  generalize hC2 : cpuCells ({ c with r := c.r.set 14 (w32 (c.pc + 4)), pc := (c.pc + 4 + 4 * (n % 4294967296)) % 4294967296 }) (.slice A1 n1 k1) (.slice A2 n2 k2) = C2 at *
  have CE := Lib.hid hC2
  clear hC2
  have HC := Lib.hid FE.out.c
  have HM := Lib.hid FE.out.m
  have R1 := Lib.hid FE.out.r1
  have R2 := Lib.hid FE.out.r2
  have BV := Lib.hid FE.out.bel
  refine held_start 4 rfl (S := fun y => Whole y w.heap.size 38 C2 ∧ Whole y (w.heap.size + 1) 41 MC) (by kernel_rfl) ⟨HC.out.drew', HM.out.drew'⟩ (fun hS => ?_)
  refine wpAnyH_take (i := 0) (v := .agg C2) get0 ?_ ?_ ?_ ?_ ?_ hS ?_
  · kernel_rfl
  · kernel_rfl
  · kernel_rfl
  · exact fun _ _ _ h => h
  · exact take_load 38 (.tmp 3) rfl rfl (w.heap.size) rfl 38 C2 (fun _ h => h.1) _ Tryd.underlying38 rfl (infoCpu SZ.out)
  refine wpAnyH_take (i := 1) (v := .agg MC) get1 ?_ ?_ ?_ ?_ ?_ hS ?_
  · kernel_rfl
  · kernel_rfl
  · kernel_rfl
  · exact fun _ _ _ h => h
  · exact take_load 41 (.tmp 4) rfl rfl ((w.heap.size + 1)) rfl 41 MC (fun _ h => h.2) _ Tryd.underlying41 rfl (infoMem SM.out)
  refine held_step get2 (by kernel_rfl) (fun K hK => ?_)
  refine step_store 38 (.tmp 6) (.tmp 191) rfl rfl (w.heap.size + 1 + 1 + 1) C2 rfl rfl 38 zeros38 R1.out.drew' (infoCpu SZ.out) (by rw [SZ.out]; rfl) ONE.out ?_
  refine hK.out _ _ ⟨HC.out.drew'.only (by omega) (Only.setRow _ (w.heap.size + 1 + 1 + 1) C2), HM.out.drew'.only (by omega) (Only.setRow _ (w.heap.size + 1 + 1 + 1) C2)⟩ (fun hS2 => ?_)
  clear hK K
  refine held_step get3 (by kernel_rfl) (fun K hK => ?_)
  refine step_store 41 (.tmp 7) (.tmp 192) rfl rfl (w.heap.size + 1 + 1 + 1 + 1) MC rfl rfl 41 zeros41 (R2.out.drew'.only (by omega) (Only.setRow _ (w.heap.size + 1 + 1 + 1) C2)) (infoMem SM.out) (by rw [SM.out]; rfl) ONM.out ?_
  refine hK.out _ _ ⟨hS2.1.only (by omega) (Only.setRow _ (w.heap.size + 1 + 1 + 1 + 1) MC), hS2.2.only (by omega) (Only.setRow _ (w.heap.size + 1 + 1 + 1 + 1) MC)⟩ (fun hS3 => ?_)
  clear hK K
  refine wpAnyH_done (by kernel_rfl) ?_ _
  go_wp2_with fail
  refine bodyPost_ret (v := .tuple #[.agg C2, .agg MC]) (results_two_rows rfl _ _ (w.heap.size + 1 + 1 + 1) (w.heap.size + 1 + 1 + 1 + 1) 38 41 C2 MC _ _ rfl rfl ((R1.out.drew'.setRow C2).only (by omega) (Only.setRow _ (w.heap.size + 1 + 1 + 1 + 1) MC)) ((R2.out.drew'.only (by omega) (Only.setRow _ (w.heap.size + 1 + 1 + 1) C2)).setRow MC) Tryd.underlying38 rfl (infoCpu SZ.out) Tryd.underlying41 rfl (infoMem SM.out)) rfl ⟨by rw [CE.out], ((BV.out.drew.trans ((Only.setRow _ (w.heap.size + 1 + 1 + 1) C2).below (by omega) (by have := BV.out.size; simpa using this))).trans ((Only.setRow _ (w.heap.size + 1 + 1 + 1 + 1) MC).below (by omega) (by have := BV.out.size; simpa using this)))⟩

end Go.Proofs.YtinpdgjbiimgkaaDoor

/- The answers' do, by operation. -/
namespace Go.Proofs.YtinpdgjbiimgkaaDoor
open Go.ChangeShapes Go.WideShapes Go.ChangeAt Go.RowKit
set_option linter.unusedVariables false

set_option maxHeartbeats 8000000 in
set_option maxRecDepth 100000 in
theorem refdo_6 (a b cc : Nat) (n : Int) (c : Cp) (A1 A2 : Option Addr) (n1 k1 n2 k2 : Nat) (MC : Array Value) (w : World) (ha : a < 16) (hb : b < 16) (hcc : cc < 16) (ub : 0 ≤ (c.r.getD b 0) ∧ (c.r.getD b 0) ≤ 4294967295) (uc : 0 ≤ (c.r.getD cc 0) ∧ (c.r.getD cc 0) ≤ 4294967295) (hl : c.r.length = 16) (hm : MC.size = 6) (hm1 : MC.all (·.oneCell') = true)  :
    Calls Tryd.prog 26 #[.agg (cpuCells c (.slice A1 n1 k1) (.slice A2 n2 k2)), .agg MC, .agg #[.int .i64 6, .int .i64 a, .int .i64 b, .int .i64 cc, .int .i64 n]] w fun e w' => e = .returned (.tuple #[.agg (cpuCells (setC c a (alu 6 (c.r.getD b 0) (c.r.getD cc 0))) (.slice A1 n1 k1) (.slice A2 n2 k2)), .agg MC]) ∧ Below w.heap.size w w' := by
  have F0 := fr_made w (cpuCells c (.slice A1 n1 k1) (.slice A2 n2 k2)) MC #[.int .i64 6, .int .i64 a, .int .i64 b, .int .i64 cc, .int .i64 n]
  unfold zeros38 zeros41 at F0
  have FH := Lib.hid F0
  have haI : (a : Int) < 16 := by omega
  have hbI : (b : Int) < 16 := by omega
  have hcI : (cc : Int) < 16 := by omega
  have SM := Lib.hid hm
  have ONM := Lib.hid hm1
  have HLN := Lib.hid hl
  have qa := (F0.c.cell a).trans (cpuCells_reg hl _ _ ha)
  have qb := (F0.c.cell b).trans (cpuCells_reg hl _ _ hb)
  have GA := Lib.hid (cpuCells_reg hl (.slice A1 n1 k1) (.slice A2 n2 k2) ha)
  have GB := Lib.hid (cpuCells_reg hl (.slice A1 n1 k1) (.slice A2 n2 k2) hb)
  have GC := Lib.hid (cpuCells_reg hl (.slice A1 n1 k1) (.slice A2 n2 k2) hcc)
  clear F0 hm hm1 hl
  generalize (c.r.getD a 0) = ra at *
  generalize (c.r.getD b 0) = rb at *
  generalize (c.r.getD cc 0) = rc at *
  have RK := Lib.hid (fun w => reckon_6 rb rc w ub uc)
  generalize alu 6 rb rc = av at *
  generalize hC0 : cpuCells c (.slice A1 n1 k1) (.slice A2 n2 k2) = C0 at *
  go_enter Tryd.func26, Tryd.ntmps26
  go_wp2_with fail
  go_quiet (fail)
  have FD := Lib.hid (FH.out.drawn nq)
  clear FH qa qb
  generalize ((((((w.alloc (.cells C0 38)).alloc (.cells MC 41)).alloc (.cells #[.int .i64 6, .int .i64 a, .int .i64 b, .int .i64 cc, .int .i64 n] 54)).alloc (.cells #[.int .u32 0, .int .u32 0, .int .u32 0, .int .u32 0, .int .u32 0, .int .u32 0, .int .u32 0, .int .u32 0, .int .u32 0, .int .u32 0, .int .u32 0, .int .u32 0, .int .u32 0, .int .u32 0, .int .u32 0, .int .u32 0, .int .u32 0, .int .u32 0, .int .u32 0, .int .i64 0, .int .i64 0, .int .i64 0, .int .i64 0, .slice none 0 0, .int .u32 0, .int .u32 0, .int .u32 0, .int .u32 0, .slice none 0 0] 38)).alloc (.cells #[.int .u32 0, .int .u32 0, .int .u32 0, .int .u32 0, .int .u32 0, .slice none 0 0] 41)).drewN nq) = W at *
  subst hC0
  have qa : W.cell? ⟨w.heap.size, a, none⟩ = some (.int .u32 ra) := (FD.out.c.cell a).trans GA.out
  have qc : W.cell? ⟨w.heap.size, cc, none⟩ = some (.int .u32 rc) := (FD.out.c.cell cc).trans GC.out
  have q14 : W.cell? ⟨w.heap.size, 14, none⟩ = some (.int .u32 (c.r.getD 14 0)) := (FD.out.c.cell 14).trans (cpuCells_reg HLN.out _ _ (by decide))
  have q16 : W.cell? ⟨w.heap.size, 16, none⟩ = some (.int .u32 c.pc) := (FD.out.c.cell 16).trans (cpuCells_pc HLN.out _ _)
  have q19 : W.cell? ⟨w.heap.size, 19, none⟩ = some (.int .i64 c.st) := (FD.out.c.cell 19).trans (cpuCells_st HLN.out _ _)
  have hf : ∀ j, W.frozen? ⟨w.heap.size, j, none⟩ = false := FD.out.c.free
  have g2 : w.heap.size + 1 + 1 ≠ w.heap.size := by omega
  have i0 : W.cell? ⟨w.heap.size + 1 + 1, 0, none⟩ = some (.int .i64 6) := FD.out.i.cell 0
  have i1 : W.cell? ⟨w.heap.size + 1 + 1, 1, none⟩ = some (.int .i64 a) := FD.out.i.cell 1
  have i3 : W.cell? ⟨w.heap.size + 1 + 1, 3, none⟩ = some (.int .i64 cc) := FD.out.i.cell 3
  have i4 : W.cell? ⟨w.heap.size + 1 + 1, 4, none⟩ = some (.int .i64 n) := FD.out.i.cell 4
  go_wp2_with fail
  go_quiet (first | (go_at_call 44; refine Calls.quiet_of_same ((RK.out _).mono (fun _ _ h => ⟨h.1, h.2.symm⟩))))
  have FD := Lib.hid (FD.out.drawn nq)
  clear i0 i1 i3 i4 qa qc q14 q16 q19 hf
  generalize hW2 : W.drewN nq = X at *
  clear hW2
  have i1 : X.cell? ⟨w.heap.size + 1 + 1, 1, none⟩ = some (.int .i64 a) := FD.out.i.cell 1
  have qa : X.cell? ⟨w.heap.size, a, none⟩ = some (.int .u32 ra) := (FD.out.c.cell a).trans GA.out
  have q16 : X.cell? ⟨w.heap.size, 16, none⟩ = some (.int .u32 c.pc) := (FD.out.c.cell 16).trans (cpuCells_pc HLN.out _ _)
  have hf : ∀ j, X.frozen? ⟨w.heap.size, j, none⟩ = false := FD.out.c.free
  go_wp2_with fail
  have FE := Lib.hid (show Fr w ((X.setCell ⟨w.heap.size, a, none⟩ (.int .u32 (av))).setCell ⟨w.heap.size, 16, none⟩ (.int .u32 ((c.pc + 4) % 4294967296))) (cpuCells (setC c a (av)) (.slice A1 n1 k1) (.slice A2 n2 k2)) MC _ from (FD.out.setReg HLN.out ha _).set_pc (by simp [HLN.out]) _)
  clear FD i1 qa q16 hf
  generalize (X.setCell ⟨w.heap.size, a, none⟩ (.int .u32 (av))).setCell ⟨w.heap.size, 16, none⟩ (.int .u32 ((c.pc + 4) % 4294967296)) = V at *
  have hlf : (setC c a (av)).r.length = 16 := by first | exact HLN.out | (show (List.set _ _ _).length = 16; rw [List.length_set]; exact HLN.out)
  have SZ := Lib.hid (cpuCells_size hlf (.slice A1 n1 k1) (.slice A2 n2 k2))
  have ONE := Lib.hid (cpu_one (setC c a (av)) (o := (.slice A1 n1 k1)) (i := (.slice A2 n2 k2)) rfl rfl)
  clear hlf
  generalize hC2 : cpuCells (setC c a (av)) (.slice A1 n1 k1) (.slice A2 n2 k2) = C2 at *
  have CE := Lib.hid hC2
  clear hC2
  have HC := Lib.hid FE.out.c
  have HM := Lib.hid FE.out.m
  have R1 := Lib.hid FE.out.r1
  have R2 := Lib.hid FE.out.r2
  have BV := Lib.hid FE.out.bel
  refine held_start 4 rfl (S := fun y => Whole y w.heap.size 38 C2 ∧ Whole y (w.heap.size + 1) 41 MC) (by kernel_rfl) ⟨HC.out.drew', HM.out.drew'⟩ (fun hS => ?_)
  refine wpAnyH_take (i := 0) (v := .agg C2) get0 ?_ ?_ ?_ ?_ ?_ hS ?_
  · kernel_rfl
  · kernel_rfl
  · kernel_rfl
  · exact fun _ _ _ h => h
  · exact take_load 38 (.tmp 3) rfl rfl (w.heap.size) rfl 38 C2 (fun _ h => h.1) _ Tryd.underlying38 rfl (infoCpu SZ.out)
  refine wpAnyH_take (i := 1) (v := .agg MC) get1 ?_ ?_ ?_ ?_ ?_ hS ?_
  · kernel_rfl
  · kernel_rfl
  · kernel_rfl
  · exact fun _ _ _ h => h
  · exact take_load 41 (.tmp 4) rfl rfl ((w.heap.size + 1)) rfl 41 MC (fun _ h => h.2) _ Tryd.underlying41 rfl (infoMem SM.out)
  refine held_step get2 (by kernel_rfl) (fun K hK => ?_)
  refine step_store 38 (.tmp 6) (.tmp 74) rfl rfl (w.heap.size + 1 + 1 + 1) C2 rfl rfl 38 zeros38 R1.out.drew' (infoCpu SZ.out) (by rw [SZ.out]; rfl) ONE.out ?_
  refine hK.out _ _ ⟨HC.out.drew'.only (by omega) (Only.setRow _ (w.heap.size + 1 + 1 + 1) C2), HM.out.drew'.only (by omega) (Only.setRow _ (w.heap.size + 1 + 1 + 1) C2)⟩ (fun hS2 => ?_)
  clear hK K
  refine held_step get3 (by kernel_rfl) (fun K hK => ?_)
  refine step_store 41 (.tmp 7) (.tmp 75) rfl rfl (w.heap.size + 1 + 1 + 1 + 1) MC rfl rfl 41 zeros41 (R2.out.drew'.only (by omega) (Only.setRow _ (w.heap.size + 1 + 1 + 1) C2)) (infoMem SM.out) (by rw [SM.out]; rfl) ONM.out ?_
  refine hK.out _ _ ⟨hS2.1.only (by omega) (Only.setRow _ (w.heap.size + 1 + 1 + 1 + 1) MC), hS2.2.only (by omega) (Only.setRow _ (w.heap.size + 1 + 1 + 1 + 1) MC)⟩ (fun hS3 => ?_)
  clear hK K
  refine wpAnyH_done (by kernel_rfl) ?_ _
  go_wp2_with fail
  refine bodyPost_ret (v := .tuple #[.agg C2, .agg MC]) (results_two_rows rfl _ _ (w.heap.size + 1 + 1 + 1) (w.heap.size + 1 + 1 + 1 + 1) 38 41 C2 MC _ _ rfl rfl ((R1.out.drew'.setRow C2).only (by omega) (Only.setRow _ (w.heap.size + 1 + 1 + 1 + 1) MC)) ((R2.out.drew'.only (by omega) (Only.setRow _ (w.heap.size + 1 + 1 + 1) C2)).setRow MC) Tryd.underlying38 rfl (infoCpu SZ.out) Tryd.underlying41 rfl (infoMem SM.out)) rfl ⟨by rw [CE.out], ((BV.out.drew.trans ((Only.setRow _ (w.heap.size + 1 + 1 + 1) C2).below (by omega) (by have := BV.out.size; simpa using this))).trans ((Only.setRow _ (w.heap.size + 1 + 1 + 1 + 1) MC).below (by omega) (by have := BV.out.size; simpa using this)))⟩

set_option maxHeartbeats 8000000 in
set_option maxRecDepth 100000 in
theorem refdo_7 (a b cc : Nat) (n : Int) (c : Cp) (A1 A2 : Option Addr) (n1 k1 n2 k2 : Nat) (MC : Array Value) (w : World) (ha : a < 16) (hb : b < 16) (hcc : cc < 16) (ub : 0 ≤ (c.r.getD b 0) ∧ (c.r.getD b 0) ≤ 4294967295) (uc : 0 ≤ (c.r.getD cc 0) ∧ (c.r.getD cc 0) ≤ 4294967295) (hl : c.r.length = 16) (hm : MC.size = 6) (hm1 : MC.all (·.oneCell') = true)  :
    Calls Tryd.prog 26 #[.agg (cpuCells c (.slice A1 n1 k1) (.slice A2 n2 k2)), .agg MC, .agg #[.int .i64 7, .int .i64 a, .int .i64 b, .int .i64 cc, .int .i64 n]] w fun e w' => e = .returned (.tuple #[.agg (cpuCells (setC c a (alu 7 (c.r.getD b 0) (c.r.getD cc 0))) (.slice A1 n1 k1) (.slice A2 n2 k2)), .agg MC]) ∧ Below w.heap.size w w' := by
  have F0 := fr_made w (cpuCells c (.slice A1 n1 k1) (.slice A2 n2 k2)) MC #[.int .i64 7, .int .i64 a, .int .i64 b, .int .i64 cc, .int .i64 n]
  unfold zeros38 zeros41 at F0
  have FH := Lib.hid F0
  have haI : (a : Int) < 16 := by omega
  have hbI : (b : Int) < 16 := by omega
  have hcI : (cc : Int) < 16 := by omega
  have SM := Lib.hid hm
  have ONM := Lib.hid hm1
  have HLN := Lib.hid hl
  have qa := (F0.c.cell a).trans (cpuCells_reg hl _ _ ha)
  have qb := (F0.c.cell b).trans (cpuCells_reg hl _ _ hb)
  have GA := Lib.hid (cpuCells_reg hl (.slice A1 n1 k1) (.slice A2 n2 k2) ha)
  have GB := Lib.hid (cpuCells_reg hl (.slice A1 n1 k1) (.slice A2 n2 k2) hb)
  have GC := Lib.hid (cpuCells_reg hl (.slice A1 n1 k1) (.slice A2 n2 k2) hcc)
  clear F0 hm hm1 hl
  generalize (c.r.getD a 0) = ra at *
  generalize (c.r.getD b 0) = rb at *
  generalize (c.r.getD cc 0) = rc at *
  have RK := Lib.hid (fun w => reckon_7 rb rc w ub uc)
  generalize alu 7 rb rc = av at *
  generalize hC0 : cpuCells c (.slice A1 n1 k1) (.slice A2 n2 k2) = C0 at *
  go_enter Tryd.func26, Tryd.ntmps26
  go_wp2_with fail
  go_quiet (fail)
  have FD := Lib.hid (FH.out.drawn nq)
  clear FH qa qb
  generalize ((((((w.alloc (.cells C0 38)).alloc (.cells MC 41)).alloc (.cells #[.int .i64 7, .int .i64 a, .int .i64 b, .int .i64 cc, .int .i64 n] 54)).alloc (.cells #[.int .u32 0, .int .u32 0, .int .u32 0, .int .u32 0, .int .u32 0, .int .u32 0, .int .u32 0, .int .u32 0, .int .u32 0, .int .u32 0, .int .u32 0, .int .u32 0, .int .u32 0, .int .u32 0, .int .u32 0, .int .u32 0, .int .u32 0, .int .u32 0, .int .u32 0, .int .i64 0, .int .i64 0, .int .i64 0, .int .i64 0, .slice none 0 0, .int .u32 0, .int .u32 0, .int .u32 0, .int .u32 0, .slice none 0 0] 38)).alloc (.cells #[.int .u32 0, .int .u32 0, .int .u32 0, .int .u32 0, .int .u32 0, .slice none 0 0] 41)).drewN nq) = W at *
  subst hC0
  have qa : W.cell? ⟨w.heap.size, a, none⟩ = some (.int .u32 ra) := (FD.out.c.cell a).trans GA.out
  have qc : W.cell? ⟨w.heap.size, cc, none⟩ = some (.int .u32 rc) := (FD.out.c.cell cc).trans GC.out
  have q14 : W.cell? ⟨w.heap.size, 14, none⟩ = some (.int .u32 (c.r.getD 14 0)) := (FD.out.c.cell 14).trans (cpuCells_reg HLN.out _ _ (by decide))
  have q16 : W.cell? ⟨w.heap.size, 16, none⟩ = some (.int .u32 c.pc) := (FD.out.c.cell 16).trans (cpuCells_pc HLN.out _ _)
  have q19 : W.cell? ⟨w.heap.size, 19, none⟩ = some (.int .i64 c.st) := (FD.out.c.cell 19).trans (cpuCells_st HLN.out _ _)
  have hf : ∀ j, W.frozen? ⟨w.heap.size, j, none⟩ = false := FD.out.c.free
  have g2 : w.heap.size + 1 + 1 ≠ w.heap.size := by omega
  have i0 : W.cell? ⟨w.heap.size + 1 + 1, 0, none⟩ = some (.int .i64 7) := FD.out.i.cell 0
  have i1 : W.cell? ⟨w.heap.size + 1 + 1, 1, none⟩ = some (.int .i64 a) := FD.out.i.cell 1
  have i3 : W.cell? ⟨w.heap.size + 1 + 1, 3, none⟩ = some (.int .i64 cc) := FD.out.i.cell 3
  have i4 : W.cell? ⟨w.heap.size + 1 + 1, 4, none⟩ = some (.int .i64 n) := FD.out.i.cell 4
  go_wp2_with fail
  go_quiet (first | (go_at_call 44; refine Calls.quiet_of_same ((RK.out _).mono (fun _ _ h => ⟨h.1, h.2.symm⟩))))
  have FD := Lib.hid (FD.out.drawn nq)
  clear i0 i1 i3 i4 qa qc q14 q16 q19 hf
  generalize hW2 : W.drewN nq = X at *
  clear hW2
  have i1 : X.cell? ⟨w.heap.size + 1 + 1, 1, none⟩ = some (.int .i64 a) := FD.out.i.cell 1
  have qa : X.cell? ⟨w.heap.size, a, none⟩ = some (.int .u32 ra) := (FD.out.c.cell a).trans GA.out
  have q16 : X.cell? ⟨w.heap.size, 16, none⟩ = some (.int .u32 c.pc) := (FD.out.c.cell 16).trans (cpuCells_pc HLN.out _ _)
  have hf : ∀ j, X.frozen? ⟨w.heap.size, j, none⟩ = false := FD.out.c.free
  go_wp2_with fail
  have FE := Lib.hid (show Fr w ((X.setCell ⟨w.heap.size, a, none⟩ (.int .u32 (av))).setCell ⟨w.heap.size, 16, none⟩ (.int .u32 ((c.pc + 4) % 4294967296))) (cpuCells (setC c a (av)) (.slice A1 n1 k1) (.slice A2 n2 k2)) MC _ from (FD.out.setReg HLN.out ha _).set_pc (by simp [HLN.out]) _)
  clear FD i1 qa q16 hf
  generalize (X.setCell ⟨w.heap.size, a, none⟩ (.int .u32 (av))).setCell ⟨w.heap.size, 16, none⟩ (.int .u32 ((c.pc + 4) % 4294967296)) = V at *
  have hlf : (setC c a (av)).r.length = 16 := by first | exact HLN.out | (show (List.set _ _ _).length = 16; rw [List.length_set]; exact HLN.out)
  have SZ := Lib.hid (cpuCells_size hlf (.slice A1 n1 k1) (.slice A2 n2 k2))
  have ONE := Lib.hid (cpu_one (setC c a (av)) (o := (.slice A1 n1 k1)) (i := (.slice A2 n2 k2)) rfl rfl)
  clear hlf
  generalize hC2 : cpuCells (setC c a (av)) (.slice A1 n1 k1) (.slice A2 n2 k2) = C2 at *
  have CE := Lib.hid hC2
  clear hC2
  have HC := Lib.hid FE.out.c
  have HM := Lib.hid FE.out.m
  have R1 := Lib.hid FE.out.r1
  have R2 := Lib.hid FE.out.r2
  have BV := Lib.hid FE.out.bel
  refine held_start 4 rfl (S := fun y => Whole y w.heap.size 38 C2 ∧ Whole y (w.heap.size + 1) 41 MC) (by kernel_rfl) ⟨HC.out.drew', HM.out.drew'⟩ (fun hS => ?_)
  refine wpAnyH_take (i := 0) (v := .agg C2) get0 ?_ ?_ ?_ ?_ ?_ hS ?_
  · kernel_rfl
  · kernel_rfl
  · kernel_rfl
  · exact fun _ _ _ h => h
  · exact take_load 38 (.tmp 3) rfl rfl (w.heap.size) rfl 38 C2 (fun _ h => h.1) _ Tryd.underlying38 rfl (infoCpu SZ.out)
  refine wpAnyH_take (i := 1) (v := .agg MC) get1 ?_ ?_ ?_ ?_ ?_ hS ?_
  · kernel_rfl
  · kernel_rfl
  · kernel_rfl
  · exact fun _ _ _ h => h
  · exact take_load 41 (.tmp 4) rfl rfl ((w.heap.size + 1)) rfl 41 MC (fun _ h => h.2) _ Tryd.underlying41 rfl (infoMem SM.out)
  refine held_step get2 (by kernel_rfl) (fun K hK => ?_)
  refine step_store 38 (.tmp 6) (.tmp 74) rfl rfl (w.heap.size + 1 + 1 + 1) C2 rfl rfl 38 zeros38 R1.out.drew' (infoCpu SZ.out) (by rw [SZ.out]; rfl) ONE.out ?_
  refine hK.out _ _ ⟨HC.out.drew'.only (by omega) (Only.setRow _ (w.heap.size + 1 + 1 + 1) C2), HM.out.drew'.only (by omega) (Only.setRow _ (w.heap.size + 1 + 1 + 1) C2)⟩ (fun hS2 => ?_)
  clear hK K
  refine held_step get3 (by kernel_rfl) (fun K hK => ?_)
  refine step_store 41 (.tmp 7) (.tmp 75) rfl rfl (w.heap.size + 1 + 1 + 1 + 1) MC rfl rfl 41 zeros41 (R2.out.drew'.only (by omega) (Only.setRow _ (w.heap.size + 1 + 1 + 1) C2)) (infoMem SM.out) (by rw [SM.out]; rfl) ONM.out ?_
  refine hK.out _ _ ⟨hS2.1.only (by omega) (Only.setRow _ (w.heap.size + 1 + 1 + 1 + 1) MC), hS2.2.only (by omega) (Only.setRow _ (w.heap.size + 1 + 1 + 1 + 1) MC)⟩ (fun hS3 => ?_)
  clear hK K
  refine wpAnyH_done (by kernel_rfl) ?_ _
  go_wp2_with fail
  refine bodyPost_ret (v := .tuple #[.agg C2, .agg MC]) (results_two_rows rfl _ _ (w.heap.size + 1 + 1 + 1) (w.heap.size + 1 + 1 + 1 + 1) 38 41 C2 MC _ _ rfl rfl ((R1.out.drew'.setRow C2).only (by omega) (Only.setRow _ (w.heap.size + 1 + 1 + 1 + 1) MC)) ((R2.out.drew'.only (by omega) (Only.setRow _ (w.heap.size + 1 + 1 + 1) C2)).setRow MC) Tryd.underlying38 rfl (infoCpu SZ.out) Tryd.underlying41 rfl (infoMem SM.out)) rfl ⟨by rw [CE.out], ((BV.out.drew.trans ((Only.setRow _ (w.heap.size + 1 + 1 + 1) C2).below (by omega) (by have := BV.out.size; simpa using this))).trans ((Only.setRow _ (w.heap.size + 1 + 1 + 1 + 1) MC).below (by omega) (by have := BV.out.size; simpa using this)))⟩

set_option maxHeartbeats 8000000 in
set_option maxRecDepth 100000 in
theorem refdo_8 (a b cc : Nat) (n : Int) (c : Cp) (A1 A2 : Option Addr) (n1 k1 n2 k2 : Nat) (MC : Array Value) (w : World) (ha : a < 16) (hb : b < 16) (hcc : cc < 16) (ub : 0 ≤ (c.r.getD b 0) ∧ (c.r.getD b 0) ≤ 4294967295) (uc : 0 ≤ (c.r.getD cc 0) ∧ (c.r.getD cc 0) ≤ 4294967295) (hl : c.r.length = 16) (hm : MC.size = 6) (hm1 : MC.all (·.oneCell') = true)  :
    Calls Tryd.prog 26 #[.agg (cpuCells c (.slice A1 n1 k1) (.slice A2 n2 k2)), .agg MC, .agg #[.int .i64 8, .int .i64 a, .int .i64 b, .int .i64 cc, .int .i64 n]] w fun e w' => e = .returned (.tuple #[.agg (cpuCells (setC c a (alu 8 (c.r.getD b 0) (c.r.getD cc 0))) (.slice A1 n1 k1) (.slice A2 n2 k2)), .agg MC]) ∧ Below w.heap.size w w' := by
  have F0 := fr_made w (cpuCells c (.slice A1 n1 k1) (.slice A2 n2 k2)) MC #[.int .i64 8, .int .i64 a, .int .i64 b, .int .i64 cc, .int .i64 n]
  unfold zeros38 zeros41 at F0
  have FH := Lib.hid F0
  have haI : (a : Int) < 16 := by omega
  have hbI : (b : Int) < 16 := by omega
  have hcI : (cc : Int) < 16 := by omega
  have SM := Lib.hid hm
  have ONM := Lib.hid hm1
  have HLN := Lib.hid hl
  have qa := (F0.c.cell a).trans (cpuCells_reg hl _ _ ha)
  have qb := (F0.c.cell b).trans (cpuCells_reg hl _ _ hb)
  have GA := Lib.hid (cpuCells_reg hl (.slice A1 n1 k1) (.slice A2 n2 k2) ha)
  have GB := Lib.hid (cpuCells_reg hl (.slice A1 n1 k1) (.slice A2 n2 k2) hb)
  have GC := Lib.hid (cpuCells_reg hl (.slice A1 n1 k1) (.slice A2 n2 k2) hcc)
  clear F0 hm hm1 hl
  generalize (c.r.getD a 0) = ra at *
  generalize (c.r.getD b 0) = rb at *
  generalize (c.r.getD cc 0) = rc at *
  have RK := Lib.hid (fun w => reckon_8 rb rc w ub uc)
  generalize alu 8 rb rc = av at *
  generalize hC0 : cpuCells c (.slice A1 n1 k1) (.slice A2 n2 k2) = C0 at *
  go_enter Tryd.func26, Tryd.ntmps26
  go_wp2_with fail
  go_quiet (fail)
  have FD := Lib.hid (FH.out.drawn nq)
  clear FH qa qb
  generalize ((((((w.alloc (.cells C0 38)).alloc (.cells MC 41)).alloc (.cells #[.int .i64 8, .int .i64 a, .int .i64 b, .int .i64 cc, .int .i64 n] 54)).alloc (.cells #[.int .u32 0, .int .u32 0, .int .u32 0, .int .u32 0, .int .u32 0, .int .u32 0, .int .u32 0, .int .u32 0, .int .u32 0, .int .u32 0, .int .u32 0, .int .u32 0, .int .u32 0, .int .u32 0, .int .u32 0, .int .u32 0, .int .u32 0, .int .u32 0, .int .u32 0, .int .i64 0, .int .i64 0, .int .i64 0, .int .i64 0, .slice none 0 0, .int .u32 0, .int .u32 0, .int .u32 0, .int .u32 0, .slice none 0 0] 38)).alloc (.cells #[.int .u32 0, .int .u32 0, .int .u32 0, .int .u32 0, .int .u32 0, .slice none 0 0] 41)).drewN nq) = W at *
  subst hC0
  have qa : W.cell? ⟨w.heap.size, a, none⟩ = some (.int .u32 ra) := (FD.out.c.cell a).trans GA.out
  have qc : W.cell? ⟨w.heap.size, cc, none⟩ = some (.int .u32 rc) := (FD.out.c.cell cc).trans GC.out
  have q14 : W.cell? ⟨w.heap.size, 14, none⟩ = some (.int .u32 (c.r.getD 14 0)) := (FD.out.c.cell 14).trans (cpuCells_reg HLN.out _ _ (by decide))
  have q16 : W.cell? ⟨w.heap.size, 16, none⟩ = some (.int .u32 c.pc) := (FD.out.c.cell 16).trans (cpuCells_pc HLN.out _ _)
  have q19 : W.cell? ⟨w.heap.size, 19, none⟩ = some (.int .i64 c.st) := (FD.out.c.cell 19).trans (cpuCells_st HLN.out _ _)
  have hf : ∀ j, W.frozen? ⟨w.heap.size, j, none⟩ = false := FD.out.c.free
  have g2 : w.heap.size + 1 + 1 ≠ w.heap.size := by omega
  have i0 : W.cell? ⟨w.heap.size + 1 + 1, 0, none⟩ = some (.int .i64 8) := FD.out.i.cell 0
  have i1 : W.cell? ⟨w.heap.size + 1 + 1, 1, none⟩ = some (.int .i64 a) := FD.out.i.cell 1
  have i3 : W.cell? ⟨w.heap.size + 1 + 1, 3, none⟩ = some (.int .i64 cc) := FD.out.i.cell 3
  have i4 : W.cell? ⟨w.heap.size + 1 + 1, 4, none⟩ = some (.int .i64 n) := FD.out.i.cell 4
  go_wp2_with fail
  go_quiet (first | (go_at_call 44; refine Calls.quiet_of_same ((RK.out _).mono (fun _ _ h => ⟨h.1, h.2.symm⟩))))
  have FD := Lib.hid (FD.out.drawn nq)
  clear i0 i1 i3 i4 qa qc q14 q16 q19 hf
  generalize hW2 : W.drewN nq = X at *
  clear hW2
  have i1 : X.cell? ⟨w.heap.size + 1 + 1, 1, none⟩ = some (.int .i64 a) := FD.out.i.cell 1
  have qa : X.cell? ⟨w.heap.size, a, none⟩ = some (.int .u32 ra) := (FD.out.c.cell a).trans GA.out
  have q16 : X.cell? ⟨w.heap.size, 16, none⟩ = some (.int .u32 c.pc) := (FD.out.c.cell 16).trans (cpuCells_pc HLN.out _ _)
  have hf : ∀ j, X.frozen? ⟨w.heap.size, j, none⟩ = false := FD.out.c.free
  go_wp2_with fail
  have FE := Lib.hid (show Fr w ((X.setCell ⟨w.heap.size, a, none⟩ (.int .u32 (av))).setCell ⟨w.heap.size, 16, none⟩ (.int .u32 ((c.pc + 4) % 4294967296))) (cpuCells (setC c a (av)) (.slice A1 n1 k1) (.slice A2 n2 k2)) MC _ from (FD.out.setReg HLN.out ha _).set_pc (by simp [HLN.out]) _)
  clear FD i1 qa q16 hf
  generalize (X.setCell ⟨w.heap.size, a, none⟩ (.int .u32 (av))).setCell ⟨w.heap.size, 16, none⟩ (.int .u32 ((c.pc + 4) % 4294967296)) = V at *
  have hlf : (setC c a (av)).r.length = 16 := by first | exact HLN.out | (show (List.set _ _ _).length = 16; rw [List.length_set]; exact HLN.out)
  have SZ := Lib.hid (cpuCells_size hlf (.slice A1 n1 k1) (.slice A2 n2 k2))
  have ONE := Lib.hid (cpu_one (setC c a (av)) (o := (.slice A1 n1 k1)) (i := (.slice A2 n2 k2)) rfl rfl)
  clear hlf
  generalize hC2 : cpuCells (setC c a (av)) (.slice A1 n1 k1) (.slice A2 n2 k2) = C2 at *
  have CE := Lib.hid hC2
  clear hC2
  have HC := Lib.hid FE.out.c
  have HM := Lib.hid FE.out.m
  have R1 := Lib.hid FE.out.r1
  have R2 := Lib.hid FE.out.r2
  have BV := Lib.hid FE.out.bel
  refine held_start 4 rfl (S := fun y => Whole y w.heap.size 38 C2 ∧ Whole y (w.heap.size + 1) 41 MC) (by kernel_rfl) ⟨HC.out.drew', HM.out.drew'⟩ (fun hS => ?_)
  refine wpAnyH_take (i := 0) (v := .agg C2) get0 ?_ ?_ ?_ ?_ ?_ hS ?_
  · kernel_rfl
  · kernel_rfl
  · kernel_rfl
  · exact fun _ _ _ h => h
  · exact take_load 38 (.tmp 3) rfl rfl (w.heap.size) rfl 38 C2 (fun _ h => h.1) _ Tryd.underlying38 rfl (infoCpu SZ.out)
  refine wpAnyH_take (i := 1) (v := .agg MC) get1 ?_ ?_ ?_ ?_ ?_ hS ?_
  · kernel_rfl
  · kernel_rfl
  · kernel_rfl
  · exact fun _ _ _ h => h
  · exact take_load 41 (.tmp 4) rfl rfl ((w.heap.size + 1)) rfl 41 MC (fun _ h => h.2) _ Tryd.underlying41 rfl (infoMem SM.out)
  refine held_step get2 (by kernel_rfl) (fun K hK => ?_)
  refine step_store 38 (.tmp 6) (.tmp 74) rfl rfl (w.heap.size + 1 + 1 + 1) C2 rfl rfl 38 zeros38 R1.out.drew' (infoCpu SZ.out) (by rw [SZ.out]; rfl) ONE.out ?_
  refine hK.out _ _ ⟨HC.out.drew'.only (by omega) (Only.setRow _ (w.heap.size + 1 + 1 + 1) C2), HM.out.drew'.only (by omega) (Only.setRow _ (w.heap.size + 1 + 1 + 1) C2)⟩ (fun hS2 => ?_)
  clear hK K
  refine held_step get3 (by kernel_rfl) (fun K hK => ?_)
  refine step_store 41 (.tmp 7) (.tmp 75) rfl rfl (w.heap.size + 1 + 1 + 1 + 1) MC rfl rfl 41 zeros41 (R2.out.drew'.only (by omega) (Only.setRow _ (w.heap.size + 1 + 1 + 1) C2)) (infoMem SM.out) (by rw [SM.out]; rfl) ONM.out ?_
  refine hK.out _ _ ⟨hS2.1.only (by omega) (Only.setRow _ (w.heap.size + 1 + 1 + 1 + 1) MC), hS2.2.only (by omega) (Only.setRow _ (w.heap.size + 1 + 1 + 1 + 1) MC)⟩ (fun hS3 => ?_)
  clear hK K
  refine wpAnyH_done (by kernel_rfl) ?_ _
  go_wp2_with fail
  refine bodyPost_ret (v := .tuple #[.agg C2, .agg MC]) (results_two_rows rfl _ _ (w.heap.size + 1 + 1 + 1) (w.heap.size + 1 + 1 + 1 + 1) 38 41 C2 MC _ _ rfl rfl ((R1.out.drew'.setRow C2).only (by omega) (Only.setRow _ (w.heap.size + 1 + 1 + 1 + 1) MC)) ((R2.out.drew'.only (by omega) (Only.setRow _ (w.heap.size + 1 + 1 + 1) C2)).setRow MC) Tryd.underlying38 rfl (infoCpu SZ.out) Tryd.underlying41 rfl (infoMem SM.out)) rfl ⟨by rw [CE.out], ((BV.out.drew.trans ((Only.setRow _ (w.heap.size + 1 + 1 + 1) C2).below (by omega) (by have := BV.out.size; simpa using this))).trans ((Only.setRow _ (w.heap.size + 1 + 1 + 1 + 1) MC).below (by omega) (by have := BV.out.size; simpa using this)))⟩

set_option maxHeartbeats 8000000 in
set_option maxRecDepth 100000 in
theorem refdo_11 (a b cc : Nat) (n : Int) (c : Cp) (A1 A2 : Option Addr) (n1 k1 n2 k2 : Nat) (MC : Array Value) (w : World) (ha : a < 16) (hb : b < 16) (hcc : cc < 16) (ub : 0 ≤ (c.r.getD b 0) ∧ (c.r.getD b 0) ≤ 4294967295) (uc : 0 ≤ (c.r.getD cc 0) ∧ (c.r.getD cc 0) ≤ 4294967295) (hl : c.r.length = 16) (hm : MC.size = 6) (hm1 : MC.all (·.oneCell') = true)  :
    Calls Tryd.prog 26 #[.agg (cpuCells c (.slice A1 n1 k1) (.slice A2 n2 k2)), .agg MC, .agg #[.int .i64 11, .int .i64 a, .int .i64 b, .int .i64 cc, .int .i64 n]] w fun e w' => e = .returned (.tuple #[.agg (cpuCells (setC c a (alu 11 (c.r.getD b 0) (c.r.getD cc 0))) (.slice A1 n1 k1) (.slice A2 n2 k2)), .agg MC]) ∧ Below w.heap.size w w' := by
  have F0 := fr_made w (cpuCells c (.slice A1 n1 k1) (.slice A2 n2 k2)) MC #[.int .i64 11, .int .i64 a, .int .i64 b, .int .i64 cc, .int .i64 n]
  unfold zeros38 zeros41 at F0
  have FH := Lib.hid F0
  have haI : (a : Int) < 16 := by omega
  have hbI : (b : Int) < 16 := by omega
  have hcI : (cc : Int) < 16 := by omega
  have SM := Lib.hid hm
  have ONM := Lib.hid hm1
  have HLN := Lib.hid hl
  have qa := (F0.c.cell a).trans (cpuCells_reg hl _ _ ha)
  have qb := (F0.c.cell b).trans (cpuCells_reg hl _ _ hb)
  have GA := Lib.hid (cpuCells_reg hl (.slice A1 n1 k1) (.slice A2 n2 k2) ha)
  have GB := Lib.hid (cpuCells_reg hl (.slice A1 n1 k1) (.slice A2 n2 k2) hb)
  have GC := Lib.hid (cpuCells_reg hl (.slice A1 n1 k1) (.slice A2 n2 k2) hcc)
  clear F0 hm hm1 hl
  generalize (c.r.getD a 0) = ra at *
  generalize (c.r.getD b 0) = rb at *
  generalize (c.r.getD cc 0) = rc at *
  have RK := Lib.hid (fun w => reckon_11 rb rc w ub uc)
  generalize alu 11 rb rc = av at *
  generalize hC0 : cpuCells c (.slice A1 n1 k1) (.slice A2 n2 k2) = C0 at *
  go_enter Tryd.func26, Tryd.ntmps26
  go_wp2_with fail
  go_quiet (fail)
  have FD := Lib.hid (FH.out.drawn nq)
  clear FH qa qb
  generalize ((((((w.alloc (.cells C0 38)).alloc (.cells MC 41)).alloc (.cells #[.int .i64 11, .int .i64 a, .int .i64 b, .int .i64 cc, .int .i64 n] 54)).alloc (.cells #[.int .u32 0, .int .u32 0, .int .u32 0, .int .u32 0, .int .u32 0, .int .u32 0, .int .u32 0, .int .u32 0, .int .u32 0, .int .u32 0, .int .u32 0, .int .u32 0, .int .u32 0, .int .u32 0, .int .u32 0, .int .u32 0, .int .u32 0, .int .u32 0, .int .u32 0, .int .i64 0, .int .i64 0, .int .i64 0, .int .i64 0, .slice none 0 0, .int .u32 0, .int .u32 0, .int .u32 0, .int .u32 0, .slice none 0 0] 38)).alloc (.cells #[.int .u32 0, .int .u32 0, .int .u32 0, .int .u32 0, .int .u32 0, .slice none 0 0] 41)).drewN nq) = W at *
  subst hC0
  have qa : W.cell? ⟨w.heap.size, a, none⟩ = some (.int .u32 ra) := (FD.out.c.cell a).trans GA.out
  have qc : W.cell? ⟨w.heap.size, cc, none⟩ = some (.int .u32 rc) := (FD.out.c.cell cc).trans GC.out
  have q14 : W.cell? ⟨w.heap.size, 14, none⟩ = some (.int .u32 (c.r.getD 14 0)) := (FD.out.c.cell 14).trans (cpuCells_reg HLN.out _ _ (by decide))
  have q16 : W.cell? ⟨w.heap.size, 16, none⟩ = some (.int .u32 c.pc) := (FD.out.c.cell 16).trans (cpuCells_pc HLN.out _ _)
  have q19 : W.cell? ⟨w.heap.size, 19, none⟩ = some (.int .i64 c.st) := (FD.out.c.cell 19).trans (cpuCells_st HLN.out _ _)
  have hf : ∀ j, W.frozen? ⟨w.heap.size, j, none⟩ = false := FD.out.c.free
  have g2 : w.heap.size + 1 + 1 ≠ w.heap.size := by omega
  have i0 : W.cell? ⟨w.heap.size + 1 + 1, 0, none⟩ = some (.int .i64 11) := FD.out.i.cell 0
  have i1 : W.cell? ⟨w.heap.size + 1 + 1, 1, none⟩ = some (.int .i64 a) := FD.out.i.cell 1
  have i3 : W.cell? ⟨w.heap.size + 1 + 1, 3, none⟩ = some (.int .i64 cc) := FD.out.i.cell 3
  have i4 : W.cell? ⟨w.heap.size + 1 + 1, 4, none⟩ = some (.int .i64 n) := FD.out.i.cell 4
  go_wp2_with fail
  go_quiet (first | (go_at_call 44; refine Calls.quiet_of_same ((RK.out _).mono (fun _ _ h => ⟨h.1, h.2.symm⟩))))
  have FD := Lib.hid (FD.out.drawn nq)
  clear i0 i1 i3 i4 qa qc q14 q16 q19 hf
  generalize hW2 : W.drewN nq = X at *
  clear hW2
  have i1 : X.cell? ⟨w.heap.size + 1 + 1, 1, none⟩ = some (.int .i64 a) := FD.out.i.cell 1
  have qa : X.cell? ⟨w.heap.size, a, none⟩ = some (.int .u32 ra) := (FD.out.c.cell a).trans GA.out
  have q16 : X.cell? ⟨w.heap.size, 16, none⟩ = some (.int .u32 c.pc) := (FD.out.c.cell 16).trans (cpuCells_pc HLN.out _ _)
  have hf : ∀ j, X.frozen? ⟨w.heap.size, j, none⟩ = false := FD.out.c.free
  go_wp2_with fail
  have FE := Lib.hid (show Fr w ((X.setCell ⟨w.heap.size, a, none⟩ (.int .u32 (av))).setCell ⟨w.heap.size, 16, none⟩ (.int .u32 ((c.pc + 4) % 4294967296))) (cpuCells (setC c a (av)) (.slice A1 n1 k1) (.slice A2 n2 k2)) MC _ from (FD.out.setReg HLN.out ha _).set_pc (by simp [HLN.out]) _)
  clear FD i1 qa q16 hf
  generalize (X.setCell ⟨w.heap.size, a, none⟩ (.int .u32 (av))).setCell ⟨w.heap.size, 16, none⟩ (.int .u32 ((c.pc + 4) % 4294967296)) = V at *
  have hlf : (setC c a (av)).r.length = 16 := by first | exact HLN.out | (show (List.set _ _ _).length = 16; rw [List.length_set]; exact HLN.out)
  have SZ := Lib.hid (cpuCells_size hlf (.slice A1 n1 k1) (.slice A2 n2 k2))
  have ONE := Lib.hid (cpu_one (setC c a (av)) (o := (.slice A1 n1 k1)) (i := (.slice A2 n2 k2)) rfl rfl)
  clear hlf
  generalize hC2 : cpuCells (setC c a (av)) (.slice A1 n1 k1) (.slice A2 n2 k2) = C2 at *
  have CE := Lib.hid hC2
  clear hC2
  have HC := Lib.hid FE.out.c
  have HM := Lib.hid FE.out.m
  have R1 := Lib.hid FE.out.r1
  have R2 := Lib.hid FE.out.r2
  have BV := Lib.hid FE.out.bel
  refine held_start 4 rfl (S := fun y => Whole y w.heap.size 38 C2 ∧ Whole y (w.heap.size + 1) 41 MC) (by kernel_rfl) ⟨HC.out.drew', HM.out.drew'⟩ (fun hS => ?_)
  refine wpAnyH_take (i := 0) (v := .agg C2) get0 ?_ ?_ ?_ ?_ ?_ hS ?_
  · kernel_rfl
  · kernel_rfl
  · kernel_rfl
  · exact fun _ _ _ h => h
  · exact take_load 38 (.tmp 3) rfl rfl (w.heap.size) rfl 38 C2 (fun _ h => h.1) _ Tryd.underlying38 rfl (infoCpu SZ.out)
  refine wpAnyH_take (i := 1) (v := .agg MC) get1 ?_ ?_ ?_ ?_ ?_ hS ?_
  · kernel_rfl
  · kernel_rfl
  · kernel_rfl
  · exact fun _ _ _ h => h
  · exact take_load 41 (.tmp 4) rfl rfl ((w.heap.size + 1)) rfl 41 MC (fun _ h => h.2) _ Tryd.underlying41 rfl (infoMem SM.out)
  refine held_step get2 (by kernel_rfl) (fun K hK => ?_)
  refine step_store 38 (.tmp 6) (.tmp 74) rfl rfl (w.heap.size + 1 + 1 + 1) C2 rfl rfl 38 zeros38 R1.out.drew' (infoCpu SZ.out) (by rw [SZ.out]; rfl) ONE.out ?_
  refine hK.out _ _ ⟨HC.out.drew'.only (by omega) (Only.setRow _ (w.heap.size + 1 + 1 + 1) C2), HM.out.drew'.only (by omega) (Only.setRow _ (w.heap.size + 1 + 1 + 1) C2)⟩ (fun hS2 => ?_)
  clear hK K
  refine held_step get3 (by kernel_rfl) (fun K hK => ?_)
  refine step_store 41 (.tmp 7) (.tmp 75) rfl rfl (w.heap.size + 1 + 1 + 1 + 1) MC rfl rfl 41 zeros41 (R2.out.drew'.only (by omega) (Only.setRow _ (w.heap.size + 1 + 1 + 1) C2)) (infoMem SM.out) (by rw [SM.out]; rfl) ONM.out ?_
  refine hK.out _ _ ⟨hS2.1.only (by omega) (Only.setRow _ (w.heap.size + 1 + 1 + 1 + 1) MC), hS2.2.only (by omega) (Only.setRow _ (w.heap.size + 1 + 1 + 1 + 1) MC)⟩ (fun hS3 => ?_)
  clear hK K
  refine wpAnyH_done (by kernel_rfl) ?_ _
  go_wp2_with fail
  refine bodyPost_ret (v := .tuple #[.agg C2, .agg MC]) (results_two_rows rfl _ _ (w.heap.size + 1 + 1 + 1) (w.heap.size + 1 + 1 + 1 + 1) 38 41 C2 MC _ _ rfl rfl ((R1.out.drew'.setRow C2).only (by omega) (Only.setRow _ (w.heap.size + 1 + 1 + 1 + 1) MC)) ((R2.out.drew'.only (by omega) (Only.setRow _ (w.heap.size + 1 + 1 + 1) C2)).setRow MC) Tryd.underlying38 rfl (infoCpu SZ.out) Tryd.underlying41 rfl (infoMem SM.out)) rfl ⟨by rw [CE.out], ((BV.out.drew.trans ((Only.setRow _ (w.heap.size + 1 + 1 + 1) C2).below (by omega) (by have := BV.out.size; simpa using this))).trans ((Only.setRow _ (w.heap.size + 1 + 1 + 1 + 1) MC).below (by omega) (by have := BV.out.size; simpa using this)))⟩

set_option maxHeartbeats 8000000 in
set_option maxRecDepth 100000 in
theorem refdo_12 (a b cc : Nat) (n : Int) (c : Cp) (A1 A2 : Option Addr) (n1 k1 n2 k2 : Nat) (MC : Array Value) (w : World) (ha : a < 16) (hb : b < 16) (hcc : cc < 16) (ub : 0 ≤ (c.r.getD b 0) ∧ (c.r.getD b 0) ≤ 4294967295) (uc : 0 ≤ (c.r.getD cc 0) ∧ (c.r.getD cc 0) ≤ 4294967295) (hl : c.r.length = 16) (hm : MC.size = 6) (hm1 : MC.all (·.oneCell') = true)  :
    Calls Tryd.prog 26 #[.agg (cpuCells c (.slice A1 n1 k1) (.slice A2 n2 k2)), .agg MC, .agg #[.int .i64 12, .int .i64 a, .int .i64 b, .int .i64 cc, .int .i64 n]] w fun e w' => e = .returned (.tuple #[.agg (cpuCells (setC c a (alu 12 (c.r.getD b 0) (c.r.getD cc 0))) (.slice A1 n1 k1) (.slice A2 n2 k2)), .agg MC]) ∧ Below w.heap.size w w' := by
  have F0 := fr_made w (cpuCells c (.slice A1 n1 k1) (.slice A2 n2 k2)) MC #[.int .i64 12, .int .i64 a, .int .i64 b, .int .i64 cc, .int .i64 n]
  unfold zeros38 zeros41 at F0
  have FH := Lib.hid F0
  have haI : (a : Int) < 16 := by omega
  have hbI : (b : Int) < 16 := by omega
  have hcI : (cc : Int) < 16 := by omega
  have SM := Lib.hid hm
  have ONM := Lib.hid hm1
  have HLN := Lib.hid hl
  have qa := (F0.c.cell a).trans (cpuCells_reg hl _ _ ha)
  have qb := (F0.c.cell b).trans (cpuCells_reg hl _ _ hb)
  have GA := Lib.hid (cpuCells_reg hl (.slice A1 n1 k1) (.slice A2 n2 k2) ha)
  have GB := Lib.hid (cpuCells_reg hl (.slice A1 n1 k1) (.slice A2 n2 k2) hb)
  have GC := Lib.hid (cpuCells_reg hl (.slice A1 n1 k1) (.slice A2 n2 k2) hcc)
  clear F0 hm hm1 hl
  generalize (c.r.getD a 0) = ra at *
  generalize (c.r.getD b 0) = rb at *
  generalize (c.r.getD cc 0) = rc at *
  have RK := Lib.hid (fun w => reckon_12 rb rc w ub uc)
  generalize alu 12 rb rc = av at *
  generalize hC0 : cpuCells c (.slice A1 n1 k1) (.slice A2 n2 k2) = C0 at *
  go_enter Tryd.func26, Tryd.ntmps26
  go_wp2_with fail
  go_quiet (fail)
  have FD := Lib.hid (FH.out.drawn nq)
  clear FH qa qb
  generalize ((((((w.alloc (.cells C0 38)).alloc (.cells MC 41)).alloc (.cells #[.int .i64 12, .int .i64 a, .int .i64 b, .int .i64 cc, .int .i64 n] 54)).alloc (.cells #[.int .u32 0, .int .u32 0, .int .u32 0, .int .u32 0, .int .u32 0, .int .u32 0, .int .u32 0, .int .u32 0, .int .u32 0, .int .u32 0, .int .u32 0, .int .u32 0, .int .u32 0, .int .u32 0, .int .u32 0, .int .u32 0, .int .u32 0, .int .u32 0, .int .u32 0, .int .i64 0, .int .i64 0, .int .i64 0, .int .i64 0, .slice none 0 0, .int .u32 0, .int .u32 0, .int .u32 0, .int .u32 0, .slice none 0 0] 38)).alloc (.cells #[.int .u32 0, .int .u32 0, .int .u32 0, .int .u32 0, .int .u32 0, .slice none 0 0] 41)).drewN nq) = W at *
  subst hC0
  have qa : W.cell? ⟨w.heap.size, a, none⟩ = some (.int .u32 ra) := (FD.out.c.cell a).trans GA.out
  have qc : W.cell? ⟨w.heap.size, cc, none⟩ = some (.int .u32 rc) := (FD.out.c.cell cc).trans GC.out
  have q14 : W.cell? ⟨w.heap.size, 14, none⟩ = some (.int .u32 (c.r.getD 14 0)) := (FD.out.c.cell 14).trans (cpuCells_reg HLN.out _ _ (by decide))
  have q16 : W.cell? ⟨w.heap.size, 16, none⟩ = some (.int .u32 c.pc) := (FD.out.c.cell 16).trans (cpuCells_pc HLN.out _ _)
  have q19 : W.cell? ⟨w.heap.size, 19, none⟩ = some (.int .i64 c.st) := (FD.out.c.cell 19).trans (cpuCells_st HLN.out _ _)
  have hf : ∀ j, W.frozen? ⟨w.heap.size, j, none⟩ = false := FD.out.c.free
  have g2 : w.heap.size + 1 + 1 ≠ w.heap.size := by omega
  have i0 : W.cell? ⟨w.heap.size + 1 + 1, 0, none⟩ = some (.int .i64 12) := FD.out.i.cell 0
  have i1 : W.cell? ⟨w.heap.size + 1 + 1, 1, none⟩ = some (.int .i64 a) := FD.out.i.cell 1
  have i3 : W.cell? ⟨w.heap.size + 1 + 1, 3, none⟩ = some (.int .i64 cc) := FD.out.i.cell 3
  have i4 : W.cell? ⟨w.heap.size + 1 + 1, 4, none⟩ = some (.int .i64 n) := FD.out.i.cell 4
  go_wp2_with fail
  go_quiet (first | (go_at_call 44; refine Calls.quiet_of_same ((RK.out _).mono (fun _ _ h => ⟨h.1, h.2.symm⟩))))
  have FD := Lib.hid (FD.out.drawn nq)
  clear i0 i1 i3 i4 qa qc q14 q16 q19 hf
  generalize hW2 : W.drewN nq = X at *
  clear hW2
  have i1 : X.cell? ⟨w.heap.size + 1 + 1, 1, none⟩ = some (.int .i64 a) := FD.out.i.cell 1
  have qa : X.cell? ⟨w.heap.size, a, none⟩ = some (.int .u32 ra) := (FD.out.c.cell a).trans GA.out
  have q16 : X.cell? ⟨w.heap.size, 16, none⟩ = some (.int .u32 c.pc) := (FD.out.c.cell 16).trans (cpuCells_pc HLN.out _ _)
  have hf : ∀ j, X.frozen? ⟨w.heap.size, j, none⟩ = false := FD.out.c.free
  go_wp2_with fail
  have FE := Lib.hid (show Fr w ((X.setCell ⟨w.heap.size, a, none⟩ (.int .u32 (av))).setCell ⟨w.heap.size, 16, none⟩ (.int .u32 ((c.pc + 4) % 4294967296))) (cpuCells (setC c a (av)) (.slice A1 n1 k1) (.slice A2 n2 k2)) MC _ from (FD.out.setReg HLN.out ha _).set_pc (by simp [HLN.out]) _)
  clear FD i1 qa q16 hf
  generalize (X.setCell ⟨w.heap.size, a, none⟩ (.int .u32 (av))).setCell ⟨w.heap.size, 16, none⟩ (.int .u32 ((c.pc + 4) % 4294967296)) = V at *
  have hlf : (setC c a (av)).r.length = 16 := by first | exact HLN.out | (show (List.set _ _ _).length = 16; rw [List.length_set]; exact HLN.out)
  have SZ := Lib.hid (cpuCells_size hlf (.slice A1 n1 k1) (.slice A2 n2 k2))
  have ONE := Lib.hid (cpu_one (setC c a (av)) (o := (.slice A1 n1 k1)) (i := (.slice A2 n2 k2)) rfl rfl)
  clear hlf
  generalize hC2 : cpuCells (setC c a (av)) (.slice A1 n1 k1) (.slice A2 n2 k2) = C2 at *
  have CE := Lib.hid hC2
  clear hC2
  have HC := Lib.hid FE.out.c
  have HM := Lib.hid FE.out.m
  have R1 := Lib.hid FE.out.r1
  have R2 := Lib.hid FE.out.r2
  have BV := Lib.hid FE.out.bel
  refine held_start 4 rfl (S := fun y => Whole y w.heap.size 38 C2 ∧ Whole y (w.heap.size + 1) 41 MC) (by kernel_rfl) ⟨HC.out.drew', HM.out.drew'⟩ (fun hS => ?_)
  refine wpAnyH_take (i := 0) (v := .agg C2) get0 ?_ ?_ ?_ ?_ ?_ hS ?_
  · kernel_rfl
  · kernel_rfl
  · kernel_rfl
  · exact fun _ _ _ h => h
  · exact take_load 38 (.tmp 3) rfl rfl (w.heap.size) rfl 38 C2 (fun _ h => h.1) _ Tryd.underlying38 rfl (infoCpu SZ.out)
  refine wpAnyH_take (i := 1) (v := .agg MC) get1 ?_ ?_ ?_ ?_ ?_ hS ?_
  · kernel_rfl
  · kernel_rfl
  · kernel_rfl
  · exact fun _ _ _ h => h
  · exact take_load 41 (.tmp 4) rfl rfl ((w.heap.size + 1)) rfl 41 MC (fun _ h => h.2) _ Tryd.underlying41 rfl (infoMem SM.out)
  refine held_step get2 (by kernel_rfl) (fun K hK => ?_)
  refine step_store 38 (.tmp 6) (.tmp 74) rfl rfl (w.heap.size + 1 + 1 + 1) C2 rfl rfl 38 zeros38 R1.out.drew' (infoCpu SZ.out) (by rw [SZ.out]; rfl) ONE.out ?_
  refine hK.out _ _ ⟨HC.out.drew'.only (by omega) (Only.setRow _ (w.heap.size + 1 + 1 + 1) C2), HM.out.drew'.only (by omega) (Only.setRow _ (w.heap.size + 1 + 1 + 1) C2)⟩ (fun hS2 => ?_)
  clear hK K
  refine held_step get3 (by kernel_rfl) (fun K hK => ?_)
  refine step_store 41 (.tmp 7) (.tmp 75) rfl rfl (w.heap.size + 1 + 1 + 1 + 1) MC rfl rfl 41 zeros41 (R2.out.drew'.only (by omega) (Only.setRow _ (w.heap.size + 1 + 1 + 1) C2)) (infoMem SM.out) (by rw [SM.out]; rfl) ONM.out ?_
  refine hK.out _ _ ⟨hS2.1.only (by omega) (Only.setRow _ (w.heap.size + 1 + 1 + 1 + 1) MC), hS2.2.only (by omega) (Only.setRow _ (w.heap.size + 1 + 1 + 1 + 1) MC)⟩ (fun hS3 => ?_)
  clear hK K
  refine wpAnyH_done (by kernel_rfl) ?_ _
  go_wp2_with fail
  refine bodyPost_ret (v := .tuple #[.agg C2, .agg MC]) (results_two_rows rfl _ _ (w.heap.size + 1 + 1 + 1) (w.heap.size + 1 + 1 + 1 + 1) 38 41 C2 MC _ _ rfl rfl ((R1.out.drew'.setRow C2).only (by omega) (Only.setRow _ (w.heap.size + 1 + 1 + 1 + 1) MC)) ((R2.out.drew'.only (by omega) (Only.setRow _ (w.heap.size + 1 + 1 + 1) C2)).setRow MC) Tryd.underlying38 rfl (infoCpu SZ.out) Tryd.underlying41 rfl (infoMem SM.out)) rfl ⟨by rw [CE.out], ((BV.out.drew.trans ((Only.setRow _ (w.heap.size + 1 + 1 + 1) C2).below (by omega) (by have := BV.out.size; simpa using this))).trans ((Only.setRow _ (w.heap.size + 1 + 1 + 1 + 1) MC).below (by omega) (by have := BV.out.size; simpa using this)))⟩

set_option maxHeartbeats 8000000 in
set_option maxRecDepth 100000 in
theorem refdo_13 (a b cc : Nat) (n : Int) (c : Cp) (A1 A2 : Option Addr) (n1 k1 n2 k2 : Nat) (MC : Array Value) (w : World) (ha : a < 16) (hb : b < 16) (hcc : cc < 16) (ub : 0 ≤ (c.r.getD b 0) ∧ (c.r.getD b 0) ≤ 4294967295) (uc : 0 ≤ (c.r.getD cc 0) ∧ (c.r.getD cc 0) ≤ 4294967295) (hl : c.r.length = 16) (hm : MC.size = 6) (hm1 : MC.all (·.oneCell') = true)  :
    Calls Tryd.prog 26 #[.agg (cpuCells c (.slice A1 n1 k1) (.slice A2 n2 k2)), .agg MC, .agg #[.int .i64 13, .int .i64 a, .int .i64 b, .int .i64 cc, .int .i64 n]] w fun e w' => e = .returned (.tuple #[.agg (cpuCells (setC c a (alu 13 (c.r.getD b 0) (c.r.getD cc 0))) (.slice A1 n1 k1) (.slice A2 n2 k2)), .agg MC]) ∧ Below w.heap.size w w' := by
  have F0 := fr_made w (cpuCells c (.slice A1 n1 k1) (.slice A2 n2 k2)) MC #[.int .i64 13, .int .i64 a, .int .i64 b, .int .i64 cc, .int .i64 n]
  unfold zeros38 zeros41 at F0
  have FH := Lib.hid F0
  have haI : (a : Int) < 16 := by omega
  have hbI : (b : Int) < 16 := by omega
  have hcI : (cc : Int) < 16 := by omega
  have SM := Lib.hid hm
  have ONM := Lib.hid hm1
  have HLN := Lib.hid hl
  have qa := (F0.c.cell a).trans (cpuCells_reg hl _ _ ha)
  have qb := (F0.c.cell b).trans (cpuCells_reg hl _ _ hb)
  have GA := Lib.hid (cpuCells_reg hl (.slice A1 n1 k1) (.slice A2 n2 k2) ha)
  have GB := Lib.hid (cpuCells_reg hl (.slice A1 n1 k1) (.slice A2 n2 k2) hb)
  have GC := Lib.hid (cpuCells_reg hl (.slice A1 n1 k1) (.slice A2 n2 k2) hcc)
  clear F0 hm hm1 hl
  generalize (c.r.getD a 0) = ra at *
  generalize (c.r.getD b 0) = rb at *
  generalize (c.r.getD cc 0) = rc at *
  have RK := Lib.hid (fun w => reckon_13 rb rc w ub uc)
  generalize alu 13 rb rc = av at *
  generalize hC0 : cpuCells c (.slice A1 n1 k1) (.slice A2 n2 k2) = C0 at *
  go_enter Tryd.func26, Tryd.ntmps26
  go_wp2_with fail
  go_quiet (fail)
  have FD := Lib.hid (FH.out.drawn nq)
  clear FH qa qb
  generalize ((((((w.alloc (.cells C0 38)).alloc (.cells MC 41)).alloc (.cells #[.int .i64 13, .int .i64 a, .int .i64 b, .int .i64 cc, .int .i64 n] 54)).alloc (.cells #[.int .u32 0, .int .u32 0, .int .u32 0, .int .u32 0, .int .u32 0, .int .u32 0, .int .u32 0, .int .u32 0, .int .u32 0, .int .u32 0, .int .u32 0, .int .u32 0, .int .u32 0, .int .u32 0, .int .u32 0, .int .u32 0, .int .u32 0, .int .u32 0, .int .u32 0, .int .i64 0, .int .i64 0, .int .i64 0, .int .i64 0, .slice none 0 0, .int .u32 0, .int .u32 0, .int .u32 0, .int .u32 0, .slice none 0 0] 38)).alloc (.cells #[.int .u32 0, .int .u32 0, .int .u32 0, .int .u32 0, .int .u32 0, .slice none 0 0] 41)).drewN nq) = W at *
  subst hC0
  have qa : W.cell? ⟨w.heap.size, a, none⟩ = some (.int .u32 ra) := (FD.out.c.cell a).trans GA.out
  have qc : W.cell? ⟨w.heap.size, cc, none⟩ = some (.int .u32 rc) := (FD.out.c.cell cc).trans GC.out
  have q14 : W.cell? ⟨w.heap.size, 14, none⟩ = some (.int .u32 (c.r.getD 14 0)) := (FD.out.c.cell 14).trans (cpuCells_reg HLN.out _ _ (by decide))
  have q16 : W.cell? ⟨w.heap.size, 16, none⟩ = some (.int .u32 c.pc) := (FD.out.c.cell 16).trans (cpuCells_pc HLN.out _ _)
  have q19 : W.cell? ⟨w.heap.size, 19, none⟩ = some (.int .i64 c.st) := (FD.out.c.cell 19).trans (cpuCells_st HLN.out _ _)
  have hf : ∀ j, W.frozen? ⟨w.heap.size, j, none⟩ = false := FD.out.c.free
  have g2 : w.heap.size + 1 + 1 ≠ w.heap.size := by omega
  have i0 : W.cell? ⟨w.heap.size + 1 + 1, 0, none⟩ = some (.int .i64 13) := FD.out.i.cell 0
  have i1 : W.cell? ⟨w.heap.size + 1 + 1, 1, none⟩ = some (.int .i64 a) := FD.out.i.cell 1
  have i3 : W.cell? ⟨w.heap.size + 1 + 1, 3, none⟩ = some (.int .i64 cc) := FD.out.i.cell 3
  have i4 : W.cell? ⟨w.heap.size + 1 + 1, 4, none⟩ = some (.int .i64 n) := FD.out.i.cell 4
  go_wp2_with fail
  go_quiet (first | (go_at_call 44; refine Calls.quiet_of_same ((RK.out _).mono (fun _ _ h => ⟨h.1, h.2.symm⟩))))
  have FD := Lib.hid (FD.out.drawn nq)
  clear i0 i1 i3 i4 qa qc q14 q16 q19 hf
  generalize hW2 : W.drewN nq = X at *
  clear hW2
  have i1 : X.cell? ⟨w.heap.size + 1 + 1, 1, none⟩ = some (.int .i64 a) := FD.out.i.cell 1
  have qa : X.cell? ⟨w.heap.size, a, none⟩ = some (.int .u32 ra) := (FD.out.c.cell a).trans GA.out
  have q16 : X.cell? ⟨w.heap.size, 16, none⟩ = some (.int .u32 c.pc) := (FD.out.c.cell 16).trans (cpuCells_pc HLN.out _ _)
  have hf : ∀ j, X.frozen? ⟨w.heap.size, j, none⟩ = false := FD.out.c.free
  go_wp2_with fail
  have FE := Lib.hid (show Fr w ((X.setCell ⟨w.heap.size, a, none⟩ (.int .u32 (av))).setCell ⟨w.heap.size, 16, none⟩ (.int .u32 ((c.pc + 4) % 4294967296))) (cpuCells (setC c a (av)) (.slice A1 n1 k1) (.slice A2 n2 k2)) MC _ from (FD.out.setReg HLN.out ha _).set_pc (by simp [HLN.out]) _)
  clear FD i1 qa q16 hf
  generalize (X.setCell ⟨w.heap.size, a, none⟩ (.int .u32 (av))).setCell ⟨w.heap.size, 16, none⟩ (.int .u32 ((c.pc + 4) % 4294967296)) = V at *
  have hlf : (setC c a (av)).r.length = 16 := by first | exact HLN.out | (show (List.set _ _ _).length = 16; rw [List.length_set]; exact HLN.out)
  have SZ := Lib.hid (cpuCells_size hlf (.slice A1 n1 k1) (.slice A2 n2 k2))
  have ONE := Lib.hid (cpu_one (setC c a (av)) (o := (.slice A1 n1 k1)) (i := (.slice A2 n2 k2)) rfl rfl)
  clear hlf
  generalize hC2 : cpuCells (setC c a (av)) (.slice A1 n1 k1) (.slice A2 n2 k2) = C2 at *
  have CE := Lib.hid hC2
  clear hC2
  have HC := Lib.hid FE.out.c
  have HM := Lib.hid FE.out.m
  have R1 := Lib.hid FE.out.r1
  have R2 := Lib.hid FE.out.r2
  have BV := Lib.hid FE.out.bel
  refine held_start 4 rfl (S := fun y => Whole y w.heap.size 38 C2 ∧ Whole y (w.heap.size + 1) 41 MC) (by kernel_rfl) ⟨HC.out.drew', HM.out.drew'⟩ (fun hS => ?_)
  refine wpAnyH_take (i := 0) (v := .agg C2) get0 ?_ ?_ ?_ ?_ ?_ hS ?_
  · kernel_rfl
  · kernel_rfl
  · kernel_rfl
  · exact fun _ _ _ h => h
  · exact take_load 38 (.tmp 3) rfl rfl (w.heap.size) rfl 38 C2 (fun _ h => h.1) _ Tryd.underlying38 rfl (infoCpu SZ.out)
  refine wpAnyH_take (i := 1) (v := .agg MC) get1 ?_ ?_ ?_ ?_ ?_ hS ?_
  · kernel_rfl
  · kernel_rfl
  · kernel_rfl
  · exact fun _ _ _ h => h
  · exact take_load 41 (.tmp 4) rfl rfl ((w.heap.size + 1)) rfl 41 MC (fun _ h => h.2) _ Tryd.underlying41 rfl (infoMem SM.out)
  refine held_step get2 (by kernel_rfl) (fun K hK => ?_)
  refine step_store 38 (.tmp 6) (.tmp 74) rfl rfl (w.heap.size + 1 + 1 + 1) C2 rfl rfl 38 zeros38 R1.out.drew' (infoCpu SZ.out) (by rw [SZ.out]; rfl) ONE.out ?_
  refine hK.out _ _ ⟨HC.out.drew'.only (by omega) (Only.setRow _ (w.heap.size + 1 + 1 + 1) C2), HM.out.drew'.only (by omega) (Only.setRow _ (w.heap.size + 1 + 1 + 1) C2)⟩ (fun hS2 => ?_)
  clear hK K
  refine held_step get3 (by kernel_rfl) (fun K hK => ?_)
  refine step_store 41 (.tmp 7) (.tmp 75) rfl rfl (w.heap.size + 1 + 1 + 1 + 1) MC rfl rfl 41 zeros41 (R2.out.drew'.only (by omega) (Only.setRow _ (w.heap.size + 1 + 1 + 1) C2)) (infoMem SM.out) (by rw [SM.out]; rfl) ONM.out ?_
  refine hK.out _ _ ⟨hS2.1.only (by omega) (Only.setRow _ (w.heap.size + 1 + 1 + 1 + 1) MC), hS2.2.only (by omega) (Only.setRow _ (w.heap.size + 1 + 1 + 1 + 1) MC)⟩ (fun hS3 => ?_)
  clear hK K
  refine wpAnyH_done (by kernel_rfl) ?_ _
  go_wp2_with fail
  refine bodyPost_ret (v := .tuple #[.agg C2, .agg MC]) (results_two_rows rfl _ _ (w.heap.size + 1 + 1 + 1) (w.heap.size + 1 + 1 + 1 + 1) 38 41 C2 MC _ _ rfl rfl ((R1.out.drew'.setRow C2).only (by omega) (Only.setRow _ (w.heap.size + 1 + 1 + 1 + 1) MC)) ((R2.out.drew'.only (by omega) (Only.setRow _ (w.heap.size + 1 + 1 + 1) C2)).setRow MC) Tryd.underlying38 rfl (infoCpu SZ.out) Tryd.underlying41 rfl (infoMem SM.out)) rfl ⟨by rw [CE.out], ((BV.out.drew.trans ((Only.setRow _ (w.heap.size + 1 + 1 + 1) C2).below (by omega) (by have := BV.out.size; simpa using this))).trans ((Only.setRow _ (w.heap.size + 1 + 1 + 1 + 1) MC).below (by omega) (by have := BV.out.size; simpa using this)))⟩

set_option maxHeartbeats 8000000 in
set_option maxRecDepth 100000 in
theorem refdo_14 (a b cc : Nat) (n : Int) (c : Cp) (A1 A2 : Option Addr) (n1 k1 n2 k2 : Nat) (MC : Array Value) (w : World) (ha : a < 16) (hb : b < 16) (hcc : cc < 16) (ub : 0 ≤ (c.r.getD b 0) ∧ (c.r.getD b 0) ≤ 4294967295) (uc : 0 ≤ (c.r.getD cc 0) ∧ (c.r.getD cc 0) ≤ 4294967295) (hl : c.r.length = 16) (hm : MC.size = 6) (hm1 : MC.all (·.oneCell') = true)  :
    Calls Tryd.prog 26 #[.agg (cpuCells c (.slice A1 n1 k1) (.slice A2 n2 k2)), .agg MC, .agg #[.int .i64 14, .int .i64 a, .int .i64 b, .int .i64 cc, .int .i64 n]] w fun e w' => e = .returned (.tuple #[.agg (cpuCells (setC c a (alu 14 (c.r.getD b 0) (c.r.getD cc 0))) (.slice A1 n1 k1) (.slice A2 n2 k2)), .agg MC]) ∧ Below w.heap.size w w' := by
  have F0 := fr_made w (cpuCells c (.slice A1 n1 k1) (.slice A2 n2 k2)) MC #[.int .i64 14, .int .i64 a, .int .i64 b, .int .i64 cc, .int .i64 n]
  unfold zeros38 zeros41 at F0
  have FH := Lib.hid F0
  have haI : (a : Int) < 16 := by omega
  have hbI : (b : Int) < 16 := by omega
  have hcI : (cc : Int) < 16 := by omega
  have SM := Lib.hid hm
  have ONM := Lib.hid hm1
  have HLN := Lib.hid hl
  have qa := (F0.c.cell a).trans (cpuCells_reg hl _ _ ha)
  have qb := (F0.c.cell b).trans (cpuCells_reg hl _ _ hb)
  have GA := Lib.hid (cpuCells_reg hl (.slice A1 n1 k1) (.slice A2 n2 k2) ha)
  have GB := Lib.hid (cpuCells_reg hl (.slice A1 n1 k1) (.slice A2 n2 k2) hb)
  have GC := Lib.hid (cpuCells_reg hl (.slice A1 n1 k1) (.slice A2 n2 k2) hcc)
  clear F0 hm hm1 hl
  generalize (c.r.getD a 0) = ra at *
  generalize (c.r.getD b 0) = rb at *
  generalize (c.r.getD cc 0) = rc at *
  have RK := Lib.hid (fun w => reckon_14 rb rc w ub uc)
  generalize alu 14 rb rc = av at *
  generalize hC0 : cpuCells c (.slice A1 n1 k1) (.slice A2 n2 k2) = C0 at *
  go_enter Tryd.func26, Tryd.ntmps26
  go_wp2_with fail
  go_quiet (fail)
  have FD := Lib.hid (FH.out.drawn nq)
  clear FH qa qb
  generalize ((((((w.alloc (.cells C0 38)).alloc (.cells MC 41)).alloc (.cells #[.int .i64 14, .int .i64 a, .int .i64 b, .int .i64 cc, .int .i64 n] 54)).alloc (.cells #[.int .u32 0, .int .u32 0, .int .u32 0, .int .u32 0, .int .u32 0, .int .u32 0, .int .u32 0, .int .u32 0, .int .u32 0, .int .u32 0, .int .u32 0, .int .u32 0, .int .u32 0, .int .u32 0, .int .u32 0, .int .u32 0, .int .u32 0, .int .u32 0, .int .u32 0, .int .i64 0, .int .i64 0, .int .i64 0, .int .i64 0, .slice none 0 0, .int .u32 0, .int .u32 0, .int .u32 0, .int .u32 0, .slice none 0 0] 38)).alloc (.cells #[.int .u32 0, .int .u32 0, .int .u32 0, .int .u32 0, .int .u32 0, .slice none 0 0] 41)).drewN nq) = W at *
  subst hC0
  have qa : W.cell? ⟨w.heap.size, a, none⟩ = some (.int .u32 ra) := (FD.out.c.cell a).trans GA.out
  have qc : W.cell? ⟨w.heap.size, cc, none⟩ = some (.int .u32 rc) := (FD.out.c.cell cc).trans GC.out
  have q14 : W.cell? ⟨w.heap.size, 14, none⟩ = some (.int .u32 (c.r.getD 14 0)) := (FD.out.c.cell 14).trans (cpuCells_reg HLN.out _ _ (by decide))
  have q16 : W.cell? ⟨w.heap.size, 16, none⟩ = some (.int .u32 c.pc) := (FD.out.c.cell 16).trans (cpuCells_pc HLN.out _ _)
  have q19 : W.cell? ⟨w.heap.size, 19, none⟩ = some (.int .i64 c.st) := (FD.out.c.cell 19).trans (cpuCells_st HLN.out _ _)
  have hf : ∀ j, W.frozen? ⟨w.heap.size, j, none⟩ = false := FD.out.c.free
  have g2 : w.heap.size + 1 + 1 ≠ w.heap.size := by omega
  have i0 : W.cell? ⟨w.heap.size + 1 + 1, 0, none⟩ = some (.int .i64 14) := FD.out.i.cell 0
  have i1 : W.cell? ⟨w.heap.size + 1 + 1, 1, none⟩ = some (.int .i64 a) := FD.out.i.cell 1
  have i3 : W.cell? ⟨w.heap.size + 1 + 1, 3, none⟩ = some (.int .i64 cc) := FD.out.i.cell 3
  have i4 : W.cell? ⟨w.heap.size + 1 + 1, 4, none⟩ = some (.int .i64 n) := FD.out.i.cell 4
  go_wp2_with fail
  go_quiet (first | (go_at_call 44; refine Calls.quiet_of_same ((RK.out _).mono (fun _ _ h => ⟨h.1, h.2.symm⟩))))
  have FD := Lib.hid (FD.out.drawn nq)
  clear i0 i1 i3 i4 qa qc q14 q16 q19 hf
  generalize hW2 : W.drewN nq = X at *
  clear hW2
  have i1 : X.cell? ⟨w.heap.size + 1 + 1, 1, none⟩ = some (.int .i64 a) := FD.out.i.cell 1
  have qa : X.cell? ⟨w.heap.size, a, none⟩ = some (.int .u32 ra) := (FD.out.c.cell a).trans GA.out
  have q16 : X.cell? ⟨w.heap.size, 16, none⟩ = some (.int .u32 c.pc) := (FD.out.c.cell 16).trans (cpuCells_pc HLN.out _ _)
  have hf : ∀ j, X.frozen? ⟨w.heap.size, j, none⟩ = false := FD.out.c.free
  go_wp2_with fail
  have FE := Lib.hid (show Fr w ((X.setCell ⟨w.heap.size, a, none⟩ (.int .u32 (av))).setCell ⟨w.heap.size, 16, none⟩ (.int .u32 ((c.pc + 4) % 4294967296))) (cpuCells (setC c a (av)) (.slice A1 n1 k1) (.slice A2 n2 k2)) MC _ from (FD.out.setReg HLN.out ha _).set_pc (by simp [HLN.out]) _)
  clear FD i1 qa q16 hf
  generalize (X.setCell ⟨w.heap.size, a, none⟩ (.int .u32 (av))).setCell ⟨w.heap.size, 16, none⟩ (.int .u32 ((c.pc + 4) % 4294967296)) = V at *
  have hlf : (setC c a (av)).r.length = 16 := by first | exact HLN.out | (show (List.set _ _ _).length = 16; rw [List.length_set]; exact HLN.out)
  have SZ := Lib.hid (cpuCells_size hlf (.slice A1 n1 k1) (.slice A2 n2 k2))
  have ONE := Lib.hid (cpu_one (setC c a (av)) (o := (.slice A1 n1 k1)) (i := (.slice A2 n2 k2)) rfl rfl)
  clear hlf
  generalize hC2 : cpuCells (setC c a (av)) (.slice A1 n1 k1) (.slice A2 n2 k2) = C2 at *
  have CE := Lib.hid hC2
  clear hC2
  have HC := Lib.hid FE.out.c
  have HM := Lib.hid FE.out.m
  have R1 := Lib.hid FE.out.r1
  have R2 := Lib.hid FE.out.r2
  have BV := Lib.hid FE.out.bel
  refine held_start 4 rfl (S := fun y => Whole y w.heap.size 38 C2 ∧ Whole y (w.heap.size + 1) 41 MC) (by kernel_rfl) ⟨HC.out.drew', HM.out.drew'⟩ (fun hS => ?_)
  refine wpAnyH_take (i := 0) (v := .agg C2) get0 ?_ ?_ ?_ ?_ ?_ hS ?_
  · kernel_rfl
  · kernel_rfl
  · kernel_rfl
  · exact fun _ _ _ h => h
  · exact take_load 38 (.tmp 3) rfl rfl (w.heap.size) rfl 38 C2 (fun _ h => h.1) _ Tryd.underlying38 rfl (infoCpu SZ.out)
  refine wpAnyH_take (i := 1) (v := .agg MC) get1 ?_ ?_ ?_ ?_ ?_ hS ?_
  · kernel_rfl
  · kernel_rfl
  · kernel_rfl
  · exact fun _ _ _ h => h
  · exact take_load 41 (.tmp 4) rfl rfl ((w.heap.size + 1)) rfl 41 MC (fun _ h => h.2) _ Tryd.underlying41 rfl (infoMem SM.out)
  refine held_step get2 (by kernel_rfl) (fun K hK => ?_)
  refine step_store 38 (.tmp 6) (.tmp 74) rfl rfl (w.heap.size + 1 + 1 + 1) C2 rfl rfl 38 zeros38 R1.out.drew' (infoCpu SZ.out) (by rw [SZ.out]; rfl) ONE.out ?_
  refine hK.out _ _ ⟨HC.out.drew'.only (by omega) (Only.setRow _ (w.heap.size + 1 + 1 + 1) C2), HM.out.drew'.only (by omega) (Only.setRow _ (w.heap.size + 1 + 1 + 1) C2)⟩ (fun hS2 => ?_)
  clear hK K
  refine held_step get3 (by kernel_rfl) (fun K hK => ?_)
  refine step_store 41 (.tmp 7) (.tmp 75) rfl rfl (w.heap.size + 1 + 1 + 1 + 1) MC rfl rfl 41 zeros41 (R2.out.drew'.only (by omega) (Only.setRow _ (w.heap.size + 1 + 1 + 1) C2)) (infoMem SM.out) (by rw [SM.out]; rfl) ONM.out ?_
  refine hK.out _ _ ⟨hS2.1.only (by omega) (Only.setRow _ (w.heap.size + 1 + 1 + 1 + 1) MC), hS2.2.only (by omega) (Only.setRow _ (w.heap.size + 1 + 1 + 1 + 1) MC)⟩ (fun hS3 => ?_)
  clear hK K
  refine wpAnyH_done (by kernel_rfl) ?_ _
  go_wp2_with fail
  refine bodyPost_ret (v := .tuple #[.agg C2, .agg MC]) (results_two_rows rfl _ _ (w.heap.size + 1 + 1 + 1) (w.heap.size + 1 + 1 + 1 + 1) 38 41 C2 MC _ _ rfl rfl ((R1.out.drew'.setRow C2).only (by omega) (Only.setRow _ (w.heap.size + 1 + 1 + 1 + 1) MC)) ((R2.out.drew'.only (by omega) (Only.setRow _ (w.heap.size + 1 + 1 + 1) C2)).setRow MC) Tryd.underlying38 rfl (infoCpu SZ.out) Tryd.underlying41 rfl (infoMem SM.out)) rfl ⟨by rw [CE.out], ((BV.out.drew.trans ((Only.setRow _ (w.heap.size + 1 + 1 + 1) C2).below (by omega) (by have := BV.out.size; simpa using this))).trans ((Only.setRow _ (w.heap.size + 1 + 1 + 1 + 1) MC).below (by omega) (by have := BV.out.size; simpa using this)))⟩

set_option maxHeartbeats 8000000 in
set_option maxRecDepth 100000 in
theorem refdo_15 (a b cc : Nat) (n : Int) (c : Cp) (A1 A2 : Option Addr) (n1 k1 n2 k2 : Nat) (MC : Array Value) (w : World) (ha : a < 16) (hb : b < 16) (hcc : cc < 16) (ub : 0 ≤ (c.r.getD b 0) ∧ (c.r.getD b 0) ≤ 4294967295) (uc : 0 ≤ (c.r.getD cc 0) ∧ (c.r.getD cc 0) ≤ 4294967295) (hl : c.r.length = 16) (hm : MC.size = 6) (hm1 : MC.all (·.oneCell') = true)  :
    Calls Tryd.prog 26 #[.agg (cpuCells c (.slice A1 n1 k1) (.slice A2 n2 k2)), .agg MC, .agg #[.int .i64 15, .int .i64 a, .int .i64 b, .int .i64 cc, .int .i64 n]] w fun e w' => e = .returned (.tuple #[.agg (cpuCells (setC c a (alu 15 (c.r.getD b 0) (c.r.getD cc 0))) (.slice A1 n1 k1) (.slice A2 n2 k2)), .agg MC]) ∧ Below w.heap.size w w' := by
  have F0 := fr_made w (cpuCells c (.slice A1 n1 k1) (.slice A2 n2 k2)) MC #[.int .i64 15, .int .i64 a, .int .i64 b, .int .i64 cc, .int .i64 n]
  unfold zeros38 zeros41 at F0
  have FH := Lib.hid F0
  have haI : (a : Int) < 16 := by omega
  have hbI : (b : Int) < 16 := by omega
  have hcI : (cc : Int) < 16 := by omega
  have SM := Lib.hid hm
  have ONM := Lib.hid hm1
  have HLN := Lib.hid hl
  have qa := (F0.c.cell a).trans (cpuCells_reg hl _ _ ha)
  have qb := (F0.c.cell b).trans (cpuCells_reg hl _ _ hb)
  have GA := Lib.hid (cpuCells_reg hl (.slice A1 n1 k1) (.slice A2 n2 k2) ha)
  have GB := Lib.hid (cpuCells_reg hl (.slice A1 n1 k1) (.slice A2 n2 k2) hb)
  have GC := Lib.hid (cpuCells_reg hl (.slice A1 n1 k1) (.slice A2 n2 k2) hcc)
  clear F0 hm hm1 hl
  generalize (c.r.getD a 0) = ra at *
  generalize (c.r.getD b 0) = rb at *
  generalize (c.r.getD cc 0) = rc at *
  have RK := Lib.hid (fun w => reckon_15 rb rc w ub uc)
  generalize alu 15 rb rc = av at *
  generalize hC0 : cpuCells c (.slice A1 n1 k1) (.slice A2 n2 k2) = C0 at *
  go_enter Tryd.func26, Tryd.ntmps26
  go_wp2_with fail
  go_quiet (fail)
  have FD := Lib.hid (FH.out.drawn nq)
  clear FH qa qb
  generalize ((((((w.alloc (.cells C0 38)).alloc (.cells MC 41)).alloc (.cells #[.int .i64 15, .int .i64 a, .int .i64 b, .int .i64 cc, .int .i64 n] 54)).alloc (.cells #[.int .u32 0, .int .u32 0, .int .u32 0, .int .u32 0, .int .u32 0, .int .u32 0, .int .u32 0, .int .u32 0, .int .u32 0, .int .u32 0, .int .u32 0, .int .u32 0, .int .u32 0, .int .u32 0, .int .u32 0, .int .u32 0, .int .u32 0, .int .u32 0, .int .u32 0, .int .i64 0, .int .i64 0, .int .i64 0, .int .i64 0, .slice none 0 0, .int .u32 0, .int .u32 0, .int .u32 0, .int .u32 0, .slice none 0 0] 38)).alloc (.cells #[.int .u32 0, .int .u32 0, .int .u32 0, .int .u32 0, .int .u32 0, .slice none 0 0] 41)).drewN nq) = W at *
  subst hC0
  have qa : W.cell? ⟨w.heap.size, a, none⟩ = some (.int .u32 ra) := (FD.out.c.cell a).trans GA.out
  have qc : W.cell? ⟨w.heap.size, cc, none⟩ = some (.int .u32 rc) := (FD.out.c.cell cc).trans GC.out
  have q14 : W.cell? ⟨w.heap.size, 14, none⟩ = some (.int .u32 (c.r.getD 14 0)) := (FD.out.c.cell 14).trans (cpuCells_reg HLN.out _ _ (by decide))
  have q16 : W.cell? ⟨w.heap.size, 16, none⟩ = some (.int .u32 c.pc) := (FD.out.c.cell 16).trans (cpuCells_pc HLN.out _ _)
  have q19 : W.cell? ⟨w.heap.size, 19, none⟩ = some (.int .i64 c.st) := (FD.out.c.cell 19).trans (cpuCells_st HLN.out _ _)
  have hf : ∀ j, W.frozen? ⟨w.heap.size, j, none⟩ = false := FD.out.c.free
  have g2 : w.heap.size + 1 + 1 ≠ w.heap.size := by omega
  have i0 : W.cell? ⟨w.heap.size + 1 + 1, 0, none⟩ = some (.int .i64 15) := FD.out.i.cell 0
  have i1 : W.cell? ⟨w.heap.size + 1 + 1, 1, none⟩ = some (.int .i64 a) := FD.out.i.cell 1
  have i3 : W.cell? ⟨w.heap.size + 1 + 1, 3, none⟩ = some (.int .i64 cc) := FD.out.i.cell 3
  have i4 : W.cell? ⟨w.heap.size + 1 + 1, 4, none⟩ = some (.int .i64 n) := FD.out.i.cell 4
  go_wp2_with fail
  go_quiet (first | (go_at_call 44; refine Calls.quiet_of_same ((RK.out _).mono (fun _ _ h => ⟨h.1, h.2.symm⟩))))
  have FD := Lib.hid (FD.out.drawn nq)
  clear i0 i1 i3 i4 qa qc q14 q16 q19 hf
  generalize hW2 : W.drewN nq = X at *
  clear hW2
  have i1 : X.cell? ⟨w.heap.size + 1 + 1, 1, none⟩ = some (.int .i64 a) := FD.out.i.cell 1
  have qa : X.cell? ⟨w.heap.size, a, none⟩ = some (.int .u32 ra) := (FD.out.c.cell a).trans GA.out
  have q16 : X.cell? ⟨w.heap.size, 16, none⟩ = some (.int .u32 c.pc) := (FD.out.c.cell 16).trans (cpuCells_pc HLN.out _ _)
  have hf : ∀ j, X.frozen? ⟨w.heap.size, j, none⟩ = false := FD.out.c.free
  go_wp2_with fail
  have FE := Lib.hid (show Fr w ((X.setCell ⟨w.heap.size, a, none⟩ (.int .u32 (av))).setCell ⟨w.heap.size, 16, none⟩ (.int .u32 ((c.pc + 4) % 4294967296))) (cpuCells (setC c a (av)) (.slice A1 n1 k1) (.slice A2 n2 k2)) MC _ from (FD.out.setReg HLN.out ha _).set_pc (by simp [HLN.out]) _)
  clear FD i1 qa q16 hf
  generalize (X.setCell ⟨w.heap.size, a, none⟩ (.int .u32 (av))).setCell ⟨w.heap.size, 16, none⟩ (.int .u32 ((c.pc + 4) % 4294967296)) = V at *
  have hlf : (setC c a (av)).r.length = 16 := by first | exact HLN.out | (show (List.set _ _ _).length = 16; rw [List.length_set]; exact HLN.out)
  have SZ := Lib.hid (cpuCells_size hlf (.slice A1 n1 k1) (.slice A2 n2 k2))
  have ONE := Lib.hid (cpu_one (setC c a (av)) (o := (.slice A1 n1 k1)) (i := (.slice A2 n2 k2)) rfl rfl)
  clear hlf
  generalize hC2 : cpuCells (setC c a (av)) (.slice A1 n1 k1) (.slice A2 n2 k2) = C2 at *
  have CE := Lib.hid hC2
  clear hC2
  have HC := Lib.hid FE.out.c
  have HM := Lib.hid FE.out.m
  have R1 := Lib.hid FE.out.r1
  have R2 := Lib.hid FE.out.r2
  have BV := Lib.hid FE.out.bel
  refine held_start 4 rfl (S := fun y => Whole y w.heap.size 38 C2 ∧ Whole y (w.heap.size + 1) 41 MC) (by kernel_rfl) ⟨HC.out.drew', HM.out.drew'⟩ (fun hS => ?_)
  refine wpAnyH_take (i := 0) (v := .agg C2) get0 ?_ ?_ ?_ ?_ ?_ hS ?_
  · kernel_rfl
  · kernel_rfl
  · kernel_rfl
  · exact fun _ _ _ h => h
  · exact take_load 38 (.tmp 3) rfl rfl (w.heap.size) rfl 38 C2 (fun _ h => h.1) _ Tryd.underlying38 rfl (infoCpu SZ.out)
  refine wpAnyH_take (i := 1) (v := .agg MC) get1 ?_ ?_ ?_ ?_ ?_ hS ?_
  · kernel_rfl
  · kernel_rfl
  · kernel_rfl
  · exact fun _ _ _ h => h
  · exact take_load 41 (.tmp 4) rfl rfl ((w.heap.size + 1)) rfl 41 MC (fun _ h => h.2) _ Tryd.underlying41 rfl (infoMem SM.out)
  refine held_step get2 (by kernel_rfl) (fun K hK => ?_)
  refine step_store 38 (.tmp 6) (.tmp 74) rfl rfl (w.heap.size + 1 + 1 + 1) C2 rfl rfl 38 zeros38 R1.out.drew' (infoCpu SZ.out) (by rw [SZ.out]; rfl) ONE.out ?_
  refine hK.out _ _ ⟨HC.out.drew'.only (by omega) (Only.setRow _ (w.heap.size + 1 + 1 + 1) C2), HM.out.drew'.only (by omega) (Only.setRow _ (w.heap.size + 1 + 1 + 1) C2)⟩ (fun hS2 => ?_)
  clear hK K
  refine held_step get3 (by kernel_rfl) (fun K hK => ?_)
  refine step_store 41 (.tmp 7) (.tmp 75) rfl rfl (w.heap.size + 1 + 1 + 1 + 1) MC rfl rfl 41 zeros41 (R2.out.drew'.only (by omega) (Only.setRow _ (w.heap.size + 1 + 1 + 1) C2)) (infoMem SM.out) (by rw [SM.out]; rfl) ONM.out ?_
  refine hK.out _ _ ⟨hS2.1.only (by omega) (Only.setRow _ (w.heap.size + 1 + 1 + 1 + 1) MC), hS2.2.only (by omega) (Only.setRow _ (w.heap.size + 1 + 1 + 1 + 1) MC)⟩ (fun hS3 => ?_)
  clear hK K
  refine wpAnyH_done (by kernel_rfl) ?_ _
  go_wp2_with fail
  refine bodyPost_ret (v := .tuple #[.agg C2, .agg MC]) (results_two_rows rfl _ _ (w.heap.size + 1 + 1 + 1) (w.heap.size + 1 + 1 + 1 + 1) 38 41 C2 MC _ _ rfl rfl ((R1.out.drew'.setRow C2).only (by omega) (Only.setRow _ (w.heap.size + 1 + 1 + 1 + 1) MC)) ((R2.out.drew'.only (by omega) (Only.setRow _ (w.heap.size + 1 + 1 + 1) C2)).setRow MC) Tryd.underlying38 rfl (infoCpu SZ.out) Tryd.underlying41 rfl (infoMem SM.out)) rfl ⟨by rw [CE.out], ((BV.out.drew.trans ((Only.setRow _ (w.heap.size + 1 + 1 + 1) C2).below (by omega) (by have := BV.out.size; simpa using this))).trans ((Only.setRow _ (w.heap.size + 1 + 1 + 1 + 1) MC).below (by omega) (by have := BV.out.size; simpa using this)))⟩

set_option maxHeartbeats 8000000 in
set_option maxRecDepth 100000 in
theorem refdo_16 (a b cc : Nat) (n : Int) (c : Cp) (A1 A2 : Option Addr) (n1 k1 n2 k2 : Nat) (MC : Array Value) (w : World) (ha : a < 16) (hb : b < 16) (hcc : cc < 16) (ub : 0 ≤ (c.r.getD b 0) ∧ (c.r.getD b 0) ≤ 4294967295) (uc : 0 ≤ (c.r.getD cc 0) ∧ (c.r.getD cc 0) ≤ 4294967295) (hl : c.r.length = 16) (hm : MC.size = 6) (hm1 : MC.all (·.oneCell') = true)  :
    Calls Tryd.prog 26 #[.agg (cpuCells c (.slice A1 n1 k1) (.slice A2 n2 k2)), .agg MC, .agg #[.int .i64 16, .int .i64 a, .int .i64 b, .int .i64 cc, .int .i64 n]] w fun e w' => e = .returned (.tuple #[.agg (cpuCells (setC c a (alu 16 (c.r.getD b 0) (c.r.getD cc 0))) (.slice A1 n1 k1) (.slice A2 n2 k2)), .agg MC]) ∧ Below w.heap.size w w' := by
  have F0 := fr_made w (cpuCells c (.slice A1 n1 k1) (.slice A2 n2 k2)) MC #[.int .i64 16, .int .i64 a, .int .i64 b, .int .i64 cc, .int .i64 n]
  unfold zeros38 zeros41 at F0
  have FH := Lib.hid F0
  have haI : (a : Int) < 16 := by omega
  have hbI : (b : Int) < 16 := by omega
  have hcI : (cc : Int) < 16 := by omega
  have SM := Lib.hid hm
  have ONM := Lib.hid hm1
  have HLN := Lib.hid hl
  have qa := (F0.c.cell a).trans (cpuCells_reg hl _ _ ha)
  have qb := (F0.c.cell b).trans (cpuCells_reg hl _ _ hb)
  have GA := Lib.hid (cpuCells_reg hl (.slice A1 n1 k1) (.slice A2 n2 k2) ha)
  have GB := Lib.hid (cpuCells_reg hl (.slice A1 n1 k1) (.slice A2 n2 k2) hb)
  have GC := Lib.hid (cpuCells_reg hl (.slice A1 n1 k1) (.slice A2 n2 k2) hcc)
  clear F0 hm hm1 hl
  generalize (c.r.getD a 0) = ra at *
  generalize (c.r.getD b 0) = rb at *
  generalize (c.r.getD cc 0) = rc at *
  have RK := Lib.hid (fun w => reckon_16 rb rc w ub uc)
  generalize alu 16 rb rc = av at *
  generalize hC0 : cpuCells c (.slice A1 n1 k1) (.slice A2 n2 k2) = C0 at *
  go_enter Tryd.func26, Tryd.ntmps26
  go_wp2_with fail
  go_quiet (fail)
  have FD := Lib.hid (FH.out.drawn nq)
  clear FH qa qb
  generalize ((((((w.alloc (.cells C0 38)).alloc (.cells MC 41)).alloc (.cells #[.int .i64 16, .int .i64 a, .int .i64 b, .int .i64 cc, .int .i64 n] 54)).alloc (.cells #[.int .u32 0, .int .u32 0, .int .u32 0, .int .u32 0, .int .u32 0, .int .u32 0, .int .u32 0, .int .u32 0, .int .u32 0, .int .u32 0, .int .u32 0, .int .u32 0, .int .u32 0, .int .u32 0, .int .u32 0, .int .u32 0, .int .u32 0, .int .u32 0, .int .u32 0, .int .i64 0, .int .i64 0, .int .i64 0, .int .i64 0, .slice none 0 0, .int .u32 0, .int .u32 0, .int .u32 0, .int .u32 0, .slice none 0 0] 38)).alloc (.cells #[.int .u32 0, .int .u32 0, .int .u32 0, .int .u32 0, .int .u32 0, .slice none 0 0] 41)).drewN nq) = W at *
  subst hC0
  have qa : W.cell? ⟨w.heap.size, a, none⟩ = some (.int .u32 ra) := (FD.out.c.cell a).trans GA.out
  have qc : W.cell? ⟨w.heap.size, cc, none⟩ = some (.int .u32 rc) := (FD.out.c.cell cc).trans GC.out
  have q14 : W.cell? ⟨w.heap.size, 14, none⟩ = some (.int .u32 (c.r.getD 14 0)) := (FD.out.c.cell 14).trans (cpuCells_reg HLN.out _ _ (by decide))
  have q16 : W.cell? ⟨w.heap.size, 16, none⟩ = some (.int .u32 c.pc) := (FD.out.c.cell 16).trans (cpuCells_pc HLN.out _ _)
  have q19 : W.cell? ⟨w.heap.size, 19, none⟩ = some (.int .i64 c.st) := (FD.out.c.cell 19).trans (cpuCells_st HLN.out _ _)
  have hf : ∀ j, W.frozen? ⟨w.heap.size, j, none⟩ = false := FD.out.c.free
  have g2 : w.heap.size + 1 + 1 ≠ w.heap.size := by omega
  have i0 : W.cell? ⟨w.heap.size + 1 + 1, 0, none⟩ = some (.int .i64 16) := FD.out.i.cell 0
  have i1 : W.cell? ⟨w.heap.size + 1 + 1, 1, none⟩ = some (.int .i64 a) := FD.out.i.cell 1
  have i3 : W.cell? ⟨w.heap.size + 1 + 1, 3, none⟩ = some (.int .i64 cc) := FD.out.i.cell 3
  have i4 : W.cell? ⟨w.heap.size + 1 + 1, 4, none⟩ = some (.int .i64 n) := FD.out.i.cell 4
  go_wp2_with fail
  go_quiet (first | (go_at_call 44; refine Calls.quiet_of_same ((RK.out _).mono (fun _ _ h => ⟨h.1, h.2.symm⟩))))
  have FD := Lib.hid (FD.out.drawn nq)
  clear i0 i1 i3 i4 qa qc q14 q16 q19 hf
  generalize hW2 : W.drewN nq = X at *
  clear hW2
  have i1 : X.cell? ⟨w.heap.size + 1 + 1, 1, none⟩ = some (.int .i64 a) := FD.out.i.cell 1
  have qa : X.cell? ⟨w.heap.size, a, none⟩ = some (.int .u32 ra) := (FD.out.c.cell a).trans GA.out
  have q16 : X.cell? ⟨w.heap.size, 16, none⟩ = some (.int .u32 c.pc) := (FD.out.c.cell 16).trans (cpuCells_pc HLN.out _ _)
  have hf : ∀ j, X.frozen? ⟨w.heap.size, j, none⟩ = false := FD.out.c.free
  go_wp2_with fail
  have FE := Lib.hid (show Fr w ((X.setCell ⟨w.heap.size, a, none⟩ (.int .u32 (av))).setCell ⟨w.heap.size, 16, none⟩ (.int .u32 ((c.pc + 4) % 4294967296))) (cpuCells (setC c a (av)) (.slice A1 n1 k1) (.slice A2 n2 k2)) MC _ from (FD.out.setReg HLN.out ha _).set_pc (by simp [HLN.out]) _)
  clear FD i1 qa q16 hf
  generalize (X.setCell ⟨w.heap.size, a, none⟩ (.int .u32 (av))).setCell ⟨w.heap.size, 16, none⟩ (.int .u32 ((c.pc + 4) % 4294967296)) = V at *
  have hlf : (setC c a (av)).r.length = 16 := by first | exact HLN.out | (show (List.set _ _ _).length = 16; rw [List.length_set]; exact HLN.out)
  have SZ := Lib.hid (cpuCells_size hlf (.slice A1 n1 k1) (.slice A2 n2 k2))
  have ONE := Lib.hid (cpu_one (setC c a (av)) (o := (.slice A1 n1 k1)) (i := (.slice A2 n2 k2)) rfl rfl)
  clear hlf
  generalize hC2 : cpuCells (setC c a (av)) (.slice A1 n1 k1) (.slice A2 n2 k2) = C2 at *
  have CE := Lib.hid hC2
  clear hC2
  have HC := Lib.hid FE.out.c
  have HM := Lib.hid FE.out.m
  have R1 := Lib.hid FE.out.r1
  have R2 := Lib.hid FE.out.r2
  have BV := Lib.hid FE.out.bel
  refine held_start 4 rfl (S := fun y => Whole y w.heap.size 38 C2 ∧ Whole y (w.heap.size + 1) 41 MC) (by kernel_rfl) ⟨HC.out.drew', HM.out.drew'⟩ (fun hS => ?_)
  refine wpAnyH_take (i := 0) (v := .agg C2) get0 ?_ ?_ ?_ ?_ ?_ hS ?_
  · kernel_rfl
  · kernel_rfl
  · kernel_rfl
  · exact fun _ _ _ h => h
  · exact take_load 38 (.tmp 3) rfl rfl (w.heap.size) rfl 38 C2 (fun _ h => h.1) _ Tryd.underlying38 rfl (infoCpu SZ.out)
  refine wpAnyH_take (i := 1) (v := .agg MC) get1 ?_ ?_ ?_ ?_ ?_ hS ?_
  · kernel_rfl
  · kernel_rfl
  · kernel_rfl
  · exact fun _ _ _ h => h
  · exact take_load 41 (.tmp 4) rfl rfl ((w.heap.size + 1)) rfl 41 MC (fun _ h => h.2) _ Tryd.underlying41 rfl (infoMem SM.out)
  refine held_step get2 (by kernel_rfl) (fun K hK => ?_)
  refine step_store 38 (.tmp 6) (.tmp 74) rfl rfl (w.heap.size + 1 + 1 + 1) C2 rfl rfl 38 zeros38 R1.out.drew' (infoCpu SZ.out) (by rw [SZ.out]; rfl) ONE.out ?_
  refine hK.out _ _ ⟨HC.out.drew'.only (by omega) (Only.setRow _ (w.heap.size + 1 + 1 + 1) C2), HM.out.drew'.only (by omega) (Only.setRow _ (w.heap.size + 1 + 1 + 1) C2)⟩ (fun hS2 => ?_)
  clear hK K
  refine held_step get3 (by kernel_rfl) (fun K hK => ?_)
  refine step_store 41 (.tmp 7) (.tmp 75) rfl rfl (w.heap.size + 1 + 1 + 1 + 1) MC rfl rfl 41 zeros41 (R2.out.drew'.only (by omega) (Only.setRow _ (w.heap.size + 1 + 1 + 1) C2)) (infoMem SM.out) (by rw [SM.out]; rfl) ONM.out ?_
  refine hK.out _ _ ⟨hS2.1.only (by omega) (Only.setRow _ (w.heap.size + 1 + 1 + 1 + 1) MC), hS2.2.only (by omega) (Only.setRow _ (w.heap.size + 1 + 1 + 1 + 1) MC)⟩ (fun hS3 => ?_)
  clear hK K
  refine wpAnyH_done (by kernel_rfl) ?_ _
  go_wp2_with fail
  refine bodyPost_ret (v := .tuple #[.agg C2, .agg MC]) (results_two_rows rfl _ _ (w.heap.size + 1 + 1 + 1) (w.heap.size + 1 + 1 + 1 + 1) 38 41 C2 MC _ _ rfl rfl ((R1.out.drew'.setRow C2).only (by omega) (Only.setRow _ (w.heap.size + 1 + 1 + 1 + 1) MC)) ((R2.out.drew'.only (by omega) (Only.setRow _ (w.heap.size + 1 + 1 + 1) C2)).setRow MC) Tryd.underlying38 rfl (infoCpu SZ.out) Tryd.underlying41 rfl (infoMem SM.out)) rfl ⟨by rw [CE.out], ((BV.out.drew.trans ((Only.setRow _ (w.heap.size + 1 + 1 + 1) C2).below (by omega) (by have := BV.out.size; simpa using this))).trans ((Only.setRow _ (w.heap.size + 1 + 1 + 1 + 1) MC).below (by omega) (by have := BV.out.size; simpa using this)))⟩

set_option maxHeartbeats 8000000 in
set_option maxRecDepth 100000 in
theorem refdo_17 (a b cc : Nat) (n : Int) (c : Cp) (A1 A2 : Option Addr) (n1 k1 n2 k2 : Nat) (MC : Array Value) (w : World) (ha : a < 16) (hb : b < 16) (hcc : cc < 16) (ub : 0 ≤ (c.r.getD b 0) ∧ (c.r.getD b 0) ≤ 4294967295) (uc : 0 ≤ (c.r.getD cc 0) ∧ (c.r.getD cc 0) ≤ 4294967295) (hl : c.r.length = 16) (hm : MC.size = 6) (hm1 : MC.all (·.oneCell') = true)  :
    Calls Tryd.prog 26 #[.agg (cpuCells c (.slice A1 n1 k1) (.slice A2 n2 k2)), .agg MC, .agg #[.int .i64 17, .int .i64 a, .int .i64 b, .int .i64 cc, .int .i64 n]] w fun e w' => e = .returned (.tuple #[.agg (cpuCells (setC c a (alu 17 (c.r.getD b 0) (c.r.getD cc 0))) (.slice A1 n1 k1) (.slice A2 n2 k2)), .agg MC]) ∧ Below w.heap.size w w' := by
  have F0 := fr_made w (cpuCells c (.slice A1 n1 k1) (.slice A2 n2 k2)) MC #[.int .i64 17, .int .i64 a, .int .i64 b, .int .i64 cc, .int .i64 n]
  unfold zeros38 zeros41 at F0
  have FH := Lib.hid F0
  have haI : (a : Int) < 16 := by omega
  have hbI : (b : Int) < 16 := by omega
  have hcI : (cc : Int) < 16 := by omega
  have SM := Lib.hid hm
  have ONM := Lib.hid hm1
  have HLN := Lib.hid hl
  have qa := (F0.c.cell a).trans (cpuCells_reg hl _ _ ha)
  have qb := (F0.c.cell b).trans (cpuCells_reg hl _ _ hb)
  have GA := Lib.hid (cpuCells_reg hl (.slice A1 n1 k1) (.slice A2 n2 k2) ha)
  have GB := Lib.hid (cpuCells_reg hl (.slice A1 n1 k1) (.slice A2 n2 k2) hb)
  have GC := Lib.hid (cpuCells_reg hl (.slice A1 n1 k1) (.slice A2 n2 k2) hcc)
  clear F0 hm hm1 hl
  generalize (c.r.getD a 0) = ra at *
  generalize (c.r.getD b 0) = rb at *
  generalize (c.r.getD cc 0) = rc at *
  have RK := Lib.hid (fun w => reckon_17 rb rc w ub uc)
  generalize alu 17 rb rc = av at *
  generalize hC0 : cpuCells c (.slice A1 n1 k1) (.slice A2 n2 k2) = C0 at *
  go_enter Tryd.func26, Tryd.ntmps26
  go_wp2_with fail
  go_quiet (fail)
  have FD := Lib.hid (FH.out.drawn nq)
  clear FH qa qb
  generalize ((((((w.alloc (.cells C0 38)).alloc (.cells MC 41)).alloc (.cells #[.int .i64 17, .int .i64 a, .int .i64 b, .int .i64 cc, .int .i64 n] 54)).alloc (.cells #[.int .u32 0, .int .u32 0, .int .u32 0, .int .u32 0, .int .u32 0, .int .u32 0, .int .u32 0, .int .u32 0, .int .u32 0, .int .u32 0, .int .u32 0, .int .u32 0, .int .u32 0, .int .u32 0, .int .u32 0, .int .u32 0, .int .u32 0, .int .u32 0, .int .u32 0, .int .i64 0, .int .i64 0, .int .i64 0, .int .i64 0, .slice none 0 0, .int .u32 0, .int .u32 0, .int .u32 0, .int .u32 0, .slice none 0 0] 38)).alloc (.cells #[.int .u32 0, .int .u32 0, .int .u32 0, .int .u32 0, .int .u32 0, .slice none 0 0] 41)).drewN nq) = W at *
  subst hC0
  have qa : W.cell? ⟨w.heap.size, a, none⟩ = some (.int .u32 ra) := (FD.out.c.cell a).trans GA.out
  have qc : W.cell? ⟨w.heap.size, cc, none⟩ = some (.int .u32 rc) := (FD.out.c.cell cc).trans GC.out
  have q14 : W.cell? ⟨w.heap.size, 14, none⟩ = some (.int .u32 (c.r.getD 14 0)) := (FD.out.c.cell 14).trans (cpuCells_reg HLN.out _ _ (by decide))
  have q16 : W.cell? ⟨w.heap.size, 16, none⟩ = some (.int .u32 c.pc) := (FD.out.c.cell 16).trans (cpuCells_pc HLN.out _ _)
  have q19 : W.cell? ⟨w.heap.size, 19, none⟩ = some (.int .i64 c.st) := (FD.out.c.cell 19).trans (cpuCells_st HLN.out _ _)
  have hf : ∀ j, W.frozen? ⟨w.heap.size, j, none⟩ = false := FD.out.c.free
  have g2 : w.heap.size + 1 + 1 ≠ w.heap.size := by omega
  have i0 : W.cell? ⟨w.heap.size + 1 + 1, 0, none⟩ = some (.int .i64 17) := FD.out.i.cell 0
  have i1 : W.cell? ⟨w.heap.size + 1 + 1, 1, none⟩ = some (.int .i64 a) := FD.out.i.cell 1
  have i3 : W.cell? ⟨w.heap.size + 1 + 1, 3, none⟩ = some (.int .i64 cc) := FD.out.i.cell 3
  have i4 : W.cell? ⟨w.heap.size + 1 + 1, 4, none⟩ = some (.int .i64 n) := FD.out.i.cell 4
  go_wp2_with fail
  go_quiet (first | (go_at_call 44; refine Calls.quiet_of_same ((RK.out _).mono (fun _ _ h => ⟨h.1, h.2.symm⟩))))
  have FD := Lib.hid (FD.out.drawn nq)
  clear i0 i1 i3 i4 qa qc q14 q16 q19 hf
  generalize hW2 : W.drewN nq = X at *
  clear hW2
  have i1 : X.cell? ⟨w.heap.size + 1 + 1, 1, none⟩ = some (.int .i64 a) := FD.out.i.cell 1
  have qa : X.cell? ⟨w.heap.size, a, none⟩ = some (.int .u32 ra) := (FD.out.c.cell a).trans GA.out
  have q16 : X.cell? ⟨w.heap.size, 16, none⟩ = some (.int .u32 c.pc) := (FD.out.c.cell 16).trans (cpuCells_pc HLN.out _ _)
  have hf : ∀ j, X.frozen? ⟨w.heap.size, j, none⟩ = false := FD.out.c.free
  go_wp2_with fail
  have FE := Lib.hid (show Fr w ((X.setCell ⟨w.heap.size, a, none⟩ (.int .u32 (av))).setCell ⟨w.heap.size, 16, none⟩ (.int .u32 ((c.pc + 4) % 4294967296))) (cpuCells (setC c a (av)) (.slice A1 n1 k1) (.slice A2 n2 k2)) MC _ from (FD.out.setReg HLN.out ha _).set_pc (by simp [HLN.out]) _)
  clear FD i1 qa q16 hf
  generalize (X.setCell ⟨w.heap.size, a, none⟩ (.int .u32 (av))).setCell ⟨w.heap.size, 16, none⟩ (.int .u32 ((c.pc + 4) % 4294967296)) = V at *
  have hlf : (setC c a (av)).r.length = 16 := by first | exact HLN.out | (show (List.set _ _ _).length = 16; rw [List.length_set]; exact HLN.out)
  have SZ := Lib.hid (cpuCells_size hlf (.slice A1 n1 k1) (.slice A2 n2 k2))
  have ONE := Lib.hid (cpu_one (setC c a (av)) (o := (.slice A1 n1 k1)) (i := (.slice A2 n2 k2)) rfl rfl)
  clear hlf
  generalize hC2 : cpuCells (setC c a (av)) (.slice A1 n1 k1) (.slice A2 n2 k2) = C2 at *
  have CE := Lib.hid hC2
  clear hC2
  have HC := Lib.hid FE.out.c
  have HM := Lib.hid FE.out.m
  have R1 := Lib.hid FE.out.r1
  have R2 := Lib.hid FE.out.r2
  have BV := Lib.hid FE.out.bel
  refine held_start 4 rfl (S := fun y => Whole y w.heap.size 38 C2 ∧ Whole y (w.heap.size + 1) 41 MC) (by kernel_rfl) ⟨HC.out.drew', HM.out.drew'⟩ (fun hS => ?_)
  refine wpAnyH_take (i := 0) (v := .agg C2) get0 ?_ ?_ ?_ ?_ ?_ hS ?_
  · kernel_rfl
  · kernel_rfl
  · kernel_rfl
  · exact fun _ _ _ h => h
  · exact take_load 38 (.tmp 3) rfl rfl (w.heap.size) rfl 38 C2 (fun _ h => h.1) _ Tryd.underlying38 rfl (infoCpu SZ.out)
  refine wpAnyH_take (i := 1) (v := .agg MC) get1 ?_ ?_ ?_ ?_ ?_ hS ?_
  · kernel_rfl
  · kernel_rfl
  · kernel_rfl
  · exact fun _ _ _ h => h
  · exact take_load 41 (.tmp 4) rfl rfl ((w.heap.size + 1)) rfl 41 MC (fun _ h => h.2) _ Tryd.underlying41 rfl (infoMem SM.out)
  refine held_step get2 (by kernel_rfl) (fun K hK => ?_)
  refine step_store 38 (.tmp 6) (.tmp 74) rfl rfl (w.heap.size + 1 + 1 + 1) C2 rfl rfl 38 zeros38 R1.out.drew' (infoCpu SZ.out) (by rw [SZ.out]; rfl) ONE.out ?_
  refine hK.out _ _ ⟨HC.out.drew'.only (by omega) (Only.setRow _ (w.heap.size + 1 + 1 + 1) C2), HM.out.drew'.only (by omega) (Only.setRow _ (w.heap.size + 1 + 1 + 1) C2)⟩ (fun hS2 => ?_)
  clear hK K
  refine held_step get3 (by kernel_rfl) (fun K hK => ?_)
  refine step_store 41 (.tmp 7) (.tmp 75) rfl rfl (w.heap.size + 1 + 1 + 1 + 1) MC rfl rfl 41 zeros41 (R2.out.drew'.only (by omega) (Only.setRow _ (w.heap.size + 1 + 1 + 1) C2)) (infoMem SM.out) (by rw [SM.out]; rfl) ONM.out ?_
  refine hK.out _ _ ⟨hS2.1.only (by omega) (Only.setRow _ (w.heap.size + 1 + 1 + 1 + 1) MC), hS2.2.only (by omega) (Only.setRow _ (w.heap.size + 1 + 1 + 1 + 1) MC)⟩ (fun hS3 => ?_)
  clear hK K
  refine wpAnyH_done (by kernel_rfl) ?_ _
  go_wp2_with fail
  refine bodyPost_ret (v := .tuple #[.agg C2, .agg MC]) (results_two_rows rfl _ _ (w.heap.size + 1 + 1 + 1) (w.heap.size + 1 + 1 + 1 + 1) 38 41 C2 MC _ _ rfl rfl ((R1.out.drew'.setRow C2).only (by omega) (Only.setRow _ (w.heap.size + 1 + 1 + 1 + 1) MC)) ((R2.out.drew'.only (by omega) (Only.setRow _ (w.heap.size + 1 + 1 + 1) C2)).setRow MC) Tryd.underlying38 rfl (infoCpu SZ.out) Tryd.underlying41 rfl (infoMem SM.out)) rfl ⟨by rw [CE.out], ((BV.out.drew.trans ((Only.setRow _ (w.heap.size + 1 + 1 + 1) C2).below (by omega) (by have := BV.out.size; simpa using this))).trans ((Only.setRow _ (w.heap.size + 1 + 1 + 1 + 1) MC).below (by omega) (by have := BV.out.size; simpa using this)))⟩

end Go.Proofs.YtinpdgjbiimgkaaDoor
