/- The answers' processor: others, by operation. -/
import Derived.Test.YtinpdgjbiimgkaaDoorCpuQA
import Derived.Test.YtinpdgjbiimgkaaDoorCpuP
namespace Go.Proofs.YtinpdgjbiimgkaaDoor
open Go.ChangeShapes Go.WideShapes Go.ChangeAt Go.RowKit
set_option linter.unusedVariables false

theorem trapC_len {c : Cp} {z : Int} (h : c.r.length = 16) : (trapC c z).r.length = 16 := by
  unfold trapC
  split <;> exact h

set_option maxHeartbeats 4000000 in
set_option maxRecDepth 100000 in
theorem refothers_24 (a b cc : Nat) (n x : Int) (c : Cp) (A1 A2 : Option Addr) (n1 k1 n2 k2 : Nat) (w : World) (ha : a < 16) (hb : b < 16) (ux : 0 ≤ x ∧ x ≤ 4294967295) (hl : c.r.length = 16)  :
    Calls Tryd.prog 47 #[.agg (cpuCells c (.slice A1 n1 k1) (.slice A2 n2 k2)), .agg #[.int .i64 24, .int .i64 a, .int .i64 b, .int .i64 cc, .int .i64 n], .int .u32 x] w fun e w' => e = .returned (.agg (cpuCells ({ c with pc := x }) (.slice A1 n1 k1) (.slice A2 n2 k2))) ∧ Below w.heap.size w w' := by
  have g16 := cpuCells_pc hl (.slice A1 n1 k1) (.slice A2 n2 k2)
  have haI : (a : Int) < 16 := by omega
  have hbI : (b : Int) < 32 := by omega
  have s0 := cpuCells_set_pc (c := c) (by simp [hl]) (.slice A1 n1 k1) (.slice A2 n2 k2) (x)
  have t0 := cpuCells_pc (c := c) (by simp [hl]) (.slice A1 n1 k1) (.slice A2 n2 k2)
  have hl2 : ({ c with pc := x } : Cp).r.length = 16 := by simp [hl]
  have SZ := Lib.hid (cpuCells_size hl2 (.slice A1 n1 k1) (.slice A2 n2 k2))
  have ONE := Lib.hid (cpu_one ({ c with pc := x }) (o := (.slice A1 n1 k1)) (i := (.slice A2 n2 k2)) rfl rfl)
  have EQ := Lib.hid (show cpuCells ({ c with pc := x }) (.slice A1 n1 k1) (.slice A2 n2 k2) = cpuCells ({ c with pc := x }) (.slice A1 n1 k1) (.slice A2 n2 k2) by first | rfl | (unfold setC passC w32; simp))
  rw [EQ.out]
  clear EQ hl2 hl
  generalize cpuCells c (.slice A1 n1 k1) (.slice A2 n2 k2) = C0 at *
  generalize cpuCells ({ c with pc := x }) (.slice A1 n1 k1) (.slice A2 n2 k2) = C1 at *
  have W1 := Lib.hid (((Whole.made w 38 C1 _ rfl).alloc (.cells #[.int .i64 24, .int .i64 a, .int .i64 b, .int .i64 cc, .int .i64 n] 54)).alloc (.cells zeros38 38))
  have W2 := Lib.hid (Whole.made ((w.alloc (.cells C1 38)).alloc (.cells #[.int .i64 24, .int .i64 a, .int .i64 b, .int .i64 cc, .int .i64 n] 54)) 38 zeros38 (w.heap.size + 1 + 1) (by simp))
  have B0 := Lib.hid ((((Below.refl w.heap.size w).alloc (Nat.le_refl _) (.cells C1 38)).alloc (by simp; try omega) (.cells #[.int .i64 24, .int .i64 a, .int .i64 b, .int .i64 cc, .int .i64 n] 54)).alloc (by simp; try omega) (.cells zeros38 38))
  go_enter Tryd.func47, Tryd.ntmps47
  go_wp2_with (first
    | (refine wpList_load_row rfl 38 (.tmp 3) rfl w.heap.size rfl 38 C1 (0, 0) _ W1.out Tryd.underlying38 rfl (infoCpu SZ.out) ?_)
    | (refine wpList_store_row rfl 38 (.tmp 6) (.tmp 125) rfl (w.heap.size + 1 + 1) C1 rfl rfl 38 zeros38 W2.out (infoCpu SZ.out) (by rw [SZ.out]; rfl) ONE.out ?_))
  exact bodyPost_ret (v := .agg C1) (results_cell_row rfl _ _ (w.heap.size + 1 + 1) 38 C1 (0, 0) _ rfl (W2.out.setRow C1) Tryd.underlying38 rfl (infoCpu SZ.out)) rfl ⟨rfl, B0.out.trans ((Only.setRow _ (w.heap.size + 1 + 1) C1).below (by omega) B0.out.size)⟩

set_option maxHeartbeats 4000000 in
set_option maxRecDepth 100000 in
theorem refothers_25 (a b cc : Nat) (n x : Int) (c : Cp) (A1 A2 : Option Addr) (n1 k1 n2 k2 : Nat) (w : World) (ha : a < 16) (hb : b < 16) (ux : 0 ≤ x ∧ x ≤ 4294967295) (hl : c.r.length = 16)  :
    Calls Tryd.prog 47 #[.agg (cpuCells c (.slice A1 n1 k1) (.slice A2 n2 k2)), .agg #[.int .i64 25, .int .i64 a, .int .i64 b, .int .i64 cc, .int .i64 n], .int .u32 x] w fun e w' => e = .returned (.agg (cpuCells ({ c with r := c.r.set 14 (w32 (c.pc + 4)), pc := x }) (.slice A1 n1 k1) (.slice A2 n2 k2))) ∧ Below w.heap.size w w' := by
  have g16 := cpuCells_pc hl (.slice A1 n1 k1) (.slice A2 n2 k2)
  have haI : (a : Int) < 16 := by omega
  have hbI : (b : Int) < 32 := by omega
  have s0 := cpuCells_setReg (c := c) hl (.slice A1 n1 k1) (.slice A2 n2 k2) (show 14 < 16 by decide) ((c.pc + 4) % 4294967296)
  have t0 := cpuCells_reg (c := c) (by simp [hl]) (.slice A1 n1 k1) (.slice A2 n2 k2) (show 14 < 16 by decide)
  have s1 := cpuCells_set_pc (c := { c with r := c.r.set 14 ((c.pc + 4) % 4294967296) }) (by simp [hl]) (.slice A1 n1 k1) (.slice A2 n2 k2) x
  have t1 := cpuCells_pc (c := { c with r := c.r.set 14 ((c.pc + 4) % 4294967296) }) (by simp [hl]) (.slice A1 n1 k1) (.slice A2 n2 k2)
  have hl2 : ({ c with r := c.r.set 14 ((c.pc + 4) % 4294967296), pc := x } : Cp).r.length = 16 := by simp [hl]
  have SZ := Lib.hid (cpuCells_size hl2 (.slice A1 n1 k1) (.slice A2 n2 k2))
  have ONE := Lib.hid (cpu_one ({ c with r := c.r.set 14 ((c.pc + 4) % 4294967296), pc := x }) (o := (.slice A1 n1 k1)) (i := (.slice A2 n2 k2)) rfl rfl)
  have EQ := Lib.hid (show cpuCells ({ c with r := c.r.set 14 (w32 (c.pc + 4)), pc := x }) (.slice A1 n1 k1) (.slice A2 n2 k2) = cpuCells ({ c with r := c.r.set 14 ((c.pc + 4) % 4294967296), pc := x }) (.slice A1 n1 k1) (.slice A2 n2 k2) by first | rfl | (unfold setC passC w32; simp))
  rw [EQ.out]
  clear EQ hl2 hl
  generalize cpuCells c (.slice A1 n1 k1) (.slice A2 n2 k2) = C0 at *
  generalize cpuCells ({ c with r := c.r.set 14 ((c.pc + 4) % 4294967296) }) (.slice A1 n1 k1) (.slice A2 n2 k2) = C1 at *
  generalize cpuCells ({ c with r := c.r.set 14 ((c.pc + 4) % 4294967296), pc := x }) (.slice A1 n1 k1) (.slice A2 n2 k2) = C2 at *
  have W1 := Lib.hid (((Whole.made w 38 C2 _ rfl).alloc (.cells #[.int .i64 25, .int .i64 a, .int .i64 b, .int .i64 cc, .int .i64 n] 54)).alloc (.cells zeros38 38))
  have W2 := Lib.hid (Whole.made ((w.alloc (.cells C2 38)).alloc (.cells #[.int .i64 25, .int .i64 a, .int .i64 b, .int .i64 cc, .int .i64 n] 54)) 38 zeros38 (w.heap.size + 1 + 1) (by simp))
  have B0 := Lib.hid ((((Below.refl w.heap.size w).alloc (Nat.le_refl _) (.cells C2 38)).alloc (by simp; try omega) (.cells #[.int .i64 25, .int .i64 a, .int .i64 b, .int .i64 cc, .int .i64 n] 54)).alloc (by simp; try omega) (.cells zeros38 38))
  go_enter Tryd.func47, Tryd.ntmps47
  go_wp2_with (first
    | (refine wpList_load_row rfl 38 (.tmp 3) rfl w.heap.size rfl 38 C2 (0, 0) _ W1.out Tryd.underlying38 rfl (infoCpu SZ.out) ?_)
    | (refine wpList_store_row rfl 38 (.tmp 6) (.tmp 125) rfl (w.heap.size + 1 + 1) C2 rfl rfl 38 zeros38 W2.out (infoCpu SZ.out) (by rw [SZ.out]; rfl) ONE.out ?_))
  exact bodyPost_ret (v := .agg C2) (results_cell_row rfl _ _ (w.heap.size + 1 + 1) 38 C2 (0, 0) _ rfl (W2.out.setRow C2) Tryd.underlying38 rfl (infoCpu SZ.out)) rfl ⟨rfl, B0.out.trans ((Only.setRow _ (w.heap.size + 1 + 1) C2).below (by omega) B0.out.size)⟩

set_option maxHeartbeats 4000000 in
set_option maxRecDepth 100000 in
theorem refothers_26_pass (a b cc : Nat) (n x : Int) (c : Cp) (A1 A2 : Option Addr) (n1 k1 n2 k2 : Nat) (w : World) (ha : a < 16) (hb : b < 16) (ux : 0 ≤ x ∧ x ≤ 4294967295) (hl : c.r.length = 16) (hd : decide (n % 4294967296 ≤ x) = false) :
    Calls Tryd.prog 47 #[.agg (cpuCells c (.slice A1 n1 k1) (.slice A2 n2 k2)), .agg #[.int .i64 26, .int .i64 a, .int .i64 b, .int .i64 cc, .int .i64 n], .int .u32 x] w fun e w' => e = .returned (.agg (cpuCells (passC c) (.slice A1 n1 k1) (.slice A2 n2 k2))) ∧ Below w.heap.size w w' := by
  have g16 := cpuCells_pc hl (.slice A1 n1 k1) (.slice A2 n2 k2)
  have haI : (a : Int) < 16 := by omega
  have hbI : (b : Int) < 32 := by omega
  have s0 := cpuCells_set_pc (c := c) (by simp [hl]) (.slice A1 n1 k1) (.slice A2 n2 k2) ((c.pc + 4) % 4294967296)
  have t0 := cpuCells_pc (c := c) (by simp [hl]) (.slice A1 n1 k1) (.slice A2 n2 k2)
  have hl2 : ({ c with pc := ((c.pc + 4) % 4294967296) } : Cp).r.length = 16 := by simp [hl]
  have SZ := Lib.hid (cpuCells_size hl2 (.slice A1 n1 k1) (.slice A2 n2 k2))
  have ONE := Lib.hid (cpu_one ({ c with pc := ((c.pc + 4) % 4294967296) }) (o := (.slice A1 n1 k1)) (i := (.slice A2 n2 k2)) rfl rfl)
  have EQ := Lib.hid (show cpuCells (passC c) (.slice A1 n1 k1) (.slice A2 n2 k2) = cpuCells ({ c with pc := ((c.pc + 4) % 4294967296) }) (.slice A1 n1 k1) (.slice A2 n2 k2) by first | rfl | (unfold setC passC w32; simp))
  rw [EQ.out]
  clear EQ hl2 hl
  generalize cpuCells c (.slice A1 n1 k1) (.slice A2 n2 k2) = C0 at *
  generalize cpuCells ({ c with pc := ((c.pc + 4) % 4294967296) }) (.slice A1 n1 k1) (.slice A2 n2 k2) = C1 at *
  have W1 := Lib.hid (((Whole.made w 38 C1 _ rfl).alloc (.cells #[.int .i64 26, .int .i64 a, .int .i64 b, .int .i64 cc, .int .i64 n] 54)).alloc (.cells zeros38 38))
  have W2 := Lib.hid (Whole.made ((w.alloc (.cells C1 38)).alloc (.cells #[.int .i64 26, .int .i64 a, .int .i64 b, .int .i64 cc, .int .i64 n] 54)) 38 zeros38 (w.heap.size + 1 + 1) (by simp))
  have B0 := Lib.hid ((((Below.refl w.heap.size w).alloc (Nat.le_refl _) (.cells C1 38)).alloc (by simp; try omega) (.cells #[.int .i64 26, .int .i64 a, .int .i64 b, .int .i64 cc, .int .i64 n] 54)).alloc (by simp; try omega) (.cells zeros38 38))
  go_enter Tryd.func47, Tryd.ntmps47
  go_wp2_with (first
    | (refine wpList_load_row rfl 38 (.tmp 3) rfl w.heap.size rfl 38 C1 (0, 0) _ W1.out Tryd.underlying38 rfl (infoCpu SZ.out) ?_)
    | (refine wpList_store_row rfl 38 (.tmp 6) (.tmp 125) rfl (w.heap.size + 1 + 1) C1 rfl rfl 38 zeros38 W2.out (infoCpu SZ.out) (by rw [SZ.out]; rfl) ONE.out ?_))
  exact bodyPost_ret (v := .agg C1) (results_cell_row rfl _ _ (w.heap.size + 1 + 1) 38 C1 (0, 0) _ rfl (W2.out.setRow C1) Tryd.underlying38 rfl (infoCpu SZ.out)) rfl ⟨rfl, B0.out.trans ((Only.setRow _ (w.heap.size + 1 + 1) C1).below (by omega) B0.out.size)⟩

set_option maxHeartbeats 4000000 in
set_option maxRecDepth 100000 in
theorem refothers_26_trap (a b cc : Nat) (n x : Int) (c : Cp) (A1 A2 : Option Addr) (n1 k1 n2 k2 : Nat) (w : World) (ha : a < 16) (hb : b < 16) (ux : 0 ≤ x ∧ x ≤ 4294967295) (hl : c.r.length = 16) (hd : decide (n % 4294967296 ≤ x) = true) :
    Calls Tryd.prog 47 #[.agg (cpuCells c (.slice A1 n1 k1) (.slice A2 n2 k2)), .agg #[.int .i64 26, .int .i64 a, .int .i64 b, .int .i64 cc, .int .i64 n], .int .u32 x] w fun e w' => e = .returned (.agg (cpuCells (trapC c b) (.slice A1 n1 k1) (.slice A2 n2 k2))) ∧ Below w.heap.size w w' := by
  have g16 := cpuCells_pc hl (.slice A1 n1 k1) (.slice A2 n2 k2)
  have haI : (a : Int) < 16 := by omega
  have hbI : (b : Int) < 32 := by omega
  have CT := Lib.hid (fun w => reftrap_any c A1 A2 n1 k1 n2 k2 (b)  w hl)
  have SZ0 := Lib.hid (cpuCells_size hl (.slice A1 n1 k1) (.slice A2 n2 k2))
  have hl2 : (trapC c b : Cp).r.length = 16 := trapC_len hl
  have SZ := Lib.hid (cpuCells_size hl2 (.slice A1 n1 k1) (.slice A2 n2 k2))
  have ONE := Lib.hid (cpu_one (trapC c b) (o := (.slice A1 n1 k1)) (i := (.slice A2 n2 k2)) rfl rfl)
  clear hl2 hl
  generalize cpuCells c (.slice A1 n1 k1) (.slice A2 n2 k2) = C0 at *
  generalize cpuCells (trapC c b) (.slice A1 n1 k1) (.slice A2 n2 k2) = C2 at *
  have W1 := Lib.hid (((Whole.made w 38 C0 _ rfl).alloc (.cells #[.int .i64 26, .int .i64 a, .int .i64 b, .int .i64 cc, .int .i64 n] 54)).alloc (.cells zeros38 38))
  have W2 := Lib.hid (Whole.made ((w.alloc (.cells C0 38)).alloc (.cells #[.int .i64 26, .int .i64 a, .int .i64 b, .int .i64 cc, .int .i64 n] 54)) 38 zeros38 (w.heap.size + 1 + 1) (by simp))
  have B0 := Lib.hid ((((Below.refl w.heap.size w).alloc (Nat.le_refl _) (.cells C0 38)).alloc (by simp; try omega) (.cells #[.int .i64 26, .int .i64 a, .int .i64 b, .int .i64 cc, .int .i64 n] 54)).alloc (by simp; try omega) (.cells zeros38 38))
  go_enter Tryd.func47, Tryd.ntmps47
  go_wp2_with (refine wpList_load_row rfl 38 (.tmp 3) rfl w.heap.size rfl 38 C0 (0, 0) _ W1.out Tryd.underlying38 rfl (infoCpu SZ0.out) ?_)
  refine (CT.out _).mono ?_
  rintro e w1 ⟨rfl, hb1⟩
  have W3 := Lib.hid (W2.out.below hb1 W2.out.lt)
  have B1 := Lib.hid (B0.out.trans (hb1.mono B0.out.size))
  clear hb1 W1 W2 B0
  go_wp2_with (refine wpList_store_row rfl 38 (.tmp 6) (.tmp 33) rfl (w.heap.size + 1 + 1) C2 rfl rfl 38 zeros38 W3.out (infoCpu SZ.out) (by rw [SZ.out]; rfl) ONE.out ?_)
  exact bodyPost_ret (v := .agg C2) (results_cell_row rfl _ _ (w.heap.size + 1 + 1) 38 C2 (0, 0) _ rfl (W3.out.setRow C2) Tryd.underlying38 rfl (infoCpu SZ.out)) rfl ⟨rfl, B1.out.trans ((Only.setRow _ (w.heap.size + 1 + 1) C2).below (by omega) B1.out.size)⟩

set_option maxHeartbeats 4000000 in
set_option maxRecDepth 100000 in
theorem refothers_27_pass (a b cc : Nat) (n x : Int) (c : Cp) (A1 A2 : Option Addr) (n1 k1 n2 k2 : Nat) (w : World) (ha : a < 16) (hb : b < 16) (ux : 0 ≤ x ∧ x ≤ 4294967295) (hl : c.r.length = 16) (hd : (x == 0) = false) :
    Calls Tryd.prog 47 #[.agg (cpuCells c (.slice A1 n1 k1) (.slice A2 n2 k2)), .agg #[.int .i64 27, .int .i64 a, .int .i64 b, .int .i64 cc, .int .i64 n], .int .u32 x] w fun e w' => e = .returned (.agg (cpuCells (passC c) (.slice A1 n1 k1) (.slice A2 n2 k2))) ∧ Below w.heap.size w w' := by
  have g16 := cpuCells_pc hl (.slice A1 n1 k1) (.slice A2 n2 k2)
  have haI : (a : Int) < 16 := by omega
  have hbI : (b : Int) < 32 := by omega
  have s0 := cpuCells_set_pc (c := c) (by simp [hl]) (.slice A1 n1 k1) (.slice A2 n2 k2) ((c.pc + 4) % 4294967296)
  have t0 := cpuCells_pc (c := c) (by simp [hl]) (.slice A1 n1 k1) (.slice A2 n2 k2)
  have hl2 : ({ c with pc := ((c.pc + 4) % 4294967296) } : Cp).r.length = 16 := by simp [hl]
  have SZ := Lib.hid (cpuCells_size hl2 (.slice A1 n1 k1) (.slice A2 n2 k2))
  have ONE := Lib.hid (cpu_one ({ c with pc := ((c.pc + 4) % 4294967296) }) (o := (.slice A1 n1 k1)) (i := (.slice A2 n2 k2)) rfl rfl)
  have EQ := Lib.hid (show cpuCells (passC c) (.slice A1 n1 k1) (.slice A2 n2 k2) = cpuCells ({ c with pc := ((c.pc + 4) % 4294967296) }) (.slice A1 n1 k1) (.slice A2 n2 k2) by first | rfl | (unfold setC passC w32; simp))
  rw [EQ.out]
  clear EQ hl2 hl
  generalize cpuCells c (.slice A1 n1 k1) (.slice A2 n2 k2) = C0 at *
  generalize cpuCells ({ c with pc := ((c.pc + 4) % 4294967296) }) (.slice A1 n1 k1) (.slice A2 n2 k2) = C1 at *
  have W1 := Lib.hid (((Whole.made w 38 C1 _ rfl).alloc (.cells #[.int .i64 27, .int .i64 a, .int .i64 b, .int .i64 cc, .int .i64 n] 54)).alloc (.cells zeros38 38))
  have W2 := Lib.hid (Whole.made ((w.alloc (.cells C1 38)).alloc (.cells #[.int .i64 27, .int .i64 a, .int .i64 b, .int .i64 cc, .int .i64 n] 54)) 38 zeros38 (w.heap.size + 1 + 1) (by simp))
  have B0 := Lib.hid ((((Below.refl w.heap.size w).alloc (Nat.le_refl _) (.cells C1 38)).alloc (by simp; try omega) (.cells #[.int .i64 27, .int .i64 a, .int .i64 b, .int .i64 cc, .int .i64 n] 54)).alloc (by simp; try omega) (.cells zeros38 38))
  go_enter Tryd.func47, Tryd.ntmps47
  go_wp2_with (first
    | (refine wpList_load_row rfl 38 (.tmp 3) rfl w.heap.size rfl 38 C1 (0, 0) _ W1.out Tryd.underlying38 rfl (infoCpu SZ.out) ?_)
    | (refine wpList_store_row rfl 38 (.tmp 6) (.tmp 125) rfl (w.heap.size + 1 + 1) C1 rfl rfl 38 zeros38 W2.out (infoCpu SZ.out) (by rw [SZ.out]; rfl) ONE.out ?_))
  exact bodyPost_ret (v := .agg C1) (results_cell_row rfl _ _ (w.heap.size + 1 + 1) 38 C1 (0, 0) _ rfl (W2.out.setRow C1) Tryd.underlying38 rfl (infoCpu SZ.out)) rfl ⟨rfl, B0.out.trans ((Only.setRow _ (w.heap.size + 1 + 1) C1).below (by omega) B0.out.size)⟩

set_option maxHeartbeats 4000000 in
set_option maxRecDepth 100000 in
theorem refothers_27_trap (a b cc : Nat) (n x : Int) (c : Cp) (A1 A2 : Option Addr) (n1 k1 n2 k2 : Nat) (w : World) (ha : a < 16) (hb : b < 16) (ux : 0 ≤ x ∧ x ≤ 4294967295) (hl : c.r.length = 16) (hd : (x == 0) = true) :
    Calls Tryd.prog 47 #[.agg (cpuCells c (.slice A1 n1 k1) (.slice A2 n2 k2)), .agg #[.int .i64 27, .int .i64 a, .int .i64 b, .int .i64 cc, .int .i64 n], .int .u32 x] w fun e w' => e = .returned (.agg (cpuCells (trapC c 2) (.slice A1 n1 k1) (.slice A2 n2 k2))) ∧ Below w.heap.size w w' := by
  have g16 := cpuCells_pc hl (.slice A1 n1 k1) (.slice A2 n2 k2)
  have haI : (a : Int) < 16 := by omega
  have hbI : (b : Int) < 32 := by omega
  have CT := Lib.hid (fun w => reftrap_any c A1 A2 n1 k1 n2 k2 (2)  w hl)
  have SZ0 := Lib.hid (cpuCells_size hl (.slice A1 n1 k1) (.slice A2 n2 k2))
  have hl2 : (trapC c 2 : Cp).r.length = 16 := trapC_len hl
  have SZ := Lib.hid (cpuCells_size hl2 (.slice A1 n1 k1) (.slice A2 n2 k2))
  have ONE := Lib.hid (cpu_one (trapC c 2) (o := (.slice A1 n1 k1)) (i := (.slice A2 n2 k2)) rfl rfl)
  clear hl2 hl
  generalize cpuCells c (.slice A1 n1 k1) (.slice A2 n2 k2) = C0 at *
  generalize cpuCells (trapC c 2) (.slice A1 n1 k1) (.slice A2 n2 k2) = C2 at *
  have W1 := Lib.hid (((Whole.made w 38 C0 _ rfl).alloc (.cells #[.int .i64 27, .int .i64 a, .int .i64 b, .int .i64 cc, .int .i64 n] 54)).alloc (.cells zeros38 38))
  have W2 := Lib.hid (Whole.made ((w.alloc (.cells C0 38)).alloc (.cells #[.int .i64 27, .int .i64 a, .int .i64 b, .int .i64 cc, .int .i64 n] 54)) 38 zeros38 (w.heap.size + 1 + 1) (by simp))
  have B0 := Lib.hid ((((Below.refl w.heap.size w).alloc (Nat.le_refl _) (.cells C0 38)).alloc (by simp; try omega) (.cells #[.int .i64 27, .int .i64 a, .int .i64 b, .int .i64 cc, .int .i64 n] 54)).alloc (by simp; try omega) (.cells zeros38 38))
  go_enter Tryd.func47, Tryd.ntmps47
  go_wp2_with (refine wpList_load_row rfl 38 (.tmp 3) rfl w.heap.size rfl 38 C0 (0, 0) _ W1.out Tryd.underlying38 rfl (infoCpu SZ0.out) ?_)
  refine (CT.out _).mono ?_
  rintro e w1 ⟨rfl, hb1⟩
  have W3 := Lib.hid (W2.out.below hb1 W2.out.lt)
  have B1 := Lib.hid (B0.out.trans (hb1.mono B0.out.size))
  clear hb1 W1 W2 B0
  go_wp2_with (refine wpList_store_row rfl 38 (.tmp 6) (.tmp 39) rfl (w.heap.size + 1 + 1) C2 rfl rfl 38 zeros38 W3.out (infoCpu SZ.out) (by rw [SZ.out]; rfl) ONE.out ?_)
  exact bodyPost_ret (v := .agg C2) (results_cell_row rfl _ _ (w.heap.size + 1 + 1) 38 C2 (0, 0) _ rfl (W3.out.setRow C2) Tryd.underlying38 rfl (infoCpu SZ.out)) rfl ⟨rfl, B1.out.trans ((Only.setRow _ (w.heap.size + 1 + 1) C2).below (by omega) B1.out.size)⟩

set_option maxHeartbeats 4000000 in
set_option maxRecDepth 100000 in
theorem refothers_28 (a b cc : Nat) (n x : Int) (c : Cp) (A1 A2 : Option Addr) (n1 k1 n2 k2 : Nat) (w : World) (ha : a < 16) (hb : b < 16) (ux : 0 ≤ x ∧ x ≤ 4294967295) (hl : c.r.length = 16)  :
    Calls Tryd.prog 47 #[.agg (cpuCells c (.slice A1 n1 k1) (.slice A2 n2 k2)), .agg #[.int .i64 28, .int .i64 a, .int .i64 b, .int .i64 cc, .int .i64 n], .int .u32 x] w fun e w' => e = .returned (.agg (cpuCells (trapC c (n % 4294967296)) (.slice A1 n1 k1) (.slice A2 n2 k2))) ∧ Below w.heap.size w w' := by
  have g16 := cpuCells_pc hl (.slice A1 n1 k1) (.slice A2 n2 k2)
  have haI : (a : Int) < 16 := by omega
  have hbI : (b : Int) < 32 := by omega
  have CT := Lib.hid (fun w => reftrap_any c A1 A2 n1 k1 n2 k2 (n % 4294967296)  w hl)
  have SZ0 := Lib.hid (cpuCells_size hl (.slice A1 n1 k1) (.slice A2 n2 k2))
  have hl2 : (trapC c (n % 4294967296) : Cp).r.length = 16 := trapC_len hl
  have SZ := Lib.hid (cpuCells_size hl2 (.slice A1 n1 k1) (.slice A2 n2 k2))
  have ONE := Lib.hid (cpu_one (trapC c (n % 4294967296)) (o := (.slice A1 n1 k1)) (i := (.slice A2 n2 k2)) rfl rfl)
  clear hl2 hl
  generalize cpuCells c (.slice A1 n1 k1) (.slice A2 n2 k2) = C0 at *
  generalize cpuCells (trapC c (n % 4294967296)) (.slice A1 n1 k1) (.slice A2 n2 k2) = C2 at *
  have W1 := Lib.hid (((Whole.made w 38 C0 _ rfl).alloc (.cells #[.int .i64 28, .int .i64 a, .int .i64 b, .int .i64 cc, .int .i64 n] 54)).alloc (.cells zeros38 38))
  have W2 := Lib.hid (Whole.made ((w.alloc (.cells C0 38)).alloc (.cells #[.int .i64 28, .int .i64 a, .int .i64 b, .int .i64 cc, .int .i64 n] 54)) 38 zeros38 (w.heap.size + 1 + 1) (by simp))
  have B0 := Lib.hid ((((Below.refl w.heap.size w).alloc (Nat.le_refl _) (.cells C0 38)).alloc (by simp; try omega) (.cells #[.int .i64 28, .int .i64 a, .int .i64 b, .int .i64 cc, .int .i64 n] 54)).alloc (by simp; try omega) (.cells zeros38 38))
  go_enter Tryd.func47, Tryd.ntmps47
  go_wp2_with (refine wpList_load_row rfl 38 (.tmp 3) rfl w.heap.size rfl 38 C0 (0, 0) _ W1.out Tryd.underlying38 rfl (infoCpu SZ0.out) ?_)
  refine (CT.out _).mono ?_
  rintro e w1 ⟨rfl, hb1⟩
  have W3 := Lib.hid (W2.out.below hb1 W2.out.lt)
  have B1 := Lib.hid (B0.out.trans (hb1.mono B0.out.size))
  clear hb1 W1 W2 B0
  go_wp2_with (refine wpList_store_row rfl 38 (.tmp 6) (.tmp 46) rfl (w.heap.size + 1 + 1) C2 rfl rfl 38 zeros38 W3.out (infoCpu SZ.out) (by rw [SZ.out]; rfl) ONE.out ?_)
  exact bodyPost_ret (v := .agg C2) (results_cell_row rfl _ _ (w.heap.size + 1 + 1) 38 C2 (0, 0) _ rfl (W3.out.setRow C2) Tryd.underlying38 rfl (infoCpu SZ.out)) rfl ⟨rfl, B1.out.trans ((Only.setRow _ (w.heap.size + 1 + 1) C2).below (by omega) B1.out.size)⟩

set_option maxHeartbeats 4000000 in
set_option maxRecDepth 100000 in
theorem refothers_29 (a b cc : Nat) (n x : Int) (c : Cp) (A1 A2 : Option Addr) (n1 k1 n2 k2 : Nat) (w : World) (ha : a < 16) (hb : b < 16) (ux : 0 ≤ x ∧ x ≤ 4294967295) (hl : c.r.length = 16)  :
    Calls Tryd.prog 47 #[.agg (cpuCells c (.slice A1 n1 k1) (.slice A2 n2 k2)), .agg #[.int .i64 29, .int .i64 a, .int .i64 b, .int .i64 cc, .int .i64 n], .int .u32 x] w fun e w' => e = .returned (.agg (cpuCells (trapC c x) (.slice A1 n1 k1) (.slice A2 n2 k2))) ∧ Below w.heap.size w w' := by
  have g16 := cpuCells_pc hl (.slice A1 n1 k1) (.slice A2 n2 k2)
  have haI : (a : Int) < 16 := by omega
  have hbI : (b : Int) < 32 := by omega
  have CT := Lib.hid (fun w => reftrap_any c A1 A2 n1 k1 n2 k2 (x)  w hl)
  have SZ0 := Lib.hid (cpuCells_size hl (.slice A1 n1 k1) (.slice A2 n2 k2))
  have hl2 : (trapC c x : Cp).r.length = 16 := trapC_len hl
  have SZ := Lib.hid (cpuCells_size hl2 (.slice A1 n1 k1) (.slice A2 n2 k2))
  have ONE := Lib.hid (cpu_one (trapC c x) (o := (.slice A1 n1 k1)) (i := (.slice A2 n2 k2)) rfl rfl)
  clear hl2 hl
  generalize cpuCells c (.slice A1 n1 k1) (.slice A2 n2 k2) = C0 at *
  generalize cpuCells (trapC c x) (.slice A1 n1 k1) (.slice A2 n2 k2) = C2 at *
  have W1 := Lib.hid (((Whole.made w 38 C0 _ rfl).alloc (.cells #[.int .i64 29, .int .i64 a, .int .i64 b, .int .i64 cc, .int .i64 n] 54)).alloc (.cells zeros38 38))
  have W2 := Lib.hid (Whole.made ((w.alloc (.cells C0 38)).alloc (.cells #[.int .i64 29, .int .i64 a, .int .i64 b, .int .i64 cc, .int .i64 n] 54)) 38 zeros38 (w.heap.size + 1 + 1) (by simp))
  have B0 := Lib.hid ((((Below.refl w.heap.size w).alloc (Nat.le_refl _) (.cells C0 38)).alloc (by simp; try omega) (.cells #[.int .i64 29, .int .i64 a, .int .i64 b, .int .i64 cc, .int .i64 n] 54)).alloc (by simp; try omega) (.cells zeros38 38))
  go_enter Tryd.func47, Tryd.ntmps47
  go_wp2_with (refine wpList_load_row rfl 38 (.tmp 3) rfl w.heap.size rfl 38 C0 (0, 0) _ W1.out Tryd.underlying38 rfl (infoCpu SZ0.out) ?_)
  refine (CT.out _).mono ?_
  rintro e w1 ⟨rfl, hb1⟩
  have W3 := Lib.hid (W2.out.below hb1 W2.out.lt)
  have B1 := Lib.hid (B0.out.trans (hb1.mono B0.out.size))
  clear hb1 W1 W2 B0
  go_wp2_with (refine wpList_store_row rfl 38 (.tmp 6) (.tmp 51) rfl (w.heap.size + 1 + 1) C2 rfl rfl 38 zeros38 W3.out (infoCpu SZ.out) (by rw [SZ.out]; rfl) ONE.out ?_)
  exact bodyPost_ret (v := .agg C2) (results_cell_row rfl _ _ (w.heap.size + 1 + 1) 38 C2 (0, 0) _ rfl (W3.out.setRow C2) Tryd.underlying38 rfl (infoCpu SZ.out)) rfl ⟨rfl, B1.out.trans ((Only.setRow _ (w.heap.size + 1 + 1) C2).below (by omega) B1.out.size)⟩

end Go.Proofs.YtinpdgjbiimgkaaDoor
