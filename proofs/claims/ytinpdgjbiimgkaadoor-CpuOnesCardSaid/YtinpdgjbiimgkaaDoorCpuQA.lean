/- The answers' processor: trap. -/
import Derived.Test.YtinpdgjbiimgkaaDoorCpuR
namespace Go.Proofs.YtinpdgjbiimgkaaDoor
open Go.ChangeShapes Go.WideShapes Go.ChangeAt Go.RowKit
set_option linter.unusedVariables false

set_option maxHeartbeats 4000000 in
set_option maxRecDepth 100000 in
theorem reftrap_yes (c : Cp) (A1 A2 : Option Addr) (n1 k1 n2 k2 : Nat) (z : Int) (w : World) (hl : c.r.length = 16) (hd : decide (c.pc < c.gu) = true) :
    Calls Tryd.prog 45 #[.agg (cpuCells c (.slice A1 n1 k1) (.slice A2 n2 k2)), .int .u32 z] w fun e w' => e = .returned (.agg (cpuCells (faultC c 111) (.slice A1 n1 k1) (.slice A2 n2 k2))) ∧ Below w.heap.size w w' := by
  have FT := Lib.hid (fun w => reffault_any c A1 A2 n1 k1 n2 k2 111 w hl)
  have g16 := cpuCells_pc hl (.slice A1 n1 k1) (.slice A2 n2 k2)
  have g26 := cpuCells_gu hl (.slice A1 n1 k1) (.slice A2 n2 k2)
  have hl2 : (faultC c 111).r.length = 16 := hl
  have SZ0 := Lib.hid (cpuCells_size hl (.slice A1 n1 k1) (.slice A2 n2 k2))
  have SZ := Lib.hid (cpuCells_size hl2 (.slice A1 n1 k1) (.slice A2 n2 k2))
  have ONE := Lib.hid (cpu_one (faultC c 111) (o := (.slice A1 n1 k1)) (i := (.slice A2 n2 k2)) rfl rfl)
  clear hl hl2
  generalize cpuCells c (.slice A1 n1 k1) (.slice A2 n2 k2) = C0 at *
  generalize cpuCells (faultC c 111) (.slice A1 n1 k1) (.slice A2 n2 k2) = C2 at *
  have W1 := Lib.hid ((Whole.made w 38 C0 _ rfl).alloc (.cells zeros38 38))
  have W2 := Lib.hid (Whole.made (w.alloc (.cells C0 38)) 38 zeros38 (w.heap.size + 1) (by simp))
  have B0 := Lib.hid (((Below.refl w.heap.size w).alloc (Nat.le_refl _) (.cells C0 38)).alloc (by simp; try omega) (.cells zeros38 38))
  go_enter Tryd.func45, Tryd.ntmps45
  go_wp2_with (refine wpList_load_row rfl 38 (.tmp 2) rfl w.heap.size rfl 38 C0 (0, 0) _ W1.out Tryd.underlying38 rfl (infoCpu SZ0.out) ?_)
  refine (FT.out _).mono ?_
  rintro e w1 ⟨rfl, hb1⟩
  have W3 := Lib.hid (W2.out.below hb1 W2.out.lt)
  have B1 := Lib.hid (B0.out.trans (hb1.mono B0.out.size))
  clear hb1 W1 W2 B0
  go_wp2_with (refine wpList_store_row rfl 38 (.tmp 4) (.tmp 11) rfl (w.heap.size + 1) C2 rfl rfl 38 zeros38 W3.out (infoCpu SZ.out) (by rw [SZ.out]; rfl) ONE.out ?_)
  exact bodyPost_ret (v := .agg C2) (results_cell_row rfl _ _ (w.heap.size + 1) 38 C2 (0, 0) _ rfl (W3.out.setRow C2) Tryd.underlying38 rfl (infoCpu SZ.out)) rfl ⟨rfl, B1.out.trans ((Only.setRow _ (w.heap.size + 1) C2).below (Nat.le_succ _) B1.out.size)⟩

set_option maxHeartbeats 4000000 in
set_option maxRecDepth 100000 in
theorem reftrap_no (c : Cp) (A1 A2 : Option Addr) (n1 k1 n2 k2 : Nat) (z : Int) (w : World) (hl : c.r.length = 16) (hd : decide (c.pc < c.gu) = false) :
    Calls Tryd.prog 45 #[.agg (cpuCells c (.slice A1 n1 k1) (.slice A2 n2 k2)), .int .u32 z] w fun e w' => e = .returned (.agg (cpuCells { c with epc := c.pc, cause := z, pc := c.ve } (.slice A1 n1 k1) (.slice A2 n2 k2))) ∧ Below w.heap.size w w' := by
  have g16 := cpuCells_pc hl (.slice A1 n1 k1) (.slice A2 n2 k2)
  have g25 := cpuCells_ve hl (.slice A1 n1 k1) (.slice A2 n2 k2)
  have g26 := cpuCells_gu hl (.slice A1 n1 k1) (.slice A2 n2 k2)
  have s17 := cpuCells_set_epc hl (.slice A1 n1 k1) (.slice A2 n2 k2) c.pc
  have g17 := cpuCells_epc hl (.slice A1 n1 k1) (.slice A2 n2 k2)
  have g18 := cpuCells_cause (c := { c with epc := c.pc }) hl (.slice A1 n1 k1) (.slice A2 n2 k2)
  have h16 := cpuCells_pc (c := { c with epc := c.pc, cause := z }) hl (.slice A1 n1 k1) (.slice A2 n2 k2)
  have s18 := cpuCells_set_cause (c := { c with epc := c.pc }) hl (.slice A1 n1 k1) (.slice A2 n2 k2) z
  have s16 := cpuCells_set_pc (c := { c with epc := c.pc, cause := z }) hl (.slice A1 n1 k1) (.slice A2 n2 k2) c.ve
  have hl2 : ({ c with epc := c.pc, cause := z, pc := c.ve } : Cp).r.length = 16 := hl
  have SZ := Lib.hid (cpuCells_size hl2 (.slice A1 n1 k1) (.slice A2 n2 k2))
  have ONE := Lib.hid (cpu_one { c with epc := c.pc, cause := z, pc := c.ve } (o := (.slice A1 n1 k1)) (i := (.slice A2 n2 k2)) rfl rfl)
  clear hl2 hl
  generalize cpuCells c (.slice A1 n1 k1) (.slice A2 n2 k2) = C0 at *
  generalize cpuCells { c with epc := c.pc } (.slice A1 n1 k1) (.slice A2 n2 k2) = C1 at *
  generalize cpuCells { c with epc := c.pc, cause := z } (.slice A1 n1 k1) (.slice A2 n2 k2) = C2 at *
  generalize cpuCells { c with epc := c.pc, cause := z, pc := c.ve } (.slice A1 n1 k1) (.slice A2 n2 k2) = C3 at *
  have W1 := Lib.hid ((Whole.made w 38 C3 _ rfl).alloc (.cells zeros38 38))
  have W2 := Lib.hid (Whole.made (w.alloc (.cells C3 38)) 38 zeros38 (w.heap.size + 1) (by simp))
  have B0 := Lib.hid (((Below.refl w.heap.size w).alloc (Nat.le_refl _) (.cells C3 38)).alloc (by simp; try omega) (.cells zeros38 38))
  go_enter Tryd.func45, Tryd.ntmps45
  go_wp2_with (first
    | (refine wpList_load_row rfl 38 (.tmp 2) rfl w.heap.size rfl 38 C3 (0, 0) _ W1.out Tryd.underlying38 rfl (infoCpu SZ.out) ?_)
    | (refine wpList_store_row rfl 38 (.tmp 4) (.tmp 20) rfl (w.heap.size + 1) C3 rfl rfl 38 zeros38 W2.out (infoCpu SZ.out) (by rw [SZ.out]; rfl) ONE.out ?_))
  exact bodyPost_ret (v := .agg C3) (results_cell_row rfl _ _ (w.heap.size + 1) 38 C3 (0, 0) _ rfl (W2.out.setRow C3) Tryd.underlying38 rfl (infoCpu SZ.out)) rfl ⟨rfl, B0.out.trans ((Only.setRow _ (w.heap.size + 1) C3).below (Nat.le_succ _) B0.out.size)⟩

theorem reftrap_any (c : Cp) (A1 A2 : Option Addr) (n1 k1 n2 k2 : Nat) (z : Int) (w : World) (hl : c.r.length = 16) :
    Calls Tryd.prog 45 #[.agg (cpuCells c (.slice A1 n1 k1) (.slice A2 n2 k2)), .int .u32 z] w fun e w' => e = .returned (.agg (cpuCells (trapC c z) (.slice A1 n1 k1) (.slice A2 n2 k2))) ∧ Below w.heap.size w w' := by
  unfold trapC
  by_cases h : c.pc < c.gu
  · rw [if_pos h]
    exact reftrap_yes c A1 A2 n1 k1 n2 k2 z w hl (decide_eq_true h)
  · rw [if_neg h]
    exact reftrap_no c A1 A2 n1 k1 n2 k2 z w hl (decide_eq_false h)
end Go.Proofs.YtinpdgjbiimgkaaDoor
