/- The answers' processor: others: a number is taken in. -/
import Derived.Test.YtinpdgjbiimgkaaDoorCpuQC
import Derived.Test.YtinpdgjbiimgkaaDoorCpuTE
namespace Go.Proofs.YtinpdgjbiimgkaaDoor
open Go.ChangeShapes Go.WideShapes Go.ChangeAt Go.RowKit
set_option linter.unusedVariables false

/-- The blocks that 'others' works in. -/
structure Fo (w W : World) (C I : Array Value) : Prop where
  c : Whole W w.heap.size 38 C
  i : Whole W (w.heap.size + 1) 54 I
  r : Whole W (w.heap.size + 1 + 1) 38 zeros38
  bel : Below w.heap.size w W

theorem fo_made (w : World) (C I : Array Value) : Fo w (((w.alloc (.cells C 38)).alloc (.cells I 54)).alloc (.cells zeros38 38)) C I where
  c := ((Whole.made w _ C _ rfl).alloc _).alloc _
  i := (Whole.made (w.alloc (.cells C _)) _ I (w.heap.size + 1) (by simp)).alloc _
  r := Whole.made ((w.alloc (.cells C _)).alloc (.cells I _)) _ zeros38 (w.heap.size + 1 + 1) (by simp)
  bel := (((Below.refl w.heap.size w).alloc (Nat.le_refl _) _).alloc (by simp) _).alloc (by simp; omega) _

theorem Fo.drew {w W : World} {C I : Array Value} (h : Fo w W C I) : Fo w W.drew C I := ⟨h.c.drew', h.i.drew', h.r.drew', h.bel.drew⟩

theorem Fo.set {w W : World} {C I : Array Value} (h : Fo w W C I) (k : Nat) (v : Value) : Fo w (W.setCell ⟨w.heap.size, k, none⟩ v) (C.setIfInBounds k v) I :=
  ⟨h.c.store k v, h.i.far (p := ⟨w.heap.size, k, none⟩) (by show w.heap.size + 1 ≠ w.heap.size; omega) v, h.r.far (p := ⟨w.heap.size, k, none⟩) (by show w.heap.size + 1 + 1 ≠ w.heap.size; omega) v, h.bel.setCell (p := ⟨w.heap.size, k, none⟩) (Nat.le_refl _) v⟩

theorem Fo.later {w W W' : World} {C I : Array Value} (h : Fo w W C I) (hb : Below W.heap.size W W') : Fo w W' C I :=
  ⟨h.c.below hb h.c.lt, h.i.below hb h.i.lt, h.r.below hb h.r.lt, h.bel.trans (hb.mono h.bel.size)⟩

set_option maxHeartbeats 4000000 in
set_option maxRecDepth 100000 in
theorem refothers_31_some (a b cc : Nat) (n x : Int) (c : Cp) (A1 A2 : Option Addr) (n1 k1 n2 k2 : Nat) (w : World) (ha : a < 16) (hb : b < 16) (ux : 0 ≤ x ∧ x ≤ 4294967295) (hl : c.r.length = 16) (k : Nat) (hk : c.taken = k) (h1 : k < n2) (hm2 : n2 ≤ 1000000) (zs : List Int) (hz : Nums .i32 w A2 n2 zs) :
    Calls Tryd.prog 47 #[.agg (cpuCells c (.slice A1 n1 k1) (.slice A2 n2 k2)), .agg #[.int .i64 31, .int .i64 a, .int .i64 b, .int .i64 cc, .int .i64 n], .int .u32 x] w fun e w' => e = .returned (.agg (cpuCells ({ setC c a (w32 (zs.getD k 0)) with taken := c.taken + 1 }) (.slice A1 n1 k1) (.slice A2 n2 k2))) ∧ Below w.heap.size w w' := by
  obtain ⟨bb, off, rfl, hlt, hcell⟩ := hz.2 (by omega)
  have hck0 := hcell k h1
  clear hcell hz
  generalize zs.getD k 0 = z at *
  have F0 := fo_made w (cpuCells c (.slice A1 n1 k1) (.slice (some ⟨bb, off, none⟩) n2 k2)) #[.int .i64 31, .int .i64 a, .int .i64 b, .int .i64 cc, .int .i64 n]
  have hck1 := (F0.bel.cell (p := ⟨bb, off + k, none⟩) hlt).trans hck0
  have g16 := (F0.c.cell 16).trans (cpuCells_pc hl (.slice A1 n1 k1) (.slice (some ⟨bb, off, none⟩) n2 k2))
  have g22 := (F0.c.cell 22).trans (cpuCells_taken hl (.slice A1 n1 k1) (.slice (some ⟨bb, off, none⟩) n2 k2))
  have g28 := (F0.c.cell 28).trans (cpuCells_i hl (.slice A1 n1 k1) (.slice (some ⟨bb, off, none⟩) n2 k2))
  have ga := (F0.c.cell a).trans (cpuCells_reg hl (.slice A1 n1 k1) (.slice (some ⟨bb, off, none⟩) n2 k2) ha)
  have gf := F0.c.free
  rw [hk] at g22
  have e1 := cpuCells_setReg (c := c) hl (.slice A1 n1 k1) (.slice (some ⟨bb, off, none⟩) n2 k2) ha (z % 4294967296)
  have e2 := cpuCells_set_taken (c := { c with r := c.r.set a (z % 4294967296) }) (by simp [hl]) (.slice A1 n1 k1) (.slice (some ⟨bb, off, none⟩) n2 k2) ((k : Int) + 1)
  have e3 := cpuCells_set_pc (c := { c with r := c.r.set a (z % 4294967296), taken := (k : Int) + 1 }) (by simp [hl]) (.slice A1 n1 k1) (.slice (some ⟨bb, off, none⟩) n2 k2) ((c.pc + 4) % 4294967296)
  have t22 : (cpuCells ({ c with r := c.r.set a (z % 4294967296) }) (.slice A1 n1 k1) (.slice (some ⟨bb, off, none⟩) n2 k2))[22]? = some (.int .i64 (k : Int)) := (cpuCells_taken (c := { c with r := c.r.set a (z % 4294967296) }) (by simp [hl]) (.slice A1 n1 k1) (.slice (some ⟨bb, off, none⟩) n2 k2)).trans (by show some (Value.int .i64 c.taken) = _; rw [hk])
  have t16 := cpuCells_pc (c := { c with r := c.r.set a (z % 4294967296), taken := (k : Int) + 1 }) (by simp [hl]) (.slice A1 n1 k1) (.slice (some ⟨bb, off, none⟩) n2 k2)
  have T22 := Lib.hid t22
  have T16 := Lib.hid t16
  clear t22 t16
  have hl2 : ({ c with r := c.r.set a (z % 4294967296), taken := (k : Int) + 1, pc := ((c.pc + 4) % 4294967296) } : Cp).r.length = 16 := by simp [hl]
  have SZ := Lib.hid (cpuCells_size hl2 (.slice A1 n1 k1) (.slice (some ⟨bb, off, none⟩) n2 k2))
  have ONE := Lib.hid (cpu_one ({ c with r := c.r.set a (z % 4294967296), taken := (k : Int) + 1, pc := ((c.pc + 4) % 4294967296) }) (o := (.slice A1 n1 k1)) (i := (.slice (some ⟨bb, off, none⟩) n2 k2)) rfl rfl)
  have EQ := Lib.hid (show cpuCells ({ setC c a (w32 z) with taken := c.taken + 1 }) (.slice A1 n1 k1) (.slice (some ⟨bb, off, none⟩) n2 k2) = cpuCells ({ c with r := c.r.set a (z % 4294967296), taken := (k : Int) + 1, pc := ((c.pc + 4) % 4294967296) }) (.slice A1 n1 k1) (.slice (some ⟨bb, off, none⟩) n2 k2) by unfold setC passC w32; rw [hk])
  rw [EQ.out]
  have haI : (a : Int) < 16 := by omega
  have hne : a ≠ 22 := by omega
  have hne2 : a ≠ 16 := by omega
  have d1 : decide (n2 ≤ k) = false := decide_eq_false (by omega)
  have kI : (k : Int) < n2 := by omega
  have hk2 : k ≤ 1000000 := by omega
  have FH := Lib.hid F0
  unfold zeros38 at FH hck1 g16 g22 g28 ga gf
  clear EQ hl2 hl F0 hck0 hlt
  generalize cpuCells c (.slice A1 n1 k1) (.slice (some ⟨bb, off, none⟩) n2 k2) = C0 at *
  generalize cpuCells ({ c with r := c.r.set a (z % 4294967296) }) (.slice A1 n1 k1) (.slice (some ⟨bb, off, none⟩) n2 k2) = C1 at *
  generalize cpuCells ({ c with r := c.r.set a (z % 4294967296), taken := (k : Int) + 1 }) (.slice A1 n1 k1) (.slice (some ⟨bb, off, none⟩) n2 k2) = C2 at *
  generalize cpuCells ({ c with r := c.r.set a (z % 4294967296), taken := (k : Int) + 1, pc := ((c.pc + 4) % 4294967296) }) (.slice A1 n1 k1) (.slice (some ⟨bb, off, none⟩) n2 k2) = C3 at *
  have E1 := Lib.hid e1
  have E2 := Lib.hid e2
  have E3 := Lib.hid e3
  clear e1 e2 e3
  go_enter Tryd.func47, Tryd.ntmps47
  have k0 : (((w.alloc (.cells C0 38)).alloc (.cells #[.int .i64 31, .int .i64 a, .int .i64 b, .int .i64 cc, .int .i64 n] 54)).alloc (.cells #[.int .u32 0, .int .u32 0, .int .u32 0, .int .u32 0, .int .u32 0, .int .u32 0, .int .u32 0, .int .u32 0, .int .u32 0, .int .u32 0, .int .u32 0, .int .u32 0, .int .u32 0, .int .u32 0, .int .u32 0, .int .u32 0, .int .u32 0, .int .u32 0, .int .u32 0, .int .i64 0, .int .i64 0, .int .i64 0, .int .i64 0, .slice none 0 0, .int .u32 0, .int .u32 0, .int .u32 0, .int .u32 0, .slice none 0 0] 38)).cell? ⟨w.heap.size + 1, 1, none⟩ = some (.int .i64 a) := FH.out.i.cell 1
  have k00 : (((w.alloc (.cells C0 38)).alloc (.cells #[.int .i64 31, .int .i64 a, .int .i64 b, .int .i64 cc, .int .i64 n] 54)).alloc (.cells #[.int .u32 0, .int .u32 0, .int .u32 0, .int .u32 0, .int .u32 0, .int .u32 0, .int .u32 0, .int .u32 0, .int .u32 0, .int .u32 0, .int .u32 0, .int .u32 0, .int .u32 0, .int .u32 0, .int .u32 0, .int .u32 0, .int .u32 0, .int .u32 0, .int .u32 0, .int .i64 0, .int .i64 0, .int .i64 0, .int .i64 0, .slice none 0 0, .int .u32 0, .int .u32 0, .int .u32 0, .int .u32 0, .slice none 0 0] 38)).cell? ⟨w.heap.size + 1, 0, none⟩ = some (.int .i64 31) := FH.out.i.cell 0
  go_wp2_with fail
  generalize ((w.alloc (.cells C0 38)).alloc (.cells #[.int .i64 31, .int .i64 a, .int .i64 b, .int .i64 cc, .int .i64 n] 54)).alloc (.cells #[.int .u32 0, .int .u32 0, .int .u32 0, .int .u32 0, .int .u32 0, .int .u32 0, .int .u32 0, .int .u32 0, .int .u32 0, .int .u32 0, .int .u32 0, .int .u32 0, .int .u32 0, .int .u32 0, .int .u32 0, .int .u32 0, .int .u32 0, .int .u32 0, .int .u32 0, .int .i64 0, .int .i64 0, .int .i64 0, .int .i64 0, .slice none 0 0, .int .u32 0, .int .u32 0, .int .u32 0, .int .u32 0, .slice none 0 0] 38) = W at *
  refine still_tail 11 (by kernel_rfl) (by kernel_rfl) ?_
  simp only [List.take_succ_cons, List.take_zero, List.drop_succ_cons, List.drop_zero]
  repeat still_step
  refine wpStill_nil ?_
  have F1 := FH.out.drew.set a (.int .u32 (z % 4294967296))
  rw [E1.out] at F1
  have F2 := F1.set 22 (.int .i64 ((k : Int) + 1))
  rw [E2.out] at F2
  have F3 := F2.set 16 (.int .u32 ((c.pc + 4) % 4294967296))
  rw [E3.out] at F3
  have q22 : (W.drew.setCell ⟨w.heap.size, a, none⟩ (.int .u32 (z % 4294967296))).cell? ⟨w.heap.size, 22, none⟩ = some (.int .i64 k) := (F1.c.cell 22).trans T22.out
  have q16 : ((W.drew.setCell ⟨w.heap.size, a, none⟩ (.int .u32 (z % 4294967296))).setCell ⟨w.heap.size, 22, none⟩ (.int .i64 ((k : Int) + 1))).cell? ⟨w.heap.size, 16, none⟩ = some (.int .u32 c.pc) := (F2.c.cell 16).trans T16.out
  have f1 := F1.c.free
  have f2 := F2.c.free
  have FE := Lib.hid F3
  clear F1 F2 F3
  go_wp2_with (first
    | (refine wpList_load_row rfl 38 (.tmp 3) rfl w.heap.size rfl 38 C3 (0, 0) _ FE.out.c Tryd.underlying38 rfl (infoCpu SZ.out) ?_)
    | (refine wpList_store_row rfl 38 (.tmp 6) (.tmp 125) rfl (w.heap.size + 1 + 1) C3 rfl rfl 38 zeros38 FE.out.r (infoCpu SZ.out) (by rw [SZ.out]; rfl) ONE.out ?_))
  exact bodyPost_ret (v := .agg C3) (results_cell_row rfl _ _ (w.heap.size + 1 + 1) 38 C3 (0, 0) _ rfl (FE.out.r.setRow C3) Tryd.underlying38 rfl (infoCpu SZ.out)) rfl ⟨rfl, FE.out.bel.trans ((Only.setRow _ (w.heap.size + 1 + 1) C3).below (by omega) FE.out.bel.size)⟩
end Go.Proofs.YtinpdgjbiimgkaaDoor
