/- Scopes: strings.Clone, slices.Clone of parameters, own. -/
import Derived.Test.YtpfoebnlngfebaaScpA
import Derived.Test.YtpfoebnlngfebaaShelf
import Derived.Laws.Cover3
import Derived.Deep.RegionHeld3
namespace Go.Proofs.Ytpfoebnlngfebaa
open Go.ChangeShapes Go.WideShapes Go.ChangeAt Go.RowKit
set_option linter.unusedVariables false
set_option linter.unusedSimpArgs false

set_option maxHeartbeats 4000000 in
set_option maxRecDepth 100000 in
theorem sclone_any (s : ByteArray) (w : World) (hs : s.size ≤ 140737488355328) :
    Calls Try.prog 37 #[.string s] w fun e w' => e = .returned (.string s) ∧ Below w.heap.size w w' := by
  have CL := Lib.hid (Try.stringslite_Clone s w (by omega))
  go_enter Try.func37, Try.ntmps37
  go_wp2_with fail
  refine CL.out.mono ?_
  rintro e w1 ⟨rfl, hb⟩
  have HB := Lib.hid hb
  clear hb
  go_wp2_with fail
  go_ret
  exact ⟨rfl, HB.out⟩

theorem pP_info : (Try.prog.info? pP).map (fun i => (i.zero, i.size, i.bytes)) = some (some (.agg #[.int .i64 0, .bool false]), 2, 16) := by kernel_rfl

theorem pO_info : (Try.prog.info? pO).map (fun i => (i.zero, i.size, i.bytes)) = some (some (.agg #[.string ⟨#[]⟩, .int .i64 0, .int .i64 0, .int .i64 0, .int .i32 0, .int .i64 0, .bool false, .slice none 0 0]), 8, 88) := by kernel_rfl

theorem rO_info : (Try.prog.info? rO).map (fun i => (i.zero, i.size, i.bytes)) = some (some (.agg #[.string ⟨#[]⟩, .int .i64 0, .int .i64 0, .int .i64 0, .int .i32 0, .int .i64 0, .bool false, .slice none 0 0]), 8, 88) := by kernel_rfl

theorem pL_info : (Try.prog.info? pL).map (fun i => (i.zero, i.size, i.bytes)) = some (some (.slice none 0 0), 1, 24) := by kernel_rfl

theorem rL_info : (Try.prog.info? rL).map (fun i => (i.zero, i.size, i.bytes)) = some (some (.slice none 0 0), 1, 24) := by kernel_rfl

theorem pE_info : (Try.prog.info? pE).map (fun i => (i.zero, i.size, i.bytes)) = some (some (.agg #[.string ⟨#[]⟩, .int .i64 0, .int .i64 0, .int .i32 0, .slice none 0 0]), 5, 64) := by kernel_rfl

theorem par_one : ∀ (ps : List (Int × Bool)), ∀ u ∈ ps.flatMap parCells, u.oneCell' = true := by
  intro ps u hu
  obtain ⟨f, _, hf⟩ := List.mem_flatMap.1 hu
  simp [parCells] at hf
  rcases hf with rfl | rfl <;> rfl

theorem par_len (ps : List (Int × Bool)) : (ps.flatMap parCells).length = ps.length * 2 := by
  induction ps with
  | nil => rfl
  | cons x l ih => rw [List.flatMap_cons, List.length_append, ih, List.length_cons]; show 2 + _ = _; omega

set_option maxHeartbeats 4000000 in
set_option maxRecDepth 100000 in
/-- slices.Clone of parameters: a row of its own. -/
theorem pclone_any (v : Value) (B : Nat) (ps : List (Int × Bool)) (w : World) (h : ParV B w v ps) (hn : ps.length * 16 ≤ 140737488355328) :
    Calls Try.prog 38 #[v] w fun e w' => ∃ v', e = .returned v' ∧ Below w.heap.size w w' ∧ ParV B w' v' ps := by
  obtain ⟨i0, hi, hz0, hz1, hz2⟩ := info_parts pP_info
  obtain ⟨A, c, rfl, hnone, hcell⟩ := h
  have HN := Lib.hid hn
  clear hn
  cases A with
  | none =>
    obtain ⟨rfl, rfl⟩ := hnone rfl
    have hnil : ∀ W : World, (binOp .eql 36 (.slice none 0 0) (.slice none 0 0)).run Try.prog W = .ok (.bool true) W := fun W => by
      simp only [binOp]
      simp [run_equal_slice_nil W 36 pP none 0 0 Try.underlying36]
    clear hnone hcell
    go_enter Try.func38, Try.ntmps38
    go_wp2_with fail
    go_ret
    exact ⟨_, rfl, Below.refl _ _, ParV.nil _ _⟩
  | some a =>
    have hnil : ∀ W : World, (binOp .eql 36 (.slice (some a) ps.length c) (.slice none 0 0)).run Try.prog W = .ok (.bool false) W := fun W => by
      simp only [binOp]
      simp [run_equal_slice_nil W 36 pP (some a) ps.length c Try.underlying36]
    have BA := Lib.hid ((Below.refl w.heap.size w).alloc (Nat.le_refl _) (.cells #[] pP))
    have OE := Lib.hid (row_built (e := pP) (sz := 2) w #[] 0 0 rfl (Nat.le_refl _) (Nat.zero_le _) w.heap.size (Nat.le_refl _) _ rfl [] rfl)
    have hzz : w.heap.size ≤ (w.alloc (.cells #[] pP)).heap.size := BA.out.size
    have NC := Lib.hid (show ∀ (j : Nat) u, (ps.flatMap parCells)[j]? = some u → (w.alloc (.cells #[] pP)).cell? (a.add j) = some u from fun j u hj => by
      by_cases hp : ps = []
      · subst hp
        simp at hj
      · obtain ⟨b, off, hA, hb, _, hc⟩ := hcell hp
        injection hA with hA
        subst hA
        rw [Go.WideShapes.add_plain]
        exact (BA.out.cell (p := ⟨b, off + j, none⟩) hb).trans (hc j u hj))
    clear hnone hcell
    go_enter Try.func38, Try.ntmps38
    go_wp2_with (first | (at_builtin; refine wpList_append_own_at _ rfl _ _ 36 rfl w.heap.size pP i0 _ 2 16 Try.underlying36 hi hz0 hz1 hz2 rfl (by decide) (.slice (some ⟨w.heap.size, 0, none⟩) 0 0) 0 [] rfl OE.out a ps.length c (ps.flatMap parCells) rfl (par_len ps) NC.out (par_one _) (by have := HN.out; unfold maxLen; omega) (by have := HN.out; omega) hzz ?_; intro v3 w3 ho3 hg3 hnl hat; have B3 := Lib.hid (BA.out.grown hg3 hzz (fun b hb => (World.ownsRow.lt OE.out b hb).1)); have O3 := Lib.hid ho3; clear ho3 hg3 hat hnl))
    go_ret
    exact ⟨_, rfl, B3.out, ParV.own (by have := O3.out; rwa [Nat.zero_add, List.nil_append] at this)⟩

theorem ParV.set {B : Nat} {w : World} {v : Value} {ps : List (Int × Bool)} {g j : Nat} {t : TypeId} {cs : Array Value} {u : Value} (h : ParV B w v ps) (hg : Whole w g t cs) (ht : t ≠ pP) (hB : B ≤ g) : ParV B (w.setCell ⟨g, j, none⟩ u) v ps :=
  h.keep (Nat.le_refl _) (by simp [World.setCell]) fun b hb hh => Below.heap_setCell w ⟨g, j, none⟩ u b fun e => by
    have e : b = g := e
    subst e
    rcases hh with hh | ⟨cs', fz, hh⟩
    · omega
    · unfold Whole at hg
      rw [hg] at hh
      injection hh with hh
      injection hh with _ hh _
      exact ht hh

theorem ParV.grown {B : Nat} {w w' : World} {v : Value} {ps : List (Int × Bool)} {g : Nat} {t : TypeId} {cs : Array Value} (h : ParV B w v ps) (hg : Whole w g t cs) (ht : t ≠ pP) (hB : B ≤ g) (hw : w.grownBy w' (some g)) : ParV B w' v ps :=
  h.keep (Nat.le_refl _) hw.size fun b hb hh => hw.block b hb fun e => by
    have e : b = g := (Option.some.inj e)
    subst e
    rcases hh with hh | ⟨cs', fz, hh⟩
    · omega
    · unfold Whole at hg
      rw [hg] at hh
      injection hh with hh
      injection hh with _ hh _
      exact ht hh

set_option maxHeartbeats 16000000 in
set_option maxRecDepth 100000 in
/-- A copy of an object. -/
theorem own_any (nm : ByteArray) (kd ty lv nn md : Int) (ou : Bool) (ps : List (Int × Bool)) (Ap : Option Addr) (cp B : Nat) (w : World) (h : ParV B w (.slice Ap ps.length cp) ps) (hB : B ≤ w.heap.size) (hs : nm.size ≤ 140737488355328) (hn : ps.length * 16 ≤ 140737488355328) :
    Calls Try.prog 26 #[.agg #[.string nm, .int .i64 kd, .int .i64 ty, .int .i64 lv, .int .i32 nn, .int .i64 md, .bool ou, .slice Ap ps.length cp]] w fun e w' => ∃ Aq cq, e = .returned (.agg #[.string nm, .int .i64 kd, .int .i64 ty, .int .i64 lv, .int .i32 nn, .int .i64 md, .bool ou, .slice Aq ps.length cq]) ∧ Below w.heap.size w w' ∧ ParV B w' (.slice Aq ps.length cq) ps := by
  have b1 := (Below.refl w.heap.size w).alloc (Nat.le_refl _) (.cells #[.string nm, .int .i64 kd, .int .i64 ty, .int .i64 lv, .int .i32 nn, .int .i64 md, .bool ou, .slice Ap ps.length cp] pO)
  have b2 := b1.alloc b1.size (.cells #[.string ⟨#[]⟩, .int .i64 0, .int .i64 0, .int .i64 0, .int .i32 0, .int .i64 0, .bool false, .slice none 0 0] pO)
  have BV := Lib.hid b2
  have HP := Lib.hid (h.below b2)
  have SZ := Lib.hid (show (w.alloc (.cells #[.string nm, .int .i64 kd, .int .i64 ty, .int .i64 lv, .int .i32 nn, .int .i64 md, .bool ou, .slice Ap ps.length cp] pO)).heap.size = w.heap.size + 1 by simp)
  have X1 := Lib.hid ((Whole.made w pO #[.string nm, .int .i64 kd, .int .i64 ty, .int .i64 lv, .int .i32 nn, .int .i64 md, .bool ou, .slice Ap ps.length cp] _ rfl).alloc (.cells #[.string ⟨#[]⟩, .int .i64 0, .int .i64 0, .int .i64 0, .int .i32 0, .int .i64 0, .bool false, .slice none 0 0] pO))
  have X2 := Lib.hid (Whole.made (w.alloc (.cells #[.string nm, .int .i64 kd, .int .i64 ty, .int .i64 lv, .int .i32 nn, .int .i64 md, .bool ou, .slice Ap ps.length cp] pO)) pO #[.string ⟨#[]⟩, .int .i64 0, .int .i64 0, .int .i64 0, .int .i32 0, .int .i64 0, .bool false, .slice none 0 0] (w.heap.size + 1) SZ.out.symm)
  have SCL := Lib.hid (fun W => sclone_any nm W hs)
  have PCL := Lib.hid (fun W hW => pclone_any (.slice Ap ps.length cp) B ps W hW hn)
  have HB := Lib.hid hB
  clear h b1 b2 SZ hs hn hB
  go_enter Try.func26, Try.ntmps26
  have p0 : ((w.alloc (.cells #[.string nm, .int .i64 kd, .int .i64 ty, .int .i64 lv, .int .i32 nn, .int .i64 md, .bool ou, .slice Ap ps.length cp] pO)).alloc (.cells #[.string ⟨#[]⟩, .int .i64 0, .int .i64 0, .int .i64 0, .int .i32 0, .int .i64 0, .bool false, .slice none 0 0] pO)).cell? ⟨w.heap.size, 0, none⟩ = some (.string nm) := X1.out.cell 0
  go_wp2_with fail
  generalize ((w.alloc (.cells #[.string nm, .int .i64 kd, .int .i64 ty, .int .i64 lv, .int .i32 nn, .int .i64 md, .bool ou, .slice Ap ps.length cp] pO)).alloc (.cells #[.string ⟨#[]⟩, .int .i64 0, .int .i64 0, .int .i64 0, .int .i32 0, .int .i64 0, .bool false, .slice none 0 0] pO)) = V at *
  refine (SCL.out V).mono ?_
  rintro e w1 ⟨rfl, hb1⟩
  have Y1 := Lib.hid (X1.out.below hb1 X1.out.lt)
  have Y2 := Lib.hid (X2.out.below hb1 X2.out.lt)
  have B1 := Lib.hid (BV.out.trans (hb1.mono BV.out.size))
  have HP1 := Lib.hid (HP.out.below hb1)
  have p0 : w1.cell? ⟨w.heap.size, 0, none⟩ = some (.string nm) := Y1.out.cell 0
  have g0 : w1.frozen? ⟨w.heap.size, 0, none⟩ = false := Y1.out.free 0
  have Z1 := Lib.hid (show Whole (w1.setCell ⟨w.heap.size, 0, none⟩ (.string nm)) w.heap.size pO #[.string nm, .int .i64 kd, .int .i64 ty, .int .i64 lv, .int .i32 nn, .int .i64 md, .bool ou, .slice Ap ps.length cp] from Y1.out.store 0 _)
  have Z2 := Lib.hid (show Whole (w1.setCell ⟨w.heap.size, 0, none⟩ (.string nm)) (w.heap.size + 1) pO #[.string ⟨#[]⟩, .int .i64 0, .int .i64 0, .int .i64 0, .int .i32 0, .int .i64 0, .bool false, .slice none 0 0] from Y2.out.far (by show w.heap.size + 1 ≠ w.heap.size; omega) _)
  have B2 := Lib.hid (B1.out.setCell (p := ⟨w.heap.size, 0, none⟩) (Nat.le_refl _) (.string nm))
  have HP2 := Lib.hid (HP1.out.set (j := 0) (u := .string nm) Y1.out (by decide) HB.out)
  have p7 : (w1.setCell ⟨w.heap.size, 0, none⟩ (.string nm)).cell? ⟨w.heap.size, 7, none⟩ = some (.slice Ap ps.length cp) := Z1.out.cell 7
  clear hb1 SCL X1 X2 BV HP Y1 Y2 B1 HP1
  go_wp2_with fail
  generalize (w1.setCell ⟨w.heap.size, 0, none⟩ (.string nm)) = V1 at *
  refine (PCL.out V1 HP2.out).mono ?_
  rintro e w3 ⟨v', rfl, hb3, hp3⟩
  obtain ⟨Aq, cq, rfl⟩ := hp3.form
  have Y1 := Lib.hid (Z1.out.below hb3 Z1.out.lt)
  have Y2 := Lib.hid (Z2.out.below hb3 Z2.out.lt)
  have B3 := Lib.hid (B2.out.trans (hb3.mono B2.out.size))
  have p7 : w3.cell? ⟨w.heap.size, 7, none⟩ = some (.slice Ap ps.length cp) := Y1.out.cell 7
  have g7 : w3.frozen? ⟨w.heap.size, 7, none⟩ = false := Y1.out.free 7
  have Q1 := Lib.hid (show Whole (w3.setCell ⟨w.heap.size, 7, none⟩ (.slice Aq ps.length cq)) w.heap.size pO #[.string nm, .int .i64 kd, .int .i64 ty, .int .i64 lv, .int .i32 nn, .int .i64 md, .bool ou, .slice Aq ps.length cq] from Y1.out.store 7 _)
  have Q2 := Lib.hid (show Whole (w3.setCell ⟨w.heap.size, 7, none⟩ (.slice Aq ps.length cq)) (w.heap.size + 1) pO #[.string ⟨#[]⟩, .int .i64 0, .int .i64 0, .int .i64 0, .int .i32 0, .int .i64 0, .bool false, .slice none 0 0] from Y2.out.far (by show w.heap.size + 1 ≠ w.heap.size; omega) _)
  have B4 := Lib.hid (B3.out.setCell (p := ⟨w.heap.size, 7, none⟩) (Nat.le_refl _) (.slice Aq ps.length cq))
  have HP4 := Lib.hid (hp3.set (j := 7) (u := .slice Aq ps.length cq) Y1.out (by decide) HB.out)
  have r0 : (w3.setCell ⟨w.heap.size, 7, none⟩ (.slice Aq ps.length cq)).cell? ⟨w.heap.size, 0, none⟩ = some (.string nm) := Q1.out.cell 0
  have r1 : (w3.setCell ⟨w.heap.size, 7, none⟩ (.slice Aq ps.length cq)).cell? ⟨w.heap.size, 1, none⟩ = some (.int .i64 kd) := Q1.out.cell 1
  have r2 : (w3.setCell ⟨w.heap.size, 7, none⟩ (.slice Aq ps.length cq)).cell? ⟨w.heap.size, 2, none⟩ = some (.int .i64 ty) := Q1.out.cell 2
  have r3 : (w3.setCell ⟨w.heap.size, 7, none⟩ (.slice Aq ps.length cq)).cell? ⟨w.heap.size, 3, none⟩ = some (.int .i64 lv) := Q1.out.cell 3
  have r4 : (w3.setCell ⟨w.heap.size, 7, none⟩ (.slice Aq ps.length cq)).cell? ⟨w.heap.size, 4, none⟩ = some (.int .i32 nn) := Q1.out.cell 4
  have r5 : (w3.setCell ⟨w.heap.size, 7, none⟩ (.slice Aq ps.length cq)).cell? ⟨w.heap.size, 5, none⟩ = some (.int .i64 md) := Q1.out.cell 5
  have r6 : (w3.setCell ⟨w.heap.size, 7, none⟩ (.slice Aq ps.length cq)).cell? ⟨w.heap.size, 6, none⟩ = some (.bool ou) := Q1.out.cell 6
  have r7 : (w3.setCell ⟨w.heap.size, 7, none⟩ (.slice Aq ps.length cq)).cell? ⟨w.heap.size, 7, none⟩ = some (.slice Aq ps.length cq) := Q1.out.cell 7
  have s0 : (w3.setCell ⟨w.heap.size, 7, none⟩ (.slice Aq ps.length cq)).cell? ⟨w.heap.size + 1, 0, none⟩ = some (.string ⟨#[]⟩) := Q2.out.cell 0
  have t0 : (w3.setCell ⟨w.heap.size, 7, none⟩ (.slice Aq ps.length cq)).frozen? ⟨w.heap.size + 1, 0, none⟩ = false := Q2.out.free 0
  have s1 : (w3.setCell ⟨w.heap.size, 7, none⟩ (.slice Aq ps.length cq)).cell? ⟨w.heap.size + 1, 1, none⟩ = some (.int .i64 0) := Q2.out.cell 1
  have t1 : (w3.setCell ⟨w.heap.size, 7, none⟩ (.slice Aq ps.length cq)).frozen? ⟨w.heap.size + 1, 1, none⟩ = false := Q2.out.free 1
  have s2 : (w3.setCell ⟨w.heap.size, 7, none⟩ (.slice Aq ps.length cq)).cell? ⟨w.heap.size + 1, 2, none⟩ = some (.int .i64 0) := Q2.out.cell 2
  have t2 : (w3.setCell ⟨w.heap.size, 7, none⟩ (.slice Aq ps.length cq)).frozen? ⟨w.heap.size + 1, 2, none⟩ = false := Q2.out.free 2
  have s3 : (w3.setCell ⟨w.heap.size, 7, none⟩ (.slice Aq ps.length cq)).cell? ⟨w.heap.size + 1, 3, none⟩ = some (.int .i64 0) := Q2.out.cell 3
  have t3 : (w3.setCell ⟨w.heap.size, 7, none⟩ (.slice Aq ps.length cq)).frozen? ⟨w.heap.size + 1, 3, none⟩ = false := Q2.out.free 3
  have s4 : (w3.setCell ⟨w.heap.size, 7, none⟩ (.slice Aq ps.length cq)).cell? ⟨w.heap.size + 1, 4, none⟩ = some (.int .i32 0) := Q2.out.cell 4
  have t4 : (w3.setCell ⟨w.heap.size, 7, none⟩ (.slice Aq ps.length cq)).frozen? ⟨w.heap.size + 1, 4, none⟩ = false := Q2.out.free 4
  have s5 : (w3.setCell ⟨w.heap.size, 7, none⟩ (.slice Aq ps.length cq)).cell? ⟨w.heap.size + 1, 5, none⟩ = some (.int .i64 0) := Q2.out.cell 5
  have t5 : (w3.setCell ⟨w.heap.size, 7, none⟩ (.slice Aq ps.length cq)).frozen? ⟨w.heap.size + 1, 5, none⟩ = false := Q2.out.free 5
  have s6 : (w3.setCell ⟨w.heap.size, 7, none⟩ (.slice Aq ps.length cq)).cell? ⟨w.heap.size + 1, 6, none⟩ = some (.bool false) := Q2.out.cell 6
  have t6 : (w3.setCell ⟨w.heap.size, 7, none⟩ (.slice Aq ps.length cq)).frozen? ⟨w.heap.size + 1, 6, none⟩ = false := Q2.out.free 6
  have s7 : (w3.setCell ⟨w.heap.size, 7, none⟩ (.slice Aq ps.length cq)).cell? ⟨w.heap.size + 1, 7, none⟩ = some (.slice none 0 0) := Q2.out.cell 7
  have t7 : (w3.setCell ⟨w.heap.size, 7, none⟩ (.slice Aq ps.length cq)).frozen? ⟨w.heap.size + 1, 7, none⟩ = false := Q2.out.free 7
  clear hb3 hp3 PCL Z1 Z2 B2 HP2 Y1 Y2 B3
  go_wp2_with fail
  generalize (w3.setCell ⟨w.heap.size, 7, none⟩ (.slice Aq ps.length cq)) = V3 at *
  clear r0 r1 r2 r3 r4 r5 r6 r7 s0 s1 s2 s3 s4 s5 s6 s7 t0 t1 t2 t3 t4 t5 t6 t7 p7 g7 p0 g0
  have SX := Lib.hid (set_eight Q2.out (.string nm) (.int .i64 kd) (.int .i64 ty) (.int .i64 lv) (.int .i32 nn) (.int .i64 md) (.bool ou) (.slice Aq ps.length cq))
  have HP5 := Lib.hid (HP4.out.grown Q2.out (by decide) (by have := HB.out; omega) SX.out.2)
  have B5 := Lib.hid (show Below w.heap.size w ((((((((V3.setCell ⟨w.heap.size + 1, 0, none⟩ (.string nm)).setCell ⟨w.heap.size + 1, 1, none⟩ (.int .i64 kd)).setCell ⟨w.heap.size + 1, 2, none⟩ (.int .i64 ty)).setCell ⟨w.heap.size + 1, 3, none⟩ (.int .i64 lv)).setCell ⟨w.heap.size + 1, 4, none⟩ (.int .i32 nn)).setCell ⟨w.heap.size + 1, 5, none⟩ (.int .i64 md)).setCell ⟨w.heap.size + 1, 6, none⟩ (.bool ou)).setCell ⟨w.heap.size + 1, 7, none⟩ (.slice Aq ps.length cq)) from B4.out.grown SX.out.2 B4.out.size (fun b hb => by injection hb with hb; omega))
  have W9 := SX.out.1
  have x0 : ((((((((V3.setCell ⟨w.heap.size + 1, 0, none⟩ (.string nm)).setCell ⟨w.heap.size + 1, 1, none⟩ (.int .i64 kd)).setCell ⟨w.heap.size + 1, 2, none⟩ (.int .i64 ty)).setCell ⟨w.heap.size + 1, 3, none⟩ (.int .i64 lv)).setCell ⟨w.heap.size + 1, 4, none⟩ (.int .i32 nn)).setCell ⟨w.heap.size + 1, 5, none⟩ (.int .i64 md)).setCell ⟨w.heap.size + 1, 6, none⟩ (.bool ou)).setCell ⟨w.heap.size + 1, 7, none⟩ (.slice Aq ps.length cq)).cell? ⟨w.heap.size + 1, 0, none⟩ = some (.string nm) := W9.cell 0
  have x1 : ((((((((V3.setCell ⟨w.heap.size + 1, 0, none⟩ (.string nm)).setCell ⟨w.heap.size + 1, 1, none⟩ (.int .i64 kd)).setCell ⟨w.heap.size + 1, 2, none⟩ (.int .i64 ty)).setCell ⟨w.heap.size + 1, 3, none⟩ (.int .i64 lv)).setCell ⟨w.heap.size + 1, 4, none⟩ (.int .i32 nn)).setCell ⟨w.heap.size + 1, 5, none⟩ (.int .i64 md)).setCell ⟨w.heap.size + 1, 6, none⟩ (.bool ou)).setCell ⟨w.heap.size + 1, 7, none⟩ (.slice Aq ps.length cq)).cell? ⟨w.heap.size + 1, 1, none⟩ = some (.int .i64 kd) := W9.cell 1
  have x2 : ((((((((V3.setCell ⟨w.heap.size + 1, 0, none⟩ (.string nm)).setCell ⟨w.heap.size + 1, 1, none⟩ (.int .i64 kd)).setCell ⟨w.heap.size + 1, 2, none⟩ (.int .i64 ty)).setCell ⟨w.heap.size + 1, 3, none⟩ (.int .i64 lv)).setCell ⟨w.heap.size + 1, 4, none⟩ (.int .i32 nn)).setCell ⟨w.heap.size + 1, 5, none⟩ (.int .i64 md)).setCell ⟨w.heap.size + 1, 6, none⟩ (.bool ou)).setCell ⟨w.heap.size + 1, 7, none⟩ (.slice Aq ps.length cq)).cell? ⟨w.heap.size + 1, 2, none⟩ = some (.int .i64 ty) := W9.cell 2
  have x3 : ((((((((V3.setCell ⟨w.heap.size + 1, 0, none⟩ (.string nm)).setCell ⟨w.heap.size + 1, 1, none⟩ (.int .i64 kd)).setCell ⟨w.heap.size + 1, 2, none⟩ (.int .i64 ty)).setCell ⟨w.heap.size + 1, 3, none⟩ (.int .i64 lv)).setCell ⟨w.heap.size + 1, 4, none⟩ (.int .i32 nn)).setCell ⟨w.heap.size + 1, 5, none⟩ (.int .i64 md)).setCell ⟨w.heap.size + 1, 6, none⟩ (.bool ou)).setCell ⟨w.heap.size + 1, 7, none⟩ (.slice Aq ps.length cq)).cell? ⟨w.heap.size + 1, 3, none⟩ = some (.int .i64 lv) := W9.cell 3
  have x4 : ((((((((V3.setCell ⟨w.heap.size + 1, 0, none⟩ (.string nm)).setCell ⟨w.heap.size + 1, 1, none⟩ (.int .i64 kd)).setCell ⟨w.heap.size + 1, 2, none⟩ (.int .i64 ty)).setCell ⟨w.heap.size + 1, 3, none⟩ (.int .i64 lv)).setCell ⟨w.heap.size + 1, 4, none⟩ (.int .i32 nn)).setCell ⟨w.heap.size + 1, 5, none⟩ (.int .i64 md)).setCell ⟨w.heap.size + 1, 6, none⟩ (.bool ou)).setCell ⟨w.heap.size + 1, 7, none⟩ (.slice Aq ps.length cq)).cell? ⟨w.heap.size + 1, 4, none⟩ = some (.int .i32 nn) := W9.cell 4
  have x5 : ((((((((V3.setCell ⟨w.heap.size + 1, 0, none⟩ (.string nm)).setCell ⟨w.heap.size + 1, 1, none⟩ (.int .i64 kd)).setCell ⟨w.heap.size + 1, 2, none⟩ (.int .i64 ty)).setCell ⟨w.heap.size + 1, 3, none⟩ (.int .i64 lv)).setCell ⟨w.heap.size + 1, 4, none⟩ (.int .i32 nn)).setCell ⟨w.heap.size + 1, 5, none⟩ (.int .i64 md)).setCell ⟨w.heap.size + 1, 6, none⟩ (.bool ou)).setCell ⟨w.heap.size + 1, 7, none⟩ (.slice Aq ps.length cq)).cell? ⟨w.heap.size + 1, 5, none⟩ = some (.int .i64 md) := W9.cell 5
  have x6 : ((((((((V3.setCell ⟨w.heap.size + 1, 0, none⟩ (.string nm)).setCell ⟨w.heap.size + 1, 1, none⟩ (.int .i64 kd)).setCell ⟨w.heap.size + 1, 2, none⟩ (.int .i64 ty)).setCell ⟨w.heap.size + 1, 3, none⟩ (.int .i64 lv)).setCell ⟨w.heap.size + 1, 4, none⟩ (.int .i32 nn)).setCell ⟨w.heap.size + 1, 5, none⟩ (.int .i64 md)).setCell ⟨w.heap.size + 1, 6, none⟩ (.bool ou)).setCell ⟨w.heap.size + 1, 7, none⟩ (.slice Aq ps.length cq)).cell? ⟨w.heap.size + 1, 6, none⟩ = some (.bool ou) := W9.cell 6
  have x7 : ((((((((V3.setCell ⟨w.heap.size + 1, 0, none⟩ (.string nm)).setCell ⟨w.heap.size + 1, 1, none⟩ (.int .i64 kd)).setCell ⟨w.heap.size + 1, 2, none⟩ (.int .i64 ty)).setCell ⟨w.heap.size + 1, 3, none⟩ (.int .i64 lv)).setCell ⟨w.heap.size + 1, 4, none⟩ (.int .i32 nn)).setCell ⟨w.heap.size + 1, 5, none⟩ (.int .i64 md)).setCell ⟨w.heap.size + 1, 6, none⟩ (.bool ou)).setCell ⟨w.heap.size + 1, 7, none⟩ (.slice Aq ps.length cq)).cell? ⟨w.heap.size + 1, 7, none⟩ = some (.slice Aq ps.length cq) := W9.cell 7
  refine bodyPost_ret (v := .agg #[.string nm, .int .i64 kd, .int .i64 ty, .int .i64 lv, .int .i32 nn, .int .i64 md, .bool ou, .slice Aq ps.length cq]) ?_ rfl ⟨Aq, cq, rfl, B5.out, HP5.out⟩
  clear HP5 B5 SX W9 Q1 Q2 HP4 B4
  generalize ((((((((V3.setCell ⟨w.heap.size + 1, 0, none⟩ (.string nm)).setCell ⟨w.heap.size + 1, 1, none⟩ (.int .i64 kd)).setCell ⟨w.heap.size + 1, 2, none⟩ (.int .i64 ty)).setCell ⟨w.heap.size + 1, 3, none⟩ (.int .i64 lv)).setCell ⟨w.heap.size + 1, 4, none⟩ (.int .i32 nn)).setCell ⟨w.heap.size + 1, 5, none⟩ (.int .i64 md)).setCell ⟨w.heap.size + 1, 6, none⟩ (.bool ou)).setCell ⟨w.heap.size + 1, 7, none⟩ (.slice Aq ps.length cq)) = Z at *
  simp [results, Try.results26, go_sem, x0, x1, x2, x3, x4, x5, x6, x7]
end Go.Proofs.Ytpfoebnlngfebaa
