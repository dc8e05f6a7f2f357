/- Types: the law's comparison of a type with the answers'. -/
import Derived.Test.YtabkldahgjicbaaTypT
import Derived.Deep.RegionHeld3
import Derived.BigRegion
namespace Go.Proofs.Ytabkldahgjicbaa
open Go.ChangeShapes Go.WideShapes Go.ChangeAt Go.RowKit
set_option linter.unusedVariables false
set_option linter.unusedSimpArgs false

theorem cell_later {w w' : World} {g o : Nat} {v : Value} (h : w.cell? ⟨g, o, none⟩ = some v) (hb : Below w.heap.size w w') : w'.cell? ⟨g, o, none⟩ = some v := (hb.cell (p := ⟨g, o, none⟩) (block_lt h)).trans h

set_option maxHeartbeats 16000000 in
set_option maxRecDepth 100000 in
theorem is_any (k ln bs sz : Int) (op : Bool) (fds : List Fd) (v1 v2 : Value) (B1 B2 : Nat) (w : World) (h1 : w.ownsRow B1 pF 3 v1 fds.length (fds.flatMap Fd.cells)) (h2 : w.ownsRow B2 rF 3 v2 fds.length (fds.flatMap Fd.cells)) (hF : fds.length ≤ 1000) :
    Calls Try.prog 10 #[.agg #[.int .i64 k, .int .i64 ln, .int .i64 bs, .int .i64 sz, .bool op, v1], .agg #[.int .i64 k, .int .i64 ln, .int .i64 bs, .int .i64 sz, .bool op, v2]] w fun e w' => e = .returned (.bool true) ∧ Below w.heap.size w w' := by
  obtain ⟨A1, c1, rfl⟩ := row_form h1
  obtain ⟨A2, c2, rfl⟩ := row_form h2
  have b1 := (Below.refl w.heap.size w).alloc (Nat.le_refl _) (.cells #[.int .i64 k, .int .i64 ln, .int .i64 bs, .int .i64 sz, .bool op, .slice A1 fds.length c1] pT)
  have b2 := b1.alloc b1.size (.cells #[.int .i64 k, .int .i64 ln, .int .i64 bs, .int .i64 sz, .bool op, .slice A2 fds.length c2] rT)
  have BV := Lib.hid b2
  have H1 := Lib.hid (row_below h1 b2)
  have H2 := Lib.hid (row_below h2 b2)
  have SZ := Lib.hid (show (w.alloc (.cells #[.int .i64 k, .int .i64 ln, .int .i64 bs, .int .i64 sz, .bool op, .slice A1 fds.length c1] pT)).heap.size = w.heap.size + 1 by simp)
  have X1 := Lib.hid ((Whole.made w pT #[.int .i64 k, .int .i64 ln, .int .i64 bs, .int .i64 sz, .bool op, .slice A1 fds.length c1] _ rfl).alloc (.cells #[.int .i64 k, .int .i64 ln, .int .i64 bs, .int .i64 sz, .bool op, .slice A2 fds.length c2] rT))
  have X2 := Lib.hid (Whole.made (w.alloc (.cells #[.int .i64 k, .int .i64 ln, .int .i64 bs, .int .i64 sz, .bool op, .slice A1 fds.length c1] pT)) rT #[.int .i64 k, .int .i64 ln, .int .i64 bs, .int .i64 sz, .bool op, .slice A2 fds.length c2] (w.heap.size + 1) SZ.out.symm)
  clear b1 b2 h1 h2 SZ
  go_enter Try.func10, Try.ntmps10
  have p0 := X1.out.cell 0
  have p1 := X1.out.cell 1
  have p2 := X1.out.cell 2
  have p3 := X1.out.cell 3
  have p4 := X1.out.cell 4
  have p5 := X1.out.cell 5
  have q0 := X2.out.cell 0
  have q1 := X2.out.cell 1
  have q2 := X2.out.cell 2
  have q3 := X2.out.cell 3
  have q4 := X2.out.cell 4
  have q5 := X2.out.cell 5
  go_wp2_with fail
  clear p0 p1 p2 p3 p4 p5 q0 q1 q2 q3 q4 q5
  have hwV := BV.out.size
  have HWV := Lib.hid hwV
  clear hwV
  have hq1 := X1.out.lt
  have hq2 := X2.out.lt
  have HQ := Lib.hid (And.intro hq1 hq2)
  clear hq1 hq2
  generalize (w.alloc (.cells #[.int .i64 k, .int .i64 ln, .int .i64 bs, .int .i64 sz, .bool op, .slice A1 fds.length c1] pT)).alloc (.cells #[.int .i64 k, .int .i64 ln, .int .i64 bs, .int .i64 sz, .bool op, .slice A2 fds.length c2] rT) = V at *
  obtain ⟨qa, hqa⟩ : ∃ qa, qa = w.heap.size := ⟨_, rfl⟩
  obtain ⟨qb, hqb⟩ : ∃ qb, qb = w.heap.size + 1 := ⟨_, rfl⟩
  rw [← hqa] at X1
  rw [← hqb] at X2
  rw [← hqb, ← hqa]
  clear hqa hqb HQ
  go_loopw [5] (fun i wr => ∃ t : Nat, t ≤ fds.length ∧ i = .int .i64 t ∧ Below V.heap.size V wr) (fun i _ => fds.length - (intOf i).toNat)
  case atStart => exact ⟨0, Nat.zero_le _, rfl, Below.refl _ _⟩
  case round =>
    obtain ⟨t, ht, rfl, hb⟩ := hrel
    have BW := Lib.hid hb
    have x5 : wr.cell? ⟨qa, 5, none⟩ = some (.slice A1 fds.length c1) := (X1.out.below hb X1.out.lt).cell 5
    have y5 : wr.cell? ⟨qb, 5, none⟩ = some (.slice A2 fds.length c2) := (X2.out.below hb X2.out.lt).cell 5
    by_cases hlt : t < fds.length
    · have hI : (t : Int) < fds.length := by omega
      obtain ⟨_, g, rfl, _, _, hg⟩ := row_cell (f := Fd.cells) (fun _ => rfl) zF (row_below H1.out hb) rfl hlt
      obtain ⟨_, g', rfl, _, _, hg'⟩ := row_cell (f := Fd.cells) (fun _ => rfl) zF (row_below H2.out hb) rfl hlt
      generalize fds.getD t zF = f at *
      obtain ⟨nm, ty, off⟩ := f
      have a0 : wr.cell? ⟨g, t * 3, none⟩ = some (.string nm) := (hg 0 (by decide)).1
      have a1 : wr.cell? ⟨g, t * 3 + 1, none⟩ = some (.int .i64 ty) := (hg 1 (by decide)).1
      have a2 : wr.cell? ⟨g, t * 3 + 2, none⟩ = some (.int .i64 off) := (hg 2 (by decide)).1
      have b0 : wr.cell? ⟨g', t * 3, none⟩ = some (.string nm) := (hg' 0 (by decide)).1
      have b1 : wr.cell? ⟨g', t * 3 + 1, none⟩ = some (.int .i64 ty) := (hg' 1 (by decide)).1
      have b2 : wr.cell? ⟨g', t * 3 + 2, none⟩ = some (.int .i64 off) := (hg' 2 (by decide)).1
      clear hb hg hg'
      have KP := Lib.hid (fun (y : World) (hy : Below wr.heap.size wr y) => show (fun y => y.cell? ⟨qa, 5, none⟩ = some (.slice (some ⟨g, 0, none⟩) fds.length c1) ∧ y.cell? ⟨qb, 5, none⟩ = some (.slice (some ⟨g', 0, none⟩) fds.length c2) ∧ y.cell? ⟨g, t * 3, none⟩ = some (.string nm) ∧ y.cell? ⟨g, t * 3 + 1, none⟩ = some (.int .i64 ty) ∧ y.cell? ⟨g, t * 3 + 2, none⟩ = some (.int .i64 off) ∧ y.cell? ⟨g', t * 3, none⟩ = some (.string nm) ∧ y.cell? ⟨g', t * 3 + 1, none⟩ = some (.int .i64 ty) ∧ y.cell? ⟨g', t * 3 + 2, none⟩ = some (.int .i64 off)) y from ⟨cell_later x5 hy, cell_later y5 hy, cell_later a0 hy, cell_later a1 hy, cell_later a2 hy, cell_later b0 hy, cell_later b1 hy, cell_later b2 hy⟩)
      go_wp2_with fail
      go_region_held3 (fun y => y.cell? ⟨qa, 5, none⟩ = some (.slice (some ⟨g, 0, none⟩) fds.length c1) ∧ y.cell? ⟨qb, 5, none⟩ = some (.slice (some ⟨g', 0, none⟩) fds.length c2) ∧ y.cell? ⟨g, t * 3, none⟩ = some (.string nm) ∧ y.cell? ⟨g, t * 3 + 1, none⟩ = some (.int .i64 ty) ∧ y.cell? ⟨g, t * 3 + 2, none⟩ = some (.int .i64 off) ∧ y.cell? ⟨g', t * 3, none⟩ = some (.string nm) ∧ y.cell? ⟨g', t * 3 + 1, none⟩ = some (.int .i64 ty) ∧ y.cell? ⟨g', t * 3 + 2, none⟩ = some (.int .i64 off))
        (first
          | with_reducible assumption
          | (refine KP.out _ ?_; repeat (first | exact Below.refl _ _ | refine Below.drew ?_ | (refine Below.alloc ?_ (by simp) _) | (refine Below.setCell ?_ (by simp) _))))
        (fail)
      all_goals
        rename_i hH
        clear hH KP a0 a1 a2 b0 b1 b2 x5 y5
        have SP := Lib.hid (show (wr.alloc (.cells #[.string nm, .int .i64 ty, .int .i64 off] pF)).heap.size = wr.heap.size + 1 by simp)
        have SR := Lib.hid (show (wr.alloc (.cells #[.string nm, .int .i64 ty, .int .i64 off] rF)).heap.size = wr.heap.size + 1 by simp)
        have Ka := Lib.hid ((Whole.made wr pF #[.string nm, .int .i64 ty, .int .i64 off] _ rfl).alloc (.cells #[.string nm, .int .i64 ty, .int .i64 off] rF))
        have Kb := Lib.hid (Whole.made (wr.alloc (.cells #[.string nm, .int .i64 ty, .int .i64 off] pF)) rF #[.string nm, .int .i64 ty, .int .i64 off] (wr.heap.size + 1) SP.out.symm)
        have Kc := Lib.hid ((Whole.made wr rF #[.string nm, .int .i64 ty, .int .i64 off] _ rfl).alloc (.cells #[.string nm, .int .i64 ty, .int .i64 off] pF))
        have Kd := Lib.hid (Whole.made (wr.alloc (.cells #[.string nm, .int .i64 ty, .int .i64 off] rF)) pF #[.string nm, .int .i64 ty, .int .i64 off] (wr.heap.size + 1) SR.out.symm)
        have e0 : ((wr.alloc (.cells #[.string nm, .int .i64 ty, .int .i64 off] pF)).alloc (.cells #[.string nm, .int .i64 ty, .int .i64 off] rF)).cell? ⟨wr.heap.size, 0, none⟩ = some (.string nm) := Ka.out.cell 0
        have e1 : ((wr.alloc (.cells #[.string nm, .int .i64 ty, .int .i64 off] pF)).alloc (.cells #[.string nm, .int .i64 ty, .int .i64 off] rF)).cell? ⟨wr.heap.size, 1, none⟩ = some (.int .i64 ty) := Ka.out.cell 1
        have e2 : ((wr.alloc (.cells #[.string nm, .int .i64 ty, .int .i64 off] pF)).alloc (.cells #[.string nm, .int .i64 ty, .int .i64 off] rF)).cell? ⟨wr.heap.size, 2, none⟩ = some (.int .i64 off) := Ka.out.cell 2
        have f0 : ((wr.alloc (.cells #[.string nm, .int .i64 ty, .int .i64 off] pF)).alloc (.cells #[.string nm, .int .i64 ty, .int .i64 off] rF)).cell? ⟨wr.heap.size + 1, 0, none⟩ = some (.string nm) := Kb.out.cell 0
        have f1 : ((wr.alloc (.cells #[.string nm, .int .i64 ty, .int .i64 off] pF)).alloc (.cells #[.string nm, .int .i64 ty, .int .i64 off] rF)).cell? ⟨wr.heap.size + 1, 1, none⟩ = some (.int .i64 ty) := Kb.out.cell 1
        have f2 : ((wr.alloc (.cells #[.string nm, .int .i64 ty, .int .i64 off] pF)).alloc (.cells #[.string nm, .int .i64 ty, .int .i64 off] rF)).cell? ⟨wr.heap.size + 1, 2, none⟩ = some (.int .i64 off) := Kb.out.cell 2
        have m0 : ((wr.alloc (.cells #[.string nm, .int .i64 ty, .int .i64 off] rF)).alloc (.cells #[.string nm, .int .i64 ty, .int .i64 off] pF)).cell? ⟨wr.heap.size, 0, none⟩ = some (.string nm) := Kc.out.cell 0
        have m1 : ((wr.alloc (.cells #[.string nm, .int .i64 ty, .int .i64 off] rF)).alloc (.cells #[.string nm, .int .i64 ty, .int .i64 off] pF)).cell? ⟨wr.heap.size, 1, none⟩ = some (.int .i64 ty) := Kc.out.cell 1
        have m2 : ((wr.alloc (.cells #[.string nm, .int .i64 ty, .int .i64 off] rF)).alloc (.cells #[.string nm, .int .i64 ty, .int .i64 off] pF)).cell? ⟨wr.heap.size, 2, none⟩ = some (.int .i64 off) := Kc.out.cell 2
        have n0 : ((wr.alloc (.cells #[.string nm, .int .i64 ty, .int .i64 off] rF)).alloc (.cells #[.string nm, .int .i64 ty, .int .i64 off] pF)).cell? ⟨wr.heap.size + 1, 0, none⟩ = some (.string nm) := Kd.out.cell 0
        have n1 : ((wr.alloc (.cells #[.string nm, .int .i64 ty, .int .i64 off] rF)).alloc (.cells #[.string nm, .int .i64 ty, .int .i64 off] pF)).cell? ⟨wr.heap.size + 1, 1, none⟩ = some (.int .i64 ty) := Kd.out.cell 1
        have n2 : ((wr.alloc (.cells #[.string nm, .int .i64 ty, .int .i64 off] rF)).alloc (.cells #[.string nm, .int .i64 ty, .int .i64 off] pF)).cell? ⟨wr.heap.size + 1, 2, none⟩ = some (.int .i64 off) := Kd.out.cell 2
        have Bab := Lib.hid (show Below V.heap.size V ((wr.alloc (.cells #[.string nm, .int .i64 ty, .int .i64 off] pF)).alloc (.cells #[.string nm, .int .i64 ty, .int .i64 off] rF)).drew from (((BW.out.alloc BW.out.size _).alloc (Nat.le_trans BW.out.size (by simp)) _).drew))
        have Bba := Lib.hid (show Below V.heap.size V ((wr.alloc (.cells #[.string nm, .int .i64 ty, .int .i64 off] rF)).alloc (.cells #[.string nm, .int .i64 ty, .int .i64 off] pF)).drew from (((BW.out.alloc BW.out.size _).alloc (Nat.le_trans BW.out.size (by simp)) _).drew))
        clear SP SR Ka Kb Kc Kd BW
        go_wp2_with fail
        go_roundw
        case rel => exact ⟨t + 1, by omega, by go_num, by first | exact Bab.out | exact Bba.out⟩
        case measure => simp [intOf]; omega
    · have hI : ¬ (t : Int) < fds.length := by omega
      clear hb
      go_wp2_with fail
      go_ret
      exact ⟨rfl, BV.out.trans (BW.out.mono HWV.out)⟩
end Go.Proofs.Ytabkldahgjicbaa
