/- Package instr: Fill, for 2 registers and 1 numbers. -/
import Derived.Test.YtnmpamfgkidmiaaDoorInstrV
namespace Go.Proofs.YtnmpamfgkidmiaaDoor
open Go.ChangeShapes Go.WideShapes Go.ChangeAt Go.RowKit
set_option linter.unusedVariables false

set_option maxHeartbeats 8000000 in
set_option maxRecDepth 100000 in
theorem fill_21 (op : Int) (A : Option Addr) (cp : Nat) (ss : List ByteArray) (w : World) (hS : ShapesIn w) (hs : Strs w A 3 ss) (hz : ∀ z ∈ ss, z.size ≤ maxLen) (h : shapeOf op ≠ -1) (hreg : regsOf (shapeOf op) = 2) (himm : 0 < bitsOf (shapeOf op)) :
    Calls Tryd.prog 73 #[.int .i64 op, .slice A 3 cp] w (FillPost op ss w) := by
  have hr : fieldsR op = .tuple #[.agg #[.int .i64 2, .int .i64 (bitsOf (shapeOf op)), .bool (signOf (shapeOf op))], .bool true] := by
    unfold fieldsR fieldsV
    rw [hreg]
    simp [h]
  have hlen : ss.length = fillCount op := by
    unfold fillCount
    rw [hreg, hs.1, if_pos himm]
    rfl
  have hsz : ∀ k, (ss.getD k ⟨#[]⟩).size ≤ maxLen := fun k => by
    rcases Nat.lt_or_ge k ss.length with hk | hk
    · simpa [List.getD, hk] using hz ss[k] (List.getElem_mem hk)
    · simp only [List.getD, List.getElem?_eq_none hk, Option.getD_none]
      exact Nat.zero_le _
  have ea : fa op ss = pfN (pfx op 0) (ss.getD 0 ⟨#[]⟩) := by unfold fa; rw [hreg]; rfl
  have da : ka op ss = pfB (pfx op 0) (ss.getD 0 ⟨#[]⟩) := by unfold ka; rw [hreg]; rfl
  have eb : fb op ss = pfN (pfx op 1) (ss.getD 1 ⟨#[]⟩) := by unfold fb; rw [hreg]; rfl
  have db : kb op ss = pfB (pfx op 1) (ss.getD 1 ⟨#[]⟩) := by unfold kb; rw [hreg]; rfl
  have ec : fc op ss = 0 := by unfold fc; rw [hreg]; rfl
  have dc : kc op ss = true := by unfold kc; rw [hreg]; rfl
  have en : fn op ss = pfN ⟨#[]⟩ (ss.getD 2 ⟨#[]⟩) := by unfold fn; rw [if_pos himm, hreg]; rfl
  have dn : kn op ss = pfB ⟨#[]⟩ (ss.getD 2 ⟨#[]⟩) := by unfold kn; rw [if_pos himm, hreg]; rfl
  have na := pfN_i64 (pfx op 0) (ss.getD 0 ⟨#[]⟩)
  have nb := pfN_i64 (pfx op 1) (ss.getD 1 ⟨#[]⟩)
  have nn := pfN_i64 ⟨#[]⟩ (ss.getD 2 ⟨#[]⟩)
  have hC := fun w hs => check_any op (pfN (pfx op 0) (ss.getD 0 ⟨#[]⟩)) (pfN (pfx op 1) (ss.getD 1 ⟨#[]⟩)) 0 (pfN ⟨#[]⟩ (ss.getD 2 ⟨#[]⟩)) w hs (by unfold I64; omega) (by unfold I64; omega) (by unfold I64; omega) (by unfold I64; omega)
  have hY := fun h2 h3 h4 h5 h6 => fillOk_yes (op := op) (ss := ss) h hlen h2 h3 h4 h5 h6
  have hX := fun h6 => fillOk_check (op := op) (ss := ss) h6
  rw [ea, eb, ec, en] at hY hX
  have YES := Lib.hid hY
  have BAD := Lib.hid hX
  have C := Lib.hid hC
  have Ea := Lib.hid ea
  have Da := Lib.hid da
  have Eb := Lib.hid eb
  have Db := Lib.hid db
  have Ec := Lib.hid ec
  have Dc := Lib.hid dc
  have En := Lib.hid en
  have Dn := Lib.hid dn
  have R := Lib.hid hr
  have HS := Lib.hid hS
  have dm : decide (0 < bitsOf (shapeOf op)) = true := by simpa using himm
  obtain ⟨b, off, rfl, hbb, hcell⟩ := hs.2 (by decide)
  have c0 : w.cell? ⟨b, off, none⟩ = some (.string (ss.getD 0 ⟨#[]⟩)) := by have := hcell 0 (by decide); rwa [Nat.add_zero] at this
  have z0 := hsz 0
  have c1 : w.cell? ⟨b, off + 1, none⟩ = some (.string (ss.getD 1 ⟨#[]⟩)) := hcell 1 (by decide)
  have z1 := hsz 1
  have c2 : w.cell? ⟨b, off + 2, none⟩ = some (.string (ss.getD 2 ⟨#[]⟩)) := hcell 2 (by decide)
  have z2 := hsz 2
  clear hcell
  clear hr hC hY hX hS hs hz h hreg hlen hsz ea eb ec en da db dc dn himm
  generalize bitsOf (shapeOf op) = bits at *
  generalize signOf (shapeOf op) = sgn at *
  generalize ss.getD 0 ⟨#[]⟩ = t0 at *
  generalize ss.getD 1 ⟨#[]⟩ = t1 at *
  generalize ss.getD 2 ⟨#[]⟩ = t2 at *
  unfold instrV at C
  have HC0 := Lib.hid c0
  have HC1 := Lib.hid c1
  have HC2 := Lib.hid c2
  clear c0 c1 c2
  go_enter Tryd.func73, Tryd.ntmps73
  go_wp2_with fail
  refine (fieldsOf_any _ _ (HS.out.alloc _)).mono ?_
  rintro e w1 ⟨rfl, hb1⟩
  rw [R.out]
  have T4a := Lib.hid ((Whole.made w 93 #[.int .i64 0, .int .i64 0, .int .i64 0, .int .i64 0, .int .i64 0] _ rfl).below hb1 (by simp))
  have HS1 := Lib.hid ((HS.out.alloc _).below hb1 (Nat.le_refl _))
  have B1 := Lib.hid (((Below.refl _ _).alloc (Nat.le_refl _) _).trans (hb1.mono (show w.heap.size ≤ _ by simp)))
  have z4a : w.heap.size < w1.heap.size := T4a.out.lt
  clear hb1
  go_wp2_with fail
  refine (count_any 2 bits sgn _ (by decide) (by decide)).mono ?_
  rintro e w2 ⟨rfl, hb2⟩
  have T6 := Lib.hid ((Whole.made w1 133 #[.int .i64 2, .int .i64 bits, .bool sgn] _ rfl).below hb2 (by simp))
  have T4 := Lib.hid ((T4a.out.alloc (.cells #[.int .i64 2, .int .i64 bits, .bool sgn] 133)).below hb2 (by simp; omega))
  have HS2 := Lib.hid ((HS1.out.alloc _).below hb2 (Nat.le_refl _))
  have B2 := Lib.hid ((B1.out.alloc (Nat.le_of_lt z4a) _).trans (hb2.mono (show w.heap.size ≤ _ by simp; omega)))
  have z4 : w.heap.size < w2.heap.size := T4.out.lt
  have z6 : w1.heap.size < w2.heap.size := T6.out.lt
  have p0 : w2.cell? ⟨w1.heap.size, 0, none⟩ = some (.int .i64 2) := T6.out.cell 0
  clear hb2
  rw [if_pos (by simpa using dm)]
  go_wp2_with fail
  clear p0
  have T8 := Lib.hid (Whole.made w2 137 #[.int .i64 0, .int .i64 0, .int .i64 0] _ rfl)
  have T6b := Lib.hid (T6.out.alloc (.cells #[.int .i64 0, .int .i64 0, .int .i64 0] 137))
  have T4b := Lib.hid (T4.out.alloc (.cells #[.int .i64 0, .int .i64 0, .int .i64 0] 137))
  have HSb := Lib.hid (HS2.out.alloc (.cells #[.int .i64 0, .int .i64 0, .int .i64 0] 137))
  have Bb := Lib.hid (B2.out.alloc (Nat.le_of_lt z4) (.cells #[.int .i64 0, .int .i64 0, .int .i64 0] 137))

  have a46 : w.heap.size ≠ w1.heap.size := Nat.ne_of_lt z4a
  have a48 : w.heap.size ≠ w2.heap.size := Nat.ne_of_lt z4
  have a68 : w1.heap.size ≠ w2.heap.size := Nat.ne_of_lt z6
  have b8 : w.heap.size ≤ w2.heap.size := Nat.le_of_lt z4
  generalize w2.alloc (.cells #[.int .i64 0, .int .i64 0, .int .i64 0] 137) = W at *
  generalize w1.heap.size = g6 at *
  generalize w2.heap.size = g8 at *
  clear T6 T4 HS2 B2 T4a HS1 B1
  refine wp_loop_rounds 3 ?_
  rw [rounds_succ]
  go_wp2_with fail
  have lc0 : W.cell? ⟨b, off, none⟩ = some (.string t0) := (Bb.out.cell (p := ⟨b, off, none⟩) hbb).trans HC0.out
  have ld0 : W.cell? ⟨g8, 0, none⟩ = some (heldAt W ⟨g8, 0, none⟩) := heldAt_of (T8.out.cell 0)
  have lf0 : W.frozen? ⟨g8, 0, none⟩ = false := T8.out.free 0
  have hne0 : g8 ≠ b := by omega
  have LS0 := And.intro lc0 (And.intro ld0 lf0)
  clear lc0 ld0 lf0
  go_region_held3 (fun y => y.cell? ⟨b, off, none⟩ = some (.string t0) ∧ y.cell? ⟨g8, 0, none⟩ = some (heldAt y ⟨g8, 0, none⟩) ∧ y.frozen? ⟨g8, 0, none⟩ = false)
    (first
      | assumption
      | exact keepF_drew (by assumption)
      | exact keepF_call (by assumption) hbm
      | exact keepF_set (by assumption) hne0)
    (first
      | (go_at_call 80; refine (prefix_any _ _ _).mono ?_; rintro e w' ⟨rfl, rfl⟩)
      | (go_at_call 95; refine (parseField_any _ _ _ z0).mono ?_; rintro e y1 ⟨rfl, hbm⟩))

  have B1 := Lib.hid ((Bb.out.drew.trans (hbm.mono Bb.out.size)).setCell (p := ⟨g8, 0, none⟩) b8 (.int .i64 (pfN (pfx op 0) t0)))
  have T8_1 := Lib.hid (show Whole (y1.setCell ⟨g8, 0, none⟩ (.int .i64 (pfN (pfx op 0) t0))) g8 137 #[.int .i64 (pfN (pfx op 0) t0), .int .i64 0, .int .i64 0] from (Whole.below (w := W.drew) T8.out hbm T8.out.lt).store 0 (.int .i64 (pfN (pfx op 0) t0)))
  have T6_1 := Lib.hid ((Whole.below (w := W.drew) T6b.out hbm T6b.out.lt).far (p := ⟨g8, 0, none⟩) a68 (.int .i64 (pfN (pfx op 0) t0)))
  have T4_1 := Lib.hid ((Whole.below (w := W.drew) T4b.out hbm T4b.out.lt).far (p := ⟨g8, 0, none⟩) a48 (.int .i64 (pfN (pfx op 0) t0)))
  have HS_1 := Lib.hid (HS.out.below B1.out (Nat.le_refl _))
  rename _ ∧ _ ∧ _ => hHl
  clear hbm hHl LS0
  generalize y1.setCell ⟨g8, 0, none⟩ (.int .i64 (pfN (pfx op 0) t0)) = W1 at *
  by_cases ok0 : pfB (pfx op 0) t0 = true
  case neg =>
    rw [Bool.not_eq_true] at ok0
    have NO := Lib.hid (fillOk_a (op := op) (ss := ss) (by rw [Da.out]; exact ok0))
    rw [ok0]
    have q0 : W1.cell? ⟨w.heap.size, 0, none⟩ = some (.int .i64 0) := T4_1.out.cell 0
    have q1 : W1.cell? ⟨w.heap.size, 1, none⟩ = some (.int .i64 0) := T4_1.out.cell 1
    have q2 : W1.cell? ⟨w.heap.size, 2, none⟩ = some (.int .i64 0) := T4_1.out.cell 2
    have q3 : W1.cell? ⟨w.heap.size, 3, none⟩ = some (.int .i64 0) := T4_1.out.cell 3
    have q4 : W1.cell? ⟨w.heap.size, 4, none⟩ = some (.int .i64 0) := T4_1.out.cell 4
    have f4 : ∀ i, W1.frozen? ⟨w.heap.size, i, none⟩ = false := T4_1.out.free
    go_wp2_with fail
    refine bodyPost_ret (v := .tuple #[.agg #[.int .i64 0, .int .i64 0, .int .i64 0, .int .i64 0, .int .i64 0], .bool false]) ?_ rfl (fill_no NO.out ?_)
    · simp [results, Tryd.results73, go_sem, q0, q1, q2, q3, q4]
    · repeat (first | exact B1.out | refine Below.setCell ?_ (Nat.le_refl w.heap.size) _)
  have OK0 := Lib.hid (show ka op ss = true by rw [Da.out]; exact ok0)
  rw [ok0]
  clear ok0
  go_wp2_with fail
  rw [rounds_succ]
  go_wp2_with fail
  have lc1 : W1.cell? ⟨b, off + 1, none⟩ = some (.string t1) := (B1.out.cell (p := ⟨b, off + 1, none⟩) hbb).trans HC1.out
  have ld1 : W1.cell? ⟨g8, 1, none⟩ = some (heldAt W1 ⟨g8, 1, none⟩) := heldAt_of (T8_1.out.cell 1)
  have lf1 : W1.frozen? ⟨g8, 1, none⟩ = false := T8_1.out.free 1
  have hne1 : g8 ≠ b := by omega
  have LS1 := And.intro lc1 (And.intro ld1 lf1)
  clear lc1 ld1 lf1
  go_region_held3 (fun y => y.cell? ⟨b, off + 1, none⟩ = some (.string t1) ∧ y.cell? ⟨g8, 1, none⟩ = some (heldAt y ⟨g8, 1, none⟩) ∧ y.frozen? ⟨g8, 1, none⟩ = false)
    (first
      | assumption
      | exact keepF_drew (by assumption)
      | exact keepF_call (by assumption) hbm
      | exact keepF_set (by assumption) hne1)
    (first
      | (go_at_call 80; refine (prefix_any _ _ _).mono ?_; rintro e w' ⟨rfl, rfl⟩)
      | (go_at_call 95; refine (parseField_any _ _ _ z1).mono ?_; rintro e y2 ⟨rfl, hbm⟩))

  have B2 := Lib.hid ((B1.out.drew.trans (hbm.mono B1.out.size)).setCell (p := ⟨g8, 1, none⟩) b8 (.int .i64 (pfN (pfx op 1) t1)))
  have T8_2 := Lib.hid (show Whole (y2.setCell ⟨g8, 1, none⟩ (.int .i64 (pfN (pfx op 1) t1))) g8 137 #[.int .i64 (pfN (pfx op 0) t0), .int .i64 (pfN (pfx op 1) t1), .int .i64 0] from (Whole.below (w := W1.drew) T8_1.out hbm T8_1.out.lt).store 1 (.int .i64 (pfN (pfx op 1) t1)))
  have T6_2 := Lib.hid ((Whole.below (w := W1.drew) T6_1.out hbm T6_1.out.lt).far (p := ⟨g8, 1, none⟩) a68 (.int .i64 (pfN (pfx op 1) t1)))
  have T4_2 := Lib.hid ((Whole.below (w := W1.drew) T4_1.out hbm T4_1.out.lt).far (p := ⟨g8, 1, none⟩) a48 (.int .i64 (pfN (pfx op 1) t1)))
  have HS_2 := Lib.hid (HS.out.below B2.out (Nat.le_refl _))
  rename _ ∧ _ ∧ _ => hHl
  clear hbm hHl LS1
  generalize y2.setCell ⟨g8, 1, none⟩ (.int .i64 (pfN (pfx op 1) t1)) = W2 at *
  by_cases ok1 : pfB (pfx op 1) t1 = true
  case neg =>
    rw [Bool.not_eq_true] at ok1
    have NO := Lib.hid (fillOk_b (op := op) (ss := ss) (by rw [Db.out]; exact ok1))
    rw [ok1]
    have q0 : W2.cell? ⟨w.heap.size, 0, none⟩ = some (.int .i64 0) := T4_2.out.cell 0
    have q1 : W2.cell? ⟨w.heap.size, 1, none⟩ = some (.int .i64 0) := T4_2.out.cell 1
    have q2 : W2.cell? ⟨w.heap.size, 2, none⟩ = some (.int .i64 0) := T4_2.out.cell 2
    have q3 : W2.cell? ⟨w.heap.size, 3, none⟩ = some (.int .i64 0) := T4_2.out.cell 3
    have q4 : W2.cell? ⟨w.heap.size, 4, none⟩ = some (.int .i64 0) := T4_2.out.cell 4
    have f4 : ∀ i, W2.frozen? ⟨w.heap.size, i, none⟩ = false := T4_2.out.free
    go_wp2_with fail
    refine bodyPost_ret (v := .tuple #[.agg #[.int .i64 0, .int .i64 0, .int .i64 0, .int .i64 0, .int .i64 0], .bool false]) ?_ rfl (fill_no NO.out ?_)
    · simp [results, Tryd.results73, go_sem, q0, q1, q2, q3, q4]
    · repeat (first | exact B2.out | refine Below.setCell ?_ (Nat.le_refl w.heap.size) _)
  have OK1 := Lib.hid (show kb op ss = true by rw [Db.out]; exact ok1)
  rw [ok1]
  clear ok1
  go_wp2_with fail
  have OK2 := Lib.hid Dc.out
  have p0 : W2.cell? ⟨g6, 0, none⟩ = some (.int .i64 2) := T6_2.out.cell 0
  have p1 : W2.cell? ⟨g6, 1, none⟩ = some (.int .i64 bits) := T6_2.out.cell 1
  have e0 : W2.cell? ⟨g8, 0, none⟩ = some (.int .i64 (pfN (pfx op 0) t0)) := T8_2.out.cell 0
  have e1 : W2.cell? ⟨g8, 1, none⟩ = some (.int .i64 (pfN (pfx op 1) t1)) := T8_2.out.cell 1
  have e2 : W2.cell? ⟨g8, 2, none⟩ = some (.int .i64 0) := T8_2.out.cell 2
  have l6 : g6 < W2.heap.size := T6_2.out.lt
  have l4 : w.heap.size < W2.heap.size := T4_2.out.lt
  have lc : W2.cell? ⟨b, off + 2, none⟩ = some (.string t2) := (B2.out.cell (p := ⟨b, off + 2, none⟩) hbb).trans HC2.out
  have lb : b < W2.heap.size := Nat.lt_of_lt_of_le hbb B2.out.size
  rw [rounds_succ]
  go_wp2_with fail
  refine (parseField_any _ _ _ z2).mono ?_
  rintro e u1 ⟨rfl, hbu⟩
  have X10 := Lib.hid ((Whole.made W2 93 #[.int .i64 op, .int .i64 (pfN (pfx op 0) t0), .int .i64 (pfN (pfx op 1) t1), .int .i64 0, .int .i64 0] _ rfl).below hbu (by simp))
  have X4 := Lib.hid ((T4_2.out.alloc (.cells #[.int .i64 op, .int .i64 (pfN (pfx op 0) t0), .int .i64 (pfN (pfx op 1) t1), .int .i64 0, .int .i64 0] 93)).below hbu (by simp; omega))
  have BU := Lib.hid ((B2.out.alloc (Nat.le_of_lt l4) (.cells #[.int .i64 op, .int .i64 (pfN (pfx op 0) t0), .int .i64 (pfN (pfx op 1) t1), .int .i64 0, .int .i64 0] 93)).trans (hbu.mono (show w.heap.size ≤ _ by simp; omega)))
  have a410 : w.heap.size ≠ W2.heap.size := Nat.ne_of_lt l4
  have l410 : w.heap.size ≤ W2.heap.size := Nat.le_of_lt l4
  clear hbu p0 p1 e0 e1 e2 l6 lc lb
  generalize W2.heap.size = g10 at *
  have r0 : u1.cell? ⟨g10, 0, none⟩ = some (.int .i64 op) := X10.out.cell 0
  have r1 : u1.cell? ⟨g10, 1, none⟩ = some (.int .i64 (pfN (pfx op 0) t0)) := X10.out.cell 1
  have r2 : u1.cell? ⟨g10, 2, none⟩ = some (.int .i64 (pfN (pfx op 1) t1)) := X10.out.cell 2
  have r3 : u1.cell? ⟨g10, 3, none⟩ = some (.int .i64 0) := X10.out.cell 3
  have r4 : u1.cell? ⟨g10, 4, none⟩ = some (.int .i64 0) := X10.out.cell 4
  have rf : ∀ i, u1.frozen? ⟨g10, i, none⟩ = false := X10.out.free
  have q0 : u1.cell? ⟨w.heap.size, 0, none⟩ = some (.int .i64 0) := X4.out.cell 0
  have q1 : u1.cell? ⟨w.heap.size, 1, none⟩ = some (.int .i64 0) := X4.out.cell 1
  have q2 : u1.cell? ⟨w.heap.size, 2, none⟩ = some (.int .i64 0) := X4.out.cell 2
  have q3 : u1.cell? ⟨w.heap.size, 3, none⟩ = some (.int .i64 0) := X4.out.cell 3
  have q4 : u1.cell? ⟨w.heap.size, 4, none⟩ = some (.int .i64 0) := X4.out.cell 4
  have f4 : ∀ i, u1.frozen? ⟨w.heap.size, i, none⟩ = false := X4.out.free
  by_cases okn : pfB ⟨#[]⟩ t2 = true
  case neg =>
    rw [Bool.not_eq_true] at okn
    have NO := Lib.hid (fillOk_n (op := op) (ss := ss) (by rw [Dn.out]; exact okn))
    rw [okn]
    go_wp2_with fail
    refine bodyPost_ret (v := .tuple #[.agg #[.int .i64 0, .int .i64 0, .int .i64 0, .int .i64 0, .int .i64 0], .bool false]) ?_ rfl (fill_no NO.out ?_)
    · simp [results, Tryd.results73, go_sem, q0, q1, q2, q3, q4]
    · repeat (first | exact BU.out | refine Below.setCell ?_ (Nat.le_refl w.heap.size) _ | refine Below.setCell ?_ l410 _)
  have OKn := Lib.hid (show kn op ss = true by rw [Dn.out]; exact okn)
  rw [okn]
  clear okn
  have Y10 := Lib.hid (show Whole (u1.setCell ⟨g10, 4, none⟩ (.int .i64 (pfN ⟨#[]⟩ t2))) g10 93 #[.int .i64 op, .int .i64 (pfN (pfx op 0) t0), .int .i64 (pfN (pfx op 1) t1), .int .i64 0, .int .i64 (pfN ⟨#[]⟩ t2)] from X10.out.store 4 (.int .i64 (pfN ⟨#[]⟩ t2)))
  have Y4 := Lib.hid (X4.out.far (p := ⟨g10, 4, none⟩) a410 (.int .i64 (pfN ⟨#[]⟩ t2)))
  have BY := Lib.hid (BU.out.setCell (p := ⟨g10, 4, none⟩) l410 (.int .i64 (pfN ⟨#[]⟩ t2)))
  go_wp2_with fail
  refine (C.out _ (HS.out.below BY.out (Nat.le_refl _))).mono ?_
  clear q0 q1 q2 q3 q4 f4 r0 r1 r2 r3 r4 rf
  generalize u1.setCell ⟨g10, 4, none⟩ (.int .i64 (pfN ⟨#[]⟩ t2)) = U at *
  rintro e u2 ⟨rfl, hb2⟩
  have Z10 := Lib.hid (Y10.out.below hb2 Y10.out.lt)
  have Z4 := Lib.hid (Y4.out.below hb2 Y4.out.lt)
  have BZ := Lib.hid (BY.out.trans (hb2.mono BY.out.size))
  clear hb2
  have r0 : u2.cell? ⟨g10, 0, none⟩ = some (.int .i64 op) := Z10.out.cell 0
  have r1 : u2.cell? ⟨g10, 1, none⟩ = some (.int .i64 (pfN (pfx op 0) t0)) := Z10.out.cell 1
  have r2 : u2.cell? ⟨g10, 2, none⟩ = some (.int .i64 (pfN (pfx op 1) t1)) := Z10.out.cell 2
  have r3 : u2.cell? ⟨g10, 3, none⟩ = some (.int .i64 0) := Z10.out.cell 3
  have r4 : u2.cell? ⟨g10, 4, none⟩ = some (.int .i64 (pfN ⟨#[]⟩ t2)) := Z10.out.cell 4
  have q0 : u2.cell? ⟨w.heap.size, 0, none⟩ = some (.int .i64 0) := Z4.out.cell 0
  have q1 : u2.cell? ⟨w.heap.size, 1, none⟩ = some (.int .i64 0) := Z4.out.cell 1
  have q2 : u2.cell? ⟨w.heap.size, 2, none⟩ = some (.int .i64 0) := Z4.out.cell 2
  have q3 : u2.cell? ⟨w.heap.size, 3, none⟩ = some (.int .i64 0) := Z4.out.cell 3
  have q4 : u2.cell? ⟨w.heap.size, 4, none⟩ = some (.int .i64 0) := Z4.out.cell 4
  have f4 : ∀ i, u2.frozen? ⟨w.heap.size, i, none⟩ = false := Z4.out.free
  by_cases hck : checkOf op (pfN (pfx op 0) t0) (pfN (pfx op 1) t1) 0 (pfN ⟨#[]⟩ t2) = 0
  · have Y := Lib.hid (YES.out OK0.out OK1.out OK2.out OKn.out hck)
    rw [hck]
    clear hck
    go_wp2_with fail
    refine bodyPost_ret (v := .tuple #[.agg #[.int .i64 op, .int .i64 (pfN (pfx op 0) t0), .int .i64 (pfN (pfx op 1) t1), .int .i64 0, .int .i64 (pfN ⟨#[]⟩ t2)], .bool true]) ?_ rfl (fill_yes Y.out Ea.out.symm Eb.out.symm Ec.out.symm En.out.symm ?_)
    · simp [results, Tryd.results73, go_sem, q0, q1, q2, q3, q4]
    · repeat (first | exact BZ.out | refine Below.setCell ?_ (Nat.le_refl w.heap.size) _)
  · have NO := Lib.hid (BAD.out hck)
    have hne : (checkOf op (pfN (pfx op 0) t0) (pfN (pfx op 1) t1) 0 (pfN ⟨#[]⟩ t2) != 0) = true := by simpa using hck
    generalize checkOf op (pfN (pfx op 0) t0) (pfN (pfx op 1) t1) 0 (pfN ⟨#[]⟩ t2) = kk at *
    clear hck
    go_wp2_with fail
    refine bodyPost_ret (v := .tuple #[.agg #[.int .i64 0, .int .i64 0, .int .i64 0, .int .i64 0, .int .i64 0], .bool false]) ?_ rfl (fill_no NO.out ?_)
    · simp [results, Tryd.results73, go_sem, q0, q1, q2, q3, q4]
    · repeat (first | exact BZ.out | refine Below.setCell ?_ (Nat.le_refl w.heap.size) _)
end Go.Proofs.YtnmpamfgkidmiaaDoor
