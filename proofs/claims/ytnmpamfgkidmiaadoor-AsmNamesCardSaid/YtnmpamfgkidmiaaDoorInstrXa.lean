/- InstrX03 in one. -/
import Derived.Test.YtnmpamfgkidmiaaDoorInstrG2
import Derived.Test.YtnmpamfgkidmiaaDoorInstrQS

/- The answers' Fill: up to one register. -/

/- The answers' Fill of package instr, for 0 registers and 0 numbers. -/
namespace Go.Proofs.YtnmpamfgkidmiaaDoor
open Go.ChangeShapes Go.WideShapes Go.ChangeAt Go.RowKit
set_option linter.unusedVariables false

set_option maxHeartbeats 8000000 in
set_option maxRecDepth 100000 in
theorem reffill_00 (op : Int) (A : Option Addr) (cp : Nat) (ss : List ByteArray) (w : World) (hs : Strs w A 0 ss) (hz : ∀ z ∈ ss, z.size ≤ maxLen) (h : shapeOf op ≠ -1) (hreg : regsOf (shapeOf op) = 0) (himm : bitsOf (shapeOf op) = 0) :
    Calls Tryd.prog 76 #[.int .i64 op, .slice A 0 cp] w (FillPost op ss w) := by
  have hr := shapeOf_range op
  have hlen : ss.length = fillCount op := by
    unfold fillCount
    rw [hreg, hs.1, himm]
    rfl
  have hsz : ∀ k, (ss.getD k ⟨#[]⟩).size ≤ maxLen := fun k => by
    rcases Nat.lt_or_ge k ss.length with hk | hk
    · simpa [List.getD, hk] using hz ss[k] (List.getElem_mem hk)
    · simp only [List.getD, List.getElem?_eq_none hk, Option.getD_none]
      exact Nat.zero_le _
  have x0 : pfx op 0 = ⟨#[114]⟩ := by unfold pfx; rw [if_neg (by omega)]
  have x2 : pfx op 2 = ⟨#[114]⟩ := by unfold pfx; rw [if_neg (by omega)]
  have ea : fa op ss = 0 := by unfold fa; rw [hreg]; rfl
  have da : ka op ss = true := by unfold ka; rw [hreg]; rfl
  have eb : fb op ss = 0 := by unfold fb; rw [hreg]; rfl
  have db : kb op ss = true := by unfold kb; rw [hreg]; rfl
  have ec : fc op ss = 0 := by unfold fc; rw [hreg]; rfl
  have dc : kc op ss = true := by unfold kc; rw [hreg]; rfl
  have en : fn op ss = 0 := by unfold fn; rw [himm]; rfl
  have dn : kn op ss = true := by unfold kn; rw [himm]; rfl
  have hC := fun w => refcheck_any op 0 0 0 0 w
  have hY := fun h2 h3 h4 h5 h6 => fillOk_yes (op := op) (ss := ss) h hlen h2 h3 h4 h5 h6
  have hX := fun h6 => fillOk_check (op := op) (ss := ss) h6
  rw [ea, eb, ec, en] at hY hX
  have YES := Lib.hid hY
  have BAD := Lib.hid hX
  have C := Lib.hid hC
  have Ea := Lib.hid ea
  have Da := Lib.hid da
  have Eb := Lib.hid eb
  have Db := Lib.hid db
  have Ec := Lib.hid ec
  have Dc := Lib.hid dc
  have En := Lib.hid en
  have Dn := Lib.hid dn
  have hh : (decide (1 ≤ shapeOf op) && decide (shapeOf op ≤ 6)) = false ∧ (decide (3 ≤ shapeOf op) && decide (shapeOf op ≤ 5)) = false ∧ (shapeOf op == 5) = false := by
    unfold regsOf at hreg
    unfold bitsOf at himm
    generalize shapeOf op = s at *
    simp
    omega
  have hneg : decide (shapeOf op < 0) = false := by simp; omega
  have hs0 : shapeOf op = 0 := by unfold regsOf at hreg; unfold bitsOf at himm; omega
  obtain ⟨h1, h2, h3⟩ := hh
  have HAS := Lib.hid (fun w => has_any (shapeOf op) w)
  rw [h1, h2, h3] at HAS
  have SH := Lib.hid (fun w => refshape_any op w)
  rw [hs0] at HAS SH hneg
  clear hr hC hY hX hs hz h hreg hlen hsz ea eb ec en da db dc dn himm h1 h2 h3 x0 x2 hs0
  generalize shapeOf op = sh at *
  unfold instrV at C
  go_enter Tryd.func76, Tryd.ntmps76
  go_wp2_with fail
  refine (SH.out _).mono ?_
  rintro e w' ⟨rfl, rfl⟩
  go_wp2_with fail
  refine (HAS.out _).mono ?_
  rintro e w' ⟨rfl, rfl⟩
  have T4 := Lib.hid ((Whole.made w 78 #[.int .i64 0, .int .i64 0, .int .i64 0, .int .i64 0, .int .i64 0] _ rfl).alloc (.cells #[.int .i64 op, .int .i64 0, .int .i64 0, .int .i64 0, .int .i64 0] 78))
  have T6 := Lib.hid (Whole.made (w.alloc (.cells #[.int .i64 0, .int .i64 0, .int .i64 0, .int .i64 0, .int .i64 0] 78)) 78 #[.int .i64 op, .int .i64 0, .int .i64 0, .int .i64 0, .int .i64 0] (w.heap.size + 1) (by simp))
  have B0 := Lib.hid (((Below.refl w.heap.size w).alloc (Nat.le_refl _) (.cells #[.int .i64 0, .int .i64 0, .int .i64 0, .int .i64 0, .int .i64 0] 78)).alloc (by simp) (.cells #[.int .i64 op, .int .i64 0, .int .i64 0, .int .i64 0, .int .i64 0] 78))
  have l4 := T4.out.lt
  have l6 := T6.out.lt
  generalize (w.alloc (.cells #[.int .i64 0, .int .i64 0, .int .i64 0, .int .i64 0, .int .i64 0] 78)).alloc (.cells #[.int .i64 op, .int .i64 0, .int .i64 0, .int .i64 0, .int .i64 0] 78) = V at *
  have n1 : w.heap.size ≤ w.heap.size + 1 := Nat.le_succ _
  have a46 : w.heap.size ≠ w.heap.size + 1 := Nat.ne_of_lt (Nat.lt_succ_self _)
  generalize w.heap.size + 1 = g6 at *
  have O0 := Lib.hid (ownsS_built 9 V [] #[] rfl 0 rfl (by decide) V.heap.size (Nat.le_refl _) _ rfl)
  have C0 := Lib.hid ((Below.refl V.heap.size V).alloc (Nat.le_refl _) (.cells #[] 9))
  go_wp2_with fail
  have T13_0 := Lib.hid (Whole.made (V.alloc (.cells #[] 9)) 149 #[.int .i64 0, .int .i64 0, .int .i64 0, .int .i64 0] _ rfl)
  have T6_0 := Lib.hid ((T6.out.below C0.out l6).alloc (.cells #[.int .i64 0, .int .i64 0, .int .i64 0, .int .i64 0] 149))
  have T4_0 := Lib.hid ((T4.out.below C0.out l4).alloc (.cells #[.int .i64 0, .int .i64 0, .int .i64 0, .int .i64 0] 149))
  have B_0 := Lib.hid ((B0.out.trans (C0.out.mono B0.out.size)).alloc (Nat.le_trans B0.out.size C0.out.size) (.cells #[.int .i64 0, .int .i64 0, .int .i64 0, .int .i64 0] 149))
  have a613 : g6 ≠ (V.alloc (.cells #[] 9)).heap.size := Nat.ne_of_lt (Nat.lt_of_lt_of_le l6 C0.out.size)
  have a413 : w.heap.size ≠ (V.alloc (.cells #[] 9)).heap.size := Nat.ne_of_lt (Nat.lt_of_lt_of_le l4 C0.out.size)
  have b13 : w.heap.size ≤ (V.alloc (.cells #[] 9)).heap.size := Nat.le_trans B0.out.size C0.out.size
  generalize (V.alloc (.cells #[] 9)).alloc (.cells #[.int .i64 0, .int .i64 0, .int .i64 0, .int .i64 0] 149) = W0 at *
  generalize (V.alloc (.cells #[] 9)).heap.size = g13 at *
  refine wp_loop_rounds 1 ?_
  have OKa := Lib.hid Da.out
  have OKb := Lib.hid Db.out
  have OKc := Lib.hid Dc.out
  have OKn := Lib.hid Dn.out
  have ar0 : W0.cell? ⟨g13, 0, none⟩ = some (.int .i64 0) := T13_0.out.cell 0
  have ar1 : W0.cell? ⟨g13, 1, none⟩ = some (.int .i64 0) := T13_0.out.cell 1
  have ar2 : W0.cell? ⟨g13, 2, none⟩ = some (.int .i64 0) := T13_0.out.cell 2
  have ar3 : W0.cell? ⟨g13, 3, none⟩ = some (.int .i64 0) := T13_0.out.cell 3
  have r0 : W0.cell? ⟨g6, 0, none⟩ = some (.int .i64 op) := T6_0.out.cell 0
  have r1 : W0.cell? ⟨g6, 1, none⟩ = some (.int .i64 0) := T6_0.out.cell 1
  have r2 : W0.cell? ⟨g6, 2, none⟩ = some (.int .i64 0) := T6_0.out.cell 2
  have r3 : W0.cell? ⟨g6, 3, none⟩ = some (.int .i64 0) := T6_0.out.cell 3
  have r4 : W0.cell? ⟨g6, 4, none⟩ = some (.int .i64 0) := T6_0.out.cell 4
  have rf : ∀ i, W0.frozen? ⟨g6, i, none⟩ = false := T6_0.out.free
  rw [rounds_succ]
  go_wp2_with fail
  have T6_U := Lib.hid (show Whole W0 g6 78 #[.int .i64 op, .int .i64 0, .int .i64 0, .int .i64 0, .int .i64 0] from T6_0.out)
  have T4_U := Lib.hid T4_0.out
  have B_U := Lib.hid B_0.out
  clear ar0 ar1 ar2 ar3 r0 r1 r2 r3 r4 rf
  by_cases hck : checkOf op 0 0 0 0 = 0
  · have Y := Lib.hid (YES.out OKa.out OKb.out OKc.out OKn.out hck)
    rw [hck] at C
    clear hck
    have LS : W0.cell? ⟨g6, 0, none⟩ = some (.int .i64 op) ∧ W0.cell? ⟨g6, 1, none⟩ = some (.int .i64 0) ∧ W0.cell? ⟨g6, 2, none⟩ = some (.int .i64 0) ∧ W0.cell? ⟨g6, 3, none⟩ = some (.int .i64 0) ∧ W0.cell? ⟨g6, 4, none⟩ = some (.int .i64 0) ∧ W0.cell? ⟨w.heap.size, 0, none⟩ = some (heldAt W0 ⟨w.heap.size, 0, none⟩) ∧ W0.cell? ⟨w.heap.size, 1, none⟩ = some (heldAt W0 ⟨w.heap.size, 1, none⟩) ∧ W0.cell? ⟨w.heap.size, 2, none⟩ = some (heldAt W0 ⟨w.heap.size, 2, none⟩) ∧ W0.cell? ⟨w.heap.size, 3, none⟩ = some (heldAt W0 ⟨w.heap.size, 3, none⟩) ∧ W0.cell? ⟨w.heap.size, 4, none⟩ = some (heldAt W0 ⟨w.heap.size, 4, none⟩) ∧ W0.frozen? ⟨w.heap.size, 0, none⟩ = false ∧ W0.frozen? ⟨w.heap.size, 1, none⟩ = false ∧ W0.frozen? ⟨w.heap.size, 2, none⟩ = false ∧ W0.frozen? ⟨w.heap.size, 3, none⟩ = false ∧ W0.frozen? ⟨w.heap.size, 4, none⟩ = false :=
      ⟨T6_U.out.cell 0, T6_U.out.cell 1, T6_U.out.cell 2, T6_U.out.cell 3, T6_U.out.cell 4, heldAt_of (T4_U.out.cell 0), heldAt_of (T4_U.out.cell 1), heldAt_of (T4_U.out.cell 2), heldAt_of (T4_U.out.cell 3), heldAt_of (T4_U.out.cell 4), T4_U.out.free 0, T4_U.out.free 1, T4_U.out.free 2, T4_U.out.free 3, T4_U.out.free 4⟩
    go_region_held3 (fun y => y.cell? ⟨g6, 0, none⟩ = some (.int .i64 op) ∧ y.cell? ⟨g6, 1, none⟩ = some (.int .i64 0) ∧ y.cell? ⟨g6, 2, none⟩ = some (.int .i64 0) ∧ y.cell? ⟨g6, 3, none⟩ = some (.int .i64 0) ∧ y.cell? ⟨g6, 4, none⟩ = some (.int .i64 0) ∧ y.cell? ⟨w.heap.size, 0, none⟩ = some (heldAt y ⟨w.heap.size, 0, none⟩) ∧ y.cell? ⟨w.heap.size, 1, none⟩ = some (heldAt y ⟨w.heap.size, 1, none⟩) ∧ y.cell? ⟨w.heap.size, 2, none⟩ = some (heldAt y ⟨w.heap.size, 2, none⟩) ∧ y.cell? ⟨w.heap.size, 3, none⟩ = some (heldAt y ⟨w.heap.size, 3, none⟩) ∧ y.cell? ⟨w.heap.size, 4, none⟩ = some (heldAt y ⟨w.heap.size, 4, none⟩) ∧ y.frozen? ⟨w.heap.size, 0, none⟩ = false ∧ y.frozen? ⟨w.heap.size, 1, none⟩ = false ∧ y.frozen? ⟨w.heap.size, 2, none⟩ = false ∧ y.frozen? ⟨w.heap.size, 3, none⟩ = false ∧ y.frozen? ⟨w.heap.size, 4, none⟩ = false)
      (first
        | with_reducible assumption
        | with_reducible exact keepR_drew (by assumption)
        | with_reducible exact keepR_call (by assumption) hbm
        | with_reducible exact keepR_set (by assumption) a46)
      (first | (go_at_call 61; refine (C.out _).mono ?_; rintro e yz ⟨rfl, hbm⟩))
    rename _ ∧ _ => hHl
    clear hHl LS
    have T4_z := Lib.hid (Whole.below (w := W0.drew) T4_U.out hbm T4_U.out.lt)
    have B_z := Lib.hid (B_U.out.drew.trans (hbm.mono B_U.out.size))
    clear hbm
    have q0 : yz.cell? ⟨w.heap.size, 0, none⟩ = some (.int .i64 0) := T4_z.out.cell 0
    have q1 : yz.cell? ⟨w.heap.size, 1, none⟩ = some (.int .i64 0) := T4_z.out.cell 1
    have q2 : yz.cell? ⟨w.heap.size, 2, none⟩ = some (.int .i64 0) := T4_z.out.cell 2
    have q3 : yz.cell? ⟨w.heap.size, 3, none⟩ = some (.int .i64 0) := T4_z.out.cell 3
    have q4 : yz.cell? ⟨w.heap.size, 4, none⟩ = some (.int .i64 0) := T4_z.out.cell 4
    go_wp2_with fail
    refine bodyPost_ret (v := .tuple #[.agg #[.int .i64 op, .int .i64 0, .int .i64 0, .int .i64 0, .int .i64 0], .bool true]) ?_ rfl (fill_yes Y.out Ea.out.symm Eb.out.symm Ec.out.symm En.out.symm ?_)
    · simp [results, Tryd.results76, go_sem, q0, q1, q2, q3, q4]
    · repeat (first | exact B_z.out | refine Below.setCell ?_ (Nat.le_refl w.heap.size) _)
  · have NO := Lib.hid (BAD.out hck)
    have hne : (checkOf op 0 0 0 0 == 0) = false := by simpa using hck
    generalize checkOf op 0 0 0 0 = kk at *
    clear hck
    have LS : W0.cell? ⟨g6, 0, none⟩ = some (.int .i64 op) ∧ W0.cell? ⟨g6, 1, none⟩ = some (.int .i64 0) ∧ W0.cell? ⟨g6, 2, none⟩ = some (.int .i64 0) ∧ W0.cell? ⟨g6, 3, none⟩ = some (.int .i64 0) ∧ W0.cell? ⟨g6, 4, none⟩ = some (.int .i64 0) ∧ W0.cell? ⟨w.heap.size, 0, none⟩ = some (heldAt W0 ⟨w.heap.size, 0, none⟩) ∧ W0.cell? ⟨w.heap.size, 1, none⟩ = some (heldAt W0 ⟨w.heap.size, 1, none⟩) ∧ W0.cell? ⟨w.heap.size, 2, none⟩ = some (heldAt W0 ⟨w.heap.size, 2, none⟩) ∧ W0.cell? ⟨w.heap.size, 3, none⟩ = some (heldAt W0 ⟨w.heap.size, 3, none⟩) ∧ W0.cell? ⟨w.heap.size, 4, none⟩ = some (heldAt W0 ⟨w.heap.size, 4, none⟩) ∧ W0.frozen? ⟨w.heap.size, 0, none⟩ = false ∧ W0.frozen? ⟨w.heap.size, 1, none⟩ = false ∧ W0.frozen? ⟨w.heap.size, 2, none⟩ = false ∧ W0.frozen? ⟨w.heap.size, 3, none⟩ = false ∧ W0.frozen? ⟨w.heap.size, 4, none⟩ = false :=
      ⟨T6_U.out.cell 0, T6_U.out.cell 1, T6_U.out.cell 2, T6_U.out.cell 3, T6_U.out.cell 4, heldAt_of (T4_U.out.cell 0), heldAt_of (T4_U.out.cell 1), heldAt_of (T4_U.out.cell 2), heldAt_of (T4_U.out.cell 3), heldAt_of (T4_U.out.cell 4), T4_U.out.free 0, T4_U.out.free 1, T4_U.out.free 2, T4_U.out.free 3, T4_U.out.free 4⟩
    go_region_held3 (fun y => y.cell? ⟨g6, 0, none⟩ = some (.int .i64 op) ∧ y.cell? ⟨g6, 1, none⟩ = some (.int .i64 0) ∧ y.cell? ⟨g6, 2, none⟩ = some (.int .i64 0) ∧ y.cell? ⟨g6, 3, none⟩ = some (.int .i64 0) ∧ y.cell? ⟨g6, 4, none⟩ = some (.int .i64 0) ∧ y.cell? ⟨w.heap.size, 0, none⟩ = some (heldAt y ⟨w.heap.size, 0, none⟩) ∧ y.cell? ⟨w.heap.size, 1, none⟩ = some (heldAt y ⟨w.heap.size, 1, none⟩) ∧ y.cell? ⟨w.heap.size, 2, none⟩ = some (heldAt y ⟨w.heap.size, 2, none⟩) ∧ y.cell? ⟨w.heap.size, 3, none⟩ = some (heldAt y ⟨w.heap.size, 3, none⟩) ∧ y.cell? ⟨w.heap.size, 4, none⟩ = some (heldAt y ⟨w.heap.size, 4, none⟩) ∧ y.frozen? ⟨w.heap.size, 0, none⟩ = false ∧ y.frozen? ⟨w.heap.size, 1, none⟩ = false ∧ y.frozen? ⟨w.heap.size, 2, none⟩ = false ∧ y.frozen? ⟨w.heap.size, 3, none⟩ = false ∧ y.frozen? ⟨w.heap.size, 4, none⟩ = false)
      (first
        | with_reducible assumption
        | with_reducible exact keepR_drew (by assumption)
        | with_reducible exact keepR_call (by assumption) hbm
        | with_reducible exact keepR_set (by assumption) a46)
      (first | (go_at_call 61; refine (C.out _).mono ?_; rintro e yz ⟨rfl, hbm⟩))
    rename _ ∧ _ => hHl
    clear hHl LS
    have T4_z := Lib.hid (Whole.below (w := W0.drew) T4_U.out hbm T4_U.out.lt)
    have B_z := Lib.hid (B_U.out.drew.trans (hbm.mono B_U.out.size))
    clear hbm
    have q0 : yz.cell? ⟨w.heap.size, 0, none⟩ = some (.int .i64 0) := T4_z.out.cell 0
    have q1 : yz.cell? ⟨w.heap.size, 1, none⟩ = some (.int .i64 0) := T4_z.out.cell 1
    have q2 : yz.cell? ⟨w.heap.size, 2, none⟩ = some (.int .i64 0) := T4_z.out.cell 2
    have q3 : yz.cell? ⟨w.heap.size, 3, none⟩ = some (.int .i64 0) := T4_z.out.cell 3
    have q4 : yz.cell? ⟨w.heap.size, 4, none⟩ = some (.int .i64 0) := T4_z.out.cell 4
    go_wp2_with fail
    refine bodyPost_ret (v := .tuple #[.agg #[.int .i64 op, .int .i64 0, .int .i64 0, .int .i64 0, .int .i64 0], .bool false]) ?_ rfl (fill_no NO.out ?_)
    · simp [results, Tryd.results76, go_sem, q0, q1, q2, q3, q4]
    · repeat (first | exact B_z.out | refine Below.setCell ?_ (Nat.le_refl w.heap.size) _)
end Go.Proofs.YtnmpamfgkidmiaaDoor

/- The answers' Fill of package instr, for 0 registers and 1 numbers. -/
namespace Go.Proofs.YtnmpamfgkidmiaaDoor
open Go.ChangeShapes Go.WideShapes Go.ChangeAt Go.RowKit
set_option linter.unusedVariables false

set_option maxHeartbeats 8000000 in
set_option maxRecDepth 100000 in
theorem reffill_01 (op : Int) (A : Option Addr) (cp : Nat) (ss : List ByteArray) (w : World) (hs : Strs w A 1 ss) (hz : ∀ z ∈ ss, z.size ≤ maxLen) (h : shapeOf op ≠ -1) (hreg : regsOf (shapeOf op) = 0) (himm : 0 < bitsOf (shapeOf op)) :
    Calls Tryd.prog 76 #[.int .i64 op, .slice A 1 cp] w (FillPost op ss w) := by
  have hr := shapeOf_range op
  have hlen : ss.length = fillCount op := by
    unfold fillCount
    rw [hreg, hs.1, if_pos himm]
    rfl
  have hsz : ∀ k, (ss.getD k ⟨#[]⟩).size ≤ maxLen := fun k => by
    rcases Nat.lt_or_ge k ss.length with hk | hk
    · simpa [List.getD, hk] using hz ss[k] (List.getElem_mem hk)
    · simp only [List.getD, List.getElem?_eq_none hk, Option.getD_none]
      exact Nat.zero_le _
  have x0 : pfx op 0 = ⟨#[114]⟩ := by unfold pfx; rw [if_neg (by omega)]
  have x2 : pfx op 2 = ⟨#[114]⟩ := by unfold pfx; rw [if_neg (by omega)]
  have ea : fa op ss = 0 := by unfold fa; rw [hreg]; rfl
  have da : ka op ss = true := by unfold ka; rw [hreg]; rfl
  have eb : fb op ss = 0 := by unfold fb; rw [hreg]; rfl
  have db : kb op ss = true := by unfold kb; rw [hreg]; rfl
  have ec : fc op ss = 0 := by unfold fc; rw [hreg]; rfl
  have dc : kc op ss = true := by unfold kc; rw [hreg]; rfl
  have en : fn op ss = pfN ⟨#[]⟩ (ss.getD 0 ⟨#[]⟩) := by unfold fn; rw [if_pos himm, hreg]; rfl
  have dn : kn op ss = pfB ⟨#[]⟩ (ss.getD 0 ⟨#[]⟩) := by unfold kn; rw [if_pos himm, hreg]; rfl
  have hC := fun w => refcheck_any op 0 0 0 (pfN ⟨#[]⟩ (ss.getD 0 ⟨#[]⟩)) w
  have hY := fun h2 h3 h4 h5 h6 => fillOk_yes (op := op) (ss := ss) h hlen h2 h3 h4 h5 h6
  have hX := fun h6 => fillOk_check (op := op) (ss := ss) h6
  rw [ea, eb, ec, en] at hY hX
  have YES := Lib.hid hY
  have BAD := Lib.hid hX
  have C := Lib.hid hC
  have Ea := Lib.hid ea
  have Da := Lib.hid da
  have Eb := Lib.hid eb
  have Db := Lib.hid db
  have Ec := Lib.hid ec
  have Dc := Lib.hid dc
  have En := Lib.hid en
  have Dn := Lib.hid dn
  have hh : (decide (1 ≤ shapeOf op) && decide (shapeOf op ≤ 6)) = false ∧ (decide (3 ≤ shapeOf op) && decide (shapeOf op ≤ 5)) = false ∧ (shapeOf op == 5) = false := by
    unfold regsOf at hreg
    unfold bitsOf at himm
    generalize shapeOf op = s at *
    simp
    omega
  have hneg : decide (shapeOf op < 0) = false := by simp; omega
  have w0 : (shapeOf op != 0) = true := by unfold bitsOf at himm; simp; omega
  have w5 : (shapeOf op != 5) = true := by unfold bitsOf at himm; simp; omega
  have w6 : (shapeOf op != 6) = true := by unfold bitsOf at himm; simp; omega
  obtain ⟨h1, h2, h3⟩ := hh
  have HAS := Lib.hid (fun w => has_any (shapeOf op) w)
  rw [h1, h2, h3] at HAS
  have SH := Lib.hid (fun w => refshape_any op w)
  obtain ⟨b, off, rfl, hbb, hcell⟩ := hs.2 (by decide)
  have c0 : w.cell? ⟨b, off, none⟩ = some (.string (ss.getD 0 ⟨#[]⟩)) := by have := hcell 0 (by decide); rwa [Nat.add_zero] at this
  have z0 := hsz 0
  clear hcell
  clear hr hC hY hX hs hz h hreg hlen hsz ea eb ec en da db dc dn himm h1 h2 h3 x0 x2
  generalize shapeOf op = sh at *
  generalize ss.getD 0 ⟨#[]⟩ = t0 at *
  unfold instrV at C
  have HC0 := Lib.hid c0
  clear c0
  go_enter Tryd.func76, Tryd.ntmps76
  go_wp2_with fail
  refine (SH.out _).mono ?_
  rintro e w' ⟨rfl, rfl⟩
  go_wp2_with fail
  refine (HAS.out _).mono ?_
  rintro e w' ⟨rfl, rfl⟩
  have T4 := Lib.hid ((Whole.made w 78 #[.int .i64 0, .int .i64 0, .int .i64 0, .int .i64 0, .int .i64 0] _ rfl).alloc (.cells #[.int .i64 op, .int .i64 0, .int .i64 0, .int .i64 0, .int .i64 0] 78))
  have T6 := Lib.hid (Whole.made (w.alloc (.cells #[.int .i64 0, .int .i64 0, .int .i64 0, .int .i64 0, .int .i64 0] 78)) 78 #[.int .i64 op, .int .i64 0, .int .i64 0, .int .i64 0, .int .i64 0] (w.heap.size + 1) (by simp))
  have B0 := Lib.hid (((Below.refl w.heap.size w).alloc (Nat.le_refl _) (.cells #[.int .i64 0, .int .i64 0, .int .i64 0, .int .i64 0, .int .i64 0] 78)).alloc (by simp) (.cells #[.int .i64 op, .int .i64 0, .int .i64 0, .int .i64 0, .int .i64 0] 78))
  have l4 := T4.out.lt
  have l6 := T6.out.lt
  generalize (w.alloc (.cells #[.int .i64 0, .int .i64 0, .int .i64 0, .int .i64 0, .int .i64 0] 78)).alloc (.cells #[.int .i64 op, .int .i64 0, .int .i64 0, .int .i64 0, .int .i64 0] 78) = V at *
  have n1 : w.heap.size ≤ w.heap.size + 1 := Nat.le_succ _
  have a46 : w.heap.size ≠ w.heap.size + 1 := Nat.ne_of_lt (Nat.lt_succ_self _)
  generalize w.heap.size + 1 = g6 at *
  have O0 := Lib.hid (ownsS_built 9 V [] #[] rfl 0 rfl (by decide) V.heap.size (Nat.le_refl _) _ rfl)
  have C0 := Lib.hid ((Below.refl V.heap.size V).alloc (Nat.le_refl _) (.cells #[] 9))
  go_wp2_with (first | (at_builtin; refine wpList_append_strs _ rfl (.tmp 67) (.tmp 68) rfl rowStr V.heap.size (.slice (some ⟨V.heap.size, 0, none⟩) 0 0) (0) _ rfl (O0.out.alloc _) (some ⟨V.heap.size + 1, 0, none⟩) 1 1 [(⟨#[]⟩ : ByteArray)] rfl (strs_built 9 (V.alloc (.cells #[] 9)) [(⟨#[]⟩ : ByteArray)] _ rfl 1 rfl (by decide) _ (by simp)) (by omega) (Nat.le_trans C0.out.size (by simp)) ?_; intro v1 y1 ho1 hg1 _; have hb1 : Below V.heap.size (V.alloc (.cells #[] 9)) y1 := OwnsS.grown_below ((Below.refl _ _).alloc C0.out.size _) (O0.out.alloc _) hg1 (Nat.le_trans C0.out.size (by simp)); have C1 := Lib.hid (C0.out.trans hb1); have O1 := Lib.hid ho1; clear ho1 hg1 hb1; obtain ⟨gh, kh, hv1, hkh, hgl, hgc⟩ := O1.out.big (by omega); subst hv1))
  have T13_0 := Lib.hid (Whole.made y1 149 #[.int .i64 0, .int .i64 0, .int .i64 0, .int .i64 0] _ rfl)
  have T6_0 := Lib.hid ((T6.out.below C1.out l6).alloc (.cells #[.int .i64 0, .int .i64 0, .int .i64 0, .int .i64 0] 149))
  have T4_0 := Lib.hid ((T4.out.below C1.out l4).alloc (.cells #[.int .i64 0, .int .i64 0, .int .i64 0, .int .i64 0] 149))
  have B_0 := Lib.hid ((B0.out.trans (C1.out.mono B0.out.size)).alloc (Nat.le_trans B0.out.size C1.out.size) (.cells #[.int .i64 0, .int .i64 0, .int .i64 0, .int .i64 0] 149))
  have a613 : g6 ≠ y1.heap.size := Nat.ne_of_lt (Nat.lt_of_lt_of_le l6 C1.out.size)
  have a413 : w.heap.size ≠ y1.heap.size := Nat.ne_of_lt (Nat.lt_of_lt_of_le l4 C1.out.size)
  have b13 : w.heap.size ≤ y1.heap.size := Nat.le_trans B0.out.size C1.out.size
  have G0_0 := Lib.hid (show (y1.alloc (.cells #[.int .i64 0, .int .i64 0, .int .i64 0, .int .i64 0] 149)).cell? ⟨gh, 0, none⟩ = some (.string (⟨#[]⟩ : ByteArray)) from ((((Below.refl y1.heap.size y1).alloc (Nat.le_refl _) (.cells #[.int .i64 0, .int .i64 0, .int .i64 0, .int .i64 0] 149)).cell (p := ⟨gh, 0, none⟩) hgl).trans (by have := hgc 0 _ rfl; simpa using this)))
  have agh : gh ≠ y1.heap.size := Nat.ne_of_lt hgl
  clear hgc hgl
  generalize y1.alloc (.cells #[.int .i64 0, .int .i64 0, .int .i64 0, .int .i64 0] 149) = W0 at *
  generalize y1.heap.size = g13 at *
  refine wp_loop_rounds 2 ?_
  rw [rounds_succ]
  go_wp2_with fail
  have LS := And.intro G0_0.out ((B_0.out.cell (p := ⟨b, off, none⟩) hbb).trans HC0.out)
  go_region_held3 (fun y => y.cell? ⟨gh, 0, none⟩ = some (.string (⟨#[]⟩ : ByteArray)) ∧ y.cell? ⟨b, off, none⟩ = some (.string t0))
    (first
      | assumption
      | exact keepG_call (by assumption) (Below.refl _ _).drew
      | exact keepG_call (by assumption) hbm)
    (first
      | (go_at_call 99; refine (number_any' _ _ _ z0 (by first | exact Or.inl rfl | exact Or.inr rfl)).mono ?_; rintro e y0 ⟨rfl, hbm⟩))
  rename _ ∧ _ => hHl
  clear hHl LS
  have B_y := Lib.hid (B_0.out.drew.trans (hbm.mono B_0.out.size))
  have T13_y := Lib.hid (Whole.below (w := W0.drew) T13_0.out hbm T13_0.out.lt)
  have T6_y := Lib.hid (Whole.below (w := W0.drew) T6_0.out hbm T6_0.out.lt)
  have T4_y := Lib.hid (Whole.below (w := W0.drew) T4_0.out hbm T4_0.out.lt)
  clear hbm
  by_cases ok0 : pfB (⟨#[]⟩ : ByteArray) t0 = true
  case neg =>
    rw [Bool.not_eq_true] at ok0
    have NO := Lib.hid (fillOk_n (op := op) (ss := ss) (by rw [Dn.out]; exact ok0))
    rw [ok0]
    have q0 : y0.cell? ⟨w.heap.size, 0, none⟩ = some (.int .i64 0) := T4_y.out.cell 0
    have q1 : y0.cell? ⟨w.heap.size, 1, none⟩ = some (.int .i64 0) := T4_y.out.cell 1
    have q2 : y0.cell? ⟨w.heap.size, 2, none⟩ = some (.int .i64 0) := T4_y.out.cell 2
    have q3 : y0.cell? ⟨w.heap.size, 3, none⟩ = some (.int .i64 0) := T4_y.out.cell 3
    have q4 : y0.cell? ⟨w.heap.size, 4, none⟩ = some (.int .i64 0) := T4_y.out.cell 4
    have f4 : ∀ i, y0.frozen? ⟨w.heap.size, i, none⟩ = false := T4_y.out.free
    have r0 : y0.cell? ⟨g6, 0, none⟩ = some (.int .i64 op) := T6_y.out.cell 0
    have r1 : y0.cell? ⟨g6, 1, none⟩ = some (.int .i64 0) := T6_y.out.cell 1
    have r2 : y0.cell? ⟨g6, 2, none⟩ = some (.int .i64 0) := T6_y.out.cell 2
    have r3 : y0.cell? ⟨g6, 3, none⟩ = some (.int .i64 0) := T6_y.out.cell 3
    have r4 : y0.cell? ⟨g6, 4, none⟩ = some (.int .i64 0) := T6_y.out.cell 4
    go_wp2_with fail
    refine bodyPost_ret (v := .tuple #[.agg #[.int .i64 op, .int .i64 0, .int .i64 0, .int .i64 0, .int .i64 0], .bool false]) ?_ rfl (fill_no NO.out ?_)
    · simp [results, Tryd.results76, go_sem, q0, q1, q2, q3, q4]
    · repeat (first | exact B_y.out | refine Below.setCell ?_ (Nat.le_refl w.heap.size) _)
  have OKn := Lib.hid (show kn op ss = true by rw [Dn.out]; exact ok0)
  rw [ok0]
  clear ok0
  have ar : y0.cell? ⟨g13, 0, none⟩ = some (.int .i64 0) := T13_y.out.cell 0
  have fr : y0.frozen? ⟨g13, 0, none⟩ = false := T13_y.out.free 0
  go_wp2_with fail
  have B_1 := Lib.hid (B_y.out.setCell (p := ⟨g13, 0, none⟩) b13 (.int .i64 (pfN (⟨#[]⟩ : ByteArray) t0)))
  have T13_1 := Lib.hid (show Whole (y0.setCell ⟨g13, 0, none⟩ (.int .i64 (pfN (⟨#[]⟩ : ByteArray) t0))) g13 149 #[.int .i64 (pfN (⟨#[]⟩ : ByteArray) t0), .int .i64 0, .int .i64 0, .int .i64 0] from T13_y.out.store 0 (.int .i64 (pfN (⟨#[]⟩ : ByteArray) t0)))
  have T6_1 := Lib.hid (T6_y.out.far (p := ⟨g13, 0, none⟩) a613 (.int .i64 (pfN (⟨#[]⟩ : ByteArray) t0)))
  have T4_1 := Lib.hid (T4_y.out.far (p := ⟨g13, 0, none⟩) a413 (.int .i64 (pfN (⟨#[]⟩ : ByteArray) t0)))
  clear ar fr
  generalize y0.setCell ⟨g13, 0, none⟩ (.int .i64 (pfN (⟨#[]⟩ : ByteArray) t0)) = W1 at *
  have OKa := Lib.hid Da.out
  have OKb := Lib.hid Db.out
  have OKc := Lib.hid Dc.out
  have ar0 : W1.cell? ⟨g13, 0, none⟩ = some (.int .i64 (pfN (⟨#[]⟩ : ByteArray) t0)) := T13_1.out.cell 0
  have ar1 : W1.cell? ⟨g13, 1, none⟩ = some (.int .i64 0) := T13_1.out.cell 1
  have ar2 : W1.cell? ⟨g13, 2, none⟩ = some (.int .i64 0) := T13_1.out.cell 2
  have ar3 : W1.cell? ⟨g13, 3, none⟩ = some (.int .i64 0) := T13_1.out.cell 3
  have r0 : W1.cell? ⟨g6, 0, none⟩ = some (.int .i64 op) := T6_1.out.cell 0
  have r1 : W1.cell? ⟨g6, 1, none⟩ = some (.int .i64 0) := T6_1.out.cell 1
  have r2 : W1.cell? ⟨g6, 2, none⟩ = some (.int .i64 0) := T6_1.out.cell 2
  have r3 : W1.cell? ⟨g6, 3, none⟩ = some (.int .i64 0) := T6_1.out.cell 3
  have r4 : W1.cell? ⟨g6, 4, none⟩ = some (.int .i64 0) := T6_1.out.cell 4
  have rf : ∀ i, W1.frozen? ⟨g6, i, none⟩ = false := T6_1.out.free
  rw [rounds_succ]
  go_wp2_with fail
  have T6_U := Lib.hid (show Whole (W1.setCell ⟨g6, 4, none⟩ (.int .i64 (pfN (⟨#[]⟩ : ByteArray) t0))) g6 78 #[.int .i64 op, .int .i64 0, .int .i64 0, .int .i64 0, .int .i64 (pfN (⟨#[]⟩ : ByteArray) t0)] from (T6_1.out.store 4 (.int .i64 (pfN (⟨#[]⟩ : ByteArray) t0))))
  have T4_U := Lib.hid (T4_1.out.far (p := ⟨g6, 4, none⟩) a46 (.int .i64 (pfN (⟨#[]⟩ : ByteArray) t0)))
  have B_U := Lib.hid (B_1.out.setCell (p := ⟨g6, 4, none⟩) n1 (.int .i64 (pfN (⟨#[]⟩ : ByteArray) t0)))
  clear ar0 ar1 ar2 ar3 r0 r1 r2 r3 r4 rf
  generalize (W1.setCell ⟨g6, 4, none⟩ (.int .i64 (pfN (⟨#[]⟩ : ByteArray) t0))) = U at *
  by_cases hck : checkOf op 0 0 0 (pfN (⟨#[]⟩ : ByteArray) t0) = 0
  · have Y := Lib.hid (YES.out OKa.out OKb.out OKc.out OKn.out hck)
    rw [hck] at C
    clear hck
    have LS : U.cell? ⟨g6, 0, none⟩ = some (.int .i64 op) ∧ U.cell? ⟨g6, 1, none⟩ = some (.int .i64 0) ∧ U.cell? ⟨g6, 2, none⟩ = some (.int .i64 0) ∧ U.cell? ⟨g6, 3, none⟩ = some (.int .i64 0) ∧ U.cell? ⟨g6, 4, none⟩ = some (.int .i64 (pfN (⟨#[]⟩ : ByteArray) t0)) ∧ U.cell? ⟨w.heap.size, 0, none⟩ = some (heldAt U ⟨w.heap.size, 0, none⟩) ∧ U.cell? ⟨w.heap.size, 1, none⟩ = some (heldAt U ⟨w.heap.size, 1, none⟩) ∧ U.cell? ⟨w.heap.size, 2, none⟩ = some (heldAt U ⟨w.heap.size, 2, none⟩) ∧ U.cell? ⟨w.heap.size, 3, none⟩ = some (heldAt U ⟨w.heap.size, 3, none⟩) ∧ U.cell? ⟨w.heap.size, 4, none⟩ = some (heldAt U ⟨w.heap.size, 4, none⟩) ∧ U.frozen? ⟨w.heap.size, 0, none⟩ = false ∧ U.frozen? ⟨w.heap.size, 1, none⟩ = false ∧ U.frozen? ⟨w.heap.size, 2, none⟩ = false ∧ U.frozen? ⟨w.heap.size, 3, none⟩ = false ∧ U.frozen? ⟨w.heap.size, 4, none⟩ = false :=
      ⟨T6_U.out.cell 0, T6_U.out.cell 1, T6_U.out.cell 2, T6_U.out.cell 3, T6_U.out.cell 4, heldAt_of (T4_U.out.cell 0), heldAt_of (T4_U.out.cell 1), heldAt_of (T4_U.out.cell 2), heldAt_of (T4_U.out.cell 3), heldAt_of (T4_U.out.cell 4), T4_U.out.free 0, T4_U.out.free 1, T4_U.out.free 2, T4_U.out.free 3, T4_U.out.free 4⟩
    go_region_held3 (fun y => y.cell? ⟨g6, 0, none⟩ = some (.int .i64 op) ∧ y.cell? ⟨g6, 1, none⟩ = some (.int .i64 0) ∧ y.cell? ⟨g6, 2, none⟩ = some (.int .i64 0) ∧ y.cell? ⟨g6, 3, none⟩ = some (.int .i64 0) ∧ y.cell? ⟨g6, 4, none⟩ = some (.int .i64 (pfN (⟨#[]⟩ : ByteArray) t0)) ∧ y.cell? ⟨w.heap.size, 0, none⟩ = some (heldAt y ⟨w.heap.size, 0, none⟩) ∧ y.cell? ⟨w.heap.size, 1, none⟩ = some (heldAt y ⟨w.heap.size, 1, none⟩) ∧ y.cell? ⟨w.heap.size, 2, none⟩ = some (heldAt y ⟨w.heap.size, 2, none⟩) ∧ y.cell? ⟨w.heap.size, 3, none⟩ = some (heldAt y ⟨w.heap.size, 3, none⟩) ∧ y.cell? ⟨w.heap.size, 4, none⟩ = some (heldAt y ⟨w.heap.size, 4, none⟩) ∧ y.frozen? ⟨w.heap.size, 0, none⟩ = false ∧ y.frozen? ⟨w.heap.size, 1, none⟩ = false ∧ y.frozen? ⟨w.heap.size, 2, none⟩ = false ∧ y.frozen? ⟨w.heap.size, 3, none⟩ = false ∧ y.frozen? ⟨w.heap.size, 4, none⟩ = false)
      (first
        | with_reducible assumption
        | with_reducible exact keepR_drew (by assumption)
        | with_reducible exact keepR_call (by assumption) hbm
        | with_reducible exact keepR_set (by assumption) a46)
      (first | (go_at_call 61; refine (C.out _).mono ?_; rintro e yz ⟨rfl, hbm⟩))
    rename _ ∧ _ => hHl
    clear hHl LS
    have T4_z := Lib.hid (Whole.below (w := U.drew) T4_U.out hbm T4_U.out.lt)
    have B_z := Lib.hid (B_U.out.drew.trans (hbm.mono B_U.out.size))
    clear hbm
    have q0 : yz.cell? ⟨w.heap.size, 0, none⟩ = some (.int .i64 0) := T4_z.out.cell 0
    have q1 : yz.cell? ⟨w.heap.size, 1, none⟩ = some (.int .i64 0) := T4_z.out.cell 1
    have q2 : yz.cell? ⟨w.heap.size, 2, none⟩ = some (.int .i64 0) := T4_z.out.cell 2
    have q3 : yz.cell? ⟨w.heap.size, 3, none⟩ = some (.int .i64 0) := T4_z.out.cell 3
    have q4 : yz.cell? ⟨w.heap.size, 4, none⟩ = some (.int .i64 0) := T4_z.out.cell 4
    go_wp2_with fail
    refine bodyPost_ret (v := .tuple #[.agg #[.int .i64 op, .int .i64 0, .int .i64 0, .int .i64 0, .int .i64 (pfN (⟨#[]⟩ : ByteArray) t0)], .bool true]) ?_ rfl (fill_yes Y.out Ea.out.symm Eb.out.symm Ec.out.symm En.out.symm ?_)
    · simp [results, Tryd.results76, go_sem, q0, q1, q2, q3, q4]
    · repeat (first | exact B_z.out | refine Below.setCell ?_ (Nat.le_refl w.heap.size) _)
  · have NO := Lib.hid (BAD.out hck)
    have hne : (checkOf op 0 0 0 (pfN (⟨#[]⟩ : ByteArray) t0) == 0) = false := by simpa using hck
    generalize checkOf op 0 0 0 (pfN (⟨#[]⟩ : ByteArray) t0) = kk at *
    clear hck
    have LS : U.cell? ⟨g6, 0, none⟩ = some (.int .i64 op) ∧ U.cell? ⟨g6, 1, none⟩ = some (.int .i64 0) ∧ U.cell? ⟨g6, 2, none⟩ = some (.int .i64 0) ∧ U.cell? ⟨g6, 3, none⟩ = some (.int .i64 0) ∧ U.cell? ⟨g6, 4, none⟩ = some (.int .i64 (pfN (⟨#[]⟩ : ByteArray) t0)) ∧ U.cell? ⟨w.heap.size, 0, none⟩ = some (heldAt U ⟨w.heap.size, 0, none⟩) ∧ U.cell? ⟨w.heap.size, 1, none⟩ = some (heldAt U ⟨w.heap.size, 1, none⟩) ∧ U.cell? ⟨w.heap.size, 2, none⟩ = some (heldAt U ⟨w.heap.size, 2, none⟩) ∧ U.cell? ⟨w.heap.size, 3, none⟩ = some (heldAt U ⟨w.heap.size, 3, none⟩) ∧ U.cell? ⟨w.heap.size, 4, none⟩ = some (heldAt U ⟨w.heap.size, 4, none⟩) ∧ U.frozen? ⟨w.heap.size, 0, none⟩ = false ∧ U.frozen? ⟨w.heap.size, 1, none⟩ = false ∧ U.frozen? ⟨w.heap.size, 2, none⟩ = false ∧ U.frozen? ⟨w.heap.size, 3, none⟩ = false ∧ U.frozen? ⟨w.heap.size, 4, none⟩ = false :=
      ⟨T6_U.out.cell 0, T6_U.out.cell 1, T6_U.out.cell 2, T6_U.out.cell 3, T6_U.out.cell 4, heldAt_of (T4_U.out.cell 0), heldAt_of (T4_U.out.cell 1), heldAt_of (T4_U.out.cell 2), heldAt_of (T4_U.out.cell 3), heldAt_of (T4_U.out.cell 4), T4_U.out.free 0, T4_U.out.free 1, T4_U.out.free 2, T4_U.out.free 3, T4_U.out.free 4⟩
    go_region_held3 (fun y => y.cell? ⟨g6, 0, none⟩ = some (.int .i64 op) ∧ y.cell? ⟨g6, 1, none⟩ = some (.int .i64 0) ∧ y.cell? ⟨g6, 2, none⟩ = some (.int .i64 0) ∧ y.cell? ⟨g6, 3, none⟩ = some (.int .i64 0) ∧ y.cell? ⟨g6, 4, none⟩ = some (.int .i64 (pfN (⟨#[]⟩ : ByteArray) t0)) ∧ y.cell? ⟨w.heap.size, 0, none⟩ = some (heldAt y ⟨w.heap.size, 0, none⟩) ∧ y.cell? ⟨w.heap.size, 1, none⟩ = some (heldAt y ⟨w.heap.size, 1, none⟩) ∧ y.cell? ⟨w.heap.size, 2, none⟩ = some (heldAt y ⟨w.heap.size, 2, none⟩) ∧ y.cell? ⟨w.heap.size, 3, none⟩ = some (heldAt y ⟨w.heap.size, 3, none⟩) ∧ y.cell? ⟨w.heap.size, 4, none⟩ = some (heldAt y ⟨w.heap.size, 4, none⟩) ∧ y.frozen? ⟨w.heap.size, 0, none⟩ = false ∧ y.frozen? ⟨w.heap.size, 1, none⟩ = false ∧ y.frozen? ⟨w.heap.size, 2, none⟩ = false ∧ y.frozen? ⟨w.heap.size, 3, none⟩ = false ∧ y.frozen? ⟨w.heap.size, 4, none⟩ = false)
      (first
        | with_reducible assumption
        | with_reducible exact keepR_drew (by assumption)
        | with_reducible exact keepR_call (by assumption) hbm
        | with_reducible exact keepR_set (by assumption) a46)
      (first | (go_at_call 61; refine (C.out _).mono ?_; rintro e yz ⟨rfl, hbm⟩))
    rename _ ∧ _ => hHl
    clear hHl LS
    have T4_z := Lib.hid (Whole.below (w := U.drew) T4_U.out hbm T4_U.out.lt)
    have B_z := Lib.hid (B_U.out.drew.trans (hbm.mono B_U.out.size))
    clear hbm
    have q0 : yz.cell? ⟨w.heap.size, 0, none⟩ = some (.int .i64 0) := T4_z.out.cell 0
    have q1 : yz.cell? ⟨w.heap.size, 1, none⟩ = some (.int .i64 0) := T4_z.out.cell 1
    have q2 : yz.cell? ⟨w.heap.size, 2, none⟩ = some (.int .i64 0) := T4_z.out.cell 2
    have q3 : yz.cell? ⟨w.heap.size, 3, none⟩ = some (.int .i64 0) := T4_z.out.cell 3
    have q4 : yz.cell? ⟨w.heap.size, 4, none⟩ = some (.int .i64 0) := T4_z.out.cell 4
    go_wp2_with fail
    refine bodyPost_ret (v := .tuple #[.agg #[.int .i64 op, .int .i64 0, .int .i64 0, .int .i64 0, .int .i64 (pfN (⟨#[]⟩ : ByteArray) t0)], .bool false]) ?_ rfl (fill_no NO.out ?_)
    · simp [results, Tryd.results76, go_sem, q0, q1, q2, q3, q4]
    · repeat (first | exact B_z.out | refine Below.setCell ?_ (Nat.le_refl w.heap.size) _)
end Go.Proofs.YtnmpamfgkidmiaaDoor

/- The answers' Fill of package instr, for 1 registers and 0 numbers. -/
namespace Go.Proofs.YtnmpamfgkidmiaaDoor
open Go.ChangeShapes Go.WideShapes Go.ChangeAt Go.RowKit
set_option linter.unusedVariables false

set_option maxHeartbeats 8000000 in
set_option maxRecDepth 100000 in
theorem reffill_10 (op : Int) (A : Option Addr) (cp : Nat) (ss : List ByteArray) (w : World) (hs : Strs w A 1 ss) (hz : ∀ z ∈ ss, z.size ≤ maxLen) (h : shapeOf op ≠ -1) (hreg : regsOf (shapeOf op) = 1) (himm : bitsOf (shapeOf op) = 0) :
    Calls Tryd.prog 76 #[.int .i64 op, .slice A 1 cp] w (FillPost op ss w) := by
  have hr := shapeOf_range op
  have hlen : ss.length = fillCount op := by
    unfold fillCount
    rw [hreg, hs.1, himm]
    rfl
  have hsz : ∀ k, (ss.getD k ⟨#[]⟩).size ≤ maxLen := fun k => by
    rcases Nat.lt_or_ge k ss.length with hk | hk
    · simpa [List.getD, hk] using hz ss[k] (List.getElem_mem hk)
    · simp only [List.getD, List.getElem?_eq_none hk, Option.getD_none]
      exact Nat.zero_le _
  have x0 : pfx op 0 = ⟨#[114]⟩ := by unfold pfx; rw [if_neg (by omega)]
  have x2 : pfx op 2 = ⟨#[114]⟩ := by unfold pfx; rw [if_neg (by omega)]
  have ea : fa op ss = pfN (⟨#[114]⟩ : ByteArray) (ss.getD 0 ⟨#[]⟩) := by unfold fa; rw [hreg, x0]; rfl
  have da : ka op ss = pfB (⟨#[114]⟩ : ByteArray) (ss.getD 0 ⟨#[]⟩) := by unfold ka; rw [hreg, x0]; rfl
  have eb : fb op ss = 0 := by unfold fb; rw [hreg]; rfl
  have db : kb op ss = true := by unfold kb; rw [hreg]; rfl
  have ec : fc op ss = 0 := by unfold fc; rw [hreg]; rfl
  have dc : kc op ss = true := by unfold kc; rw [hreg]; rfl
  have en : fn op ss = 0 := by unfold fn; rw [himm]; rfl
  have dn : kn op ss = true := by unfold kn; rw [himm]; rfl
  have hC := fun w => refcheck_any op (pfN (⟨#[114]⟩ : ByteArray) (ss.getD 0 ⟨#[]⟩)) 0 0 0 w
  have hY := fun h2 h3 h4 h5 h6 => fillOk_yes (op := op) (ss := ss) h hlen h2 h3 h4 h5 h6
  have hX := fun h6 => fillOk_check (op := op) (ss := ss) h6
  rw [ea, eb, ec, en] at hY hX
  have YES := Lib.hid hY
  have BAD := Lib.hid hX
  have C := Lib.hid hC
  have Ea := Lib.hid ea
  have Da := Lib.hid da
  have Eb := Lib.hid eb
  have Db := Lib.hid db
  have Ec := Lib.hid ec
  have Dc := Lib.hid dc
  have En := Lib.hid en
  have Dn := Lib.hid dn
  have hh : (decide (1 ≤ shapeOf op) && decide (shapeOf op ≤ 6)) = true ∧ (decide (3 ≤ shapeOf op) && decide (shapeOf op ≤ 5)) = false ∧ (shapeOf op == 5) = false := by
    unfold regsOf at hreg
    unfold bitsOf at himm
    generalize shapeOf op = s at *
    simp
    omega
  have hneg : decide (shapeOf op < 0) = false := by simp; omega
  have hs0 : shapeOf op = 6 := by unfold regsOf at hreg; unfold bitsOf at himm; omega
  obtain ⟨h1, h2, h3⟩ := hh
  have HAS := Lib.hid (fun w => has_any (shapeOf op) w)
  rw [h1, h2, h3] at HAS
  have SH := Lib.hid (fun w => refshape_any op w)
  rw [hs0] at HAS SH hneg
  obtain ⟨b, off, rfl, hbb, hcell⟩ := hs.2 (by decide)
  have c0 : w.cell? ⟨b, off, none⟩ = some (.string (ss.getD 0 ⟨#[]⟩)) := by have := hcell 0 (by decide); rwa [Nat.add_zero] at this
  have z0 := hsz 0
  clear hcell
  clear hr hC hY hX hs hz h hreg hlen hsz ea eb ec en da db dc dn himm h1 h2 h3 x0 x2 hs0
  generalize shapeOf op = sh at *
  generalize ss.getD 0 ⟨#[]⟩ = t0 at *
  unfold instrV at C
  have HC0 := Lib.hid c0
  clear c0
  go_enter Tryd.func76, Tryd.ntmps76
  go_wp2_with fail
  refine (SH.out _).mono ?_
  rintro e w' ⟨rfl, rfl⟩
  go_wp2_with fail
  refine (HAS.out _).mono ?_
  rintro e w' ⟨rfl, rfl⟩
  have T4 := Lib.hid ((Whole.made w 78 #[.int .i64 0, .int .i64 0, .int .i64 0, .int .i64 0, .int .i64 0] _ rfl).alloc (.cells #[.int .i64 op, .int .i64 0, .int .i64 0, .int .i64 0, .int .i64 0] 78))
  have T6 := Lib.hid (Whole.made (w.alloc (.cells #[.int .i64 0, .int .i64 0, .int .i64 0, .int .i64 0, .int .i64 0] 78)) 78 #[.int .i64 op, .int .i64 0, .int .i64 0, .int .i64 0, .int .i64 0] (w.heap.size + 1) (by simp))
  have B0 := Lib.hid (((Below.refl w.heap.size w).alloc (Nat.le_refl _) (.cells #[.int .i64 0, .int .i64 0, .int .i64 0, .int .i64 0, .int .i64 0] 78)).alloc (by simp) (.cells #[.int .i64 op, .int .i64 0, .int .i64 0, .int .i64 0, .int .i64 0] 78))
  have l4 := T4.out.lt
  have l6 := T6.out.lt
  generalize (w.alloc (.cells #[.int .i64 0, .int .i64 0, .int .i64 0, .int .i64 0, .int .i64 0] 78)).alloc (.cells #[.int .i64 op, .int .i64 0, .int .i64 0, .int .i64 0, .int .i64 0] 78) = V at *
  have n1 : w.heap.size ≤ w.heap.size + 1 := Nat.le_succ _
  have a46 : w.heap.size ≠ w.heap.size + 1 := Nat.ne_of_lt (Nat.lt_succ_self _)
  generalize w.heap.size + 1 = g6 at *
  have O0 := Lib.hid (ownsS_built 9 V [] #[] rfl 0 rfl (by decide) V.heap.size (Nat.le_refl _) _ rfl)
  have C0 := Lib.hid ((Below.refl V.heap.size V).alloc (Nat.le_refl _) (.cells #[] 9))
  go_wp2_with (first | (at_builtin; refine wpList_append_strs _ rfl (.tmp 33) (.tmp 34) rfl rowStr V.heap.size (.slice (some ⟨V.heap.size, 0, none⟩) 0 0) (0) _ rfl (O0.out.alloc _) (some ⟨V.heap.size + 1, 0, none⟩) 1 1 [(⟨#[114]⟩ : ByteArray)] rfl (strs_built 9 (V.alloc (.cells #[] 9)) [(⟨#[114]⟩ : ByteArray)] _ rfl 1 rfl (by decide) _ (by simp)) (by omega) (Nat.le_trans C0.out.size (by simp)) ?_; intro v1 y1 ho1 hg1 _; have hb1 : Below V.heap.size (V.alloc (.cells #[] 9)) y1 := OwnsS.grown_below ((Below.refl _ _).alloc C0.out.size _) (O0.out.alloc _) hg1 (Nat.le_trans C0.out.size (by simp)); have C1 := Lib.hid (C0.out.trans hb1); have O1 := Lib.hid ho1; clear ho1 hg1 hb1; obtain ⟨gh, kh, hv1, hkh, hgl, hgc⟩ := O1.out.big (by omega); subst hv1))
  have T13_0 := Lib.hid (Whole.made y1 149 #[.int .i64 0, .int .i64 0, .int .i64 0, .int .i64 0] _ rfl)
  have T6_0 := Lib.hid ((T6.out.below C1.out l6).alloc (.cells #[.int .i64 0, .int .i64 0, .int .i64 0, .int .i64 0] 149))
  have T4_0 := Lib.hid ((T4.out.below C1.out l4).alloc (.cells #[.int .i64 0, .int .i64 0, .int .i64 0, .int .i64 0] 149))
  have B_0 := Lib.hid ((B0.out.trans (C1.out.mono B0.out.size)).alloc (Nat.le_trans B0.out.size C1.out.size) (.cells #[.int .i64 0, .int .i64 0, .int .i64 0, .int .i64 0] 149))
  have a613 : g6 ≠ y1.heap.size := Nat.ne_of_lt (Nat.lt_of_lt_of_le l6 C1.out.size)
  have a413 : w.heap.size ≠ y1.heap.size := Nat.ne_of_lt (Nat.lt_of_lt_of_le l4 C1.out.size)
  have b13 : w.heap.size ≤ y1.heap.size := Nat.le_trans B0.out.size C1.out.size
  have G0_0 := Lib.hid (show (y1.alloc (.cells #[.int .i64 0, .int .i64 0, .int .i64 0, .int .i64 0] 149)).cell? ⟨gh, 0, none⟩ = some (.string (⟨#[114]⟩ : ByteArray)) from ((((Below.refl y1.heap.size y1).alloc (Nat.le_refl _) (.cells #[.int .i64 0, .int .i64 0, .int .i64 0, .int .i64 0] 149)).cell (p := ⟨gh, 0, none⟩) hgl).trans (by have := hgc 0 _ rfl; simpa using this)))
  have agh : gh ≠ y1.heap.size := Nat.ne_of_lt hgl
  clear hgc hgl
  generalize y1.alloc (.cells #[.int .i64 0, .int .i64 0, .int .i64 0, .int .i64 0] 149) = W0 at *
  generalize y1.heap.size = g13 at *
  refine wp_loop_rounds 2 ?_
  rw [rounds_succ]
  go_wp2_with fail
  have LS := And.intro G0_0.out ((B_0.out.cell (p := ⟨b, off, none⟩) hbb).trans HC0.out)
  go_region_held3 (fun y => y.cell? ⟨gh, 0, none⟩ = some (.string (⟨#[114]⟩ : ByteArray)) ∧ y.cell? ⟨b, off, none⟩ = some (.string t0))
    (first
      | assumption
      | exact keepG_call (by assumption) (Below.refl _ _).drew
      | exact keepG_call (by assumption) hbm)
    (first
      | (go_at_call 99; refine (number_any' _ _ _ z0 (by first | exact Or.inl rfl | exact Or.inr rfl)).mono ?_; rintro e y0 ⟨rfl, hbm⟩))
  rename _ ∧ _ => hHl
  clear hHl LS
  have B_y := Lib.hid (B_0.out.drew.trans (hbm.mono B_0.out.size))
  have T13_y := Lib.hid (Whole.below (w := W0.drew) T13_0.out hbm T13_0.out.lt)
  have T6_y := Lib.hid (Whole.below (w := W0.drew) T6_0.out hbm T6_0.out.lt)
  have T4_y := Lib.hid (Whole.below (w := W0.drew) T4_0.out hbm T4_0.out.lt)
  clear hbm
  by_cases ok0 : pfB (⟨#[114]⟩ : ByteArray) t0 = true
  case neg =>
    rw [Bool.not_eq_true] at ok0
    have NO := Lib.hid (fillOk_a (op := op) (ss := ss) (by rw [Da.out]; exact ok0))
    rw [ok0]
    have q0 : y0.cell? ⟨w.heap.size, 0, none⟩ = some (.int .i64 0) := T4_y.out.cell 0
    have q1 : y0.cell? ⟨w.heap.size, 1, none⟩ = some (.int .i64 0) := T4_y.out.cell 1
    have q2 : y0.cell? ⟨w.heap.size, 2, none⟩ = some (.int .i64 0) := T4_y.out.cell 2
    have q3 : y0.cell? ⟨w.heap.size, 3, none⟩ = some (.int .i64 0) := T4_y.out.cell 3
    have q4 : y0.cell? ⟨w.heap.size, 4, none⟩ = some (.int .i64 0) := T4_y.out.cell 4
    have f4 : ∀ i, y0.frozen? ⟨w.heap.size, i, none⟩ = false := T4_y.out.free
    have r0 : y0.cell? ⟨g6, 0, none⟩ = some (.int .i64 op) := T6_y.out.cell 0
    have r1 : y0.cell? ⟨g6, 1, none⟩ = some (.int .i64 0) := T6_y.out.cell 1
    have r2 : y0.cell? ⟨g6, 2, none⟩ = some (.int .i64 0) := T6_y.out.cell 2
    have r3 : y0.cell? ⟨g6, 3, none⟩ = some (.int .i64 0) := T6_y.out.cell 3
    have r4 : y0.cell? ⟨g6, 4, none⟩ = some (.int .i64 0) := T6_y.out.cell 4
    go_wp2_with fail
    refine bodyPost_ret (v := .tuple #[.agg #[.int .i64 op, .int .i64 0, .int .i64 0, .int .i64 0, .int .i64 0], .bool false]) ?_ rfl (fill_no NO.out ?_)
    · simp [results, Tryd.results76, go_sem, q0, q1, q2, q3, q4]
    · repeat (first | exact B_y.out | refine Below.setCell ?_ (Nat.le_refl w.heap.size) _)
  have OKa := Lib.hid (show ka op ss = true by rw [Da.out]; exact ok0)
  rw [ok0]
  clear ok0
  have ar : y0.cell? ⟨g13, 0, none⟩ = some (.int .i64 0) := T13_y.out.cell 0
  have fr : y0.frozen? ⟨g13, 0, none⟩ = false := T13_y.out.free 0
  go_wp2_with fail
  have B_1 := Lib.hid (B_y.out.setCell (p := ⟨g13, 0, none⟩) b13 (.int .i64 (pfN (⟨#[114]⟩ : ByteArray) t0)))
  have T13_1 := Lib.hid (show Whole (y0.setCell ⟨g13, 0, none⟩ (.int .i64 (pfN (⟨#[114]⟩ : ByteArray) t0))) g13 149 #[.int .i64 (pfN (⟨#[114]⟩ : ByteArray) t0), .int .i64 0, .int .i64 0, .int .i64 0] from T13_y.out.store 0 (.int .i64 (pfN (⟨#[114]⟩ : ByteArray) t0)))
  have T6_1 := Lib.hid (T6_y.out.far (p := ⟨g13, 0, none⟩) a613 (.int .i64 (pfN (⟨#[114]⟩ : ByteArray) t0)))
  have T4_1 := Lib.hid (T4_y.out.far (p := ⟨g13, 0, none⟩) a413 (.int .i64 (pfN (⟨#[114]⟩ : ByteArray) t0)))
  clear ar fr
  generalize y0.setCell ⟨g13, 0, none⟩ (.int .i64 (pfN (⟨#[114]⟩ : ByteArray) t0)) = W1 at *
  have OKb := Lib.hid Db.out
  have OKc := Lib.hid Dc.out
  have OKn := Lib.hid Dn.out
  have ar0 : W1.cell? ⟨g13, 0, none⟩ = some (.int .i64 (pfN (⟨#[114]⟩ : ByteArray) t0)) := T13_1.out.cell 0
  have ar1 : W1.cell? ⟨g13, 1, none⟩ = some (.int .i64 0) := T13_1.out.cell 1
  have ar2 : W1.cell? ⟨g13, 2, none⟩ = some (.int .i64 0) := T13_1.out.cell 2
  have ar3 : W1.cell? ⟨g13, 3, none⟩ = some (.int .i64 0) := T13_1.out.cell 3
  have r0 : W1.cell? ⟨g6, 0, none⟩ = some (.int .i64 op) := T6_1.out.cell 0
  have r1 : W1.cell? ⟨g6, 1, none⟩ = some (.int .i64 0) := T6_1.out.cell 1
  have r2 : W1.cell? ⟨g6, 2, none⟩ = some (.int .i64 0) := T6_1.out.cell 2
  have r3 : W1.cell? ⟨g6, 3, none⟩ = some (.int .i64 0) := T6_1.out.cell 3
  have r4 : W1.cell? ⟨g6, 4, none⟩ = some (.int .i64 0) := T6_1.out.cell 4
  have rf : ∀ i, W1.frozen? ⟨g6, i, none⟩ = false := T6_1.out.free
  rw [rounds_succ]
  go_wp2_with fail
  have T6_U := Lib.hid (show Whole (W1.setCell ⟨g6, 1, none⟩ (.int .i64 (pfN (⟨#[114]⟩ : ByteArray) t0))) g6 78 #[.int .i64 op, .int .i64 (pfN (⟨#[114]⟩ : ByteArray) t0), .int .i64 0, .int .i64 0, .int .i64 0] from (T6_1.out.store 1 (.int .i64 (pfN (⟨#[114]⟩ : ByteArray) t0))))
  have T4_U := Lib.hid (T4_1.out.far (p := ⟨g6, 1, none⟩) a46 (.int .i64 (pfN (⟨#[114]⟩ : ByteArray) t0)))
  have B_U := Lib.hid (B_1.out.setCell (p := ⟨g6, 1, none⟩) n1 (.int .i64 (pfN (⟨#[114]⟩ : ByteArray) t0)))
  clear ar0 ar1 ar2 ar3 r0 r1 r2 r3 r4 rf
  generalize (W1.setCell ⟨g6, 1, none⟩ (.int .i64 (pfN (⟨#[114]⟩ : ByteArray) t0))) = U at *
  by_cases hck : checkOf op (pfN (⟨#[114]⟩ : ByteArray) t0) 0 0 0 = 0
  · have Y := Lib.hid (YES.out OKa.out OKb.out OKc.out OKn.out hck)
    rw [hck] at C
    clear hck
    have LS : U.cell? ⟨g6, 0, none⟩ = some (.int .i64 op) ∧ U.cell? ⟨g6, 1, none⟩ = some (.int .i64 (pfN (⟨#[114]⟩ : ByteArray) t0)) ∧ U.cell? ⟨g6, 2, none⟩ = some (.int .i64 0) ∧ U.cell? ⟨g6, 3, none⟩ = some (.int .i64 0) ∧ U.cell? ⟨g6, 4, none⟩ = some (.int .i64 0) ∧ U.cell? ⟨w.heap.size, 0, none⟩ = some (heldAt U ⟨w.heap.size, 0, none⟩) ∧ U.cell? ⟨w.heap.size, 1, none⟩ = some (heldAt U ⟨w.heap.size, 1, none⟩) ∧ U.cell? ⟨w.heap.size, 2, none⟩ = some (heldAt U ⟨w.heap.size, 2, none⟩) ∧ U.cell? ⟨w.heap.size, 3, none⟩ = some (heldAt U ⟨w.heap.size, 3, none⟩) ∧ U.cell? ⟨w.heap.size, 4, none⟩ = some (heldAt U ⟨w.heap.size, 4, none⟩) ∧ U.frozen? ⟨w.heap.size, 0, none⟩ = false ∧ U.frozen? ⟨w.heap.size, 1, none⟩ = false ∧ U.frozen? ⟨w.heap.size, 2, none⟩ = false ∧ U.frozen? ⟨w.heap.size, 3, none⟩ = false ∧ U.frozen? ⟨w.heap.size, 4, none⟩ = false :=
      ⟨T6_U.out.cell 0, T6_U.out.cell 1, T6_U.out.cell 2, T6_U.out.cell 3, T6_U.out.cell 4, heldAt_of (T4_U.out.cell 0), heldAt_of (T4_U.out.cell 1), heldAt_of (T4_U.out.cell 2), heldAt_of (T4_U.out.cell 3), heldAt_of (T4_U.out.cell 4), T4_U.out.free 0, T4_U.out.free 1, T4_U.out.free 2, T4_U.out.free 3, T4_U.out.free 4⟩
    go_region_held3 (fun y => y.cell? ⟨g6, 0, none⟩ = some (.int .i64 op) ∧ y.cell? ⟨g6, 1, none⟩ = some (.int .i64 (pfN (⟨#[114]⟩ : ByteArray) t0)) ∧ y.cell? ⟨g6, 2, none⟩ = some (.int .i64 0) ∧ y.cell? ⟨g6, 3, none⟩ = some (.int .i64 0) ∧ y.cell? ⟨g6, 4, none⟩ = some (.int .i64 0) ∧ y.cell? ⟨w.heap.size, 0, none⟩ = some (heldAt y ⟨w.heap.size, 0, none⟩) ∧ y.cell? ⟨w.heap.size, 1, none⟩ = some (heldAt y ⟨w.heap.size, 1, none⟩) ∧ y.cell? ⟨w.heap.size, 2, none⟩ = some (heldAt y ⟨w.heap.size, 2, none⟩) ∧ y.cell? ⟨w.heap.size, 3, none⟩ = some (heldAt y ⟨w.heap.size, 3, none⟩) ∧ y.cell? ⟨w.heap.size, 4, none⟩ = some (heldAt y ⟨w.heap.size, 4, none⟩) ∧ y.frozen? ⟨w.heap.size, 0, none⟩ = false ∧ y.frozen? ⟨w.heap.size, 1, none⟩ = false ∧ y.frozen? ⟨w.heap.size, 2, none⟩ = false ∧ y.frozen? ⟨w.heap.size, 3, none⟩ = false ∧ y.frozen? ⟨w.heap.size, 4, none⟩ = false)
      (first
        | with_reducible assumption
        | with_reducible exact keepR_drew (by assumption)
        | with_reducible exact keepR_call (by assumption) hbm
        | with_reducible exact keepR_set (by assumption) a46)
      (first | (go_at_call 61; refine (C.out _).mono ?_; rintro e yz ⟨rfl, hbm⟩))
    rename _ ∧ _ => hHl
    clear hHl LS
    have T4_z := Lib.hid (Whole.below (w := U.drew) T4_U.out hbm T4_U.out.lt)
    have B_z := Lib.hid (B_U.out.drew.trans (hbm.mono B_U.out.size))
    clear hbm
    have q0 : yz.cell? ⟨w.heap.size, 0, none⟩ = some (.int .i64 0) := T4_z.out.cell 0
    have q1 : yz.cell? ⟨w.heap.size, 1, none⟩ = some (.int .i64 0) := T4_z.out.cell 1
    have q2 : yz.cell? ⟨w.heap.size, 2, none⟩ = some (.int .i64 0) := T4_z.out.cell 2
    have q3 : yz.cell? ⟨w.heap.size, 3, none⟩ = some (.int .i64 0) := T4_z.out.cell 3
    have q4 : yz.cell? ⟨w.heap.size, 4, none⟩ = some (.int .i64 0) := T4_z.out.cell 4
    go_wp2_with fail
    refine bodyPost_ret (v := .tuple #[.agg #[.int .i64 op, .int .i64 (pfN (⟨#[114]⟩ : ByteArray) t0), .int .i64 0, .int .i64 0, .int .i64 0], .bool true]) ?_ rfl (fill_yes Y.out Ea.out.symm Eb.out.symm Ec.out.symm En.out.symm ?_)
    · simp [results, Tryd.results76, go_sem, q0, q1, q2, q3, q4]
    · repeat (first | exact B_z.out | refine Below.setCell ?_ (Nat.le_refl w.heap.size) _)
  · have NO := Lib.hid (BAD.out hck)
    have hne : (checkOf op (pfN (⟨#[114]⟩ : ByteArray) t0) 0 0 0 == 0) = false := by simpa using hck
    generalize checkOf op (pfN (⟨#[114]⟩ : ByteArray) t0) 0 0 0 = kk at *
    clear hck
    have LS : U.cell? ⟨g6, 0, none⟩ = some (.int .i64 op) ∧ U.cell? ⟨g6, 1, none⟩ = some (.int .i64 (pfN (⟨#[114]⟩ : ByteArray) t0)) ∧ U.cell? ⟨g6, 2, none⟩ = some (.int .i64 0) ∧ U.cell? ⟨g6, 3, none⟩ = some (.int .i64 0) ∧ U.cell? ⟨g6, 4, none⟩ = some (.int .i64 0) ∧ U.cell? ⟨w.heap.size, 0, none⟩ = some (heldAt U ⟨w.heap.size, 0, none⟩) ∧ U.cell? ⟨w.heap.size, 1, none⟩ = some (heldAt U ⟨w.heap.size, 1, none⟩) ∧ U.cell? ⟨w.heap.size, 2, none⟩ = some (heldAt U ⟨w.heap.size, 2, none⟩) ∧ U.cell? ⟨w.heap.size, 3, none⟩ = some (heldAt U ⟨w.heap.size, 3, none⟩) ∧ U.cell? ⟨w.heap.size, 4, none⟩ = some (heldAt U ⟨w.heap.size, 4, none⟩) ∧ U.frozen? ⟨w.heap.size, 0, none⟩ = false ∧ U.frozen? ⟨w.heap.size, 1, none⟩ = false ∧ U.frozen? ⟨w.heap.size, 2, none⟩ = false ∧ U.frozen? ⟨w.heap.size, 3, none⟩ = false ∧ U.frozen? ⟨w.heap.size, 4, none⟩ = false :=
      ⟨T6_U.out.cell 0, T6_U.out.cell 1, T6_U.out.cell 2, T6_U.out.cell 3, T6_U.out.cell 4, heldAt_of (T4_U.out.cell 0), heldAt_of (T4_U.out.cell 1), heldAt_of (T4_U.out.cell 2), heldAt_of (T4_U.out.cell 3), heldAt_of (T4_U.out.cell 4), T4_U.out.free 0, T4_U.out.free 1, T4_U.out.free 2, T4_U.out.free 3, T4_U.out.free 4⟩
    go_region_held3 (fun y => y.cell? ⟨g6, 0, none⟩ = some (.int .i64 op) ∧ y.cell? ⟨g6, 1, none⟩ = some (.int .i64 (pfN (⟨#[114]⟩ : ByteArray) t0)) ∧ y.cell? ⟨g6, 2, none⟩ = some (.int .i64 0) ∧ y.cell? ⟨g6, 3, none⟩ = some (.int .i64 0) ∧ y.cell? ⟨g6, 4, none⟩ = some (.int .i64 0) ∧ y.cell? ⟨w.heap.size, 0, none⟩ = some (heldAt y ⟨w.heap.size, 0, none⟩) ∧ y.cell? ⟨w.heap.size, 1, none⟩ = some (heldAt y ⟨w.heap.size, 1, none⟩) ∧ y.cell? ⟨w.heap.size, 2, none⟩ = some (heldAt y ⟨w.heap.size, 2, none⟩) ∧ y.cell? ⟨w.heap.size, 3, none⟩ = some (heldAt y ⟨w.heap.size, 3, none⟩) ∧ y.cell? ⟨w.heap.size, 4, none⟩ = some (heldAt y ⟨w.heap.size, 4, none⟩) ∧ y.frozen? ⟨w.heap.size, 0, none⟩ = false ∧ y.frozen? ⟨w.heap.size, 1, none⟩ = false ∧ y.frozen? ⟨w.heap.size, 2, none⟩ = false ∧ y.frozen? ⟨w.heap.size, 3, none⟩ = false ∧ y.frozen? ⟨w.heap.size, 4, none⟩ = false)
      (first
        | with_reducible assumption
        | with_reducible exact keepR_drew (by assumption)
        | with_reducible exact keepR_call (by assumption) hbm
        | with_reducible exact keepR_set (by assumption) a46)
      (first | (go_at_call 61; refine (C.out _).mono ?_; rintro e yz ⟨rfl, hbm⟩))
    rename _ ∧ _ => hHl
    clear hHl LS
    have T4_z := Lib.hid (Whole.below (w := U.drew) T4_U.out hbm T4_U.out.lt)
    have B_z := Lib.hid (B_U.out.drew.trans (hbm.mono B_U.out.size))
    clear hbm
    have q0 : yz.cell? ⟨w.heap.size, 0, none⟩ = some (.int .i64 0) := T4_z.out.cell 0
    have q1 : yz.cell? ⟨w.heap.size, 1, none⟩ = some (.int .i64 0) := T4_z.out.cell 1
    have q2 : yz.cell? ⟨w.heap.size, 2, none⟩ = some (.int .i64 0) := T4_z.out.cell 2
    have q3 : yz.cell? ⟨w.heap.size, 3, none⟩ = some (.int .i64 0) := T4_z.out.cell 3
    have q4 : yz.cell? ⟨w.heap.size, 4, none⟩ = some (.int .i64 0) := T4_z.out.cell 4
    go_wp2_with fail
    refine bodyPost_ret (v := .tuple #[.agg #[.int .i64 op, .int .i64 (pfN (⟨#[114]⟩ : ByteArray) t0), .int .i64 0, .int .i64 0, .int .i64 0], .bool false]) ?_ rfl (fill_no NO.out ?_)
    · simp [results, Tryd.results76, go_sem, q0, q1, q2, q3, q4]
    · repeat (first | exact B_z.out | refine Below.setCell ?_ (Nat.le_refl w.heap.size) _)
end Go.Proofs.YtnmpamfgkidmiaaDoor

/- The answers' Fill of package instr, for 1 registers and 1 numbers. -/
namespace Go.Proofs.YtnmpamfgkidmiaaDoor
open Go.ChangeShapes Go.WideShapes Go.ChangeAt Go.RowKit
set_option linter.unusedVariables false

set_option maxHeartbeats 8000000 in
set_option maxRecDepth 100000 in
theorem reffill_11 (op : Int) (A : Option Addr) (cp : Nat) (ss : List ByteArray) (w : World) (hs : Strs w A 2 ss) (hz : ∀ z ∈ ss, z.size ≤ maxLen) (h : shapeOf op ≠ -1) (hreg : regsOf (shapeOf op) = 1) (himm : 0 < bitsOf (shapeOf op)) :
    Calls Tryd.prog 76 #[.int .i64 op, .slice A 2 cp] w (FillPost op ss w) := by
  have hr := shapeOf_range op
  have hlen : ss.length = fillCount op := by
    unfold fillCount
    rw [hreg, hs.1, if_pos himm]
    rfl
  have hsz : ∀ k, (ss.getD k ⟨#[]⟩).size ≤ maxLen := fun k => by
    rcases Nat.lt_or_ge k ss.length with hk | hk
    · simpa [List.getD, hk] using hz ss[k] (List.getElem_mem hk)
    · simp only [List.getD, List.getElem?_eq_none hk, Option.getD_none]
      exact Nat.zero_le _
  have x0 : pfx op 0 = ⟨#[114]⟩ := by unfold pfx; rw [if_neg (by omega)]
  have x2 : pfx op 2 = ⟨#[114]⟩ := by unfold pfx; rw [if_neg (by omega)]
  have ea : fa op ss = pfN (⟨#[114]⟩ : ByteArray) (ss.getD 0 ⟨#[]⟩) := by unfold fa; rw [hreg, x0]; rfl
  have da : ka op ss = pfB (⟨#[114]⟩ : ByteArray) (ss.getD 0 ⟨#[]⟩) := by unfold ka; rw [hreg, x0]; rfl
  have eb : fb op ss = 0 := by unfold fb; rw [hreg]; rfl
  have db : kb op ss = true := by unfold kb; rw [hreg]; rfl
  have ec : fc op ss = 0 := by unfold fc; rw [hreg]; rfl
  have dc : kc op ss = true := by unfold kc; rw [hreg]; rfl
  have en : fn op ss = pfN ⟨#[]⟩ (ss.getD 1 ⟨#[]⟩) := by unfold fn; rw [if_pos himm, hreg]; rfl
  have dn : kn op ss = pfB ⟨#[]⟩ (ss.getD 1 ⟨#[]⟩) := by unfold kn; rw [if_pos himm, hreg]; rfl
  have hC := fun w => refcheck_any op (pfN (⟨#[114]⟩ : ByteArray) (ss.getD 0 ⟨#[]⟩)) 0 0 (pfN ⟨#[]⟩ (ss.getD 1 ⟨#[]⟩)) w
  have hY := fun h2 h3 h4 h5 h6 => fillOk_yes (op := op) (ss := ss) h hlen h2 h3 h4 h5 h6
  have hX := fun h6 => fillOk_check (op := op) (ss := ss) h6
  rw [ea, eb, ec, en] at hY hX
  have YES := Lib.hid hY
  have BAD := Lib.hid hX
  have C := Lib.hid hC
  have Ea := Lib.hid ea
  have Da := Lib.hid da
  have Eb := Lib.hid eb
  have Db := Lib.hid db
  have Ec := Lib.hid ec
  have Dc := Lib.hid dc
  have En := Lib.hid en
  have Dn := Lib.hid dn
  have hh : (decide (1 ≤ shapeOf op) && decide (shapeOf op ≤ 6)) = true ∧ (decide (3 ≤ shapeOf op) && decide (shapeOf op ≤ 5)) = false ∧ (shapeOf op == 5) = false := by
    unfold regsOf at hreg
    unfold bitsOf at himm
    generalize shapeOf op = s at *
    simp
    omega
  have hneg : decide (shapeOf op < 0) = false := by simp; omega
  have w0 : (shapeOf op != 0) = true := by unfold bitsOf at himm; simp; omega
  have w5 : (shapeOf op != 5) = true := by unfold bitsOf at himm; simp; omega
  have w6 : (shapeOf op != 6) = true := by unfold bitsOf at himm; simp; omega
  obtain ⟨h1, h2, h3⟩ := hh
  have HAS := Lib.hid (fun w => has_any (shapeOf op) w)
  rw [h1, h2, h3] at HAS
  have SH := Lib.hid (fun w => refshape_any op w)
  obtain ⟨b, off, rfl, hbb, hcell⟩ := hs.2 (by decide)
  have c0 : w.cell? ⟨b, off, none⟩ = some (.string (ss.getD 0 ⟨#[]⟩)) := by have := hcell 0 (by decide); rwa [Nat.add_zero] at this
  have z0 := hsz 0
  have c1 : w.cell? ⟨b, off + 1, none⟩ = some (.string (ss.getD 1 ⟨#[]⟩)) := hcell 1 (by decide)
  have z1 := hsz 1
  clear hcell
  clear hr hC hY hX hs hz h hreg hlen hsz ea eb ec en da db dc dn himm h1 h2 h3 x0 x2
  generalize shapeOf op = sh at *
  generalize ss.getD 0 ⟨#[]⟩ = t0 at *
  generalize ss.getD 1 ⟨#[]⟩ = t1 at *
  unfold instrV at C
  have HC0 := Lib.hid c0
  have HC1 := Lib.hid c1
  clear c0 c1
  go_enter Tryd.func76, Tryd.ntmps76
  go_wp2_with fail
  refine (SH.out _).mono ?_
  rintro e w' ⟨rfl, rfl⟩
  go_wp2_with fail
  refine (HAS.out _).mono ?_
  rintro e w' ⟨rfl, rfl⟩
  have T4 := Lib.hid ((Whole.made w 78 #[.int .i64 0, .int .i64 0, .int .i64 0, .int .i64 0, .int .i64 0] _ rfl).alloc (.cells #[.int .i64 op, .int .i64 0, .int .i64 0, .int .i64 0, .int .i64 0] 78))
  have T6 := Lib.hid (Whole.made (w.alloc (.cells #[.int .i64 0, .int .i64 0, .int .i64 0, .int .i64 0, .int .i64 0] 78)) 78 #[.int .i64 op, .int .i64 0, .int .i64 0, .int .i64 0, .int .i64 0] (w.heap.size + 1) (by simp))
  have B0 := Lib.hid (((Below.refl w.heap.size w).alloc (Nat.le_refl _) (.cells #[.int .i64 0, .int .i64 0, .int .i64 0, .int .i64 0, .int .i64 0] 78)).alloc (by simp) (.cells #[.int .i64 op, .int .i64 0, .int .i64 0, .int .i64 0, .int .i64 0] 78))
  have l4 := T4.out.lt
  have l6 := T6.out.lt
  generalize (w.alloc (.cells #[.int .i64 0, .int .i64 0, .int .i64 0, .int .i64 0, .int .i64 0] 78)).alloc (.cells #[.int .i64 op, .int .i64 0, .int .i64 0, .int .i64 0, .int .i64 0] 78) = V at *
  have n1 : w.heap.size ≤ w.heap.size + 1 := Nat.le_succ _
  have a46 : w.heap.size ≠ w.heap.size + 1 := Nat.ne_of_lt (Nat.lt_succ_self _)
  generalize w.heap.size + 1 = g6 at *
  have O0 := Lib.hid (ownsS_built 9 V [] #[] rfl 0 rfl (by decide) V.heap.size (Nat.le_refl _) _ rfl)
  have C0 := Lib.hid ((Below.refl V.heap.size V).alloc (Nat.le_refl _) (.cells #[] 9))
  go_wp2_with (first | (at_builtin; refine wpList_append_strs _ rfl (.tmp 33) (.tmp 34) rfl rowStr V.heap.size (.slice (some ⟨V.heap.size, 0, none⟩) 0 0) (0) _ rfl (O0.out.alloc _) (some ⟨V.heap.size + 1, 0, none⟩) 1 1 [(⟨#[114]⟩ : ByteArray)] rfl (strs_built 9 (V.alloc (.cells #[] 9)) [(⟨#[114]⟩ : ByteArray)] _ rfl 1 rfl (by decide) _ (by simp)) (by omega) (Nat.le_trans C0.out.size (by simp)) ?_; intro v1 y1 ho1 hg1 _; have hb1 : Below V.heap.size (V.alloc (.cells #[] 9)) y1 := OwnsS.grown_below ((Below.refl _ _).alloc C0.out.size _) (O0.out.alloc _) hg1 (Nat.le_trans C0.out.size (by simp)); have C1 := Lib.hid (C0.out.trans hb1); have O1 := Lib.hid ho1; clear ho1 hg1 hb1) | (at_builtin; refine wpList_append_strs _ rfl (.tmp 67) (.tmp 68) rfl rowStr V.heap.size v1 (0 + 1) _ rfl (O1.out.alloc _) (some ⟨y1.heap.size, 0, none⟩) 1 1 [(⟨#[]⟩ : ByteArray)] rfl (strs_built 9 y1 [(⟨#[]⟩ : ByteArray)] _ rfl 1 rfl (by decide) _ (by simp)) (by omega) (Nat.le_trans C1.out.size (by simp)) ?_; intro v2 y2 ho2 hg2 _; have hb2 : Below V.heap.size y1 y2 := OwnsS.grown_below ((Below.refl _ _).alloc C1.out.size _) (O1.out.alloc _) hg2 (Nat.le_trans C1.out.size (by simp)); have C2 := Lib.hid (C1.out.trans hb2); have O2 := Lib.hid ho2; clear ho2 hg2 hb2; obtain ⟨gh, kh, hv2, hkh, hgl, hgc⟩ := O2.out.big (by omega); subst hv2))
  have T13_0 := Lib.hid (Whole.made y2 149 #[.int .i64 0, .int .i64 0, .int .i64 0, .int .i64 0] _ rfl)
  have T6_0 := Lib.hid ((T6.out.below C2.out l6).alloc (.cells #[.int .i64 0, .int .i64 0, .int .i64 0, .int .i64 0] 149))
  have T4_0 := Lib.hid ((T4.out.below C2.out l4).alloc (.cells #[.int .i64 0, .int .i64 0, .int .i64 0, .int .i64 0] 149))
  have B_0 := Lib.hid ((B0.out.trans (C2.out.mono B0.out.size)).alloc (Nat.le_trans B0.out.size C2.out.size) (.cells #[.int .i64 0, .int .i64 0, .int .i64 0, .int .i64 0] 149))
  have a613 : g6 ≠ y2.heap.size := Nat.ne_of_lt (Nat.lt_of_lt_of_le l6 C2.out.size)
  have a413 : w.heap.size ≠ y2.heap.size := Nat.ne_of_lt (Nat.lt_of_lt_of_le l4 C2.out.size)
  have b13 : w.heap.size ≤ y2.heap.size := Nat.le_trans B0.out.size C2.out.size
  have G0_0 := Lib.hid (show (y2.alloc (.cells #[.int .i64 0, .int .i64 0, .int .i64 0, .int .i64 0] 149)).cell? ⟨gh, 0, none⟩ = some (.string (⟨#[114]⟩ : ByteArray)) from ((((Below.refl y2.heap.size y2).alloc (Nat.le_refl _) (.cells #[.int .i64 0, .int .i64 0, .int .i64 0, .int .i64 0] 149)).cell (p := ⟨gh, 0, none⟩) hgl).trans (by have := hgc 0 _ rfl; simpa using this)))
  have G1_0 := Lib.hid (show (y2.alloc (.cells #[.int .i64 0, .int .i64 0, .int .i64 0, .int .i64 0] 149)).cell? ⟨gh, 1, none⟩ = some (.string (⟨#[]⟩ : ByteArray)) from ((((Below.refl y2.heap.size y2).alloc (Nat.le_refl _) (.cells #[.int .i64 0, .int .i64 0, .int .i64 0, .int .i64 0] 149)).cell (p := ⟨gh, 1, none⟩) hgl).trans (by have := hgc 1 _ rfl; simpa using this)))
  have agh : gh ≠ y2.heap.size := Nat.ne_of_lt hgl
  clear hgc hgl
  generalize y2.alloc (.cells #[.int .i64 0, .int .i64 0, .int .i64 0, .int .i64 0] 149) = W0 at *
  generalize y2.heap.size = g13 at *
  refine wp_loop_rounds 3 ?_
  rw [rounds_succ]
  go_wp2_with fail
  have LS := And.intro G0_0.out ((B_0.out.cell (p := ⟨b, off, none⟩) hbb).trans HC0.out)
  go_region_held3 (fun y => y.cell? ⟨gh, 0, none⟩ = some (.string (⟨#[114]⟩ : ByteArray)) ∧ y.cell? ⟨b, off, none⟩ = some (.string t0))
    (first
      | assumption
      | exact keepG_call (by assumption) (Below.refl _ _).drew
      | exact keepG_call (by assumption) hbm)
    (first
      | (go_at_call 99; refine (number_any' _ _ _ z0 (by first | exact Or.inl rfl | exact Or.inr rfl)).mono ?_; rintro e y0 ⟨rfl, hbm⟩))
  rename _ ∧ _ => hHl
  clear hHl LS
  have B_y := Lib.hid (B_0.out.drew.trans (hbm.mono B_0.out.size))
  have T13_y := Lib.hid (Whole.below (w := W0.drew) T13_0.out hbm T13_0.out.lt)
  have T6_y := Lib.hid (Whole.below (w := W0.drew) T6_0.out hbm T6_0.out.lt)
  have T4_y := Lib.hid (Whole.below (w := W0.drew) T4_0.out hbm T4_0.out.lt)
  have G1_y := Lib.hid ((hbm.cell (p := ⟨gh, 1, none⟩) (block_lt (show W0.drew.cell? _ = _ from G1_0.out))).trans G1_0.out)
  clear hbm
  by_cases ok0 : pfB (⟨#[114]⟩ : ByteArray) t0 = true
  case neg =>
    rw [Bool.not_eq_true] at ok0
    have NO := Lib.hid (fillOk_a (op := op) (ss := ss) (by rw [Da.out]; exact ok0))
    rw [ok0]
    have q0 : y0.cell? ⟨w.heap.size, 0, none⟩ = some (.int .i64 0) := T4_y.out.cell 0
    have q1 : y0.cell? ⟨w.heap.size, 1, none⟩ = some (.int .i64 0) := T4_y.out.cell 1
    have q2 : y0.cell? ⟨w.heap.size, 2, none⟩ = some (.int .i64 0) := T4_y.out.cell 2
    have q3 : y0.cell? ⟨w.heap.size, 3, none⟩ = some (.int .i64 0) := T4_y.out.cell 3
    have q4 : y0.cell? ⟨w.heap.size, 4, none⟩ = some (.int .i64 0) := T4_y.out.cell 4
    have f4 : ∀ i, y0.frozen? ⟨w.heap.size, i, none⟩ = false := T4_y.out.free
    have r0 : y0.cell? ⟨g6, 0, none⟩ = some (.int .i64 op) := T6_y.out.cell 0
    have r1 : y0.cell? ⟨g6, 1, none⟩ = some (.int .i64 0) := T6_y.out.cell 1
    have r2 : y0.cell? ⟨g6, 2, none⟩ = some (.int .i64 0) := T6_y.out.cell 2
    have r3 : y0.cell? ⟨g6, 3, none⟩ = some (.int .i64 0) := T6_y.out.cell 3
    have r4 : y0.cell? ⟨g6, 4, none⟩ = some (.int .i64 0) := T6_y.out.cell 4
    go_wp2_with fail
    refine bodyPost_ret (v := .tuple #[.agg #[.int .i64 op, .int .i64 0, .int .i64 0, .int .i64 0, .int .i64 0], .bool false]) ?_ rfl (fill_no NO.out ?_)
    · simp [results, Tryd.results76, go_sem, q0, q1, q2, q3, q4]
    · repeat (first | exact B_y.out | refine Below.setCell ?_ (Nat.le_refl w.heap.size) _)
  have OKa := Lib.hid (show ka op ss = true by rw [Da.out]; exact ok0)
  rw [ok0]
  clear ok0
  have ar : y0.cell? ⟨g13, 0, none⟩ = some (.int .i64 0) := T13_y.out.cell 0
  have fr : y0.frozen? ⟨g13, 0, none⟩ = false := T13_y.out.free 0
  go_wp2_with fail
  have B_1 := Lib.hid (B_y.out.setCell (p := ⟨g13, 0, none⟩) b13 (.int .i64 (pfN (⟨#[114]⟩ : ByteArray) t0)))
  have T13_1 := Lib.hid (show Whole (y0.setCell ⟨g13, 0, none⟩ (.int .i64 (pfN (⟨#[114]⟩ : ByteArray) t0))) g13 149 #[.int .i64 (pfN (⟨#[114]⟩ : ByteArray) t0), .int .i64 0, .int .i64 0, .int .i64 0] from T13_y.out.store 0 (.int .i64 (pfN (⟨#[114]⟩ : ByteArray) t0)))
  have T6_1 := Lib.hid (T6_y.out.far (p := ⟨g13, 0, none⟩) a613 (.int .i64 (pfN (⟨#[114]⟩ : ByteArray) t0)))
  have T4_1 := Lib.hid (T4_y.out.far (p := ⟨g13, 0, none⟩) a413 (.int .i64 (pfN (⟨#[114]⟩ : ByteArray) t0)))
  have G1_1 := Lib.hid ((World.cell?_setCell_far y0 ⟨g13, 0, none⟩ ⟨gh, 1, none⟩ (.int .i64 (pfN (⟨#[114]⟩ : ByteArray) t0)) (Ne.symm agh)).trans G1_y.out)
  clear ar fr
  generalize y0.setCell ⟨g13, 0, none⟩ (.int .i64 (pfN (⟨#[114]⟩ : ByteArray) t0)) = W1 at *
  rw [rounds_succ]
  go_wp2_with fail
  have LS := And.intro G1_1.out ((B_1.out.cell (p := ⟨b, off + 1, none⟩) hbb).trans HC1.out)
  go_region_held3 (fun y => y.cell? ⟨gh, 1, none⟩ = some (.string (⟨#[]⟩ : ByteArray)) ∧ y.cell? ⟨b, off + 1, none⟩ = some (.string t1))
    (first
      | assumption
      | exact keepG_call (by assumption) (Below.refl _ _).drew
      | exact keepG_call (by assumption) hbm)
    (first
      | (go_at_call 99; refine (number_any' _ _ _ z1 (by first | exact Or.inl rfl | exact Or.inr rfl)).mono ?_; rintro e y1 ⟨rfl, hbm⟩))
  rename _ ∧ _ => hHl
  clear hHl LS
  have B_y := Lib.hid (B_1.out.drew.trans (hbm.mono B_1.out.size))
  have T13_y := Lib.hid (Whole.below (w := W1.drew) T13_1.out hbm T13_1.out.lt)
  have T6_y := Lib.hid (Whole.below (w := W1.drew) T6_1.out hbm T6_1.out.lt)
  have T4_y := Lib.hid (Whole.below (w := W1.drew) T4_1.out hbm T4_1.out.lt)
  clear hbm
  by_cases ok1 : pfB (⟨#[]⟩ : ByteArray) t1 = true
  case neg =>
    rw [Bool.not_eq_true] at ok1
    have NO := Lib.hid (fillOk_n (op := op) (ss := ss) (by rw [Dn.out]; exact ok1))
    rw [ok1]
    have q0 : y1.cell? ⟨w.heap.size, 0, none⟩ = some (.int .i64 0) := T4_y.out.cell 0
    have q1 : y1.cell? ⟨w.heap.size, 1, none⟩ = some (.int .i64 0) := T4_y.out.cell 1
    have q2 : y1.cell? ⟨w.heap.size, 2, none⟩ = some (.int .i64 0) := T4_y.out.cell 2
    have q3 : y1.cell? ⟨w.heap.size, 3, none⟩ = some (.int .i64 0) := T4_y.out.cell 3
    have q4 : y1.cell? ⟨w.heap.size, 4, none⟩ = some (.int .i64 0) := T4_y.out.cell 4
    have f4 : ∀ i, y1.frozen? ⟨w.heap.size, i, none⟩ = false := T4_y.out.free
    have r0 : y1.cell? ⟨g6, 0, none⟩ = some (.int .i64 op) := T6_y.out.cell 0
    have r1 : y1.cell? ⟨g6, 1, none⟩ = some (.int .i64 0) := T6_y.out.cell 1
    have r2 : y1.cell? ⟨g6, 2, none⟩ = some (.int .i64 0) := T6_y.out.cell 2
    have r3 : y1.cell? ⟨g6, 3, none⟩ = some (.int .i64 0) := T6_y.out.cell 3
    have r4 : y1.cell? ⟨g6, 4, none⟩ = some (.int .i64 0) := T6_y.out.cell 4
    go_wp2_with fail
    refine bodyPost_ret (v := .tuple #[.agg #[.int .i64 op, .int .i64 0, .int .i64 0, .int .i64 0, .int .i64 0], .bool false]) ?_ rfl (fill_no NO.out ?_)
    · simp [results, Tryd.results76, go_sem, q0, q1, q2, q3, q4]
    · repeat (first | exact B_y.out | refine Below.setCell ?_ (Nat.le_refl w.heap.size) _)
  have OKn := Lib.hid (show kn op ss = true by rw [Dn.out]; exact ok1)
  rw [ok1]
  clear ok1
  have ar : y1.cell? ⟨g13, 1, none⟩ = some (.int .i64 0) := T13_y.out.cell 1
  have fr : y1.frozen? ⟨g13, 1, none⟩ = false := T13_y.out.free 1
  go_wp2_with fail
  have B_2 := Lib.hid (B_y.out.setCell (p := ⟨g13, 1, none⟩) b13 (.int .i64 (pfN (⟨#[]⟩ : ByteArray) t1)))
  have T13_2 := Lib.hid (show Whole (y1.setCell ⟨g13, 1, none⟩ (.int .i64 (pfN (⟨#[]⟩ : ByteArray) t1))) g13 149 #[.int .i64 (pfN (⟨#[114]⟩ : ByteArray) t0), .int .i64 (pfN (⟨#[]⟩ : ByteArray) t1), .int .i64 0, .int .i64 0] from T13_y.out.store 1 (.int .i64 (pfN (⟨#[]⟩ : ByteArray) t1)))
  have T6_2 := Lib.hid (T6_y.out.far (p := ⟨g13, 1, none⟩) a613 (.int .i64 (pfN (⟨#[]⟩ : ByteArray) t1)))
  have T4_2 := Lib.hid (T4_y.out.far (p := ⟨g13, 1, none⟩) a413 (.int .i64 (pfN (⟨#[]⟩ : ByteArray) t1)))
  clear ar fr
  generalize y1.setCell ⟨g13, 1, none⟩ (.int .i64 (pfN (⟨#[]⟩ : ByteArray) t1)) = W2 at *
  have OKb := Lib.hid Db.out
  have OKc := Lib.hid Dc.out
  have ar0 : W2.cell? ⟨g13, 0, none⟩ = some (.int .i64 (pfN (⟨#[114]⟩ : ByteArray) t0)) := T13_2.out.cell 0
  have ar1 : W2.cell? ⟨g13, 1, none⟩ = some (.int .i64 (pfN (⟨#[]⟩ : ByteArray) t1)) := T13_2.out.cell 1
  have ar2 : W2.cell? ⟨g13, 2, none⟩ = some (.int .i64 0) := T13_2.out.cell 2
  have ar3 : W2.cell? ⟨g13, 3, none⟩ = some (.int .i64 0) := T13_2.out.cell 3
  have r0 : W2.cell? ⟨g6, 0, none⟩ = some (.int .i64 op) := T6_2.out.cell 0
  have r1 : W2.cell? ⟨g6, 1, none⟩ = some (.int .i64 0) := T6_2.out.cell 1
  have r2 : W2.cell? ⟨g6, 2, none⟩ = some (.int .i64 0) := T6_2.out.cell 2
  have r3 : W2.cell? ⟨g6, 3, none⟩ = some (.int .i64 0) := T6_2.out.cell 3
  have r4 : W2.cell? ⟨g6, 4, none⟩ = some (.int .i64 0) := T6_2.out.cell 4
  have rf : ∀ i, W2.frozen? ⟨g6, i, none⟩ = false := T6_2.out.free
  rw [rounds_succ]
  go_wp2_with fail
  have T6_U := Lib.hid (show Whole ((W2.setCell ⟨g6, 1, none⟩ (.int .i64 (pfN (⟨#[114]⟩ : ByteArray) t0))).setCell ⟨g6, 4, none⟩ (.int .i64 (pfN (⟨#[]⟩ : ByteArray) t1))) g6 78 #[.int .i64 op, .int .i64 (pfN (⟨#[114]⟩ : ByteArray) t0), .int .i64 0, .int .i64 0, .int .i64 (pfN (⟨#[]⟩ : ByteArray) t1)] from ((T6_2.out.store 1 (.int .i64 (pfN (⟨#[114]⟩ : ByteArray) t0))).store 4 (.int .i64 (pfN (⟨#[]⟩ : ByteArray) t1))))
  have T4_U := Lib.hid ((T4_2.out.far (p := ⟨g6, 1, none⟩) a46 (.int .i64 (pfN (⟨#[114]⟩ : ByteArray) t0))).far (p := ⟨g6, 4, none⟩) a46 (.int .i64 (pfN (⟨#[]⟩ : ByteArray) t1)))
  have B_U := Lib.hid ((B_2.out.setCell (p := ⟨g6, 1, none⟩) n1 (.int .i64 (pfN (⟨#[114]⟩ : ByteArray) t0))).setCell (p := ⟨g6, 4, none⟩) n1 (.int .i64 (pfN (⟨#[]⟩ : ByteArray) t1)))
  clear ar0 ar1 ar2 ar3 r0 r1 r2 r3 r4 rf
  generalize ((W2.setCell ⟨g6, 1, none⟩ (.int .i64 (pfN (⟨#[114]⟩ : ByteArray) t0))).setCell ⟨g6, 4, none⟩ (.int .i64 (pfN (⟨#[]⟩ : ByteArray) t1))) = U at *
  by_cases hck : checkOf op (pfN (⟨#[114]⟩ : ByteArray) t0) 0 0 (pfN (⟨#[]⟩ : ByteArray) t1) = 0
  · have Y := Lib.hid (YES.out OKa.out OKb.out OKc.out OKn.out hck)
    rw [hck] at C
    clear hck
    have LS : U.cell? ⟨g6, 0, none⟩ = some (.int .i64 op) ∧ U.cell? ⟨g6, 1, none⟩ = some (.int .i64 (pfN (⟨#[114]⟩ : ByteArray) t0)) ∧ U.cell? ⟨g6, 2, none⟩ = some (.int .i64 0) ∧ U.cell? ⟨g6, 3, none⟩ = some (.int .i64 0) ∧ U.cell? ⟨g6, 4, none⟩ = some (.int .i64 (pfN (⟨#[]⟩ : ByteArray) t1)) ∧ U.cell? ⟨w.heap.size, 0, none⟩ = some (heldAt U ⟨w.heap.size, 0, none⟩) ∧ U.cell? ⟨w.heap.size, 1, none⟩ = some (heldAt U ⟨w.heap.size, 1, none⟩) ∧ U.cell? ⟨w.heap.size, 2, none⟩ = some (heldAt U ⟨w.heap.size, 2, none⟩) ∧ U.cell? ⟨w.heap.size, 3, none⟩ = some (heldAt U ⟨w.heap.size, 3, none⟩) ∧ U.cell? ⟨w.heap.size, 4, none⟩ = some (heldAt U ⟨w.heap.size, 4, none⟩) ∧ U.frozen? ⟨w.heap.size, 0, none⟩ = false ∧ U.frozen? ⟨w.heap.size, 1, none⟩ = false ∧ U.frozen? ⟨w.heap.size, 2, none⟩ = false ∧ U.frozen? ⟨w.heap.size, 3, none⟩ = false ∧ U.frozen? ⟨w.heap.size, 4, none⟩ = false :=
      ⟨T6_U.out.cell 0, T6_U.out.cell 1, T6_U.out.cell 2, T6_U.out.cell 3, T6_U.out.cell 4, heldAt_of (T4_U.out.cell 0), heldAt_of (T4_U.out.cell 1), heldAt_of (T4_U.out.cell 2), heldAt_of (T4_U.out.cell 3), heldAt_of (T4_U.out.cell 4), T4_U.out.free 0, T4_U.out.free 1, T4_U.out.free 2, T4_U.out.free 3, T4_U.out.free 4⟩
    go_region_held3 (fun y => y.cell? ⟨g6, 0, none⟩ = some (.int .i64 op) ∧ y.cell? ⟨g6, 1, none⟩ = some (.int .i64 (pfN (⟨#[114]⟩ : ByteArray) t0)) ∧ y.cell? ⟨g6, 2, none⟩ = some (.int .i64 0) ∧ y.cell? ⟨g6, 3, none⟩ = some (.int .i64 0) ∧ y.cell? ⟨g6, 4, none⟩ = some (.int .i64 (pfN (⟨#[]⟩ : ByteArray) t1)) ∧ y.cell? ⟨w.heap.size, 0, none⟩ = some (heldAt y ⟨w.heap.size, 0, none⟩) ∧ y.cell? ⟨w.heap.size, 1, none⟩ = some (heldAt y ⟨w.heap.size, 1, none⟩) ∧ y.cell? ⟨w.heap.size, 2, none⟩ = some (heldAt y ⟨w.heap.size, 2, none⟩) ∧ y.cell? ⟨w.heap.size, 3, none⟩ = some (heldAt y ⟨w.heap.size, 3, none⟩) ∧ y.cell? ⟨w.heap.size, 4, none⟩ = some (heldAt y ⟨w.heap.size, 4, none⟩) ∧ y.frozen? ⟨w.heap.size, 0, none⟩ = false ∧ y.frozen? ⟨w.heap.size, 1, none⟩ = false ∧ y.frozen? ⟨w.heap.size, 2, none⟩ = false ∧ y.frozen? ⟨w.heap.size, 3, none⟩ = false ∧ y.frozen? ⟨w.heap.size, 4, none⟩ = false)
      (first
        | with_reducible assumption
        | with_reducible exact keepR_drew (by assumption)
        | with_reducible exact keepR_call (by assumption) hbm
        | with_reducible exact keepR_set (by assumption) a46)
      (first | (go_at_call 61; refine (C.out _).mono ?_; rintro e yz ⟨rfl, hbm⟩))
    rename _ ∧ _ => hHl
    clear hHl LS
    have T4_z := Lib.hid (Whole.below (w := U.drew) T4_U.out hbm T4_U.out.lt)
    have B_z := Lib.hid (B_U.out.drew.trans (hbm.mono B_U.out.size))
    clear hbm
    have q0 : yz.cell? ⟨w.heap.size, 0, none⟩ = some (.int .i64 0) := T4_z.out.cell 0
    have q1 : yz.cell? ⟨w.heap.size, 1, none⟩ = some (.int .i64 0) := T4_z.out.cell 1
    have q2 : yz.cell? ⟨w.heap.size, 2, none⟩ = some (.int .i64 0) := T4_z.out.cell 2
    have q3 : yz.cell? ⟨w.heap.size, 3, none⟩ = some (.int .i64 0) := T4_z.out.cell 3
    have q4 : yz.cell? ⟨w.heap.size, 4, none⟩ = some (.int .i64 0) := T4_z.out.cell 4
    go_wp2_with fail
    refine bodyPost_ret (v := .tuple #[.agg #[.int .i64 op, .int .i64 (pfN (⟨#[114]⟩ : ByteArray) t0), .int .i64 0, .int .i64 0, .int .i64 (pfN (⟨#[]⟩ : ByteArray) t1)], .bool true]) ?_ rfl (fill_yes Y.out Ea.out.symm Eb.out.symm Ec.out.symm En.out.symm ?_)
    · simp [results, Tryd.results76, go_sem, q0, q1, q2, q3, q4]
    · repeat (first | exact B_z.out | refine Below.setCell ?_ (Nat.le_refl w.heap.size) _)
  · have NO := Lib.hid (BAD.out hck)
    have hne : (checkOf op (pfN (⟨#[114]⟩ : ByteArray) t0) 0 0 (pfN (⟨#[]⟩ : ByteArray) t1) == 0) = false := by simpa using hck
    generalize checkOf op (pfN (⟨#[114]⟩ : ByteArray) t0) 0 0 (pfN (⟨#[]⟩ : ByteArray) t1) = kk at *
    clear hck
    have LS : U.cell? ⟨g6, 0, none⟩ = some (.int .i64 op) ∧ U.cell? ⟨g6, 1, none⟩ = some (.int .i64 (pfN (⟨#[114]⟩ : ByteArray) t0)) ∧ U.cell? ⟨g6, 2, none⟩ = some (.int .i64 0) ∧ U.cell? ⟨g6, 3, none⟩ = some (.int .i64 0) ∧ U.cell? ⟨g6, 4, none⟩ = some (.int .i64 (pfN (⟨#[]⟩ : ByteArray) t1)) ∧ U.cell? ⟨w.heap.size, 0, none⟩ = some (heldAt U ⟨w.heap.size, 0, none⟩) ∧ U.cell? ⟨w.heap.size, 1, none⟩ = some (heldAt U ⟨w.heap.size, 1, none⟩) ∧ U.cell? ⟨w.heap.size, 2, none⟩ = some (heldAt U ⟨w.heap.size, 2, none⟩) ∧ U.cell? ⟨w.heap.size, 3, none⟩ = some (heldAt U ⟨w.heap.size, 3, none⟩) ∧ U.cell? ⟨w.heap.size, 4, none⟩ = some (heldAt U ⟨w.heap.size, 4, none⟩) ∧ U.frozen? ⟨w.heap.size, 0, none⟩ = false ∧ U.frozen? ⟨w.heap.size, 1, none⟩ = false ∧ U.frozen? ⟨w.heap.size, 2, none⟩ = false ∧ U.frozen? ⟨w.heap.size, 3, none⟩ = false ∧ U.frozen? ⟨w.heap.size, 4, none⟩ = false :=
      ⟨T6_U.out.cell 0, T6_U.out.cell 1, T6_U.out.cell 2, T6_U.out.cell 3, T6_U.out.cell 4, heldAt_of (T4_U.out.cell 0), heldAt_of (T4_U.out.cell 1), heldAt_of (T4_U.out.cell 2), heldAt_of (T4_U.out.cell 3), heldAt_of (T4_U.out.cell 4), T4_U.out.free 0, T4_U.out.free 1, T4_U.out.free 2, T4_U.out.free 3, T4_U.out.free 4⟩
    go_region_held3 (fun y => y.cell? ⟨g6, 0, none⟩ = some (.int .i64 op) ∧ y.cell? ⟨g6, 1, none⟩ = some (.int .i64 (pfN (⟨#[114]⟩ : ByteArray) t0)) ∧ y.cell? ⟨g6, 2, none⟩ = some (.int .i64 0) ∧ y.cell? ⟨g6, 3, none⟩ = some (.int .i64 0) ∧ y.cell? ⟨g6, 4, none⟩ = some (.int .i64 (pfN (⟨#[]⟩ : ByteArray) t1)) ∧ y.cell? ⟨w.heap.size, 0, none⟩ = some (heldAt y ⟨w.heap.size, 0, none⟩) ∧ y.cell? ⟨w.heap.size, 1, none⟩ = some (heldAt y ⟨w.heap.size, 1, none⟩) ∧ y.cell? ⟨w.heap.size, 2, none⟩ = some (heldAt y ⟨w.heap.size, 2, none⟩) ∧ y.cell? ⟨w.heap.size, 3, none⟩ = some (heldAt y ⟨w.heap.size, 3, none⟩) ∧ y.cell? ⟨w.heap.size, 4, none⟩ = some (heldAt y ⟨w.heap.size, 4, none⟩) ∧ y.frozen? ⟨w.heap.size, 0, none⟩ = false ∧ y.frozen? ⟨w.heap.size, 1, none⟩ = false ∧ y.frozen? ⟨w.heap.size, 2, none⟩ = false ∧ y.frozen? ⟨w.heap.size, 3, none⟩ = false ∧ y.frozen? ⟨w.heap.size, 4, none⟩ = false)
      (first
        | with_reducible assumption
        | with_reducible exact keepR_drew (by assumption)
        | with_reducible exact keepR_call (by assumption) hbm
        | with_reducible exact keepR_set (by assumption) a46)
      (first | (go_at_call 61; refine (C.out _).mono ?_; rintro e yz ⟨rfl, hbm⟩))
    rename _ ∧ _ => hHl
    clear hHl LS
    have T4_z := Lib.hid (Whole.below (w := U.drew) T4_U.out hbm T4_U.out.lt)
    have B_z := Lib.hid (B_U.out.drew.trans (hbm.mono B_U.out.size))
    clear hbm
    have q0 : yz.cell? ⟨w.heap.size, 0, none⟩ = some (.int .i64 0) := T4_z.out.cell 0
    have q1 : yz.cell? ⟨w.heap.size, 1, none⟩ = some (.int .i64 0) := T4_z.out.cell 1
    have q2 : yz.cell? ⟨w.heap.size, 2, none⟩ = some (.int .i64 0) := T4_z.out.cell 2
    have q3 : yz.cell? ⟨w.heap.size, 3, none⟩ = some (.int .i64 0) := T4_z.out.cell 3
    have q4 : yz.cell? ⟨w.heap.size, 4, none⟩ = some (.int .i64 0) := T4_z.out.cell 4
    go_wp2_with fail
    refine bodyPost_ret (v := .tuple #[.agg #[.int .i64 op, .int .i64 (pfN (⟨#[114]⟩ : ByteArray) t0), .int .i64 0, .int .i64 0, .int .i64 (pfN (⟨#[]⟩ : ByteArray) t1)], .bool false]) ?_ rfl (fill_no NO.out ?_)
    · simp [results, Tryd.results76, go_sem, q0, q1, q2, q3, q4]
    · repeat (first | exact B_z.out | refine Below.setCell ?_ (Nat.le_refl w.heap.size) _)
end Go.Proofs.YtnmpamfgkidmiaaDoor
