/- Package instr: Check. -/
import Derived.Test.YtcijjmmckofckaaDoorInstrB
namespace Go.Proofs.YtcijjmmckofckaaDoor
open Go.ChangeShapes Go.WideShapes Go.ChangeAt Go.RowKit
set_option linter.unusedVariables false

def instrV (op a b c n : Int) : Value := .agg #[.int .i64 op, .int .i64 a, .int .i64 b, .int .i64 c, .int .i64 n]

/-- An integer of 64 bits. -/
def I64 (n : Int) : Prop := -9223372036854775808 ≤ n ∧ n ≤ 9223372036854775807

theorem regOk_no {r : Int} {has : Bool} (h : withinB r 4 = false) : regOk has r = false := by
  rw [withinB_4] at h
  unfold regOk
  rw [h]
  rfl

theorem regOk_yes {r : Int} {has : Bool} (h : withinB r 4 = true) (h2 : has = true ∨ r = 0) : regOk has r = true := by
  rw [withinB_4] at h
  unfold regOk
  rw [h]
  rcases h2 with rfl | rfl
  · rfl
  · simp

theorem regOk_zero {r : Int} (h2 : r ≠ 0) : regOk false r = false := by
  unfold regOk
  simp [h2]

theorem regsOk_a {s a b c : Int} (h : regOk (decide (0 < regsOf s)) a = false) : regsOk s a b c = false := by unfold regsOk; rw [h]; rfl

theorem regsOk_b {s a b c : Int} (h : regOk (decide (1 < regsOf s)) b = false) : regsOk s a b c = false := by unfold regsOk; rw [h]; simp

theorem regsOk_c {s a b c : Int} (h : regOk (decide (2 < regsOf s)) c = false) : regsOk s a b c = false := by unfold regsOk; rw [h]; simp

theorem regsOk_all {s a b c : Int} (ha : regOk (decide (0 < regsOf s)) a = true) (hb : regOk (decide (1 < regsOf s)) b = true) (hc : regOk (decide (2 < regsOf s)) c = true) : regsOk s a b c = true := by unfold regsOk; rw [ha, hb, hc]; rfl

theorem ret_i64 {a b : Int} (h : a = b) : Ending.returned (.int .i64 a) = .returned (.int .i64 b) := by rw [h]

set_option maxHeartbeats 400000 in
theorem check_none (op a b c n : Int) (w : World) (hS : ShapesIn w) (h : shapeOf op = -1) :
    Calls Tryd.prog 67 #[instrV op a b c n] w fun e w' => e = .returned (.int .i64 (checkOf op a b c n)) ∧ Below w.heap.size w w' := by
  have hr := fieldsR_of h
  have H := Lib.hid (checkOf_none (a := a) (b := b) (c := c) (n := n) h)
  have HS := Lib.hid hS
  clear h hS
  unfold instrV
  go_enter Tryd.func67, Tryd.ntmps67
  go_wp2_with fail
  refine (fieldsOf_any _ _ (HS.out.alloc _)).mono ?_
  rintro e w1 ⟨rfl, hb1⟩
  have hb : Below w.heap.size w w1 := ((Below.refl _ _).alloc (Nat.le_refl _) _).trans (hb1.mono (by simp))
  have hs := hb.size
  rw [hr, show fieldsV (-1) = .agg #[.int .i64 0, .int .i64 0, .bool false] from rfl]
  clear hr hb1
  go_wp2
  go_ret
  exact ⟨ret_i64 H.out.symm, hb.alloc hs _⟩


set_option maxHeartbeats 4000000 in
set_option maxRecDepth 100000 in
theorem check_r0 (op a b c n : Int) (w : World) (hS : ShapesIn w) (ha : I64 a) (hb : I64 b) (hc : I64 c) (hn : I64 n) (h : shapeOf op ≠ -1) (hreg : regsOf (shapeOf op) = 0) :
    Calls Tryd.prog 67 #[instrV op a b c n] w fun e w' => e = .returned (.int .i64 (checkOf op a b c n)) ∧ Below w.heap.size w w' := by
  have hr : fieldsR op = .tuple #[.agg #[.int .i64 0, .int .i64 (bitsOf (shapeOf op)), .bool (signOf (shapeOf op))], .bool true] := by
    unfold fieldsR fieldsV
    rw [hreg]
    simp [h]
  have R := Lib.hid hr
  have T := Lib.hid (fun w => by
    have ht := takes_any (shapeOf op) n w hn.1 hn.2 (by have := shapeOf_range op; omega) (shapeOf_range op).2
    unfold fieldsV at ht
    rw [hreg] at ht
    exact ht)
  have HS := Lib.hid hS
  have H := Lib.hid h
  have G := Lib.hid hreg
  clear h hS hr hreg
  generalize bitsOf (shapeOf op) = bits at R T
  generalize signOf (shapeOf op) = sgn at R T
  have i0 : ∀ w, (Instr.index 110 (.agg #[.int .i64 a, .int .i64 b, .int .i64 c]) (.int .i64 0)).run Tryd.prog w = .ok (.int .i64 a) w := fun w =>
    run_index_arr Tryd.underlying110 Tryd.underlying3 (by kernel_rfl) _ 0 _ (by decide) rfl w
  have i1 : ∀ w, (Instr.index 110 (.agg #[.int .i64 a, .int .i64 b, .int .i64 c]) (.int .i64 1)).run Tryd.prog w = .ok (.int .i64 b) w := fun w =>
    run_index_arr Tryd.underlying110 Tryd.underlying3 (by kernel_rfl) _ 1 _ (by decide) rfl w
  have i2 : ∀ w, (Instr.index 110 (.agg #[.int .i64 a, .int .i64 b, .int .i64 c]) (.int .i64 2)).run Tryd.prog w = .ok (.int .i64 c) w := fun w =>
    run_index_arr Tryd.underlying110 Tryd.underlying3 (by kernel_rfl) _ 2 _ (by decide) rfl w
  unfold instrV
  go_enter Tryd.func67, Tryd.ntmps67
  go_wp2_with fail
  refine (fieldsOf_any _ _ (HS.out.alloc _)).mono ?_
  rintro e w1 ⟨rfl, hb1⟩
  obtain ⟨hk, hf⟩ := kept_cells hb1
  have hz : w.heap.size < w1.heap.size := by have := hb1.size; simp at this; omega
  have B1 := Lib.hid (((Below.refl _ _).alloc (Nat.le_refl _) _).trans (hb1.mono (show w.heap.size ≤ _ by simp)))
  clear hb1
  rw [R.out]
  go_wp2_with fail
  refine wp_loop_rounds 4 ?_
  rw [rounds_succ]
  go_wp2_with fail
  refine (within_any a 4 _ ha.1 ha.2 (by decide) (by decide)).mono ?_
  rintro e w' ⟨rfl, rfl⟩
  by_cases ga : withinB a 4 = true
  case neg =>
    rw [Bool.not_eq_true] at ga
    rw [ga]
    go_wp2_with fail
    go_ret
    exact ⟨ret_i64 (checkOf_regs H.out (regsOk_a (regOk_no ga))).symm, B1.out.alloc (by omega) _⟩
  rw [ga]
  by_cases za : a = 0
  case neg =>
    have da : (a != 0) = true := by simpa using za
    go_wp2_with fail
    go_ret
    exact ⟨ret_i64 (checkOf_regs H.out (regsOk_a (by rw [G.out]; exact regOk_zero za))).symm, B1.out.alloc (by omega) _⟩
  have da : (a != 0) = false := by simpa using za
  have pa := Lib.hid (regOk_yes (has := decide (0 < regsOf (shapeOf op))) ga (Or.inr za))
  clear za ga
  go_wp2_with fail
  rw [rounds_succ]
  go_wp2_with fail
  refine (within_any b 4 _ hb.1 hb.2 (by decide) (by decide)).mono ?_
  rintro e w' ⟨rfl, rfl⟩
  by_cases gb : withinB b 4 = true
  case neg =>
    rw [Bool.not_eq_true] at gb
    rw [gb]
    go_wp2_with fail
    go_ret
    exact ⟨ret_i64 (checkOf_regs H.out (regsOk_b (regOk_no gb))).symm, B1.out.alloc (by omega) _⟩
  rw [gb]
  by_cases zb : b = 0
  case neg =>
    have db : (b != 0) = true := by simpa using zb
    go_wp2_with fail
    go_ret
    exact ⟨ret_i64 (checkOf_regs H.out (regsOk_b (by rw [G.out]; exact regOk_zero zb))).symm, B1.out.alloc (by omega) _⟩
  have db : (b != 0) = false := by simpa using zb
  have pb := Lib.hid (regOk_yes (has := decide (1 < regsOf (shapeOf op))) gb (Or.inr zb))
  clear zb gb
  go_wp2_with fail
  rw [rounds_succ]
  go_wp2_with fail
  refine (within_any c 4 _ hc.1 hc.2 (by decide) (by decide)).mono ?_
  rintro e w' ⟨rfl, rfl⟩
  by_cases gc : withinB c 4 = true
  case neg =>
    rw [Bool.not_eq_true] at gc
    rw [gc]
    go_wp2_with fail
    go_ret
    exact ⟨ret_i64 (checkOf_regs H.out (regsOk_c (regOk_no gc))).symm, B1.out.alloc (by omega) _⟩
  rw [gc]
  by_cases zc : c = 0
  case neg =>
    have dc : (c != 0) = true := by simpa using zc
    go_wp2_with fail
    go_ret
    exact ⟨ret_i64 (checkOf_regs H.out (regsOk_c (by rw [G.out]; exact regOk_zero zc))).symm, B1.out.alloc (by omega) _⟩
  have dc : (c != 0) = false := by simpa using zc
  have pc := Lib.hid (regOk_yes (has := decide (2 < regsOf (shapeOf op))) gc (Or.inr zc))
  clear zc gc
  go_wp2_with fail
  rw [rounds_succ]
  go_wp2_with fail
  refine (T.out _).mono ?_
  rintro e w2 ⟨rfl, hb2⟩
  have hb : Below w.heap.size w w2 := (B1.out.alloc (by omega) _).trans (hb2.mono (by simp; omega))
  clear hb2
  by_cases gn : immOk (shapeOf op) n = true
  · rw [gn]
    go_wp2
    go_ret
    exact ⟨ret_i64 (checkOf_ok H.out (regsOk_all pa.out pb.out pc.out) gn).symm, hb⟩
  · rw [Bool.not_eq_true] at gn
    rw [gn]
    go_wp2
    go_ret
    exact ⟨ret_i64 (checkOf_imm H.out gn).symm, hb⟩

set_option maxHeartbeats 4000000 in
set_option maxRecDepth 100000 in
theorem check_r1 (op a b c n : Int) (w : World) (hS : ShapesIn w) (ha : I64 a) (hb : I64 b) (hc : I64 c) (hn : I64 n) (h : shapeOf op ≠ -1) (hreg : regsOf (shapeOf op) = 1) :
    Calls Tryd.prog 67 #[instrV op a b c n] w fun e w' => e = .returned (.int .i64 (checkOf op a b c n)) ∧ Below w.heap.size w w' := by
  have hr : fieldsR op = .tuple #[.agg #[.int .i64 1, .int .i64 (bitsOf (shapeOf op)), .bool (signOf (shapeOf op))], .bool true] := by
    unfold fieldsR fieldsV
    rw [hreg]
    simp [h]
  have R := Lib.hid hr
  have T := Lib.hid (fun w => by
    have ht := takes_any (shapeOf op) n w hn.1 hn.2 (by have := shapeOf_range op; omega) (shapeOf_range op).2
    unfold fieldsV at ht
    rw [hreg] at ht
    exact ht)
  have HS := Lib.hid hS
  have H := Lib.hid h
  have G := Lib.hid hreg
  clear h hS hr hreg
  generalize bitsOf (shapeOf op) = bits at R T
  generalize signOf (shapeOf op) = sgn at R T
  have i0 : ∀ w, (Instr.index 110 (.agg #[.int .i64 a, .int .i64 b, .int .i64 c]) (.int .i64 0)).run Tryd.prog w = .ok (.int .i64 a) w := fun w =>
    run_index_arr Tryd.underlying110 Tryd.underlying3 (by kernel_rfl) _ 0 _ (by decide) rfl w
  have i1 : ∀ w, (Instr.index 110 (.agg #[.int .i64 a, .int .i64 b, .int .i64 c]) (.int .i64 1)).run Tryd.prog w = .ok (.int .i64 b) w := fun w =>
    run_index_arr Tryd.underlying110 Tryd.underlying3 (by kernel_rfl) _ 1 _ (by decide) rfl w
  have i2 : ∀ w, (Instr.index 110 (.agg #[.int .i64 a, .int .i64 b, .int .i64 c]) (.int .i64 2)).run Tryd.prog w = .ok (.int .i64 c) w := fun w =>
    run_index_arr Tryd.underlying110 Tryd.underlying3 (by kernel_rfl) _ 2 _ (by decide) rfl w
  unfold instrV
  go_enter Tryd.func67, Tryd.ntmps67
  go_wp2_with fail
  refine (fieldsOf_any _ _ (HS.out.alloc _)).mono ?_
  rintro e w1 ⟨rfl, hb1⟩
  obtain ⟨hk, hf⟩ := kept_cells hb1
  have hz : w.heap.size < w1.heap.size := by have := hb1.size; simp at this; omega
  have B1 := Lib.hid (((Below.refl _ _).alloc (Nat.le_refl _) _).trans (hb1.mono (show w.heap.size ≤ _ by simp)))
  clear hb1
  rw [R.out]
  go_wp2_with fail
  refine wp_loop_rounds 4 ?_
  rw [rounds_succ]
  go_wp2_with fail
  refine (within_any a 4 _ ha.1 ha.2 (by decide) (by decide)).mono ?_
  rintro e w' ⟨rfl, rfl⟩
  by_cases ga : withinB a 4 = true
  case neg =>
    rw [Bool.not_eq_true] at ga
    rw [ga]
    go_wp2_with fail
    go_ret
    exact ⟨ret_i64 (checkOf_regs H.out (regsOk_a (regOk_no ga))).symm, B1.out.alloc (by omega) _⟩
  rw [ga]
  have pa := Lib.hid (regOk_yes (has := decide (0 < regsOf (shapeOf op))) ga (Or.inl (by rw [G.out]; rfl)))
  clear ga
  go_wp2_with fail
  rw [rounds_succ]
  go_wp2_with fail
  refine (within_any b 4 _ hb.1 hb.2 (by decide) (by decide)).mono ?_
  rintro e w' ⟨rfl, rfl⟩
  by_cases gb : withinB b 4 = true
  case neg =>
    rw [Bool.not_eq_true] at gb
    rw [gb]
    go_wp2_with fail
    go_ret
    exact ⟨ret_i64 (checkOf_regs H.out (regsOk_b (regOk_no gb))).symm, B1.out.alloc (by omega) _⟩
  rw [gb]
  by_cases zb : b = 0
  case neg =>
    have db : (b != 0) = true := by simpa using zb
    go_wp2_with fail
    go_ret
    exact ⟨ret_i64 (checkOf_regs H.out (regsOk_b (by rw [G.out]; exact regOk_zero zb))).symm, B1.out.alloc (by omega) _⟩
  have db : (b != 0) = false := by simpa using zb
  have pb := Lib.hid (regOk_yes (has := decide (1 < regsOf (shapeOf op))) gb (Or.inr zb))
  clear zb gb
  go_wp2_with fail
  rw [rounds_succ]
  go_wp2_with fail
  refine (within_any c 4 _ hc.1 hc.2 (by decide) (by decide)).mono ?_
  rintro e w' ⟨rfl, rfl⟩
  by_cases gc : withinB c 4 = true
  case neg =>
    rw [Bool.not_eq_true] at gc
    rw [gc]
    go_wp2_with fail
    go_ret
    exact ⟨ret_i64 (checkOf_regs H.out (regsOk_c (regOk_no gc))).symm, B1.out.alloc (by omega) _⟩
  rw [gc]
  by_cases zc : c = 0
  case neg =>
    have dc : (c != 0) = true := by simpa using zc
    go_wp2_with fail
    go_ret
    exact ⟨ret_i64 (checkOf_regs H.out (regsOk_c (by rw [G.out]; exact regOk_zero zc))).symm, B1.out.alloc (by omega) _⟩
  have dc : (c != 0) = false := by simpa using zc
  have pc := Lib.hid (regOk_yes (has := decide (2 < regsOf (shapeOf op))) gc (Or.inr zc))
  clear zc gc
  go_wp2_with fail
  rw [rounds_succ]
  go_wp2_with fail
  refine (T.out _).mono ?_
  rintro e w2 ⟨rfl, hb2⟩
  have hb : Below w.heap.size w w2 := (B1.out.alloc (by omega) _).trans (hb2.mono (by simp; omega))
  clear hb2
  by_cases gn : immOk (shapeOf op) n = true
  · rw [gn]
    go_wp2
    go_ret
    exact ⟨ret_i64 (checkOf_ok H.out (regsOk_all pa.out pb.out pc.out) gn).symm, hb⟩
  · rw [Bool.not_eq_true] at gn
    rw [gn]
    go_wp2
    go_ret
    exact ⟨ret_i64 (checkOf_imm H.out gn).symm, hb⟩

set_option maxHeartbeats 4000000 in
set_option maxRecDepth 100000 in
theorem check_r2 (op a b c n : Int) (w : World) (hS : ShapesIn w) (ha : I64 a) (hb : I64 b) (hc : I64 c) (hn : I64 n) (h : shapeOf op ≠ -1) (hreg : regsOf (shapeOf op) = 2) :
    Calls Tryd.prog 67 #[instrV op a b c n] w fun e w' => e = .returned (.int .i64 (checkOf op a b c n)) ∧ Below w.heap.size w w' := by
  have hr : fieldsR op = .tuple #[.agg #[.int .i64 2, .int .i64 (bitsOf (shapeOf op)), .bool (signOf (shapeOf op))], .bool true] := by
    unfold fieldsR fieldsV
    rw [hreg]
    simp [h]
  have R := Lib.hid hr
  have T := Lib.hid (fun w => by
    have ht := takes_any (shapeOf op) n w hn.1 hn.2 (by have := shapeOf_range op; omega) (shapeOf_range op).2
    unfold fieldsV at ht
    rw [hreg] at ht
    exact ht)
  have HS := Lib.hid hS
  have H := Lib.hid h
  have G := Lib.hid hreg
  clear h hS hr hreg
  generalize bitsOf (shapeOf op) = bits at R T
  generalize signOf (shapeOf op) = sgn at R T
  have i0 : ∀ w, (Instr.index 110 (.agg #[.int .i64 a, .int .i64 b, .int .i64 c]) (.int .i64 0)).run Tryd.prog w = .ok (.int .i64 a) w := fun w =>
    run_index_arr Tryd.underlying110 Tryd.underlying3 (by kernel_rfl) _ 0 _ (by decide) rfl w
  have i1 : ∀ w, (Instr.index 110 (.agg #[.int .i64 a, .int .i64 b, .int .i64 c]) (.int .i64 1)).run Tryd.prog w = .ok (.int .i64 b) w := fun w =>
    run_index_arr Tryd.underlying110 Tryd.underlying3 (by kernel_rfl) _ 1 _ (by decide) rfl w
  have i2 : ∀ w, (Instr.index 110 (.agg #[.int .i64 a, .int .i64 b, .int .i64 c]) (.int .i64 2)).run Tryd.prog w = .ok (.int .i64 c) w := fun w =>
    run_index_arr Tryd.underlying110 Tryd.underlying3 (by kernel_rfl) _ 2 _ (by decide) rfl w
  unfold instrV
  go_enter Tryd.func67, Tryd.ntmps67
  go_wp2_with fail
  refine (fieldsOf_any _ _ (HS.out.alloc _)).mono ?_
  rintro e w1 ⟨rfl, hb1⟩
  obtain ⟨hk, hf⟩ := kept_cells hb1
  have hz : w.heap.size < w1.heap.size := by have := hb1.size; simp at this; omega
  have B1 := Lib.hid (((Below.refl _ _).alloc (Nat.le_refl _) _).trans (hb1.mono (show w.heap.size ≤ _ by simp)))
  clear hb1
  rw [R.out]
  go_wp2_with fail
  refine wp_loop_rounds 4 ?_
  rw [rounds_succ]
  go_wp2_with fail
  refine (within_any a 4 _ ha.1 ha.2 (by decide) (by decide)).mono ?_
  rintro e w' ⟨rfl, rfl⟩
  by_cases ga : withinB a 4 = true
  case neg =>
    rw [Bool.not_eq_true] at ga
    rw [ga]
    go_wp2_with fail
    go_ret
    exact ⟨ret_i64 (checkOf_regs H.out (regsOk_a (regOk_no ga))).symm, B1.out.alloc (by omega) _⟩
  rw [ga]
  have pa := Lib.hid (regOk_yes (has := decide (0 < regsOf (shapeOf op))) ga (Or.inl (by rw [G.out]; rfl)))
  clear ga
  go_wp2_with fail
  rw [rounds_succ]
  go_wp2_with fail
  refine (within_any b 4 _ hb.1 hb.2 (by decide) (by decide)).mono ?_
  rintro e w' ⟨rfl, rfl⟩
  by_cases gb : withinB b 4 = true
  case neg =>
    rw [Bool.not_eq_true] at gb
    rw [gb]
    go_wp2_with fail
    go_ret
    exact ⟨ret_i64 (checkOf_regs H.out (regsOk_b (regOk_no gb))).symm, B1.out.alloc (by omega) _⟩
  rw [gb]
  have pb := Lib.hid (regOk_yes (has := decide (1 < regsOf (shapeOf op))) gb (Or.inl (by rw [G.out]; rfl)))
  clear gb
  go_wp2_with fail
  rw [rounds_succ]
  go_wp2_with fail
  refine (within_any c 4 _ hc.1 hc.2 (by decide) (by decide)).mono ?_
  rintro e w' ⟨rfl, rfl⟩
  by_cases gc : withinB c 4 = true
  case neg =>
    rw [Bool.not_eq_true] at gc
    rw [gc]
    go_wp2_with fail
    go_ret
    exact ⟨ret_i64 (checkOf_regs H.out (regsOk_c (regOk_no gc))).symm, B1.out.alloc (by omega) _⟩
  rw [gc]
  by_cases zc : c = 0
  case neg =>
    have dc : (c != 0) = true := by simpa using zc
    go_wp2_with fail
    go_ret
    exact ⟨ret_i64 (checkOf_regs H.out (regsOk_c (by rw [G.out]; exact regOk_zero zc))).symm, B1.out.alloc (by omega) _⟩
  have dc : (c != 0) = false := by simpa using zc
  have pc := Lib.hid (regOk_yes (has := decide (2 < regsOf (shapeOf op))) gc (Or.inr zc))
  clear zc gc
  go_wp2_with fail
  rw [rounds_succ]
  go_wp2_with fail
  refine (T.out _).mono ?_
  rintro e w2 ⟨rfl, hb2⟩
  have hb : Below w.heap.size w w2 := (B1.out.alloc (by omega) _).trans (hb2.mono (by simp; omega))
  clear hb2
  by_cases gn : immOk (shapeOf op) n = true
  · rw [gn]
    go_wp2
    go_ret
    exact ⟨ret_i64 (checkOf_ok H.out (regsOk_all pa.out pb.out pc.out) gn).symm, hb⟩
  · rw [Bool.not_eq_true] at gn
    rw [gn]
    go_wp2
    go_ret
    exact ⟨ret_i64 (checkOf_imm H.out gn).symm, hb⟩

set_option maxHeartbeats 4000000 in
set_option maxRecDepth 100000 in
theorem check_r3 (op a b c n : Int) (w : World) (hS : ShapesIn w) (ha : I64 a) (hb : I64 b) (hc : I64 c) (hn : I64 n) (h : shapeOf op ≠ -1) (hreg : regsOf (shapeOf op) = 3) :
    Calls Tryd.prog 67 #[instrV op a b c n] w fun e w' => e = .returned (.int .i64 (checkOf op a b c n)) ∧ Below w.heap.size w w' := by
  have hr : fieldsR op = .tuple #[.agg #[.int .i64 3, .int .i64 (bitsOf (shapeOf op)), .bool (signOf (shapeOf op))], .bool true] := by
    unfold fieldsR fieldsV
    rw [hreg]
    simp [h]
  have R := Lib.hid hr
  have T := Lib.hid (fun w => by
    have ht := takes_any (shapeOf op) n w hn.1 hn.2 (by have := shapeOf_range op; omega) (shapeOf_range op).2
    unfold fieldsV at ht
    rw [hreg] at ht
    exact ht)
  have HS := Lib.hid hS
  have H := Lib.hid h
  have G := Lib.hid hreg
  clear h hS hr hreg
  generalize bitsOf (shapeOf op) = bits at R T
  generalize signOf (shapeOf op) = sgn at R T
  have i0 : ∀ w, (Instr.index 110 (.agg #[.int .i64 a, .int .i64 b, .int .i64 c]) (.int .i64 0)).run Tryd.prog w = .ok (.int .i64 a) w := fun w =>
    run_index_arr Tryd.underlying110 Tryd.underlying3 (by kernel_rfl) _ 0 _ (by decide) rfl w
  have i1 : ∀ w, (Instr.index 110 (.agg #[.int .i64 a, .int .i64 b, .int .i64 c]) (.int .i64 1)).run Tryd.prog w = .ok (.int .i64 b) w := fun w =>
    run_index_arr Tryd.underlying110 Tryd.underlying3 (by kernel_rfl) _ 1 _ (by decide) rfl w
  have i2 : ∀ w, (Instr.index 110 (.agg #[.int .i64 a, .int .i64 b, .int .i64 c]) (.int .i64 2)).run Tryd.prog w = .ok (.int .i64 c) w := fun w =>
    run_index_arr Tryd.underlying110 Tryd.underlying3 (by kernel_rfl) _ 2 _ (by decide) rfl w
  unfold instrV
  go_enter Tryd.func67, Tryd.ntmps67
  go_wp2_with fail
  refine (fieldsOf_any _ _ (HS.out.alloc _)).mono ?_
  rintro e w1 ⟨rfl, hb1⟩
  obtain ⟨hk, hf⟩ := kept_cells hb1
  have hz : w.heap.size < w1.heap.size := by have := hb1.size; simp at this; omega
  have B1 := Lib.hid (((Below.refl _ _).alloc (Nat.le_refl _) _).trans (hb1.mono (show w.heap.size ≤ _ by simp)))
  clear hb1
  rw [R.out]
  go_wp2_with fail
  refine wp_loop_rounds 4 ?_
  rw [rounds_succ]
  go_wp2_with fail
  refine (within_any a 4 _ ha.1 ha.2 (by decide) (by decide)).mono ?_
  rintro e w' ⟨rfl, rfl⟩
  by_cases ga : withinB a 4 = true
  case neg =>
    rw [Bool.not_eq_true] at ga
    rw [ga]
    go_wp2_with fail
    go_ret
    exact ⟨ret_i64 (checkOf_regs H.out (regsOk_a (regOk_no ga))).symm, B1.out.alloc (by omega) _⟩
  rw [ga]
  have pa := Lib.hid (regOk_yes (has := decide (0 < regsOf (shapeOf op))) ga (Or.inl (by rw [G.out]; rfl)))
  clear ga
  go_wp2_with fail
  rw [rounds_succ]
  go_wp2_with fail
  refine (within_any b 4 _ hb.1 hb.2 (by decide) (by decide)).mono ?_
  rintro e w' ⟨rfl, rfl⟩
  by_cases gb : withinB b 4 = true
  case neg =>
    rw [Bool.not_eq_true] at gb
    rw [gb]
    go_wp2_with fail
    go_ret
    exact ⟨ret_i64 (checkOf_regs H.out (regsOk_b (regOk_no gb))).symm, B1.out.alloc (by omega) _⟩
  rw [gb]
  have pb := Lib.hid (regOk_yes (has := decide (1 < regsOf (shapeOf op))) gb (Or.inl (by rw [G.out]; rfl)))
  clear gb
  go_wp2_with fail
  rw [rounds_succ]
  go_wp2_with fail
  refine (within_any c 4 _ hc.1 hc.2 (by decide) (by decide)).mono ?_
  rintro e w' ⟨rfl, rfl⟩
  by_cases gc : withinB c 4 = true
  case neg =>
    rw [Bool.not_eq_true] at gc
    rw [gc]
    go_wp2_with fail
    go_ret
    exact ⟨ret_i64 (checkOf_regs H.out (regsOk_c (regOk_no gc))).symm, B1.out.alloc (by omega) _⟩
  rw [gc]
  have pc := Lib.hid (regOk_yes (has := decide (2 < regsOf (shapeOf op))) gc (Or.inl (by rw [G.out]; rfl)))
  clear gc
  go_wp2_with fail
  rw [rounds_succ]
  go_wp2_with fail
  refine (T.out _).mono ?_
  rintro e w2 ⟨rfl, hb2⟩
  have hb : Below w.heap.size w w2 := (B1.out.alloc (by omega) _).trans (hb2.mono (by simp; omega))
  clear hb2
  by_cases gn : immOk (shapeOf op) n = true
  · rw [gn]
    go_wp2
    go_ret
    exact ⟨ret_i64 (checkOf_ok H.out (regsOk_all pa.out pb.out pc.out) gn).symm, hb⟩
  · rw [Bool.not_eq_true] at gn
    rw [gn]
    go_wp2
    go_ret
    exact ⟨ret_i64 (checkOf_imm H.out gn).symm, hb⟩

theorem check_any (op a b c n : Int) (w : World) (hS : ShapesIn w) (ha : I64 a) (hb : I64 b) (hc : I64 c) (hn : I64 n) :
    Calls Tryd.prog 67 #[instrV op a b c n] w fun e w' => e = .returned (.int .i64 (checkOf op a b c n)) ∧ Below w.heap.size w w' := by
  by_cases h : shapeOf op = -1
  · exact check_none op a b c n w hS h
  · rcases (show regsOf (shapeOf op) = 0 ∨ regsOf (shapeOf op) = 1 ∨ regsOf (shapeOf op) = 2 ∨ regsOf (shapeOf op) = 3 by unfold regsOf; omega) with g | g | g | g
    · exact check_r0 op a b c n w hS ha hb hc hn h g
    · exact check_r1 op a b c n w hS ha hb hc hn h g
    · exact check_r2 op a b c n w hS ha hb hc hn h g
    · exact check_r3 op a b c n w hS ha hb hc hn h g
end Go.Proofs.YtcijjmmckofckaaDoor
