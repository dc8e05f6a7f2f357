/- pascalinelaw15.ObjfileChecks returns true for every object: whether it may be, and what is wrong with it, is what the document's answer says (objects of more than 80 imports, 200 words, 100 fixups or 100 segments, or with a module's name of more than 200 bytes, are let go, as the statement says); the page's example holds; its argument reads behind the call as before. Condition: none. -/
import Derived.Test.YtdakooipelligaaRows
import Derived.Test.YtdakooipelligaaLift
import Derived.Test.YtdakooipelligaaObjH
import Derived.SizedLaws
namespace Go.Proofs.Ytdakooipelligaa.lawObjfileChecks
open Go.ChangeShapes Go.WideShapes Go.ChangeAt Go.RowKit
set_option linter.unusedVariables false
set_option maxHeartbeats 32000000 in
set_option maxRecDepth 100000 in
theorem walk (W : World) (md : ByteArray) (key : Int) (Ai : Option Addr) (im : List Im) (ci : Nat) (Ac : Option Addr) (cd : List Int) (cc : Nat) (Af : Option Addr) (fx : List Fx) (cf : Nat) (As : Option Addr) (sg : List Sg) (cs : Nat) (dt ex bd : Int) (hF : OjIn W md key Ai im ci Ac cd cc Af fx cf As sg cs) :
    Calls Try.prog 3 #[.agg #[.string md, .int .u32 key, .slice Ai im.length ci, .slice Ac cd.length cc, .slice Af fx.length cf, .slice As sg.length cs, .int .i64 dt, .int .i64 ex, .int .i64 bd]] W fun e w' => e = .returned (.bool true) ∧ Below W.heap.size W w' := by
  have B0 := Lib.hid ((Below.refl W.heap.size W).alloc (Nat.le_refl _) (.cells #[.string md, .int .u32 key, .slice Ai im.length ci, .slice Ac cd.length cc, .slice Af fx.length cf, .slice As sg.length cs, .int .i64 dt, .int .i64 ex, .int .i64 bd] oT))
  have X0 := Lib.hid (Whole.made W oT #[.string md, .int .u32 key, .slice Ai im.length ci, .slice Ac cd.length cc, .slice Af fx.length cf, .slice As sg.length cs, .int .i64 dt, .int .i64 ex, .int .i64 bd] _ rfl)
  have HV := Lib.hid hF.v
  have HN := Lib.hid hF.n
  have AW := Lib.hid (awake15_any (W.alloc (.cells #[.string md, .int .u32 key, .slice Ai im.length ci, .slice Ac cd.length cc, .slice Af fx.length cf, .slice As sg.length cs, .int .i64 dt, .int .i64 ex, .int .i64 bd] oT)))
  clear hF
  go_enter Try.func3, Try.ntmps3
  go_wp2_with fail
  refine AW.out.mono ?_
  rintro e V ⟨rfl, hb1⟩
  have B1 := Lib.hid (B0.out.trans (hb1.mono B0.out.size))
  have X1 := Lib.hid (X0.out.below hb1 X0.out.lt)
  clear hb1 AW B0 X0
  go_wp2_with fail
  have BV := Lib.hid (fun y (hy : Below V.heap.size V y) => B1.out.trans (hy.mono B1.out.size))
  have VY := Lib.hid (fun y (hy : Below V.heap.size V y) => HV.out.below (B1.out.trans (hy.mono B1.out.size)))
  generalize hq : W.heap.size = q at *
  have HQ := Lib.hid hq
  clear hq
  have C := Lib.hid (fun y (hy : Below V.heap.size V y) => show (fun y => Below V.heap.size V y ∧ y.cell? ⟨q, 0, none⟩ = some (.string md) ∧ y.cell? ⟨q, 1, none⟩ = some (.int .u32 key) ∧ y.cell? ⟨q, 2, none⟩ = some (.slice Ai im.length ci) ∧ y.cell? ⟨q, 3, none⟩ = some (.slice Ac cd.length cc) ∧ y.cell? ⟨q, 4, none⟩ = some (.slice Af fx.length cf) ∧ y.cell? ⟨q, 5, none⟩ = some (.slice As sg.length cs) ∧ y.cell? ⟨q, 6, none⟩ = some (.int .i64 dt) ∧ y.cell? ⟨q, 7, none⟩ = some (.int .i64 ex) ∧ y.cell? ⟨q, 8, none⟩ = some (.int .i64 bd)) y from ⟨hy, (X1.out.below hy X1.out.lt).cell 0, (X1.out.below hy X1.out.lt).cell 1, (X1.out.below hy X1.out.lt).cell 2, (X1.out.below hy X1.out.lt).cell 3, (X1.out.below hy X1.out.lt).cell 4, (X1.out.below hy X1.out.lt).cell 5, (X1.out.below hy X1.out.lt).cell 6, (X1.out.below hy X1.out.lt).cell 7, (X1.out.below hy X1.out.lt).cell 8⟩)
  have L0 := C.out V.drew (Below.refl _ _).drew
  have SL := Lib.hid (show ∀ y, (fun y => Below V.heap.size V y ∧ y.cell? ⟨q, 0, none⟩ = some (.string md) ∧ y.cell? ⟨q, 1, none⟩ = some (.int .u32 key) ∧ y.cell? ⟨q, 2, none⟩ = some (.slice Ai im.length ci) ∧ y.cell? ⟨q, 3, none⟩ = some (.slice Ac cd.length cc) ∧ y.cell? ⟨q, 4, none⟩ = some (.slice Af fx.length cf) ∧ y.cell? ⟨q, 5, none⟩ = some (.slice As sg.length cs) ∧ y.cell? ⟨q, 6, none⟩ = some (.int .i64 dt) ∧ y.cell? ⟨q, 7, none⟩ = some (.int .i64 ex) ∧ y.cell? ⟨q, 8, none⟩ = some (.int .i64 bd)) y → Calls Try.prog 6 #[.agg #[.string md, .int .u32 key, .slice Ai im.length ci, .slice Ac cd.length cc, .slice Af fx.length cf, .slice As sg.length cs, .int .i64 dt, .int .i64 ex, .int .i64 bd]] y (fun e y' => e = .returned (.bool (decide (smO md im cd fx sg))) ∧ (fun y => Below V.heap.size V y ∧ y.cell? ⟨q, 0, none⟩ = some (.string md) ∧ y.cell? ⟨q, 1, none⟩ = some (.int .u32 key) ∧ y.cell? ⟨q, 2, none⟩ = some (.slice Ai im.length ci) ∧ y.cell? ⟨q, 3, none⟩ = some (.slice Ac cd.length cc) ∧ y.cell? ⟨q, 4, none⟩ = some (.slice Af fx.length cf) ∧ y.cell? ⟨q, 5, none⟩ = some (.slice As sg.length cs) ∧ y.cell? ⟨q, 6, none⟩ = some (.int .i64 dt) ∧ y.cell? ⟨q, 7, none⟩ = some (.int .i64 ex) ∧ y.cell? ⟨q, 8, none⟩ = some (.int .i64 bd)) y') from fun y hy => (small15_any md key Ai im ci Ac cd cc Af fx cf As sg cs dt ex bd y HN.out).mono (fun e y' h => ⟨h.1, C.out y' (hy.1.trans (h.2.mono hy.1.size))⟩))
  have CA := Lib.hid (show ∀ y, (fun y => Below V.heap.size V y ∧ y.cell? ⟨q, 0, none⟩ = some (.string md) ∧ y.cell? ⟨q, 1, none⟩ = some (.int .u32 key) ∧ y.cell? ⟨q, 2, none⟩ = some (.slice Ai im.length ci) ∧ y.cell? ⟨q, 3, none⟩ = some (.slice Ac cd.length cc) ∧ y.cell? ⟨q, 4, none⟩ = some (.slice Af fx.length cf) ∧ y.cell? ⟨q, 5, none⟩ = some (.slice As sg.length cs) ∧ y.cell? ⟨q, 6, none⟩ = some (.int .i64 dt) ∧ y.cell? ⟨q, 7, none⟩ = some (.int .i64 ex) ∧ y.cell? ⟨q, 8, none⟩ = some (.int .i64 bd)) y → Calls Try.prog 7 #[.agg #[.string md, .int .u32 key, .slice Ai im.length ci, .slice Ac cd.length cc, .slice Af fx.length cf, .slice As sg.length cs, .int .i64 dt, .int .i64 ex, .int .i64 bd]] y (fun e y' => e = .returned (.int .i64 (checkO ⟨md, key, im, cd, fx, sg, dt, ex, bd⟩)) ∧ (fun y => Below V.heap.size V y ∧ y.cell? ⟨q, 0, none⟩ = some (.string md) ∧ y.cell? ⟨q, 1, none⟩ = some (.int .u32 key) ∧ y.cell? ⟨q, 2, none⟩ = some (.slice Ai im.length ci) ∧ y.cell? ⟨q, 3, none⟩ = some (.slice Ac cd.length cc) ∧ y.cell? ⟨q, 4, none⟩ = some (.slice Af fx.length cf) ∧ y.cell? ⟨q, 5, none⟩ = some (.slice As sg.length cs) ∧ y.cell? ⟨q, 6, none⟩ = some (.int .i64 dt) ∧ y.cell? ⟨q, 7, none⟩ = some (.int .i64 ex) ∧ y.cell? ⟨q, 8, none⟩ = some (.int .i64 bd)) y') from fun y hy => (ocheck_any md key Ai im ci Ac cd cc Af fx cf As sg cs dt ex bd _ y (VY.out y hy.1) HN.out).mono (fun e y' h => ⟨h.1, C.out y' (hy.1.trans (h.2.mono hy.1.size))⟩))
  have CR := Lib.hid (show ∀ y, (fun y => Below V.heap.size V y ∧ y.cell? ⟨q, 0, none⟩ = some (.string md) ∧ y.cell? ⟨q, 1, none⟩ = some (.int .u32 key) ∧ y.cell? ⟨q, 2, none⟩ = some (.slice Ai im.length ci) ∧ y.cell? ⟨q, 3, none⟩ = some (.slice Ac cd.length cc) ∧ y.cell? ⟨q, 4, none⟩ = some (.slice Af fx.length cf) ∧ y.cell? ⟨q, 5, none⟩ = some (.slice As sg.length cs) ∧ y.cell? ⟨q, 6, none⟩ = some (.int .i64 dt) ∧ y.cell? ⟨q, 7, none⟩ = some (.int .i64 ex) ∧ y.cell? ⟨q, 8, none⟩ = some (.int .i64 bd)) y → Calls Try.prog 8 #[.agg #[.string md, .int .u32 key, .slice Ai im.length ci, .slice Ac cd.length cc, .slice Af fx.length cf, .slice As sg.length cs, .int .i64 dt, .int .i64 ex, .int .i64 bd]] y (fun e y' => e = .returned (.int .i64 (checkO ⟨md, key, im, cd, fx, sg, dt, ex, bd⟩)) ∧ (fun y => Below V.heap.size V y ∧ y.cell? ⟨q, 0, none⟩ = some (.string md) ∧ y.cell? ⟨q, 1, none⟩ = some (.int .u32 key) ∧ y.cell? ⟨q, 2, none⟩ = some (.slice Ai im.length ci) ∧ y.cell? ⟨q, 3, none⟩ = some (.slice Ac cd.length cc) ∧ y.cell? ⟨q, 4, none⟩ = some (.slice Af fx.length cf) ∧ y.cell? ⟨q, 5, none⟩ = some (.slice As sg.length cs) ∧ y.cell? ⟨q, 6, none⟩ = some (.int .i64 dt) ∧ y.cell? ⟨q, 7, none⟩ = some (.int .i64 ex) ∧ y.cell? ⟨q, 8, none⟩ = some (.int .i64 bd)) y') from fun y hy => (orefcheck_any md key Ai im ci Ac cd cc Af fx cf As sg cs dt ex bd _ y (VY.out y hy.1) HN.out).mono (fun e y' h => ⟨h.1, C.out y' (hy.1.trans (h.2.mono hy.1.size))⟩))
  have RF := Lib.hid (show ∀ y, (fun y => Below V.heap.size V y ∧ y.cell? ⟨q, 0, none⟩ = some (.string md) ∧ y.cell? ⟨q, 1, none⟩ = some (.int .u32 key) ∧ y.cell? ⟨q, 2, none⟩ = some (.slice Ai im.length ci) ∧ y.cell? ⟨q, 3, none⟩ = some (.slice Ac cd.length cc) ∧ y.cell? ⟨q, 4, none⟩ = some (.slice Af fx.length cf) ∧ y.cell? ⟨q, 5, none⟩ = some (.slice As sg.length cs) ∧ y.cell? ⟨q, 6, none⟩ = some (.int .i64 dt) ∧ y.cell? ⟨q, 7, none⟩ = some (.int .i64 ex) ∧ y.cell? ⟨q, 8, none⟩ = some (.int .i64 bd)) y → Calls Try.prog 9 #[.agg #[.string md, .int .u32 key, .slice Ai im.length ci, .slice Ac cd.length cc, .slice Af fx.length cf, .slice As sg.length cs, .int .i64 dt, .int .i64 ex, .int .i64 bd]] y (fun e y' => e = .returned (.agg #[.string md, .int .u32 key, .slice Ai im.length ci, .slice Ac cd.length cc, .slice Af fx.length cf, .slice As sg.length cs, .int .i64 dt, .int .i64 ex, .int .i64 bd]) ∧ (fun y => Below V.heap.size V y ∧ y.cell? ⟨q, 0, none⟩ = some (.string md) ∧ y.cell? ⟨q, 1, none⟩ = some (.int .u32 key) ∧ y.cell? ⟨q, 2, none⟩ = some (.slice Ai im.length ci) ∧ y.cell? ⟨q, 3, none⟩ = some (.slice Ac cd.length cc) ∧ y.cell? ⟨q, 4, none⟩ = some (.slice Af fx.length cf) ∧ y.cell? ⟨q, 5, none⟩ = some (.slice As sg.length cs) ∧ y.cell? ⟨q, 6, none⟩ = some (.int .i64 dt) ∧ y.cell? ⟨q, 7, none⟩ = some (.int .i64 ex) ∧ y.cell? ⟨q, 8, none⟩ = some (.int .i64 bd)) y') from fun y hy => (ref15_any md key Ai im ci Ac cd cc Af fx cf As sg cs dt ex bd y).mono (fun e y' h => ⟨h.1, C.out y' (hy.1.trans (h.2.mono hy.1.size))⟩))
  generalize checkO ⟨md, key, im, cd, fx, sg, dt, ex, bd⟩ = m at *
  have dm : (m == m) = true := by simp
  clear HV HN VY
  by_cases hs : smO md im cd fx sg
  · rw [decide_eq_true hs] at SL
    clear hs
    go_region_held3 (fun y => Below V.heap.size V y ∧ y.cell? ⟨q, 0, none⟩ = some (.string md) ∧ y.cell? ⟨q, 1, none⟩ = some (.int .u32 key) ∧ y.cell? ⟨q, 2, none⟩ = some (.slice Ai im.length ci) ∧ y.cell? ⟨q, 3, none⟩ = some (.slice Ac cd.length cc) ∧ y.cell? ⟨q, 4, none⟩ = some (.slice Af fx.length cf) ∧ y.cell? ⟨q, 5, none⟩ = some (.slice As sg.length cs) ∧ y.cell? ⟨q, 6, none⟩ = some (.int .i64 dt) ∧ y.cell? ⟨q, 7, none⟩ = some (.int .i64 ex) ∧ y.cell? ⟨q, 8, none⟩ = some (.int .i64 bd))
      (first
        | with_reducible assumption
        | with_reducible exact L0
        | fail)
      (first
        | (go_at_call 6; refine (SL.out _ (by assumption)).mono ?_; rintro e y0 ⟨rfl, hs0⟩)
        | (go_at_call 7; refine (CA.out _ (by assumption)).mono ?_; rintro e y1 ⟨rfl, hs1⟩)
        | (go_at_call 9; refine (RF.out _ (by assumption)).mono ?_; rintro e y2 ⟨rfl, hs2⟩)
        | (go_at_call 8; refine (CR.out _ (by assumption)).mono ?_; rintro e y3 ⟨rfl, hs3⟩))
    all_goals
      rename_i hH
      have BH := Lib.hid (BV.out _ hH.1)
      clear hH L0 C CA CR RF SL
      go_wp2_with fail
      go_ret
      exact ⟨rfl, by rw [HQ.out]; exact BH.out⟩
  · rw [decide_eq_false hs] at SL
    clear hs CA CR RF
    refine wp_region_noPanic ?_
    refine wp_region_held_drew (S := fun y => Below V.heap.size V y ∧ y.cell? ⟨q, 0, none⟩ = some (.string md) ∧ y.cell? ⟨q, 1, none⟩ = some (.int .u32 key) ∧ y.cell? ⟨q, 2, none⟩ = some (.slice Ai im.length ci) ∧ y.cell? ⟨q, 3, none⟩ = some (.slice Ac cd.length cc) ∧ y.cell? ⟨q, 4, none⟩ = some (.slice Af fx.length cf) ∧ y.cell? ⟨q, 5, none⟩ = some (.slice As sg.length cs) ∧ y.cell? ⟨q, 6, none⟩ = some (.int .i64 dt) ∧ y.cell? ⟨q, 7, none⟩ = some (.int .i64 ex) ∧ y.cell? ⟨q, 8, none⟩ = some (.int .i64 bd)) (by kernel_rfl) L0 (fun hHeld => ?_)
    refine wpAnyH_take (i := 0) (oi := _) (v := .agg #[.string md, .int .u32 key, .slice Ai im.length ci, .slice Ac cd.length cc, .slice Af fx.length cf, .slice As sg.length cs, .int .i64 dt, .int .i64 ex, .int .i64 bd]) rfl (by kernel_rfl) (by kernel_rfl) (by kernel_rfl) (fun _ _ _ h => h) (Or.inl ⟨by rfl, fun w hSw => by (try dsimp only at hSw); go_simp⟩) (by assumption) ?_
    try simp only [Act.put, List.getElem_toArray, List.getElem_cons_succ, List.getElem_cons_zero, List.setIfInBounds_toArray, List.set_cons_zero, List.set_cons_succ]
    refine wpAnyH_ready (rs := [1]) (by kernel_rfl) (by simp) (AllReadyH.cons (o := _) rfl (fun K hK => ?_) AllReadyH.nil)
    go_simp
    go_at_call 6
    refine (SL.out _ L0).mono ?_
    rintro e y1 ⟨rfl, hs1⟩
    have BH := Lib.hid (BV.out _ hs1.1)
    refine hK.out _ _ hs1 (fun hHeld => ?_)
    clear hK K
    try simp only [Act.put, List.getElem_toArray, List.getElem_cons_succ, List.getElem_cons_zero, List.setIfInBounds_toArray, List.set_cons_zero, List.set_cons_succ]
    refine wpAnyH_take (i := 2) (oi := _) (v := .bool true) rfl (by kernel_rfl) (by kernel_rfl) (by kernel_rfl) (fun _ _ _ h => h) (Or.inl ⟨by rfl, fun w hSw => by (try dsimp only at hSw); go_simp⟩) (by assumption) ?_
    try simp only [Act.put, List.getElem_toArray, List.getElem_cons_succ, List.getElem_cons_zero, List.setIfInBounds_toArray, List.set_cons_zero, List.set_cons_succ]
    refine wpAnyH_take (i := 3) (oi := _) (v := .bool true) rfl (by kernel_rfl) (by kernel_rfl) (by kernel_rfl) (fun _ _ _ h => h) (Or.inl ⟨by rfl, fun w hSw => by (try dsimp only at hSw); go_simp⟩) (by assumption) ?_
    try simp only [Act.put, List.getElem_toArray, List.getElem_cons_succ, List.getElem_cons_zero, List.setIfInBounds_toArray, List.set_cons_zero, List.set_cons_succ]
    refine wpAnyH_take (i := 4) (oi := _) (v := undef) rfl (by kernel_rfl) (by kernel_rfl) (by kernel_rfl) (fun _ _ _ h => h) (Or.inr ⟨by rfl, rfl⟩) (by assumption) ?_
    try simp only [Act.put, List.getElem_toArray, List.getElem_cons_succ, List.getElem_cons_zero, List.setIfInBounds_toArray, List.set_cons_zero, List.set_cons_succ]
    refine wpAnyH_take (i := 5) (oi := _) (v := undef) rfl (by kernel_rfl) (by kernel_rfl) (by kernel_rfl) (fun _ _ _ h => h) (Or.inr ⟨by rfl, rfl⟩) (by assumption) ?_
    try simp only [Act.put, List.getElem_toArray, List.getElem_cons_succ, List.getElem_cons_zero, List.setIfInBounds_toArray, List.set_cons_zero, List.set_cons_succ]
    refine wpAnyH_take (i := 6) (oi := _) (v := undef) rfl (by kernel_rfl) (by kernel_rfl) (by kernel_rfl) (fun _ _ _ h => h) (Or.inr ⟨by rfl, rfl⟩) (by assumption) ?_
    try simp only [Act.put, List.getElem_toArray, List.getElem_cons_succ, List.getElem_cons_zero, List.setIfInBounds_toArray, List.set_cons_zero, List.set_cons_succ]
    refine wpAnyH_take (i := 7) (oi := _) (v := undef) rfl (by kernel_rfl) (by kernel_rfl) (by kernel_rfl) (fun _ _ _ h => h) (Or.inr ⟨by rfl, rfl⟩) (by assumption) ?_
    try simp only [Act.put, List.getElem_toArray, List.getElem_cons_succ, List.getElem_cons_zero, List.setIfInBounds_toArray, List.set_cons_zero, List.set_cons_succ]
    refine wpAnyH_take (i := 8) (oi := _) (v := undef) rfl (by kernel_rfl) (by kernel_rfl) (by kernel_rfl) (fun _ _ _ h => h) (Or.inr ⟨by rfl, rfl⟩) (by assumption) ?_
    try simp only [Act.put, List.getElem_toArray, List.getElem_cons_succ, List.getElem_cons_zero, List.setIfInBounds_toArray, List.set_cons_zero, List.set_cons_succ]
    refine wpAnyH_take (i := 9) (oi := _) (v := undef) rfl (by kernel_rfl) (by kernel_rfl) (by kernel_rfl) (fun _ _ _ h => h) (Or.inr ⟨by rfl, rfl⟩) (by assumption) ?_
    try simp only [Act.put, List.getElem_toArray, List.getElem_cons_succ, List.getElem_cons_zero, List.setIfInBounds_toArray, List.set_cons_zero, List.set_cons_succ]
    refine wpAnyH_take (i := 10) (oi := _) (v := .bool true) rfl (by kernel_rfl) (by kernel_rfl) (by kernel_rfl) (fun _ _ _ h => h) (Or.inl ⟨by rfl, fun w hSw => by (try dsimp only at hSw); go_simp⟩) (by assumption) ?_
    try simp only [Act.put, List.getElem_toArray, List.getElem_cons_succ, List.getElem_cons_zero, List.setIfInBounds_toArray, List.set_cons_zero, List.set_cons_succ]
    refine wpAnyH_ready (rs := [11]) (by kernel_rfl) (by simp) (AllReadyH.cons (o := _) rfl (fun K hK => ?_) AllReadyH.nil)
    go_simp
    refine hK.out _ _ hs1 (fun hHeld => ?_)
    clear hK K
    try simp only [Act.put, List.getElem_toArray, List.getElem_cons_succ, List.getElem_cons_zero, List.setIfInBounds_toArray, List.set_cons_zero, List.set_cons_succ]
    refine wpAnyH_done (by kernel_rfl) ?_ _
    refine NoPanic.normal ?_
    clear L0 C SL hs1
    go_wp2_with fail
    go_ret
    exact ⟨rfl, by rw [HQ.out]; exact BH.out⟩

set_option maxRecDepth 100000 in
theorem lifted (os : Os) (started : os.Started) (H : Type) (enc : TypeId × Value → H) :
    ReturnsInHanded {} Try.checked os 3 .any (Rows.objfileChecksSpec.pre6 enc Try.prog Try.f3 Rows.objfileChecksRow.domain false) (Rows.objfileChecksSpec.post enc Try.prog Try.f3 false true false false) := by
  refine returnsInHanded_of_change_sized (C := Try.checked) Try.own started (by kernel_rfl) Try.func3
    (ChangeSpec.witness6 (enc := enc) (C := Try.checked) false ⟨#[], #[.agg #[.string ⟨#[]⟩, .int .u32 0, .slice none 0 0, .slice none 0 0, .slice none 0 0, .slice none 0 0, .int .i64 0, .int .i64 0, .int .i64 0]], []⟩ 8 (by kernel_rfl) (by kernel_rfl) (by kernel_rfl) (by kernel_rfl)) ?_
  intro W base args ds gs before hval0 hW hcnd hsz _
  have hval : ∀ (j : Nat) t v, Try.f3.params[j]? = some t → args[j]? = some v → Value.okWide Try.prog W .any base t v := hval0
  have hW' := hW
  obtain ⟨p, q, hA0, hV, rfl, hfz, hnd⟩ := hW
  have hA : DataW.TrodAll enc Try.prog W 0 (fun _ => true) true Try.f3.params.toList args.toList ds p := hA0
  rw [Try.params3] at hA hval
  obtain ⟨v0, vs0, d0, ds0, p0, q0, hargs, rfl, rfl, h0, r0⟩ := trodAll_cons hA
  obtain ⟨rfl, rfl, rfl⟩ := trodAll_nil r0
  obtain rfl : args = #[v0] := by cases args; simp_all
  clear hA0 hval0
  obtain ⟨md0, key0, Ai0, im0, ci0, Ac0, cd0, cc0, Af0, fx0, cf0, As0, sg0, cs0, dt0, ex0, bd0, rfl, hF0⟩ := open_object (hval 0 28 v0 rfl rfl) h0 (fun k hk => Nat.le_trans (of_decide_eq_true (List.all_eq_true.1 hsz _ (DataW.weights_mem_each (j := 0) (t := 28) rfl rfl _ hk))) (by decide))
  refine (walk W md0 key0 Ai0 im0 ci0 Ac0 cd0 cc0 Af0 fx0 cf0 As0 sg0 cs0 dt0 ex0 bd0 hF0).mono fun e W' ⟨he, hg⟩ => ?_
  subst he
  exact ⟨_, rfl, law_post Try.laidOut Try.mapsRowed Try.slicesFull (by kernel_rfl) rfl (by kernel_rfl) Try.underlying4 rfl hW' hg⟩

theorem over : Rows.objfileChecksRow.holds Try.pinned (OpenSpec.ofChange Rows.objfileChecksSpec) :=
  OpenClaim.holds_of_wide 3 Try.f3 rfl rfl rfl rfl rfl rfl rfl ⟨rfl, rfl, rfl, rfl, rfl⟩ rfl rfl rfl rfl rfl (by kernel_rfl) Try.func3 (by kernel_rfl)
    (of_decide_eq_true (by kernel_rfl)) (by unfold Func.isWrapper; first | (rw [if_pos (by decide +kernel)]; kernel_rfl) | (rw [if_neg (by decide +kernel)]; exact ⟨rfl, rfl⟩))
    (fun os started H enc _ => lifted os started H enc)

theorem proved : Rows.ObjfileChecksSaid :=
  over
end Go.Proofs.Ytdakooipelligaa.lawObjfileChecks
