/- Emit: Put. -/
import Derived.Test.YtcijjmmckofckaaDoorEmtD
import Derived.StillTailTactics
namespace Go.Proofs.YtcijjmmckofckaaDoor
open Go.ChangeShapes Go.WideShapes Go.ChangeAt Go.RowKit
set_option linter.unusedVariables false
set_option linter.unusedSimpArgs false

abbrev iT : TypeId := 58

theorem putF_len (m : Em) (i : Ins) : m.L.length = (putF m i).L.length := by unfold putF failE; split <;> rfl

theorem putF_L (m : Em) (i : Ins) : m.L = (putF m i).L := by unfold putF failE; split <;> rfl

theorem putF_fx (m : Em) (i : Ins) : m.fx = (putF m i).fx := by unfold putF failE; split <;> rfl

theorem putF_dep (m : Em) (i : Ins) : m.dep = (putF m i).dep := by unfold putF failE; split <;> rfl

theorem putF_most (m : Em) (i : Ins) : m.most = (putF m i).most := by unfold putF failE; split <;> rfl

theorem EmOk.push {m : Em} (h : EmOk m) (hl : m.L.length < 16384) (i : Ins) : EmOk ⟨m.L ++ [putI i], m.fx, m.dep, m.most, m.err⟩ := by
  have := h.put i
  unfold putE at this
  rw [if_pos hl] at this
  exact ⟨this.good, this.len, h.d0, h.dm⟩

theorem putE_no {m m1 : Em} {i : Ins} (M1 : m1 = putF m i) (h : ¬ m1.L.length < 16384) : putE m i = failE m1 242 := by
  subst M1
  unfold putE
  rw [if_neg (by rw [putF_len m i]; exact h)]

theorem putE_yes {m m1 : Em} {i : Ins} (M1 : m1 = putF m i) (h : m1.L.length < 16384) : putE m i = ⟨m1.L ++ [putI i], m1.fx, m1.dep, m1.most, m1.err⟩ := by
  subst M1
  unfold putE
  rw [if_pos (by rw [putF_len m i]; exact h), putF_L m i, putF_fx m i, putF_dep m i, putF_most m i]

theorem encR_ok {i : Ins} (h : chk i = 0) : encR i.op i.a i.b i.c i.n = .tuple #[.int .u32 (wd i), .int .i64 0] := by
  unfold encR encOf wd
  unfold chk at h
  rw [h, if_pos rfl]

theorem encR_bad {i : Ins} (h : chk i ≠ 0) : encR i.op i.a i.b i.c i.n = .tuple #[.int .u32 0, .int .i64 (chk i)] := by
  unfold encR encOf chk
  unfold chk at h
  rw [if_neg h]

set_option maxHeartbeats 16000000 in
set_option maxRecDepth 100000 in
theorem put_any (i : Ins) (hi : I64I i) (B g : Nat) (T : Nat → Prop) (N : Nat) (m : Em) (w : World) (h : CdAt w B g T N m) (hN : N ≤ 100000) :
    Calls Tryd.prog 31 #[.pointer (some ⟨g, 0, none⟩), instrV i.op i.a i.b i.c i.n] w fun e w' => e = .returned (.int .i64 ((putE m i).L.length - 1)) ∧ CdPost w w' B g T N (putE m i) := by
  have hN := Lib.hid hN
  obtain ⟨i0, hi0, hz0, hz1, hz2⟩ := info_parts u4Info
  have BI := Lib.hid ((Below.refl w.heap.size w).alloc (Nat.le_refl _) (.cells #[.int .i64 i.op, .int .i64 i.a, .int .i64 i.b, .int .i64 i.c, .int .i64 i.n] iT))
  have XI := Lib.hid (Whole.made w iT #[.int .i64 i.op, .int .i64 i.a, .int .i64 i.b, .int .i64 i.c, .int .i64 i.n] _ rfl)
  have C0 := Lib.hid (h.below BI.out)
  have hS : ShapesIn w := by obtain ⟨_, _, _, _, _, _, _, _, h0⟩ := h; exact h0.shp
  have EN := Lib.hid (encode_any i.op i.a i.b i.c i.n (w.alloc (.cells #[.int .i64 i.op, .int .i64 i.a, .int .i64 i.b, .int .i64 i.c, .int .i64 i.n] iT)) (hS.alloc _) hi.2.1 hi.2.2.1 hi.2.2.2.1 hi.2.2.2.2)
  have I1 := Lib.hid hi
  clear h hS hi
  have x0 : (w.alloc (.cells #[.int .i64 i.op, .int .i64 i.a, .int .i64 i.b, .int .i64 i.c, .int .i64 i.n] iT)).cell? ⟨w.heap.size, 0, none⟩ = some (.int .i64 i.op) := XI.out.cell 0
  have x1 : (w.alloc (.cells #[.int .i64 i.op, .int .i64 i.a, .int .i64 i.b, .int .i64 i.c, .int .i64 i.n] iT)).cell? ⟨w.heap.size, 1, none⟩ = some (.int .i64 i.a) := XI.out.cell 1
  have x2 : (w.alloc (.cells #[.int .i64 i.op, .int .i64 i.a, .int .i64 i.b, .int .i64 i.c, .int .i64 i.n] iT)).cell? ⟨w.heap.size, 2, none⟩ = some (.int .i64 i.b) := XI.out.cell 2
  have x3 : (w.alloc (.cells #[.int .i64 i.op, .int .i64 i.a, .int .i64 i.b, .int .i64 i.c, .int .i64 i.n] iT)).cell? ⟨w.heap.size, 3, none⟩ = some (.int .i64 i.c) := XI.out.cell 3
  have x4 : (w.alloc (.cells #[.int .i64 i.op, .int .i64 i.a, .int .i64 i.b, .int .i64 i.c, .int .i64 i.n] iT)).cell? ⟨w.heap.size, 4, none⟩ = some (.int .i64 i.n) := XI.out.cell 4
  unfold instrV at *
  by_cases hc : chk i = 0
  case pos =>
    rw [encR_ok hc] at EN
    have M1 := Lib.hid (show m = putF m i from by unfold putF; rw [if_pos hc])
    have WI := Lib.hid (show wd i = wd (putI i) from by unfold putI; rw [if_pos hc])
    rw [WI.out] at EN
    go_enter Tryd.func31, Tryd.ntmps31
    go_wp2_with fail
    generalize (w.alloc (.cells #[.int .i64 i.op, .int .i64 i.a, .int .i64 i.b, .int .i64 i.c, .int .i64 i.n] iT)) = V at *
    refine EN.out.mono ?_
    rintro e y ⟨rfl, hb⟩
    have Y := Lib.hid (C0.out.below hb)
    have K1 := Lib.hid (show KeptS T w y from KeptS.ofBelow (BI.out.trans (hb.mono BI.out.size)))
    have T1O := Lib.hid (show ∀ b, T b → T b ∨ w.heap.size ≤ b from fun b hb => .inl hb)
    have OK1 := Lib.hid (show EmOk m from by obtain ⟨_, _, _, _, _, _, _, _, h0⟩ := Y.out; exact h0.ok)
    clear x0 x1 x2 x3 x4 hb EN C0 XI BI hc
    go_wp2_with fail
    by_cases hr : m.L.length < 16384
    case neg =>
      have dr : decide ((m.L.length : Int) < 16384) = false := decide_eq_false (by omega)
      have PE := Lib.hid (show putE m i = failE m 242 from putE_no M1.out hr)
      have HE := Lib.hid (here_any B g T N m.L.length m y Y.out)
      have FE := Lib.hid (fail_any 242 B g T N m.L.length m y Y.out)
      clear hr
      go_wp2_with fail
      refine HE.out.mono ?_
      rintro e y2 ⟨rfl, rfl⟩
      go_wp2_with fail
      refine FE.out.mono ?_
      rintro e y2 ⟨rfl, T2, hc2, hk2, ht2⟩
      have HE2 := Lib.hid (here_any B g T2 N m.L.length (failE m 242) y2 hc2)
      have R := Lib.hid (show CdPM w y2 B g T N (putE m i).L.length (putE m i) from by rw [PE.out]; exact CdPM.trans K1.out T1O.out ⟨T2, hc2, hk2, ht2⟩)
      have RL := Lib.hid (show (putE m i).L.length = m.L.length from by rw [PE.out]; rfl)
      have LB := Lib.hid OK1.out.len
      have hl0 : m.L.length ≤ 16384 := LB.out
      have HL := Lib.hid (show (failE m 242).L.length = m.L.length from rfl)
      clear hc2 hk2 ht2 HE FE
      rw [HL.out] at HE2
      go_wp2_with fail
      refine HE2.out.mono ?_
      rintro e y3 ⟨rfl, rfl⟩
      go_wp2_with fail
      go_ret
      exact ⟨by rw [RL.out]; rfl, R.out⟩
    case pos =>
      have dr : decide ((m.L.length : Int) < 16384) = true := decide_eq_true (by omega)
      have PE := Lib.hid (show putE m i = ⟨m.L ++ [putI i], m.fx, m.dep, m.most, m.err⟩ from putE_yes M1.out hr)
      have HE := Lib.hid (here_any B g T N m.L.length m y Y.out)
      have GE := Lib.hid (fun y' (hb : Below y.heap.size y y') => guard_any B g T N m.L.length m y' (Y.out.below hb) hN.out)
      go_wp2_with fail
      refine HE.out.mono ?_
      rintro e y2 ⟨rfl, rfl⟩
      go_wp2_with fail
      have D1 := Lib.hid (show Below y.heap.size y y.drew from (Below.refl _ _).drew)
      have HD := Lib.hid (here_any B g T N m.L.length m y.drew (Y.out.below D1.out))
      have GE2 := Lib.hid (GE.out y.drew D1.out)
      clear GE HE
      refine wp_region_noPanic ?_
      refine wp_region_held_drew (S := fun y => True) (by kernel_rfl) True.intro (fun hHeld => ?_)
      refine wpAnyH_take (i := 0) (oi := _) (v := .pointer (some ⟨g, 0, none⟩)) rfl (by kernel_rfl) (by kernel_rfl) (by kernel_rfl) (fun _ _ _ h => h) (Or.inl ⟨by rfl, fun w hSw => by (try dsimp only at hSw); go_simp⟩) (by assumption) ?_
      try simp only [Act.put, List.getElem_toArray, List.getElem_cons_succ, List.getElem_cons_zero, List.setIfInBounds_toArray, List.set_cons_zero, List.set_cons_succ]
      refine wpAnyH_take (i := 1) (oi := _) (v := .pointer (some ⟨g, 0, none⟩)) rfl (by kernel_rfl) (by kernel_rfl) (by kernel_rfl) (fun _ _ _ h => h) (Or.inl ⟨by rfl, fun w hSw => by (try dsimp only at hSw); go_simp⟩) (by assumption) ?_
      try simp only [Act.put, List.getElem_toArray, List.getElem_cons_succ, List.getElem_cons_zero, List.setIfInBounds_toArray, List.set_cons_zero, List.set_cons_succ]
      refine wpAnyH_take (i := 2) (oi := _) (v := .pointer (some ⟨g, 7, none⟩)) rfl (by kernel_rfl) (by kernel_rfl) (by kernel_rfl) (fun _ _ _ h => h) (Or.inl ⟨by rfl, fun w hSw => by (try dsimp only at hSw); go_simp⟩) (by assumption) ?_
      try simp only [Act.put, List.getElem_toArray, List.getElem_cons_succ, List.getElem_cons_zero, List.setIfInBounds_toArray, List.set_cons_zero, List.set_cons_succ]
      refine wpAnyH_take (i := 3) (oi := _) (v := .pointer (some ⟨g, 0, none⟩)) rfl (by kernel_rfl) (by kernel_rfl) (by kernel_rfl) (fun _ _ _ h => h) (Or.inl ⟨by rfl, fun w hSw => by (try dsimp only at hSw); go_simp⟩) (by assumption) ?_
      try simp only [Act.put, List.getElem_toArray, List.getElem_cons_succ, List.getElem_cons_zero, List.setIfInBounds_toArray, List.set_cons_zero, List.set_cons_succ]
      refine wpAnyH_take (i := 5) (oi := _) (v := .pointer (some ⟨g, 0, none⟩)) rfl (by kernel_rfl) (by kernel_rfl) (by kernel_rfl) (fun _ _ _ h => h) (Or.inl ⟨by rfl, fun w hSw => by (try dsimp only at hSw); go_simp⟩) (by assumption) ?_
      try simp only [Act.put, List.getElem_toArray, List.getElem_cons_succ, List.getElem_cons_zero, List.setIfInBounds_toArray, List.set_cons_zero, List.set_cons_succ]
      refine wpAnyH_ready (rs := [4]) (by kernel_rfl) (by simp) (AllReadyH.cons (o := _) rfl (fun K hK => ?_) AllReadyH.nil)
      go_simp
      go_at_call 17
      refine (HD.out).mono ?_
      rintro e y2 ⟨rfl, rfl⟩
      clear HD
      refine hK.out _ _ True.intro (fun hHeld => ?_)
      clear hK K
      try simp only [Act.put, List.getElem_toArray, List.getElem_cons_succ, List.getElem_cons_zero, List.setIfInBounds_toArray, List.set_cons_zero, List.set_cons_succ]
      refine wpAnyH_ready (rs := [6]) (by kernel_rfl) (by simp) (AllReadyH.cons (o := _) rfl (fun K hK => ?_) AllReadyH.nil)
      go_simp
      go_at_call 60
      refine (GE2.out).mono ?_
      rintro e y3 ⟨p, rfl, hb3⟩
      have D3 := Lib.hid (D1.out.trans (hb3.mono D1.out.size))
      have Y3 := Lib.hid (Y.out.below D3.out)
      obtain ⟨vw, vf, vp, vg, vm, ps, gs, ms, h3⟩ := Y3.out
      have B3 := h3.b7
      have hBy : B ≤ y3.heap.size := Nat.le_of_lt (Nat.lt_of_le_of_lt (h3.frm g h3.tg).1 h3.whole.lt)
      have MK := Lib.hid (mark7_any m.L.length p vw vf (.int .i64 m.err) (.int .i64 m.dep) (.int .i64 m.most) vp vg B g vm.ownBlock ms y3 B3 hBy (by have := h3.ml; have := OK1.out.len; omega))
      have H3 := Lib.hid (fun y4 q => h3.mark (w' := y4) (ms' := markP ms m.L.length p) q (mark_len _ _ _))
      clear hb3 GE2 D1 B3 hBy h3
      refine hK.out _ _ True.intro (fun hHeld => ?_)
      clear hK K
      try simp only [Act.put, List.getElem_toArray, List.getElem_cons_succ, List.getElem_cons_zero, List.setIfInBounds_toArray, List.set_cons_zero, List.set_cons_succ]
      refine wpAnyH_ready (rs := [7]) (by kernel_rfl) (by simp) (AllReadyH.cons (o := _) rfl (fun K hK => ?_) AllReadyH.nil)
      go_simp
      go_at_call 57
      refine (MK.out).mono ?_
      rintro e y4 ⟨rfl, hq⟩
      obtain ⟨T4, hc4, hk4, ht4⟩ := H3.out y4 hq
      clear hq MK H3 Y3
      refine hK.out _ _ True.intro (fun hHeld => ?_)
      clear hK K
      try simp only [Act.put, List.getElem_toArray, List.getElem_cons_succ, List.getElem_cons_zero, List.setIfInBounds_toArray, List.set_cons_zero, List.set_cons_succ]
      refine wpAnyH_done (by kernel_rfl) ?_ _
      refine NoPanic.normal ?_
      have K4 := Lib.hid (show KeptS T w y4 from ((K1.out.trans (KeptS.ofBelow D3.out) (fun b (h : False) => h.elim)).trans hk4 (fun b hb => T1O.out b hb)))
      have T4O := Lib.hid (show ∀ b, T4 b → T b ∨ w.heap.size ≤ b from fun b hb => by
        rcases ht4 b hb with h | h
        · exact T1O.out b h
        · exact .inr (Nat.le_trans (Nat.le_trans K1.out.size D3.out.size) h))
      have S4 := Lib.hid (show B ≤ y4.heap.size from by obtain ⟨_, _, _, _, _, _, _, _, h5⟩ := hc4; exact Nat.le_of_lt (Nat.lt_of_le_of_lt (h5.frm g h5.tg).1 h5.whole.lt))
      have C4 := Lib.hid hc4
      clear hc4 hk4 ht4
      -- the word is put behind the others
      have C5 := Lib.hid (C4.out.below ((Below.refl y4.heap.size y4).alloc (Nat.le_refl _) (.cells #[.int .u32 (wd (putI i))] u4T)))
      have BA := Lib.hid ((Below.refl y4.heap.size y4).alloc (Nat.le_refl _) (.cells #[.int .u32 (wd (putI i))] u4T))
      have NB := Lib.hid (cell_one_new y4 (.int .u32 (wd (putI i))) u4T)
      obtain ⟨vw, vf, vp, vg, vm, ps, gs, ms, h5⟩ := C5.out
      have H5 := Lib.hid h5
      obtain ⟨A, c, rfl⟩ := row_form h5.rw
      have O5 := Lib.hid h5.rw
      have N5 := Lib.hid (show (Value.slice A m.L.length c).ownBlock ≠ some g from h5.ne h5.rw (by decide))
      have L5 := Lib.hid h5.ok.len
      have S5 := Lib.hid (show B ≤ (y4.alloc (.cells #[.int .u32 (wd (putI i))] u4T)).heap.size from Nat.le_trans S4.out BA.out.size)
      have z0 : y4.cell? ⟨g, 0, none⟩ = some (.slice A m.L.length c) := by
        have h6 := h5.whole.cell 0
        have h7 : g < y4.heap.size := by obtain ⟨_, _, _, _, _, _, _, _, h4⟩ := C4.out; exact h4.whole.lt
        rw [BA.out.cell (p := ⟨g, 0, none⟩) h7] at h6
        exact h6
      clear h5 C5 C4
      go_wp2_with (first | (at_builtin; refine wpList_append_own_at _ rfl _ _ 33 rfl B u4T i0 _ 1 4 Tryd.underlying33 hi0 hz0 hz1 hz2 rfl (by decide) (.slice A m.L.length c) m.L.length (m.L.flatMap wdC) rfl O5.out ⟨y4.heap.size, 0, none⟩ 1 1 [.int .u32 (wd (putI i))] rfl rfl NB.out (wd_one (putI i)) (by have := L5.out; unfold maxLen; omega) (by have := L5.out; omega) S5.out ?_; intro v3 w3 ho3 hg3 hnl hat; obtain ⟨A', c', rfl⟩ := row_form ho3; have G3 := Lib.hid hg3; have O3 := Lib.hid ho3; have AT := Lib.hid hat; have d0 : w3.cell? ⟨g, 0, none⟩ = some (.slice A m.L.length c) := H5.out.cell3 hg3 N5.out 0; have f0 : w3.frozen? ⟨g, 0, none⟩ = false := H5.out.free3 hg3 N5.out 0; clear ho3 hg3 hat hnl))
      obtain ⟨T6, hc6, hk6, ht6⟩ := H5.out.setWP (L' := m.L ++ [putI i]) G3.out (by rw [List.length_append, List.flatMap_append, List.flatMap_singleton]; exact O3.out) AT.out (OK1.out.push hr i)
      have R := Lib.hid (show CdPM w _ B g T N (putE m i).L.length (putE m i) from by rw [PE.out]; exact (CdPM.trans (K4.out.trans (KeptS.ofBelow BA.out) (fun b (h : False) => h.elim)) T4O.out ⟨T6, hc6, hk6, ht6⟩).more (Nat.le_refl _) (by simp))
      have RL := Lib.hid (show ((putE m i).L.length : Int) = m.L.length + 1 from by rw [PE.out]; simp)
      have HE6 := Lib.hid (here_any B g T6 N (m.L.length + 1) _ _ hc6)
      have ML := Lib.hid (show ((m.L ++ [putI i]).length : Int) = m.L.length + 1 from by simp)
      rw [ML.out] at HE6
      have hl5 : m.L.length ≤ 16384 := L5.out
      clear hc6 hk6 ht6 H5 O5 O3
      go_wp2_with fail
      refine HE6.out.mono ?_
      rintro e y7 ⟨rfl, rfl⟩
      go_wp2_with fail
      go_ret
      exact ⟨by rw [RL.out, Int.add_sub_cancel]; rfl, R.out⟩
  case neg =>
    rw [encR_bad hc] at EN
    have d1 : (chk i != 0) = true := by simpa using hc
    have M1 := Lib.hid (show failE m (chk i) = putF m i from by unfold putF; rw [if_neg hc])
    have WI := Lib.hid (show wd hltI = wd (putI i) from by unfold putI; rw [if_neg hc])
    go_enter Tryd.func31, Tryd.ntmps31
    go_wp2_with fail
    generalize (w.alloc (.cells #[.int .i64 i.op, .int .i64 i.a, .int .i64 i.b, .int .i64 i.c, .int .i64 i.n] iT)) = V at *
    refine EN.out.mono ?_
    rintro e y ⟨rfl, hb⟩
    have YA := Lib.hid (C0.out.below hb)
    have BA := Lib.hid (BI.out.trans (hb.mono BI.out.size))
    have FE := Lib.hid (fail_any (chk i) B g T N m.L.length m y YA.out)
    clear x0 x1 x2 x3 x4 hb EN C0 XI BI hc
    go_wp2_with fail
    refine FE.out.mono ?_
    rintro e y0 ⟨rfl, T1, hc1, hk1, ht1⟩
    have KA := Lib.hid ((show KeptS T w y from KeptS.ofBelow BA.out).trans hk1 (fun b hb => .inl hb))
    have T1O := Lib.hid (show ∀ b, T1 b → T b ∨ w.heap.size ≤ b from fun b hb => by
      rcases ht1 b hb with h | h
      · exact .inl h
      · exact .inr (Nat.le_trans BA.out.size h))
    have C1 := Lib.hid (show CdM y0 B g T1 N (failE m (chk i)).L.length (failE m (chk i)) from hc1)
    have EH := Lib.hid (encode_any 1 0 0 0 0 y0 (by obtain ⟨_, _, _, _, _, _, _, _, h0⟩ := hc1; exact h0.shp) (by unfold I64; omega) (by unfold I64; omega) (by unfold I64; omega) (by unfold I64; omega))
    have EH1 : encR 1 0 0 0 0 = .tuple #[.int .u32 (wd hltI), .int .i64 0] := encR_ok (i := hltI) chk_hlt
    rw [EH1, WI.out] at EH
    clear hc1 hk1 ht1 YA FE BA EH1 d1
    unfold instrV at EH
    generalize failE m (chk i) = m1 at M1 C1
    go_wp2_with fail
    refine EH.out.mono ?_
    rintro e y ⟨rfl, hb⟩
    have Y := Lib.hid (C1.out.below hb)
    have K1 := Lib.hid (KA.out.trans (S' := fun _ => False) (KeptS.ofBelow hb) (fun _ h => h.elim))
    have OK1 := Lib.hid (show EmOk m1 from by obtain ⟨_, _, _, _, _, _, _, _, h0⟩ := Y.out; exact h0.ok)
    clear hb EH C1 KA
    go_wp2_with fail
    by_cases hr : m1.L.length < 16384
    case neg =>
      have dr : decide ((m1.L.length : Int) < 16384) = false := decide_eq_false (by omega)
      have PE := Lib.hid (show putE m i = failE m1 242 from putE_no M1.out hr)
      have HE := Lib.hid (here_any B g T1 N m1.L.length m1 y Y.out)
      have FE := Lib.hid (fail_any 242 B g T1 N m1.L.length m1 y Y.out)
      clear hr
      go_wp2_with fail
      refine HE.out.mono ?_
      rintro e y2 ⟨rfl, rfl⟩
      go_wp2_with fail
      refine FE.out.mono ?_
      rintro e y2 ⟨rfl, T2, hc2, hk2, ht2⟩
      have HE2 := Lib.hid (here_any B g T2 N m1.L.length (failE m1 242) y2 hc2)
      have R := Lib.hid (show CdPM w y2 B g T N (putE m i).L.length (putE m i) from by rw [PE.out]; exact CdPM.trans K1.out T1O.out ⟨T2, hc2, hk2, ht2⟩)
      have RL := Lib.hid (show (putE m i).L.length = m1.L.length from by rw [PE.out]; rfl)
      have LB := Lib.hid OK1.out.len
      have hl0 : m1.L.length ≤ 16384 := LB.out
      have HL := Lib.hid (show (failE m1 242).L.length = m1.L.length from rfl)
      clear hc2 hk2 ht2 HE FE
      rw [HL.out] at HE2
      go_wp2_with fail
      refine HE2.out.mono ?_
      rintro e y3 ⟨rfl, rfl⟩
      go_wp2_with fail
      go_ret
      exact ⟨by rw [RL.out]; rfl, R.out⟩
    case pos =>
      have dr : decide ((m1.L.length : Int) < 16384) = true := decide_eq_true (by omega)
      have PE := Lib.hid (show putE m i = ⟨m1.L ++ [putI i], m1.fx, m1.dep, m1.most, m1.err⟩ from putE_yes M1.out hr)
      have HE := Lib.hid (here_any B g T1 N m1.L.length m1 y Y.out)
      have GE := Lib.hid (fun y' (hb : Below y.heap.size y y') => guard_any B g T1 N m1.L.length m1 y' (Y.out.below hb) hN.out)
      go_wp2_with fail
      refine HE.out.mono ?_
      rintro e y2 ⟨rfl, rfl⟩
      go_wp2_with fail
      have D1 := Lib.hid (show Below y.heap.size y y.drew from (Below.refl _ _).drew)
      have HD := Lib.hid (here_any B g T1 N m1.L.length m1 y.drew (Y.out.below D1.out))
      have GE2 := Lib.hid (GE.out y.drew D1.out)
      clear GE HE
      refine wp_region_noPanic ?_
      refine wp_region_held_drew (S := fun y => True) (by kernel_rfl) True.intro (fun hHeld => ?_)
      refine wpAnyH_take (i := 0) (oi := _) (v := .pointer (some ⟨g, 0, none⟩)) rfl (by kernel_rfl) (by kernel_rfl) (by kernel_rfl) (fun _ _ _ h => h) (Or.inl ⟨by rfl, fun w hSw => by (try dsimp only at hSw); go_simp⟩) (by assumption) ?_
      try simp only [Act.put, List.getElem_toArray, List.getElem_cons_succ, List.getElem_cons_zero, List.setIfInBounds_toArray, List.set_cons_zero, List.set_cons_succ]
      refine wpAnyH_take (i := 1) (oi := _) (v := .pointer (some ⟨g, 0, none⟩)) rfl (by kernel_rfl) (by kernel_rfl) (by kernel_rfl) (fun _ _ _ h => h) (Or.inl ⟨by rfl, fun w hSw => by (try dsimp only at hSw); go_simp⟩) (by assumption) ?_
      try simp only [Act.put, List.getElem_toArray, List.getElem_cons_succ, List.getElem_cons_zero, List.setIfInBounds_toArray, List.set_cons_zero, List.set_cons_succ]
      refine wpAnyH_take (i := 2) (oi := _) (v := .pointer (some ⟨g, 7, none⟩)) rfl (by kernel_rfl) (by kernel_rfl) (by kernel_rfl) (fun _ _ _ h => h) (Or.inl ⟨by rfl, fun w hSw => by (try dsimp only at hSw); go_simp⟩) (by assumption) ?_
      try simp only [Act.put, List.getElem_toArray, List.getElem_cons_succ, List.getElem_cons_zero, List.setIfInBounds_toArray, List.set_cons_zero, List.set_cons_succ]
      refine wpAnyH_take (i := 3) (oi := _) (v := .pointer (some ⟨g, 0, none⟩)) rfl (by kernel_rfl) (by kernel_rfl) (by kernel_rfl) (fun _ _ _ h => h) (Or.inl ⟨by rfl, fun w hSw => by (try dsimp only at hSw); go_simp⟩) (by assumption) ?_
      try simp only [Act.put, List.getElem_toArray, List.getElem_cons_succ, List.getElem_cons_zero, List.setIfInBounds_toArray, List.set_cons_zero, List.set_cons_succ]
      refine wpAnyH_take (i := 5) (oi := _) (v := .pointer (some ⟨g, 0, none⟩)) rfl (by kernel_rfl) (by kernel_rfl) (by kernel_rfl) (fun _ _ _ h => h) (Or.inl ⟨by rfl, fun w hSw => by (try dsimp only at hSw); go_simp⟩) (by assumption) ?_
      try simp only [Act.put, List.getElem_toArray, List.getElem_cons_succ, List.getElem_cons_zero, List.setIfInBounds_toArray, List.set_cons_zero, List.set_cons_succ]
      refine wpAnyH_ready (rs := [4]) (by kernel_rfl) (by simp) (AllReadyH.cons (o := _) rfl (fun K hK => ?_) AllReadyH.nil)
      go_simp
      go_at_call 17
      refine (HD.out).mono ?_
      rintro e y2 ⟨rfl, rfl⟩
      clear HD
      refine hK.out _ _ True.intro (fun hHeld => ?_)
      clear hK K
      try simp only [Act.put, List.getElem_toArray, List.getElem_cons_succ, List.getElem_cons_zero, List.setIfInBounds_toArray, List.set_cons_zero, List.set_cons_succ]
      refine wpAnyH_ready (rs := [6]) (by kernel_rfl) (by simp) (AllReadyH.cons (o := _) rfl (fun K hK => ?_) AllReadyH.nil)
      go_simp
      go_at_call 60
      refine (GE2.out).mono ?_
      rintro e y3 ⟨p, rfl, hb3⟩
      have D3 := Lib.hid (D1.out.trans (hb3.mono D1.out.size))
      have Y3 := Lib.hid (Y.out.below D3.out)
      obtain ⟨vw, vf, vp, vg, vm, ps, gs, ms, h3⟩ := Y3.out
      have B3 := h3.b7
      have hBy : B ≤ y3.heap.size := Nat.le_of_lt (Nat.lt_of_le_of_lt (h3.frm g h3.tg).1 h3.whole.lt)
      have MK := Lib.hid (mark7_any m1.L.length p vw vf (.int .i64 m1.err) (.int .i64 m1.dep) (.int .i64 m1.most) vp vg B g vm.ownBlock ms y3 B3 hBy (by have := h3.ml; have := OK1.out.len; omega))
      have H3 := Lib.hid (fun y4 q => h3.mark (w' := y4) (ms' := markP ms m1.L.length p) q (mark_len _ _ _))
      clear hb3 GE2 D1 B3 hBy h3
      refine hK.out _ _ True.intro (fun hHeld => ?_)
      clear hK K
      try simp only [Act.put, List.getElem_toArray, List.getElem_cons_succ, List.getElem_cons_zero, List.setIfInBounds_toArray, List.set_cons_zero, List.set_cons_succ]
      refine wpAnyH_ready (rs := [7]) (by kernel_rfl) (by simp) (AllReadyH.cons (o := _) rfl (fun K hK => ?_) AllReadyH.nil)
      go_simp
      go_at_call 57
      refine (MK.out).mono ?_
      rintro e y4 ⟨rfl, hq⟩
      obtain ⟨T4, hc4, hk4, ht4⟩ := H3.out y4 hq
      clear hq MK H3 Y3
      refine hK.out _ _ True.intro (fun hHeld => ?_)
      clear hK K
      try simp only [Act.put, List.getElem_toArray, List.getElem_cons_succ, List.getElem_cons_zero, List.setIfInBounds_toArray, List.set_cons_zero, List.set_cons_succ]
      refine wpAnyH_done (by kernel_rfl) ?_ _
      refine NoPanic.normal ?_
      have K4 := Lib.hid (show KeptS T w y4 from ((K1.out.trans (KeptS.ofBelow D3.out) (fun b (h : False) => h.elim)).trans hk4 (fun b hb => T1O.out b hb)))
      have T4O := Lib.hid (show ∀ b, T4 b → T b ∨ w.heap.size ≤ b from fun b hb => by
        rcases ht4 b hb with h | h
        · exact T1O.out b h
        · exact .inr (Nat.le_trans (Nat.le_trans K1.out.size D3.out.size) h))
      have S4 := Lib.hid (show B ≤ y4.heap.size from by obtain ⟨_, _, _, _, _, _, _, _, h5⟩ := hc4; exact Nat.le_of_lt (Nat.lt_of_le_of_lt (h5.frm g h5.tg).1 h5.whole.lt))
      have C4 := Lib.hid hc4
      clear hc4 hk4 ht4
      -- the word is put behind the others
      have C5 := Lib.hid (C4.out.below ((Below.refl y4.heap.size y4).alloc (Nat.le_refl _) (.cells #[.int .u32 (wd (putI i))] u4T)))
      have BA := Lib.hid ((Below.refl y4.heap.size y4).alloc (Nat.le_refl _) (.cells #[.int .u32 (wd (putI i))] u4T))
      have NB := Lib.hid (cell_one_new y4 (.int .u32 (wd (putI i))) u4T)
      obtain ⟨vw, vf, vp, vg, vm, ps, gs, ms, h5⟩ := C5.out
      have H5 := Lib.hid h5
      obtain ⟨A, c, rfl⟩ := row_form h5.rw
      have O5 := Lib.hid h5.rw
      have N5 := Lib.hid (show (Value.slice A m1.L.length c).ownBlock ≠ some g from h5.ne h5.rw (by decide))
      have L5 := Lib.hid h5.ok.len
      have S5 := Lib.hid (show B ≤ (y4.alloc (.cells #[.int .u32 (wd (putI i))] u4T)).heap.size from Nat.le_trans S4.out BA.out.size)
      have z0 : y4.cell? ⟨g, 0, none⟩ = some (.slice A m1.L.length c) := by
        have h6 := h5.whole.cell 0
        have h7 : g < y4.heap.size := by obtain ⟨_, _, _, _, _, _, _, _, h4⟩ := C4.out; exact h4.whole.lt
        rw [BA.out.cell (p := ⟨g, 0, none⟩) h7] at h6
        exact h6
      clear h5 C5 C4
      go_wp2_with (first | (at_builtin; refine wpList_append_own_at _ rfl _ _ 33 rfl B u4T i0 _ 1 4 Tryd.underlying33 hi0 hz0 hz1 hz2 rfl (by decide) (.slice A m1.L.length c) m1.L.length (m1.L.flatMap wdC) rfl O5.out ⟨y4.heap.size, 0, none⟩ 1 1 [.int .u32 (wd (putI i))] rfl rfl NB.out (wd_one (putI i)) (by have := L5.out; unfold maxLen; omega) (by have := L5.out; omega) S5.out ?_; intro v3 w3 ho3 hg3 hnl hat; obtain ⟨A', c', rfl⟩ := row_form ho3; have G3 := Lib.hid hg3; have O3 := Lib.hid ho3; have AT := Lib.hid hat; have d0 : w3.cell? ⟨g, 0, none⟩ = some (.slice A m1.L.length c) := H5.out.cell3 hg3 N5.out 0; have f0 : w3.frozen? ⟨g, 0, none⟩ = false := H5.out.free3 hg3 N5.out 0; clear ho3 hg3 hat hnl))
      obtain ⟨T6, hc6, hk6, ht6⟩ := H5.out.setWP (L' := m1.L ++ [putI i]) G3.out (by rw [List.length_append, List.flatMap_append, List.flatMap_singleton]; exact O3.out) AT.out (OK1.out.push hr i)
      have R := Lib.hid (show CdPM w _ B g T N (putE m i).L.length (putE m i) from by rw [PE.out]; exact (CdPM.trans (K4.out.trans (KeptS.ofBelow BA.out) (fun b (h : False) => h.elim)) T4O.out ⟨T6, hc6, hk6, ht6⟩).more (Nat.le_refl _) (by simp))
      have RL := Lib.hid (show ((putE m i).L.length : Int) = m1.L.length + 1 from by rw [PE.out]; simp)
      have HE6 := Lib.hid (here_any B g T6 N (m1.L.length + 1) _ _ hc6)
      have ML := Lib.hid (show ((m1.L ++ [putI i]).length : Int) = m1.L.length + 1 from by simp)
      rw [ML.out] at HE6
      have hl5 : m1.L.length ≤ 16384 := L5.out
      clear hc6 hk6 ht6 H5 O5 O3
      go_wp2_with fail
      refine HE6.out.mono ?_
      rintro e y7 ⟨rfl, rfl⟩
      go_wp2_with fail
      go_ret
      exact ⟨by rw [RL.out, Int.add_sub_cancel]; rfl, R.out⟩
end Go.Proofs.YtcijjmmckofckaaDoor
