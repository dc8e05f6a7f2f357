/- Emit: the answers' Fix. -/
import Derived.Test.YtcijjmmckofckaaDoorEmtS
namespace Go.Proofs.YtcijjmmckofckaaDoor
open Go.ChangeShapes Go.WideShapes Go.ChangeAt Go.RowKit
set_option linter.unusedVariables false
set_option linter.unusedSimpArgs false

set_option maxHeartbeats 16000000 in
set_option maxRecDepth 100000 in
theorem reffix_call (kd md vl a : Int) (T : Nat → Prop) (N : Nat) (m : Em) (AL : Option Addr) (cL : Nat) (AG : Option Addr) (cG : Nat) (AF : Option Addr) (cF : Nat) (AP : Option Addr) (cP : Nat) (AA : Option Addr) (cA : Nat) (gl pl al : List Int) (w : World) (h : RfR w T N m AL cL AG cG AF cF AP cP AA cA gl pl al) (hT : ∀ b, T b → b < w.heap.size) (hN : N + 1 ≤ 100000) (hk : kd = 3) :
    Calls Tryd.prog 50 #[.agg #[.slice AL m.L.length cL, .slice AG gl.length cG, .slice AF m.fx.length cF, .slice AP pl.length cP, .slice AA al.length cA, .int .i64 m.dep, .int .i64 m.most, .int .i64 m.err], .int .i64 kd, .int .i64 md, .int .i64 vl, .int .i64 a] w (RfP T (N + 1) w (fixE m kd md vl a)) := by
  have b1 := (Below.refl w.heap.size w).alloc (Nat.le_refl _) (.cells #[.slice AL m.L.length cL, .slice AG gl.length cG, .slice AF m.fx.length cF, .slice AP pl.length cP, .slice AA al.length cA, .int .i64 m.dep, .int .i64 m.most, .int .i64 m.err] rfT)
  have BX := Lib.hid (show Bx2 w ((w.alloc (.cells #[.slice AL m.L.length cL, .slice AG gl.length cG, .slice AF m.fx.length cF, .slice AP pl.length cP, .slice AA al.length cA, .int .i64 m.dep, .int .i64 m.most, .int .i64 m.err] rfT)).alloc (.cells #[.slice none 0 0, .slice none 0 0, .slice none 0 0, .slice none 0 0, .slice none 0 0, .int .i64 0, .int .i64 0, .int .i64 0] rfT)) rfT rfT #[.slice AL m.L.length cL, .slice AG gl.length cG, .slice AF m.fx.length cF, .slice AP pl.length cP, .slice AA al.length cA, .int .i64 m.dep, .int .i64 m.most, .int .i64 m.err] #[.slice none 0 0, .slice none 0 0, .slice none 0 0, .slice none 0 0, .slice none 0 0, .int .i64 0, .int .i64 0, .int .i64 0] from ⟨b1.alloc b1.size (.cells #[.slice none 0 0, .slice none 0 0, .slice none 0 0, .slice none 0 0, .slice none 0 0, .int .i64 0, .int .i64 0, .int .i64 0] rfT), (Whole.made w rfT #[.slice AL m.L.length cL, .slice AG gl.length cG, .slice AF m.fx.length cF, .slice AP pl.length cP, .slice AA al.length cA, .int .i64 m.dep, .int .i64 m.most, .int .i64 m.err] _ rfl).alloc _, Whole.made (w.alloc (.cells #[.slice AL m.L.length cL, .slice AG gl.length cG, .slice AF m.fx.length cF, .slice AP pl.length cP, .slice AA al.length cA, .int .i64 m.dep, .int .i64 m.most, .int .i64 m.err] rfT)) rfT #[.slice none 0 0, .slice none 0 0, .slice none 0 0, .slice none 0 0, .slice none 0 0, .int .i64 0, .int .i64 0, .int .i64 0] _ (by simp)⟩)
  have HR := Lib.hid ((h.boxed 2).below BX.out.b)
  have HN := Lib.hid hN
  have HT := Lib.hid (show ∀ b, (fun b => T b ∨ (w.heap.size ≤ b ∧ b < w.heap.size + 2)) b → b < ((w.alloc (.cells #[.slice AL m.L.length cL, .slice AG gl.length cG, .slice AF m.fx.length cF, .slice AP pl.length cP, .slice AA al.length cA, .int .i64 m.dep, .int .i64 m.most, .int .i64 m.err] rfT)).alloc (.cells #[.slice none 0 0, .slice none 0 0, .slice none 0 0, .slice none 0 0, .slice none 0 0, .int .i64 0, .int .i64 0, .int .i64 0] rfT)).heap.size from fun b hb => by
    have h1 := BX.out.x1.lt
    rcases hb with hb | hb
    · have := hT b hb
      omega
    · omega)
  have S8 : (Tryd.prog.info? rfT).map (·.size) = some 8 := by kernel_rfl
  clear h hT hN b1
  have HK := Lib.hid hk
  have dk : (kd == 3) = true := beq_iff_eq.2 hk
  have FL := Lib.hid (show (fixA m kd md vl).fx.length = m.fx.length + 1 from by simp only [fixA, List.length_append, List.length_singleton])
  clear hk
  go_enter Tryd.func50, Tryd.ntmps50
  go_wp2_with fail
  generalize hV : ((w.alloc (.cells #[.slice AL m.L.length cL, .slice AG gl.length cG, .slice AF m.fx.length cF, .slice AP pl.length cP, .slice AA al.length cA, .int .i64 m.dep, .int .i64 m.most, .int .i64 m.err] rfT)).alloc (.cells #[.slice none 0 0, .slice none 0 0, .slice none 0 0, .slice none 0 0, .slice none 0 0, .int .i64 0, .int .i64 0, .int .i64 0] rfT)) = V at *
  clear hV
  have BX := Lib.hid (BX.out.below (Below.refl _ _).drew)
  have HR := Lib.hid (HR.out.below (Below.refl _ _).drew)
  have hTy := Lib.hid (show ∀ b, (fun b => T b ∨ (w.heap.size ≤ b ∧ b < w.heap.size + 2)) b → b < V.drew.heap.size from HT.out)
  clear HT
  obtain ⟨y, hy⟩ : ∃ y, y = V.drew := ⟨_, rfl⟩
  rw [← hy] at BX HR hTy
  have BY := Lib.hid (Below.refl y.heap.size y)
  have L0 : V.drew.cell? ⟨w.heap.size, 0, none⟩ = some (.slice AL m.L.length cL) ∧ V.drew.cell? ⟨w.heap.size, 2, none⟩ = some (.slice AF m.fx.length cF) := by rw [← hy]; exact ⟨(BX.out.below BY.out).x0.cell 0, (BX.out.below BY.out).x0.cell 2⟩
  obtain ⟨i0, hi0, hz0, hz1, hz2⟩ := info_parts fxInfo
  refine wp_region_noPanic ?_
  refine region_T (S := fun y => y.cell? ⟨w.heap.size, 0, none⟩ = some (.slice AL m.L.length cL) ∧ y.cell? ⟨w.heap.size, 2, none⟩ = some (.slice AF m.fx.length cF)) 14 (by kernel_rfl) L0 (fun hHeld => ?_)
  rw [← hy] at hHeld ⊢
  clear L0 hy
  refine anyT_take (i := 1) (oi := _) (v := .pointer (some ⟨w.heap.size, 2, none⟩)) rfl (by kernel_rfl) (by kernel_rfl) (by kernel_rfl) (by kernel_rfl) (fun _ _ _ h => h) (Or.inl ⟨by rfl, fun w hSw => by (try dsimp only at hSw); go_simp⟩) (by assumption) ?_
  try simp only [Act.put, List.setIfInBounds_toArray, List.set_cons_zero, List.set_cons_succ]
  refine anyT_take (i := 2) (oi := _) (v := .slice AF m.fx.length cF) rfl (by kernel_rfl) (by kernel_rfl) (by kernel_rfl) (by kernel_rfl) (fun _ _ _ h => h) (Or.inl ⟨by rfl, fun w hSw => by (try dsimp only at hSw); go_simp⟩) (by assumption) ?_
  try simp only [Act.put, List.setIfInBounds_toArray, List.set_cons_zero, List.set_cons_succ]
  refine anyT_take (i := 4) (oi := _) (v := .pointer (some ⟨w.heap.size, 0, none⟩)) rfl (by kernel_rfl) (by kernel_rfl) (by kernel_rfl) (by kernel_rfl) (fun _ _ _ h => h) (Or.inl ⟨by rfl, fun w hSw => by (try dsimp only at hSw); go_simp⟩) (by assumption) ?_
  try simp only [Act.put, List.setIfInBounds_toArray, List.set_cons_zero, List.set_cons_succ]
  refine anyT_take (i := 5) (oi := _) (v := .slice AL m.L.length cL) rfl (by kernel_rfl) (by kernel_rfl) (by kernel_rfl) (by kernel_rfl) (fun _ _ _ h => h) (Or.inl ⟨by rfl, fun w hSw => by (try dsimp only at hSw); go_simp⟩) (by assumption) ?_
  try simp only [Act.put, List.setIfInBounds_toArray, List.set_cons_zero, List.set_cons_succ]
  refine anyT_take (i := 6) (oi := _) (v := .int .i64 m.L.length) rfl (by kernel_rfl) (by kernel_rfl) (by kernel_rfl) (by kernel_rfl) (fun _ _ _ h => h) (Or.inl ⟨by rfl, fun w hSw => by (try dsimp only at hSw); go_simp⟩) (by assumption) ?_
  try simp only [Act.put, List.setIfInBounds_toArray, List.set_cons_zero, List.set_cons_succ]
  refine anyT_take (i := 7) (oi := _) (v := .int .i64 kd) rfl (by kernel_rfl) (by kernel_rfl) (by kernel_rfl) (by kernel_rfl) (fun _ _ _ h => h) (Or.inl ⟨by rfl, fun w hSw => by (try dsimp only at hSw); go_simp⟩) (by assumption) ?_
  try simp only [Act.put, List.setIfInBounds_toArray, List.set_cons_zero, List.set_cons_succ]
  refine anyT_take (i := 8) (oi := _) (v := .int .i64 md) rfl (by kernel_rfl) (by kernel_rfl) (by kernel_rfl) (by kernel_rfl) (fun _ _ _ h => h) (Or.inl ⟨by rfl, fun w hSw => by (try dsimp only at hSw); go_simp⟩) (by assumption) ?_
  try simp only [Act.put, List.setIfInBounds_toArray, List.set_cons_zero, List.set_cons_succ]
  refine anyT_take (i := 9) (oi := _) (v := .int .i64 vl) rfl (by kernel_rfl) (by kernel_rfl) (by kernel_rfl) (by kernel_rfl) (fun _ _ _ h => h) (Or.inl ⟨by rfl, fun w hSw => by (try dsimp only at hSw); go_simp⟩) (by assumption) ?_
  try simp only [Act.put, List.setIfInBounds_toArray, List.set_cons_zero, List.set_cons_succ]
  refine anyT_take (i := 10) (oi := _) (v := .agg #[.int .i64 m.L.length, .int .i64 kd, .int .i64 md, .int .i64 vl]) rfl (by kernel_rfl) (by kernel_rfl) (by kernel_rfl) (by kernel_rfl) (fun _ _ _ h => h) (Or.inl ⟨by rfl, fun w hSw => by (try dsimp only at hSw); go_simp⟩) (by assumption) ?_
  try simp only [Act.put, List.setIfInBounds_toArray, List.set_cons_zero, List.set_cons_succ]
  have HRF := Lib.hid HR.out.fF
  refine anyT_ready (rs := [0, 11]) (by kernel_rfl) (by simp) (ReadyT.cons (o := _) rfl (fun K hK => ?_) (ReadyT.cons (o := _) rfl (fun K hK => ?_) ReadyT.nil))
  · go_simp
    have SE := Lib.hid (show y.heap.size = y.heap.size from rfl)
    have BY := Lib.hid (show Below y.heap.size y (y.alloc (.cells #[] fxT)) from BY.out.alloc BY.out.size (.cells #[] fxT))
    have OE := Lib.hid (show (y.alloc (.cells #[] fxT)).ownsRow y.heap.size fxT 4 (.slice (some ⟨y.heap.size, 0, none⟩) 0 0) 0 [] from row_built (e := fxT) (sz := 4) y #[] 0 0 rfl (Nat.le_refl _) (Nat.zero_le _) y.heap.size (by rw [SE.out]; omega) _ (by rw [SE.out]) [] rfl)
    refine hK.out _ _ ⟨(BX.out.below BY.out).x0.cell 0, (BX.out.below BY.out).x0.cell 2⟩ (fun hHeld => ?_)
    clear hK K
    try simp only [Act.put, List.setIfInBounds_toArray, List.set_cons_zero, List.set_cons_succ]
    refine anyT_ready (rs := [3, 11]) (by kernel_rfl) (by simp) (ReadyT.cons (o := _) rfl (fun K hK => ?_) (ReadyT.cons (o := _) rfl (fun K hK => ?_) ReadyT.nil))
    · refine step_app_any rfl (.tmp 11) (.tmp 13) 27 rfl y.heap.size fxT i0 _ 4 32 Tryd.underlying27 hi0 hz0 hz1 hz2 rfl (by decide) (.slice (some ⟨y.heap.size, 0, none⟩) 0 0) 0 [] rfl OE.out (.slice AF m.fx.length cF) (m.fx.length) (m.fx.flatMap fxC) rfl (HRF.out.below BY.out).1 (one_flat fx_one _) (by have := HR.out.lf; have := HN.out; unfold maxLen; omega) (by have := HR.out.lf; have := HN.out; omega) BY.out.size ?_
      intro v6 w6 ho6 hg6 hat6
      rw [Nat.zero_add, List.nil_append] at ho6
      have hform := row_form ho6
      obtain ⟨A6, c6, rfl⟩ := hform
      have BY := Lib.hid (show Below y.heap.size y w6 from BY.out.grown hg6 BY.out.size (fun b hb => (World.ownsRow.lt OE.out b hb).1))
      have O6 := Lib.hid ho6
      clear ho6 hg6 hat6 OE
      refine hK.out _ _ ⟨(BX.out.below BY.out).x0.cell 0, (BX.out.below BY.out).x0.cell 2⟩ (fun hHeld => ?_)
      clear hK K
      try simp only [Act.put, List.setIfInBounds_toArray, List.set_cons_zero, List.set_cons_succ]
      refine anyT_ready (rs := [11]) (by kernel_rfl) (by simp) (ReadyT.cons (o := _) rfl (fun K hK => ?_) ReadyT.nil)
      go_simp
      have BY := Lib.hid (show Below y.heap.size y (w6.alloc (.cells #[.int .i64 m.L.length, .int .i64 kd, .int .i64 md, .int .i64 vl] fxT)) from BY.out.alloc BY.out.size (.cells #[.int .i64 m.L.length, .int .i64 kd, .int .i64 md, .int .i64 vl] fxT))
      have XW := Lib.hid (Whole.made w6 fxT #[.int .i64 m.L.length, .int .i64 kd, .int .i64 md, .int .i64 vl] (w6.heap.size) (rfl))
      have O6 := Lib.hid (World.ownsRow.alloc O6.out (.cells #[.int .i64 m.L.length, .int .i64 kd, .int .i64 md, .int .i64 vl] fxT))
      refine hK.out _ _ ⟨(BX.out.below BY.out).x0.cell 0, (BX.out.below BY.out).x0.cell 2⟩ (fun hHeld => ?_)
      clear hK K
      try simp only [Act.put, List.setIfInBounds_toArray, List.set_cons_zero, List.set_cons_succ]
      refine anyT_ready (rs := [12]) (by kernel_rfl) (by simp) (ReadyT.cons (o := _) rfl (fun K hK => ?_) ReadyT.nil)
      have NC := Lib.hid (show ∀ (j : Nat) u, ([.int .i64 m.L.length, .int .i64 kd, .int .i64 md, .int .i64 vl] : List Value)[j]? = some u → (w6.alloc (.cells #[.int .i64 m.L.length, .int .i64 kd, .int .i64 md, .int .i64 vl] fxT)).cell? ((⟨w6.heap.size, 0, none⟩ : Addr).add j) = some u from fun j u hj => by
        rw [Go.WideShapes.add_plain, Nat.zero_add]
        exact (XW.out.cell j).trans (by simpa using hj))
      refine step_app rfl (.tmp 14) (.tmp 22) 27 rfl y.heap.size fxT i0 _ 4 32 Tryd.underlying27 hi0 hz0 hz1 hz2 rfl (by decide) (.slice A6 (m.fx.length) c6) (m.fx.length) (m.fx.flatMap fxC) rfl O6.out ⟨w6.heap.size, 0, none⟩ 1 1 [.int .i64 m.L.length, .int .i64 kd, .int .i64 md, .int .i64 vl] rfl rfl NC.out (fx_one ⟨m.L.length, kd, md, vl⟩) (by have := HR.out.lf; have := HN.out; unfold maxLen; omega) (by have := HR.out.lf; have := HN.out; omega) BY.out.size ?_
      intro v8 w8 ho8 hg8 hat8
      have hform := row_form ho8
      obtain ⟨A8, c8, rfl⟩ := hform
      have BY := Lib.hid (show Below y.heap.size y w8 from BY.out.grown hg8 BY.out.size (fun b hb => (World.ownsRow.lt O6.out b hb).1))
      have O8 := Lib.hid ho8
      clear ho8 hg8 hat8 O6 XW NC
      refine hK.out _ _ ⟨(BX.out.below BY.out).x0.cell 0, (BX.out.below BY.out).x0.cell 2⟩ (fun hHeld => ?_)
      clear hK K
      try simp only [Act.put, List.setIfInBounds_toArray, List.set_cons_zero, List.set_cons_succ]
      refine anyT_take (i := 13) (oi := _) (v := .pointer (some ⟨w.heap.size, 2, none⟩)) rfl (by kernel_rfl) (by kernel_rfl) (by kernel_rfl) (by kernel_rfl) (fun _ _ _ h => h) (Or.inl ⟨by rfl, fun w hSw => by (try dsimp only at hSw); go_simp⟩) (by assumption) ?_
      try simp only [Act.put, List.setIfInBounds_toArray, List.set_cons_zero, List.set_cons_succ]
      refine anyT_ready (rs := [14]) (by kernel_rfl) (by simp) (ReadyT.last (o := _) rfl (fun K hK => ?_))
      have t0 : w8.cell? ⟨w.heap.size, 2, none⟩ = some (.slice AF m.fx.length cF) := (BX.out.below BY.out).x0.cell 2
      have tf : w8.frozen? ⟨w.heap.size, 2, none⟩ = false := (BX.out.below BY.out).x0.free 2
      go_simp
      clear t0 tf
      refine hK.out _ _ trivial (fun _ => ?_)
      clear hK K
      try simp only [Act.put, List.setIfInBounds_toArray, List.set_cons_zero, List.set_cons_succ]
      refine anyT_done (by kernel_rfl) ?_ _
      refine NoPanic.normal ?_
      have B9 := Lib.hid (show Bx2 w (w8.setCell ⟨w.heap.size, 2, none⟩ (.slice A8 (m.fx.length + 1) c8)) rfT rfT #[.slice AL (fixA m kd md vl).L.length cL, .slice AG gl.length cG, .slice A8 (fixA m kd md vl).fx.length c8, .slice AP pl.length cP, .slice AA al.length cA, .int .i64 (fixA m kd md vl).dep, .int .i64 (fixA m kd md vl).most, .int .i64 (fixA m kd md vl).err] _ from by
        rw [FL.out]
        exact (BX.out.below BY.out).set0 2 (.slice A8 (m.fx.length + 1) c8))
      have K9 : KeptS (fun b => b = w.heap.size) w8 (w8.setCell ⟨w.heap.size, 2, none⟩ (.slice A8 (m.fx.length + 1) c8)) := KeptS.set rfl
      have hbx : w.heap.size < y.heap.size := BX.out.x0.lt
      have R9 := Lib.hid (show RfR (w8.setCell ⟨w.heap.size, 2, none⟩ (.slice A8 (m.fx.length + 1) c8)) (fun b => T b ∨ (w.heap.size ≤ b ∧ b < w.heap.size + 2)) (N + 1) (fixA m kd md vl) AL cL AG cG A8 c8 AP cP AA cA gl pl al from by
        have h0 := (HR.out.below BY.out).later K9 (fun b hb => .inr (by rw [hb]; omega))
        refine ⟨h0.fL, h0.fG, ⟨?_, fun b hb ht => ?_⟩, h0.fP, h0.fA, h0.lg, Nat.le_succ_of_le h0.lp, Nat.le_succ_of_le h0.la, by rw [FL.out]; have := h0.lf; omega, ⟨h0.ok.good, h0.ok.len, h0.ok.d0, h0.ok.dm⟩, by have := h0.nm; show m.most ≤ ((N + 1 : Nat) : Int); omega⟩
        · show World.ownsRow _ 0 fxT 4 (.slice A8 (fixA m kd md vl).fx.length c8) (fixA m kd md vl).fx.length ((m.fx ++ [(⟨m.L.length, kd, md, vl⟩ : Fxp)]).flatMap fxC)
          rw [FL.out, List.flatMap_append, List.flatMap_singleton]
          exact row_more (K9.row O8.out (fun b hb e => by have := (row_block O8.out hb).1; omega)) (Nat.zero_le _)
        · have h1 := (row_block O8.out (own_len (n' := m.fx.length + 1) hb)).1
          have h2 := hTy.out b ht
          omega)
      have HT := Lib.hid (show ∀ b, (fun b => T b ∨ (w.heap.size ≤ b ∧ b < w.heap.size + 2)) b → b < (w8.setCell ⟨w.heap.size, 2, none⟩ (.slice A8 (m.fx.length + 1) c8)).heap.size from fun b hb => Nat.lt_of_lt_of_le (hTy.out b hb) (Nat.le_trans BY.out.size K9.size))
      clear K9 hbx BX HR BY O8 hTy hHeld HRF
      generalize (w8.setCell ⟨w.heap.size, 2, none⟩ (.slice A8 (m.fx.length + 1) c8)) = y0 at *
      have BX := B9
      have HR := R9
      clear B9 R9
      obtain ⟨m5, hm5⟩ : ∃ m5, m5 = (fixA m kd md vl) := ⟨_, rfl⟩
      rw [← hm5] at BX HR
      have M5 := Lib.hid hm5.symm
      clear hm5 FL
      have PX := Lib.hid (refput_any ⟨23, 0, 0, 0, 0⟩ (fun b => T b ∨ (w.heap.size ≤ b ∧ b < w.heap.size + 2)) (N + 1) m5 AL cL AG cG A8 c8 AP cP AA cA gl pl al y0 HR.out HT.out HN.out)
      generalize hm1 : putE m5 ⟨23, 0, 0, 0, 0⟩ = m1 at PX
      have M1 := Lib.hid hm1
      clear hm1
      have EQ := Lib.hid (show fixE m kd md vl a = m1 from by
        unfold fixE
        rw [if_pos HK.out, M5.out]
        exact M1.out)
      obtain ⟨a0, a1, a2, a3, a4, a5, a6, a7⟩ := cells8 BX.out.x0
      go_wp2_with fail
      refine PX.out.mono ?_
      rintro e y1 ⟨AL1, cL1, AG1, cG1, A81, c81, AP1, cP1, AA1, cA1, gl1, pl1, al1, rfl, hr1, hb1⟩
      have BX := Lib.hid (BX.out.below hb1)
      have HR := Lib.hid hr1
      have HT := Lib.hid (show ∀ b, (fun b => T b ∨ (w.heap.size ≤ b ∧ b < w.heap.size + 2)) b → b < y1.heap.size from fun b hb2 => Nat.lt_of_lt_of_le (HT.out b hb2) hb1.size)
      have H1 := Lib.hid (show (#[.slice AL1 m1.L.length cL1, .slice AG1 gl1.length cG1, .slice A81 m1.fx.length c81, .slice AP1 pl1.length cP1, .slice AA1 al1.length cA1, .int .i64 m1.dep, .int .i64 m1.most, .int .i64 m1.err] : Array Value).all (·.oneCell') = true from by simp [Value.oneCell'])
      clear hr1 hb1 PX a0 a1 a2 a3 a4 a5 a6 a7
      simp only []
      go_at_K
      repeat (first | (go_big_may; first | (refine wpList_store_row rfl rfT (.tmp 10) (.tmp 29) rfl (w.heap.size + 1) #[.slice AL1 m1.L.length cL1, .slice AG1 gl1.length cG1, .slice A81 m1.fx.length c81, .slice AP1 pl1.length cP1, .slice AA1 al1.length cA1, .int .i64 m1.dep, .int .i64 m1.most, .int .i64 m1.err] rfl rfl rfT #[.slice none 0 0, .slice none 0 0, .slice none 0 0, .slice none 0 0, .slice none 0 0, .int .i64 0, .int .i64 0, .int .i64 0] BX.out.x1 S8 rfl H1.out ?_; generalize hZZ : (y1).setRow (w.heap.size + 1) #[.slice AL1 m1.L.length cL1, .slice AG1 gl1.length cG1, .slice A81 m1.fx.length c81, .slice AP1 pl1.length cP1, .slice AA1 al1.length cA1, .int .i64 m1.dep, .int .i64 m1.most, .int .i64 m1.err] = ZZ; have HZZ := Lib.hid hZZ; clear hZZ)) | go_values | go_skip | go_guarded | go_step | go_upon)
      have RZ := Lib.hid (HZZ.out ▸ (HR.out.later (BX.out.kept1 #[.slice AL1 m1.L.length cL1, .slice AG1 gl1.length cG1, .slice A81 m1.fx.length c81, .slice AP1 pl1.length cP1, .slice AA1 al1.length cA1, .int .i64 m1.dep, .int .i64 m1.most, .int .i64 m1.err]) (fun b hb => .inr hb)))
      have BZ := Lib.hid (HZZ.out ▸ BX.out.row1 #[.slice AL1 m1.L.length cL1, .slice AG1 gl1.length cG1, .slice A81 m1.fx.length c81, .slice AP1 pl1.length cP1, .slice AA1 al1.length cA1, .int .i64 m1.dep, .int .i64 m1.most, .int .i64 m1.err])
      rw [EQ.out]
      obtain ⟨z0, z1, z2, z3, z4, z5, z6, z7⟩ := cells8 BZ.out.x1
      refine bodyPost_ret (v := .agg #[.slice AL1 m1.L.length cL1, .slice AG1 gl1.length cG1, .slice A81 m1.fx.length c81, .slice AP1 pl1.length cP1, .slice AA1 al1.length cA1, .int .i64 m1.dep, .int .i64 m1.most, .int .i64 m1.err]) ?_ rfl ⟨AL1, cL1, AG1, cG1, A81, c81, AP1, cP1, AA1, cA1, gl1, pl1, al1, rfl, RZ.out.less (fun b hb => .inl hb), BZ.out.b⟩
      simp [results, Tryd.results50, go_sem, z0, z1, z2, z3, z4, z5, z6, z7]
    · go_simp
      have BY := Lib.hid (show Below y.heap.size y ((y.alloc (.cells #[] fxT)).alloc (.cells #[.int .i64 m.L.length, .int .i64 kd, .int .i64 md, .int .i64 vl] fxT)) from BY.out.alloc BY.out.size (.cells #[.int .i64 m.L.length, .int .i64 kd, .int .i64 md, .int .i64 vl] fxT))
      have XW := Lib.hid (Whole.made (y.alloc (.cells #[] fxT)) fxT #[.int .i64 m.L.length, .int .i64 kd, .int .i64 md, .int .i64 vl] (y.heap.size + 1) (by simp))
      have OE := Lib.hid (World.ownsRow.alloc OE.out (.cells #[.int .i64 m.L.length, .int .i64 kd, .int .i64 md, .int .i64 vl] fxT))
      refine hK.out _ _ ⟨(BX.out.below BY.out).x0.cell 0, (BX.out.below BY.out).x0.cell 2⟩ (fun hHeld => ?_)
      clear hK K
      try simp only [Act.put, List.setIfInBounds_toArray, List.set_cons_zero, List.set_cons_succ]
      refine anyT_ready (rs := [3]) (by kernel_rfl) (by simp) (ReadyT.cons (o := _) rfl (fun K hK => ?_) ReadyT.nil)
      refine step_app_any rfl (.tmp 11) (.tmp 13) 27 rfl y.heap.size fxT i0 _ 4 32 Tryd.underlying27 hi0 hz0 hz1 hz2 rfl (by decide) (.slice (some ⟨y.heap.size, 0, none⟩) 0 0) 0 [] rfl OE.out (.slice AF m.fx.length cF) (m.fx.length) (m.fx.flatMap fxC) rfl (HRF.out.below BY.out).1 (one_flat fx_one _) (by have := HR.out.lf; have := HN.out; unfold maxLen; omega) (by have := HR.out.lf; have := HN.out; omega) BY.out.size ?_
      intro v6 w6 ho6 hg6 hat6
      rw [Nat.zero_add, List.nil_append] at ho6
      have hform := row_form ho6
      obtain ⟨A6, c6, rfl⟩ := hform
      have XW := Lib.hid (show Whole w6 (y.heap.size + 1) fxT #[.int .i64 m.L.length, .int .i64 kd, .int .i64 md, .int .i64 vl] from (hg6.block (y.heap.size + 1) XW.out.lt (fun e => absurd (Option.some.inj e : y.heap.size + 1 = y.heap.size) (by omega))).trans XW.out)
      have BY := Lib.hid (show Below y.heap.size y w6 from BY.out.grown hg6 BY.out.size (fun b hb => (World.ownsRow.lt OE.out b hb).1))
      have O6 := Lib.hid ho6
      clear ho6 hg6 hat6 OE
      refine hK.out _ _ ⟨(BX.out.below BY.out).x0.cell 0, (BX.out.below BY.out).x0.cell 2⟩ (fun hHeld => ?_)
      clear hK K
      try simp only [Act.put, List.setIfInBounds_toArray, List.set_cons_zero, List.set_cons_succ]
      refine anyT_ready (rs := [12]) (by kernel_rfl) (by simp) (ReadyT.cons (o := _) rfl (fun K hK => ?_) ReadyT.nil)
      have NC := Lib.hid (show ∀ (j : Nat) u, ([.int .i64 m.L.length, .int .i64 kd, .int .i64 md, .int .i64 vl] : List Value)[j]? = some u → w6.cell? ((⟨y.heap.size + 1, 0, none⟩ : Addr).add j) = some u from fun j u hj => by
        rw [Go.WideShapes.add_plain, Nat.zero_add]
        exact (XW.out.cell j).trans (by simpa using hj))
      refine step_app rfl (.tmp 14) (.tmp 22) 27 rfl y.heap.size fxT i0 _ 4 32 Tryd.underlying27 hi0 hz0 hz1 hz2 rfl (by decide) (.slice A6 (m.fx.length) c6) (m.fx.length) (m.fx.flatMap fxC) rfl O6.out ⟨y.heap.size + 1, 0, none⟩ 1 1 [.int .i64 m.L.length, .int .i64 kd, .int .i64 md, .int .i64 vl] rfl rfl NC.out (fx_one ⟨m.L.length, kd, md, vl⟩) (by have := HR.out.lf; have := HN.out; unfold maxLen; omega) (by have := HR.out.lf; have := HN.out; omega) BY.out.size ?_
      intro v8 w8 ho8 hg8 hat8
      have hform := row_form ho8
      obtain ⟨A8, c8, rfl⟩ := hform
      have BY := Lib.hid (show Below y.heap.size y w8 from BY.out.grown hg8 BY.out.size (fun b hb => (World.ownsRow.lt O6.out b hb).1))
      have O8 := Lib.hid ho8
      clear ho8 hg8 hat8 O6 XW NC
      refine hK.out _ _ ⟨(BX.out.below BY.out).x0.cell 0, (BX.out.below BY.out).x0.cell 2⟩ (fun hHeld => ?_)
      clear hK K
      try simp only [Act.put, List.setIfInBounds_toArray, List.set_cons_zero, List.set_cons_succ]
      refine anyT_take (i := 13) (oi := _) (v := .pointer (some ⟨w.heap.size, 2, none⟩)) rfl (by kernel_rfl) (by kernel_rfl) (by kernel_rfl) (by kernel_rfl) (fun _ _ _ h => h) (Or.inl ⟨by rfl, fun w hSw => by (try dsimp only at hSw); go_simp⟩) (by assumption) ?_
      try simp only [Act.put, List.setIfInBounds_toArray, List.set_cons_zero, List.set_cons_succ]
      refine anyT_ready (rs := [14]) (by kernel_rfl) (by simp) (ReadyT.last (o := _) rfl (fun K hK => ?_))
      have t0 : w8.cell? ⟨w.heap.size, 2, none⟩ = some (.slice AF m.fx.length cF) := (BX.out.below BY.out).x0.cell 2
      have tf : w8.frozen? ⟨w.heap.size, 2, none⟩ = false := (BX.out.below BY.out).x0.free 2
      go_simp
      clear t0 tf
      refine hK.out _ _ trivial (fun _ => ?_)
      clear hK K
      try simp only [Act.put, List.setIfInBounds_toArray, List.set_cons_zero, List.set_cons_succ]
      refine anyT_done (by kernel_rfl) ?_ _
      refine NoPanic.normal ?_
      have B9 := Lib.hid (show Bx2 w (w8.setCell ⟨w.heap.size, 2, none⟩ (.slice A8 (m.fx.length + 1) c8)) rfT rfT #[.slice AL (fixA m kd md vl).L.length cL, .slice AG gl.length cG, .slice A8 (fixA m kd md vl).fx.length c8, .slice AP pl.length cP, .slice AA al.length cA, .int .i64 (fixA m kd md vl).dep, .int .i64 (fixA m kd md vl).most, .int .i64 (fixA m kd md vl).err] _ from by
        rw [FL.out]
        exact (BX.out.below BY.out).set0 2 (.slice A8 (m.fx.length + 1) c8))
      have K9 : KeptS (fun b => b = w.heap.size) w8 (w8.setCell ⟨w.heap.size, 2, none⟩ (.slice A8 (m.fx.length + 1) c8)) := KeptS.set rfl
      have hbx : w.heap.size < y.heap.size := BX.out.x0.lt
      have R9 := Lib.hid (show RfR (w8.setCell ⟨w.heap.size, 2, none⟩ (.slice A8 (m.fx.length + 1) c8)) (fun b => T b ∨ (w.heap.size ≤ b ∧ b < w.heap.size + 2)) (N + 1) (fixA m kd md vl) AL cL AG cG A8 c8 AP cP AA cA gl pl al from by
        have h0 := (HR.out.below BY.out).later K9 (fun b hb => .inr (by rw [hb]; omega))
        refine ⟨h0.fL, h0.fG, ⟨?_, fun b hb ht => ?_⟩, h0.fP, h0.fA, h0.lg, Nat.le_succ_of_le h0.lp, Nat.le_succ_of_le h0.la, by rw [FL.out]; have := h0.lf; omega, ⟨h0.ok.good, h0.ok.len, h0.ok.d0, h0.ok.dm⟩, by have := h0.nm; show m.most ≤ ((N + 1 : Nat) : Int); omega⟩
        · show World.ownsRow _ 0 fxT 4 (.slice A8 (fixA m kd md vl).fx.length c8) (fixA m kd md vl).fx.length ((m.fx ++ [(⟨m.L.length, kd, md, vl⟩ : Fxp)]).flatMap fxC)
          rw [FL.out, List.flatMap_append, List.flatMap_singleton]
          exact row_more (K9.row O8.out (fun b hb e => by have := (row_block O8.out hb).1; omega)) (Nat.zero_le _)
        · have h1 := (row_block O8.out (own_len (n' := m.fx.length + 1) hb)).1
          have h2 := hTy.out b ht
          omega)
      have HT := Lib.hid (show ∀ b, (fun b => T b ∨ (w.heap.size ≤ b ∧ b < w.heap.size + 2)) b → b < (w8.setCell ⟨w.heap.size, 2, none⟩ (.slice A8 (m.fx.length + 1) c8)).heap.size from fun b hb => Nat.lt_of_lt_of_le (hTy.out b hb) (Nat.le_trans BY.out.size K9.size))
      clear K9 hbx BX HR BY O8 hTy hHeld HRF
      generalize (w8.setCell ⟨w.heap.size, 2, none⟩ (.slice A8 (m.fx.length + 1) c8)) = y0 at *
      have BX := B9
      have HR := R9
      clear B9 R9
      obtain ⟨m5, hm5⟩ : ∃ m5, m5 = (fixA m kd md vl) := ⟨_, rfl⟩
      rw [← hm5] at BX HR
      have M5 := Lib.hid hm5.symm
      clear hm5 FL
      have PX := Lib.hid (refput_any ⟨23, 0, 0, 0, 0⟩ (fun b => T b ∨ (w.heap.size ≤ b ∧ b < w.heap.size + 2)) (N + 1) m5 AL cL AG cG A8 c8 AP cP AA cA gl pl al y0 HR.out HT.out HN.out)
      generalize hm1 : putE m5 ⟨23, 0, 0, 0, 0⟩ = m1 at PX
      have M1 := Lib.hid hm1
      clear hm1
      have EQ := Lib.hid (show fixE m kd md vl a = m1 from by
        unfold fixE
        rw [if_pos HK.out, M5.out]
        exact M1.out)
      obtain ⟨a0, a1, a2, a3, a4, a5, a6, a7⟩ := cells8 BX.out.x0
      go_wp2_with fail
      refine PX.out.mono ?_
      rintro e y1 ⟨AL1, cL1, AG1, cG1, A81, c81, AP1, cP1, AA1, cA1, gl1, pl1, al1, rfl, hr1, hb1⟩
      have BX := Lib.hid (BX.out.below hb1)
      have HR := Lib.hid hr1
      have HT := Lib.hid (show ∀ b, (fun b => T b ∨ (w.heap.size ≤ b ∧ b < w.heap.size + 2)) b → b < y1.heap.size from fun b hb2 => Nat.lt_of_lt_of_le (HT.out b hb2) hb1.size)
      have H1 := Lib.hid (show (#[.slice AL1 m1.L.length cL1, .slice AG1 gl1.length cG1, .slice A81 m1.fx.length c81, .slice AP1 pl1.length cP1, .slice AA1 al1.length cA1, .int .i64 m1.dep, .int .i64 m1.most, .int .i64 m1.err] : Array Value).all (·.oneCell') = true from by simp [Value.oneCell'])
      clear hr1 hb1 PX a0 a1 a2 a3 a4 a5 a6 a7
      simp only []
      go_at_K
      repeat (first | (go_big_may; first | (refine wpList_store_row rfl rfT (.tmp 10) (.tmp 29) rfl (w.heap.size + 1) #[.slice AL1 m1.L.length cL1, .slice AG1 gl1.length cG1, .slice A81 m1.fx.length c81, .slice AP1 pl1.length cP1, .slice AA1 al1.length cA1, .int .i64 m1.dep, .int .i64 m1.most, .int .i64 m1.err] rfl rfl rfT #[.slice none 0 0, .slice none 0 0, .slice none 0 0, .slice none 0 0, .slice none 0 0, .int .i64 0, .int .i64 0, .int .i64 0] BX.out.x1 S8 rfl H1.out ?_; generalize hZZ : (y1).setRow (w.heap.size + 1) #[.slice AL1 m1.L.length cL1, .slice AG1 gl1.length cG1, .slice A81 m1.fx.length c81, .slice AP1 pl1.length cP1, .slice AA1 al1.length cA1, .int .i64 m1.dep, .int .i64 m1.most, .int .i64 m1.err] = ZZ; have HZZ := Lib.hid hZZ; clear hZZ)) | go_values | go_skip | go_guarded | go_step | go_upon)
      have RZ := Lib.hid (HZZ.out ▸ (HR.out.later (BX.out.kept1 #[.slice AL1 m1.L.length cL1, .slice AG1 gl1.length cG1, .slice A81 m1.fx.length c81, .slice AP1 pl1.length cP1, .slice AA1 al1.length cA1, .int .i64 m1.dep, .int .i64 m1.most, .int .i64 m1.err]) (fun b hb => .inr hb)))
      have BZ := Lib.hid (HZZ.out ▸ BX.out.row1 #[.slice AL1 m1.L.length cL1, .slice AG1 gl1.length cG1, .slice A81 m1.fx.length c81, .slice AP1 pl1.length cP1, .slice AA1 al1.length cA1, .int .i64 m1.dep, .int .i64 m1.most, .int .i64 m1.err])
      rw [EQ.out]
      obtain ⟨z0, z1, z2, z3, z4, z5, z6, z7⟩ := cells8 BZ.out.x1
      refine bodyPost_ret (v := .agg #[.slice AL1 m1.L.length cL1, .slice AG1 gl1.length cG1, .slice A81 m1.fx.length c81, .slice AP1 pl1.length cP1, .slice AA1 al1.length cA1, .int .i64 m1.dep, .int .i64 m1.most, .int .i64 m1.err]) ?_ rfl ⟨AL1, cL1, AG1, cG1, A81, c81, AP1, cP1, AA1, cA1, gl1, pl1, al1, rfl, RZ.out.less (fun b hb => .inl hb), BZ.out.b⟩
      simp [results, Tryd.results50, go_sem, z0, z1, z2, z3, z4, z5, z6, z7]
  · go_simp
    have BY := Lib.hid (show Below y.heap.size y (y.alloc (.cells #[.int .i64 m.L.length, .int .i64 kd, .int .i64 md, .int .i64 vl] fxT)) from BY.out.alloc BY.out.size (.cells #[.int .i64 m.L.length, .int .i64 kd, .int .i64 md, .int .i64 vl] fxT))
    have XW := Lib.hid (Whole.made y fxT #[.int .i64 m.L.length, .int .i64 kd, .int .i64 md, .int .i64 vl] (y.heap.size) (rfl))
    refine hK.out _ _ ⟨(BX.out.below BY.out).x0.cell 0, (BX.out.below BY.out).x0.cell 2⟩ (fun hHeld => ?_)
    clear hK K
    try simp only [Act.put, List.setIfInBounds_toArray, List.set_cons_zero, List.set_cons_succ]
    refine anyT_ready (rs := [0]) (by kernel_rfl) (by simp) (ReadyT.cons (o := _) rfl (fun K hK => ?_) ReadyT.nil)
    go_simp
    have SE := Lib.hid (show (y.alloc (.cells #[.int .i64 m.L.length, .int .i64 kd, .int .i64 md, .int .i64 vl] fxT)).heap.size = y.heap.size + 1 from by simp)
    have BY := Lib.hid (show Below y.heap.size y ((y.alloc (.cells #[.int .i64 m.L.length, .int .i64 kd, .int .i64 md, .int .i64 vl] fxT)).alloc (.cells #[] fxT)) from BY.out.alloc BY.out.size (.cells #[] fxT))
    have OE := Lib.hid (show ((y.alloc (.cells #[.int .i64 m.L.length, .int .i64 kd, .int .i64 md, .int .i64 vl] fxT)).alloc (.cells #[] fxT)).ownsRow y.heap.size fxT 4 (.slice (some ⟨y.heap.size + 1, 0, none⟩) 0 0) 0 [] from row_built (e := fxT) (sz := 4) (y.alloc (.cells #[.int .i64 m.L.length, .int .i64 kd, .int .i64 md, .int .i64 vl] fxT)) #[] 0 0 rfl (Nat.le_refl _) (Nat.zero_le _) y.heap.size (by rw [SE.out]; omega) _ (by rw [SE.out]) [] rfl)
    have XW := Lib.hid (show Whole ((y.alloc (.cells #[.int .i64 m.L.length, .int .i64 kd, .int .i64 md, .int .i64 vl] fxT)).alloc (.cells #[] fxT)) (y.heap.size) fxT #[.int .i64 m.L.length, .int .i64 kd, .int .i64 md, .int .i64 vl] from XW.out.alloc _)
    refine hK.out _ _ ⟨(BX.out.below BY.out).x0.cell 0, (BX.out.below BY.out).x0.cell 2⟩ (fun hHeld => ?_)
    clear hK K
    try simp only [Act.put, List.setIfInBounds_toArray, List.set_cons_zero, List.set_cons_succ]
    refine anyT_ready (rs := [3]) (by kernel_rfl) (by simp) (ReadyT.cons (o := _) rfl (fun K hK => ?_) ReadyT.nil)
    refine step_app_any rfl (.tmp 11) (.tmp 13) 27 rfl y.heap.size fxT i0 _ 4 32 Tryd.underlying27 hi0 hz0 hz1 hz2 rfl (by decide) (.slice (some ⟨y.heap.size + 1, 0, none⟩) 0 0) 0 [] rfl OE.out (.slice AF m.fx.length cF) (m.fx.length) (m.fx.flatMap fxC) rfl (HRF.out.below BY.out).1 (one_flat fx_one _) (by have := HR.out.lf; have := HN.out; unfold maxLen; omega) (by have := HR.out.lf; have := HN.out; omega) BY.out.size ?_
    intro v6 w6 ho6 hg6 hat6
    rw [Nat.zero_add, List.nil_append] at ho6
    have hform := row_form ho6
    obtain ⟨A6, c6, rfl⟩ := hform
    have XW := Lib.hid (show Whole w6 (y.heap.size) fxT #[.int .i64 m.L.length, .int .i64 kd, .int .i64 md, .int .i64 vl] from (hg6.block (y.heap.size) XW.out.lt (fun e => absurd (Option.some.inj e : y.heap.size = y.heap.size + 1) (by omega))).trans XW.out)
    have BY := Lib.hid (show Below y.heap.size y w6 from BY.out.grown hg6 BY.out.size (fun b hb => (World.ownsRow.lt OE.out b hb).1))
    have O6 := Lib.hid ho6
    clear ho6 hg6 hat6 OE
    refine hK.out _ _ ⟨(BX.out.below BY.out).x0.cell 0, (BX.out.below BY.out).x0.cell 2⟩ (fun hHeld => ?_)
    clear hK K
    try simp only [Act.put, List.setIfInBounds_toArray, List.set_cons_zero, List.set_cons_succ]
    refine anyT_ready (rs := [12]) (by kernel_rfl) (by simp) (ReadyT.cons (o := _) rfl (fun K hK => ?_) ReadyT.nil)
    have NC := Lib.hid (show ∀ (j : Nat) u, ([.int .i64 m.L.length, .int .i64 kd, .int .i64 md, .int .i64 vl] : List Value)[j]? = some u → w6.cell? ((⟨y.heap.size, 0, none⟩ : Addr).add j) = some u from fun j u hj => by
      rw [Go.WideShapes.add_plain, Nat.zero_add]
      exact (XW.out.cell j).trans (by simpa using hj))
    refine step_app rfl (.tmp 14) (.tmp 22) 27 rfl y.heap.size fxT i0 _ 4 32 Tryd.underlying27 hi0 hz0 hz1 hz2 rfl (by decide) (.slice A6 (m.fx.length) c6) (m.fx.length) (m.fx.flatMap fxC) rfl O6.out ⟨y.heap.size, 0, none⟩ 1 1 [.int .i64 m.L.length, .int .i64 kd, .int .i64 md, .int .i64 vl] rfl rfl NC.out (fx_one ⟨m.L.length, kd, md, vl⟩) (by have := HR.out.lf; have := HN.out; unfold maxLen; omega) (by have := HR.out.lf; have := HN.out; omega) BY.out.size ?_
    intro v8 w8 ho8 hg8 hat8
    have hform := row_form ho8
    obtain ⟨A8, c8, rfl⟩ := hform
    have BY := Lib.hid (show Below y.heap.size y w8 from BY.out.grown hg8 BY.out.size (fun b hb => (World.ownsRow.lt O6.out b hb).1))
    have O8 := Lib.hid ho8
    clear ho8 hg8 hat8 O6 XW NC
    refine hK.out _ _ ⟨(BX.out.below BY.out).x0.cell 0, (BX.out.below BY.out).x0.cell 2⟩ (fun hHeld => ?_)
    clear hK K
    try simp only [Act.put, List.setIfInBounds_toArray, List.set_cons_zero, List.set_cons_succ]
    refine anyT_take (i := 13) (oi := _) (v := .pointer (some ⟨w.heap.size, 2, none⟩)) rfl (by kernel_rfl) (by kernel_rfl) (by kernel_rfl) (by kernel_rfl) (fun _ _ _ h => h) (Or.inl ⟨by rfl, fun w hSw => by (try dsimp only at hSw); go_simp⟩) (by assumption) ?_
    try simp only [Act.put, List.setIfInBounds_toArray, List.set_cons_zero, List.set_cons_succ]
    refine anyT_ready (rs := [14]) (by kernel_rfl) (by simp) (ReadyT.last (o := _) rfl (fun K hK => ?_))
    have t0 : w8.cell? ⟨w.heap.size, 2, none⟩ = some (.slice AF m.fx.length cF) := (BX.out.below BY.out).x0.cell 2
    have tf : w8.frozen? ⟨w.heap.size, 2, none⟩ = false := (BX.out.below BY.out).x0.free 2
    go_simp
    clear t0 tf
    refine hK.out _ _ trivial (fun _ => ?_)
    clear hK K
    try simp only [Act.put, List.setIfInBounds_toArray, List.set_cons_zero, List.set_cons_succ]
    refine anyT_done (by kernel_rfl) ?_ _
    refine NoPanic.normal ?_
    have B9 := Lib.hid (show Bx2 w (w8.setCell ⟨w.heap.size, 2, none⟩ (.slice A8 (m.fx.length + 1) c8)) rfT rfT #[.slice AL (fixA m kd md vl).L.length cL, .slice AG gl.length cG, .slice A8 (fixA m kd md vl).fx.length c8, .slice AP pl.length cP, .slice AA al.length cA, .int .i64 (fixA m kd md vl).dep, .int .i64 (fixA m kd md vl).most, .int .i64 (fixA m kd md vl).err] _ from by
      rw [FL.out]
      exact (BX.out.below BY.out).set0 2 (.slice A8 (m.fx.length + 1) c8))
    have K9 : KeptS (fun b => b = w.heap.size) w8 (w8.setCell ⟨w.heap.size, 2, none⟩ (.slice A8 (m.fx.length + 1) c8)) := KeptS.set rfl
    have hbx : w.heap.size < y.heap.size := BX.out.x0.lt
    have R9 := Lib.hid (show RfR (w8.setCell ⟨w.heap.size, 2, none⟩ (.slice A8 (m.fx.length + 1) c8)) (fun b => T b ∨ (w.heap.size ≤ b ∧ b < w.heap.size + 2)) (N + 1) (fixA m kd md vl) AL cL AG cG A8 c8 AP cP AA cA gl pl al from by
      have h0 := (HR.out.below BY.out).later K9 (fun b hb => .inr (by rw [hb]; omega))
      refine ⟨h0.fL, h0.fG, ⟨?_, fun b hb ht => ?_⟩, h0.fP, h0.fA, h0.lg, Nat.le_succ_of_le h0.lp, Nat.le_succ_of_le h0.la, by rw [FL.out]; have := h0.lf; omega, ⟨h0.ok.good, h0.ok.len, h0.ok.d0, h0.ok.dm⟩, by have := h0.nm; show m.most ≤ ((N + 1 : Nat) : Int); omega⟩
      · show World.ownsRow _ 0 fxT 4 (.slice A8 (fixA m kd md vl).fx.length c8) (fixA m kd md vl).fx.length ((m.fx ++ [(⟨m.L.length, kd, md, vl⟩ : Fxp)]).flatMap fxC)
        rw [FL.out, List.flatMap_append, List.flatMap_singleton]
        exact row_more (K9.row O8.out (fun b hb e => by have := (row_block O8.out hb).1; omega)) (Nat.zero_le _)
      · have h1 := (row_block O8.out (own_len (n' := m.fx.length + 1) hb)).1
        have h2 := hTy.out b ht
        omega)
    have HT := Lib.hid (show ∀ b, (fun b => T b ∨ (w.heap.size ≤ b ∧ b < w.heap.size + 2)) b → b < (w8.setCell ⟨w.heap.size, 2, none⟩ (.slice A8 (m.fx.length + 1) c8)).heap.size from fun b hb => Nat.lt_of_lt_of_le (hTy.out b hb) (Nat.le_trans BY.out.size K9.size))
    clear K9 hbx BX HR BY O8 hTy hHeld HRF
    generalize (w8.setCell ⟨w.heap.size, 2, none⟩ (.slice A8 (m.fx.length + 1) c8)) = y0 at *
    have BX := B9
    have HR := R9
    clear B9 R9
    obtain ⟨m5, hm5⟩ : ∃ m5, m5 = (fixA m kd md vl) := ⟨_, rfl⟩
    rw [← hm5] at BX HR
    have M5 := Lib.hid hm5.symm
    clear hm5 FL
    have PX := Lib.hid (refput_any ⟨23, 0, 0, 0, 0⟩ (fun b => T b ∨ (w.heap.size ≤ b ∧ b < w.heap.size + 2)) (N + 1) m5 AL cL AG cG A8 c8 AP cP AA cA gl pl al y0 HR.out HT.out HN.out)
    generalize hm1 : putE m5 ⟨23, 0, 0, 0, 0⟩ = m1 at PX
    have M1 := Lib.hid hm1
    clear hm1
    have EQ := Lib.hid (show fixE m kd md vl a = m1 from by
      unfold fixE
      rw [if_pos HK.out, M5.out]
      exact M1.out)
    obtain ⟨a0, a1, a2, a3, a4, a5, a6, a7⟩ := cells8 BX.out.x0
    go_wp2_with fail
    refine PX.out.mono ?_
    rintro e y1 ⟨AL1, cL1, AG1, cG1, A81, c81, AP1, cP1, AA1, cA1, gl1, pl1, al1, rfl, hr1, hb1⟩
    have BX := Lib.hid (BX.out.below hb1)
    have HR := Lib.hid hr1
    have HT := Lib.hid (show ∀ b, (fun b => T b ∨ (w.heap.size ≤ b ∧ b < w.heap.size + 2)) b → b < y1.heap.size from fun b hb2 => Nat.lt_of_lt_of_le (HT.out b hb2) hb1.size)
    have H1 := Lib.hid (show (#[.slice AL1 m1.L.length cL1, .slice AG1 gl1.length cG1, .slice A81 m1.fx.length c81, .slice AP1 pl1.length cP1, .slice AA1 al1.length cA1, .int .i64 m1.dep, .int .i64 m1.most, .int .i64 m1.err] : Array Value).all (·.oneCell') = true from by simp [Value.oneCell'])
    clear hr1 hb1 PX a0 a1 a2 a3 a4 a5 a6 a7
    simp only []
    go_at_K
    repeat (first | (go_big_may; first | (refine wpList_store_row rfl rfT (.tmp 10) (.tmp 29) rfl (w.heap.size + 1) #[.slice AL1 m1.L.length cL1, .slice AG1 gl1.length cG1, .slice A81 m1.fx.length c81, .slice AP1 pl1.length cP1, .slice AA1 al1.length cA1, .int .i64 m1.dep, .int .i64 m1.most, .int .i64 m1.err] rfl rfl rfT #[.slice none 0 0, .slice none 0 0, .slice none 0 0, .slice none 0 0, .slice none 0 0, .int .i64 0, .int .i64 0, .int .i64 0] BX.out.x1 S8 rfl H1.out ?_; generalize hZZ : (y1).setRow (w.heap.size + 1) #[.slice AL1 m1.L.length cL1, .slice AG1 gl1.length cG1, .slice A81 m1.fx.length c81, .slice AP1 pl1.length cP1, .slice AA1 al1.length cA1, .int .i64 m1.dep, .int .i64 m1.most, .int .i64 m1.err] = ZZ; have HZZ := Lib.hid hZZ; clear hZZ)) | go_values | go_skip | go_guarded | go_step | go_upon)
    have RZ := Lib.hid (HZZ.out ▸ (HR.out.later (BX.out.kept1 #[.slice AL1 m1.L.length cL1, .slice AG1 gl1.length cG1, .slice A81 m1.fx.length c81, .slice AP1 pl1.length cP1, .slice AA1 al1.length cA1, .int .i64 m1.dep, .int .i64 m1.most, .int .i64 m1.err]) (fun b hb => .inr hb)))
    have BZ := Lib.hid (HZZ.out ▸ BX.out.row1 #[.slice AL1 m1.L.length cL1, .slice AG1 gl1.length cG1, .slice A81 m1.fx.length c81, .slice AP1 pl1.length cP1, .slice AA1 al1.length cA1, .int .i64 m1.dep, .int .i64 m1.most, .int .i64 m1.err])
    rw [EQ.out]
    obtain ⟨z0, z1, z2, z3, z4, z5, z6, z7⟩ := cells8 BZ.out.x1
    refine bodyPost_ret (v := .agg #[.slice AL1 m1.L.length cL1, .slice AG1 gl1.length cG1, .slice A81 m1.fx.length c81, .slice AP1 pl1.length cP1, .slice AA1 al1.length cA1, .int .i64 m1.dep, .int .i64 m1.most, .int .i64 m1.err]) ?_ rfl ⟨AL1, cL1, AG1, cG1, A81, c81, AP1, cP1, AA1, cA1, gl1, pl1, al1, rfl, RZ.out.less (fun b hb => .inl hb), BZ.out.b⟩
    simp [results, Tryd.results50, go_sem, z0, z1, z2, z3, z4, z5, z6, z7]

set_option maxHeartbeats 16000000 in
set_option maxRecDepth 100000 in
theorem reffix_half (kd md vl a : Int) (T : Nat → Prop) (N : Nat) (m : Em) (AL : Option Addr) (cL : Nat) (AG : Option Addr) (cG : Nat) (AF : Option Addr) (cF : Nat) (AP : Option Addr) (cP : Nat) (AA : Option Addr) (cA : Nat) (gl pl al : List Int) (w : World) (h : RfR w T N m AL cL AG cG AF cF AP cP AA cA gl pl al) (hT : ∀ b, T b → b < w.heap.size) (hN : N + 1 ≤ 100000) (hk : ¬ kd = 3) :
    Calls Tryd.prog 50 #[.agg #[.slice AL m.L.length cL, .slice AG gl.length cG, .slice AF m.fx.length cF, .slice AP pl.length cP, .slice AA al.length cA, .int .i64 m.dep, .int .i64 m.most, .int .i64 m.err], .int .i64 kd, .int .i64 md, .int .i64 vl, .int .i64 a] w (RfP T (N + 1) w (fixE m kd md vl a)) := by
  have b1 := (Below.refl w.heap.size w).alloc (Nat.le_refl _) (.cells #[.slice AL m.L.length cL, .slice AG gl.length cG, .slice AF m.fx.length cF, .slice AP pl.length cP, .slice AA al.length cA, .int .i64 m.dep, .int .i64 m.most, .int .i64 m.err] rfT)
  have BX := Lib.hid (show Bx2 w ((w.alloc (.cells #[.slice AL m.L.length cL, .slice AG gl.length cG, .slice AF m.fx.length cF, .slice AP pl.length cP, .slice AA al.length cA, .int .i64 m.dep, .int .i64 m.most, .int .i64 m.err] rfT)).alloc (.cells #[.slice none 0 0, .slice none 0 0, .slice none 0 0, .slice none 0 0, .slice none 0 0, .int .i64 0, .int .i64 0, .int .i64 0] rfT)) rfT rfT #[.slice AL m.L.length cL, .slice AG gl.length cG, .slice AF m.fx.length cF, .slice AP pl.length cP, .slice AA al.length cA, .int .i64 m.dep, .int .i64 m.most, .int .i64 m.err] #[.slice none 0 0, .slice none 0 0, .slice none 0 0, .slice none 0 0, .slice none 0 0, .int .i64 0, .int .i64 0, .int .i64 0] from ⟨b1.alloc b1.size (.cells #[.slice none 0 0, .slice none 0 0, .slice none 0 0, .slice none 0 0, .slice none 0 0, .int .i64 0, .int .i64 0, .int .i64 0] rfT), (Whole.made w rfT #[.slice AL m.L.length cL, .slice AG gl.length cG, .slice AF m.fx.length cF, .slice AP pl.length cP, .slice AA al.length cA, .int .i64 m.dep, .int .i64 m.most, .int .i64 m.err] _ rfl).alloc _, Whole.made (w.alloc (.cells #[.slice AL m.L.length cL, .slice AG gl.length cG, .slice AF m.fx.length cF, .slice AP pl.length cP, .slice AA al.length cA, .int .i64 m.dep, .int .i64 m.most, .int .i64 m.err] rfT)) rfT #[.slice none 0 0, .slice none 0 0, .slice none 0 0, .slice none 0 0, .slice none 0 0, .int .i64 0, .int .i64 0, .int .i64 0] _ (by simp)⟩)
  have HR := Lib.hid ((h.boxed 2).below BX.out.b)
  have HN := Lib.hid hN
  have HT := Lib.hid (show ∀ b, (fun b => T b ∨ (w.heap.size ≤ b ∧ b < w.heap.size + 2)) b → b < ((w.alloc (.cells #[.slice AL m.L.length cL, .slice AG gl.length cG, .slice AF m.fx.length cF, .slice AP pl.length cP, .slice AA al.length cA, .int .i64 m.dep, .int .i64 m.most, .int .i64 m.err] rfT)).alloc (.cells #[.slice none 0 0, .slice none 0 0, .slice none 0 0, .slice none 0 0, .slice none 0 0, .int .i64 0, .int .i64 0, .int .i64 0] rfT)).heap.size from fun b hb => by
    have h1 := BX.out.x1.lt
    rcases hb with hb | hb
    · have := hT b hb
      omega
    · omega)
  have S8 : (Tryd.prog.info? rfT).map (·.size) = some 8 := by kernel_rfl
  clear h hT hN b1
  have HK := Lib.hid hk
  have dk : (kd == 3) = false := beq_eq_false_iff_ne.2 hk
  have FL := Lib.hid (show (fixA m kd md vl).fx.length = m.fx.length + 1 from by simp only [fixA, List.length_append, List.length_singleton])
  clear hk
  go_enter Tryd.func50, Tryd.ntmps50
  go_wp2_with fail
  generalize hV : ((w.alloc (.cells #[.slice AL m.L.length cL, .slice AG gl.length cG, .slice AF m.fx.length cF, .slice AP pl.length cP, .slice AA al.length cA, .int .i64 m.dep, .int .i64 m.most, .int .i64 m.err] rfT)).alloc (.cells #[.slice none 0 0, .slice none 0 0, .slice none 0 0, .slice none 0 0, .slice none 0 0, .int .i64 0, .int .i64 0, .int .i64 0] rfT)) = V at *
  clear hV
  have BX := Lib.hid (BX.out.below (Below.refl _ _).drew)
  have HR := Lib.hid (HR.out.below (Below.refl _ _).drew)
  have hTy := Lib.hid (show ∀ b, (fun b => T b ∨ (w.heap.size ≤ b ∧ b < w.heap.size + 2)) b → b < V.drew.heap.size from HT.out)
  clear HT
  obtain ⟨y, hy⟩ : ∃ y, y = V.drew := ⟨_, rfl⟩
  rw [← hy] at BX HR hTy
  have BY := Lib.hid (Below.refl y.heap.size y)
  have L0 : V.drew.cell? ⟨w.heap.size, 0, none⟩ = some (.slice AL m.L.length cL) ∧ V.drew.cell? ⟨w.heap.size, 2, none⟩ = some (.slice AF m.fx.length cF) := by rw [← hy]; exact ⟨(BX.out.below BY.out).x0.cell 0, (BX.out.below BY.out).x0.cell 2⟩
  obtain ⟨i0, hi0, hz0, hz1, hz2⟩ := info_parts fxInfo
  refine wp_region_noPanic ?_
  refine region_T (S := fun y => y.cell? ⟨w.heap.size, 0, none⟩ = some (.slice AL m.L.length cL) ∧ y.cell? ⟨w.heap.size, 2, none⟩ = some (.slice AF m.fx.length cF)) 14 (by kernel_rfl) L0 (fun hHeld => ?_)
  rw [← hy] at hHeld ⊢
  clear L0 hy
  refine anyT_take (i := 1) (oi := _) (v := .pointer (some ⟨w.heap.size, 2, none⟩)) rfl (by kernel_rfl) (by kernel_rfl) (by kernel_rfl) (by kernel_rfl) (fun _ _ _ h => h) (Or.inl ⟨by rfl, fun w hSw => by (try dsimp only at hSw); go_simp⟩) (by assumption) ?_
  try simp only [Act.put, List.setIfInBounds_toArray, List.set_cons_zero, List.set_cons_succ]
  refine anyT_take (i := 2) (oi := _) (v := .slice AF m.fx.length cF) rfl (by kernel_rfl) (by kernel_rfl) (by kernel_rfl) (by kernel_rfl) (fun _ _ _ h => h) (Or.inl ⟨by rfl, fun w hSw => by (try dsimp only at hSw); go_simp⟩) (by assumption) ?_
  try simp only [Act.put, List.setIfInBounds_toArray, List.set_cons_zero, List.set_cons_succ]
  refine anyT_take (i := 4) (oi := _) (v := .pointer (some ⟨w.heap.size, 0, none⟩)) rfl (by kernel_rfl) (by kernel_rfl) (by kernel_rfl) (by kernel_rfl) (fun _ _ _ h => h) (Or.inl ⟨by rfl, fun w hSw => by (try dsimp only at hSw); go_simp⟩) (by assumption) ?_
  try simp only [Act.put, List.setIfInBounds_toArray, List.set_cons_zero, List.set_cons_succ]
  refine anyT_take (i := 5) (oi := _) (v := .slice AL m.L.length cL) rfl (by kernel_rfl) (by kernel_rfl) (by kernel_rfl) (by kernel_rfl) (fun _ _ _ h => h) (Or.inl ⟨by rfl, fun w hSw => by (try dsimp only at hSw); go_simp⟩) (by assumption) ?_
  try simp only [Act.put, List.setIfInBounds_toArray, List.set_cons_zero, List.set_cons_succ]
  refine anyT_take (i := 6) (oi := _) (v := .int .i64 m.L.length) rfl (by kernel_rfl) (by kernel_rfl) (by kernel_rfl) (by kernel_rfl) (fun _ _ _ h => h) (Or.inl ⟨by rfl, fun w hSw => by (try dsimp only at hSw); go_simp⟩) (by assumption) ?_
  try simp only [Act.put, List.setIfInBounds_toArray, List.set_cons_zero, List.set_cons_succ]
  refine anyT_take (i := 7) (oi := _) (v := .int .i64 kd) rfl (by kernel_rfl) (by kernel_rfl) (by kernel_rfl) (by kernel_rfl) (fun _ _ _ h => h) (Or.inl ⟨by rfl, fun w hSw => by (try dsimp only at hSw); go_simp⟩) (by assumption) ?_
  try simp only [Act.put, List.setIfInBounds_toArray, List.set_cons_zero, List.set_cons_succ]
  refine anyT_take (i := 8) (oi := _) (v := .int .i64 md) rfl (by kernel_rfl) (by kernel_rfl) (by kernel_rfl) (by kernel_rfl) (fun _ _ _ h => h) (Or.inl ⟨by rfl, fun w hSw => by (try dsimp only at hSw); go_simp⟩) (by assumption) ?_
  try simp only [Act.put, List.setIfInBounds_toArray, List.set_cons_zero, List.set_cons_succ]
  refine anyT_take (i := 9) (oi := _) (v := .int .i64 vl) rfl (by kernel_rfl) (by kernel_rfl) (by kernel_rfl) (by kernel_rfl) (fun _ _ _ h => h) (Or.inl ⟨by rfl, fun w hSw => by (try dsimp only at hSw); go_simp⟩) (by assumption) ?_
  try simp only [Act.put, List.setIfInBounds_toArray, List.set_cons_zero, List.set_cons_succ]
  refine anyT_take (i := 10) (oi := _) (v := .agg #[.int .i64 m.L.length, .int .i64 kd, .int .i64 md, .int .i64 vl]) rfl (by kernel_rfl) (by kernel_rfl) (by kernel_rfl) (by kernel_rfl) (fun _ _ _ h => h) (Or.inl ⟨by rfl, fun w hSw => by (try dsimp only at hSw); go_simp⟩) (by assumption) ?_
  try simp only [Act.put, List.setIfInBounds_toArray, List.set_cons_zero, List.set_cons_succ]
  have HRF := Lib.hid HR.out.fF
  refine anyT_ready (rs := [0, 11]) (by kernel_rfl) (by simp) (ReadyT.cons (o := _) rfl (fun K hK => ?_) (ReadyT.cons (o := _) rfl (fun K hK => ?_) ReadyT.nil))
  · go_simp
    have SE := Lib.hid (show y.heap.size = y.heap.size from rfl)
    have BY := Lib.hid (show Below y.heap.size y (y.alloc (.cells #[] fxT)) from BY.out.alloc BY.out.size (.cells #[] fxT))
    have OE := Lib.hid (show (y.alloc (.cells #[] fxT)).ownsRow y.heap.size fxT 4 (.slice (some ⟨y.heap.size, 0, none⟩) 0 0) 0 [] from row_built (e := fxT) (sz := 4) y #[] 0 0 rfl (Nat.le_refl _) (Nat.zero_le _) y.heap.size (by rw [SE.out]; omega) _ (by rw [SE.out]) [] rfl)
    refine hK.out _ _ ⟨(BX.out.below BY.out).x0.cell 0, (BX.out.below BY.out).x0.cell 2⟩ (fun hHeld => ?_)
    clear hK K
    try simp only [Act.put, List.setIfInBounds_toArray, List.set_cons_zero, List.set_cons_succ]
    refine anyT_ready (rs := [3, 11]) (by kernel_rfl) (by simp) (ReadyT.cons (o := _) rfl (fun K hK => ?_) (ReadyT.cons (o := _) rfl (fun K hK => ?_) ReadyT.nil))
    · refine step_app_any rfl (.tmp 11) (.tmp 13) 27 rfl y.heap.size fxT i0 _ 4 32 Tryd.underlying27 hi0 hz0 hz1 hz2 rfl (by decide) (.slice (some ⟨y.heap.size, 0, none⟩) 0 0) 0 [] rfl OE.out (.slice AF m.fx.length cF) (m.fx.length) (m.fx.flatMap fxC) rfl (HRF.out.below BY.out).1 (one_flat fx_one _) (by have := HR.out.lf; have := HN.out; unfold maxLen; omega) (by have := HR.out.lf; have := HN.out; omega) BY.out.size ?_
      intro v6 w6 ho6 hg6 hat6
      rw [Nat.zero_add, List.nil_append] at ho6
      have hform := row_form ho6
      obtain ⟨A6, c6, rfl⟩ := hform
      have BY := Lib.hid (show Below y.heap.size y w6 from BY.out.grown hg6 BY.out.size (fun b hb => (World.ownsRow.lt OE.out b hb).1))
      have O6 := Lib.hid ho6
      clear ho6 hg6 hat6 OE
      refine hK.out _ _ ⟨(BX.out.below BY.out).x0.cell 0, (BX.out.below BY.out).x0.cell 2⟩ (fun hHeld => ?_)
      clear hK K
      try simp only [Act.put, List.setIfInBounds_toArray, List.set_cons_zero, List.set_cons_succ]
      refine anyT_ready (rs := [11]) (by kernel_rfl) (by simp) (ReadyT.cons (o := _) rfl (fun K hK => ?_) ReadyT.nil)
      go_simp
      have BY := Lib.hid (show Below y.heap.size y (w6.alloc (.cells #[.int .i64 m.L.length, .int .i64 kd, .int .i64 md, .int .i64 vl] fxT)) from BY.out.alloc BY.out.size (.cells #[.int .i64 m.L.length, .int .i64 kd, .int .i64 md, .int .i64 vl] fxT))
      have XW := Lib.hid (Whole.made w6 fxT #[.int .i64 m.L.length, .int .i64 kd, .int .i64 md, .int .i64 vl] (w6.heap.size) (rfl))
      have O6 := Lib.hid (World.ownsRow.alloc O6.out (.cells #[.int .i64 m.L.length, .int .i64 kd, .int .i64 md, .int .i64 vl] fxT))
      refine hK.out _ _ ⟨(BX.out.below BY.out).x0.cell 0, (BX.out.below BY.out).x0.cell 2⟩ (fun hHeld => ?_)
      clear hK K
      try simp only [Act.put, List.setIfInBounds_toArray, List.set_cons_zero, List.set_cons_succ]
      refine anyT_ready (rs := [12]) (by kernel_rfl) (by simp) (ReadyT.cons (o := _) rfl (fun K hK => ?_) ReadyT.nil)
      have NC := Lib.hid (show ∀ (j : Nat) u, ([.int .i64 m.L.length, .int .i64 kd, .int .i64 md, .int .i64 vl] : List Value)[j]? = some u → (w6.alloc (.cells #[.int .i64 m.L.length, .int .i64 kd, .int .i64 md, .int .i64 vl] fxT)).cell? ((⟨w6.heap.size, 0, none⟩ : Addr).add j) = some u from fun j u hj => by
        rw [Go.WideShapes.add_plain, Nat.zero_add]
        exact (XW.out.cell j).trans (by simpa using hj))
      refine step_app rfl (.tmp 14) (.tmp 22) 27 rfl y.heap.size fxT i0 _ 4 32 Tryd.underlying27 hi0 hz0 hz1 hz2 rfl (by decide) (.slice A6 (m.fx.length) c6) (m.fx.length) (m.fx.flatMap fxC) rfl O6.out ⟨w6.heap.size, 0, none⟩ 1 1 [.int .i64 m.L.length, .int .i64 kd, .int .i64 md, .int .i64 vl] rfl rfl NC.out (fx_one ⟨m.L.length, kd, md, vl⟩) (by have := HR.out.lf; have := HN.out; unfold maxLen; omega) (by have := HR.out.lf; have := HN.out; omega) BY.out.size ?_
      intro v8 w8 ho8 hg8 hat8
      have hform := row_form ho8
      obtain ⟨A8, c8, rfl⟩ := hform
      have BY := Lib.hid (show Below y.heap.size y w8 from BY.out.grown hg8 BY.out.size (fun b hb => (World.ownsRow.lt O6.out b hb).1))
      have O8 := Lib.hid ho8
      clear ho8 hg8 hat8 O6 XW NC
      refine hK.out _ _ ⟨(BX.out.below BY.out).x0.cell 0, (BX.out.below BY.out).x0.cell 2⟩ (fun hHeld => ?_)
      clear hK K
      try simp only [Act.put, List.setIfInBounds_toArray, List.set_cons_zero, List.set_cons_succ]
      refine anyT_take (i := 13) (oi := _) (v := .pointer (some ⟨w.heap.size, 2, none⟩)) rfl (by kernel_rfl) (by kernel_rfl) (by kernel_rfl) (by kernel_rfl) (fun _ _ _ h => h) (Or.inl ⟨by rfl, fun w hSw => by (try dsimp only at hSw); go_simp⟩) (by assumption) ?_
      try simp only [Act.put, List.setIfInBounds_toArray, List.set_cons_zero, List.set_cons_succ]
      refine anyT_ready (rs := [14]) (by kernel_rfl) (by simp) (ReadyT.last (o := _) rfl (fun K hK => ?_))
      have t0 : w8.cell? ⟨w.heap.size, 2, none⟩ = some (.slice AF m.fx.length cF) := (BX.out.below BY.out).x0.cell 2
      have tf : w8.frozen? ⟨w.heap.size, 2, none⟩ = false := (BX.out.below BY.out).x0.free 2
      go_simp
      clear t0 tf
      refine hK.out _ _ trivial (fun _ => ?_)
      clear hK K
      try simp only [Act.put, List.setIfInBounds_toArray, List.set_cons_zero, List.set_cons_succ]
      refine anyT_done (by kernel_rfl) ?_ _
      refine NoPanic.normal ?_
      have B9 := Lib.hid (show Bx2 w (w8.setCell ⟨w.heap.size, 2, none⟩ (.slice A8 (m.fx.length + 1) c8)) rfT rfT #[.slice AL (fixA m kd md vl).L.length cL, .slice AG gl.length cG, .slice A8 (fixA m kd md vl).fx.length c8, .slice AP pl.length cP, .slice AA al.length cA, .int .i64 (fixA m kd md vl).dep, .int .i64 (fixA m kd md vl).most, .int .i64 (fixA m kd md vl).err] _ from by
        rw [FL.out]
        exact (BX.out.below BY.out).set0 2 (.slice A8 (m.fx.length + 1) c8))
      have K9 : KeptS (fun b => b = w.heap.size) w8 (w8.setCell ⟨w.heap.size, 2, none⟩ (.slice A8 (m.fx.length + 1) c8)) := KeptS.set rfl
      have hbx : w.heap.size < y.heap.size := BX.out.x0.lt
      have R9 := Lib.hid (show RfR (w8.setCell ⟨w.heap.size, 2, none⟩ (.slice A8 (m.fx.length + 1) c8)) (fun b => T b ∨ (w.heap.size ≤ b ∧ b < w.heap.size + 2)) (N + 1) (fixA m kd md vl) AL cL AG cG A8 c8 AP cP AA cA gl pl al from by
        have h0 := (HR.out.below BY.out).later K9 (fun b hb => .inr (by rw [hb]; omega))
        refine ⟨h0.fL, h0.fG, ⟨?_, fun b hb ht => ?_⟩, h0.fP, h0.fA, h0.lg, Nat.le_succ_of_le h0.lp, Nat.le_succ_of_le h0.la, by rw [FL.out]; have := h0.lf; omega, ⟨h0.ok.good, h0.ok.len, h0.ok.d0, h0.ok.dm⟩, by have := h0.nm; show m.most ≤ ((N + 1 : Nat) : Int); omega⟩
        · show World.ownsRow _ 0 fxT 4 (.slice A8 (fixA m kd md vl).fx.length c8) (fixA m kd md vl).fx.length ((m.fx ++ [(⟨m.L.length, kd, md, vl⟩ : Fxp)]).flatMap fxC)
          rw [FL.out, List.flatMap_append, List.flatMap_singleton]
          exact row_more (K9.row O8.out (fun b hb e => by have := (row_block O8.out hb).1; omega)) (Nat.zero_le _)
        · have h1 := (row_block O8.out (own_len (n' := m.fx.length + 1) hb)).1
          have h2 := hTy.out b ht
          omega)
      have HT := Lib.hid (show ∀ b, (fun b => T b ∨ (w.heap.size ≤ b ∧ b < w.heap.size + 2)) b → b < (w8.setCell ⟨w.heap.size, 2, none⟩ (.slice A8 (m.fx.length + 1) c8)).heap.size from fun b hb => Nat.lt_of_lt_of_le (hTy.out b hb) (Nat.le_trans BY.out.size K9.size))
      clear K9 hbx BX HR BY O8 hTy hHeld HRF
      generalize (w8.setCell ⟨w.heap.size, 2, none⟩ (.slice A8 (m.fx.length + 1) c8)) = y0 at *
      have BX := B9
      have HR := R9
      clear B9 R9
      obtain ⟨m5, hm5⟩ : ∃ m5, m5 = (fixA m kd md vl) := ⟨_, rfl⟩
      rw [← hm5] at BX HR
      have M5 := Lib.hid hm5.symm
      clear hm5 FL
      have PX := Lib.hid (refput_any ⟨3, a, 0, 0, 0⟩ (fun b => T b ∨ (w.heap.size ≤ b ∧ b < w.heap.size + 2)) (N + 1) m5 AL cL AG cG A8 c8 AP cP AA cA gl pl al y0 HR.out HT.out HN.out)
      generalize hm1 : putE m5 ⟨3, a, 0, 0, 0⟩ = m1 at PX
      have M1 := Lib.hid hm1
      clear hm1
      obtain ⟨a0, a1, a2, a3, a4, a5, a6, a7⟩ := cells8 BX.out.x0
      go_wp2_with fail
      refine PX.out.mono ?_
      rintro e y1 ⟨AL1, cL1, AG1, cG1, A81, c81, AP1, cP1, AA1, cA1, gl1, pl1, al1, rfl, hr1, hb1⟩
      have BX := Lib.hid (BX.out.below hb1)
      have HR := Lib.hid hr1
      have HT := Lib.hid (show ∀ b, (fun b => T b ∨ (w.heap.size ≤ b ∧ b < w.heap.size + 2)) b → b < y1.heap.size from fun b hb2 => Nat.lt_of_lt_of_le (HT.out b hb2) hb1.size)
      have H1 := Lib.hid (show (#[.slice AL1 m1.L.length cL1, .slice AG1 gl1.length cG1, .slice A81 m1.fx.length c81, .slice AP1 pl1.length cP1, .slice AA1 al1.length cA1, .int .i64 m1.dep, .int .i64 m1.most, .int .i64 m1.err] : Array Value).all (·.oneCell') = true from by simp [Value.oneCell'])
      clear hr1 hb1 PX a0 a1 a2 a3 a4 a5 a6 a7
      simp only []
      go_at_K
      repeat (first | (go_big_may; first | (refine wpList_store_row rfl rfT (.tmp 5) (.tmp 33) rfl (w.heap.size) #[.slice AL1 m1.L.length cL1, .slice AG1 gl1.length cG1, .slice A81 m1.fx.length c81, .slice AP1 pl1.length cP1, .slice AA1 al1.length cA1, .int .i64 m1.dep, .int .i64 m1.most, .int .i64 m1.err] rfl rfl rfT #[.slice AL m5.L.length cL, .slice AG gl.length cG, .slice A8 m5.fx.length c8, .slice AP pl.length cP, .slice AA al.length cA, .int .i64 m5.dep, .int .i64 m5.most, .int .i64 m5.err] BX.out.x0 S8 rfl H1.out ?_; generalize hZ1 : (y1).setRow (w.heap.size) #[.slice AL1 m1.L.length cL1, .slice AG1 gl1.length cG1, .slice A81 m1.fx.length c81, .slice AP1 pl1.length cP1, .slice AA1 al1.length cA1, .int .i64 m1.dep, .int .i64 m1.most, .int .i64 m1.err] = Z1; have HZ1 := Lib.hid hZ1; clear hZ1; have BX1 := Lib.hid (show Bx2 w Z1 rfT rfT #[.slice AL1 m1.L.length cL1, .slice AG1 gl1.length cG1, .slice A81 m1.fx.length c81, .slice AP1 pl1.length cP1, .slice AA1 al1.length cA1, .int .i64 m1.dep, .int .i64 m1.most, .int .i64 m1.err] _ from HZ1.out ▸ BX.out.row0 #[.slice AL1 m1.L.length cL1, .slice AG1 gl1.length cG1, .slice A81 m1.fx.length c81, .slice AP1 pl1.length cP1, .slice AA1 al1.length cA1, .int .i64 m1.dep, .int .i64 m1.most, .int .i64 m1.err]); have HR1 := Lib.hid (show RfR Z1 (fun b => T b ∨ (w.heap.size ≤ b ∧ b < w.heap.size + 2)) (N + 1) m1 AL1 cL1 AG1 cG1 A81 c81 AP1 cP1 AA1 cA1 gl1 pl1 al1 from HZ1.out ▸ (HR.out.later (BX.out.kept0 #[.slice AL1 m1.L.length cL1, .slice AG1 gl1.length cG1, .slice A81 m1.fx.length c81, .slice AP1 pl1.length cP1, .slice AA1 al1.length cA1, .int .i64 m1.dep, .int .i64 m1.most, .int .i64 m1.err]) (fun b hb => .inr hb))); have SZ1 := Lib.hid (show y1.heap.size ≤ Z1.heap.size from HZ1.out ▸ (BX.out.kept0 #[.slice AL1 m1.L.length cL1, .slice AG1 gl1.length cG1, .slice A81 m1.fx.length c81, .slice AP1 pl1.length cP1, .slice AA1 al1.length cA1, .int .i64 m1.dep, .int .i64 m1.most, .int .i64 m1.err]).size); obtain ⟨a0, a1, a2, a3, a4, a5, a6, a7⟩ := cells8 BX1.out.x0)) | go_values | go_skip | go_guarded | go_step | go_upon)
      have BX := BX1
      have HR := HR1
      have HT := Lib.hid (show ∀ b, (fun b => T b ∨ (w.heap.size ≤ b ∧ b < w.heap.size + 2)) b → b < Z1.heap.size from fun b hb2 => Nat.lt_of_lt_of_le (HT.out b hb2) SZ1.out)
      clear BX1 HR1 SZ1 HZ1
      have PX := Lib.hid (refput_any ⟨4, a, a, 0, 0⟩ (fun b => T b ∨ (w.heap.size ≤ b ∧ b < w.heap.size + 2)) (N + 1) m1 AL1 cL1 AG1 cG1 A81 c81 AP1 cP1 AA1 cA1 gl1 pl1 al1 Z1 HR.out HT.out HN.out)
      generalize hm2 : putE m1 ⟨4, a, a, 0, 0⟩ = m2 at PX
      have M2 := Lib.hid hm2
      clear hm2
      have EQ := Lib.hid (show fixE m kd md vl a = m2 from by
        unfold fixE
        rw [if_neg HK.out, M5.out]
        unfold halfE
        rw [M1.out]
        exact M2.out)
      refine PX.out.mono ?_
      rintro e y2 ⟨AL2, cL2, AG2, cG2, A82, c82, AP2, cP2, AA2, cA2, gl2, pl2, al2, rfl, hr1, hb1⟩
      have BX := Lib.hid (BX.out.below hb1)
      have HR := Lib.hid hr1
      have HT := Lib.hid (show ∀ b, (fun b => T b ∨ (w.heap.size ≤ b ∧ b < w.heap.size + 2)) b → b < y2.heap.size from fun b hb2 => Nat.lt_of_lt_of_le (HT.out b hb2) hb1.size)
      have H2 := Lib.hid (show (#[.slice AL2 m2.L.length cL2, .slice AG2 gl2.length cG2, .slice A82 m2.fx.length c82, .slice AP2 pl2.length cP2, .slice AA2 al2.length cA2, .int .i64 m2.dep, .int .i64 m2.most, .int .i64 m2.err] : Array Value).all (·.oneCell') = true from by simp [Value.oneCell'])
      clear hr1 hb1 PX a0 a1 a2 a3 a4 a5 a6 a7
      simp only []
      go_at_K
      repeat (first | (go_big_may; first | (refine wpList_store_row rfl rfT (.tmp 10) (.tmp 38) rfl (w.heap.size + 1) #[.slice AL2 m2.L.length cL2, .slice AG2 gl2.length cG2, .slice A82 m2.fx.length c82, .slice AP2 pl2.length cP2, .slice AA2 al2.length cA2, .int .i64 m2.dep, .int .i64 m2.most, .int .i64 m2.err] rfl rfl rfT #[.slice none 0 0, .slice none 0 0, .slice none 0 0, .slice none 0 0, .slice none 0 0, .int .i64 0, .int .i64 0, .int .i64 0] BX.out.x1 S8 rfl H2.out ?_; generalize hZZ : (y2).setRow (w.heap.size + 1) #[.slice AL2 m2.L.length cL2, .slice AG2 gl2.length cG2, .slice A82 m2.fx.length c82, .slice AP2 pl2.length cP2, .slice AA2 al2.length cA2, .int .i64 m2.dep, .int .i64 m2.most, .int .i64 m2.err] = ZZ; have HZZ := Lib.hid hZZ; clear hZZ)) | go_values | go_skip | go_guarded | go_step | go_upon)
      have RZ := Lib.hid (HZZ.out ▸ (HR.out.later (BX.out.kept1 #[.slice AL2 m2.L.length cL2, .slice AG2 gl2.length cG2, .slice A82 m2.fx.length c82, .slice AP2 pl2.length cP2, .slice AA2 al2.length cA2, .int .i64 m2.dep, .int .i64 m2.most, .int .i64 m2.err]) (fun b hb => .inr hb)))
      have BZ := Lib.hid (HZZ.out ▸ BX.out.row1 #[.slice AL2 m2.L.length cL2, .slice AG2 gl2.length cG2, .slice A82 m2.fx.length c82, .slice AP2 pl2.length cP2, .slice AA2 al2.length cA2, .int .i64 m2.dep, .int .i64 m2.most, .int .i64 m2.err])
      rw [EQ.out]
      obtain ⟨z0, z1, z2, z3, z4, z5, z6, z7⟩ := cells8 BZ.out.x1
      refine bodyPost_ret (v := .agg #[.slice AL2 m2.L.length cL2, .slice AG2 gl2.length cG2, .slice A82 m2.fx.length c82, .slice AP2 pl2.length cP2, .slice AA2 al2.length cA2, .int .i64 m2.dep, .int .i64 m2.most, .int .i64 m2.err]) ?_ rfl ⟨AL2, cL2, AG2, cG2, A82, c82, AP2, cP2, AA2, cA2, gl2, pl2, al2, rfl, RZ.out.less (fun b hb => .inl hb), BZ.out.b⟩
      simp [results, Tryd.results50, go_sem, z0, z1, z2, z3, z4, z5, z6, z7]
    · go_simp
      have BY := Lib.hid (show Below y.heap.size y ((y.alloc (.cells #[] fxT)).alloc (.cells #[.int .i64 m.L.length, .int .i64 kd, .int .i64 md, .int .i64 vl] fxT)) from BY.out.alloc BY.out.size (.cells #[.int .i64 m.L.length, .int .i64 kd, .int .i64 md, .int .i64 vl] fxT))
      have XW := Lib.hid (Whole.made (y.alloc (.cells #[] fxT)) fxT #[.int .i64 m.L.length, .int .i64 kd, .int .i64 md, .int .i64 vl] (y.heap.size + 1) (by simp))
      have OE := Lib.hid (World.ownsRow.alloc OE.out (.cells #[.int .i64 m.L.length, .int .i64 kd, .int .i64 md, .int .i64 vl] fxT))
      refine hK.out _ _ ⟨(BX.out.below BY.out).x0.cell 0, (BX.out.below BY.out).x0.cell 2⟩ (fun hHeld => ?_)
      clear hK K
      try simp only [Act.put, List.setIfInBounds_toArray, List.set_cons_zero, List.set_cons_succ]
      refine anyT_ready (rs := [3]) (by kernel_rfl) (by simp) (ReadyT.cons (o := _) rfl (fun K hK => ?_) ReadyT.nil)
      refine step_app_any rfl (.tmp 11) (.tmp 13) 27 rfl y.heap.size fxT i0 _ 4 32 Tryd.underlying27 hi0 hz0 hz1 hz2 rfl (by decide) (.slice (some ⟨y.heap.size, 0, none⟩) 0 0) 0 [] rfl OE.out (.slice AF m.fx.length cF) (m.fx.length) (m.fx.flatMap fxC) rfl (HRF.out.below BY.out).1 (one_flat fx_one _) (by have := HR.out.lf; have := HN.out; unfold maxLen; omega) (by have := HR.out.lf; have := HN.out; omega) BY.out.size ?_
      intro v6 w6 ho6 hg6 hat6
      rw [Nat.zero_add, List.nil_append] at ho6
      have hform := row_form ho6
      obtain ⟨A6, c6, rfl⟩ := hform
      have XW := Lib.hid (show Whole w6 (y.heap.size + 1) fxT #[.int .i64 m.L.length, .int .i64 kd, .int .i64 md, .int .i64 vl] from (hg6.block (y.heap.size + 1) XW.out.lt (fun e => absurd (Option.some.inj e : y.heap.size + 1 = y.heap.size) (by omega))).trans XW.out)
      have BY := Lib.hid (show Below y.heap.size y w6 from BY.out.grown hg6 BY.out.size (fun b hb => (World.ownsRow.lt OE.out b hb).1))
      have O6 := Lib.hid ho6
      clear ho6 hg6 hat6 OE
      refine hK.out _ _ ⟨(BX.out.below BY.out).x0.cell 0, (BX.out.below BY.out).x0.cell 2⟩ (fun hHeld => ?_)
      clear hK K
      try simp only [Act.put, List.setIfInBounds_toArray, List.set_cons_zero, List.set_cons_succ]
      refine anyT_ready (rs := [12]) (by kernel_rfl) (by simp) (ReadyT.cons (o := _) rfl (fun K hK => ?_) ReadyT.nil)
      have NC := Lib.hid (show ∀ (j : Nat) u, ([.int .i64 m.L.length, .int .i64 kd, .int .i64 md, .int .i64 vl] : List Value)[j]? = some u → w6.cell? ((⟨y.heap.size + 1, 0, none⟩ : Addr).add j) = some u from fun j u hj => by
        rw [Go.WideShapes.add_plain, Nat.zero_add]
        exact (XW.out.cell j).trans (by simpa using hj))
      refine step_app rfl (.tmp 14) (.tmp 22) 27 rfl y.heap.size fxT i0 _ 4 32 Tryd.underlying27 hi0 hz0 hz1 hz2 rfl (by decide) (.slice A6 (m.fx.length) c6) (m.fx.length) (m.fx.flatMap fxC) rfl O6.out ⟨y.heap.size + 1, 0, none⟩ 1 1 [.int .i64 m.L.length, .int .i64 kd, .int .i64 md, .int .i64 vl] rfl rfl NC.out (fx_one ⟨m.L.length, kd, md, vl⟩) (by have := HR.out.lf; have := HN.out; unfold maxLen; omega) (by have := HR.out.lf; have := HN.out; omega) BY.out.size ?_
      intro v8 w8 ho8 hg8 hat8
      have hform := row_form ho8
      obtain ⟨A8, c8, rfl⟩ := hform
      have BY := Lib.hid (show Below y.heap.size y w8 from BY.out.grown hg8 BY.out.size (fun b hb => (World.ownsRow.lt O6.out b hb).1))
      have O8 := Lib.hid ho8
      clear ho8 hg8 hat8 O6 XW NC
      refine hK.out _ _ ⟨(BX.out.below BY.out).x0.cell 0, (BX.out.below BY.out).x0.cell 2⟩ (fun hHeld => ?_)
      clear hK K
      try simp only [Act.put, List.setIfInBounds_toArray, List.set_cons_zero, List.set_cons_succ]
      refine anyT_take (i := 13) (oi := _) (v := .pointer (some ⟨w.heap.size, 2, none⟩)) rfl (by kernel_rfl) (by kernel_rfl) (by kernel_rfl) (by kernel_rfl) (fun _ _ _ h => h) (Or.inl ⟨by rfl, fun w hSw => by (try dsimp only at hSw); go_simp⟩) (by assumption) ?_
      try simp only [Act.put, List.setIfInBounds_toArray, List.set_cons_zero, List.set_cons_succ]
      refine anyT_ready (rs := [14]) (by kernel_rfl) (by simp) (ReadyT.last (o := _) rfl (fun K hK => ?_))
      have t0 : w8.cell? ⟨w.heap.size, 2, none⟩ = some (.slice AF m.fx.length cF) := (BX.out.below BY.out).x0.cell 2
      have tf : w8.frozen? ⟨w.heap.size, 2, none⟩ = false := (BX.out.below BY.out).x0.free 2
      go_simp
      clear t0 tf
      refine hK.out _ _ trivial (fun _ => ?_)
      clear hK K
      try simp only [Act.put, List.setIfInBounds_toArray, List.set_cons_zero, List.set_cons_succ]
      refine anyT_done (by kernel_rfl) ?_ _
      refine NoPanic.normal ?_
      have B9 := Lib.hid (show Bx2 w (w8.setCell ⟨w.heap.size, 2, none⟩ (.slice A8 (m.fx.length + 1) c8)) rfT rfT #[.slice AL (fixA m kd md vl).L.length cL, .slice AG gl.length cG, .slice A8 (fixA m kd md vl).fx.length c8, .slice AP pl.length cP, .slice AA al.length cA, .int .i64 (fixA m kd md vl).dep, .int .i64 (fixA m kd md vl).most, .int .i64 (fixA m kd md vl).err] _ from by
        rw [FL.out]
        exact (BX.out.below BY.out).set0 2 (.slice A8 (m.fx.length + 1) c8))
      have K9 : KeptS (fun b => b = w.heap.size) w8 (w8.setCell ⟨w.heap.size, 2, none⟩ (.slice A8 (m.fx.length + 1) c8)) := KeptS.set rfl
      have hbx : w.heap.size < y.heap.size := BX.out.x0.lt
      have R9 := Lib.hid (show RfR (w8.setCell ⟨w.heap.size, 2, none⟩ (.slice A8 (m.fx.length + 1) c8)) (fun b => T b ∨ (w.heap.size ≤ b ∧ b < w.heap.size + 2)) (N + 1) (fixA m kd md vl) AL cL AG cG A8 c8 AP cP AA cA gl pl al from by
        have h0 := (HR.out.below BY.out).later K9 (fun b hb => .inr (by rw [hb]; omega))
        refine ⟨h0.fL, h0.fG, ⟨?_, fun b hb ht => ?_⟩, h0.fP, h0.fA, h0.lg, Nat.le_succ_of_le h0.lp, Nat.le_succ_of_le h0.la, by rw [FL.out]; have := h0.lf; omega, ⟨h0.ok.good, h0.ok.len, h0.ok.d0, h0.ok.dm⟩, by have := h0.nm; show m.most ≤ ((N + 1 : Nat) : Int); omega⟩
        · show World.ownsRow _ 0 fxT 4 (.slice A8 (fixA m kd md vl).fx.length c8) (fixA m kd md vl).fx.length ((m.fx ++ [(⟨m.L.length, kd, md, vl⟩ : Fxp)]).flatMap fxC)
          rw [FL.out, List.flatMap_append, List.flatMap_singleton]
          exact row_more (K9.row O8.out (fun b hb e => by have := (row_block O8.out hb).1; omega)) (Nat.zero_le _)
        · have h1 := (row_block O8.out (own_len (n' := m.fx.length + 1) hb)).1
          have h2 := hTy.out b ht
          omega)
      have HT := Lib.hid (show ∀ b, (fun b => T b ∨ (w.heap.size ≤ b ∧ b < w.heap.size + 2)) b → b < (w8.setCell ⟨w.heap.size, 2, none⟩ (.slice A8 (m.fx.length + 1) c8)).heap.size from fun b hb => Nat.lt_of_lt_of_le (hTy.out b hb) (Nat.le_trans BY.out.size K9.size))
      clear K9 hbx BX HR BY O8 hTy hHeld HRF
      generalize (w8.setCell ⟨w.heap.size, 2, none⟩ (.slice A8 (m.fx.length + 1) c8)) = y0 at *
      have BX := B9
      have HR := R9
      clear B9 R9
      obtain ⟨m5, hm5⟩ : ∃ m5, m5 = (fixA m kd md vl) := ⟨_, rfl⟩
      rw [← hm5] at BX HR
      have M5 := Lib.hid hm5.symm
      clear hm5 FL
      have PX := Lib.hid (refput_any ⟨3, a, 0, 0, 0⟩ (fun b => T b ∨ (w.heap.size ≤ b ∧ b < w.heap.size + 2)) (N + 1) m5 AL cL AG cG A8 c8 AP cP AA cA gl pl al y0 HR.out HT.out HN.out)
      generalize hm1 : putE m5 ⟨3, a, 0, 0, 0⟩ = m1 at PX
      have M1 := Lib.hid hm1
      clear hm1
      obtain ⟨a0, a1, a2, a3, a4, a5, a6, a7⟩ := cells8 BX.out.x0
      go_wp2_with fail
      refine PX.out.mono ?_
      rintro e y1 ⟨AL1, cL1, AG1, cG1, A81, c81, AP1, cP1, AA1, cA1, gl1, pl1, al1, rfl, hr1, hb1⟩
      have BX := Lib.hid (BX.out.below hb1)
      have HR := Lib.hid hr1
      have HT := Lib.hid (show ∀ b, (fun b => T b ∨ (w.heap.size ≤ b ∧ b < w.heap.size + 2)) b → b < y1.heap.size from fun b hb2 => Nat.lt_of_lt_of_le (HT.out b hb2) hb1.size)
      have H1 := Lib.hid (show (#[.slice AL1 m1.L.length cL1, .slice AG1 gl1.length cG1, .slice A81 m1.fx.length c81, .slice AP1 pl1.length cP1, .slice AA1 al1.length cA1, .int .i64 m1.dep, .int .i64 m1.most, .int .i64 m1.err] : Array Value).all (·.oneCell') = true from by simp [Value.oneCell'])
      clear hr1 hb1 PX a0 a1 a2 a3 a4 a5 a6 a7
      simp only []
      go_at_K
      repeat (first | (go_big_may; first | (refine wpList_store_row rfl rfT (.tmp 5) (.tmp 33) rfl (w.heap.size) #[.slice AL1 m1.L.length cL1, .slice AG1 gl1.length cG1, .slice A81 m1.fx.length c81, .slice AP1 pl1.length cP1, .slice AA1 al1.length cA1, .int .i64 m1.dep, .int .i64 m1.most, .int .i64 m1.err] rfl rfl rfT #[.slice AL m5.L.length cL, .slice AG gl.length cG, .slice A8 m5.fx.length c8, .slice AP pl.length cP, .slice AA al.length cA, .int .i64 m5.dep, .int .i64 m5.most, .int .i64 m5.err] BX.out.x0 S8 rfl H1.out ?_; generalize hZ1 : (y1).setRow (w.heap.size) #[.slice AL1 m1.L.length cL1, .slice AG1 gl1.length cG1, .slice A81 m1.fx.length c81, .slice AP1 pl1.length cP1, .slice AA1 al1.length cA1, .int .i64 m1.dep, .int .i64 m1.most, .int .i64 m1.err] = Z1; have HZ1 := Lib.hid hZ1; clear hZ1; have BX1 := Lib.hid (show Bx2 w Z1 rfT rfT #[.slice AL1 m1.L.length cL1, .slice AG1 gl1.length cG1, .slice A81 m1.fx.length c81, .slice AP1 pl1.length cP1, .slice AA1 al1.length cA1, .int .i64 m1.dep, .int .i64 m1.most, .int .i64 m1.err] _ from HZ1.out ▸ BX.out.row0 #[.slice AL1 m1.L.length cL1, .slice AG1 gl1.length cG1, .slice A81 m1.fx.length c81, .slice AP1 pl1.length cP1, .slice AA1 al1.length cA1, .int .i64 m1.dep, .int .i64 m1.most, .int .i64 m1.err]); have HR1 := Lib.hid (show RfR Z1 (fun b => T b ∨ (w.heap.size ≤ b ∧ b < w.heap.size + 2)) (N + 1) m1 AL1 cL1 AG1 cG1 A81 c81 AP1 cP1 AA1 cA1 gl1 pl1 al1 from HZ1.out ▸ (HR.out.later (BX.out.kept0 #[.slice AL1 m1.L.length cL1, .slice AG1 gl1.length cG1, .slice A81 m1.fx.length c81, .slice AP1 pl1.length cP1, .slice AA1 al1.length cA1, .int .i64 m1.dep, .int .i64 m1.most, .int .i64 m1.err]) (fun b hb => .inr hb))); have SZ1 := Lib.hid (show y1.heap.size ≤ Z1.heap.size from HZ1.out ▸ (BX.out.kept0 #[.slice AL1 m1.L.length cL1, .slice AG1 gl1.length cG1, .slice A81 m1.fx.length c81, .slice AP1 pl1.length cP1, .slice AA1 al1.length cA1, .int .i64 m1.dep, .int .i64 m1.most, .int .i64 m1.err]).size); obtain ⟨a0, a1, a2, a3, a4, a5, a6, a7⟩ := cells8 BX1.out.x0)) | go_values | go_skip | go_guarded | go_step | go_upon)
      have BX := BX1
      have HR := HR1
      have HT := Lib.hid (show ∀ b, (fun b => T b ∨ (w.heap.size ≤ b ∧ b < w.heap.size + 2)) b → b < Z1.heap.size from fun b hb2 => Nat.lt_of_lt_of_le (HT.out b hb2) SZ1.out)
      clear BX1 HR1 SZ1 HZ1
      have PX := Lib.hid (refput_any ⟨4, a, a, 0, 0⟩ (fun b => T b ∨ (w.heap.size ≤ b ∧ b < w.heap.size + 2)) (N + 1) m1 AL1 cL1 AG1 cG1 A81 c81 AP1 cP1 AA1 cA1 gl1 pl1 al1 Z1 HR.out HT.out HN.out)
      generalize hm2 : putE m1 ⟨4, a, a, 0, 0⟩ = m2 at PX
      have M2 := Lib.hid hm2
      clear hm2
      have EQ := Lib.hid (show fixE m kd md vl a = m2 from by
        unfold fixE
        rw [if_neg HK.out, M5.out]
        unfold halfE
        rw [M1.out]
        exact M2.out)
      refine PX.out.mono ?_
      rintro e y2 ⟨AL2, cL2, AG2, cG2, A82, c82, AP2, cP2, AA2, cA2, gl2, pl2, al2, rfl, hr1, hb1⟩
      have BX := Lib.hid (BX.out.below hb1)
      have HR := Lib.hid hr1
      have HT := Lib.hid (show ∀ b, (fun b => T b ∨ (w.heap.size ≤ b ∧ b < w.heap.size + 2)) b → b < y2.heap.size from fun b hb2 => Nat.lt_of_lt_of_le (HT.out b hb2) hb1.size)
      have H2 := Lib.hid (show (#[.slice AL2 m2.L.length cL2, .slice AG2 gl2.length cG2, .slice A82 m2.fx.length c82, .slice AP2 pl2.length cP2, .slice AA2 al2.length cA2, .int .i64 m2.dep, .int .i64 m2.most, .int .i64 m2.err] : Array Value).all (·.oneCell') = true from by simp [Value.oneCell'])
      clear hr1 hb1 PX a0 a1 a2 a3 a4 a5 a6 a7
      simp only []
      go_at_K
      repeat (first | (go_big_may; first | (refine wpList_store_row rfl rfT (.tmp 10) (.tmp 38) rfl (w.heap.size + 1) #[.slice AL2 m2.L.length cL2, .slice AG2 gl2.length cG2, .slice A82 m2.fx.length c82, .slice AP2 pl2.length cP2, .slice AA2 al2.length cA2, .int .i64 m2.dep, .int .i64 m2.most, .int .i64 m2.err] rfl rfl rfT #[.slice none 0 0, .slice none 0 0, .slice none 0 0, .slice none 0 0, .slice none 0 0, .int .i64 0, .int .i64 0, .int .i64 0] BX.out.x1 S8 rfl H2.out ?_; generalize hZZ : (y2).setRow (w.heap.size + 1) #[.slice AL2 m2.L.length cL2, .slice AG2 gl2.length cG2, .slice A82 m2.fx.length c82, .slice AP2 pl2.length cP2, .slice AA2 al2.length cA2, .int .i64 m2.dep, .int .i64 m2.most, .int .i64 m2.err] = ZZ; have HZZ := Lib.hid hZZ; clear hZZ)) | go_values | go_skip | go_guarded | go_step | go_upon)
      have RZ := Lib.hid (HZZ.out ▸ (HR.out.later (BX.out.kept1 #[.slice AL2 m2.L.length cL2, .slice AG2 gl2.length cG2, .slice A82 m2.fx.length c82, .slice AP2 pl2.length cP2, .slice AA2 al2.length cA2, .int .i64 m2.dep, .int .i64 m2.most, .int .i64 m2.err]) (fun b hb => .inr hb)))
      have BZ := Lib.hid (HZZ.out ▸ BX.out.row1 #[.slice AL2 m2.L.length cL2, .slice AG2 gl2.length cG2, .slice A82 m2.fx.length c82, .slice AP2 pl2.length cP2, .slice AA2 al2.length cA2, .int .i64 m2.dep, .int .i64 m2.most, .int .i64 m2.err])
      rw [EQ.out]
      obtain ⟨z0, z1, z2, z3, z4, z5, z6, z7⟩ := cells8 BZ.out.x1
      refine bodyPost_ret (v := .agg #[.slice AL2 m2.L.length cL2, .slice AG2 gl2.length cG2, .slice A82 m2.fx.length c82, .slice AP2 pl2.length cP2, .slice AA2 al2.length cA2, .int .i64 m2.dep, .int .i64 m2.most, .int .i64 m2.err]) ?_ rfl ⟨AL2, cL2, AG2, cG2, A82, c82, AP2, cP2, AA2, cA2, gl2, pl2, al2, rfl, RZ.out.less (fun b hb => .inl hb), BZ.out.b⟩
      simp [results, Tryd.results50, go_sem, z0, z1, z2, z3, z4, z5, z6, z7]
  · go_simp
    have BY := Lib.hid (show Below y.heap.size y (y.alloc (.cells #[.int .i64 m.L.length, .int .i64 kd, .int .i64 md, .int .i64 vl] fxT)) from BY.out.alloc BY.out.size (.cells #[.int .i64 m.L.length, .int .i64 kd, .int .i64 md, .int .i64 vl] fxT))
    have XW := Lib.hid (Whole.made y fxT #[.int .i64 m.L.length, .int .i64 kd, .int .i64 md, .int .i64 vl] (y.heap.size) (rfl))
    refine hK.out _ _ ⟨(BX.out.below BY.out).x0.cell 0, (BX.out.below BY.out).x0.cell 2⟩ (fun hHeld => ?_)
    clear hK K
    try simp only [Act.put, List.setIfInBounds_toArray, List.set_cons_zero, List.set_cons_succ]
    refine anyT_ready (rs := [0]) (by kernel_rfl) (by simp) (ReadyT.cons (o := _) rfl (fun K hK => ?_) ReadyT.nil)
    go_simp
    have SE := Lib.hid (show (y.alloc (.cells #[.int .i64 m.L.length, .int .i64 kd, .int .i64 md, .int .i64 vl] fxT)).heap.size = y.heap.size + 1 from by simp)
    have BY := Lib.hid (show Below y.heap.size y ((y.alloc (.cells #[.int .i64 m.L.length, .int .i64 kd, .int .i64 md, .int .i64 vl] fxT)).alloc (.cells #[] fxT)) from BY.out.alloc BY.out.size (.cells #[] fxT))
    have OE := Lib.hid (show ((y.alloc (.cells #[.int .i64 m.L.length, .int .i64 kd, .int .i64 md, .int .i64 vl] fxT)).alloc (.cells #[] fxT)).ownsRow y.heap.size fxT 4 (.slice (some ⟨y.heap.size + 1, 0, none⟩) 0 0) 0 [] from row_built (e := fxT) (sz := 4) (y.alloc (.cells #[.int .i64 m.L.length, .int .i64 kd, .int .i64 md, .int .i64 vl] fxT)) #[] 0 0 rfl (Nat.le_refl _) (Nat.zero_le _) y.heap.size (by rw [SE.out]; omega) _ (by rw [SE.out]) [] rfl)
    have XW := Lib.hid (show Whole ((y.alloc (.cells #[.int .i64 m.L.length, .int .i64 kd, .int .i64 md, .int .i64 vl] fxT)).alloc (.cells #[] fxT)) (y.heap.size) fxT #[.int .i64 m.L.length, .int .i64 kd, .int .i64 md, .int .i64 vl] from XW.out.alloc _)
    refine hK.out _ _ ⟨(BX.out.below BY.out).x0.cell 0, (BX.out.below BY.out).x0.cell 2⟩ (fun hHeld => ?_)
    clear hK K
    try simp only [Act.put, List.setIfInBounds_toArray, List.set_cons_zero, List.set_cons_succ]
    refine anyT_ready (rs := [3]) (by kernel_rfl) (by simp) (ReadyT.cons (o := _) rfl (fun K hK => ?_) ReadyT.nil)
    refine step_app_any rfl (.tmp 11) (.tmp 13) 27 rfl y.heap.size fxT i0 _ 4 32 Tryd.underlying27 hi0 hz0 hz1 hz2 rfl (by decide) (.slice (some ⟨y.heap.size + 1, 0, none⟩) 0 0) 0 [] rfl OE.out (.slice AF m.fx.length cF) (m.fx.length) (m.fx.flatMap fxC) rfl (HRF.out.below BY.out).1 (one_flat fx_one _) (by have := HR.out.lf; have := HN.out; unfold maxLen; omega) (by have := HR.out.lf; have := HN.out; omega) BY.out.size ?_
    intro v6 w6 ho6 hg6 hat6
    rw [Nat.zero_add, List.nil_append] at ho6
    have hform := row_form ho6
    obtain ⟨A6, c6, rfl⟩ := hform
    have XW := Lib.hid (show Whole w6 (y.heap.size) fxT #[.int .i64 m.L.length, .int .i64 kd, .int .i64 md, .int .i64 vl] from (hg6.block (y.heap.size) XW.out.lt (fun e => absurd (Option.some.inj e : y.heap.size = y.heap.size + 1) (by omega))).trans XW.out)
    have BY := Lib.hid (show Below y.heap.size y w6 from BY.out.grown hg6 BY.out.size (fun b hb => (World.ownsRow.lt OE.out b hb).1))
    have O6 := Lib.hid ho6
    clear ho6 hg6 hat6 OE
    refine hK.out _ _ ⟨(BX.out.below BY.out).x0.cell 0, (BX.out.below BY.out).x0.cell 2⟩ (fun hHeld => ?_)
    clear hK K
    try simp only [Act.put, List.setIfInBounds_toArray, List.set_cons_zero, List.set_cons_succ]
    refine anyT_ready (rs := [12]) (by kernel_rfl) (by simp) (ReadyT.cons (o := _) rfl (fun K hK => ?_) ReadyT.nil)
    have NC := Lib.hid (show ∀ (j : Nat) u, ([.int .i64 m.L.length, .int .i64 kd, .int .i64 md, .int .i64 vl] : List Value)[j]? = some u → w6.cell? ((⟨y.heap.size, 0, none⟩ : Addr).add j) = some u from fun j u hj => by
      rw [Go.WideShapes.add_plain, Nat.zero_add]
      exact (XW.out.cell j).trans (by simpa using hj))
    refine step_app rfl (.tmp 14) (.tmp 22) 27 rfl y.heap.size fxT i0 _ 4 32 Tryd.underlying27 hi0 hz0 hz1 hz2 rfl (by decide) (.slice A6 (m.fx.length) c6) (m.fx.length) (m.fx.flatMap fxC) rfl O6.out ⟨y.heap.size, 0, none⟩ 1 1 [.int .i64 m.L.length, .int .i64 kd, .int .i64 md, .int .i64 vl] rfl rfl NC.out (fx_one ⟨m.L.length, kd, md, vl⟩) (by have := HR.out.lf; have := HN.out; unfold maxLen; omega) (by have := HR.out.lf; have := HN.out; omega) BY.out.size ?_
    intro v8 w8 ho8 hg8 hat8
    have hform := row_form ho8
    obtain ⟨A8, c8, rfl⟩ := hform
    have BY := Lib.hid (show Below y.heap.size y w8 from BY.out.grown hg8 BY.out.size (fun b hb => (World.ownsRow.lt O6.out b hb).1))
    have O8 := Lib.hid ho8
    clear ho8 hg8 hat8 O6 XW NC
    refine hK.out _ _ ⟨(BX.out.below BY.out).x0.cell 0, (BX.out.below BY.out).x0.cell 2⟩ (fun hHeld => ?_)
    clear hK K
    try simp only [Act.put, List.setIfInBounds_toArray, List.set_cons_zero, List.set_cons_succ]
    refine anyT_take (i := 13) (oi := _) (v := .pointer (some ⟨w.heap.size, 2, none⟩)) rfl (by kernel_rfl) (by kernel_rfl) (by kernel_rfl) (by kernel_rfl) (fun _ _ _ h => h) (Or.inl ⟨by rfl, fun w hSw => by (try dsimp only at hSw); go_simp⟩) (by assumption) ?_
    try simp only [Act.put, List.setIfInBounds_toArray, List.set_cons_zero, List.set_cons_succ]
    refine anyT_ready (rs := [14]) (by kernel_rfl) (by simp) (ReadyT.last (o := _) rfl (fun K hK => ?_))
    have t0 : w8.cell? ⟨w.heap.size, 2, none⟩ = some (.slice AF m.fx.length cF) := (BX.out.below BY.out).x0.cell 2
    have tf : w8.frozen? ⟨w.heap.size, 2, none⟩ = false := (BX.out.below BY.out).x0.free 2
    go_simp
    clear t0 tf
    refine hK.out _ _ trivial (fun _ => ?_)
    clear hK K
    try simp only [Act.put, List.setIfInBounds_toArray, List.set_cons_zero, List.set_cons_succ]
    refine anyT_done (by kernel_rfl) ?_ _
    refine NoPanic.normal ?_
    have B9 := Lib.hid (show Bx2 w (w8.setCell ⟨w.heap.size, 2, none⟩ (.slice A8 (m.fx.length + 1) c8)) rfT rfT #[.slice AL (fixA m kd md vl).L.length cL, .slice AG gl.length cG, .slice A8 (fixA m kd md vl).fx.length c8, .slice AP pl.length cP, .slice AA al.length cA, .int .i64 (fixA m kd md vl).dep, .int .i64 (fixA m kd md vl).most, .int .i64 (fixA m kd md vl).err] _ from by
      rw [FL.out]
      exact (BX.out.below BY.out).set0 2 (.slice A8 (m.fx.length + 1) c8))
    have K9 : KeptS (fun b => b = w.heap.size) w8 (w8.setCell ⟨w.heap.size, 2, none⟩ (.slice A8 (m.fx.length + 1) c8)) := KeptS.set rfl
    have hbx : w.heap.size < y.heap.size := BX.out.x0.lt
    have R9 := Lib.hid (show RfR (w8.setCell ⟨w.heap.size, 2, none⟩ (.slice A8 (m.fx.length + 1) c8)) (fun b => T b ∨ (w.heap.size ≤ b ∧ b < w.heap.size + 2)) (N + 1) (fixA m kd md vl) AL cL AG cG A8 c8 AP cP AA cA gl pl al from by
      have h0 := (HR.out.below BY.out).later K9 (fun b hb => .inr (by rw [hb]; omega))
      refine ⟨h0.fL, h0.fG, ⟨?_, fun b hb ht => ?_⟩, h0.fP, h0.fA, h0.lg, Nat.le_succ_of_le h0.lp, Nat.le_succ_of_le h0.la, by rw [FL.out]; have := h0.lf; omega, ⟨h0.ok.good, h0.ok.len, h0.ok.d0, h0.ok.dm⟩, by have := h0.nm; show m.most ≤ ((N + 1 : Nat) : Int); omega⟩
      · show World.ownsRow _ 0 fxT 4 (.slice A8 (fixA m kd md vl).fx.length c8) (fixA m kd md vl).fx.length ((m.fx ++ [(⟨m.L.length, kd, md, vl⟩ : Fxp)]).flatMap fxC)
        rw [FL.out, List.flatMap_append, List.flatMap_singleton]
        exact row_more (K9.row O8.out (fun b hb e => by have := (row_block O8.out hb).1; omega)) (Nat.zero_le _)
      · have h1 := (row_block O8.out (own_len (n' := m.fx.length + 1) hb)).1
        have h2 := hTy.out b ht
        omega)
    have HT := Lib.hid (show ∀ b, (fun b => T b ∨ (w.heap.size ≤ b ∧ b < w.heap.size + 2)) b → b < (w8.setCell ⟨w.heap.size, 2, none⟩ (.slice A8 (m.fx.length + 1) c8)).heap.size from fun b hb => Nat.lt_of_lt_of_le (hTy.out b hb) (Nat.le_trans BY.out.size K9.size))
    clear K9 hbx BX HR BY O8 hTy hHeld HRF
    generalize (w8.setCell ⟨w.heap.size, 2, none⟩ (.slice A8 (m.fx.length + 1) c8)) = y0 at *
    have BX := B9
    have HR := R9
    clear B9 R9
    obtain ⟨m5, hm5⟩ : ∃ m5, m5 = (fixA m kd md vl) := ⟨_, rfl⟩
    rw [← hm5] at BX HR
    have M5 := Lib.hid hm5.symm
    clear hm5 FL
    have PX := Lib.hid (refput_any ⟨3, a, 0, 0, 0⟩ (fun b => T b ∨ (w.heap.size ≤ b ∧ b < w.heap.size + 2)) (N + 1) m5 AL cL AG cG A8 c8 AP cP AA cA gl pl al y0 HR.out HT.out HN.out)
    generalize hm1 : putE m5 ⟨3, a, 0, 0, 0⟩ = m1 at PX
    have M1 := Lib.hid hm1
    clear hm1
    obtain ⟨a0, a1, a2, a3, a4, a5, a6, a7⟩ := cells8 BX.out.x0
    go_wp2_with fail
    refine PX.out.mono ?_
    rintro e y1 ⟨AL1, cL1, AG1, cG1, A81, c81, AP1, cP1, AA1, cA1, gl1, pl1, al1, rfl, hr1, hb1⟩
    have BX := Lib.hid (BX.out.below hb1)
    have HR := Lib.hid hr1
    have HT := Lib.hid (show ∀ b, (fun b => T b ∨ (w.heap.size ≤ b ∧ b < w.heap.size + 2)) b → b < y1.heap.size from fun b hb2 => Nat.lt_of_lt_of_le (HT.out b hb2) hb1.size)
    have H1 := Lib.hid (show (#[.slice AL1 m1.L.length cL1, .slice AG1 gl1.length cG1, .slice A81 m1.fx.length c81, .slice AP1 pl1.length cP1, .slice AA1 al1.length cA1, .int .i64 m1.dep, .int .i64 m1.most, .int .i64 m1.err] : Array Value).all (·.oneCell') = true from by simp [Value.oneCell'])
    clear hr1 hb1 PX a0 a1 a2 a3 a4 a5 a6 a7
    simp only []
    go_at_K
    repeat (first | (go_big_may; first | (refine wpList_store_row rfl rfT (.tmp 5) (.tmp 33) rfl (w.heap.size) #[.slice AL1 m1.L.length cL1, .slice AG1 gl1.length cG1, .slice A81 m1.fx.length c81, .slice AP1 pl1.length cP1, .slice AA1 al1.length cA1, .int .i64 m1.dep, .int .i64 m1.most, .int .i64 m1.err] rfl rfl rfT #[.slice AL m5.L.length cL, .slice AG gl.length cG, .slice A8 m5.fx.length c8, .slice AP pl.length cP, .slice AA al.length cA, .int .i64 m5.dep, .int .i64 m5.most, .int .i64 m5.err] BX.out.x0 S8 rfl H1.out ?_; generalize hZ1 : (y1).setRow (w.heap.size) #[.slice AL1 m1.L.length cL1, .slice AG1 gl1.length cG1, .slice A81 m1.fx.length c81, .slice AP1 pl1.length cP1, .slice AA1 al1.length cA1, .int .i64 m1.dep, .int .i64 m1.most, .int .i64 m1.err] = Z1; have HZ1 := Lib.hid hZ1; clear hZ1; have BX1 := Lib.hid (show Bx2 w Z1 rfT rfT #[.slice AL1 m1.L.length cL1, .slice AG1 gl1.length cG1, .slice A81 m1.fx.length c81, .slice AP1 pl1.length cP1, .slice AA1 al1.length cA1, .int .i64 m1.dep, .int .i64 m1.most, .int .i64 m1.err] _ from HZ1.out ▸ BX.out.row0 #[.slice AL1 m1.L.length cL1, .slice AG1 gl1.length cG1, .slice A81 m1.fx.length c81, .slice AP1 pl1.length cP1, .slice AA1 al1.length cA1, .int .i64 m1.dep, .int .i64 m1.most, .int .i64 m1.err]); have HR1 := Lib.hid (show RfR Z1 (fun b => T b ∨ (w.heap.size ≤ b ∧ b < w.heap.size + 2)) (N + 1) m1 AL1 cL1 AG1 cG1 A81 c81 AP1 cP1 AA1 cA1 gl1 pl1 al1 from HZ1.out ▸ (HR.out.later (BX.out.kept0 #[.slice AL1 m1.L.length cL1, .slice AG1 gl1.length cG1, .slice A81 m1.fx.length c81, .slice AP1 pl1.length cP1, .slice AA1 al1.length cA1, .int .i64 m1.dep, .int .i64 m1.most, .int .i64 m1.err]) (fun b hb => .inr hb))); have SZ1 := Lib.hid (show y1.heap.size ≤ Z1.heap.size from HZ1.out ▸ (BX.out.kept0 #[.slice AL1 m1.L.length cL1, .slice AG1 gl1.length cG1, .slice A81 m1.fx.length c81, .slice AP1 pl1.length cP1, .slice AA1 al1.length cA1, .int .i64 m1.dep, .int .i64 m1.most, .int .i64 m1.err]).size); obtain ⟨a0, a1, a2, a3, a4, a5, a6, a7⟩ := cells8 BX1.out.x0)) | go_values | go_skip | go_guarded | go_step | go_upon)
    have BX := BX1
    have HR := HR1
    have HT := Lib.hid (show ∀ b, (fun b => T b ∨ (w.heap.size ≤ b ∧ b < w.heap.size + 2)) b → b < Z1.heap.size from fun b hb2 => Nat.lt_of_lt_of_le (HT.out b hb2) SZ1.out)
    clear BX1 HR1 SZ1 HZ1
    have PX := Lib.hid (refput_any ⟨4, a, a, 0, 0⟩ (fun b => T b ∨ (w.heap.size ≤ b ∧ b < w.heap.size + 2)) (N + 1) m1 AL1 cL1 AG1 cG1 A81 c81 AP1 cP1 AA1 cA1 gl1 pl1 al1 Z1 HR.out HT.out HN.out)
    generalize hm2 : putE m1 ⟨4, a, a, 0, 0⟩ = m2 at PX
    have M2 := Lib.hid hm2
    clear hm2
    have EQ := Lib.hid (show fixE m kd md vl a = m2 from by
      unfold fixE
      rw [if_neg HK.out, M5.out]
      unfold halfE
      rw [M1.out]
      exact M2.out)
    refine PX.out.mono ?_
    rintro e y2 ⟨AL2, cL2, AG2, cG2, A82, c82, AP2, cP2, AA2, cA2, gl2, pl2, al2, rfl, hr1, hb1⟩
    have BX := Lib.hid (BX.out.below hb1)
    have HR := Lib.hid hr1
    have HT := Lib.hid (show ∀ b, (fun b => T b ∨ (w.heap.size ≤ b ∧ b < w.heap.size + 2)) b → b < y2.heap.size from fun b hb2 => Nat.lt_of_lt_of_le (HT.out b hb2) hb1.size)
    have H2 := Lib.hid (show (#[.slice AL2 m2.L.length cL2, .slice AG2 gl2.length cG2, .slice A82 m2.fx.length c82, .slice AP2 pl2.length cP2, .slice AA2 al2.length cA2, .int .i64 m2.dep, .int .i64 m2.most, .int .i64 m2.err] : Array Value).all (·.oneCell') = true from by simp [Value.oneCell'])
    clear hr1 hb1 PX a0 a1 a2 a3 a4 a5 a6 a7
    simp only []
    go_at_K
    repeat (first | (go_big_may; first | (refine wpList_store_row rfl rfT (.tmp 10) (.tmp 38) rfl (w.heap.size + 1) #[.slice AL2 m2.L.length cL2, .slice AG2 gl2.length cG2, .slice A82 m2.fx.length c82, .slice AP2 pl2.length cP2, .slice AA2 al2.length cA2, .int .i64 m2.dep, .int .i64 m2.most, .int .i64 m2.err] rfl rfl rfT #[.slice none 0 0, .slice none 0 0, .slice none 0 0, .slice none 0 0, .slice none 0 0, .int .i64 0, .int .i64 0, .int .i64 0] BX.out.x1 S8 rfl H2.out ?_; generalize hZZ : (y2).setRow (w.heap.size + 1) #[.slice AL2 m2.L.length cL2, .slice AG2 gl2.length cG2, .slice A82 m2.fx.length c82, .slice AP2 pl2.length cP2, .slice AA2 al2.length cA2, .int .i64 m2.dep, .int .i64 m2.most, .int .i64 m2.err] = ZZ; have HZZ := Lib.hid hZZ; clear hZZ)) | go_values | go_skip | go_guarded | go_step | go_upon)
    have RZ := Lib.hid (HZZ.out ▸ (HR.out.later (BX.out.kept1 #[.slice AL2 m2.L.length cL2, .slice AG2 gl2.length cG2, .slice A82 m2.fx.length c82, .slice AP2 pl2.length cP2, .slice AA2 al2.length cA2, .int .i64 m2.dep, .int .i64 m2.most, .int .i64 m2.err]) (fun b hb => .inr hb)))
    have BZ := Lib.hid (HZZ.out ▸ BX.out.row1 #[.slice AL2 m2.L.length cL2, .slice AG2 gl2.length cG2, .slice A82 m2.fx.length c82, .slice AP2 pl2.length cP2, .slice AA2 al2.length cA2, .int .i64 m2.dep, .int .i64 m2.most, .int .i64 m2.err])
    rw [EQ.out]
    obtain ⟨z0, z1, z2, z3, z4, z5, z6, z7⟩ := cells8 BZ.out.x1
    refine bodyPost_ret (v := .agg #[.slice AL2 m2.L.length cL2, .slice AG2 gl2.length cG2, .slice A82 m2.fx.length c82, .slice AP2 pl2.length cP2, .slice AA2 al2.length cA2, .int .i64 m2.dep, .int .i64 m2.most, .int .i64 m2.err]) ?_ rfl ⟨AL2, cL2, AG2, cG2, A82, c82, AP2, cP2, AA2, cA2, gl2, pl2, al2, rfl, RZ.out.less (fun b hb => .inl hb), BZ.out.b⟩
    simp [results, Tryd.results50, go_sem, z0, z1, z2, z3, z4, z5, z6, z7]

theorem reffix_any (kd md vl a : Int) (T : Nat → Prop) (N : Nat) (m : Em) (AL : Option Addr) (cL : Nat) (AG : Option Addr) (cG : Nat) (AF : Option Addr) (cF : Nat) (AP : Option Addr) (cP : Nat) (AA : Option Addr) (cA : Nat) (gl pl al : List Int) (w : World) (h : RfR w T N m AL cL AG cG AF cF AP cP AA cA gl pl al) (hT : ∀ b, T b → b < w.heap.size) (hN : N + 1 ≤ 100000) :
    Calls Tryd.prog 50 #[.agg #[.slice AL m.L.length cL, .slice AG gl.length cG, .slice AF m.fx.length cF, .slice AP pl.length cP, .slice AA al.length cA, .int .i64 m.dep, .int .i64 m.most, .int .i64 m.err], .int .i64 kd, .int .i64 md, .int .i64 vl, .int .i64 a] w (RfP T (N + 1) w (fixE m kd md vl a)) := by
  by_cases hk : kd = 3
  · exact reffix_call kd md vl a T N m AL cL AG cG AF cF AP cP AA cA gl pl al w h hT hN hk
  · exact reffix_half kd md vl a T N m AL cL AG cG AF cF AP cP AA cA gl pl al w h hT hN hk
end Go.Proofs.YtcijjmmckofckaaDoor
