/- Emit: the answers' Put. -/
import Derived.Test.YtcijjmmckofckaaDoorEmtP
import Derived.Test.YtcijjmmckofckaaDoorEmtE
namespace Go.Proofs.YtcijjmmckofckaaDoor
open Go.ChangeShapes Go.WideShapes Go.ChangeAt Go.RowKit
set_option linter.unusedVariables false
set_option linter.unusedSimpArgs false

theorem put_goodR {m : Em} {i : Ins} (hc : chk i = 0) (hr : m.L.length < 16384) : putE m i = ⟨m.L ++ [i], m.fx, m.dep, m.most, m.err⟩ := by
  unfold putE putF putI
  rw [if_pos hr, if_pos hc, if_pos hc]

theorem own_len {A : Option Addr} {n n' c b : Nat} (h : (Value.slice A n c).ownBlock = some b) : (Value.slice A n' c).ownBlock = some b := by cases A <;> exact h

set_option maxHeartbeats 16000000 in
set_option maxRecDepth 100000 in
theorem refput_ok (i : Ins) (T : Nat → Prop) (N : Nat) (m : Em) (AL : Option Addr) (cL : Nat) (AG : Option Addr) (cG : Nat) (AF : Option Addr) (cF : Nat) (AP : Option Addr) (cP : Nat) (AA : Option Addr) (cA : Nat) (gl pl al : List Int) (w : World) (h : RfR w T N m AL cL AG cG AF cF AP cP AA cA gl pl al) (hT : ∀ b, T b → b < w.heap.size) (hN : N ≤ 100000) (hc : chk i = 0) :
    Calls Tryd.prog 47 #[.agg #[.slice AL m.L.length cL, .slice AG gl.length cG, .slice AF m.fx.length cF, .slice AP pl.length cP, .slice AA al.length cA, .int .i64 m.dep, .int .i64 m.most, .int .i64 m.err], .agg #[.int .i64 i.op, .int .i64 i.a, .int .i64 i.b, .int .i64 i.c, .int .i64 i.n]] w (RfP T N w (putE m i)) := by
  have b1 := (Below.refl w.heap.size w).alloc (Nat.le_refl _) (.cells #[.slice AL m.L.length cL, .slice AG gl.length cG, .slice AF m.fx.length cF, .slice AP pl.length cP, .slice AA al.length cA, .int .i64 m.dep, .int .i64 m.most, .int .i64 m.err] rfT)
  have b2 := b1.alloc b1.size (.cells #[.int .i64 i.op, .int .i64 i.a, .int .i64 i.b, .int .i64 i.c, .int .i64 i.n] rnT)
  have BX := Lib.hid (show Bx3 w (((w.alloc (.cells #[.slice AL m.L.length cL, .slice AG gl.length cG, .slice AF m.fx.length cF, .slice AP pl.length cP, .slice AA al.length cA, .int .i64 m.dep, .int .i64 m.most, .int .i64 m.err] rfT)).alloc (.cells #[.int .i64 i.op, .int .i64 i.a, .int .i64 i.b, .int .i64 i.c, .int .i64 i.n] rnT)).alloc (.cells #[.slice none 0 0, .slice none 0 0, .slice none 0 0, .slice none 0 0, .slice none 0 0, .int .i64 0, .int .i64 0, .int .i64 0] rfT)) rfT rnT rfT #[.slice AL m.L.length cL, .slice AG gl.length cG, .slice AF m.fx.length cF, .slice AP pl.length cP, .slice AA al.length cA, .int .i64 m.dep, .int .i64 m.most, .int .i64 m.err] #[.int .i64 i.op, .int .i64 i.a, .int .i64 i.b, .int .i64 i.c, .int .i64 i.n] #[.slice none 0 0, .slice none 0 0, .slice none 0 0, .slice none 0 0, .slice none 0 0, .int .i64 0, .int .i64 0, .int .i64 0] from ⟨b2.alloc b2.size (.cells #[.slice none 0 0, .slice none 0 0, .slice none 0 0, .slice none 0 0, .slice none 0 0, .int .i64 0, .int .i64 0, .int .i64 0] rfT), ((Whole.made w rfT #[.slice AL m.L.length cL, .slice AG gl.length cG, .slice AF m.fx.length cF, .slice AP pl.length cP, .slice AA al.length cA, .int .i64 m.dep, .int .i64 m.most, .int .i64 m.err] _ rfl).alloc _).alloc _, (Whole.made (w.alloc (.cells #[.slice AL m.L.length cL, .slice AG gl.length cG, .slice AF m.fx.length cF, .slice AP pl.length cP, .slice AA al.length cA, .int .i64 m.dep, .int .i64 m.most, .int .i64 m.err] rfT)) rnT #[.int .i64 i.op, .int .i64 i.a, .int .i64 i.b, .int .i64 i.c, .int .i64 i.n] _ (by simp)).alloc _, Whole.made ((w.alloc (.cells #[.slice AL m.L.length cL, .slice AG gl.length cG, .slice AF m.fx.length cF, .slice AP pl.length cP, .slice AA al.length cA, .int .i64 m.dep, .int .i64 m.most, .int .i64 m.err] rfT)).alloc (.cells #[.int .i64 i.op, .int .i64 i.a, .int .i64 i.b, .int .i64 i.c, .int .i64 i.n] rnT)) rfT #[.slice none 0 0, .slice none 0 0, .slice none 0 0, .slice none 0 0, .slice none 0 0, .int .i64 0, .int .i64 0, .int .i64 0] _ (by simp)⟩)
  have HR := Lib.hid ((h.boxed 3).below BX.out.b)
  have HN := Lib.hid hN
  have HT := Lib.hid (show ∀ b, (fun b => T b ∨ (w.heap.size ≤ b ∧ b < w.heap.size + 3)) b → b < (((w.alloc (.cells #[.slice AL m.L.length cL, .slice AG gl.length cG, .slice AF m.fx.length cF, .slice AP pl.length cP, .slice AA al.length cA, .int .i64 m.dep, .int .i64 m.most, .int .i64 m.err] rfT)).alloc (.cells #[.int .i64 i.op, .int .i64 i.a, .int .i64 i.b, .int .i64 i.c, .int .i64 i.n] rnT)).alloc (.cells #[.slice none 0 0, .slice none 0 0, .slice none 0 0, .slice none 0 0, .slice none 0 0, .int .i64 0, .int .i64 0, .int .i64 0] rfT)).heap.size from fun b hb => by
    have h1 := BX.out.x2.lt
    rcases hb with hb | hb
    · have := hT b hb
      omega
    · omega)
  have S8 : (Tryd.prog.info? rfT).map (·.size) = some 8 := by kernel_rfl
  have S5 : (Tryd.prog.info? rnT).map (·.size) = some 5 := by kernel_rfl
  have CK := Lib.hid (refcheck_any i.op i.a i.b i.c i.n (((w.alloc (.cells #[.slice AL m.L.length cL, .slice AG gl.length cG, .slice AF m.fx.length cF, .slice AP pl.length cP, .slice AA al.length cA, .int .i64 m.dep, .int .i64 m.most, .int .i64 m.err] rfT)).alloc (.cells #[.int .i64 i.op, .int .i64 i.a, .int .i64 i.b, .int .i64 i.c, .int .i64 i.n] rnT)).alloc (.cells #[.slice none 0 0, .slice none 0 0, .slice none 0 0, .slice none 0 0, .slice none 0 0, .int .i64 0, .int .i64 0, .int .i64 0] rfT)))
  unfold instrV at CK
  clear h hT hN b1 b2
  have i0 : (((w.alloc (.cells #[.slice AL m.L.length cL, .slice AG gl.length cG, .slice AF m.fx.length cF, .slice AP pl.length cP, .slice AA al.length cA, .int .i64 m.dep, .int .i64 m.most, .int .i64 m.err] rfT)).alloc (.cells #[.int .i64 i.op, .int .i64 i.a, .int .i64 i.b, .int .i64 i.c, .int .i64 i.n] rnT)).alloc (.cells #[.slice none 0 0, .slice none 0 0, .slice none 0 0, .slice none 0 0, .slice none 0 0, .int .i64 0, .int .i64 0, .int .i64 0] rfT)).cell? ⟨w.heap.size + 1, 0, none⟩ = some (.int .i64 i.op) := BX.out.x1.cell 0
  have i1 : (((w.alloc (.cells #[.slice AL m.L.length cL, .slice AG gl.length cG, .slice AF m.fx.length cF, .slice AP pl.length cP, .slice AA al.length cA, .int .i64 m.dep, .int .i64 m.most, .int .i64 m.err] rfT)).alloc (.cells #[.int .i64 i.op, .int .i64 i.a, .int .i64 i.b, .int .i64 i.c, .int .i64 i.n] rnT)).alloc (.cells #[.slice none 0 0, .slice none 0 0, .slice none 0 0, .slice none 0 0, .slice none 0 0, .int .i64 0, .int .i64 0, .int .i64 0] rfT)).cell? ⟨w.heap.size + 1, 1, none⟩ = some (.int .i64 i.a) := BX.out.x1.cell 1
  have i2 : (((w.alloc (.cells #[.slice AL m.L.length cL, .slice AG gl.length cG, .slice AF m.fx.length cF, .slice AP pl.length cP, .slice AA al.length cA, .int .i64 m.dep, .int .i64 m.most, .int .i64 m.err] rfT)).alloc (.cells #[.int .i64 i.op, .int .i64 i.a, .int .i64 i.b, .int .i64 i.c, .int .i64 i.n] rnT)).alloc (.cells #[.slice none 0 0, .slice none 0 0, .slice none 0 0, .slice none 0 0, .slice none 0 0, .int .i64 0, .int .i64 0, .int .i64 0] rfT)).cell? ⟨w.heap.size + 1, 2, none⟩ = some (.int .i64 i.b) := BX.out.x1.cell 2
  have i3 : (((w.alloc (.cells #[.slice AL m.L.length cL, .slice AG gl.length cG, .slice AF m.fx.length cF, .slice AP pl.length cP, .slice AA al.length cA, .int .i64 m.dep, .int .i64 m.most, .int .i64 m.err] rfT)).alloc (.cells #[.int .i64 i.op, .int .i64 i.a, .int .i64 i.b, .int .i64 i.c, .int .i64 i.n] rnT)).alloc (.cells #[.slice none 0 0, .slice none 0 0, .slice none 0 0, .slice none 0 0, .slice none 0 0, .int .i64 0, .int .i64 0, .int .i64 0] rfT)).cell? ⟨w.heap.size + 1, 3, none⟩ = some (.int .i64 i.c) := BX.out.x1.cell 3
  have i4 : (((w.alloc (.cells #[.slice AL m.L.length cL, .slice AG gl.length cG, .slice AF m.fx.length cF, .slice AP pl.length cP, .slice AA al.length cA, .int .i64 m.dep, .int .i64 m.most, .int .i64 m.err] rfT)).alloc (.cells #[.int .i64 i.op, .int .i64 i.a, .int .i64 i.b, .int .i64 i.c, .int .i64 i.n] rnT)).alloc (.cells #[.slice none 0 0, .slice none 0 0, .slice none 0 0, .slice none 0 0, .slice none 0 0, .int .i64 0, .int .i64 0, .int .i64 0] rfT)).cell? ⟨w.heap.size + 1, 4, none⟩ = some (.int .i64 i.n) := BX.out.x1.cell 4
  rw [show checkOf i.op i.a i.b i.c i.n = 0 from hc] at CK
  have CJ := Lib.hid hc
  go_enter Tryd.func47, Tryd.ntmps47
  go_wp2_with fail
  generalize (((w.alloc (.cells #[.slice AL m.L.length cL, .slice AG gl.length cG, .slice AF m.fx.length cF, .slice AP pl.length cP, .slice AA al.length cA, .int .i64 m.dep, .int .i64 m.most, .int .i64 m.err] rfT)).alloc (.cells #[.int .i64 i.op, .int .i64 i.a, .int .i64 i.b, .int .i64 i.c, .int .i64 i.n] rnT)).alloc (.cells #[.slice none 0 0, .slice none 0 0, .slice none 0 0, .slice none 0 0, .slice none 0 0, .int .i64 0, .int .i64 0, .int .i64 0] rfT)) = V at *
  refine CK.out.mono ?_
  rintro e y0 ⟨rfl, hb⟩
  have BX := Lib.hid (BX.out.below hb)
  have HR := Lib.hid (HR.out.below hb)
  have HT := Lib.hid (show ∀ b, (fun b => T b ∨ (w.heap.size ≤ b ∧ b < w.heap.size + 3)) b → b < y0.heap.size from fun b hb2 => Nat.lt_of_lt_of_le (HT.out b hb2) hb.size)
  clear hb CK i0 i1 i2 i3 i4
  have PN := Lib.hid (fun (hr : ¬ m.L.length < 16384) => putE_no (m := m) (m1 := m) (i := i) (by unfold putF; rw [if_pos hc]) hr)
  by_cases hr : m.L.length < 16384
  case neg =>
    have dr : decide ((16384 : Int) ≤ m.L.length) = true := decide_eq_true (by omega)
    have FE := Lib.hid (reffail_any 242 (fun b => T b ∨ (w.heap.size ≤ b ∧ b < w.heap.size + 3)) N m AL cL AG cG AF cF AP cP AA cA gl pl al y0 HR.out HT.out HN.out)
    generalize hm9 : failE m 242 = m9 at FE
    have M9 := Lib.hid (show putE m i = m9 from by rw [← hm9]; exact PN.out hr)
    clear hr hm9
    obtain ⟨a0, a1, a2, a3, a4, a5, a6, a7⟩ := cells8 BX.out.x0
    go_wp2_with fail
    refine FE.out.mono ?_
    rintro e y1 ⟨AL9, cL9, AG9, cG9, AF9, cF9, AP9, cP9, AA9, cA9, gl9, pl9, al9, rfl, hr9, hb9⟩
    have BE := Lib.hid (BX.out.below hb9)
    have RE := Lib.hid hr9
    have H1 := Lib.hid (show (#[.slice AL9 m9.L.length cL9, .slice AG9 gl9.length cG9, .slice AF9 m9.fx.length cF9, .slice AP9 pl9.length cP9, .slice AA9 al9.length cA9, .int .i64 m9.dep, .int .i64 m9.most, .int .i64 m9.err] : Array Value).all (·.oneCell') = true from by simp [Value.oneCell'])
    clear hb9 hr9 FE a0 a1 a2 a3 a4 a5 a6 a7
    simp only []
    go_at_K
    repeat (first | (go_big_may; first | (refine wpList_store_row rfl rfT (.tmp 4) (.tmp 19) rfl (w.heap.size + 1 + 1) #[.slice AL9 m9.L.length cL9, .slice AG9 gl9.length cG9, .slice AF9 m9.fx.length cF9, .slice AP9 pl9.length cP9, .slice AA9 al9.length cA9, .int .i64 m9.dep, .int .i64 m9.most, .int .i64 m9.err] rfl rfl rfT #[.slice none 0 0, .slice none 0 0, .slice none 0 0, .slice none 0 0, .slice none 0 0, .int .i64 0, .int .i64 0, .int .i64 0] BE.out.x2 S8 rfl H1.out ?_; generalize hZZ : (y1).setRow (w.heap.size + 1 + 1) #[.slice AL9 m9.L.length cL9, .slice AG9 gl9.length cG9, .slice AF9 m9.fx.length cF9, .slice AP9 pl9.length cP9, .slice AA9 al9.length cA9, .int .i64 m9.dep, .int .i64 m9.most, .int .i64 m9.err] = ZZ; have HZZ := Lib.hid hZZ; clear hZZ)) | go_values | go_skip | go_guarded | go_step | go_upon)
    have RZ := Lib.hid (HZZ.out ▸ (RE.out.later (BE.out.kept2 #[.slice AL9 m9.L.length cL9, .slice AG9 gl9.length cG9, .slice AF9 m9.fx.length cF9, .slice AP9 pl9.length cP9, .slice AA9 al9.length cA9, .int .i64 m9.dep, .int .i64 m9.most, .int .i64 m9.err]) (fun b hb => .inr hb)))
    have BZ := Lib.hid (HZZ.out ▸ BE.out.row2 #[.slice AL9 m9.L.length cL9, .slice AG9 gl9.length cG9, .slice AF9 m9.fx.length cF9, .slice AP9 pl9.length cP9, .slice AA9 al9.length cA9, .int .i64 m9.dep, .int .i64 m9.most, .int .i64 m9.err])
    rw [M9.out]
    obtain ⟨z0, z1, z2, z3, z4, z5, z6, z7⟩ := cells8 BZ.out.x2
    refine bodyPost_ret (v := .agg #[.slice AL9 m9.L.length cL9, .slice AG9 gl9.length cG9, .slice AF9 m9.fx.length cF9, .slice AP9 pl9.length cP9, .slice AA9 al9.length cA9, .int .i64 m9.dep, .int .i64 m9.most, .int .i64 m9.err]) ?_ rfl ⟨AL9, cL9, AG9, cG9, AF9, cF9, AP9, cP9, AA9, cA9, gl9, pl9, al9, rfl, RZ.out.less (fun b hb => .inl hb), BZ.out.b⟩
    simp [results, Tryd.results47, go_sem, z0, z1, z2, z3, z4, z5, z6, z7]
  case pos =>
    have HG := Lib.hid (show gl.length ≤ m.L.length from HR.out.lg)
    have PE := Lib.hid (put_goodR (m := m) hc hr)
    have dr : decide ((16384 : Int) ≤ m.L.length) = false := decide_eq_false (by omega)
    have HL := Lib.hid hr
    clear hr
    have a0 : y0.cell? ⟨w.heap.size, 0, none⟩ = some (.slice AL m.L.length cL) := BX.out.x0.cell 0
    go_wp2_with fail
    have BX := Lib.hid (BX.out.below (Below.refl _ _).drew)
    have HR := Lib.hid (HR.out.below (Below.refl _ _).drew)
    have hTy := Lib.hid (show ∀ b, (fun b => T b ∨ (w.heap.size ≤ b ∧ b < w.heap.size + 3)) b → b < y0.drew.heap.size from HT.out)
    clear a0
    obtain ⟨y, hy⟩ : ∃ y, y = y0.drew := ⟨_, rfl⟩
    rw [← hy] at BX HR hTy
    have BY := Lib.hid (Below.refl y.heap.size y)
    have L0 : y0.drew.cell? ⟨w.heap.size, 0, none⟩ = some (.slice AL m.L.length cL) ∧ y0.drew.cell? ⟨w.heap.size + 1, 0, none⟩ = some (.int .i64 i.op) ∧ y0.drew.cell? ⟨w.heap.size + 1, 1, none⟩ = some (.int .i64 i.a) ∧ y0.drew.cell? ⟨w.heap.size + 1, 2, none⟩ = some (.int .i64 i.b) ∧ y0.drew.cell? ⟨w.heap.size + 1, 3, none⟩ = some (.int .i64 i.c) ∧ y0.drew.cell? ⟨w.heap.size + 1, 4, none⟩ = some (.int .i64 i.n) := by rw [← hy]; exact ⟨(BX.out.below BY.out).x0.cell 0, (BX.out.below BY.out).x1.cell 0, (BX.out.below BY.out).x1.cell 1, (BX.out.below BY.out).x1.cell 2, (BX.out.below BY.out).x1.cell 3, (BX.out.below BY.out).x1.cell 4⟩
    obtain ⟨i0, hi0, hz0, hz1, hz2⟩ := info_parts rnInfo
    refine wp_region_noPanic ?_
    refine region_T (S := fun y => y.cell? ⟨w.heap.size, 0, none⟩ = some (.slice AL m.L.length cL) ∧ y.cell? ⟨w.heap.size + 1, 0, none⟩ = some (.int .i64 i.op) ∧ y.cell? ⟨w.heap.size + 1, 1, none⟩ = some (.int .i64 i.a) ∧ y.cell? ⟨w.heap.size + 1, 2, none⟩ = some (.int .i64 i.b) ∧ y.cell? ⟨w.heap.size + 1, 3, none⟩ = some (.int .i64 i.c) ∧ y.cell? ⟨w.heap.size + 1, 4, none⟩ = some (.int .i64 i.n)) 8 (by kernel_rfl) L0 (fun hHeld => ?_)
    rw [← hy] at hHeld ⊢
    clear L0 hy
    refine anyT_take (i := 1) (oi := _) (v := .pointer (some ⟨w.heap.size, 0, none⟩)) rfl (by kernel_rfl) (by kernel_rfl) (by kernel_rfl) (by kernel_rfl) (fun _ _ _ h => h) (Or.inl ⟨by rfl, fun w hSw => by (try dsimp only at hSw); go_simp⟩) (by assumption) ?_
    try simp only [Act.put, List.setIfInBounds_toArray, List.set_cons_zero, List.set_cons_succ]
    refine anyT_take (i := 2) (oi := _) (v := .slice AL m.L.length cL) rfl (by kernel_rfl) (by kernel_rfl) (by kernel_rfl) (by kernel_rfl) (fun _ _ _ h => h) (Or.inl ⟨by rfl, fun w hSw => by (try dsimp only at hSw); go_simp⟩) (by assumption) ?_
    try simp only [Act.put, List.setIfInBounds_toArray, List.set_cons_zero, List.set_cons_succ]
    refine anyT_take (i := 4) (oi := _) (v := .agg #[.int .i64 i.op, .int .i64 i.a, .int .i64 i.b, .int .i64 i.c, .int .i64 i.n]) rfl (by kernel_rfl) (by kernel_rfl) (by kernel_rfl) (by kernel_rfl) (fun _ _ _ h => h) (Or.inl ⟨by rfl, fun w hSw => by (try dsimp only at hSw); go_simp⟩) (by assumption) ?_
    try simp only [Act.put, List.setIfInBounds_toArray, List.set_cons_zero, List.set_cons_succ]
    have HRL := Lib.hid HR.out.fL
    refine anyT_ready (rs := [0, 5]) (by kernel_rfl) (by simp) (ReadyT.cons (o := _) rfl (fun K hK => ?_) (ReadyT.cons (o := _) rfl (fun K hK => ?_) ReadyT.nil))
    · go_simp
      have SE := Lib.hid (show y.heap.size = y.heap.size from rfl)
      have BY := Lib.hid (show Below y.heap.size y (y.alloc (.cells #[] rnT)) from BY.out.alloc BY.out.size (.cells #[] rnT))
      have OE := Lib.hid (show (y.alloc (.cells #[] rnT)).ownsRow y.heap.size rnT 5 (.slice (some ⟨y.heap.size, 0, none⟩) 0 0) 0 [] from row_built (e := rnT) (sz := 5) y #[] 0 0 rfl (Nat.le_refl _) (Nat.zero_le _) y.heap.size (by rw [SE.out]; omega) _ (by rw [SE.out]) [] rfl)
      refine hK.out _ _ ⟨(BX.out.below BY.out).x0.cell 0, (BX.out.below BY.out).x1.cell 0, (BX.out.below BY.out).x1.cell 1, (BX.out.below BY.out).x1.cell 2, (BX.out.below BY.out).x1.cell 3, (BX.out.below BY.out).x1.cell 4⟩ (fun hHeld => ?_)
      clear hK K
      try simp only [Act.put, List.setIfInBounds_toArray, List.set_cons_zero, List.set_cons_succ]
      refine anyT_ready (rs := [3, 5]) (by kernel_rfl) (by simp) (ReadyT.cons (o := _) rfl (fun K hK => ?_) (ReadyT.cons (o := _) rfl (fun K hK => ?_) ReadyT.nil))
      · refine step_app_any rfl (.tmp 20) (.tmp 22) 25 rfl y.heap.size rnT i0 _ 5 40 Tryd.underlying25 hi0 hz0 hz1 hz2 rfl (by decide) (.slice (some ⟨y.heap.size, 0, none⟩) 0 0) 0 [] rfl OE.out (.slice AL m.L.length cL) (m.L.length) (m.L.flatMap inC) rfl (HRL.out.below BY.out).1 (one_flat in_one _) (by have := HR.out.ok.len; unfold maxLen; omega) (by have := HR.out.ok.len; omega) BY.out.size ?_
        intro v6 w6 ho6 hg6 hat6
        rw [Nat.zero_add, List.nil_append] at ho6
        have hform := row_form ho6
        obtain ⟨A6, c6, rfl⟩ := hform
        have BY := Lib.hid (show Below y.heap.size y w6 from BY.out.grown hg6 BY.out.size (fun b hb => (World.ownsRow.lt OE.out b hb).1))
        have O6 := Lib.hid ho6
        clear ho6 hg6 hat6 OE
        refine hK.out _ _ ⟨(BX.out.below BY.out).x0.cell 0, (BX.out.below BY.out).x1.cell 0, (BX.out.below BY.out).x1.cell 1, (BX.out.below BY.out).x1.cell 2, (BX.out.below BY.out).x1.cell 3, (BX.out.below BY.out).x1.cell 4⟩ (fun hHeld => ?_)
        clear hK K
        try simp only [Act.put, List.setIfInBounds_toArray, List.set_cons_zero, List.set_cons_succ]
        refine anyT_ready (rs := [5]) (by kernel_rfl) (by simp) (ReadyT.cons (o := _) rfl (fun K hK => ?_) ReadyT.nil)
        go_simp
        have BY := Lib.hid (show Below y.heap.size y (w6.alloc (.cells #[.int .i64 i.op, .int .i64 i.a, .int .i64 i.b, .int .i64 i.c, .int .i64 i.n] rnT)) from BY.out.alloc BY.out.size (.cells #[.int .i64 i.op, .int .i64 i.a, .int .i64 i.b, .int .i64 i.c, .int .i64 i.n] rnT))
        have XW := Lib.hid (Whole.made w6 rnT #[.int .i64 i.op, .int .i64 i.a, .int .i64 i.b, .int .i64 i.c, .int .i64 i.n] (w6.heap.size) (rfl))
        have O6 := Lib.hid (World.ownsRow.alloc O6.out (.cells #[.int .i64 i.op, .int .i64 i.a, .int .i64 i.b, .int .i64 i.c, .int .i64 i.n] rnT))
        refine hK.out _ _ ⟨(BX.out.below BY.out).x0.cell 0, (BX.out.below BY.out).x1.cell 0, (BX.out.below BY.out).x1.cell 1, (BX.out.below BY.out).x1.cell 2, (BX.out.below BY.out).x1.cell 3, (BX.out.below BY.out).x1.cell 4⟩ (fun hHeld => ?_)
        clear hK K
        try simp only [Act.put, List.setIfInBounds_toArray, List.set_cons_zero, List.set_cons_succ]
        refine anyT_ready (rs := [6]) (by kernel_rfl) (by simp) (ReadyT.cons (o := _) rfl (fun K hK => ?_) ReadyT.nil)
        have NC := Lib.hid (show ∀ (j : Nat) u, ([.int .i64 i.op, .int .i64 i.a, .int .i64 i.b, .int .i64 i.c, .int .i64 i.n] : List Value)[j]? = some u → (w6.alloc (.cells #[.int .i64 i.op, .int .i64 i.a, .int .i64 i.b, .int .i64 i.c, .int .i64 i.n] rnT)).cell? ((⟨w6.heap.size, 0, none⟩ : Addr).add j) = some u from fun j u hj => by
          rw [Go.WideShapes.add_plain, Nat.zero_add]
          exact (XW.out.cell j).trans (by simpa using hj))
        refine step_app rfl (.tmp 23) (.tmp 25) 25 rfl y.heap.size rnT i0 _ 5 40 Tryd.underlying25 hi0 hz0 hz1 hz2 rfl (by decide) (.slice A6 (m.L.length) c6) (m.L.length) (m.L.flatMap inC) rfl O6.out ⟨w6.heap.size, 0, none⟩ 1 1 [.int .i64 i.op, .int .i64 i.a, .int .i64 i.b, .int .i64 i.c, .int .i64 i.n] rfl rfl NC.out (in_one i) (by have := HR.out.ok.len; unfold maxLen; omega) (by have := HR.out.ok.len; omega) BY.out.size ?_
        intro v8 w8 ho8 hg8 hat8
        have hform := row_form ho8
        obtain ⟨A8, c8, rfl⟩ := hform
        have BY := Lib.hid (show Below y.heap.size y w8 from BY.out.grown hg8 BY.out.size (fun b hb => (World.ownsRow.lt O6.out b hb).1))
        have O8 := Lib.hid ho8
        clear ho8 hg8 hat8 O6 XW NC
        refine hK.out _ _ ⟨(BX.out.below BY.out).x0.cell 0, (BX.out.below BY.out).x1.cell 0, (BX.out.below BY.out).x1.cell 1, (BX.out.below BY.out).x1.cell 2, (BX.out.below BY.out).x1.cell 3, (BX.out.below BY.out).x1.cell 4⟩ (fun hHeld => ?_)
        clear hK K
        try simp only [Act.put, List.setIfInBounds_toArray, List.set_cons_zero, List.set_cons_succ]
        refine anyT_take (i := 7) (oi := _) (v := .pointer (some ⟨w.heap.size, 0, none⟩)) rfl (by kernel_rfl) (by kernel_rfl) (by kernel_rfl) (by kernel_rfl) (fun _ _ _ h => h) (Or.inl ⟨by rfl, fun w hSw => by (try dsimp only at hSw); go_simp⟩) (by assumption) ?_
        try simp only [Act.put, List.setIfInBounds_toArray, List.set_cons_zero, List.set_cons_succ]
        refine anyT_ready (rs := [8]) (by kernel_rfl) (by simp) (ReadyT.last (o := _) rfl (fun K hK => ?_))
        have t0 : w8.cell? ⟨w.heap.size, 0, none⟩ = some (.slice AL m.L.length cL) := (BX.out.below BY.out).x0.cell 0
        have tf : w8.frozen? ⟨w.heap.size, 0, none⟩ = false := (BX.out.below BY.out).x0.free 0
        go_simp
        clear t0 tf
        refine hK.out _ _ trivial (fun _ => ?_)
        clear hK K
        try simp only [Act.put, List.setIfInBounds_toArray, List.set_cons_zero, List.set_cons_succ]
        refine anyT_done (by kernel_rfl) ?_ _
        refine NoPanic.normal ?_
        have B9 := Lib.hid (show Bx3 w (w8.setCell ⟨w.heap.size, 0, none⟩ (.slice A8 (m.L.length + 1) c8)) rfT rnT rfT #[.slice A8 (m.L.length + 1) c8, .slice AG gl.length cG, .slice AF m.fx.length cF, .slice AP pl.length cP, .slice AA al.length cA, .int .i64 m.dep, .int .i64 m.most, .int .i64 m.err] _ _ from (BX.out.below BY.out).set0 0 (.slice A8 (m.L.length + 1) c8))
        have K9 : KeptS (fun b => b = w.heap.size) w8 (w8.setCell ⟨w.heap.size, 0, none⟩ (.slice A8 (m.L.length + 1) c8)) := KeptS.set rfl
        have hbx : w.heap.size < y.heap.size := BX.out.x0.lt
        have R9 := Lib.hid (show RfR (w8.setCell ⟨w.heap.size, 0, none⟩ (.slice A8 (m.L.length + 1) c8)) (fun b => T b ∨ (w.heap.size ≤ b ∧ b < w.heap.size + 3)) N ⟨m.L ++ [i], m.fx, m.dep, m.most, m.err⟩ A8 c8 AG cG AF cF AP cP AA cA gl pl al from by
          have h0 := (HR.out.below BY.out).later K9 (fun b hb => .inr (by rw [hb]; omega))
          refine ⟨?_, h0.fG, h0.fF, h0.fP, h0.fA, by simp only [List.length_append, List.length_singleton]; have := h0.lg; omega, h0.lp, h0.la, h0.lf, ⟨?_, ?_, h0.ok.d0, h0.ok.dm⟩, h0.nm⟩
          · refine ⟨?_, fun b hb ht => ?_⟩
            · rw [List.length_append, List.flatMap_append, List.flatMap_singleton]
              exact row_more (K9.row O8.out (fun b hb e => by have := (row_block O8.out hb).1; omega)) (Nat.zero_le _)
            · have h1 := (row_block O8.out (own_len (n' := m.L.length + 1) hb)).1
              have h2 := hTy.out b ht
              omega
          · intro j hj
            rcases List.mem_append.1 hj with hj | hj
            · exact h0.ok.good j hj
            · rw [List.mem_singleton.1 hj]; exact CJ.out
          · simp only [List.length_append, List.length_singleton]
            have := HL.out
            omega)
        have HT := Lib.hid (show ∀ b, (fun b => T b ∨ (w.heap.size ≤ b ∧ b < w.heap.size + 3)) b → b < (w8.setCell ⟨w.heap.size, 0, none⟩ (.slice A8 (m.L.length + 1) c8)).heap.size from fun b hb => Nat.lt_of_lt_of_le (hTy.out b hb) (Nat.le_trans BY.out.size K9.size))
        clear K9 hbx BX HR BY O8 hTy hHeld
        generalize (w8.setCell ⟨w.heap.size, 0, none⟩ (.slice A8 (m.L.length + 1) c8)) = y0 at *
        have B9 := Lib.hid (B9.out.below (Below.refl _ _).drew)
        have R9 := Lib.hid (R9.out.below (Below.refl _ _).drew)
        have hTy := Lib.hid (show ∀ b, (fun b => T b ∨ (w.heap.size ≤ b ∧ b < w.heap.size + 3)) b → b < y0.drew.heap.size from HT.out)
        obtain ⟨y, hy⟩ : ∃ y, y = y0.drew := ⟨_, rfl⟩
        rw [← hy] at B9 R9 hTy
        have BY := Lib.hid (Below.refl y.heap.size y)
        have L0 : y0.drew.cell? ⟨w.heap.size, 0, none⟩ = some (.slice A8 (m.L.length + 1) c8) ∧ y0.drew.cell? ⟨w.heap.size, 1, none⟩ = some (.slice AG gl.length cG) ∧ y0.drew.cell? ⟨w.heap.size, 2, none⟩ = some (.slice AF m.fx.length cF) ∧ y0.drew.cell? ⟨w.heap.size, 3, none⟩ = some (.slice AP pl.length cP) ∧ y0.drew.cell? ⟨w.heap.size, 4, none⟩ = some (.slice AA al.length cA) ∧ y0.drew.cell? ⟨w.heap.size, 5, none⟩ = some (.int .i64 m.dep) ∧ y0.drew.cell? ⟨w.heap.size, 6, none⟩ = some (.int .i64 m.most) ∧ y0.drew.cell? ⟨w.heap.size, 7, none⟩ = some (.int .i64 m.err) := by rw [← hy]; exact ⟨(B9.out.below BY.out).x0.cell 0, (B9.out.below BY.out).x0.cell 1, (B9.out.below BY.out).x0.cell 2, (B9.out.below BY.out).x0.cell 3, (B9.out.below BY.out).x0.cell 4, (B9.out.below BY.out).x0.cell 5, (B9.out.below BY.out).x0.cell 6, (B9.out.below BY.out).x0.cell 7⟩
        clear HT
        obtain ⟨i0, hi0, hz0, hz1, hz2⟩ := info_parts itInfo
        have HRG := Lib.hid R9.out.fG
        have NW := Lib.hid (show ∀ W, Below y.heap.size y W → Calls Tryd.prog 64 #[.agg #[.slice A8 (m.L.length + 1) c8, .slice AG gl.length cG, .slice AF m.fx.length cF, .slice AP pl.length cP, .slice AA al.length cA, .int .i64 m.dep, .int .i64 m.most, .int .i64 m.err]] W (fun e w' => (∃ p : Int, e = .returned (.int .i64 p)) ∧ Below W.heap.size W w') from fun W hb => by
          have h1 := now_any (fun b => T b ∨ (w.heap.size ≤ b ∧ b < w.heap.size + 3)) N ⟨m.L ++ [i], m.fx, m.dep, m.most, m.err⟩ A8 c8 AG cG AF cF AP cP AA cA gl pl al W (R9.out.below hb) (fun b hb2 => Nat.lt_of_lt_of_le (hTy.out b hb2) hb.size) HN.out
          simp only [List.length_append, List.length_singleton] at h1
          exact h1)
        go_wp2_with fail
        refine wp_region_noPanic ?_
        refine region_T (S := fun y => y.cell? ⟨w.heap.size, 0, none⟩ = some (.slice A8 (m.L.length + 1) c8) ∧ y.cell? ⟨w.heap.size, 1, none⟩ = some (.slice AG gl.length cG) ∧ y.cell? ⟨w.heap.size, 2, none⟩ = some (.slice AF m.fx.length cF) ∧ y.cell? ⟨w.heap.size, 3, none⟩ = some (.slice AP pl.length cP) ∧ y.cell? ⟨w.heap.size, 4, none⟩ = some (.slice AA al.length cA) ∧ y.cell? ⟨w.heap.size, 5, none⟩ = some (.int .i64 m.dep) ∧ y.cell? ⟨w.heap.size, 6, none⟩ = some (.int .i64 m.most) ∧ y.cell? ⟨w.heap.size, 7, none⟩ = some (.int .i64 m.err)) 9 (by kernel_rfl) L0 (fun hHeld => ?_)
        rw [← hy] at hHeld ⊢
        clear L0 hy
        refine anyT_take (i := 1) (oi := _) (v := .pointer (some ⟨w.heap.size, 1, none⟩)) rfl (by kernel_rfl) (by kernel_rfl) (by kernel_rfl) (by kernel_rfl) (fun _ _ _ h => h) (Or.inl ⟨by rfl, fun w hSw => by (try dsimp only at hSw); go_simp⟩) (by assumption) ?_
        try simp only [Act.put, List.setIfInBounds_toArray, List.set_cons_zero, List.set_cons_succ]
        refine anyT_take (i := 2) (oi := _) (v := .slice AG gl.length cG) rfl (by kernel_rfl) (by kernel_rfl) (by kernel_rfl) (by kernel_rfl) (fun _ _ _ h => h) (Or.inl ⟨by rfl, fun w hSw => by (try dsimp only at hSw); go_simp⟩) (by assumption) ?_
        try simp only [Act.put, List.setIfInBounds_toArray, List.set_cons_zero, List.set_cons_succ]
        refine anyT_take (i := 4) (oi := _) (v := .agg #[.slice A8 (m.L.length + 1) c8, .slice AG gl.length cG, .slice AF m.fx.length cF, .slice AP pl.length cP, .slice AA al.length cA, .int .i64 m.dep, .int .i64 m.most, .int .i64 m.err]) rfl (by kernel_rfl) (by kernel_rfl) (by kernel_rfl) (by kernel_rfl) (fun _ _ _ h => h) (Or.inl ⟨by rfl, fun w hSw => by (try dsimp only at hSw); go_simp⟩) (by assumption) ?_
        try simp only [Act.put, List.setIfInBounds_toArray, List.set_cons_zero, List.set_cons_succ]
        refine anyT_ready (rs := [0]) (by kernel_rfl) (by simp) (ReadyT.cons (o := _) rfl (fun K hK => ?_) ReadyT.nil)
        go_simp
        have SE := Lib.hid (show y.heap.size = y.heap.size from rfl)
        have BY := Lib.hid (show Below y.heap.size y (y.alloc (.cells #[] itT)) from BY.out.alloc BY.out.size (.cells #[] itT))
        have OE := Lib.hid (show (y.alloc (.cells #[] itT)).ownsRow y.heap.size itT 1 (.slice (some ⟨y.heap.size, 0, none⟩) 0 0) 0 [] from row_built (e := itT) (sz := 1) y #[] 0 0 rfl (Nat.le_refl _) (Nat.zero_le _) y.heap.size (by rw [SE.out]; omega) _ (by rw [SE.out]) [] rfl)
        refine hK.out _ _ ⟨(B9.out.below BY.out).x0.cell 0, (B9.out.below BY.out).x0.cell 1, (B9.out.below BY.out).x0.cell 2, (B9.out.below BY.out).x0.cell 3, (B9.out.below BY.out).x0.cell 4, (B9.out.below BY.out).x0.cell 5, (B9.out.below BY.out).x0.cell 6, (B9.out.below BY.out).x0.cell 7⟩ (fun hHeld => ?_)
        clear hK K
        try simp only [Act.put, List.setIfInBounds_toArray, List.set_cons_zero, List.set_cons_succ]
        refine anyT_ready (rs := [3]) (by kernel_rfl) (by simp) (ReadyT.cons (o := _) rfl (fun K hK => ?_) ReadyT.nil)
        refine step_app_any rfl (.tmp 28) (.tmp 30) 26 rfl y.heap.size itT i0 _ 1 8 Tryd.underlying26 hi0 hz0 hz1 hz2 rfl (by decide) (.slice (some ⟨y.heap.size, 0, none⟩) 0 0) 0 [] rfl OE.out (.slice AG gl.length cG) (gl.length) (gl.flatMap itC) rfl (HRG.out.below BY.out).1 (one_flat it_one _) (by have := R9.out.lg; have := R9.out.ok.len; unfold maxLen; omega) (by have := R9.out.lg; have := R9.out.ok.len; omega) BY.out.size ?_
        intro v6 w6 ho6 hg6 hat6
        rw [Nat.zero_add, List.nil_append] at ho6
        have hform := row_form ho6
        obtain ⟨A6, c6, rfl⟩ := hform
        have BY := Lib.hid (show Below y.heap.size y w6 from BY.out.grown hg6 BY.out.size (fun b hb => (World.ownsRow.lt OE.out b hb).1))
        have O6 := Lib.hid ho6
        clear ho6 hg6 hat6 OE
        refine hK.out _ _ ⟨(B9.out.below BY.out).x0.cell 0, (B9.out.below BY.out).x0.cell 1, (B9.out.below BY.out).x0.cell 2, (B9.out.below BY.out).x0.cell 3, (B9.out.below BY.out).x0.cell 4, (B9.out.below BY.out).x0.cell 5, (B9.out.below BY.out).x0.cell 6, (B9.out.below BY.out).x0.cell 7⟩ (fun hHeld => ?_)
        clear hK K
        try simp only [Act.put, List.setIfInBounds_toArray, List.set_cons_zero, List.set_cons_succ]
        refine anyT_ready (rs := [5]) (by kernel_rfl) (by simp) (ReadyT.cons (o := _) rfl (fun K hK => ?_) ReadyT.nil)
        go_simp
        go_at_call 64
        refine (NW.out w6 BY.out).mono ?_
        rintro e y2 ⟨⟨p, rfl⟩, hb2⟩
        have O6 := Lib.hid (row_below O6.out hb2)
        have BY := Lib.hid (show Below y.heap.size y y2 from BY.out.trans (hb2.mono BY.out.size))
        clear hb2
        refine hK.out _ _ ⟨(B9.out.below BY.out).x0.cell 0, (B9.out.below BY.out).x0.cell 1, (B9.out.below BY.out).x0.cell 2, (B9.out.below BY.out).x0.cell 3, (B9.out.below BY.out).x0.cell 4, (B9.out.below BY.out).x0.cell 5, (B9.out.below BY.out).x0.cell 6, (B9.out.below BY.out).x0.cell 7⟩ (fun hHeld => ?_)
        clear hK K
        try simp only [Act.put, List.setIfInBounds_toArray, List.set_cons_zero, List.set_cons_succ]
        refine anyT_ready (rs := [6]) (by kernel_rfl) (by simp) (ReadyT.cons (o := _) rfl (fun K hK => ?_) ReadyT.nil)
        go_simp
        have BY := Lib.hid (show Below y.heap.size y (y2.alloc (.cells #[.int .i64 p] itT)) from BY.out.alloc BY.out.size (.cells #[.int .i64 p] itT))
        have XW := Lib.hid (Whole.made y2 itT #[.int .i64 p] (y2.heap.size) rfl)
        have O6 := Lib.hid (World.ownsRow.alloc O6.out (.cells #[.int .i64 p] itT))
        refine hK.out _ _ ⟨(B9.out.below BY.out).x0.cell 0, (B9.out.below BY.out).x0.cell 1, (B9.out.below BY.out).x0.cell 2, (B9.out.below BY.out).x0.cell 3, (B9.out.below BY.out).x0.cell 4, (B9.out.below BY.out).x0.cell 5, (B9.out.below BY.out).x0.cell 6, (B9.out.below BY.out).x0.cell 7⟩ (fun hHeld => ?_)
        clear hK K
        try simp only [Act.put, List.setIfInBounds_toArray, List.set_cons_zero, List.set_cons_succ]
        refine anyT_ready (rs := [7]) (by kernel_rfl) (by simp) (ReadyT.cons (o := _) rfl (fun K hK => ?_) ReadyT.nil)
        have NC := Lib.hid (show ∀ (j : Nat) u, ([.int .i64 p] : List Value)[j]? = some u → (y2.alloc (.cells #[.int .i64 p] itT)).cell? ((⟨y2.heap.size, 0, none⟩ : Addr).add j) = some u from fun j u hj => by
          rw [Go.WideShapes.add_plain, Nat.zero_add]
          exact (XW.out.cell j).trans (by simpa using hj))
        refine step_app rfl (.tmp 31) (.tmp 34) 26 rfl y.heap.size itT i0 _ 1 8 Tryd.underlying26 hi0 hz0 hz1 hz2 rfl (by decide) (.slice A6 (gl.length) c6) (gl.length) (gl.flatMap itC) rfl O6.out ⟨y2.heap.size, 0, none⟩ 1 1 [.int .i64 p] rfl rfl NC.out (it_one p) (by have := R9.out.lg; have := R9.out.ok.len; unfold maxLen; omega) (by have := R9.out.lg; have := R9.out.ok.len; omega) BY.out.size ?_
        intro v8 w8 ho8 hg8 hat8
        have hform := row_form ho8
        obtain ⟨A9, c9, rfl⟩ := hform
        have BY := Lib.hid (show Below y.heap.size y w8 from BY.out.grown hg8 BY.out.size (fun b hb => (World.ownsRow.lt O6.out b hb).1))
        have O8 := Lib.hid ho8
        clear ho8 hg8 hat8 O6 XW NC
        refine hK.out _ _ ⟨(B9.out.below BY.out).x0.cell 0, (B9.out.below BY.out).x0.cell 1, (B9.out.below BY.out).x0.cell 2, (B9.out.below BY.out).x0.cell 3, (B9.out.below BY.out).x0.cell 4, (B9.out.below BY.out).x0.cell 5, (B9.out.below BY.out).x0.cell 6, (B9.out.below BY.out).x0.cell 7⟩ (fun hHeld => ?_)
        clear hK K
        try simp only [Act.put, List.setIfInBounds_toArray, List.set_cons_zero, List.set_cons_succ]
        refine anyT_take (i := 8) (oi := _) (v := .pointer (some ⟨w.heap.size, 1, none⟩)) rfl (by kernel_rfl) (by kernel_rfl) (by kernel_rfl) (by kernel_rfl) (fun _ _ _ h => h) (Or.inl ⟨by rfl, fun w hSw => by (try dsimp only at hSw); go_simp⟩) (by assumption) ?_
        try simp only [Act.put, List.setIfInBounds_toArray, List.set_cons_zero, List.set_cons_succ]
        refine anyT_ready (rs := [9]) (by kernel_rfl) (by simp) (ReadyT.last (o := _) rfl (fun K hK => ?_))
        have t0 : w8.cell? ⟨w.heap.size, 1, none⟩ = some (.slice AG gl.length cG) := (B9.out.below BY.out).x0.cell 1
        have tf : w8.frozen? ⟨w.heap.size, 1, none⟩ = false := (B9.out.below BY.out).x0.free 1
        go_simp
        clear t0 tf
        refine hK.out _ _ trivial (fun _ => ?_)
        clear hK K
        try simp only [Act.put, List.setIfInBounds_toArray, List.set_cons_zero, List.set_cons_succ]
        refine anyT_done (by kernel_rfl) ?_ _
        refine NoPanic.normal ?_
        have BE := Lib.hid (show Bx3 w (w8.setCell ⟨w.heap.size, 1, none⟩ (.slice A9 (gl.length + 1) c9)) rfT rnT rfT #[.slice A8 (m.L.length + 1) c8, .slice A9 (gl.length + 1) c9, .slice AF m.fx.length cF, .slice AP pl.length cP, .slice AA al.length cA, .int .i64 m.dep, .int .i64 m.most, .int .i64 m.err] _ _ from (B9.out.below BY.out).set0 1 (.slice A9 (gl.length + 1) c9))
        have K9 : KeptS (fun b => b = w.heap.size) w8 (w8.setCell ⟨w.heap.size, 1, none⟩ (.slice A9 (gl.length + 1) c9)) := KeptS.set rfl
        have hbx : w.heap.size < y.heap.size := B9.out.x0.lt
        have RE := Lib.hid (show RfR (w8.setCell ⟨w.heap.size, 1, none⟩ (.slice A9 (gl.length + 1) c9)) (fun b => T b ∨ (w.heap.size ≤ b ∧ b < w.heap.size + 3)) N ⟨m.L ++ [i], m.fx, m.dep, m.most, m.err⟩ A8 c8 A9 c9 AF cF AP cP AA cA (gl ++ [p]) pl al from by
          have h0 := (R9.out.below BY.out).later K9 (fun b hb => .inr (by rw [hb]; omega))
          refine ⟨h0.fL, ?_, h0.fF, h0.fP, h0.fA, by simp only [List.length_append, List.length_singleton]; have := HG.out; omega, h0.lp, h0.la, h0.lf, h0.ok, h0.nm⟩
          refine ⟨?_, fun b hb ht => ?_⟩
          · rw [List.length_append, List.flatMap_append, List.flatMap_singleton]
            exact row_more (K9.row O8.out (fun b hb e => by have := (row_block O8.out hb).1; omega)) (Nat.zero_le _)
          · have h1 := (row_block O8.out (own_len (n' := gl.length + 1) hb)).1
            have h2 := hTy.out b ht
            omega)
        clear K9 hbx B9 R9 BY O8 hTy hHeld HRG HRL
        generalize (w8.setCell ⟨w.heap.size, 1, none⟩ (.slice A9 (gl.length + 1) c9)) = y0 at *
        obtain ⟨z0, z1, z2, z3, z4, z5, z6, z7⟩ := cells8 BE.out.x0
        have H1 := Lib.hid (show (#[.slice A8 (m.L.length + 1) c8, .slice A9 (gl.length + 1) c9, .slice AF m.fx.length cF, .slice AP pl.length cP, .slice AA al.length cA, .int .i64 m.dep, .int .i64 m.most, .int .i64 m.err] : Array Value).all (·.oneCell') = true from by simp [Value.oneCell'])
        repeat (first | (go_big_may; first | (refine wpList_store_row rfl rfT (.tmp 4) (.tmp 37) rfl (w.heap.size + 1 + 1) #[.slice A8 (m.L.length + 1) c8, .slice A9 (gl.length + 1) c9, .slice AF m.fx.length cF, .slice AP pl.length cP, .slice AA al.length cA, .int .i64 m.dep, .int .i64 m.most, .int .i64 m.err] rfl rfl rfT #[.slice none 0 0, .slice none 0 0, .slice none 0 0, .slice none 0 0, .slice none 0 0, .int .i64 0, .int .i64 0, .int .i64 0] BE.out.x2 S8 rfl H1.out ?_; generalize hZZ : (y0).setRow (w.heap.size + 1 + 1) #[.slice A8 (m.L.length + 1) c8, .slice A9 (gl.length + 1) c9, .slice AF m.fx.length cF, .slice AP pl.length cP, .slice AA al.length cA, .int .i64 m.dep, .int .i64 m.most, .int .i64 m.err] = ZZ; have HZZ := Lib.hid hZZ; clear hZZ)) | go_values | go_skip | go_guarded | go_step | go_upon)
        have RZ := Lib.hid (HZZ.out ▸ (RE.out.later (BE.out.kept2 #[.slice A8 (m.L.length + 1) c8, .slice A9 (gl.length + 1) c9, .slice AF m.fx.length cF, .slice AP pl.length cP, .slice AA al.length cA, .int .i64 m.dep, .int .i64 m.most, .int .i64 m.err]) (fun b hb => .inr hb)))
        have BZ := Lib.hid (HZZ.out ▸ BE.out.row2 #[.slice A8 (m.L.length + 1) c8, .slice A9 (gl.length + 1) c9, .slice AF m.fx.length cF, .slice AP pl.length cP, .slice AA al.length cA, .int .i64 m.dep, .int .i64 m.most, .int .i64 m.err])
        have RL := Lib.hid (show (putE m i).L.length = m.L.length + 1 from by rw [PE.out]; simp only [List.length_append, List.length_singleton])
        clear z0 z1 z2 z3 z4 z5 z6 z7
        obtain ⟨z0, z1, z2, z3, z4, z5, z6, z7⟩ := cells8 BZ.out.x2
        refine bodyPost_ret (v := .agg #[.slice A8 (m.L.length + 1) c8, .slice A9 (gl.length + 1) c9, .slice AF m.fx.length cF, .slice AP pl.length cP, .slice AA al.length cA, .int .i64 m.dep, .int .i64 m.most, .int .i64 m.err]) ?_ rfl ⟨A8, c8, A9, c9, AF, cF, AP, cP, AA, cA, gl ++ [p], pl, al, ?_, ?_, BZ.out.b⟩
        · simp [results, Tryd.results47, go_sem, z0, z1, z2, z3, z4, z5, z6, z7]
        · rw [PE.out]
          simp only [List.length_append, List.length_singleton]
        · rw [PE.out]
          exact RZ.out.less (fun b hb => .inl hb)
      · go_simp
        have BY := Lib.hid (show Below y.heap.size y ((y.alloc (.cells #[] rnT)).alloc (.cells #[.int .i64 i.op, .int .i64 i.a, .int .i64 i.b, .int .i64 i.c, .int .i64 i.n] rnT)) from BY.out.alloc BY.out.size (.cells #[.int .i64 i.op, .int .i64 i.a, .int .i64 i.b, .int .i64 i.c, .int .i64 i.n] rnT))
        have XW := Lib.hid (Whole.made (y.alloc (.cells #[] rnT)) rnT #[.int .i64 i.op, .int .i64 i.a, .int .i64 i.b, .int .i64 i.c, .int .i64 i.n] (y.heap.size + 1) (by simp))
        have OE := Lib.hid (World.ownsRow.alloc OE.out (.cells #[.int .i64 i.op, .int .i64 i.a, .int .i64 i.b, .int .i64 i.c, .int .i64 i.n] rnT))
        refine hK.out _ _ ⟨(BX.out.below BY.out).x0.cell 0, (BX.out.below BY.out).x1.cell 0, (BX.out.below BY.out).x1.cell 1, (BX.out.below BY.out).x1.cell 2, (BX.out.below BY.out).x1.cell 3, (BX.out.below BY.out).x1.cell 4⟩ (fun hHeld => ?_)
        clear hK K
        try simp only [Act.put, List.setIfInBounds_toArray, List.set_cons_zero, List.set_cons_succ]
        refine anyT_ready (rs := [3]) (by kernel_rfl) (by simp) (ReadyT.cons (o := _) rfl (fun K hK => ?_) ReadyT.nil)
        refine step_app_any rfl (.tmp 20) (.tmp 22) 25 rfl y.heap.size rnT i0 _ 5 40 Tryd.underlying25 hi0 hz0 hz1 hz2 rfl (by decide) (.slice (some ⟨y.heap.size, 0, none⟩) 0 0) 0 [] rfl OE.out (.slice AL m.L.length cL) (m.L.length) (m.L.flatMap inC) rfl (HRL.out.below BY.out).1 (one_flat in_one _) (by have := HR.out.ok.len; unfold maxLen; omega) (by have := HR.out.ok.len; omega) BY.out.size ?_
        intro v6 w6 ho6 hg6 hat6
        rw [Nat.zero_add, List.nil_append] at ho6
        have hform := row_form ho6
        obtain ⟨A6, c6, rfl⟩ := hform
        have XW := Lib.hid (show Whole w6 (y.heap.size + 1) rnT #[.int .i64 i.op, .int .i64 i.a, .int .i64 i.b, .int .i64 i.c, .int .i64 i.n] from (hg6.block (y.heap.size + 1) XW.out.lt (fun e => absurd (Option.some.inj e : y.heap.size + 1 = y.heap.size) (by omega))).trans XW.out)
        have BY := Lib.hid (show Below y.heap.size y w6 from BY.out.grown hg6 BY.out.size (fun b hb => (World.ownsRow.lt OE.out b hb).1))
        have O6 := Lib.hid ho6
        clear ho6 hg6 hat6 OE
        refine hK.out _ _ ⟨(BX.out.below BY.out).x0.cell 0, (BX.out.below BY.out).x1.cell 0, (BX.out.below BY.out).x1.cell 1, (BX.out.below BY.out).x1.cell 2, (BX.out.below BY.out).x1.cell 3, (BX.out.below BY.out).x1.cell 4⟩ (fun hHeld => ?_)
        clear hK K
        try simp only [Act.put, List.setIfInBounds_toArray, List.set_cons_zero, List.set_cons_succ]
        refine anyT_ready (rs := [6]) (by kernel_rfl) (by simp) (ReadyT.cons (o := _) rfl (fun K hK => ?_) ReadyT.nil)
        have NC := Lib.hid (show ∀ (j : Nat) u, ([.int .i64 i.op, .int .i64 i.a, .int .i64 i.b, .int .i64 i.c, .int .i64 i.n] : List Value)[j]? = some u → w6.cell? ((⟨y.heap.size + 1, 0, none⟩ : Addr).add j) = some u from fun j u hj => by
          rw [Go.WideShapes.add_plain, Nat.zero_add]
          exact (XW.out.cell j).trans (by simpa using hj))
        refine step_app rfl (.tmp 23) (.tmp 25) 25 rfl y.heap.size rnT i0 _ 5 40 Tryd.underlying25 hi0 hz0 hz1 hz2 rfl (by decide) (.slice A6 (m.L.length) c6) (m.L.length) (m.L.flatMap inC) rfl O6.out ⟨y.heap.size + 1, 0, none⟩ 1 1 [.int .i64 i.op, .int .i64 i.a, .int .i64 i.b, .int .i64 i.c, .int .i64 i.n] rfl rfl NC.out (in_one i) (by have := HR.out.ok.len; unfold maxLen; omega) (by have := HR.out.ok.len; omega) BY.out.size ?_
        intro v8 w8 ho8 hg8 hat8
        have hform := row_form ho8
        obtain ⟨A8, c8, rfl⟩ := hform
        have BY := Lib.hid (show Below y.heap.size y w8 from BY.out.grown hg8 BY.out.size (fun b hb => (World.ownsRow.lt O6.out b hb).1))
        have O8 := Lib.hid ho8
        clear ho8 hg8 hat8 O6 XW NC
        refine hK.out _ _ ⟨(BX.out.below BY.out).x0.cell 0, (BX.out.below BY.out).x1.cell 0, (BX.out.below BY.out).x1.cell 1, (BX.out.below BY.out).x1.cell 2, (BX.out.below BY.out).x1.cell 3, (BX.out.below BY.out).x1.cell 4⟩ (fun hHeld => ?_)
        clear hK K
        try simp only [Act.put, List.setIfInBounds_toArray, List.set_cons_zero, List.set_cons_succ]
        refine anyT_take (i := 7) (oi := _) (v := .pointer (some ⟨w.heap.size, 0, none⟩)) rfl (by kernel_rfl) (by kernel_rfl) (by kernel_rfl) (by kernel_rfl) (fun _ _ _ h => h) (Or.inl ⟨by rfl, fun w hSw => by (try dsimp only at hSw); go_simp⟩) (by assumption) ?_
        try simp only [Act.put, List.setIfInBounds_toArray, List.set_cons_zero, List.set_cons_succ]
        refine anyT_ready (rs := [8]) (by kernel_rfl) (by simp) (ReadyT.last (o := _) rfl (fun K hK => ?_))
        have t0 : w8.cell? ⟨w.heap.size, 0, none⟩ = some (.slice AL m.L.length cL) := (BX.out.below BY.out).x0.cell 0
        have tf : w8.frozen? ⟨w.heap.size, 0, none⟩ = false := (BX.out.below BY.out).x0.free 0
        go_simp
        clear t0 tf
        refine hK.out _ _ trivial (fun _ => ?_)
        clear hK K
        try simp only [Act.put, List.setIfInBounds_toArray, List.set_cons_zero, List.set_cons_succ]
        refine anyT_done (by kernel_rfl) ?_ _
        refine NoPanic.normal ?_
        have B9 := Lib.hid (show Bx3 w (w8.setCell ⟨w.heap.size, 0, none⟩ (.slice A8 (m.L.length + 1) c8)) rfT rnT rfT #[.slice A8 (m.L.length + 1) c8, .slice AG gl.length cG, .slice AF m.fx.length cF, .slice AP pl.length cP, .slice AA al.length cA, .int .i64 m.dep, .int .i64 m.most, .int .i64 m.err] _ _ from (BX.out.below BY.out).set0 0 (.slice A8 (m.L.length + 1) c8))
        have K9 : KeptS (fun b => b = w.heap.size) w8 (w8.setCell ⟨w.heap.size, 0, none⟩ (.slice A8 (m.L.length + 1) c8)) := KeptS.set rfl
        have hbx : w.heap.size < y.heap.size := BX.out.x0.lt
        have R9 := Lib.hid (show RfR (w8.setCell ⟨w.heap.size, 0, none⟩ (.slice A8 (m.L.length + 1) c8)) (fun b => T b ∨ (w.heap.size ≤ b ∧ b < w.heap.size + 3)) N ⟨m.L ++ [i], m.fx, m.dep, m.most, m.err⟩ A8 c8 AG cG AF cF AP cP AA cA gl pl al from by
          have h0 := (HR.out.below BY.out).later K9 (fun b hb => .inr (by rw [hb]; omega))
          refine ⟨?_, h0.fG, h0.fF, h0.fP, h0.fA, by simp only [List.length_append, List.length_singleton]; have := h0.lg; omega, h0.lp, h0.la, h0.lf, ⟨?_, ?_, h0.ok.d0, h0.ok.dm⟩, h0.nm⟩
          · refine ⟨?_, fun b hb ht => ?_⟩
            · rw [List.length_append, List.flatMap_append, List.flatMap_singleton]
              exact row_more (K9.row O8.out (fun b hb e => by have := (row_block O8.out hb).1; omega)) (Nat.zero_le _)
            · have h1 := (row_block O8.out (own_len (n' := m.L.length + 1) hb)).1
              have h2 := hTy.out b ht
              omega
          · intro j hj
            rcases List.mem_append.1 hj with hj | hj
            · exact h0.ok.good j hj
            · rw [List.mem_singleton.1 hj]; exact CJ.out
          · simp only [List.length_append, List.length_singleton]
            have := HL.out
            omega)
        have HT := Lib.hid (show ∀ b, (fun b => T b ∨ (w.heap.size ≤ b ∧ b < w.heap.size + 3)) b → b < (w8.setCell ⟨w.heap.size, 0, none⟩ (.slice A8 (m.L.length + 1) c8)).heap.size from fun b hb => Nat.lt_of_lt_of_le (hTy.out b hb) (Nat.le_trans BY.out.size K9.size))
        clear K9 hbx BX HR BY O8 hTy hHeld
        generalize (w8.setCell ⟨w.heap.size, 0, none⟩ (.slice A8 (m.L.length + 1) c8)) = y0 at *
        have B9 := Lib.hid (B9.out.below (Below.refl _ _).drew)
        have R9 := Lib.hid (R9.out.below (Below.refl _ _).drew)
        have hTy := Lib.hid (show ∀ b, (fun b => T b ∨ (w.heap.size ≤ b ∧ b < w.heap.size + 3)) b → b < y0.drew.heap.size from HT.out)
        obtain ⟨y, hy⟩ : ∃ y, y = y0.drew := ⟨_, rfl⟩
        rw [← hy] at B9 R9 hTy
        have BY := Lib.hid (Below.refl y.heap.size y)
        have L0 : y0.drew.cell? ⟨w.heap.size, 0, none⟩ = some (.slice A8 (m.L.length + 1) c8) ∧ y0.drew.cell? ⟨w.heap.size, 1, none⟩ = some (.slice AG gl.length cG) ∧ y0.drew.cell? ⟨w.heap.size, 2, none⟩ = some (.slice AF m.fx.length cF) ∧ y0.drew.cell? ⟨w.heap.size, 3, none⟩ = some (.slice AP pl.length cP) ∧ y0.drew.cell? ⟨w.heap.size, 4, none⟩ = some (.slice AA al.length cA) ∧ y0.drew.cell? ⟨w.heap.size, 5, none⟩ = some (.int .i64 m.dep) ∧ y0.drew.cell? ⟨w.heap.size, 6, none⟩ = some (.int .i64 m.most) ∧ y0.drew.cell? ⟨w.heap.size, 7, none⟩ = some (.int .i64 m.err) := by rw [← hy]; exact ⟨(B9.out.below BY.out).x0.cell 0, (B9.out.below BY.out).x0.cell 1, (B9.out.below BY.out).x0.cell 2, (B9.out.below BY.out).x0.cell 3, (B9.out.below BY.out).x0.cell 4, (B9.out.below BY.out).x0.cell 5, (B9.out.below BY.out).x0.cell 6, (B9.out.below BY.out).x0.cell 7⟩
        clear HT
        obtain ⟨i0, hi0, hz0, hz1, hz2⟩ := info_parts itInfo
        have HRG := Lib.hid R9.out.fG
        have NW := Lib.hid (show ∀ W, Below y.heap.size y W → Calls Tryd.prog 64 #[.agg #[.slice A8 (m.L.length + 1) c8, .slice AG gl.length cG, .slice AF m.fx.length cF, .slice AP pl.length cP, .slice AA al.length cA, .int .i64 m.dep, .int .i64 m.most, .int .i64 m.err]] W (fun e w' => (∃ p : Int, e = .returned (.int .i64 p)) ∧ Below W.heap.size W w') from fun W hb => by
          have h1 := now_any (fun b => T b ∨ (w.heap.size ≤ b ∧ b < w.heap.size + 3)) N ⟨m.L ++ [i], m.fx, m.dep, m.most, m.err⟩ A8 c8 AG cG AF cF AP cP AA cA gl pl al W (R9.out.below hb) (fun b hb2 => Nat.lt_of_lt_of_le (hTy.out b hb2) hb.size) HN.out
          simp only [List.length_append, List.length_singleton] at h1
          exact h1)
        go_wp2_with fail
        refine wp_region_noPanic ?_
        refine region_T (S := fun y => y.cell? ⟨w.heap.size, 0, none⟩ = some (.slice A8 (m.L.length + 1) c8) ∧ y.cell? ⟨w.heap.size, 1, none⟩ = some (.slice AG gl.length cG) ∧ y.cell? ⟨w.heap.size, 2, none⟩ = some (.slice AF m.fx.length cF) ∧ y.cell? ⟨w.heap.size, 3, none⟩ = some (.slice AP pl.length cP) ∧ y.cell? ⟨w.heap.size, 4, none⟩ = some (.slice AA al.length cA) ∧ y.cell? ⟨w.heap.size, 5, none⟩ = some (.int .i64 m.dep) ∧ y.cell? ⟨w.heap.size, 6, none⟩ = some (.int .i64 m.most) ∧ y.cell? ⟨w.heap.size, 7, none⟩ = some (.int .i64 m.err)) 9 (by kernel_rfl) L0 (fun hHeld => ?_)
        rw [← hy] at hHeld ⊢
        clear L0 hy
        refine anyT_take (i := 1) (oi := _) (v := .pointer (some ⟨w.heap.size, 1, none⟩)) rfl (by kernel_rfl) (by kernel_rfl) (by kernel_rfl) (by kernel_rfl) (fun _ _ _ h => h) (Or.inl ⟨by rfl, fun w hSw => by (try dsimp only at hSw); go_simp⟩) (by assumption) ?_
        try simp only [Act.put, List.setIfInBounds_toArray, List.set_cons_zero, List.set_cons_succ]
        refine anyT_take (i := 2) (oi := _) (v := .slice AG gl.length cG) rfl (by kernel_rfl) (by kernel_rfl) (by kernel_rfl) (by kernel_rfl) (fun _ _ _ h => h) (Or.inl ⟨by rfl, fun w hSw => by (try dsimp only at hSw); go_simp⟩) (by assumption) ?_
        try simp only [Act.put, List.setIfInBounds_toArray, List.set_cons_zero, List.set_cons_succ]
        refine anyT_take (i := 4) (oi := _) (v := .agg #[.slice A8 (m.L.length + 1) c8, .slice AG gl.length cG, .slice AF m.fx.length cF, .slice AP pl.length cP, .slice AA al.length cA, .int .i64 m.dep, .int .i64 m.most, .int .i64 m.err]) rfl (by kernel_rfl) (by kernel_rfl) (by kernel_rfl) (by kernel_rfl) (fun _ _ _ h => h) (Or.inl ⟨by rfl, fun w hSw => by (try dsimp only at hSw); go_simp⟩) (by assumption) ?_
        try simp only [Act.put, List.setIfInBounds_toArray, List.set_cons_zero, List.set_cons_succ]
        refine anyT_ready (rs := [0]) (by kernel_rfl) (by simp) (ReadyT.cons (o := _) rfl (fun K hK => ?_) ReadyT.nil)
        go_simp
        have SE := Lib.hid (show y.heap.size = y.heap.size from rfl)
        have BY := Lib.hid (show Below y.heap.size y (y.alloc (.cells #[] itT)) from BY.out.alloc BY.out.size (.cells #[] itT))
        have OE := Lib.hid (show (y.alloc (.cells #[] itT)).ownsRow y.heap.size itT 1 (.slice (some ⟨y.heap.size, 0, none⟩) 0 0) 0 [] from row_built (e := itT) (sz := 1) y #[] 0 0 rfl (Nat.le_refl _) (Nat.zero_le _) y.heap.size (by rw [SE.out]; omega) _ (by rw [SE.out]) [] rfl)
        refine hK.out _ _ ⟨(B9.out.below BY.out).x0.cell 0, (B9.out.below BY.out).x0.cell 1, (B9.out.below BY.out).x0.cell 2, (B9.out.below BY.out).x0.cell 3, (B9.out.below BY.out).x0.cell 4, (B9.out.below BY.out).x0.cell 5, (B9.out.below BY.out).x0.cell 6, (B9.out.below BY.out).x0.cell 7⟩ (fun hHeld => ?_)
        clear hK K
        try simp only [Act.put, List.setIfInBounds_toArray, List.set_cons_zero, List.set_cons_succ]
        refine anyT_ready (rs := [3]) (by kernel_rfl) (by simp) (ReadyT.cons (o := _) rfl (fun K hK => ?_) ReadyT.nil)
        refine step_app_any rfl (.tmp 28) (.tmp 30) 26 rfl y.heap.size itT i0 _ 1 8 Tryd.underlying26 hi0 hz0 hz1 hz2 rfl (by decide) (.slice (some ⟨y.heap.size, 0, none⟩) 0 0) 0 [] rfl OE.out (.slice AG gl.length cG) (gl.length) (gl.flatMap itC) rfl (HRG.out.below BY.out).1 (one_flat it_one _) (by have := R9.out.lg; have := R9.out.ok.len; unfold maxLen; omega) (by have := R9.out.lg; have := R9.out.ok.len; omega) BY.out.size ?_
        intro v6 w6 ho6 hg6 hat6
        rw [Nat.zero_add, List.nil_append] at ho6
        have hform := row_form ho6
        obtain ⟨A6, c6, rfl⟩ := hform
        have BY := Lib.hid (show Below y.heap.size y w6 from BY.out.grown hg6 BY.out.size (fun b hb => (World.ownsRow.lt OE.out b hb).1))
        have O6 := Lib.hid ho6
        clear ho6 hg6 hat6 OE
        refine hK.out _ _ ⟨(B9.out.below BY.out).x0.cell 0, (B9.out.below BY.out).x0.cell 1, (B9.out.below BY.out).x0.cell 2, (B9.out.below BY.out).x0.cell 3, (B9.out.below BY.out).x0.cell 4, (B9.out.below BY.out).x0.cell 5, (B9.out.below BY.out).x0.cell 6, (B9.out.below BY.out).x0.cell 7⟩ (fun hHeld => ?_)
        clear hK K
        try simp only [Act.put, List.setIfInBounds_toArray, List.set_cons_zero, List.set_cons_succ]
        refine anyT_ready (rs := [5]) (by kernel_rfl) (by simp) (ReadyT.cons (o := _) rfl (fun K hK => ?_) ReadyT.nil)
        go_simp
        go_at_call 64
        refine (NW.out w6 BY.out).mono ?_
        rintro e y2 ⟨⟨p, rfl⟩, hb2⟩
        have O6 := Lib.hid (row_below O6.out hb2)
        have BY := Lib.hid (show Below y.heap.size y y2 from BY.out.trans (hb2.mono BY.out.size))
        clear hb2
        refine hK.out _ _ ⟨(B9.out.below BY.out).x0.cell 0, (B9.out.below BY.out).x0.cell 1, (B9.out.below BY.out).x0.cell 2, (B9.out.below BY.out).x0.cell 3, (B9.out.below BY.out).x0.cell 4, (B9.out.below BY.out).x0.cell 5, (B9.out.below BY.out).x0.cell 6, (B9.out.below BY.out).x0.cell 7⟩ (fun hHeld => ?_)
        clear hK K
        try simp only [Act.put, List.setIfInBounds_toArray, List.set_cons_zero, List.set_cons_succ]
        refine anyT_ready (rs := [6]) (by kernel_rfl) (by simp) (ReadyT.cons (o := _) rfl (fun K hK => ?_) ReadyT.nil)
        go_simp
        have BY := Lib.hid (show Below y.heap.size y (y2.alloc (.cells #[.int .i64 p] itT)) from BY.out.alloc BY.out.size (.cells #[.int .i64 p] itT))
        have XW := Lib.hid (Whole.made y2 itT #[.int .i64 p] (y2.heap.size) rfl)
        have O6 := Lib.hid (World.ownsRow.alloc O6.out (.cells #[.int .i64 p] itT))
        refine hK.out _ _ ⟨(B9.out.below BY.out).x0.cell 0, (B9.out.below BY.out).x0.cell 1, (B9.out.below BY.out).x0.cell 2, (B9.out.below BY.out).x0.cell 3, (B9.out.below BY.out).x0.cell 4, (B9.out.below BY.out).x0.cell 5, (B9.out.below BY.out).x0.cell 6, (B9.out.below BY.out).x0.cell 7⟩ (fun hHeld => ?_)
        clear hK K
        try simp only [Act.put, List.setIfInBounds_toArray, List.set_cons_zero, List.set_cons_succ]
        refine anyT_ready (rs := [7]) (by kernel_rfl) (by simp) (ReadyT.cons (o := _) rfl (fun K hK => ?_) ReadyT.nil)
        have NC := Lib.hid (show ∀ (j : Nat) u, ([.int .i64 p] : List Value)[j]? = some u → (y2.alloc (.cells #[.int .i64 p] itT)).cell? ((⟨y2.heap.size, 0, none⟩ : Addr).add j) = some u from fun j u hj => by
          rw [Go.WideShapes.add_plain, Nat.zero_add]
          exact (XW.out.cell j).trans (by simpa using hj))
        refine step_app rfl (.tmp 31) (.tmp 34) 26 rfl y.heap.size itT i0 _ 1 8 Tryd.underlying26 hi0 hz0 hz1 hz2 rfl (by decide) (.slice A6 (gl.length) c6) (gl.length) (gl.flatMap itC) rfl O6.out ⟨y2.heap.size, 0, none⟩ 1 1 [.int .i64 p] rfl rfl NC.out (it_one p) (by have := R9.out.lg; have := R9.out.ok.len; unfold maxLen; omega) (by have := R9.out.lg; have := R9.out.ok.len; omega) BY.out.size ?_
        intro v8 w8 ho8 hg8 hat8
        have hform := row_form ho8
        obtain ⟨A9, c9, rfl⟩ := hform
        have BY := Lib.hid (show Below y.heap.size y w8 from BY.out.grown hg8 BY.out.size (fun b hb => (World.ownsRow.lt O6.out b hb).1))
        have O8 := Lib.hid ho8
        clear ho8 hg8 hat8 O6 XW NC
        refine hK.out _ _ ⟨(B9.out.below BY.out).x0.cell 0, (B9.out.below BY.out).x0.cell 1, (B9.out.below BY.out).x0.cell 2, (B9.out.below BY.out).x0.cell 3, (B9.out.below BY.out).x0.cell 4, (B9.out.below BY.out).x0.cell 5, (B9.out.below BY.out).x0.cell 6, (B9.out.below BY.out).x0.cell 7⟩ (fun hHeld => ?_)
        clear hK K
        try simp only [Act.put, List.setIfInBounds_toArray, List.set_cons_zero, List.set_cons_succ]
        refine anyT_take (i := 8) (oi := _) (v := .pointer (some ⟨w.heap.size, 1, none⟩)) rfl (by kernel_rfl) (by kernel_rfl) (by kernel_rfl) (by kernel_rfl) (fun _ _ _ h => h) (Or.inl ⟨by rfl, fun w hSw => by (try dsimp only at hSw); go_simp⟩) (by assumption) ?_
        try simp only [Act.put, List.setIfInBounds_toArray, List.set_cons_zero, List.set_cons_succ]
        refine anyT_ready (rs := [9]) (by kernel_rfl) (by simp) (ReadyT.last (o := _) rfl (fun K hK => ?_))
        have t0 : w8.cell? ⟨w.heap.size, 1, none⟩ = some (.slice AG gl.length cG) := (B9.out.below BY.out).x0.cell 1
        have tf : w8.frozen? ⟨w.heap.size, 1, none⟩ = false := (B9.out.below BY.out).x0.free 1
        go_simp
        clear t0 tf
        refine hK.out _ _ trivial (fun _ => ?_)
        clear hK K
        try simp only [Act.put, List.setIfInBounds_toArray, List.set_cons_zero, List.set_cons_succ]
        refine anyT_done (by kernel_rfl) ?_ _
        refine NoPanic.normal ?_
        have BE := Lib.hid (show Bx3 w (w8.setCell ⟨w.heap.size, 1, none⟩ (.slice A9 (gl.length + 1) c9)) rfT rnT rfT #[.slice A8 (m.L.length + 1) c8, .slice A9 (gl.length + 1) c9, .slice AF m.fx.length cF, .slice AP pl.length cP, .slice AA al.length cA, .int .i64 m.dep, .int .i64 m.most, .int .i64 m.err] _ _ from (B9.out.below BY.out).set0 1 (.slice A9 (gl.length + 1) c9))
        have K9 : KeptS (fun b => b = w.heap.size) w8 (w8.setCell ⟨w.heap.size, 1, none⟩ (.slice A9 (gl.length + 1) c9)) := KeptS.set rfl
        have hbx : w.heap.size < y.heap.size := B9.out.x0.lt
        have RE := Lib.hid (show RfR (w8.setCell ⟨w.heap.size, 1, none⟩ (.slice A9 (gl.length + 1) c9)) (fun b => T b ∨ (w.heap.size ≤ b ∧ b < w.heap.size + 3)) N ⟨m.L ++ [i], m.fx, m.dep, m.most, m.err⟩ A8 c8 A9 c9 AF cF AP cP AA cA (gl ++ [p]) pl al from by
          have h0 := (R9.out.below BY.out).later K9 (fun b hb => .inr (by rw [hb]; omega))
          refine ⟨h0.fL, ?_, h0.fF, h0.fP, h0.fA, by simp only [List.length_append, List.length_singleton]; have := HG.out; omega, h0.lp, h0.la, h0.lf, h0.ok, h0.nm⟩
          refine ⟨?_, fun b hb ht => ?_⟩
          · rw [List.length_append, List.flatMap_append, List.flatMap_singleton]
            exact row_more (K9.row O8.out (fun b hb e => by have := (row_block O8.out hb).1; omega)) (Nat.zero_le _)
          · have h1 := (row_block O8.out (own_len (n' := gl.length + 1) hb)).1
            have h2 := hTy.out b ht
            omega)
        clear K9 hbx B9 R9 BY O8 hTy hHeld HRG HRL
        generalize (w8.setCell ⟨w.heap.size, 1, none⟩ (.slice A9 (gl.length + 1) c9)) = y0 at *
        obtain ⟨z0, z1, z2, z3, z4, z5, z6, z7⟩ := cells8 BE.out.x0
        have H1 := Lib.hid (show (#[.slice A8 (m.L.length + 1) c8, .slice A9 (gl.length + 1) c9, .slice AF m.fx.length cF, .slice AP pl.length cP, .slice AA al.length cA, .int .i64 m.dep, .int .i64 m.most, .int .i64 m.err] : Array Value).all (·.oneCell') = true from by simp [Value.oneCell'])
        repeat (first | (go_big_may; first | (refine wpList_store_row rfl rfT (.tmp 4) (.tmp 37) rfl (w.heap.size + 1 + 1) #[.slice A8 (m.L.length + 1) c8, .slice A9 (gl.length + 1) c9, .slice AF m.fx.length cF, .slice AP pl.length cP, .slice AA al.length cA, .int .i64 m.dep, .int .i64 m.most, .int .i64 m.err] rfl rfl rfT #[.slice none 0 0, .slice none 0 0, .slice none 0 0, .slice none 0 0, .slice none 0 0, .int .i64 0, .int .i64 0, .int .i64 0] BE.out.x2 S8 rfl H1.out ?_; generalize hZZ : (y0).setRow (w.heap.size + 1 + 1) #[.slice A8 (m.L.length + 1) c8, .slice A9 (gl.length + 1) c9, .slice AF m.fx.length cF, .slice AP pl.length cP, .slice AA al.length cA, .int .i64 m.dep, .int .i64 m.most, .int .i64 m.err] = ZZ; have HZZ := Lib.hid hZZ; clear hZZ)) | go_values | go_skip | go_guarded | go_step | go_upon)
        have RZ := Lib.hid (HZZ.out ▸ (RE.out.later (BE.out.kept2 #[.slice A8 (m.L.length + 1) c8, .slice A9 (gl.length + 1) c9, .slice AF m.fx.length cF, .slice AP pl.length cP, .slice AA al.length cA, .int .i64 m.dep, .int .i64 m.most, .int .i64 m.err]) (fun b hb => .inr hb)))
        have BZ := Lib.hid (HZZ.out ▸ BE.out.row2 #[.slice A8 (m.L.length + 1) c8, .slice A9 (gl.length + 1) c9, .slice AF m.fx.length cF, .slice AP pl.length cP, .slice AA al.length cA, .int .i64 m.dep, .int .i64 m.most, .int .i64 m.err])
        have RL := Lib.hid (show (putE m i).L.length = m.L.length + 1 from by rw [PE.out]; simp only [List.length_append, List.length_singleton])
        clear z0 z1 z2 z3 z4 z5 z6 z7
        obtain ⟨z0, z1, z2, z3, z4, z5, z6, z7⟩ := cells8 BZ.out.x2
        refine bodyPost_ret (v := .agg #[.slice A8 (m.L.length + 1) c8, .slice A9 (gl.length + 1) c9, .slice AF m.fx.length cF, .slice AP pl.length cP, .slice AA al.length cA, .int .i64 m.dep, .int .i64 m.most, .int .i64 m.err]) ?_ rfl ⟨A8, c8, A9, c9, AF, cF, AP, cP, AA, cA, gl ++ [p], pl, al, ?_, ?_, BZ.out.b⟩
        · simp [results, Tryd.results47, go_sem, z0, z1, z2, z3, z4, z5, z6, z7]
        · rw [PE.out]
          simp only [List.length_append, List.length_singleton]
        · rw [PE.out]
          exact RZ.out.less (fun b hb => .inl hb)
    · go_simp
      have BY := Lib.hid (show Below y.heap.size y (y.alloc (.cells #[.int .i64 i.op, .int .i64 i.a, .int .i64 i.b, .int .i64 i.c, .int .i64 i.n] rnT)) from BY.out.alloc BY.out.size (.cells #[.int .i64 i.op, .int .i64 i.a, .int .i64 i.b, .int .i64 i.c, .int .i64 i.n] rnT))
      have XW := Lib.hid (Whole.made y rnT #[.int .i64 i.op, .int .i64 i.a, .int .i64 i.b, .int .i64 i.c, .int .i64 i.n] (y.heap.size) (rfl))
      refine hK.out _ _ ⟨(BX.out.below BY.out).x0.cell 0, (BX.out.below BY.out).x1.cell 0, (BX.out.below BY.out).x1.cell 1, (BX.out.below BY.out).x1.cell 2, (BX.out.below BY.out).x1.cell 3, (BX.out.below BY.out).x1.cell 4⟩ (fun hHeld => ?_)
      clear hK K
      try simp only [Act.put, List.setIfInBounds_toArray, List.set_cons_zero, List.set_cons_succ]
      refine anyT_ready (rs := [0]) (by kernel_rfl) (by simp) (ReadyT.cons (o := _) rfl (fun K hK => ?_) ReadyT.nil)
      go_simp
      have SE := Lib.hid (show (y.alloc (.cells #[.int .i64 i.op, .int .i64 i.a, .int .i64 i.b, .int .i64 i.c, .int .i64 i.n] rnT)).heap.size = y.heap.size + 1 from by simp)
      have BY := Lib.hid (show Below y.heap.size y ((y.alloc (.cells #[.int .i64 i.op, .int .i64 i.a, .int .i64 i.b, .int .i64 i.c, .int .i64 i.n] rnT)).alloc (.cells #[] rnT)) from BY.out.alloc BY.out.size (.cells #[] rnT))
      have OE := Lib.hid (show ((y.alloc (.cells #[.int .i64 i.op, .int .i64 i.a, .int .i64 i.b, .int .i64 i.c, .int .i64 i.n] rnT)).alloc (.cells #[] rnT)).ownsRow y.heap.size rnT 5 (.slice (some ⟨y.heap.size + 1, 0, none⟩) 0 0) 0 [] from row_built (e := rnT) (sz := 5) (y.alloc (.cells #[.int .i64 i.op, .int .i64 i.a, .int .i64 i.b, .int .i64 i.c, .int .i64 i.n] rnT)) #[] 0 0 rfl (Nat.le_refl _) (Nat.zero_le _) y.heap.size (by rw [SE.out]; omega) _ (by rw [SE.out]) [] rfl)
      have XW := Lib.hid (show Whole ((y.alloc (.cells #[.int .i64 i.op, .int .i64 i.a, .int .i64 i.b, .int .i64 i.c, .int .i64 i.n] rnT)).alloc (.cells #[] rnT)) (y.heap.size) rnT #[.int .i64 i.op, .int .i64 i.a, .int .i64 i.b, .int .i64 i.c, .int .i64 i.n] from XW.out.alloc _)
      refine hK.out _ _ ⟨(BX.out.below BY.out).x0.cell 0, (BX.out.below BY.out).x1.cell 0, (BX.out.below BY.out).x1.cell 1, (BX.out.below BY.out).x1.cell 2, (BX.out.below BY.out).x1.cell 3, (BX.out.below BY.out).x1.cell 4⟩ (fun hHeld => ?_)
      clear hK K
      try simp only [Act.put, List.setIfInBounds_toArray, List.set_cons_zero, List.set_cons_succ]
      refine anyT_ready (rs := [3]) (by kernel_rfl) (by simp) (ReadyT.cons (o := _) rfl (fun K hK => ?_) ReadyT.nil)
      refine step_app_any rfl (.tmp 20) (.tmp 22) 25 rfl y.heap.size rnT i0 _ 5 40 Tryd.underlying25 hi0 hz0 hz1 hz2 rfl (by decide) (.slice (some ⟨y.heap.size + 1, 0, none⟩) 0 0) 0 [] rfl OE.out (.slice AL m.L.length cL) (m.L.length) (m.L.flatMap inC) rfl (HRL.out.below BY.out).1 (one_flat in_one _) (by have := HR.out.ok.len; unfold maxLen; omega) (by have := HR.out.ok.len; omega) BY.out.size ?_
      intro v6 w6 ho6 hg6 hat6
      rw [Nat.zero_add, List.nil_append] at ho6
      have hform := row_form ho6
      obtain ⟨A6, c6, rfl⟩ := hform
      have XW := Lib.hid (show Whole w6 (y.heap.size) rnT #[.int .i64 i.op, .int .i64 i.a, .int .i64 i.b, .int .i64 i.c, .int .i64 i.n] from (hg6.block (y.heap.size) XW.out.lt (fun e => absurd (Option.some.inj e : y.heap.size = y.heap.size + 1) (by omega))).trans XW.out)
      have BY := Lib.hid (show Below y.heap.size y w6 from BY.out.grown hg6 BY.out.size (fun b hb => (World.ownsRow.lt OE.out b hb).1))
      have O6 := Lib.hid ho6
      clear ho6 hg6 hat6 OE
      refine hK.out _ _ ⟨(BX.out.below BY.out).x0.cell 0, (BX.out.below BY.out).x1.cell 0, (BX.out.below BY.out).x1.cell 1, (BX.out.below BY.out).x1.cell 2, (BX.out.below BY.out).x1.cell 3, (BX.out.below BY.out).x1.cell 4⟩ (fun hHeld => ?_)
      clear hK K
      try simp only [Act.put, List.setIfInBounds_toArray, List.set_cons_zero, List.set_cons_succ]
      refine anyT_ready (rs := [6]) (by kernel_rfl) (by simp) (ReadyT.cons (o := _) rfl (fun K hK => ?_) ReadyT.nil)
      have NC := Lib.hid (show ∀ (j : Nat) u, ([.int .i64 i.op, .int .i64 i.a, .int .i64 i.b, .int .i64 i.c, .int .i64 i.n] : List Value)[j]? = some u → w6.cell? ((⟨y.heap.size, 0, none⟩ : Addr).add j) = some u from fun j u hj => by
        rw [Go.WideShapes.add_plain, Nat.zero_add]
        exact (XW.out.cell j).trans (by simpa using hj))
      refine step_app rfl (.tmp 23) (.tmp 25) 25 rfl y.heap.size rnT i0 _ 5 40 Tryd.underlying25 hi0 hz0 hz1 hz2 rfl (by decide) (.slice A6 (m.L.length) c6) (m.L.length) (m.L.flatMap inC) rfl O6.out ⟨y.heap.size, 0, none⟩ 1 1 [.int .i64 i.op, .int .i64 i.a, .int .i64 i.b, .int .i64 i.c, .int .i64 i.n] rfl rfl NC.out (in_one i) (by have := HR.out.ok.len; unfold maxLen; omega) (by have := HR.out.ok.len; omega) BY.out.size ?_
      intro v8 w8 ho8 hg8 hat8
      have hform := row_form ho8
      obtain ⟨A8, c8, rfl⟩ := hform
      have BY := Lib.hid (show Below y.heap.size y w8 from BY.out.grown hg8 BY.out.size (fun b hb => (World.ownsRow.lt O6.out b hb).1))
      have O8 := Lib.hid ho8
      clear ho8 hg8 hat8 O6 XW NC
      refine hK.out _ _ ⟨(BX.out.below BY.out).x0.cell 0, (BX.out.below BY.out).x1.cell 0, (BX.out.below BY.out).x1.cell 1, (BX.out.below BY.out).x1.cell 2, (BX.out.below BY.out).x1.cell 3, (BX.out.below BY.out).x1.cell 4⟩ (fun hHeld => ?_)
      clear hK K
      try simp only [Act.put, List.setIfInBounds_toArray, List.set_cons_zero, List.set_cons_succ]
      refine anyT_take (i := 7) (oi := _) (v := .pointer (some ⟨w.heap.size, 0, none⟩)) rfl (by kernel_rfl) (by kernel_rfl) (by kernel_rfl) (by kernel_rfl) (fun _ _ _ h => h) (Or.inl ⟨by rfl, fun w hSw => by (try dsimp only at hSw); go_simp⟩) (by assumption) ?_
      try simp only [Act.put, List.setIfInBounds_toArray, List.set_cons_zero, List.set_cons_succ]
      refine anyT_ready (rs := [8]) (by kernel_rfl) (by simp) (ReadyT.last (o := _) rfl (fun K hK => ?_))
      have t0 : w8.cell? ⟨w.heap.size, 0, none⟩ = some (.slice AL m.L.length cL) := (BX.out.below BY.out).x0.cell 0
      have tf : w8.frozen? ⟨w.heap.size, 0, none⟩ = false := (BX.out.below BY.out).x0.free 0
      go_simp
      clear t0 tf
      refine hK.out _ _ trivial (fun _ => ?_)
      clear hK K
      try simp only [Act.put, List.setIfInBounds_toArray, List.set_cons_zero, List.set_cons_succ]
      refine anyT_done (by kernel_rfl) ?_ _
      refine NoPanic.normal ?_
      have B9 := Lib.hid (show Bx3 w (w8.setCell ⟨w.heap.size, 0, none⟩ (.slice A8 (m.L.length + 1) c8)) rfT rnT rfT #[.slice A8 (m.L.length + 1) c8, .slice AG gl.length cG, .slice AF m.fx.length cF, .slice AP pl.length cP, .slice AA al.length cA, .int .i64 m.dep, .int .i64 m.most, .int .i64 m.err] _ _ from (BX.out.below BY.out).set0 0 (.slice A8 (m.L.length + 1) c8))
      have K9 : KeptS (fun b => b = w.heap.size) w8 (w8.setCell ⟨w.heap.size, 0, none⟩ (.slice A8 (m.L.length + 1) c8)) := KeptS.set rfl
      have hbx : w.heap.size < y.heap.size := BX.out.x0.lt
      have R9 := Lib.hid (show RfR (w8.setCell ⟨w.heap.size, 0, none⟩ (.slice A8 (m.L.length + 1) c8)) (fun b => T b ∨ (w.heap.size ≤ b ∧ b < w.heap.size + 3)) N ⟨m.L ++ [i], m.fx, m.dep, m.most, m.err⟩ A8 c8 AG cG AF cF AP cP AA cA gl pl al from by
        have h0 := (HR.out.below BY.out).later K9 (fun b hb => .inr (by rw [hb]; omega))
        refine ⟨?_, h0.fG, h0.fF, h0.fP, h0.fA, by simp only [List.length_append, List.length_singleton]; have := h0.lg; omega, h0.lp, h0.la, h0.lf, ⟨?_, ?_, h0.ok.d0, h0.ok.dm⟩, h0.nm⟩
        · refine ⟨?_, fun b hb ht => ?_⟩
          · rw [List.length_append, List.flatMap_append, List.flatMap_singleton]
            exact row_more (K9.row O8.out (fun b hb e => by have := (row_block O8.out hb).1; omega)) (Nat.zero_le _)
          · have h1 := (row_block O8.out (own_len (n' := m.L.length + 1) hb)).1
            have h2 := hTy.out b ht
            omega
        · intro j hj
          rcases List.mem_append.1 hj with hj | hj
          · exact h0.ok.good j hj
          · rw [List.mem_singleton.1 hj]; exact CJ.out
        · simp only [List.length_append, List.length_singleton]
          have := HL.out
          omega)
      have HT := Lib.hid (show ∀ b, (fun b => T b ∨ (w.heap.size ≤ b ∧ b < w.heap.size + 3)) b → b < (w8.setCell ⟨w.heap.size, 0, none⟩ (.slice A8 (m.L.length + 1) c8)).heap.size from fun b hb => Nat.lt_of_lt_of_le (hTy.out b hb) (Nat.le_trans BY.out.size K9.size))
      clear K9 hbx BX HR BY O8 hTy hHeld
      generalize (w8.setCell ⟨w.heap.size, 0, none⟩ (.slice A8 (m.L.length + 1) c8)) = y0 at *
      have B9 := Lib.hid (B9.out.below (Below.refl _ _).drew)
      have R9 := Lib.hid (R9.out.below (Below.refl _ _).drew)
      have hTy := Lib.hid (show ∀ b, (fun b => T b ∨ (w.heap.size ≤ b ∧ b < w.heap.size + 3)) b → b < y0.drew.heap.size from HT.out)
      obtain ⟨y, hy⟩ : ∃ y, y = y0.drew := ⟨_, rfl⟩
      rw [← hy] at B9 R9 hTy
      have BY := Lib.hid (Below.refl y.heap.size y)
      have L0 : y0.drew.cell? ⟨w.heap.size, 0, none⟩ = some (.slice A8 (m.L.length + 1) c8) ∧ y0.drew.cell? ⟨w.heap.size, 1, none⟩ = some (.slice AG gl.length cG) ∧ y0.drew.cell? ⟨w.heap.size, 2, none⟩ = some (.slice AF m.fx.length cF) ∧ y0.drew.cell? ⟨w.heap.size, 3, none⟩ = some (.slice AP pl.length cP) ∧ y0.drew.cell? ⟨w.heap.size, 4, none⟩ = some (.slice AA al.length cA) ∧ y0.drew.cell? ⟨w.heap.size, 5, none⟩ = some (.int .i64 m.dep) ∧ y0.drew.cell? ⟨w.heap.size, 6, none⟩ = some (.int .i64 m.most) ∧ y0.drew.cell? ⟨w.heap.size, 7, none⟩ = some (.int .i64 m.err) := by rw [← hy]; exact ⟨(B9.out.below BY.out).x0.cell 0, (B9.out.below BY.out).x0.cell 1, (B9.out.below BY.out).x0.cell 2, (B9.out.below BY.out).x0.cell 3, (B9.out.below BY.out).x0.cell 4, (B9.out.below BY.out).x0.cell 5, (B9.out.below BY.out).x0.cell 6, (B9.out.below BY.out).x0.cell 7⟩
      clear HT
      obtain ⟨i0, hi0, hz0, hz1, hz2⟩ := info_parts itInfo
      have HRG := Lib.hid R9.out.fG
      have NW := Lib.hid (show ∀ W, Below y.heap.size y W → Calls Tryd.prog 64 #[.agg #[.slice A8 (m.L.length + 1) c8, .slice AG gl.length cG, .slice AF m.fx.length cF, .slice AP pl.length cP, .slice AA al.length cA, .int .i64 m.dep, .int .i64 m.most, .int .i64 m.err]] W (fun e w' => (∃ p : Int, e = .returned (.int .i64 p)) ∧ Below W.heap.size W w') from fun W hb => by
        have h1 := now_any (fun b => T b ∨ (w.heap.size ≤ b ∧ b < w.heap.size + 3)) N ⟨m.L ++ [i], m.fx, m.dep, m.most, m.err⟩ A8 c8 AG cG AF cF AP cP AA cA gl pl al W (R9.out.below hb) (fun b hb2 => Nat.lt_of_lt_of_le (hTy.out b hb2) hb.size) HN.out
        simp only [List.length_append, List.length_singleton] at h1
        exact h1)
      go_wp2_with fail
      refine wp_region_noPanic ?_
      refine region_T (S := fun y => y.cell? ⟨w.heap.size, 0, none⟩ = some (.slice A8 (m.L.length + 1) c8) ∧ y.cell? ⟨w.heap.size, 1, none⟩ = some (.slice AG gl.length cG) ∧ y.cell? ⟨w.heap.size, 2, none⟩ = some (.slice AF m.fx.length cF) ∧ y.cell? ⟨w.heap.size, 3, none⟩ = some (.slice AP pl.length cP) ∧ y.cell? ⟨w.heap.size, 4, none⟩ = some (.slice AA al.length cA) ∧ y.cell? ⟨w.heap.size, 5, none⟩ = some (.int .i64 m.dep) ∧ y.cell? ⟨w.heap.size, 6, none⟩ = some (.int .i64 m.most) ∧ y.cell? ⟨w.heap.size, 7, none⟩ = some (.int .i64 m.err)) 9 (by kernel_rfl) L0 (fun hHeld => ?_)
      rw [← hy] at hHeld ⊢
      clear L0 hy
      refine anyT_take (i := 1) (oi := _) (v := .pointer (some ⟨w.heap.size, 1, none⟩)) rfl (by kernel_rfl) (by kernel_rfl) (by kernel_rfl) (by kernel_rfl) (fun _ _ _ h => h) (Or.inl ⟨by rfl, fun w hSw => by (try dsimp only at hSw); go_simp⟩) (by assumption) ?_
      try simp only [Act.put, List.setIfInBounds_toArray, List.set_cons_zero, List.set_cons_succ]
      refine anyT_take (i := 2) (oi := _) (v := .slice AG gl.length cG) rfl (by kernel_rfl) (by kernel_rfl) (by kernel_rfl) (by kernel_rfl) (fun _ _ _ h => h) (Or.inl ⟨by rfl, fun w hSw => by (try dsimp only at hSw); go_simp⟩) (by assumption) ?_
      try simp only [Act.put, List.setIfInBounds_toArray, List.set_cons_zero, List.set_cons_succ]
      refine anyT_take (i := 4) (oi := _) (v := .agg #[.slice A8 (m.L.length + 1) c8, .slice AG gl.length cG, .slice AF m.fx.length cF, .slice AP pl.length cP, .slice AA al.length cA, .int .i64 m.dep, .int .i64 m.most, .int .i64 m.err]) rfl (by kernel_rfl) (by kernel_rfl) (by kernel_rfl) (by kernel_rfl) (fun _ _ _ h => h) (Or.inl ⟨by rfl, fun w hSw => by (try dsimp only at hSw); go_simp⟩) (by assumption) ?_
      try simp only [Act.put, List.setIfInBounds_toArray, List.set_cons_zero, List.set_cons_succ]
      refine anyT_ready (rs := [0]) (by kernel_rfl) (by simp) (ReadyT.cons (o := _) rfl (fun K hK => ?_) ReadyT.nil)
      go_simp
      have SE := Lib.hid (show y.heap.size = y.heap.size from rfl)
      have BY := Lib.hid (show Below y.heap.size y (y.alloc (.cells #[] itT)) from BY.out.alloc BY.out.size (.cells #[] itT))
      have OE := Lib.hid (show (y.alloc (.cells #[] itT)).ownsRow y.heap.size itT 1 (.slice (some ⟨y.heap.size, 0, none⟩) 0 0) 0 [] from row_built (e := itT) (sz := 1) y #[] 0 0 rfl (Nat.le_refl _) (Nat.zero_le _) y.heap.size (by rw [SE.out]; omega) _ (by rw [SE.out]) [] rfl)
      refine hK.out _ _ ⟨(B9.out.below BY.out).x0.cell 0, (B9.out.below BY.out).x0.cell 1, (B9.out.below BY.out).x0.cell 2, (B9.out.below BY.out).x0.cell 3, (B9.out.below BY.out).x0.cell 4, (B9.out.below BY.out).x0.cell 5, (B9.out.below BY.out).x0.cell 6, (B9.out.below BY.out).x0.cell 7⟩ (fun hHeld => ?_)
      clear hK K
      try simp only [Act.put, List.setIfInBounds_toArray, List.set_cons_zero, List.set_cons_succ]
      refine anyT_ready (rs := [3]) (by kernel_rfl) (by simp) (ReadyT.cons (o := _) rfl (fun K hK => ?_) ReadyT.nil)
      refine step_app_any rfl (.tmp 28) (.tmp 30) 26 rfl y.heap.size itT i0 _ 1 8 Tryd.underlying26 hi0 hz0 hz1 hz2 rfl (by decide) (.slice (some ⟨y.heap.size, 0, none⟩) 0 0) 0 [] rfl OE.out (.slice AG gl.length cG) (gl.length) (gl.flatMap itC) rfl (HRG.out.below BY.out).1 (one_flat it_one _) (by have := R9.out.lg; have := R9.out.ok.len; unfold maxLen; omega) (by have := R9.out.lg; have := R9.out.ok.len; omega) BY.out.size ?_
      intro v6 w6 ho6 hg6 hat6
      rw [Nat.zero_add, List.nil_append] at ho6
      have hform := row_form ho6
      obtain ⟨A6, c6, rfl⟩ := hform
      have BY := Lib.hid (show Below y.heap.size y w6 from BY.out.grown hg6 BY.out.size (fun b hb => (World.ownsRow.lt OE.out b hb).1))
      have O6 := Lib.hid ho6
      clear ho6 hg6 hat6 OE
      refine hK.out _ _ ⟨(B9.out.below BY.out).x0.cell 0, (B9.out.below BY.out).x0.cell 1, (B9.out.below BY.out).x0.cell 2, (B9.out.below BY.out).x0.cell 3, (B9.out.below BY.out).x0.cell 4, (B9.out.below BY.out).x0.cell 5, (B9.out.below BY.out).x0.cell 6, (B9.out.below BY.out).x0.cell 7⟩ (fun hHeld => ?_)
      clear hK K
      try simp only [Act.put, List.setIfInBounds_toArray, List.set_cons_zero, List.set_cons_succ]
      refine anyT_ready (rs := [5]) (by kernel_rfl) (by simp) (ReadyT.cons (o := _) rfl (fun K hK => ?_) ReadyT.nil)
      go_simp
      go_at_call 64
      refine (NW.out w6 BY.out).mono ?_
      rintro e y2 ⟨⟨p, rfl⟩, hb2⟩
      have O6 := Lib.hid (row_below O6.out hb2)
      have BY := Lib.hid (show Below y.heap.size y y2 from BY.out.trans (hb2.mono BY.out.size))
      clear hb2
      refine hK.out _ _ ⟨(B9.out.below BY.out).x0.cell 0, (B9.out.below BY.out).x0.cell 1, (B9.out.below BY.out).x0.cell 2, (B9.out.below BY.out).x0.cell 3, (B9.out.below BY.out).x0.cell 4, (B9.out.below BY.out).x0.cell 5, (B9.out.below BY.out).x0.cell 6, (B9.out.below BY.out).x0.cell 7⟩ (fun hHeld => ?_)
      clear hK K
      try simp only [Act.put, List.setIfInBounds_toArray, List.set_cons_zero, List.set_cons_succ]
      refine anyT_ready (rs := [6]) (by kernel_rfl) (by simp) (ReadyT.cons (o := _) rfl (fun K hK => ?_) ReadyT.nil)
      go_simp
      have BY := Lib.hid (show Below y.heap.size y (y2.alloc (.cells #[.int .i64 p] itT)) from BY.out.alloc BY.out.size (.cells #[.int .i64 p] itT))
      have XW := Lib.hid (Whole.made y2 itT #[.int .i64 p] (y2.heap.size) rfl)
      have O6 := Lib.hid (World.ownsRow.alloc O6.out (.cells #[.int .i64 p] itT))
      refine hK.out _ _ ⟨(B9.out.below BY.out).x0.cell 0, (B9.out.below BY.out).x0.cell 1, (B9.out.below BY.out).x0.cell 2, (B9.out.below BY.out).x0.cell 3, (B9.out.below BY.out).x0.cell 4, (B9.out.below BY.out).x0.cell 5, (B9.out.below BY.out).x0.cell 6, (B9.out.below BY.out).x0.cell 7⟩ (fun hHeld => ?_)
      clear hK K
      try simp only [Act.put, List.setIfInBounds_toArray, List.set_cons_zero, List.set_cons_succ]
      refine anyT_ready (rs := [7]) (by kernel_rfl) (by simp) (ReadyT.cons (o := _) rfl (fun K hK => ?_) ReadyT.nil)
      have NC := Lib.hid (show ∀ (j : Nat) u, ([.int .i64 p] : List Value)[j]? = some u → (y2.alloc (.cells #[.int .i64 p] itT)).cell? ((⟨y2.heap.size, 0, none⟩ : Addr).add j) = some u from fun j u hj => by
        rw [Go.WideShapes.add_plain, Nat.zero_add]
        exact (XW.out.cell j).trans (by simpa using hj))
      refine step_app rfl (.tmp 31) (.tmp 34) 26 rfl y.heap.size itT i0 _ 1 8 Tryd.underlying26 hi0 hz0 hz1 hz2 rfl (by decide) (.slice A6 (gl.length) c6) (gl.length) (gl.flatMap itC) rfl O6.out ⟨y2.heap.size, 0, none⟩ 1 1 [.int .i64 p] rfl rfl NC.out (it_one p) (by have := R9.out.lg; have := R9.out.ok.len; unfold maxLen; omega) (by have := R9.out.lg; have := R9.out.ok.len; omega) BY.out.size ?_
      intro v8 w8 ho8 hg8 hat8
      have hform := row_form ho8
      obtain ⟨A9, c9, rfl⟩ := hform
      have BY := Lib.hid (show Below y.heap.size y w8 from BY.out.grown hg8 BY.out.size (fun b hb => (World.ownsRow.lt O6.out b hb).1))
      have O8 := Lib.hid ho8
      clear ho8 hg8 hat8 O6 XW NC
      refine hK.out _ _ ⟨(B9.out.below BY.out).x0.cell 0, (B9.out.below BY.out).x0.cell 1, (B9.out.below BY.out).x0.cell 2, (B9.out.below BY.out).x0.cell 3, (B9.out.below BY.out).x0.cell 4, (B9.out.below BY.out).x0.cell 5, (B9.out.below BY.out).x0.cell 6, (B9.out.below BY.out).x0.cell 7⟩ (fun hHeld => ?_)
      clear hK K
      try simp only [Act.put, List.setIfInBounds_toArray, List.set_cons_zero, List.set_cons_succ]
      refine anyT_take (i := 8) (oi := _) (v := .pointer (some ⟨w.heap.size, 1, none⟩)) rfl (by kernel_rfl) (by kernel_rfl) (by kernel_rfl) (by kernel_rfl) (fun _ _ _ h => h) (Or.inl ⟨by rfl, fun w hSw => by (try dsimp only at hSw); go_simp⟩) (by assumption) ?_
      try simp only [Act.put, List.setIfInBounds_toArray, List.set_cons_zero, List.set_cons_succ]
      refine anyT_ready (rs := [9]) (by kernel_rfl) (by simp) (ReadyT.last (o := _) rfl (fun K hK => ?_))
      have t0 : w8.cell? ⟨w.heap.size, 1, none⟩ = some (.slice AG gl.length cG) := (B9.out.below BY.out).x0.cell 1
      have tf : w8.frozen? ⟨w.heap.size, 1, none⟩ = false := (B9.out.below BY.out).x0.free 1
      go_simp
      clear t0 tf
      refine hK.out _ _ trivial (fun _ => ?_)
      clear hK K
      try simp only [Act.put, List.setIfInBounds_toArray, List.set_cons_zero, List.set_cons_succ]
      refine anyT_done (by kernel_rfl) ?_ _
      refine NoPanic.normal ?_
      have BE := Lib.hid (show Bx3 w (w8.setCell ⟨w.heap.size, 1, none⟩ (.slice A9 (gl.length + 1) c9)) rfT rnT rfT #[.slice A8 (m.L.length + 1) c8, .slice A9 (gl.length + 1) c9, .slice AF m.fx.length cF, .slice AP pl.length cP, .slice AA al.length cA, .int .i64 m.dep, .int .i64 m.most, .int .i64 m.err] _ _ from (B9.out.below BY.out).set0 1 (.slice A9 (gl.length + 1) c9))
      have K9 : KeptS (fun b => b = w.heap.size) w8 (w8.setCell ⟨w.heap.size, 1, none⟩ (.slice A9 (gl.length + 1) c9)) := KeptS.set rfl
      have hbx : w.heap.size < y.heap.size := B9.out.x0.lt
      have RE := Lib.hid (show RfR (w8.setCell ⟨w.heap.size, 1, none⟩ (.slice A9 (gl.length + 1) c9)) (fun b => T b ∨ (w.heap.size ≤ b ∧ b < w.heap.size + 3)) N ⟨m.L ++ [i], m.fx, m.dep, m.most, m.err⟩ A8 c8 A9 c9 AF cF AP cP AA cA (gl ++ [p]) pl al from by
        have h0 := (R9.out.below BY.out).later K9 (fun b hb => .inr (by rw [hb]; omega))
        refine ⟨h0.fL, ?_, h0.fF, h0.fP, h0.fA, by simp only [List.length_append, List.length_singleton]; have := HG.out; omega, h0.lp, h0.la, h0.lf, h0.ok, h0.nm⟩
        refine ⟨?_, fun b hb ht => ?_⟩
        · rw [List.length_append, List.flatMap_append, List.flatMap_singleton]
          exact row_more (K9.row O8.out (fun b hb e => by have := (row_block O8.out hb).1; omega)) (Nat.zero_le _)
        · have h1 := (row_block O8.out (own_len (n' := gl.length + 1) hb)).1
          have h2 := hTy.out b ht
          omega)
      clear K9 hbx B9 R9 BY O8 hTy hHeld HRG HRL
      generalize (w8.setCell ⟨w.heap.size, 1, none⟩ (.slice A9 (gl.length + 1) c9)) = y0 at *
      obtain ⟨z0, z1, z2, z3, z4, z5, z6, z7⟩ := cells8 BE.out.x0
      have H1 := Lib.hid (show (#[.slice A8 (m.L.length + 1) c8, .slice A9 (gl.length + 1) c9, .slice AF m.fx.length cF, .slice AP pl.length cP, .slice AA al.length cA, .int .i64 m.dep, .int .i64 m.most, .int .i64 m.err] : Array Value).all (·.oneCell') = true from by simp [Value.oneCell'])
      repeat (first | (go_big_may; first | (refine wpList_store_row rfl rfT (.tmp 4) (.tmp 37) rfl (w.heap.size + 1 + 1) #[.slice A8 (m.L.length + 1) c8, .slice A9 (gl.length + 1) c9, .slice AF m.fx.length cF, .slice AP pl.length cP, .slice AA al.length cA, .int .i64 m.dep, .int .i64 m.most, .int .i64 m.err] rfl rfl rfT #[.slice none 0 0, .slice none 0 0, .slice none 0 0, .slice none 0 0, .slice none 0 0, .int .i64 0, .int .i64 0, .int .i64 0] BE.out.x2 S8 rfl H1.out ?_; generalize hZZ : (y0).setRow (w.heap.size + 1 + 1) #[.slice A8 (m.L.length + 1) c8, .slice A9 (gl.length + 1) c9, .slice AF m.fx.length cF, .slice AP pl.length cP, .slice AA al.length cA, .int .i64 m.dep, .int .i64 m.most, .int .i64 m.err] = ZZ; have HZZ := Lib.hid hZZ; clear hZZ)) | go_values | go_skip | go_guarded | go_step | go_upon)
      have RZ := Lib.hid (HZZ.out ▸ (RE.out.later (BE.out.kept2 #[.slice A8 (m.L.length + 1) c8, .slice A9 (gl.length + 1) c9, .slice AF m.fx.length cF, .slice AP pl.length cP, .slice AA al.length cA, .int .i64 m.dep, .int .i64 m.most, .int .i64 m.err]) (fun b hb => .inr hb)))
      have BZ := Lib.hid (HZZ.out ▸ BE.out.row2 #[.slice A8 (m.L.length + 1) c8, .slice A9 (gl.length + 1) c9, .slice AF m.fx.length cF, .slice AP pl.length cP, .slice AA al.length cA, .int .i64 m.dep, .int .i64 m.most, .int .i64 m.err])
      have RL := Lib.hid (show (putE m i).L.length = m.L.length + 1 from by rw [PE.out]; simp only [List.length_append, List.length_singleton])
      clear z0 z1 z2 z3 z4 z5 z6 z7
      obtain ⟨z0, z1, z2, z3, z4, z5, z6, z7⟩ := cells8 BZ.out.x2
      refine bodyPost_ret (v := .agg #[.slice A8 (m.L.length + 1) c8, .slice A9 (gl.length + 1) c9, .slice AF m.fx.length cF, .slice AP pl.length cP, .slice AA al.length cA, .int .i64 m.dep, .int .i64 m.most, .int .i64 m.err]) ?_ rfl ⟨A8, c8, A9, c9, AF, cF, AP, cP, AA, cA, gl ++ [p], pl, al, ?_, ?_, BZ.out.b⟩
      · simp [results, Tryd.results47, go_sem, z0, z1, z2, z3, z4, z5, z6, z7]
      · rw [PE.out]
        simp only [List.length_append, List.length_singleton]
      · rw [PE.out]
        exact RZ.out.less (fun b hb => .inl hb)

set_option maxHeartbeats 16000000 in
set_option maxRecDepth 100000 in
theorem refput_bad (i : Ins) (T : Nat → Prop) (N : Nat) (m : Em) (AL : Option Addr) (cL : Nat) (AG : Option Addr) (cG : Nat) (AF : Option Addr) (cF : Nat) (AP : Option Addr) (cP : Nat) (AA : Option Addr) (cA : Nat) (gl pl al : List Int) (w : World) (h : RfR w T N m AL cL AG cG AF cF AP cP AA cA gl pl al) (hT : ∀ b, T b → b < w.heap.size) (hN : N ≤ 100000) (hc : chk i ≠ 0) :
    Calls Tryd.prog 47 #[.agg #[.slice AL m.L.length cL, .slice AG gl.length cG, .slice AF m.fx.length cF, .slice AP pl.length cP, .slice AA al.length cA, .int .i64 m.dep, .int .i64 m.most, .int .i64 m.err], .agg #[.int .i64 i.op, .int .i64 i.a, .int .i64 i.b, .int .i64 i.c, .int .i64 i.n]] w (RfP T N w (putE m i)) := by
  have b1 := (Below.refl w.heap.size w).alloc (Nat.le_refl _) (.cells #[.slice AL m.L.length cL, .slice AG gl.length cG, .slice AF m.fx.length cF, .slice AP pl.length cP, .slice AA al.length cA, .int .i64 m.dep, .int .i64 m.most, .int .i64 m.err] rfT)
  have b2 := b1.alloc b1.size (.cells #[.int .i64 i.op, .int .i64 i.a, .int .i64 i.b, .int .i64 i.c, .int .i64 i.n] rnT)
  have BX := Lib.hid (show Bx3 w (((w.alloc (.cells #[.slice AL m.L.length cL, .slice AG gl.length cG, .slice AF m.fx.length cF, .slice AP pl.length cP, .slice AA al.length cA, .int .i64 m.dep, .int .i64 m.most, .int .i64 m.err] rfT)).alloc (.cells #[.int .i64 i.op, .int .i64 i.a, .int .i64 i.b, .int .i64 i.c, .int .i64 i.n] rnT)).alloc (.cells #[.slice none 0 0, .slice none 0 0, .slice none 0 0, .slice none 0 0, .slice none 0 0, .int .i64 0, .int .i64 0, .int .i64 0] rfT)) rfT rnT rfT #[.slice AL m.L.length cL, .slice AG gl.length cG, .slice AF m.fx.length cF, .slice AP pl.length cP, .slice AA al.length cA, .int .i64 m.dep, .int .i64 m.most, .int .i64 m.err] #[.int .i64 i.op, .int .i64 i.a, .int .i64 i.b, .int .i64 i.c, .int .i64 i.n] #[.slice none 0 0, .slice none 0 0, .slice none 0 0, .slice none 0 0, .slice none 0 0, .int .i64 0, .int .i64 0, .int .i64 0] from ⟨b2.alloc b2.size (.cells #[.slice none 0 0, .slice none 0 0, .slice none 0 0, .slice none 0 0, .slice none 0 0, .int .i64 0, .int .i64 0, .int .i64 0] rfT), ((Whole.made w rfT #[.slice AL m.L.length cL, .slice AG gl.length cG, .slice AF m.fx.length cF, .slice AP pl.length cP, .slice AA al.length cA, .int .i64 m.dep, .int .i64 m.most, .int .i64 m.err] _ rfl).alloc _).alloc _, (Whole.made (w.alloc (.cells #[.slice AL m.L.length cL, .slice AG gl.length cG, .slice AF m.fx.length cF, .slice AP pl.length cP, .slice AA al.length cA, .int .i64 m.dep, .int .i64 m.most, .int .i64 m.err] rfT)) rnT #[.int .i64 i.op, .int .i64 i.a, .int .i64 i.b, .int .i64 i.c, .int .i64 i.n] _ (by simp)).alloc _, Whole.made ((w.alloc (.cells #[.slice AL m.L.length cL, .slice AG gl.length cG, .slice AF m.fx.length cF, .slice AP pl.length cP, .slice AA al.length cA, .int .i64 m.dep, .int .i64 m.most, .int .i64 m.err] rfT)).alloc (.cells #[.int .i64 i.op, .int .i64 i.a, .int .i64 i.b, .int .i64 i.c, .int .i64 i.n] rnT)) rfT #[.slice none 0 0, .slice none 0 0, .slice none 0 0, .slice none 0 0, .slice none 0 0, .int .i64 0, .int .i64 0, .int .i64 0] _ (by simp)⟩)
  have HR := Lib.hid ((h.boxed 3).below BX.out.b)
  have HN := Lib.hid hN
  have HT := Lib.hid (show ∀ b, (fun b => T b ∨ (w.heap.size ≤ b ∧ b < w.heap.size + 3)) b → b < (((w.alloc (.cells #[.slice AL m.L.length cL, .slice AG gl.length cG, .slice AF m.fx.length cF, .slice AP pl.length cP, .slice AA al.length cA, .int .i64 m.dep, .int .i64 m.most, .int .i64 m.err] rfT)).alloc (.cells #[.int .i64 i.op, .int .i64 i.a, .int .i64 i.b, .int .i64 i.c, .int .i64 i.n] rnT)).alloc (.cells #[.slice none 0 0, .slice none 0 0, .slice none 0 0, .slice none 0 0, .slice none 0 0, .int .i64 0, .int .i64 0, .int .i64 0] rfT)).heap.size from fun b hb => by
    have h1 := BX.out.x2.lt
    rcases hb with hb | hb
    · have := hT b hb
      omega
    · omega)
  have S8 : (Tryd.prog.info? rfT).map (·.size) = some 8 := by kernel_rfl
  have S5 : (Tryd.prog.info? rnT).map (·.size) = some 5 := by kernel_rfl
  have CK := Lib.hid (refcheck_any i.op i.a i.b i.c i.n (((w.alloc (.cells #[.slice AL m.L.length cL, .slice AG gl.length cG, .slice AF m.fx.length cF, .slice AP pl.length cP, .slice AA al.length cA, .int .i64 m.dep, .int .i64 m.most, .int .i64 m.err] rfT)).alloc (.cells #[.int .i64 i.op, .int .i64 i.a, .int .i64 i.b, .int .i64 i.c, .int .i64 i.n] rnT)).alloc (.cells #[.slice none 0 0, .slice none 0 0, .slice none 0 0, .slice none 0 0, .slice none 0 0, .int .i64 0, .int .i64 0, .int .i64 0] rfT)))
  unfold instrV at CK
  clear h hT hN b1 b2
  have i0 : (((w.alloc (.cells #[.slice AL m.L.length cL, .slice AG gl.length cG, .slice AF m.fx.length cF, .slice AP pl.length cP, .slice AA al.length cA, .int .i64 m.dep, .int .i64 m.most, .int .i64 m.err] rfT)).alloc (.cells #[.int .i64 i.op, .int .i64 i.a, .int .i64 i.b, .int .i64 i.c, .int .i64 i.n] rnT)).alloc (.cells #[.slice none 0 0, .slice none 0 0, .slice none 0 0, .slice none 0 0, .slice none 0 0, .int .i64 0, .int .i64 0, .int .i64 0] rfT)).cell? ⟨w.heap.size + 1, 0, none⟩ = some (.int .i64 i.op) := BX.out.x1.cell 0
  have i1 : (((w.alloc (.cells #[.slice AL m.L.length cL, .slice AG gl.length cG, .slice AF m.fx.length cF, .slice AP pl.length cP, .slice AA al.length cA, .int .i64 m.dep, .int .i64 m.most, .int .i64 m.err] rfT)).alloc (.cells #[.int .i64 i.op, .int .i64 i.a, .int .i64 i.b, .int .i64 i.c, .int .i64 i.n] rnT)).alloc (.cells #[.slice none 0 0, .slice none 0 0, .slice none 0 0, .slice none 0 0, .slice none 0 0, .int .i64 0, .int .i64 0, .int .i64 0] rfT)).cell? ⟨w.heap.size + 1, 1, none⟩ = some (.int .i64 i.a) := BX.out.x1.cell 1
  have i2 : (((w.alloc (.cells #[.slice AL m.L.length cL, .slice AG gl.length cG, .slice AF m.fx.length cF, .slice AP pl.length cP, .slice AA al.length cA, .int .i64 m.dep, .int .i64 m.most, .int .i64 m.err] rfT)).alloc (.cells #[.int .i64 i.op, .int .i64 i.a, .int .i64 i.b, .int .i64 i.c, .int .i64 i.n] rnT)).alloc (.cells #[.slice none 0 0, .slice none 0 0, .slice none 0 0, .slice none 0 0, .slice none 0 0, .int .i64 0, .int .i64 0, .int .i64 0] rfT)).cell? ⟨w.heap.size + 1, 2, none⟩ = some (.int .i64 i.b) := BX.out.x1.cell 2
  have i3 : (((w.alloc (.cells #[.slice AL m.L.length cL, .slice AG gl.length cG, .slice AF m.fx.length cF, .slice AP pl.length cP, .slice AA al.length cA, .int .i64 m.dep, .int .i64 m.most, .int .i64 m.err] rfT)).alloc (.cells #[.int .i64 i.op, .int .i64 i.a, .int .i64 i.b, .int .i64 i.c, .int .i64 i.n] rnT)).alloc (.cells #[.slice none 0 0, .slice none 0 0, .slice none 0 0, .slice none 0 0, .slice none 0 0, .int .i64 0, .int .i64 0, .int .i64 0] rfT)).cell? ⟨w.heap.size + 1, 3, none⟩ = some (.int .i64 i.c) := BX.out.x1.cell 3
  have i4 : (((w.alloc (.cells #[.slice AL m.L.length cL, .slice AG gl.length cG, .slice AF m.fx.length cF, .slice AP pl.length cP, .slice AA al.length cA, .int .i64 m.dep, .int .i64 m.most, .int .i64 m.err] rfT)).alloc (.cells #[.int .i64 i.op, .int .i64 i.a, .int .i64 i.b, .int .i64 i.c, .int .i64 i.n] rnT)).alloc (.cells #[.slice none 0 0, .slice none 0 0, .slice none 0 0, .slice none 0 0, .slice none 0 0, .int .i64 0, .int .i64 0, .int .i64 0] rfT)).cell? ⟨w.heap.size + 1, 4, none⟩ = some (.int .i64 i.n) := BX.out.x1.cell 4
  have dc : (checkOf i.op i.a i.b i.c i.n != 0) = true := by simpa [chk] using hc
  have RF := Lib.hid (fun y (hy : RfR y (fun b => T b ∨ (w.heap.size ≤ b ∧ b < w.heap.size + 3)) N m AL cL AG cG AF cF AP cP AA cA gl pl al) (ht : ∀ b, (fun b => T b ∨ (w.heap.size ≤ b ∧ b < w.heap.size + 3)) b → b < y.heap.size) => reffail_any (checkOf i.op i.a i.b i.c i.n) (fun b => T b ∨ (w.heap.size ≤ b ∧ b < w.heap.size + 3)) N m AL cL AG cG AF cF AP cP AA cA gl pl al y hy ht HN.out)
  have M0 := Lib.hid (show failE m (checkOf i.op i.a i.b i.c i.n) = putF m i from by unfold putF; rw [if_neg hc]; rfl)
  have CJ := Lib.hid chk_hlt
  have PI := Lib.hid (show putI i = hltI from if_neg hc)
  clear hc
  generalize checkOf i.op i.a i.b i.c i.n = ce at *
  generalize failE m ce = m1 at *
  go_enter Tryd.func47, Tryd.ntmps47
  go_wp2_with fail
  generalize (((w.alloc (.cells #[.slice AL m.L.length cL, .slice AG gl.length cG, .slice AF m.fx.length cF, .slice AP pl.length cP, .slice AA al.length cA, .int .i64 m.dep, .int .i64 m.most, .int .i64 m.err] rfT)).alloc (.cells #[.int .i64 i.op, .int .i64 i.a, .int .i64 i.b, .int .i64 i.c, .int .i64 i.n] rnT)).alloc (.cells #[.slice none 0 0, .slice none 0 0, .slice none 0 0, .slice none 0 0, .slice none 0 0, .int .i64 0, .int .i64 0, .int .i64 0] rfT)) = V at *
  refine CK.out.mono ?_
  rintro e y0 ⟨rfl, hb⟩
  have BX := Lib.hid (BX.out.below hb)
  have HR := Lib.hid (HR.out.below hb)
  have HT := Lib.hid (show ∀ b, (fun b => T b ∨ (w.heap.size ≤ b ∧ b < w.heap.size + 3)) b → b < y0.heap.size from fun b hb2 => Nat.lt_of_lt_of_le (HT.out b hb2) hb.size)
  have RF := Lib.hid (RF.out y0 HR.out HT.out)
  clear hb CK i0 i1 i2 i3 i4
  obtain ⟨a0, a1, a2, a3, a4, a5, a6, a7⟩ := cells8 BX.out.x0
  go_wp2_with fail
  refine RF.out.mono ?_
  rintro e y1 ⟨AL1, cL1, AG1, cG1, AF1, cF1, AP1, cP1, AA1, cA1, gl1, pl1, al1, rfl, hr1, hb1⟩
  have BX := Lib.hid (BX.out.below hb1)
  have HR := Lib.hid hr1
  have HT := Lib.hid (show ∀ b, (fun b => T b ∨ (w.heap.size ≤ b ∧ b < w.heap.size + 3)) b → b < y1.heap.size from fun b hb2 => Nat.lt_of_lt_of_le (HT.out b hb2) hb1.size)
  have H1 := Lib.hid (show (#[.slice AL1 m1.L.length cL1, .slice AG1 gl1.length cG1, .slice AF1 m1.fx.length cF1, .slice AP1 pl1.length cP1, .slice AA1 al1.length cA1, .int .i64 m1.dep, .int .i64 m1.most, .int .i64 m1.err] : Array Value).all (·.oneCell') = true from by simp [Value.oneCell'])
  have H2 := Lib.hid (show (#[.int .i64 1, .int .i64 0, .int .i64 0, .int .i64 0, .int .i64 0] : Array Value).all (·.oneCell') = true from by simp [Value.oneCell'])
  clear hr1 hb1 RF a0 a1 a2 a3 a4 a5 a6 a7
  have HG := Lib.hid (show gl1.length ≤ m1.L.length from HR.out.lg)
  by_cases hr : m1.L.length < 16384
  case neg =>
    have PN := Lib.hid (fun (hr : ¬ m1.L.length < 16384) => putE_no (m := m) (m1 := m1) (i := i) M0.out hr)
    have dr : decide ((16384 : Int) ≤ m1.L.length) = true := decide_eq_true (by omega)
    simp only []
    go_at_K
    repeat (first | (go_big_may; first | (refine wpList_store_row rfl rfT (.tmp 2) (.tmp 12) rfl (w.heap.size) #[.slice AL1 m1.L.length cL1, .slice AG1 gl1.length cG1, .slice AF1 m1.fx.length cF1, .slice AP1 pl1.length cP1, .slice AA1 al1.length cA1, .int .i64 m1.dep, .int .i64 m1.most, .int .i64 m1.err] rfl rfl rfT #[.slice AL m.L.length cL, .slice AG gl.length cG, .slice AF m.fx.length cF, .slice AP pl.length cP, .slice AA al.length cA, .int .i64 m.dep, .int .i64 m.most, .int .i64 m.err] BX.out.x0 S8 rfl H1.out ?_; generalize hZ1 : (y1).setRow (w.heap.size) #[.slice AL1 m1.L.length cL1, .slice AG1 gl1.length cG1, .slice AF1 m1.fx.length cF1, .slice AP1 pl1.length cP1, .slice AA1 al1.length cA1, .int .i64 m1.dep, .int .i64 m1.most, .int .i64 m1.err] = Z1; have HZ1 := Lib.hid hZ1; clear hZ1; have BX1 := Lib.hid (show Bx3 w Z1 rfT rnT rfT #[.slice AL1 m1.L.length cL1, .slice AG1 gl1.length cG1, .slice AF1 m1.fx.length cF1, .slice AP1 pl1.length cP1, .slice AA1 al1.length cA1, .int .i64 m1.dep, .int .i64 m1.most, .int .i64 m1.err] _ _ from HZ1.out ▸ BX.out.row0 #[.slice AL1 m1.L.length cL1, .slice AG1 gl1.length cG1, .slice AF1 m1.fx.length cF1, .slice AP1 pl1.length cP1, .slice AA1 al1.length cA1, .int .i64 m1.dep, .int .i64 m1.most, .int .i64 m1.err]); have HR1 := Lib.hid (show RfR Z1 (fun b => T b ∨ (w.heap.size ≤ b ∧ b < w.heap.size + 3)) N m1 AL1 cL1 AG1 cG1 AF1 cF1 AP1 cP1 AA1 cA1 gl1 pl1 al1 from HZ1.out ▸ (HR.out.later (BX.out.kept0 #[.slice AL1 m1.L.length cL1, .slice AG1 gl1.length cG1, .slice AF1 m1.fx.length cF1, .slice AP1 pl1.length cP1, .slice AA1 al1.length cA1, .int .i64 m1.dep, .int .i64 m1.most, .int .i64 m1.err]) (fun b hb => .inr hb)))) | (refine wpList_store_row rfl rnT (.tmp 3) (.tmp 13) rfl (w.heap.size + 1) #[.int .i64 1, .int .i64 0, .int .i64 0, .int .i64 0, .int .i64 0] rfl rfl rnT #[.int .i64 i.op, .int .i64 i.a, .int .i64 i.b, .int .i64 i.c, .int .i64 i.n] BX1.out.x1 S5 rfl H2.out ?_; generalize hy0 : (Z1).setRow (w.heap.size + 1) #[.int .i64 1, .int .i64 0, .int .i64 0, .int .i64 0, .int .i64 0] = y0; have Hy0 := Lib.hid hy0; clear hy0; have BX2 := Lib.hid (show Bx3 w y0 rfT rnT rfT _ #[.int .i64 1, .int .i64 0, .int .i64 0, .int .i64 0, .int .i64 0] _ from Hy0.out ▸ BX1.out.row1 #[.int .i64 1, .int .i64 0, .int .i64 0, .int .i64 0, .int .i64 0]); have HR2 := Lib.hid (show RfR y0 (fun b => T b ∨ (w.heap.size ≤ b ∧ b < w.heap.size + 3)) N m1 AL1 cL1 AG1 cG1 AF1 cF1 AP1 cP1 AA1 cA1 gl1 pl1 al1 from Hy0.out ▸ (HR1.out.later (BX1.out.kept1 #[.int .i64 1, .int .i64 0, .int .i64 0, .int .i64 0, .int .i64 0]) (fun b hb => .inr hb))); have SZ2 := Lib.hid (show y1.heap.size ≤ y0.heap.size from Nat.le_trans (HZ1.out ▸ (BX.out.kept0 #[.slice AL1 m1.L.length cL1, .slice AG1 gl1.length cG1, .slice AF1 m1.fx.length cF1, .slice AP1 pl1.length cP1, .slice AA1 al1.length cA1, .int .i64 m1.dep, .int .i64 m1.most, .int .i64 m1.err]).size) (Hy0.out ▸ (BX1.out.kept1 #[.int .i64 1, .int .i64 0, .int .i64 0, .int .i64 0, .int .i64 0]).size)); obtain ⟨a0, a1, a2, a3, a4, a5, a6, a7⟩ := cells8 BX2.out.x0)) | go_values | go_skip | go_guarded | go_step | go_upon)
    have BX := BX2
    have HR := HR2
    have HT := Lib.hid (show ∀ b, (fun b => T b ∨ (w.heap.size ≤ b ∧ b < w.heap.size + 3)) b → b < y0.heap.size from fun b hb2 => Nat.lt_of_lt_of_le (HT.out b hb2) SZ2.out)
    clear BX2 HR2 BX1 HR1 SZ2 HZ1 Hy0
    have dr2 : decide ((16384 : Int) ≤ m1.L.length) = true := decide_eq_true (by omega)
    have FE := Lib.hid (reffail_any 242 (fun b => T b ∨ (w.heap.size ≤ b ∧ b < w.heap.size + 3)) N m1 AL1 cL1 AG1 cG1 AF1 cF1 AP1 cP1 AA1 cA1 gl1 pl1 al1 y0 HR.out HT.out HN.out)
    generalize hm9 : failE m1 242 = m9 at FE
    have M9 := Lib.hid (show putE m i = m9 from by rw [← hm9]; exact PN.out hr)
    clear hr hm9
    refine FE.out.mono ?_
    rintro e y1 ⟨AL9, cL9, AG9, cG9, AF9, cF9, AP9, cP9, AA9, cA9, gl9, pl9, al9, rfl, hr9, hb9⟩
    have BE := Lib.hid (BX.out.below hb9)
    have RE := Lib.hid hr9
    have H1 := Lib.hid (show (#[.slice AL9 m9.L.length cL9, .slice AG9 gl9.length cG9, .slice AF9 m9.fx.length cF9, .slice AP9 pl9.length cP9, .slice AA9 al9.length cA9, .int .i64 m9.dep, .int .i64 m9.most, .int .i64 m9.err] : Array Value).all (·.oneCell') = true from by simp [Value.oneCell'])
    clear hb9 hr9 FE a0 a1 a2 a3 a4 a5 a6 a7
    simp only []
    go_at_K
    repeat (first | (go_big_may; first | (refine wpList_store_row rfl rfT (.tmp 4) (.tmp 19) rfl (w.heap.size + 1 + 1) #[.slice AL9 m9.L.length cL9, .slice AG9 gl9.length cG9, .slice AF9 m9.fx.length cF9, .slice AP9 pl9.length cP9, .slice AA9 al9.length cA9, .int .i64 m9.dep, .int .i64 m9.most, .int .i64 m9.err] rfl rfl rfT #[.slice none 0 0, .slice none 0 0, .slice none 0 0, .slice none 0 0, .slice none 0 0, .int .i64 0, .int .i64 0, .int .i64 0] BE.out.x2 S8 rfl H1.out ?_; generalize hZZ : (y1).setRow (w.heap.size + 1 + 1) #[.slice AL9 m9.L.length cL9, .slice AG9 gl9.length cG9, .slice AF9 m9.fx.length cF9, .slice AP9 pl9.length cP9, .slice AA9 al9.length cA9, .int .i64 m9.dep, .int .i64 m9.most, .int .i64 m9.err] = ZZ; have HZZ := Lib.hid hZZ; clear hZZ)) | go_values | go_skip | go_guarded | go_step | go_upon)
    have RZ := Lib.hid (HZZ.out ▸ (RE.out.later (BE.out.kept2 #[.slice AL9 m9.L.length cL9, .slice AG9 gl9.length cG9, .slice AF9 m9.fx.length cF9, .slice AP9 pl9.length cP9, .slice AA9 al9.length cA9, .int .i64 m9.dep, .int .i64 m9.most, .int .i64 m9.err]) (fun b hb => .inr hb)))
    have BZ := Lib.hid (HZZ.out ▸ BE.out.row2 #[.slice AL9 m9.L.length cL9, .slice AG9 gl9.length cG9, .slice AF9 m9.fx.length cF9, .slice AP9 pl9.length cP9, .slice AA9 al9.length cA9, .int .i64 m9.dep, .int .i64 m9.most, .int .i64 m9.err])
    rw [M9.out]
    obtain ⟨z0, z1, z2, z3, z4, z5, z6, z7⟩ := cells8 BZ.out.x2
    refine bodyPost_ret (v := .agg #[.slice AL9 m9.L.length cL9, .slice AG9 gl9.length cG9, .slice AF9 m9.fx.length cF9, .slice AP9 pl9.length cP9, .slice AA9 al9.length cA9, .int .i64 m9.dep, .int .i64 m9.most, .int .i64 m9.err]) ?_ rfl ⟨AL9, cL9, AG9, cG9, AF9, cF9, AP9, cP9, AA9, cA9, gl9, pl9, al9, rfl, RZ.out.less (fun b hb => .inl hb), BZ.out.b⟩
    simp [results, Tryd.results47, go_sem, z0, z1, z2, z3, z4, z5, z6, z7]
  case pos =>
    have PE := Lib.hid (show putE m i = ⟨m1.L ++ [hltI], m1.fx, m1.dep, m1.most, m1.err⟩ from by have := putE_yes (i := i) M0.out hr; rwa [PI.out] at this)
    have dr : decide ((16384 : Int) ≤ m1.L.length) = false := decide_eq_false (by omega)
    simp only []
    go_at_K
    repeat (first | (go_big_may; first | (refine wpList_store_row rfl rfT (.tmp 2) (.tmp 12) rfl (w.heap.size) #[.slice AL1 m1.L.length cL1, .slice AG1 gl1.length cG1, .slice AF1 m1.fx.length cF1, .slice AP1 pl1.length cP1, .slice AA1 al1.length cA1, .int .i64 m1.dep, .int .i64 m1.most, .int .i64 m1.err] rfl rfl rfT #[.slice AL m.L.length cL, .slice AG gl.length cG, .slice AF m.fx.length cF, .slice AP pl.length cP, .slice AA al.length cA, .int .i64 m.dep, .int .i64 m.most, .int .i64 m.err] BX.out.x0 S8 rfl H1.out ?_; generalize hZ1 : (y1).setRow (w.heap.size) #[.slice AL1 m1.L.length cL1, .slice AG1 gl1.length cG1, .slice AF1 m1.fx.length cF1, .slice AP1 pl1.length cP1, .slice AA1 al1.length cA1, .int .i64 m1.dep, .int .i64 m1.most, .int .i64 m1.err] = Z1; have HZ1 := Lib.hid hZ1; clear hZ1; have BX1 := Lib.hid (show Bx3 w Z1 rfT rnT rfT #[.slice AL1 m1.L.length cL1, .slice AG1 gl1.length cG1, .slice AF1 m1.fx.length cF1, .slice AP1 pl1.length cP1, .slice AA1 al1.length cA1, .int .i64 m1.dep, .int .i64 m1.most, .int .i64 m1.err] _ _ from HZ1.out ▸ BX.out.row0 #[.slice AL1 m1.L.length cL1, .slice AG1 gl1.length cG1, .slice AF1 m1.fx.length cF1, .slice AP1 pl1.length cP1, .slice AA1 al1.length cA1, .int .i64 m1.dep, .int .i64 m1.most, .int .i64 m1.err]); have HR1 := Lib.hid (show RfR Z1 (fun b => T b ∨ (w.heap.size ≤ b ∧ b < w.heap.size + 3)) N m1 AL1 cL1 AG1 cG1 AF1 cF1 AP1 cP1 AA1 cA1 gl1 pl1 al1 from HZ1.out ▸ (HR.out.later (BX.out.kept0 #[.slice AL1 m1.L.length cL1, .slice AG1 gl1.length cG1, .slice AF1 m1.fx.length cF1, .slice AP1 pl1.length cP1, .slice AA1 al1.length cA1, .int .i64 m1.dep, .int .i64 m1.most, .int .i64 m1.err]) (fun b hb => .inr hb)))) | (refine wpList_store_row rfl rnT (.tmp 3) (.tmp 13) rfl (w.heap.size + 1) #[.int .i64 1, .int .i64 0, .int .i64 0, .int .i64 0, .int .i64 0] rfl rfl rnT #[.int .i64 i.op, .int .i64 i.a, .int .i64 i.b, .int .i64 i.c, .int .i64 i.n] BX1.out.x1 S5 rfl H2.out ?_; generalize hy0 : (Z1).setRow (w.heap.size + 1) #[.int .i64 1, .int .i64 0, .int .i64 0, .int .i64 0, .int .i64 0] = y0; have Hy0 := Lib.hid hy0; clear hy0; have BX2 := Lib.hid (show Bx3 w y0 rfT rnT rfT _ #[.int .i64 1, .int .i64 0, .int .i64 0, .int .i64 0, .int .i64 0] _ from Hy0.out ▸ BX1.out.row1 #[.int .i64 1, .int .i64 0, .int .i64 0, .int .i64 0, .int .i64 0]); have HR2 := Lib.hid (show RfR y0 (fun b => T b ∨ (w.heap.size ≤ b ∧ b < w.heap.size + 3)) N m1 AL1 cL1 AG1 cG1 AF1 cF1 AP1 cP1 AA1 cA1 gl1 pl1 al1 from Hy0.out ▸ (HR1.out.later (BX1.out.kept1 #[.int .i64 1, .int .i64 0, .int .i64 0, .int .i64 0, .int .i64 0]) (fun b hb => .inr hb))); have SZ2 := Lib.hid (show y1.heap.size ≤ y0.heap.size from Nat.le_trans (HZ1.out ▸ (BX.out.kept0 #[.slice AL1 m1.L.length cL1, .slice AG1 gl1.length cG1, .slice AF1 m1.fx.length cF1, .slice AP1 pl1.length cP1, .slice AA1 al1.length cA1, .int .i64 m1.dep, .int .i64 m1.most, .int .i64 m1.err]).size) (Hy0.out ▸ (BX1.out.kept1 #[.int .i64 1, .int .i64 0, .int .i64 0, .int .i64 0, .int .i64 0]).size)); obtain ⟨a0, a1, a2, a3, a4, a5, a6, a7⟩ := cells8 BX2.out.x0)) | go_values | go_skip | go_guarded | go_step | go_upon)
    have BX := BX2
    have HR := HR2
    have HT := Lib.hid (show ∀ b, (fun b => T b ∨ (w.heap.size ≤ b ∧ b < w.heap.size + 3)) b → b < y0.heap.size from fun b hb2 => Nat.lt_of_lt_of_le (HT.out b hb2) SZ2.out)
    clear BX2 HR2 BX1 HR1 SZ2 HZ1 Hy0
    have dr2 : decide ((16384 : Int) ≤ m1.L.length) = false := decide_eq_false (by omega)
    have HL := Lib.hid hr
    clear hr
    have BX := Lib.hid (BX.out.below (Below.refl _ _).drew)
    have HR := Lib.hid (HR.out.below (Below.refl _ _).drew)
    have hTy := Lib.hid (show ∀ b, (fun b => T b ∨ (w.heap.size ≤ b ∧ b < w.heap.size + 3)) b → b < y0.drew.heap.size from HT.out)
    clear a0 a1 a2 a3 a4 a5 a6 a7
    obtain ⟨y, hy⟩ : ∃ y, y = y0.drew := ⟨_, rfl⟩
    rw [← hy] at BX HR hTy
    have BY := Lib.hid (Below.refl y.heap.size y)
    have L0 : y0.drew.cell? ⟨w.heap.size, 0, none⟩ = some (.slice AL1 m1.L.length cL1) ∧ y0.drew.cell? ⟨w.heap.size + 1, 0, none⟩ = some (.int .i64 1) ∧ y0.drew.cell? ⟨w.heap.size + 1, 1, none⟩ = some (.int .i64 0) ∧ y0.drew.cell? ⟨w.heap.size + 1, 2, none⟩ = some (.int .i64 0) ∧ y0.drew.cell? ⟨w.heap.size + 1, 3, none⟩ = some (.int .i64 0) ∧ y0.drew.cell? ⟨w.heap.size + 1, 4, none⟩ = some (.int .i64 0) := by rw [← hy]; exact ⟨(BX.out.below BY.out).x0.cell 0, (BX.out.below BY.out).x1.cell 0, (BX.out.below BY.out).x1.cell 1, (BX.out.below BY.out).x1.cell 2, (BX.out.below BY.out).x1.cell 3, (BX.out.below BY.out).x1.cell 4⟩
    obtain ⟨i0, hi0, hz0, hz1, hz2⟩ := info_parts rnInfo
    refine wp_region_noPanic ?_
    refine region_T (S := fun y => y.cell? ⟨w.heap.size, 0, none⟩ = some (.slice AL1 m1.L.length cL1) ∧ y.cell? ⟨w.heap.size + 1, 0, none⟩ = some (.int .i64 1) ∧ y.cell? ⟨w.heap.size + 1, 1, none⟩ = some (.int .i64 0) ∧ y.cell? ⟨w.heap.size + 1, 2, none⟩ = some (.int .i64 0) ∧ y.cell? ⟨w.heap.size + 1, 3, none⟩ = some (.int .i64 0) ∧ y.cell? ⟨w.heap.size + 1, 4, none⟩ = some (.int .i64 0)) 8 (by kernel_rfl) L0 (fun hHeld => ?_)
    rw [← hy] at hHeld ⊢
    clear L0 hy
    refine anyT_take (i := 1) (oi := _) (v := .pointer (some ⟨w.heap.size, 0, none⟩)) rfl (by kernel_rfl) (by kernel_rfl) (by kernel_rfl) (by kernel_rfl) (fun _ _ _ h => h) (Or.inl ⟨by rfl, fun w hSw => by (try dsimp only at hSw); go_simp⟩) (by assumption) ?_
    try simp only [Act.put, List.setIfInBounds_toArray, List.set_cons_zero, List.set_cons_succ]
    refine anyT_take (i := 2) (oi := _) (v := .slice AL1 m1.L.length cL1) rfl (by kernel_rfl) (by kernel_rfl) (by kernel_rfl) (by kernel_rfl) (fun _ _ _ h => h) (Or.inl ⟨by rfl, fun w hSw => by (try dsimp only at hSw); go_simp⟩) (by assumption) ?_
    try simp only [Act.put, List.setIfInBounds_toArray, List.set_cons_zero, List.set_cons_succ]
    refine anyT_take (i := 4) (oi := _) (v := .agg #[.int .i64 1, .int .i64 0, .int .i64 0, .int .i64 0, .int .i64 0]) rfl (by kernel_rfl) (by kernel_rfl) (by kernel_rfl) (by kernel_rfl) (fun _ _ _ h => h) (Or.inl ⟨by rfl, fun w hSw => by (try dsimp only at hSw); go_simp⟩) (by assumption) ?_
    try simp only [Act.put, List.setIfInBounds_toArray, List.set_cons_zero, List.set_cons_succ]
    have HRL := Lib.hid HR.out.fL
    refine anyT_ready (rs := [0, 5]) (by kernel_rfl) (by simp) (ReadyT.cons (o := _) rfl (fun K hK => ?_) (ReadyT.cons (o := _) rfl (fun K hK => ?_) ReadyT.nil))
    · go_simp
      have SE := Lib.hid (show y.heap.size = y.heap.size from rfl)
      have BY := Lib.hid (show Below y.heap.size y (y.alloc (.cells #[] rnT)) from BY.out.alloc BY.out.size (.cells #[] rnT))
      have OE := Lib.hid (show (y.alloc (.cells #[] rnT)).ownsRow y.heap.size rnT 5 (.slice (some ⟨y.heap.size, 0, none⟩) 0 0) 0 [] from row_built (e := rnT) (sz := 5) y #[] 0 0 rfl (Nat.le_refl _) (Nat.zero_le _) y.heap.size (by rw [SE.out]; omega) _ (by rw [SE.out]) [] rfl)
      refine hK.out _ _ ⟨(BX.out.below BY.out).x0.cell 0, (BX.out.below BY.out).x1.cell 0, (BX.out.below BY.out).x1.cell 1, (BX.out.below BY.out).x1.cell 2, (BX.out.below BY.out).x1.cell 3, (BX.out.below BY.out).x1.cell 4⟩ (fun hHeld => ?_)
      clear hK K
      try simp only [Act.put, List.setIfInBounds_toArray, List.set_cons_zero, List.set_cons_succ]
      refine anyT_ready (rs := [3, 5]) (by kernel_rfl) (by simp) (ReadyT.cons (o := _) rfl (fun K hK => ?_) (ReadyT.cons (o := _) rfl (fun K hK => ?_) ReadyT.nil))
      · refine step_app_any rfl (.tmp 20) (.tmp 22) 25 rfl y.heap.size rnT i0 _ 5 40 Tryd.underlying25 hi0 hz0 hz1 hz2 rfl (by decide) (.slice (some ⟨y.heap.size, 0, none⟩) 0 0) 0 [] rfl OE.out (.slice AL1 m1.L.length cL1) (m1.L.length) (m1.L.flatMap inC) rfl (HRL.out.below BY.out).1 (one_flat in_one _) (by have := HR.out.ok.len; unfold maxLen; omega) (by have := HR.out.ok.len; omega) BY.out.size ?_
        intro v6 w6 ho6 hg6 hat6
        rw [Nat.zero_add, List.nil_append] at ho6
        have hform := row_form ho6
        obtain ⟨A6, c6, rfl⟩ := hform
        have BY := Lib.hid (show Below y.heap.size y w6 from BY.out.grown hg6 BY.out.size (fun b hb => (World.ownsRow.lt OE.out b hb).1))
        have O6 := Lib.hid ho6
        clear ho6 hg6 hat6 OE
        refine hK.out _ _ ⟨(BX.out.below BY.out).x0.cell 0, (BX.out.below BY.out).x1.cell 0, (BX.out.below BY.out).x1.cell 1, (BX.out.below BY.out).x1.cell 2, (BX.out.below BY.out).x1.cell 3, (BX.out.below BY.out).x1.cell 4⟩ (fun hHeld => ?_)
        clear hK K
        try simp only [Act.put, List.setIfInBounds_toArray, List.set_cons_zero, List.set_cons_succ]
        refine anyT_ready (rs := [5]) (by kernel_rfl) (by simp) (ReadyT.cons (o := _) rfl (fun K hK => ?_) ReadyT.nil)
        go_simp
        have BY := Lib.hid (show Below y.heap.size y (w6.alloc (.cells #[.int .i64 1, .int .i64 0, .int .i64 0, .int .i64 0, .int .i64 0] rnT)) from BY.out.alloc BY.out.size (.cells #[.int .i64 1, .int .i64 0, .int .i64 0, .int .i64 0, .int .i64 0] rnT))
        have XW := Lib.hid (Whole.made w6 rnT #[.int .i64 1, .int .i64 0, .int .i64 0, .int .i64 0, .int .i64 0] (w6.heap.size) (rfl))
        have O6 := Lib.hid (World.ownsRow.alloc O6.out (.cells #[.int .i64 1, .int .i64 0, .int .i64 0, .int .i64 0, .int .i64 0] rnT))
        refine hK.out _ _ ⟨(BX.out.below BY.out).x0.cell 0, (BX.out.below BY.out).x1.cell 0, (BX.out.below BY.out).x1.cell 1, (BX.out.below BY.out).x1.cell 2, (BX.out.below BY.out).x1.cell 3, (BX.out.below BY.out).x1.cell 4⟩ (fun hHeld => ?_)
        clear hK K
        try simp only [Act.put, List.setIfInBounds_toArray, List.set_cons_zero, List.set_cons_succ]
        refine anyT_ready (rs := [6]) (by kernel_rfl) (by simp) (ReadyT.cons (o := _) rfl (fun K hK => ?_) ReadyT.nil)
        have NC := Lib.hid (show ∀ (j : Nat) u, ([.int .i64 1, .int .i64 0, .int .i64 0, .int .i64 0, .int .i64 0] : List Value)[j]? = some u → (w6.alloc (.cells #[.int .i64 1, .int .i64 0, .int .i64 0, .int .i64 0, .int .i64 0] rnT)).cell? ((⟨w6.heap.size, 0, none⟩ : Addr).add j) = some u from fun j u hj => by
          rw [Go.WideShapes.add_plain, Nat.zero_add]
          exact (XW.out.cell j).trans (by simpa using hj))
        refine step_app rfl (.tmp 23) (.tmp 25) 25 rfl y.heap.size rnT i0 _ 5 40 Tryd.underlying25 hi0 hz0 hz1 hz2 rfl (by decide) (.slice A6 (m1.L.length) c6) (m1.L.length) (m1.L.flatMap inC) rfl O6.out ⟨w6.heap.size, 0, none⟩ 1 1 [.int .i64 1, .int .i64 0, .int .i64 0, .int .i64 0, .int .i64 0] rfl rfl NC.out (in_one hltI) (by have := HR.out.ok.len; unfold maxLen; omega) (by have := HR.out.ok.len; omega) BY.out.size ?_
        intro v8 w8 ho8 hg8 hat8
        have hform := row_form ho8
        obtain ⟨A8, c8, rfl⟩ := hform
        have BY := Lib.hid (show Below y.heap.size y w8 from BY.out.grown hg8 BY.out.size (fun b hb => (World.ownsRow.lt O6.out b hb).1))
        have O8 := Lib.hid ho8
        clear ho8 hg8 hat8 O6 XW NC
        refine hK.out _ _ ⟨(BX.out.below BY.out).x0.cell 0, (BX.out.below BY.out).x1.cell 0, (BX.out.below BY.out).x1.cell 1, (BX.out.below BY.out).x1.cell 2, (BX.out.below BY.out).x1.cell 3, (BX.out.below BY.out).x1.cell 4⟩ (fun hHeld => ?_)
        clear hK K
        try simp only [Act.put, List.setIfInBounds_toArray, List.set_cons_zero, List.set_cons_succ]
        refine anyT_take (i := 7) (oi := _) (v := .pointer (some ⟨w.heap.size, 0, none⟩)) rfl (by kernel_rfl) (by kernel_rfl) (by kernel_rfl) (by kernel_rfl) (fun _ _ _ h => h) (Or.inl ⟨by rfl, fun w hSw => by (try dsimp only at hSw); go_simp⟩) (by assumption) ?_
        try simp only [Act.put, List.setIfInBounds_toArray, List.set_cons_zero, List.set_cons_succ]
        refine anyT_ready (rs := [8]) (by kernel_rfl) (by simp) (ReadyT.last (o := _) rfl (fun K hK => ?_))
        have t0 : w8.cell? ⟨w.heap.size, 0, none⟩ = some (.slice AL1 m1.L.length cL1) := (BX.out.below BY.out).x0.cell 0
        have tf : w8.frozen? ⟨w.heap.size, 0, none⟩ = false := (BX.out.below BY.out).x0.free 0
        go_simp
        clear t0 tf
        refine hK.out _ _ trivial (fun _ => ?_)
        clear hK K
        try simp only [Act.put, List.setIfInBounds_toArray, List.set_cons_zero, List.set_cons_succ]
        refine anyT_done (by kernel_rfl) ?_ _
        refine NoPanic.normal ?_
        have B9 := Lib.hid (show Bx3 w (w8.setCell ⟨w.heap.size, 0, none⟩ (.slice A8 (m1.L.length + 1) c8)) rfT rnT rfT #[.slice A8 (m1.L.length + 1) c8, .slice AG1 gl1.length cG1, .slice AF1 m1.fx.length cF1, .slice AP1 pl1.length cP1, .slice AA1 al1.length cA1, .int .i64 m1.dep, .int .i64 m1.most, .int .i64 m1.err] _ _ from (BX.out.below BY.out).set0 0 (.slice A8 (m1.L.length + 1) c8))
        have K9 : KeptS (fun b => b = w.heap.size) w8 (w8.setCell ⟨w.heap.size, 0, none⟩ (.slice A8 (m1.L.length + 1) c8)) := KeptS.set rfl
        have hbx : w.heap.size < y.heap.size := BX.out.x0.lt
        have R9 := Lib.hid (show RfR (w8.setCell ⟨w.heap.size, 0, none⟩ (.slice A8 (m1.L.length + 1) c8)) (fun b => T b ∨ (w.heap.size ≤ b ∧ b < w.heap.size + 3)) N ⟨m1.L ++ [hltI], m1.fx, m1.dep, m1.most, m1.err⟩ A8 c8 AG1 cG1 AF1 cF1 AP1 cP1 AA1 cA1 gl1 pl1 al1 from by
          have h0 := (HR.out.below BY.out).later K9 (fun b hb => .inr (by rw [hb]; omega))
          refine ⟨?_, h0.fG, h0.fF, h0.fP, h0.fA, by simp only [List.length_append, List.length_singleton]; have := h0.lg; omega, h0.lp, h0.la, h0.lf, ⟨?_, ?_, h0.ok.d0, h0.ok.dm⟩, h0.nm⟩
          · refine ⟨?_, fun b hb ht => ?_⟩
            · rw [List.length_append, List.flatMap_append, List.flatMap_singleton]
              exact row_more (K9.row O8.out (fun b hb e => by have := (row_block O8.out hb).1; omega)) (Nat.zero_le _)
            · have h1 := (row_block O8.out (own_len (n' := m1.L.length + 1) hb)).1
              have h2 := hTy.out b ht
              omega
          · intro j hj
            rcases List.mem_append.1 hj with hj | hj
            · exact h0.ok.good j hj
            · rw [List.mem_singleton.1 hj]; exact CJ.out
          · simp only [List.length_append, List.length_singleton]
            have := HL.out
            omega)
        have HT := Lib.hid (show ∀ b, (fun b => T b ∨ (w.heap.size ≤ b ∧ b < w.heap.size + 3)) b → b < (w8.setCell ⟨w.heap.size, 0, none⟩ (.slice A8 (m1.L.length + 1) c8)).heap.size from fun b hb => Nat.lt_of_lt_of_le (hTy.out b hb) (Nat.le_trans BY.out.size K9.size))
        clear K9 hbx BX HR BY O8 hTy hHeld
        generalize (w8.setCell ⟨w.heap.size, 0, none⟩ (.slice A8 (m1.L.length + 1) c8)) = y0 at *
        have B9 := Lib.hid (B9.out.below (Below.refl _ _).drew)
        have R9 := Lib.hid (R9.out.below (Below.refl _ _).drew)
        have hTy := Lib.hid (show ∀ b, (fun b => T b ∨ (w.heap.size ≤ b ∧ b < w.heap.size + 3)) b → b < y0.drew.heap.size from HT.out)
        obtain ⟨y, hy⟩ : ∃ y, y = y0.drew := ⟨_, rfl⟩
        rw [← hy] at B9 R9 hTy
        have BY := Lib.hid (Below.refl y.heap.size y)
        have L0 : y0.drew.cell? ⟨w.heap.size, 0, none⟩ = some (.slice A8 (m1.L.length + 1) c8) ∧ y0.drew.cell? ⟨w.heap.size, 1, none⟩ = some (.slice AG1 gl1.length cG1) ∧ y0.drew.cell? ⟨w.heap.size, 2, none⟩ = some (.slice AF1 m1.fx.length cF1) ∧ y0.drew.cell? ⟨w.heap.size, 3, none⟩ = some (.slice AP1 pl1.length cP1) ∧ y0.drew.cell? ⟨w.heap.size, 4, none⟩ = some (.slice AA1 al1.length cA1) ∧ y0.drew.cell? ⟨w.heap.size, 5, none⟩ = some (.int .i64 m1.dep) ∧ y0.drew.cell? ⟨w.heap.size, 6, none⟩ = some (.int .i64 m1.most) ∧ y0.drew.cell? ⟨w.heap.size, 7, none⟩ = some (.int .i64 m1.err) := by rw [← hy]; exact ⟨(B9.out.below BY.out).x0.cell 0, (B9.out.below BY.out).x0.cell 1, (B9.out.below BY.out).x0.cell 2, (B9.out.below BY.out).x0.cell 3, (B9.out.below BY.out).x0.cell 4, (B9.out.below BY.out).x0.cell 5, (B9.out.below BY.out).x0.cell 6, (B9.out.below BY.out).x0.cell 7⟩
        clear HT
        obtain ⟨i0, hi0, hz0, hz1, hz2⟩ := info_parts itInfo
        have HRG := Lib.hid R9.out.fG
        have NW := Lib.hid (show ∀ W, Below y.heap.size y W → Calls Tryd.prog 64 #[.agg #[.slice A8 (m1.L.length + 1) c8, .slice AG1 gl1.length cG1, .slice AF1 m1.fx.length cF1, .slice AP1 pl1.length cP1, .slice AA1 al1.length cA1, .int .i64 m1.dep, .int .i64 m1.most, .int .i64 m1.err]] W (fun e w' => (∃ p : Int, e = .returned (.int .i64 p)) ∧ Below W.heap.size W w') from fun W hb => by
          have h1 := now_any (fun b => T b ∨ (w.heap.size ≤ b ∧ b < w.heap.size + 3)) N ⟨m1.L ++ [hltI], m1.fx, m1.dep, m1.most, m1.err⟩ A8 c8 AG1 cG1 AF1 cF1 AP1 cP1 AA1 cA1 gl1 pl1 al1 W (R9.out.below hb) (fun b hb2 => Nat.lt_of_lt_of_le (hTy.out b hb2) hb.size) HN.out
          simp only [List.length_append, List.length_singleton] at h1
          exact h1)
        go_wp2_with fail
        refine wp_region_noPanic ?_
        refine region_T (S := fun y => y.cell? ⟨w.heap.size, 0, none⟩ = some (.slice A8 (m1.L.length + 1) c8) ∧ y.cell? ⟨w.heap.size, 1, none⟩ = some (.slice AG1 gl1.length cG1) ∧ y.cell? ⟨w.heap.size, 2, none⟩ = some (.slice AF1 m1.fx.length cF1) ∧ y.cell? ⟨w.heap.size, 3, none⟩ = some (.slice AP1 pl1.length cP1) ∧ y.cell? ⟨w.heap.size, 4, none⟩ = some (.slice AA1 al1.length cA1) ∧ y.cell? ⟨w.heap.size, 5, none⟩ = some (.int .i64 m1.dep) ∧ y.cell? ⟨w.heap.size, 6, none⟩ = some (.int .i64 m1.most) ∧ y.cell? ⟨w.heap.size, 7, none⟩ = some (.int .i64 m1.err)) 9 (by kernel_rfl) L0 (fun hHeld => ?_)
        rw [← hy] at hHeld ⊢
        clear L0 hy
        refine anyT_take (i := 1) (oi := _) (v := .pointer (some ⟨w.heap.size, 1, none⟩)) rfl (by kernel_rfl) (by kernel_rfl) (by kernel_rfl) (by kernel_rfl) (fun _ _ _ h => h) (Or.inl ⟨by rfl, fun w hSw => by (try dsimp only at hSw); go_simp⟩) (by assumption) ?_
        try simp only [Act.put, List.setIfInBounds_toArray, List.set_cons_zero, List.set_cons_succ]
        refine anyT_take (i := 2) (oi := _) (v := .slice AG1 gl1.length cG1) rfl (by kernel_rfl) (by kernel_rfl) (by kernel_rfl) (by kernel_rfl) (fun _ _ _ h => h) (Or.inl ⟨by rfl, fun w hSw => by (try dsimp only at hSw); go_simp⟩) (by assumption) ?_
        try simp only [Act.put, List.setIfInBounds_toArray, List.set_cons_zero, List.set_cons_succ]
        refine anyT_take (i := 4) (oi := _) (v := .agg #[.slice A8 (m1.L.length + 1) c8, .slice AG1 gl1.length cG1, .slice AF1 m1.fx.length cF1, .slice AP1 pl1.length cP1, .slice AA1 al1.length cA1, .int .i64 m1.dep, .int .i64 m1.most, .int .i64 m1.err]) rfl (by kernel_rfl) (by kernel_rfl) (by kernel_rfl) (by kernel_rfl) (fun _ _ _ h => h) (Or.inl ⟨by rfl, fun w hSw => by (try dsimp only at hSw); go_simp⟩) (by assumption) ?_
        try simp only [Act.put, List.setIfInBounds_toArray, List.set_cons_zero, List.set_cons_succ]
        refine anyT_ready (rs := [0]) (by kernel_rfl) (by simp) (ReadyT.cons (o := _) rfl (fun K hK => ?_) ReadyT.nil)
        go_simp
        have SE := Lib.hid (show y.heap.size = y.heap.size from rfl)
        have BY := Lib.hid (show Below y.heap.size y (y.alloc (.cells #[] itT)) from BY.out.alloc BY.out.size (.cells #[] itT))
        have OE := Lib.hid (show (y.alloc (.cells #[] itT)).ownsRow y.heap.size itT 1 (.slice (some ⟨y.heap.size, 0, none⟩) 0 0) 0 [] from row_built (e := itT) (sz := 1) y #[] 0 0 rfl (Nat.le_refl _) (Nat.zero_le _) y.heap.size (by rw [SE.out]; omega) _ (by rw [SE.out]) [] rfl)
        refine hK.out _ _ ⟨(B9.out.below BY.out).x0.cell 0, (B9.out.below BY.out).x0.cell 1, (B9.out.below BY.out).x0.cell 2, (B9.out.below BY.out).x0.cell 3, (B9.out.below BY.out).x0.cell 4, (B9.out.below BY.out).x0.cell 5, (B9.out.below BY.out).x0.cell 6, (B9.out.below BY.out).x0.cell 7⟩ (fun hHeld => ?_)
        clear hK K
        try simp only [Act.put, List.setIfInBounds_toArray, List.set_cons_zero, List.set_cons_succ]
        refine anyT_ready (rs := [3]) (by kernel_rfl) (by simp) (ReadyT.cons (o := _) rfl (fun K hK => ?_) ReadyT.nil)
        refine step_app_any rfl (.tmp 28) (.tmp 30) 26 rfl y.heap.size itT i0 _ 1 8 Tryd.underlying26 hi0 hz0 hz1 hz2 rfl (by decide) (.slice (some ⟨y.heap.size, 0, none⟩) 0 0) 0 [] rfl OE.out (.slice AG1 gl1.length cG1) (gl1.length) (gl1.flatMap itC) rfl (HRG.out.below BY.out).1 (one_flat it_one _) (by have := R9.out.lg; have := R9.out.ok.len; unfold maxLen; omega) (by have := R9.out.lg; have := R9.out.ok.len; omega) BY.out.size ?_
        intro v6 w6 ho6 hg6 hat6
        rw [Nat.zero_add, List.nil_append] at ho6
        have hform := row_form ho6
        obtain ⟨A6, c6, rfl⟩ := hform
        have BY := Lib.hid (show Below y.heap.size y w6 from BY.out.grown hg6 BY.out.size (fun b hb => (World.ownsRow.lt OE.out b hb).1))
        have O6 := Lib.hid ho6
        clear ho6 hg6 hat6 OE
        refine hK.out _ _ ⟨(B9.out.below BY.out).x0.cell 0, (B9.out.below BY.out).x0.cell 1, (B9.out.below BY.out).x0.cell 2, (B9.out.below BY.out).x0.cell 3, (B9.out.below BY.out).x0.cell 4, (B9.out.below BY.out).x0.cell 5, (B9.out.below BY.out).x0.cell 6, (B9.out.below BY.out).x0.cell 7⟩ (fun hHeld => ?_)
        clear hK K
        try simp only [Act.put, List.setIfInBounds_toArray, List.set_cons_zero, List.set_cons_succ]
        refine anyT_ready (rs := [5]) (by kernel_rfl) (by simp) (ReadyT.cons (o := _) rfl (fun K hK => ?_) ReadyT.nil)
        go_simp
        go_at_call 64
        refine (NW.out w6 BY.out).mono ?_
        rintro e y2 ⟨⟨p, rfl⟩, hb2⟩
        have O6 := Lib.hid (row_below O6.out hb2)
        have BY := Lib.hid (show Below y.heap.size y y2 from BY.out.trans (hb2.mono BY.out.size))
        clear hb2
        refine hK.out _ _ ⟨(B9.out.below BY.out).x0.cell 0, (B9.out.below BY.out).x0.cell 1, (B9.out.below BY.out).x0.cell 2, (B9.out.below BY.out).x0.cell 3, (B9.out.below BY.out).x0.cell 4, (B9.out.below BY.out).x0.cell 5, (B9.out.below BY.out).x0.cell 6, (B9.out.below BY.out).x0.cell 7⟩ (fun hHeld => ?_)
        clear hK K
        try simp only [Act.put, List.setIfInBounds_toArray, List.set_cons_zero, List.set_cons_succ]
        refine anyT_ready (rs := [6]) (by kernel_rfl) (by simp) (ReadyT.cons (o := _) rfl (fun K hK => ?_) ReadyT.nil)
        go_simp
        have BY := Lib.hid (show Below y.heap.size y (y2.alloc (.cells #[.int .i64 p] itT)) from BY.out.alloc BY.out.size (.cells #[.int .i64 p] itT))
        have XW := Lib.hid (Whole.made y2 itT #[.int .i64 p] (y2.heap.size) rfl)
        have O6 := Lib.hid (World.ownsRow.alloc O6.out (.cells #[.int .i64 p] itT))
        refine hK.out _ _ ⟨(B9.out.below BY.out).x0.cell 0, (B9.out.below BY.out).x0.cell 1, (B9.out.below BY.out).x0.cell 2, (B9.out.below BY.out).x0.cell 3, (B9.out.below BY.out).x0.cell 4, (B9.out.below BY.out).x0.cell 5, (B9.out.below BY.out).x0.cell 6, (B9.out.below BY.out).x0.cell 7⟩ (fun hHeld => ?_)
        clear hK K
        try simp only [Act.put, List.setIfInBounds_toArray, List.set_cons_zero, List.set_cons_succ]
        refine anyT_ready (rs := [7]) (by kernel_rfl) (by simp) (ReadyT.cons (o := _) rfl (fun K hK => ?_) ReadyT.nil)
        have NC := Lib.hid (show ∀ (j : Nat) u, ([.int .i64 p] : List Value)[j]? = some u → (y2.alloc (.cells #[.int .i64 p] itT)).cell? ((⟨y2.heap.size, 0, none⟩ : Addr).add j) = some u from fun j u hj => by
          rw [Go.WideShapes.add_plain, Nat.zero_add]
          exact (XW.out.cell j).trans (by simpa using hj))
        refine step_app rfl (.tmp 31) (.tmp 34) 26 rfl y.heap.size itT i0 _ 1 8 Tryd.underlying26 hi0 hz0 hz1 hz2 rfl (by decide) (.slice A6 (gl1.length) c6) (gl1.length) (gl1.flatMap itC) rfl O6.out ⟨y2.heap.size, 0, none⟩ 1 1 [.int .i64 p] rfl rfl NC.out (it_one p) (by have := R9.out.lg; have := R9.out.ok.len; unfold maxLen; omega) (by have := R9.out.lg; have := R9.out.ok.len; omega) BY.out.size ?_
        intro v8 w8 ho8 hg8 hat8
        have hform := row_form ho8
        obtain ⟨A9, c9, rfl⟩ := hform
        have BY := Lib.hid (show Below y.heap.size y w8 from BY.out.grown hg8 BY.out.size (fun b hb => (World.ownsRow.lt O6.out b hb).1))
        have O8 := Lib.hid ho8
        clear ho8 hg8 hat8 O6 XW NC
        refine hK.out _ _ ⟨(B9.out.below BY.out).x0.cell 0, (B9.out.below BY.out).x0.cell 1, (B9.out.below BY.out).x0.cell 2, (B9.out.below BY.out).x0.cell 3, (B9.out.below BY.out).x0.cell 4, (B9.out.below BY.out).x0.cell 5, (B9.out.below BY.out).x0.cell 6, (B9.out.below BY.out).x0.cell 7⟩ (fun hHeld => ?_)
        clear hK K
        try simp only [Act.put, List.setIfInBounds_toArray, List.set_cons_zero, List.set_cons_succ]
        refine anyT_take (i := 8) (oi := _) (v := .pointer (some ⟨w.heap.size, 1, none⟩)) rfl (by kernel_rfl) (by kernel_rfl) (by kernel_rfl) (by kernel_rfl) (fun _ _ _ h => h) (Or.inl ⟨by rfl, fun w hSw => by (try dsimp only at hSw); go_simp⟩) (by assumption) ?_
        try simp only [Act.put, List.setIfInBounds_toArray, List.set_cons_zero, List.set_cons_succ]
        refine anyT_ready (rs := [9]) (by kernel_rfl) (by simp) (ReadyT.last (o := _) rfl (fun K hK => ?_))
        have t0 : w8.cell? ⟨w.heap.size, 1, none⟩ = some (.slice AG1 gl1.length cG1) := (B9.out.below BY.out).x0.cell 1
        have tf : w8.frozen? ⟨w.heap.size, 1, none⟩ = false := (B9.out.below BY.out).x0.free 1
        go_simp
        clear t0 tf
        refine hK.out _ _ trivial (fun _ => ?_)
        clear hK K
        try simp only [Act.put, List.setIfInBounds_toArray, List.set_cons_zero, List.set_cons_succ]
        refine anyT_done (by kernel_rfl) ?_ _
        refine NoPanic.normal ?_
        have BE := Lib.hid (show Bx3 w (w8.setCell ⟨w.heap.size, 1, none⟩ (.slice A9 (gl1.length + 1) c9)) rfT rnT rfT #[.slice A8 (m1.L.length + 1) c8, .slice A9 (gl1.length + 1) c9, .slice AF1 m1.fx.length cF1, .slice AP1 pl1.length cP1, .slice AA1 al1.length cA1, .int .i64 m1.dep, .int .i64 m1.most, .int .i64 m1.err] _ _ from (B9.out.below BY.out).set0 1 (.slice A9 (gl1.length + 1) c9))
        have K9 : KeptS (fun b => b = w.heap.size) w8 (w8.setCell ⟨w.heap.size, 1, none⟩ (.slice A9 (gl1.length + 1) c9)) := KeptS.set rfl
        have hbx : w.heap.size < y.heap.size := B9.out.x0.lt
        have RE := Lib.hid (show RfR (w8.setCell ⟨w.heap.size, 1, none⟩ (.slice A9 (gl1.length + 1) c9)) (fun b => T b ∨ (w.heap.size ≤ b ∧ b < w.heap.size + 3)) N ⟨m1.L ++ [hltI], m1.fx, m1.dep, m1.most, m1.err⟩ A8 c8 A9 c9 AF1 cF1 AP1 cP1 AA1 cA1 (gl1 ++ [p]) pl1 al1 from by
          have h0 := (R9.out.below BY.out).later K9 (fun b hb => .inr (by rw [hb]; omega))
          refine ⟨h0.fL, ?_, h0.fF, h0.fP, h0.fA, by simp only [List.length_append, List.length_singleton]; have := HG.out; omega, h0.lp, h0.la, h0.lf, h0.ok, h0.nm⟩
          refine ⟨?_, fun b hb ht => ?_⟩
          · rw [List.length_append, List.flatMap_append, List.flatMap_singleton]
            exact row_more (K9.row O8.out (fun b hb e => by have := (row_block O8.out hb).1; omega)) (Nat.zero_le _)
          · have h1 := (row_block O8.out (own_len (n' := gl1.length + 1) hb)).1
            have h2 := hTy.out b ht
            omega)
        clear K9 hbx B9 R9 BY O8 hTy hHeld HRG HRL
        generalize (w8.setCell ⟨w.heap.size, 1, none⟩ (.slice A9 (gl1.length + 1) c9)) = y0 at *
        obtain ⟨z0, z1, z2, z3, z4, z5, z6, z7⟩ := cells8 BE.out.x0
        have H1 := Lib.hid (show (#[.slice A8 (m1.L.length + 1) c8, .slice A9 (gl1.length + 1) c9, .slice AF1 m1.fx.length cF1, .slice AP1 pl1.length cP1, .slice AA1 al1.length cA1, .int .i64 m1.dep, .int .i64 m1.most, .int .i64 m1.err] : Array Value).all (·.oneCell') = true from by simp [Value.oneCell'])
        repeat (first | (go_big_may; first | (refine wpList_store_row rfl rfT (.tmp 4) (.tmp 37) rfl (w.heap.size + 1 + 1) #[.slice A8 (m1.L.length + 1) c8, .slice A9 (gl1.length + 1) c9, .slice AF1 m1.fx.length cF1, .slice AP1 pl1.length cP1, .slice AA1 al1.length cA1, .int .i64 m1.dep, .int .i64 m1.most, .int .i64 m1.err] rfl rfl rfT #[.slice none 0 0, .slice none 0 0, .slice none 0 0, .slice none 0 0, .slice none 0 0, .int .i64 0, .int .i64 0, .int .i64 0] BE.out.x2 S8 rfl H1.out ?_; generalize hZZ : (y0).setRow (w.heap.size + 1 + 1) #[.slice A8 (m1.L.length + 1) c8, .slice A9 (gl1.length + 1) c9, .slice AF1 m1.fx.length cF1, .slice AP1 pl1.length cP1, .slice AA1 al1.length cA1, .int .i64 m1.dep, .int .i64 m1.most, .int .i64 m1.err] = ZZ; have HZZ := Lib.hid hZZ; clear hZZ)) | go_values | go_skip | go_guarded | go_step | go_upon)
        have RZ := Lib.hid (HZZ.out ▸ (RE.out.later (BE.out.kept2 #[.slice A8 (m1.L.length + 1) c8, .slice A9 (gl1.length + 1) c9, .slice AF1 m1.fx.length cF1, .slice AP1 pl1.length cP1, .slice AA1 al1.length cA1, .int .i64 m1.dep, .int .i64 m1.most, .int .i64 m1.err]) (fun b hb => .inr hb)))
        have BZ := Lib.hid (HZZ.out ▸ BE.out.row2 #[.slice A8 (m1.L.length + 1) c8, .slice A9 (gl1.length + 1) c9, .slice AF1 m1.fx.length cF1, .slice AP1 pl1.length cP1, .slice AA1 al1.length cA1, .int .i64 m1.dep, .int .i64 m1.most, .int .i64 m1.err])
        have RL := Lib.hid (show (putE m i).L.length = m1.L.length + 1 from by rw [PE.out]; simp only [List.length_append, List.length_singleton])
        clear z0 z1 z2 z3 z4 z5 z6 z7
        obtain ⟨z0, z1, z2, z3, z4, z5, z6, z7⟩ := cells8 BZ.out.x2
        refine bodyPost_ret (v := .agg #[.slice A8 (m1.L.length + 1) c8, .slice A9 (gl1.length + 1) c9, .slice AF1 m1.fx.length cF1, .slice AP1 pl1.length cP1, .slice AA1 al1.length cA1, .int .i64 m1.dep, .int .i64 m1.most, .int .i64 m1.err]) ?_ rfl ⟨A8, c8, A9, c9, AF1, cF1, AP1, cP1, AA1, cA1, gl1 ++ [p], pl1, al1, ?_, ?_, BZ.out.b⟩
        · simp [results, Tryd.results47, go_sem, z0, z1, z2, z3, z4, z5, z6, z7]
        · rw [PE.out]
          simp only [List.length_append, List.length_singleton]
        · rw [PE.out]
          exact RZ.out.less (fun b hb => .inl hb)
      · go_simp
        have BY := Lib.hid (show Below y.heap.size y ((y.alloc (.cells #[] rnT)).alloc (.cells #[.int .i64 1, .int .i64 0, .int .i64 0, .int .i64 0, .int .i64 0] rnT)) from BY.out.alloc BY.out.size (.cells #[.int .i64 1, .int .i64 0, .int .i64 0, .int .i64 0, .int .i64 0] rnT))
        have XW := Lib.hid (Whole.made (y.alloc (.cells #[] rnT)) rnT #[.int .i64 1, .int .i64 0, .int .i64 0, .int .i64 0, .int .i64 0] (y.heap.size + 1) (by simp))
        have OE := Lib.hid (World.ownsRow.alloc OE.out (.cells #[.int .i64 1, .int .i64 0, .int .i64 0, .int .i64 0, .int .i64 0] rnT))
        refine hK.out _ _ ⟨(BX.out.below BY.out).x0.cell 0, (BX.out.below BY.out).x1.cell 0, (BX.out.below BY.out).x1.cell 1, (BX.out.below BY.out).x1.cell 2, (BX.out.below BY.out).x1.cell 3, (BX.out.below BY.out).x1.cell 4⟩ (fun hHeld => ?_)
        clear hK K
        try simp only [Act.put, List.setIfInBounds_toArray, List.set_cons_zero, List.set_cons_succ]
        refine anyT_ready (rs := [3]) (by kernel_rfl) (by simp) (ReadyT.cons (o := _) rfl (fun K hK => ?_) ReadyT.nil)
        refine step_app_any rfl (.tmp 20) (.tmp 22) 25 rfl y.heap.size rnT i0 _ 5 40 Tryd.underlying25 hi0 hz0 hz1 hz2 rfl (by decide) (.slice (some ⟨y.heap.size, 0, none⟩) 0 0) 0 [] rfl OE.out (.slice AL1 m1.L.length cL1) (m1.L.length) (m1.L.flatMap inC) rfl (HRL.out.below BY.out).1 (one_flat in_one _) (by have := HR.out.ok.len; unfold maxLen; omega) (by have := HR.out.ok.len; omega) BY.out.size ?_
        intro v6 w6 ho6 hg6 hat6
        rw [Nat.zero_add, List.nil_append] at ho6
        have hform := row_form ho6
        obtain ⟨A6, c6, rfl⟩ := hform
        have XW := Lib.hid (show Whole w6 (y.heap.size + 1) rnT #[.int .i64 1, .int .i64 0, .int .i64 0, .int .i64 0, .int .i64 0] from (hg6.block (y.heap.size + 1) XW.out.lt (fun e => absurd (Option.some.inj e : y.heap.size + 1 = y.heap.size) (by omega))).trans XW.out)
        have BY := Lib.hid (show Below y.heap.size y w6 from BY.out.grown hg6 BY.out.size (fun b hb => (World.ownsRow.lt OE.out b hb).1))
        have O6 := Lib.hid ho6
        clear ho6 hg6 hat6 OE
        refine hK.out _ _ ⟨(BX.out.below BY.out).x0.cell 0, (BX.out.below BY.out).x1.cell 0, (BX.out.below BY.out).x1.cell 1, (BX.out.below BY.out).x1.cell 2, (BX.out.below BY.out).x1.cell 3, (BX.out.below BY.out).x1.cell 4⟩ (fun hHeld => ?_)
        clear hK K
        try simp only [Act.put, List.setIfInBounds_toArray, List.set_cons_zero, List.set_cons_succ]
        refine anyT_ready (rs := [6]) (by kernel_rfl) (by simp) (ReadyT.cons (o := _) rfl (fun K hK => ?_) ReadyT.nil)
        have NC := Lib.hid (show ∀ (j : Nat) u, ([.int .i64 1, .int .i64 0, .int .i64 0, .int .i64 0, .int .i64 0] : List Value)[j]? = some u → w6.cell? ((⟨y.heap.size + 1, 0, none⟩ : Addr).add j) = some u from fun j u hj => by
          rw [Go.WideShapes.add_plain, Nat.zero_add]
          exact (XW.out.cell j).trans (by simpa using hj))
        refine step_app rfl (.tmp 23) (.tmp 25) 25 rfl y.heap.size rnT i0 _ 5 40 Tryd.underlying25 hi0 hz0 hz1 hz2 rfl (by decide) (.slice A6 (m1.L.length) c6) (m1.L.length) (m1.L.flatMap inC) rfl O6.out ⟨y.heap.size + 1, 0, none⟩ 1 1 [.int .i64 1, .int .i64 0, .int .i64 0, .int .i64 0, .int .i64 0] rfl rfl NC.out (in_one hltI) (by have := HR.out.ok.len; unfold maxLen; omega) (by have := HR.out.ok.len; omega) BY.out.size ?_
        intro v8 w8 ho8 hg8 hat8
        have hform := row_form ho8
        obtain ⟨A8, c8, rfl⟩ := hform
        have BY := Lib.hid (show Below y.heap.size y w8 from BY.out.grown hg8 BY.out.size (fun b hb => (World.ownsRow.lt O6.out b hb).1))
        have O8 := Lib.hid ho8
        clear ho8 hg8 hat8 O6 XW NC
        refine hK.out _ _ ⟨(BX.out.below BY.out).x0.cell 0, (BX.out.below BY.out).x1.cell 0, (BX.out.below BY.out).x1.cell 1, (BX.out.below BY.out).x1.cell 2, (BX.out.below BY.out).x1.cell 3, (BX.out.below BY.out).x1.cell 4⟩ (fun hHeld => ?_)
        clear hK K
        try simp only [Act.put, List.setIfInBounds_toArray, List.set_cons_zero, List.set_cons_succ]
        refine anyT_take (i := 7) (oi := _) (v := .pointer (some ⟨w.heap.size, 0, none⟩)) rfl (by kernel_rfl) (by kernel_rfl) (by kernel_rfl) (by kernel_rfl) (fun _ _ _ h => h) (Or.inl ⟨by rfl, fun w hSw => by (try dsimp only at hSw); go_simp⟩) (by assumption) ?_
        try simp only [Act.put, List.setIfInBounds_toArray, List.set_cons_zero, List.set_cons_succ]
        refine anyT_ready (rs := [8]) (by kernel_rfl) (by simp) (ReadyT.last (o := _) rfl (fun K hK => ?_))
        have t0 : w8.cell? ⟨w.heap.size, 0, none⟩ = some (.slice AL1 m1.L.length cL1) := (BX.out.below BY.out).x0.cell 0
        have tf : w8.frozen? ⟨w.heap.size, 0, none⟩ = false := (BX.out.below BY.out).x0.free 0
        go_simp
        clear t0 tf
        refine hK.out _ _ trivial (fun _ => ?_)
        clear hK K
        try simp only [Act.put, List.setIfInBounds_toArray, List.set_cons_zero, List.set_cons_succ]
        refine anyT_done (by kernel_rfl) ?_ _
        refine NoPanic.normal ?_
        have B9 := Lib.hid (show Bx3 w (w8.setCell ⟨w.heap.size, 0, none⟩ (.slice A8 (m1.L.length + 1) c8)) rfT rnT rfT #[.slice A8 (m1.L.length + 1) c8, .slice AG1 gl1.length cG1, .slice AF1 m1.fx.length cF1, .slice AP1 pl1.length cP1, .slice AA1 al1.length cA1, .int .i64 m1.dep, .int .i64 m1.most, .int .i64 m1.err] _ _ from (BX.out.below BY.out).set0 0 (.slice A8 (m1.L.length + 1) c8))
        have K9 : KeptS (fun b => b = w.heap.size) w8 (w8.setCell ⟨w.heap.size, 0, none⟩ (.slice A8 (m1.L.length + 1) c8)) := KeptS.set rfl
        have hbx : w.heap.size < y.heap.size := BX.out.x0.lt
        have R9 := Lib.hid (show RfR (w8.setCell ⟨w.heap.size, 0, none⟩ (.slice A8 (m1.L.length + 1) c8)) (fun b => T b ∨ (w.heap.size ≤ b ∧ b < w.heap.size + 3)) N ⟨m1.L ++ [hltI], m1.fx, m1.dep, m1.most, m1.err⟩ A8 c8 AG1 cG1 AF1 cF1 AP1 cP1 AA1 cA1 gl1 pl1 al1 from by
          have h0 := (HR.out.below BY.out).later K9 (fun b hb => .inr (by rw [hb]; omega))
          refine ⟨?_, h0.fG, h0.fF, h0.fP, h0.fA, by simp only [List.length_append, List.length_singleton]; have := h0.lg; omega, h0.lp, h0.la, h0.lf, ⟨?_, ?_, h0.ok.d0, h0.ok.dm⟩, h0.nm⟩
          · refine ⟨?_, fun b hb ht => ?_⟩
            · rw [List.length_append, List.flatMap_append, List.flatMap_singleton]
              exact row_more (K9.row O8.out (fun b hb e => by have := (row_block O8.out hb).1; omega)) (Nat.zero_le _)
            · have h1 := (row_block O8.out (own_len (n' := m1.L.length + 1) hb)).1
              have h2 := hTy.out b ht
              omega
          · intro j hj
            rcases List.mem_append.1 hj with hj | hj
            · exact h0.ok.good j hj
            · rw [List.mem_singleton.1 hj]; exact CJ.out
          · simp only [List.length_append, List.length_singleton]
            have := HL.out
            omega)
        have HT := Lib.hid (show ∀ b, (fun b => T b ∨ (w.heap.size ≤ b ∧ b < w.heap.size + 3)) b → b < (w8.setCell ⟨w.heap.size, 0, none⟩ (.slice A8 (m1.L.length + 1) c8)).heap.size from fun b hb => Nat.lt_of_lt_of_le (hTy.out b hb) (Nat.le_trans BY.out.size K9.size))
        clear K9 hbx BX HR BY O8 hTy hHeld
        generalize (w8.setCell ⟨w.heap.size, 0, none⟩ (.slice A8 (m1.L.length + 1) c8)) = y0 at *
        have B9 := Lib.hid (B9.out.below (Below.refl _ _).drew)
        have R9 := Lib.hid (R9.out.below (Below.refl _ _).drew)
        have hTy := Lib.hid (show ∀ b, (fun b => T b ∨ (w.heap.size ≤ b ∧ b < w.heap.size + 3)) b → b < y0.drew.heap.size from HT.out)
        obtain ⟨y, hy⟩ : ∃ y, y = y0.drew := ⟨_, rfl⟩
        rw [← hy] at B9 R9 hTy
        have BY := Lib.hid (Below.refl y.heap.size y)
        have L0 : y0.drew.cell? ⟨w.heap.size, 0, none⟩ = some (.slice A8 (m1.L.length + 1) c8) ∧ y0.drew.cell? ⟨w.heap.size, 1, none⟩ = some (.slice AG1 gl1.length cG1) ∧ y0.drew.cell? ⟨w.heap.size, 2, none⟩ = some (.slice AF1 m1.fx.length cF1) ∧ y0.drew.cell? ⟨w.heap.size, 3, none⟩ = some (.slice AP1 pl1.length cP1) ∧ y0.drew.cell? ⟨w.heap.size, 4, none⟩ = some (.slice AA1 al1.length cA1) ∧ y0.drew.cell? ⟨w.heap.size, 5, none⟩ = some (.int .i64 m1.dep) ∧ y0.drew.cell? ⟨w.heap.size, 6, none⟩ = some (.int .i64 m1.most) ∧ y0.drew.cell? ⟨w.heap.size, 7, none⟩ = some (.int .i64 m1.err) := by rw [← hy]; exact ⟨(B9.out.below BY.out).x0.cell 0, (B9.out.below BY.out).x0.cell 1, (B9.out.below BY.out).x0.cell 2, (B9.out.below BY.out).x0.cell 3, (B9.out.below BY.out).x0.cell 4, (B9.out.below BY.out).x0.cell 5, (B9.out.below BY.out).x0.cell 6, (B9.out.below BY.out).x0.cell 7⟩
        clear HT
        obtain ⟨i0, hi0, hz0, hz1, hz2⟩ := info_parts itInfo
        have HRG := Lib.hid R9.out.fG
        have NW := Lib.hid (show ∀ W, Below y.heap.size y W → Calls Tryd.prog 64 #[.agg #[.slice A8 (m1.L.length + 1) c8, .slice AG1 gl1.length cG1, .slice AF1 m1.fx.length cF1, .slice AP1 pl1.length cP1, .slice AA1 al1.length cA1, .int .i64 m1.dep, .int .i64 m1.most, .int .i64 m1.err]] W (fun e w' => (∃ p : Int, e = .returned (.int .i64 p)) ∧ Below W.heap.size W w') from fun W hb => by
          have h1 := now_any (fun b => T b ∨ (w.heap.size ≤ b ∧ b < w.heap.size + 3)) N ⟨m1.L ++ [hltI], m1.fx, m1.dep, m1.most, m1.err⟩ A8 c8 AG1 cG1 AF1 cF1 AP1 cP1 AA1 cA1 gl1 pl1 al1 W (R9.out.below hb) (fun b hb2 => Nat.lt_of_lt_of_le (hTy.out b hb2) hb.size) HN.out
          simp only [List.length_append, List.length_singleton] at h1
          exact h1)
        go_wp2_with fail
        refine wp_region_noPanic ?_
        refine region_T (S := fun y => y.cell? ⟨w.heap.size, 0, none⟩ = some (.slice A8 (m1.L.length + 1) c8) ∧ y.cell? ⟨w.heap.size, 1, none⟩ = some (.slice AG1 gl1.length cG1) ∧ y.cell? ⟨w.heap.size, 2, none⟩ = some (.slice AF1 m1.fx.length cF1) ∧ y.cell? ⟨w.heap.size, 3, none⟩ = some (.slice AP1 pl1.length cP1) ∧ y.cell? ⟨w.heap.size, 4, none⟩ = some (.slice AA1 al1.length cA1) ∧ y.cell? ⟨w.heap.size, 5, none⟩ = some (.int .i64 m1.dep) ∧ y.cell? ⟨w.heap.size, 6, none⟩ = some (.int .i64 m1.most) ∧ y.cell? ⟨w.heap.size, 7, none⟩ = some (.int .i64 m1.err)) 9 (by kernel_rfl) L0 (fun hHeld => ?_)
        rw [← hy] at hHeld ⊢
        clear L0 hy
        refine anyT_take (i := 1) (oi := _) (v := .pointer (some ⟨w.heap.size, 1, none⟩)) rfl (by kernel_rfl) (by kernel_rfl) (by kernel_rfl) (by kernel_rfl) (fun _ _ _ h => h) (Or.inl ⟨by rfl, fun w hSw => by (try dsimp only at hSw); go_simp⟩) (by assumption) ?_
        try simp only [Act.put, List.setIfInBounds_toArray, List.set_cons_zero, List.set_cons_succ]
        refine anyT_take (i := 2) (oi := _) (v := .slice AG1 gl1.length cG1) rfl (by kernel_rfl) (by kernel_rfl) (by kernel_rfl) (by kernel_rfl) (fun _ _ _ h => h) (Or.inl ⟨by rfl, fun w hSw => by (try dsimp only at hSw); go_simp⟩) (by assumption) ?_
        try simp only [Act.put, List.setIfInBounds_toArray, List.set_cons_zero, List.set_cons_succ]
        refine anyT_take (i := 4) (oi := _) (v := .agg #[.slice A8 (m1.L.length + 1) c8, .slice AG1 gl1.length cG1, .slice AF1 m1.fx.length cF1, .slice AP1 pl1.length cP1, .slice AA1 al1.length cA1, .int .i64 m1.dep, .int .i64 m1.most, .int .i64 m1.err]) rfl (by kernel_rfl) (by kernel_rfl) (by kernel_rfl) (by kernel_rfl) (fun _ _ _ h => h) (Or.inl ⟨by rfl, fun w hSw => by (try dsimp only at hSw); go_simp⟩) (by assumption) ?_
        try simp only [Act.put, List.setIfInBounds_toArray, List.set_cons_zero, List.set_cons_succ]
        refine anyT_ready (rs := [0]) (by kernel_rfl) (by simp) (ReadyT.cons (o := _) rfl (fun K hK => ?_) ReadyT.nil)
        go_simp
        have SE := Lib.hid (show y.heap.size = y.heap.size from rfl)
        have BY := Lib.hid (show Below y.heap.size y (y.alloc (.cells #[] itT)) from BY.out.alloc BY.out.size (.cells #[] itT))
        have OE := Lib.hid (show (y.alloc (.cells #[] itT)).ownsRow y.heap.size itT 1 (.slice (some ⟨y.heap.size, 0, none⟩) 0 0) 0 [] from row_built (e := itT) (sz := 1) y #[] 0 0 rfl (Nat.le_refl _) (Nat.zero_le _) y.heap.size (by rw [SE.out]; omega) _ (by rw [SE.out]) [] rfl)
        refine hK.out _ _ ⟨(B9.out.below BY.out).x0.cell 0, (B9.out.below BY.out).x0.cell 1, (B9.out.below BY.out).x0.cell 2, (B9.out.below BY.out).x0.cell 3, (B9.out.below BY.out).x0.cell 4, (B9.out.below BY.out).x0.cell 5, (B9.out.below BY.out).x0.cell 6, (B9.out.below BY.out).x0.cell 7⟩ (fun hHeld => ?_)
        clear hK K
        try simp only [Act.put, List.setIfInBounds_toArray, List.set_cons_zero, List.set_cons_succ]
        refine anyT_ready (rs := [3]) (by kernel_rfl) (by simp) (ReadyT.cons (o := _) rfl (fun K hK => ?_) ReadyT.nil)
        refine step_app_any rfl (.tmp 28) (.tmp 30) 26 rfl y.heap.size itT i0 _ 1 8 Tryd.underlying26 hi0 hz0 hz1 hz2 rfl (by decide) (.slice (some ⟨y.heap.size, 0, none⟩) 0 0) 0 [] rfl OE.out (.slice AG1 gl1.length cG1) (gl1.length) (gl1.flatMap itC) rfl (HRG.out.below BY.out).1 (one_flat it_one _) (by have := R9.out.lg; have := R9.out.ok.len; unfold maxLen; omega) (by have := R9.out.lg; have := R9.out.ok.len; omega) BY.out.size ?_
        intro v6 w6 ho6 hg6 hat6
        rw [Nat.zero_add, List.nil_append] at ho6
        have hform := row_form ho6
        obtain ⟨A6, c6, rfl⟩ := hform
        have BY := Lib.hid (show Below y.heap.size y w6 from BY.out.grown hg6 BY.out.size (fun b hb => (World.ownsRow.lt OE.out b hb).1))
        have O6 := Lib.hid ho6
        clear ho6 hg6 hat6 OE
        refine hK.out _ _ ⟨(B9.out.below BY.out).x0.cell 0, (B9.out.below BY.out).x0.cell 1, (B9.out.below BY.out).x0.cell 2, (B9.out.below BY.out).x0.cell 3, (B9.out.below BY.out).x0.cell 4, (B9.out.below BY.out).x0.cell 5, (B9.out.below BY.out).x0.cell 6, (B9.out.below BY.out).x0.cell 7⟩ (fun hHeld => ?_)
        clear hK K
        try simp only [Act.put, List.setIfInBounds_toArray, List.set_cons_zero, List.set_cons_succ]
        refine anyT_ready (rs := [5]) (by kernel_rfl) (by simp) (ReadyT.cons (o := _) rfl (fun K hK => ?_) ReadyT.nil)
        go_simp
        go_at_call 64
        refine (NW.out w6 BY.out).mono ?_
        rintro e y2 ⟨⟨p, rfl⟩, hb2⟩
        have O6 := Lib.hid (row_below O6.out hb2)
        have BY := Lib.hid (show Below y.heap.size y y2 from BY.out.trans (hb2.mono BY.out.size))
        clear hb2
        refine hK.out _ _ ⟨(B9.out.below BY.out).x0.cell 0, (B9.out.below BY.out).x0.cell 1, (B9.out.below BY.out).x0.cell 2, (B9.out.below BY.out).x0.cell 3, (B9.out.below BY.out).x0.cell 4, (B9.out.below BY.out).x0.cell 5, (B9.out.below BY.out).x0.cell 6, (B9.out.below BY.out).x0.cell 7⟩ (fun hHeld => ?_)
        clear hK K
        try simp only [Act.put, List.setIfInBounds_toArray, List.set_cons_zero, List.set_cons_succ]
        refine anyT_ready (rs := [6]) (by kernel_rfl) (by simp) (ReadyT.cons (o := _) rfl (fun K hK => ?_) ReadyT.nil)
        go_simp
        have BY := Lib.hid (show Below y.heap.size y (y2.alloc (.cells #[.int .i64 p] itT)) from BY.out.alloc BY.out.size (.cells #[.int .i64 p] itT))
        have XW := Lib.hid (Whole.made y2 itT #[.int .i64 p] (y2.heap.size) rfl)
        have O6 := Lib.hid (World.ownsRow.alloc O6.out (.cells #[.int .i64 p] itT))
        refine hK.out _ _ ⟨(B9.out.below BY.out).x0.cell 0, (B9.out.below BY.out).x0.cell 1, (B9.out.below BY.out).x0.cell 2, (B9.out.below BY.out).x0.cell 3, (B9.out.below BY.out).x0.cell 4, (B9.out.below BY.out).x0.cell 5, (B9.out.below BY.out).x0.cell 6, (B9.out.below BY.out).x0.cell 7⟩ (fun hHeld => ?_)
        clear hK K
        try simp only [Act.put, List.setIfInBounds_toArray, List.set_cons_zero, List.set_cons_succ]
        refine anyT_ready (rs := [7]) (by kernel_rfl) (by simp) (ReadyT.cons (o := _) rfl (fun K hK => ?_) ReadyT.nil)
        have NC := Lib.hid (show ∀ (j : Nat) u, ([.int .i64 p] : List Value)[j]? = some u → (y2.alloc (.cells #[.int .i64 p] itT)).cell? ((⟨y2.heap.size, 0, none⟩ : Addr).add j) = some u from fun j u hj => by
          rw [Go.WideShapes.add_plain, Nat.zero_add]
          exact (XW.out.cell j).trans (by simpa using hj))
        refine step_app rfl (.tmp 31) (.tmp 34) 26 rfl y.heap.size itT i0 _ 1 8 Tryd.underlying26 hi0 hz0 hz1 hz2 rfl (by decide) (.slice A6 (gl1.length) c6) (gl1.length) (gl1.flatMap itC) rfl O6.out ⟨y2.heap.size, 0, none⟩ 1 1 [.int .i64 p] rfl rfl NC.out (it_one p) (by have := R9.out.lg; have := R9.out.ok.len; unfold maxLen; omega) (by have := R9.out.lg; have := R9.out.ok.len; omega) BY.out.size ?_
        intro v8 w8 ho8 hg8 hat8
        have hform := row_form ho8
        obtain ⟨A9, c9, rfl⟩ := hform
        have BY := Lib.hid (show Below y.heap.size y w8 from BY.out.grown hg8 BY.out.size (fun b hb => (World.ownsRow.lt O6.out b hb).1))
        have O8 := Lib.hid ho8
        clear ho8 hg8 hat8 O6 XW NC
        refine hK.out _ _ ⟨(B9.out.below BY.out).x0.cell 0, (B9.out.below BY.out).x0.cell 1, (B9.out.below BY.out).x0.cell 2, (B9.out.below BY.out).x0.cell 3, (B9.out.below BY.out).x0.cell 4, (B9.out.below BY.out).x0.cell 5, (B9.out.below BY.out).x0.cell 6, (B9.out.below BY.out).x0.cell 7⟩ (fun hHeld => ?_)
        clear hK K
        try simp only [Act.put, List.setIfInBounds_toArray, List.set_cons_zero, List.set_cons_succ]
        refine anyT_take (i := 8) (oi := _) (v := .pointer (some ⟨w.heap.size, 1, none⟩)) rfl (by kernel_rfl) (by kernel_rfl) (by kernel_rfl) (by kernel_rfl) (fun _ _ _ h => h) (Or.inl ⟨by rfl, fun w hSw => by (try dsimp only at hSw); go_simp⟩) (by assumption) ?_
        try simp only [Act.put, List.setIfInBounds_toArray, List.set_cons_zero, List.set_cons_succ]
        refine anyT_ready (rs := [9]) (by kernel_rfl) (by simp) (ReadyT.last (o := _) rfl (fun K hK => ?_))
        have t0 : w8.cell? ⟨w.heap.size, 1, none⟩ = some (.slice AG1 gl1.length cG1) := (B9.out.below BY.out).x0.cell 1
        have tf : w8.frozen? ⟨w.heap.size, 1, none⟩ = false := (B9.out.below BY.out).x0.free 1
        go_simp
        clear t0 tf
        refine hK.out _ _ trivial (fun _ => ?_)
        clear hK K
        try simp only [Act.put, List.setIfInBounds_toArray, List.set_cons_zero, List.set_cons_succ]
        refine anyT_done (by kernel_rfl) ?_ _
        refine NoPanic.normal ?_
        have BE := Lib.hid (show Bx3 w (w8.setCell ⟨w.heap.size, 1, none⟩ (.slice A9 (gl1.length + 1) c9)) rfT rnT rfT #[.slice A8 (m1.L.length + 1) c8, .slice A9 (gl1.length + 1) c9, .slice AF1 m1.fx.length cF1, .slice AP1 pl1.length cP1, .slice AA1 al1.length cA1, .int .i64 m1.dep, .int .i64 m1.most, .int .i64 m1.err] _ _ from (B9.out.below BY.out).set0 1 (.slice A9 (gl1.length + 1) c9))
        have K9 : KeptS (fun b => b = w.heap.size) w8 (w8.setCell ⟨w.heap.size, 1, none⟩ (.slice A9 (gl1.length + 1) c9)) := KeptS.set rfl
        have hbx : w.heap.size < y.heap.size := B9.out.x0.lt
        have RE := Lib.hid (show RfR (w8.setCell ⟨w.heap.size, 1, none⟩ (.slice A9 (gl1.length + 1) c9)) (fun b => T b ∨ (w.heap.size ≤ b ∧ b < w.heap.size + 3)) N ⟨m1.L ++ [hltI], m1.fx, m1.dep, m1.most, m1.err⟩ A8 c8 A9 c9 AF1 cF1 AP1 cP1 AA1 cA1 (gl1 ++ [p]) pl1 al1 from by
          have h0 := (R9.out.below BY.out).later K9 (fun b hb => .inr (by rw [hb]; omega))
          refine ⟨h0.fL, ?_, h0.fF, h0.fP, h0.fA, by simp only [List.length_append, List.length_singleton]; have := HG.out; omega, h0.lp, h0.la, h0.lf, h0.ok, h0.nm⟩
          refine ⟨?_, fun b hb ht => ?_⟩
          · rw [List.length_append, List.flatMap_append, List.flatMap_singleton]
            exact row_more (K9.row O8.out (fun b hb e => by have := (row_block O8.out hb).1; omega)) (Nat.zero_le _)
          · have h1 := (row_block O8.out (own_len (n' := gl1.length + 1) hb)).1
            have h2 := hTy.out b ht
            omega)
        clear K9 hbx B9 R9 BY O8 hTy hHeld HRG HRL
        generalize (w8.setCell ⟨w.heap.size, 1, none⟩ (.slice A9 (gl1.length + 1) c9)) = y0 at *
        obtain ⟨z0, z1, z2, z3, z4, z5, z6, z7⟩ := cells8 BE.out.x0
        have H1 := Lib.hid (show (#[.slice A8 (m1.L.length + 1) c8, .slice A9 (gl1.length + 1) c9, .slice AF1 m1.fx.length cF1, .slice AP1 pl1.length cP1, .slice AA1 al1.length cA1, .int .i64 m1.dep, .int .i64 m1.most, .int .i64 m1.err] : Array Value).all (·.oneCell') = true from by simp [Value.oneCell'])
        repeat (first | (go_big_may; first | (refine wpList_store_row rfl rfT (.tmp 4) (.tmp 37) rfl (w.heap.size + 1 + 1) #[.slice A8 (m1.L.length + 1) c8, .slice A9 (gl1.length + 1) c9, .slice AF1 m1.fx.length cF1, .slice AP1 pl1.length cP1, .slice AA1 al1.length cA1, .int .i64 m1.dep, .int .i64 m1.most, .int .i64 m1.err] rfl rfl rfT #[.slice none 0 0, .slice none 0 0, .slice none 0 0, .slice none 0 0, .slice none 0 0, .int .i64 0, .int .i64 0, .int .i64 0] BE.out.x2 S8 rfl H1.out ?_; generalize hZZ : (y0).setRow (w.heap.size + 1 + 1) #[.slice A8 (m1.L.length + 1) c8, .slice A9 (gl1.length + 1) c9, .slice AF1 m1.fx.length cF1, .slice AP1 pl1.length cP1, .slice AA1 al1.length cA1, .int .i64 m1.dep, .int .i64 m1.most, .int .i64 m1.err] = ZZ; have HZZ := Lib.hid hZZ; clear hZZ)) | go_values | go_skip | go_guarded | go_step | go_upon)
        have RZ := Lib.hid (HZZ.out ▸ (RE.out.later (BE.out.kept2 #[.slice A8 (m1.L.length + 1) c8, .slice A9 (gl1.length + 1) c9, .slice AF1 m1.fx.length cF1, .slice AP1 pl1.length cP1, .slice AA1 al1.length cA1, .int .i64 m1.dep, .int .i64 m1.most, .int .i64 m1.err]) (fun b hb => .inr hb)))
        have BZ := Lib.hid (HZZ.out ▸ BE.out.row2 #[.slice A8 (m1.L.length + 1) c8, .slice A9 (gl1.length + 1) c9, .slice AF1 m1.fx.length cF1, .slice AP1 pl1.length cP1, .slice AA1 al1.length cA1, .int .i64 m1.dep, .int .i64 m1.most, .int .i64 m1.err])
        have RL := Lib.hid (show (putE m i).L.length = m1.L.length + 1 from by rw [PE.out]; simp only [List.length_append, List.length_singleton])
        clear z0 z1 z2 z3 z4 z5 z6 z7
        obtain ⟨z0, z1, z2, z3, z4, z5, z6, z7⟩ := cells8 BZ.out.x2
        refine bodyPost_ret (v := .agg #[.slice A8 (m1.L.length + 1) c8, .slice A9 (gl1.length + 1) c9, .slice AF1 m1.fx.length cF1, .slice AP1 pl1.length cP1, .slice AA1 al1.length cA1, .int .i64 m1.dep, .int .i64 m1.most, .int .i64 m1.err]) ?_ rfl ⟨A8, c8, A9, c9, AF1, cF1, AP1, cP1, AA1, cA1, gl1 ++ [p], pl1, al1, ?_, ?_, BZ.out.b⟩
        · simp [results, Tryd.results47, go_sem, z0, z1, z2, z3, z4, z5, z6, z7]
        · rw [PE.out]
          simp only [List.length_append, List.length_singleton]
        · rw [PE.out]
          exact RZ.out.less (fun b hb => .inl hb)
    · go_simp
      have BY := Lib.hid (show Below y.heap.size y (y.alloc (.cells #[.int .i64 1, .int .i64 0, .int .i64 0, .int .i64 0, .int .i64 0] rnT)) from BY.out.alloc BY.out.size (.cells #[.int .i64 1, .int .i64 0, .int .i64 0, .int .i64 0, .int .i64 0] rnT))
      have XW := Lib.hid (Whole.made y rnT #[.int .i64 1, .int .i64 0, .int .i64 0, .int .i64 0, .int .i64 0] (y.heap.size) (rfl))
      refine hK.out _ _ ⟨(BX.out.below BY.out).x0.cell 0, (BX.out.below BY.out).x1.cell 0, (BX.out.below BY.out).x1.cell 1, (BX.out.below BY.out).x1.cell 2, (BX.out.below BY.out).x1.cell 3, (BX.out.below BY.out).x1.cell 4⟩ (fun hHeld => ?_)
      clear hK K
      try simp only [Act.put, List.setIfInBounds_toArray, List.set_cons_zero, List.set_cons_succ]
      refine anyT_ready (rs := [0]) (by kernel_rfl) (by simp) (ReadyT.cons (o := _) rfl (fun K hK => ?_) ReadyT.nil)
      go_simp
      have SE := Lib.hid (show (y.alloc (.cells #[.int .i64 1, .int .i64 0, .int .i64 0, .int .i64 0, .int .i64 0] rnT)).heap.size = y.heap.size + 1 from by simp)
      have BY := Lib.hid (show Below y.heap.size y ((y.alloc (.cells #[.int .i64 1, .int .i64 0, .int .i64 0, .int .i64 0, .int .i64 0] rnT)).alloc (.cells #[] rnT)) from BY.out.alloc BY.out.size (.cells #[] rnT))
      have OE := Lib.hid (show ((y.alloc (.cells #[.int .i64 1, .int .i64 0, .int .i64 0, .int .i64 0, .int .i64 0] rnT)).alloc (.cells #[] rnT)).ownsRow y.heap.size rnT 5 (.slice (some ⟨y.heap.size + 1, 0, none⟩) 0 0) 0 [] from row_built (e := rnT) (sz := 5) (y.alloc (.cells #[.int .i64 1, .int .i64 0, .int .i64 0, .int .i64 0, .int .i64 0] rnT)) #[] 0 0 rfl (Nat.le_refl _) (Nat.zero_le _) y.heap.size (by rw [SE.out]; omega) _ (by rw [SE.out]) [] rfl)
      have XW := Lib.hid (show Whole ((y.alloc (.cells #[.int .i64 1, .int .i64 0, .int .i64 0, .int .i64 0, .int .i64 0] rnT)).alloc (.cells #[] rnT)) (y.heap.size) rnT #[.int .i64 1, .int .i64 0, .int .i64 0, .int .i64 0, .int .i64 0] from XW.out.alloc _)
      refine hK.out _ _ ⟨(BX.out.below BY.out).x0.cell 0, (BX.out.below BY.out).x1.cell 0, (BX.out.below BY.out).x1.cell 1, (BX.out.below BY.out).x1.cell 2, (BX.out.below BY.out).x1.cell 3, (BX.out.below BY.out).x1.cell 4⟩ (fun hHeld => ?_)
      clear hK K
      try simp only [Act.put, List.setIfInBounds_toArray, List.set_cons_zero, List.set_cons_succ]
      refine anyT_ready (rs := [3]) (by kernel_rfl) (by simp) (ReadyT.cons (o := _) rfl (fun K hK => ?_) ReadyT.nil)
      refine step_app_any rfl (.tmp 20) (.tmp 22) 25 rfl y.heap.size rnT i0 _ 5 40 Tryd.underlying25 hi0 hz0 hz1 hz2 rfl (by decide) (.slice (some ⟨y.heap.size + 1, 0, none⟩) 0 0) 0 [] rfl OE.out (.slice AL1 m1.L.length cL1) (m1.L.length) (m1.L.flatMap inC) rfl (HRL.out.below BY.out).1 (one_flat in_one _) (by have := HR.out.ok.len; unfold maxLen; omega) (by have := HR.out.ok.len; omega) BY.out.size ?_
      intro v6 w6 ho6 hg6 hat6
      rw [Nat.zero_add, List.nil_append] at ho6
      have hform := row_form ho6
      obtain ⟨A6, c6, rfl⟩ := hform
      have XW := Lib.hid (show Whole w6 (y.heap.size) rnT #[.int .i64 1, .int .i64 0, .int .i64 0, .int .i64 0, .int .i64 0] from (hg6.block (y.heap.size) XW.out.lt (fun e => absurd (Option.some.inj e : y.heap.size = y.heap.size + 1) (by omega))).trans XW.out)
      have BY := Lib.hid (show Below y.heap.size y w6 from BY.out.grown hg6 BY.out.size (fun b hb => (World.ownsRow.lt OE.out b hb).1))
      have O6 := Lib.hid ho6
      clear ho6 hg6 hat6 OE
      refine hK.out _ _ ⟨(BX.out.below BY.out).x0.cell 0, (BX.out.below BY.out).x1.cell 0, (BX.out.below BY.out).x1.cell 1, (BX.out.below BY.out).x1.cell 2, (BX.out.below BY.out).x1.cell 3, (BX.out.below BY.out).x1.cell 4⟩ (fun hHeld => ?_)
      clear hK K
      try simp only [Act.put, List.setIfInBounds_toArray, List.set_cons_zero, List.set_cons_succ]
      refine anyT_ready (rs := [6]) (by kernel_rfl) (by simp) (ReadyT.cons (o := _) rfl (fun K hK => ?_) ReadyT.nil)
      have NC := Lib.hid (show ∀ (j : Nat) u, ([.int .i64 1, .int .i64 0, .int .i64 0, .int .i64 0, .int .i64 0] : List Value)[j]? = some u → w6.cell? ((⟨y.heap.size, 0, none⟩ : Addr).add j) = some u from fun j u hj => by
        rw [Go.WideShapes.add_plain, Nat.zero_add]
        exact (XW.out.cell j).trans (by simpa using hj))
      refine step_app rfl (.tmp 23) (.tmp 25) 25 rfl y.heap.size rnT i0 _ 5 40 Tryd.underlying25 hi0 hz0 hz1 hz2 rfl (by decide) (.slice A6 (m1.L.length) c6) (m1.L.length) (m1.L.flatMap inC) rfl O6.out ⟨y.heap.size, 0, none⟩ 1 1 [.int .i64 1, .int .i64 0, .int .i64 0, .int .i64 0, .int .i64 0] rfl rfl NC.out (in_one hltI) (by have := HR.out.ok.len; unfold maxLen; omega) (by have := HR.out.ok.len; omega) BY.out.size ?_
      intro v8 w8 ho8 hg8 hat8
      have hform := row_form ho8
      obtain ⟨A8, c8, rfl⟩ := hform
      have BY := Lib.hid (show Below y.heap.size y w8 from BY.out.grown hg8 BY.out.size (fun b hb => (World.ownsRow.lt O6.out b hb).1))
      have O8 := Lib.hid ho8
      clear ho8 hg8 hat8 O6 XW NC
      refine hK.out _ _ ⟨(BX.out.below BY.out).x0.cell 0, (BX.out.below BY.out).x1.cell 0, (BX.out.below BY.out).x1.cell 1, (BX.out.below BY.out).x1.cell 2, (BX.out.below BY.out).x1.cell 3, (BX.out.below BY.out).x1.cell 4⟩ (fun hHeld => ?_)
      clear hK K
      try simp only [Act.put, List.setIfInBounds_toArray, List.set_cons_zero, List.set_cons_succ]
      refine anyT_take (i := 7) (oi := _) (v := .pointer (some ⟨w.heap.size, 0, none⟩)) rfl (by kernel_rfl) (by kernel_rfl) (by kernel_rfl) (by kernel_rfl) (fun _ _ _ h => h) (Or.inl ⟨by rfl, fun w hSw => by (try dsimp only at hSw); go_simp⟩) (by assumption) ?_
      try simp only [Act.put, List.setIfInBounds_toArray, List.set_cons_zero, List.set_cons_succ]
      refine anyT_ready (rs := [8]) (by kernel_rfl) (by simp) (ReadyT.last (o := _) rfl (fun K hK => ?_))
      have t0 : w8.cell? ⟨w.heap.size, 0, none⟩ = some (.slice AL1 m1.L.length cL1) := (BX.out.below BY.out).x0.cell 0
      have tf : w8.frozen? ⟨w.heap.size, 0, none⟩ = false := (BX.out.below BY.out).x0.free 0
      go_simp
      clear t0 tf
      refine hK.out _ _ trivial (fun _ => ?_)
      clear hK K
      try simp only [Act.put, List.setIfInBounds_toArray, List.set_cons_zero, List.set_cons_succ]
      refine anyT_done (by kernel_rfl) ?_ _
      refine NoPanic.normal ?_
      have B9 := Lib.hid (show Bx3 w (w8.setCell ⟨w.heap.size, 0, none⟩ (.slice A8 (m1.L.length + 1) c8)) rfT rnT rfT #[.slice A8 (m1.L.length + 1) c8, .slice AG1 gl1.length cG1, .slice AF1 m1.fx.length cF1, .slice AP1 pl1.length cP1, .slice AA1 al1.length cA1, .int .i64 m1.dep, .int .i64 m1.most, .int .i64 m1.err] _ _ from (BX.out.below BY.out).set0 0 (.slice A8 (m1.L.length + 1) c8))
      have K9 : KeptS (fun b => b = w.heap.size) w8 (w8.setCell ⟨w.heap.size, 0, none⟩ (.slice A8 (m1.L.length + 1) c8)) := KeptS.set rfl
      have hbx : w.heap.size < y.heap.size := BX.out.x0.lt
      have R9 := Lib.hid (show RfR (w8.setCell ⟨w.heap.size, 0, none⟩ (.slice A8 (m1.L.length + 1) c8)) (fun b => T b ∨ (w.heap.size ≤ b ∧ b < w.heap.size + 3)) N ⟨m1.L ++ [hltI], m1.fx, m1.dep, m1.most, m1.err⟩ A8 c8 AG1 cG1 AF1 cF1 AP1 cP1 AA1 cA1 gl1 pl1 al1 from by
        have h0 := (HR.out.below BY.out).later K9 (fun b hb => .inr (by rw [hb]; omega))
        refine ⟨?_, h0.fG, h0.fF, h0.fP, h0.fA, by simp only [List.length_append, List.length_singleton]; have := h0.lg; omega, h0.lp, h0.la, h0.lf, ⟨?_, ?_, h0.ok.d0, h0.ok.dm⟩, h0.nm⟩
        · refine ⟨?_, fun b hb ht => ?_⟩
          · rw [List.length_append, List.flatMap_append, List.flatMap_singleton]
            exact row_more (K9.row O8.out (fun b hb e => by have := (row_block O8.out hb).1; omega)) (Nat.zero_le _)
          · have h1 := (row_block O8.out (own_len (n' := m1.L.length + 1) hb)).1
            have h2 := hTy.out b ht
            omega
        · intro j hj
          rcases List.mem_append.1 hj with hj | hj
          · exact h0.ok.good j hj
          · rw [List.mem_singleton.1 hj]; exact CJ.out
        · simp only [List.length_append, List.length_singleton]
          have := HL.out
          omega)
      have HT := Lib.hid (show ∀ b, (fun b => T b ∨ (w.heap.size ≤ b ∧ b < w.heap.size + 3)) b → b < (w8.setCell ⟨w.heap.size, 0, none⟩ (.slice A8 (m1.L.length + 1) c8)).heap.size from fun b hb => Nat.lt_of_lt_of_le (hTy.out b hb) (Nat.le_trans BY.out.size K9.size))
      clear K9 hbx BX HR BY O8 hTy hHeld
      generalize (w8.setCell ⟨w.heap.size, 0, none⟩ (.slice A8 (m1.L.length + 1) c8)) = y0 at *
      have B9 := Lib.hid (B9.out.below (Below.refl _ _).drew)
      have R9 := Lib.hid (R9.out.below (Below.refl _ _).drew)
      have hTy := Lib.hid (show ∀ b, (fun b => T b ∨ (w.heap.size ≤ b ∧ b < w.heap.size + 3)) b → b < y0.drew.heap.size from HT.out)
      obtain ⟨y, hy⟩ : ∃ y, y = y0.drew := ⟨_, rfl⟩
      rw [← hy] at B9 R9 hTy
      have BY := Lib.hid (Below.refl y.heap.size y)
      have L0 : y0.drew.cell? ⟨w.heap.size, 0, none⟩ = some (.slice A8 (m1.L.length + 1) c8) ∧ y0.drew.cell? ⟨w.heap.size, 1, none⟩ = some (.slice AG1 gl1.length cG1) ∧ y0.drew.cell? ⟨w.heap.size, 2, none⟩ = some (.slice AF1 m1.fx.length cF1) ∧ y0.drew.cell? ⟨w.heap.size, 3, none⟩ = some (.slice AP1 pl1.length cP1) ∧ y0.drew.cell? ⟨w.heap.size, 4, none⟩ = some (.slice AA1 al1.length cA1) ∧ y0.drew.cell? ⟨w.heap.size, 5, none⟩ = some (.int .i64 m1.dep) ∧ y0.drew.cell? ⟨w.heap.size, 6, none⟩ = some (.int .i64 m1.most) ∧ y0.drew.cell? ⟨w.heap.size, 7, none⟩ = some (.int .i64 m1.err) := by rw [← hy]; exact ⟨(B9.out.below BY.out).x0.cell 0, (B9.out.below BY.out).x0.cell 1, (B9.out.below BY.out).x0.cell 2, (B9.out.below BY.out).x0.cell 3, (B9.out.below BY.out).x0.cell 4, (B9.out.below BY.out).x0.cell 5, (B9.out.below BY.out).x0.cell 6, (B9.out.below BY.out).x0.cell 7⟩
      clear HT
      obtain ⟨i0, hi0, hz0, hz1, hz2⟩ := info_parts itInfo
      have HRG := Lib.hid R9.out.fG
      have NW := Lib.hid (show ∀ W, Below y.heap.size y W → Calls Tryd.prog 64 #[.agg #[.slice A8 (m1.L.length + 1) c8, .slice AG1 gl1.length cG1, .slice AF1 m1.fx.length cF1, .slice AP1 pl1.length cP1, .slice AA1 al1.length cA1, .int .i64 m1.dep, .int .i64 m1.most, .int .i64 m1.err]] W (fun e w' => (∃ p : Int, e = .returned (.int .i64 p)) ∧ Below W.heap.size W w') from fun W hb => by
        have h1 := now_any (fun b => T b ∨ (w.heap.size ≤ b ∧ b < w.heap.size + 3)) N ⟨m1.L ++ [hltI], m1.fx, m1.dep, m1.most, m1.err⟩ A8 c8 AG1 cG1 AF1 cF1 AP1 cP1 AA1 cA1 gl1 pl1 al1 W (R9.out.below hb) (fun b hb2 => Nat.lt_of_lt_of_le (hTy.out b hb2) hb.size) HN.out
        simp only [List.length_append, List.length_singleton] at h1
        exact h1)
      go_wp2_with fail
      refine wp_region_noPanic ?_
      refine region_T (S := fun y => y.cell? ⟨w.heap.size, 0, none⟩ = some (.slice A8 (m1.L.length + 1) c8) ∧ y.cell? ⟨w.heap.size, 1, none⟩ = some (.slice AG1 gl1.length cG1) ∧ y.cell? ⟨w.heap.size, 2, none⟩ = some (.slice AF1 m1.fx.length cF1) ∧ y.cell? ⟨w.heap.size, 3, none⟩ = some (.slice AP1 pl1.length cP1) ∧ y.cell? ⟨w.heap.size, 4, none⟩ = some (.slice AA1 al1.length cA1) ∧ y.cell? ⟨w.heap.size, 5, none⟩ = some (.int .i64 m1.dep) ∧ y.cell? ⟨w.heap.size, 6, none⟩ = some (.int .i64 m1.most) ∧ y.cell? ⟨w.heap.size, 7, none⟩ = some (.int .i64 m1.err)) 9 (by kernel_rfl) L0 (fun hHeld => ?_)
      rw [← hy] at hHeld ⊢
      clear L0 hy
      refine anyT_take (i := 1) (oi := _) (v := .pointer (some ⟨w.heap.size, 1, none⟩)) rfl (by kernel_rfl) (by kernel_rfl) (by kernel_rfl) (by kernel_rfl) (fun _ _ _ h => h) (Or.inl ⟨by rfl, fun w hSw => by (try dsimp only at hSw); go_simp⟩) (by assumption) ?_
      try simp only [Act.put, List.setIfInBounds_toArray, List.set_cons_zero, List.set_cons_succ]
      refine anyT_take (i := 2) (oi := _) (v := .slice AG1 gl1.length cG1) rfl (by kernel_rfl) (by kernel_rfl) (by kernel_rfl) (by kernel_rfl) (fun _ _ _ h => h) (Or.inl ⟨by rfl, fun w hSw => by (try dsimp only at hSw); go_simp⟩) (by assumption) ?_
      try simp only [Act.put, List.setIfInBounds_toArray, List.set_cons_zero, List.set_cons_succ]
      refine anyT_take (i := 4) (oi := _) (v := .agg #[.slice A8 (m1.L.length + 1) c8, .slice AG1 gl1.length cG1, .slice AF1 m1.fx.length cF1, .slice AP1 pl1.length cP1, .slice AA1 al1.length cA1, .int .i64 m1.dep, .int .i64 m1.most, .int .i64 m1.err]) rfl (by kernel_rfl) (by kernel_rfl) (by kernel_rfl) (by kernel_rfl) (fun _ _ _ h => h) (Or.inl ⟨by rfl, fun w hSw => by (try dsimp only at hSw); go_simp⟩) (by assumption) ?_
      try simp only [Act.put, List.setIfInBounds_toArray, List.set_cons_zero, List.set_cons_succ]
      refine anyT_ready (rs := [0]) (by kernel_rfl) (by simp) (ReadyT.cons (o := _) rfl (fun K hK => ?_) ReadyT.nil)
      go_simp
      have SE := Lib.hid (show y.heap.size = y.heap.size from rfl)
      have BY := Lib.hid (show Below y.heap.size y (y.alloc (.cells #[] itT)) from BY.out.alloc BY.out.size (.cells #[] itT))
      have OE := Lib.hid (show (y.alloc (.cells #[] itT)).ownsRow y.heap.size itT 1 (.slice (some ⟨y.heap.size, 0, none⟩) 0 0) 0 [] from row_built (e := itT) (sz := 1) y #[] 0 0 rfl (Nat.le_refl _) (Nat.zero_le _) y.heap.size (by rw [SE.out]; omega) _ (by rw [SE.out]) [] rfl)
      refine hK.out _ _ ⟨(B9.out.below BY.out).x0.cell 0, (B9.out.below BY.out).x0.cell 1, (B9.out.below BY.out).x0.cell 2, (B9.out.below BY.out).x0.cell 3, (B9.out.below BY.out).x0.cell 4, (B9.out.below BY.out).x0.cell 5, (B9.out.below BY.out).x0.cell 6, (B9.out.below BY.out).x0.cell 7⟩ (fun hHeld => ?_)
      clear hK K
      try simp only [Act.put, List.setIfInBounds_toArray, List.set_cons_zero, List.set_cons_succ]
      refine anyT_ready (rs := [3]) (by kernel_rfl) (by simp) (ReadyT.cons (o := _) rfl (fun K hK => ?_) ReadyT.nil)
      refine step_app_any rfl (.tmp 28) (.tmp 30) 26 rfl y.heap.size itT i0 _ 1 8 Tryd.underlying26 hi0 hz0 hz1 hz2 rfl (by decide) (.slice (some ⟨y.heap.size, 0, none⟩) 0 0) 0 [] rfl OE.out (.slice AG1 gl1.length cG1) (gl1.length) (gl1.flatMap itC) rfl (HRG.out.below BY.out).1 (one_flat it_one _) (by have := R9.out.lg; have := R9.out.ok.len; unfold maxLen; omega) (by have := R9.out.lg; have := R9.out.ok.len; omega) BY.out.size ?_
      intro v6 w6 ho6 hg6 hat6
      rw [Nat.zero_add, List.nil_append] at ho6
      have hform := row_form ho6
      obtain ⟨A6, c6, rfl⟩ := hform
      have BY := Lib.hid (show Below y.heap.size y w6 from BY.out.grown hg6 BY.out.size (fun b hb => (World.ownsRow.lt OE.out b hb).1))
      have O6 := Lib.hid ho6
      clear ho6 hg6 hat6 OE
      refine hK.out _ _ ⟨(B9.out.below BY.out).x0.cell 0, (B9.out.below BY.out).x0.cell 1, (B9.out.below BY.out).x0.cell 2, (B9.out.below BY.out).x0.cell 3, (B9.out.below BY.out).x0.cell 4, (B9.out.below BY.out).x0.cell 5, (B9.out.below BY.out).x0.cell 6, (B9.out.below BY.out).x0.cell 7⟩ (fun hHeld => ?_)
      clear hK K
      try simp only [Act.put, List.setIfInBounds_toArray, List.set_cons_zero, List.set_cons_succ]
      refine anyT_ready (rs := [5]) (by kernel_rfl) (by simp) (ReadyT.cons (o := _) rfl (fun K hK => ?_) ReadyT.nil)
      go_simp
      go_at_call 64
      refine (NW.out w6 BY.out).mono ?_
      rintro e y2 ⟨⟨p, rfl⟩, hb2⟩
      have O6 := Lib.hid (row_below O6.out hb2)
      have BY := Lib.hid (show Below y.heap.size y y2 from BY.out.trans (hb2.mono BY.out.size))
      clear hb2
      refine hK.out _ _ ⟨(B9.out.below BY.out).x0.cell 0, (B9.out.below BY.out).x0.cell 1, (B9.out.below BY.out).x0.cell 2, (B9.out.below BY.out).x0.cell 3, (B9.out.below BY.out).x0.cell 4, (B9.out.below BY.out).x0.cell 5, (B9.out.below BY.out).x0.cell 6, (B9.out.below BY.out).x0.cell 7⟩ (fun hHeld => ?_)
      clear hK K
      try simp only [Act.put, List.setIfInBounds_toArray, List.set_cons_zero, List.set_cons_succ]
      refine anyT_ready (rs := [6]) (by kernel_rfl) (by simp) (ReadyT.cons (o := _) rfl (fun K hK => ?_) ReadyT.nil)
      go_simp
      have BY := Lib.hid (show Below y.heap.size y (y2.alloc (.cells #[.int .i64 p] itT)) from BY.out.alloc BY.out.size (.cells #[.int .i64 p] itT))
      have XW := Lib.hid (Whole.made y2 itT #[.int .i64 p] (y2.heap.size) rfl)
      have O6 := Lib.hid (World.ownsRow.alloc O6.out (.cells #[.int .i64 p] itT))
      refine hK.out _ _ ⟨(B9.out.below BY.out).x0.cell 0, (B9.out.below BY.out).x0.cell 1, (B9.out.below BY.out).x0.cell 2, (B9.out.below BY.out).x0.cell 3, (B9.out.below BY.out).x0.cell 4, (B9.out.below BY.out).x0.cell 5, (B9.out.below BY.out).x0.cell 6, (B9.out.below BY.out).x0.cell 7⟩ (fun hHeld => ?_)
      clear hK K
      try simp only [Act.put, List.setIfInBounds_toArray, List.set_cons_zero, List.set_cons_succ]
      refine anyT_ready (rs := [7]) (by kernel_rfl) (by simp) (ReadyT.cons (o := _) rfl (fun K hK => ?_) ReadyT.nil)
      have NC := Lib.hid (show ∀ (j : Nat) u, ([.int .i64 p] : List Value)[j]? = some u → (y2.alloc (.cells #[.int .i64 p] itT)).cell? ((⟨y2.heap.size, 0, none⟩ : Addr).add j) = some u from fun j u hj => by
        rw [Go.WideShapes.add_plain, Nat.zero_add]
        exact (XW.out.cell j).trans (by simpa using hj))
      refine step_app rfl (.tmp 31) (.tmp 34) 26 rfl y.heap.size itT i0 _ 1 8 Tryd.underlying26 hi0 hz0 hz1 hz2 rfl (by decide) (.slice A6 (gl1.length) c6) (gl1.length) (gl1.flatMap itC) rfl O6.out ⟨y2.heap.size, 0, none⟩ 1 1 [.int .i64 p] rfl rfl NC.out (it_one p) (by have := R9.out.lg; have := R9.out.ok.len; unfold maxLen; omega) (by have := R9.out.lg; have := R9.out.ok.len; omega) BY.out.size ?_
      intro v8 w8 ho8 hg8 hat8
      have hform := row_form ho8
      obtain ⟨A9, c9, rfl⟩ := hform
      have BY := Lib.hid (show Below y.heap.size y w8 from BY.out.grown hg8 BY.out.size (fun b hb => (World.ownsRow.lt O6.out b hb).1))
      have O8 := Lib.hid ho8
      clear ho8 hg8 hat8 O6 XW NC
      refine hK.out _ _ ⟨(B9.out.below BY.out).x0.cell 0, (B9.out.below BY.out).x0.cell 1, (B9.out.below BY.out).x0.cell 2, (B9.out.below BY.out).x0.cell 3, (B9.out.below BY.out).x0.cell 4, (B9.out.below BY.out).x0.cell 5, (B9.out.below BY.out).x0.cell 6, (B9.out.below BY.out).x0.cell 7⟩ (fun hHeld => ?_)
      clear hK K
      try simp only [Act.put, List.setIfInBounds_toArray, List.set_cons_zero, List.set_cons_succ]
      refine anyT_take (i := 8) (oi := _) (v := .pointer (some ⟨w.heap.size, 1, none⟩)) rfl (by kernel_rfl) (by kernel_rfl) (by kernel_rfl) (by kernel_rfl) (fun _ _ _ h => h) (Or.inl ⟨by rfl, fun w hSw => by (try dsimp only at hSw); go_simp⟩) (by assumption) ?_
      try simp only [Act.put, List.setIfInBounds_toArray, List.set_cons_zero, List.set_cons_succ]
      refine anyT_ready (rs := [9]) (by kernel_rfl) (by simp) (ReadyT.last (o := _) rfl (fun K hK => ?_))
      have t0 : w8.cell? ⟨w.heap.size, 1, none⟩ = some (.slice AG1 gl1.length cG1) := (B9.out.below BY.out).x0.cell 1
      have tf : w8.frozen? ⟨w.heap.size, 1, none⟩ = false := (B9.out.below BY.out).x0.free 1
      go_simp
      clear t0 tf
      refine hK.out _ _ trivial (fun _ => ?_)
      clear hK K
      try simp only [Act.put, List.setIfInBounds_toArray, List.set_cons_zero, List.set_cons_succ]
      refine anyT_done (by kernel_rfl) ?_ _
      refine NoPanic.normal ?_
      have BE := Lib.hid (show Bx3 w (w8.setCell ⟨w.heap.size, 1, none⟩ (.slice A9 (gl1.length + 1) c9)) rfT rnT rfT #[.slice A8 (m1.L.length + 1) c8, .slice A9 (gl1.length + 1) c9, .slice AF1 m1.fx.length cF1, .slice AP1 pl1.length cP1, .slice AA1 al1.length cA1, .int .i64 m1.dep, .int .i64 m1.most, .int .i64 m1.err] _ _ from (B9.out.below BY.out).set0 1 (.slice A9 (gl1.length + 1) c9))
      have K9 : KeptS (fun b => b = w.heap.size) w8 (w8.setCell ⟨w.heap.size, 1, none⟩ (.slice A9 (gl1.length + 1) c9)) := KeptS.set rfl
      have hbx : w.heap.size < y.heap.size := B9.out.x0.lt
      have RE := Lib.hid (show RfR (w8.setCell ⟨w.heap.size, 1, none⟩ (.slice A9 (gl1.length + 1) c9)) (fun b => T b ∨ (w.heap.size ≤ b ∧ b < w.heap.size + 3)) N ⟨m1.L ++ [hltI], m1.fx, m1.dep, m1.most, m1.err⟩ A8 c8 A9 c9 AF1 cF1 AP1 cP1 AA1 cA1 (gl1 ++ [p]) pl1 al1 from by
        have h0 := (R9.out.below BY.out).later K9 (fun b hb => .inr (by rw [hb]; omega))
        refine ⟨h0.fL, ?_, h0.fF, h0.fP, h0.fA, by simp only [List.length_append, List.length_singleton]; have := HG.out; omega, h0.lp, h0.la, h0.lf, h0.ok, h0.nm⟩
        refine ⟨?_, fun b hb ht => ?_⟩
        · rw [List.length_append, List.flatMap_append, List.flatMap_singleton]
          exact row_more (K9.row O8.out (fun b hb e => by have := (row_block O8.out hb).1; omega)) (Nat.zero_le _)
        · have h1 := (row_block O8.out (own_len (n' := gl1.length + 1) hb)).1
          have h2 := hTy.out b ht
          omega)
      clear K9 hbx B9 R9 BY O8 hTy hHeld HRG HRL
      generalize (w8.setCell ⟨w.heap.size, 1, none⟩ (.slice A9 (gl1.length + 1) c9)) = y0 at *
      obtain ⟨z0, z1, z2, z3, z4, z5, z6, z7⟩ := cells8 BE.out.x0
      have H1 := Lib.hid (show (#[.slice A8 (m1.L.length + 1) c8, .slice A9 (gl1.length + 1) c9, .slice AF1 m1.fx.length cF1, .slice AP1 pl1.length cP1, .slice AA1 al1.length cA1, .int .i64 m1.dep, .int .i64 m1.most, .int .i64 m1.err] : Array Value).all (·.oneCell') = true from by simp [Value.oneCell'])
      repeat (first | (go_big_may; first | (refine wpList_store_row rfl rfT (.tmp 4) (.tmp 37) rfl (w.heap.size + 1 + 1) #[.slice A8 (m1.L.length + 1) c8, .slice A9 (gl1.length + 1) c9, .slice AF1 m1.fx.length cF1, .slice AP1 pl1.length cP1, .slice AA1 al1.length cA1, .int .i64 m1.dep, .int .i64 m1.most, .int .i64 m1.err] rfl rfl rfT #[.slice none 0 0, .slice none 0 0, .slice none 0 0, .slice none 0 0, .slice none 0 0, .int .i64 0, .int .i64 0, .int .i64 0] BE.out.x2 S8 rfl H1.out ?_; generalize hZZ : (y0).setRow (w.heap.size + 1 + 1) #[.slice A8 (m1.L.length + 1) c8, .slice A9 (gl1.length + 1) c9, .slice AF1 m1.fx.length cF1, .slice AP1 pl1.length cP1, .slice AA1 al1.length cA1, .int .i64 m1.dep, .int .i64 m1.most, .int .i64 m1.err] = ZZ; have HZZ := Lib.hid hZZ; clear hZZ)) | go_values | go_skip | go_guarded | go_step | go_upon)
      have RZ := Lib.hid (HZZ.out ▸ (RE.out.later (BE.out.kept2 #[.slice A8 (m1.L.length + 1) c8, .slice A9 (gl1.length + 1) c9, .slice AF1 m1.fx.length cF1, .slice AP1 pl1.length cP1, .slice AA1 al1.length cA1, .int .i64 m1.dep, .int .i64 m1.most, .int .i64 m1.err]) (fun b hb => .inr hb)))
      have BZ := Lib.hid (HZZ.out ▸ BE.out.row2 #[.slice A8 (m1.L.length + 1) c8, .slice A9 (gl1.length + 1) c9, .slice AF1 m1.fx.length cF1, .slice AP1 pl1.length cP1, .slice AA1 al1.length cA1, .int .i64 m1.dep, .int .i64 m1.most, .int .i64 m1.err])
      have RL := Lib.hid (show (putE m i).L.length = m1.L.length + 1 from by rw [PE.out]; simp only [List.length_append, List.length_singleton])
      clear z0 z1 z2 z3 z4 z5 z6 z7
      obtain ⟨z0, z1, z2, z3, z4, z5, z6, z7⟩ := cells8 BZ.out.x2
      refine bodyPost_ret (v := .agg #[.slice A8 (m1.L.length + 1) c8, .slice A9 (gl1.length + 1) c9, .slice AF1 m1.fx.length cF1, .slice AP1 pl1.length cP1, .slice AA1 al1.length cA1, .int .i64 m1.dep, .int .i64 m1.most, .int .i64 m1.err]) ?_ rfl ⟨A8, c8, A9, c9, AF1, cF1, AP1, cP1, AA1, cA1, gl1 ++ [p], pl1, al1, ?_, ?_, BZ.out.b⟩
      · simp [results, Tryd.results47, go_sem, z0, z1, z2, z3, z4, z5, z6, z7]
      · rw [PE.out]
        simp only [List.length_append, List.length_singleton]
      · rw [PE.out]
        exact RZ.out.less (fun b hb => .inl hb)

theorem refput_any (i : Ins) (T : Nat → Prop) (N : Nat) (m : Em) (AL : Option Addr) (cL : Nat) (AG : Option Addr) (cG : Nat) (AF : Option Addr) (cF : Nat) (AP : Option Addr) (cP : Nat) (AA : Option Addr) (cA : Nat) (gl pl al : List Int) (w : World) (h : RfR w T N m AL cL AG cG AF cF AP cP AA cA gl pl al) (hT : ∀ b, T b → b < w.heap.size) (hN : N ≤ 100000) :
    Calls Tryd.prog 47 #[.agg #[.slice AL m.L.length cL, .slice AG gl.length cG, .slice AF m.fx.length cF, .slice AP pl.length cP, .slice AA al.length cA, .int .i64 m.dep, .int .i64 m.most, .int .i64 m.err], .agg #[.int .i64 i.op, .int .i64 i.a, .int .i64 i.b, .int .i64 i.c, .int .i64 i.n]] w (RfP T N w (putE m i)) := by
  by_cases hc : chk i = 0
  · exact refput_ok i T N m AL cL AG cG AF cF AP cP AA cA gl pl al w h hT hN hc
  · exact refput_bad i T N m AL cL AG cG AF cF AP cP AA cA gl pl al w h hT hN hc
end Go.Proofs.YtcijjmmckofckaaDoor
