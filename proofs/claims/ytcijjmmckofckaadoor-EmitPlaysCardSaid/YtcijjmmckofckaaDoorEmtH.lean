/- Emit: Fix. -/
import Derived.Test.YtcijjmmckofckaaDoorEmtI
import Derived.Test.YtcijjmmckofckaaDoorHeldTail
namespace Go.Proofs.YtcijjmmckofckaaDoor
open Go.ChangeShapes Go.WideShapes Go.ChangeAt Go.RowKit
set_option linter.unusedVariables false
set_option linter.unusedSimpArgs false

set_option maxHeartbeats 16000000 in
set_option maxRecDepth 100000 in
theorem fix_any (kd md vl a : Int) (ha : I64 a) (B g : Nat) (T : Nat → Prop) (N : Nat) (m : Em) (w : World) (h : CdAt w B g T N m) (hN : N + 1 ≤ 100000) :
    Calls Tryd.prog 49 #[.pointer (some ⟨g, 0, none⟩), .int .i64 kd, .int .i64 md, .int .i64 vl, .int .i64 a] w fun e w' => e = .returned (.tuple #[]) ∧ CdPost w w' B g T (N + 1) (fixE m kd md vl a) := by
  obtain ⟨i0, hi0, hz0, hz1, hz2⟩ := info_parts fxInfo
  have HF0 : m.fx.length ≤ N := by obtain ⟨_, _, _, _, _, _, _, _, h0⟩ := h; exact h0.nf
  have HF := Lib.hid (show m.fx.length + 1 ≤ N + 1 by omega)
  have h := CdM.more h (Nat.le_succ N) (Nat.le_refl _)
  have HN := Lib.hid hN
  have HA := Lib.hid ha
  have HE := Lib.hid (here_any B g T (N + 1) m.L.length m w.drew (h.below (Below.refl _ _).drew))
  obtain ⟨vw, vf, vp, vg, vm, ps, gs, ms, h⟩ := h
  have B5 := Lib.hid (show Below w.heap.size w (w.drew.alloc (.cells #[.int .i64 m.L.length, .int .i64 kd, .int .i64 md, .int .i64 vl] fxT)) from (Below.refl w.heap.size w).drew.alloc (Nat.le_refl _) (.cells #[.int .i64 m.L.length, .int .i64 kd, .int .i64 md, .int .i64 vl] fxT))
  have H5 := Lib.hid (h.below B5.out)
  obtain ⟨A, c, rfl⟩ := row_form h.rf
  have c1 : w.drew.cell? ⟨g, 1, none⟩ = some (.slice A m.fx.length c) := h.whole.cell 1
  have c2 : (w.drew.alloc (.cells #[.int .i64 m.L.length, .int .i64 kd, .int .i64 md, .int .i64 vl] fxT)).cell? ⟨g, 1, none⟩ = some (.slice A m.fx.length c) := H5.out.whole.cell 1
  have O5 := Lib.hid H5.out.rf
  have N5 := Lib.hid (show (Value.slice A m.fx.length c).ownBlock ≠ some g from H5.out.ne H5.out.rf (by decide))
  have S5 := Lib.hid (show B ≤ (w.drew.alloc (.cells #[.int .i64 m.L.length, .int .i64 kd, .int .i64 md, .int .i64 vl] fxT)).heap.size from Nat.le_of_lt (Nat.lt_of_le_of_lt (H5.out.frm g H5.out.tg).1 H5.out.whole.lt))
  have NB := Lib.hid (show ∀ (j : Nat) u, ([.int .i64 m.L.length, .int .i64 kd, .int .i64 md, .int .i64 vl] : List Value)[j]? = some u → (w.drew.alloc (.cells #[.int .i64 m.L.length, .int .i64 kd, .int .i64 md, .int .i64 vl] fxT)).cell? ((⟨w.heap.size, 0, none⟩ : Addr).add j) = some u from fun j u hj => by
    rw [Go.WideShapes.add_plain, Nat.zero_add]
    exact ((Whole.made w.drew fxT #[.int .i64 m.L.length, .int .i64 kd, .int .i64 md, .int .i64 vl] w.heap.size rfl).cell j).trans (by simpa using hj))
  clear h HF0 ha hN
  go_enter Tryd.func49, Tryd.ntmps49
  go_wp2_with fail
  refine wp_region_noPanic ?_
  refine region_T (S := fun y => y.cell? ⟨g, 1, none⟩ = some (.slice A m.fx.length c)) 15 (by kernel_rfl) c1 (fun hHeld => ?_)
  refine anyT_take (i := 0) (oi := _) (v := .pointer (some ⟨g, 0, none⟩)) rfl (by kernel_rfl) (by kernel_rfl) (by kernel_rfl) (by kernel_rfl) (fun _ _ _ h => h) (Or.inl ⟨by rfl, fun w hSw => by (try dsimp only at hSw); go_simp⟩) (by assumption) ?_
  try simp only [Act.put, List.getElem_toArray, List.getElem_cons_succ, List.getElem_cons_zero, List.setIfInBounds_toArray, List.set_cons_zero, List.set_cons_succ]
  refine anyT_take (i := 1) (oi := _) (v := .pointer (some ⟨g, 0, none⟩)) rfl (by kernel_rfl) (by kernel_rfl) (by kernel_rfl) (by kernel_rfl) (fun _ _ _ h => h) (Or.inl ⟨by rfl, fun w hSw => by (try dsimp only at hSw); go_simp⟩) (by assumption) ?_
  try simp only [Act.put, List.getElem_toArray, List.getElem_cons_succ, List.getElem_cons_zero, List.setIfInBounds_toArray, List.set_cons_zero, List.set_cons_succ]
  refine anyT_take (i := 2) (oi := _) (v := .pointer (some ⟨g, 0, none⟩)) rfl (by kernel_rfl) (by kernel_rfl) (by kernel_rfl) (by kernel_rfl) (fun _ _ _ h => h) (Or.inl ⟨by rfl, fun w hSw => by (try dsimp only at hSw); go_simp⟩) (by assumption) ?_
  try simp only [Act.put, List.getElem_toArray, List.getElem_cons_succ, List.getElem_cons_zero, List.setIfInBounds_toArray, List.set_cons_zero, List.set_cons_succ]
  refine anyT_take (i := 3) (oi := _) (v := .pointer (some ⟨g, 1, none⟩)) rfl (by kernel_rfl) (by kernel_rfl) (by kernel_rfl) (by kernel_rfl) (fun _ _ _ h => h) (Or.inl ⟨by rfl, fun w hSw => by (try dsimp only at hSw); go_simp⟩) (by assumption) ?_
  try simp only [Act.put, List.getElem_toArray, List.getElem_cons_succ, List.getElem_cons_zero, List.setIfInBounds_toArray, List.set_cons_zero, List.set_cons_succ]
  refine anyT_take (i := 4) (oi := _) (v := .slice A m.fx.length c) rfl (by kernel_rfl) (by kernel_rfl) (by kernel_rfl) (by kernel_rfl) (fun _ _ _ h => h) (Or.inl ⟨by rfl, fun w hSw => by (try dsimp only at hSw); go_simp⟩) (by assumption) ?_
  try simp only [Act.put, List.getElem_toArray, List.getElem_cons_succ, List.getElem_cons_zero, List.setIfInBounds_toArray, List.set_cons_zero, List.set_cons_succ]
  refine anyT_take (i := 5) (oi := _) (v := .pointer (some ⟨g, 0, none⟩)) rfl (by kernel_rfl) (by kernel_rfl) (by kernel_rfl) (by kernel_rfl) (fun _ _ _ h => h) (Or.inl ⟨by rfl, fun w hSw => by (try dsimp only at hSw); go_simp⟩) (by assumption) ?_
  try simp only [Act.put, List.getElem_toArray, List.getElem_cons_succ, List.getElem_cons_zero, List.setIfInBounds_toArray, List.set_cons_zero, List.set_cons_succ]
  refine anyT_take (i := 7) (oi := _) (v := .int .i64 kd) rfl (by kernel_rfl) (by kernel_rfl) (by kernel_rfl) (by kernel_rfl) (fun _ _ _ h => h) (Or.inl ⟨by rfl, fun w hSw => by (try dsimp only at hSw); go_simp⟩) (by assumption) ?_
  try simp only [Act.put, List.getElem_toArray, List.getElem_cons_succ, List.getElem_cons_zero, List.setIfInBounds_toArray, List.set_cons_zero, List.set_cons_succ]
  refine anyT_take (i := 8) (oi := _) (v := .int .i64 md) rfl (by kernel_rfl) (by kernel_rfl) (by kernel_rfl) (by kernel_rfl) (fun _ _ _ h => h) (Or.inl ⟨by rfl, fun w hSw => by (try dsimp only at hSw); go_simp⟩) (by assumption) ?_
  try simp only [Act.put, List.getElem_toArray, List.getElem_cons_succ, List.getElem_cons_zero, List.setIfInBounds_toArray, List.set_cons_zero, List.set_cons_succ]
  refine anyT_take (i := 9) (oi := _) (v := .int .i64 vl) rfl (by kernel_rfl) (by kernel_rfl) (by kernel_rfl) (by kernel_rfl) (fun _ _ _ h => h) (Or.inl ⟨by rfl, fun w hSw => by (try dsimp only at hSw); go_simp⟩) (by assumption) ?_
  try simp only [Act.put, List.getElem_toArray, List.getElem_cons_succ, List.getElem_cons_zero, List.setIfInBounds_toArray, List.set_cons_zero, List.set_cons_succ]
  refine anyT_ready (rs := [6]) (by kernel_rfl) (by simp) (ReadyT.cons (o := _) rfl (fun K hK => ?_) ReadyT.nil)
  go_simp
  go_at_call 17
  refine (HE.out).mono ?_
  rintro e y0 ⟨rfl, rfl⟩
  refine hK.out _ _ c1 (fun hHeld => ?_)
  clear hK K
  try simp only [Act.put, List.getElem_toArray, List.getElem_cons_succ, List.getElem_cons_zero, List.setIfInBounds_toArray, List.set_cons_zero, List.set_cons_succ]
  refine anyT_take (i := 10) (oi := _) (v := .agg #[.int .i64 m.L.length, .int .i64 kd, .int .i64 md, .int .i64 vl]) rfl (by kernel_rfl) (by kernel_rfl) (by kernel_rfl) (by kernel_rfl) (fun _ _ _ h => h) (Or.inl ⟨by rfl, fun w hSw => by (try dsimp only at hSw); go_simp⟩) (by assumption) ?_
  try simp only [Act.put, List.getElem_toArray, List.getElem_cons_succ, List.getElem_cons_zero, List.setIfInBounds_toArray, List.set_cons_zero, List.set_cons_succ]
  refine anyT_ready (rs := [11]) (by kernel_rfl) (by simp) (ReadyT.cons (o := _) rfl (fun K hK => ?_) ReadyT.nil)
  go_simp
  refine hK.out _ _ c2 (fun hHeld => ?_)
  clear hK K
  try simp only [Act.put, List.getElem_toArray, List.getElem_cons_succ, List.getElem_cons_zero, List.setIfInBounds_toArray, List.set_cons_zero, List.set_cons_succ]
  refine anyT_ready (rs := [12]) (by kernel_rfl) (by simp) (ReadyT.cons (o := _) rfl (fun K hK => ?_) ReadyT.nil)
  refine step_app rfl (.tmp 14) (.tmp 21) 27 rfl B fxT i0 _ 4 32 Tryd.underlying27 hi0 hz0 hz1 hz2 rfl (by decide) (.slice A m.fx.length c) m.fx.length (m.fx.flatMap fxC) rfl O5.out ⟨w.heap.size, 0, none⟩ 1 1 [.int .i64 m.L.length, .int .i64 kd, .int .i64 md, .int .i64 vl] rfl rfl NB.out (fx_one ⟨m.L.length, kd, md, vl⟩) (by have := H5.out.nf; have := HN.out; unfold maxLen; omega) (by have := H5.out.nf; have := HN.out; omega) S5.out ?_
  intro v3 w3 ho3 hg3 hat
  obtain ⟨A', c', rfl⟩ := row_form ho3
  have R3 := Lib.hid (H5.out.setFP (L' := m.fx ++ [⟨m.L.length, kd, md, vl⟩]) hg3 (by rw [List.length_append, List.flatMap_append, List.flatMap_singleton]; exact ho3) hat (by rw [List.length_append, List.length_singleton]; exact HF.out))
  have d0 : w3.cell? ⟨g, 1, none⟩ = some (.slice A m.fx.length c) := H5.out.cell3 hg3 N5.out 1
  have f0 : w3.frozen? ⟨g, 1, none⟩ = false := H5.out.free3 hg3 N5.out 1
  clear ho3 hg3 hat
  refine hK.out _ _ d0 (fun hHeld => ?_)
  clear hK K
  try simp only [Act.put, List.getElem_toArray, List.getElem_cons_succ, List.getElem_cons_zero, List.setIfInBounds_toArray, List.set_cons_zero, List.set_cons_succ]
  refine anyT_ready (rs := [13]) (by kernel_rfl) (by simp) (ReadyT.cons (o := _) rfl (fun K hK => ?_) ReadyT.nil)
  go_simp
  refine hK.out _ _ d0 (fun hHeld => ?_)
  clear hK K
  try simp only [Act.put, List.getElem_toArray, List.getElem_cons_succ, List.getElem_cons_zero, List.setIfInBounds_toArray, List.set_cons_zero, List.set_cons_succ]
  refine anyT_take (i := 14) (oi := _) (v := .pointer (some ⟨g, 1, none⟩)) rfl (by kernel_rfl) (by kernel_rfl) (by kernel_rfl) (by kernel_rfl) (fun _ _ _ h => h) (Or.inl ⟨by rfl, fun w hSw => by (try dsimp only at hSw); go_simp⟩) (by assumption) ?_
  try simp only [Act.put, List.getElem_toArray, List.getElem_cons_succ, List.getElem_cons_zero, List.setIfInBounds_toArray, List.set_cons_zero, List.set_cons_succ]
  refine anyT_ready (rs := [15]) (by kernel_rfl) (by simp) (ReadyT.last (o := _) rfl (fun K hK => ?_))
  go_simp
  refine hK.out _ _ trivial (fun _ => ?_)
  clear hK K
  try simp only [Act.put, List.getElem_toArray, List.getElem_cons_succ, List.getElem_cons_zero, List.setIfInBounds_toArray, List.set_cons_zero, List.set_cons_succ]
  refine anyT_done (by kernel_rfl) ?_ _
  refine NoPanic.normal ?_
  obtain ⟨T4, hc4, hk4, ht4⟩ := R3.out
  have C4 := Lib.hid (show CdM _ B g T4 (N + 1) m.L.length (fixA m kd md vl) from hc4)
  have K4 := Lib.hid (show KeptS T w _ from (KeptS.ofBelow B5.out).trans hk4 (fun b hb => .inl hb))
  have O4 := Lib.hid (show ∀ b, T4 b → T b ∨ w.heap.size ≤ b from fun b hb => by
    rcases ht4 b hb with h | h
    · exact .inl h
    · exact .inr (Nat.le_trans B5.out.size h))
  clear R3 hc4 hk4 ht4 d0 f0 H5 O5 N5 S5 NB c1 c2
  generalize (w3.setCell ⟨g, 1, none⟩ (.slice A' (m.fx.length + 1) c')) = w4 at *
  by_cases hk : kd = 3
  case pos =>
    have dk : (kd == 3) = true := beq_iff_eq.2 hk
    have PE := Lib.hid (show fixE m kd md vl a = putE (fixA m kd md vl) ⟨23, 0, 0, 0, 0⟩ from if_pos hk)
    have PU := Lib.hid (put_any ⟨23, 0, 0, 0, 0⟩ ⟨(show I64 (23) from by unfold I64; omega), (show I64 (0) from by unfold I64; omega), (show I64 (0) from by unfold I64; omega), (show I64 (0) from by unfold I64; omega), (show I64 (0) from by unfold I64; omega)⟩ B g T4 (N + 1) (fixA m kd md vl) w4 C4.out HN.out)
    try unfold instrV at PU
    clear hk C4
    generalize fixA m kd md vl = m1 at *
    generalize putE m1 ⟨23, 0, 0, 0, 0⟩ = m2 at *
    go_wp2_with fail
    refine PU.out.mono ?_
    rintro e w5 ⟨rfl, hp⟩
    have HP := Lib.hid hp
    clear hp PU
    go_wp2_with fail
    first | go_end0 | refine bodyPost_ret (results_none rfl _ _ _) rfl ?_
    exact ⟨rfl, by rw [PE.out]; exact CdPM.trans K4.out O4.out HP.out⟩
  case neg =>
    have dk : (kd == 3) = false := beq_eq_false_iff_ne.2 hk
    have PE := Lib.hid (show fixE m kd md vl a = halfE (fixA m kd md vl) a 0 0 from if_neg hk)
    have PU := Lib.hid (halves_any a 0 0 HA.out (show I64 (0) from by unfold I64; omega) (show I64 (0) from by unfold I64; omega) B g T4 (N + 1) (fixA m kd md vl) w4 C4.out HN.out)
    try unfold instrV at PU
    clear hk C4
    generalize fixA m kd md vl = m1 at *
    generalize halfE m1 a 0 0 = m2 at *
    go_wp2_with fail
    refine PU.out.mono ?_
    rintro e w5 ⟨rfl, hp⟩
    have HP := Lib.hid hp
    clear hp PU
    go_wp2_with fail
    first | go_end0 | refine bodyPost_ret (results_none rfl _ _ _) rfl ?_
    exact ⟨rfl, by rw [PE.out]; exact CdPM.trans K4.out O4.out HP.out⟩
end Go.Proofs.YtcijjmmckofckaaDoor
