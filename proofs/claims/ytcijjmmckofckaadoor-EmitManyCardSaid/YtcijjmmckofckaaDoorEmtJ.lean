/- Emit: slices.Clone of words and of fixups; segments, Finish. -/
import Derived.Test.YtcijjmmckofckaaDoorEmtG
import Derived.Deep.RegionHeld3
import Derived.StillTailTactics
namespace Go.Proofs.YtcijjmmckofckaaDoor
open Go.ChangeShapes Go.WideShapes Go.ChangeAt Go.RowKit
set_option linter.unusedVariables false
set_option linter.unusedSimpArgs false

set_option maxHeartbeats 16000000 in
set_option maxRecDepth 100000 in
theorem wclone_any (v : Value) (B : Nat) (l : List Ins) (w : World) (h : LstV wdC B w v l) (hn : l.length * 4 ≤ 140737488355328) :
    Calls Tryd.prog 27 #[v] w fun e w' => ∃ v', e = .returned v' ∧ Below w.heap.size w w' ∧ w'.ownsRow w.heap.size u4T 1 v' l.length (l.flatMap wdC) := by
  obtain ⟨i0, hi, hz0, hz1, hz2⟩ := info_parts u4Info
  obtain ⟨A, c, rfl, hcell⟩ := h
  have HN := Lib.hid hn
  clear hn
  cases A with
  | none =>
    have hl : l = [] := Classical.byContradiction fun h => by
      obtain ⟨b, off, e, _⟩ := hcell h
      cases e
    subst hl
    have hnil : ∀ W : World, (binOp .eql 33 (.slice none 0 c) (.slice none 0 0)).run Tryd.prog W = .ok (.bool true) W := fun W => by
      simp only [binOp]
      simp [run_equal_slice_nil W 33 u4T none 0 c Tryd.underlying33]
    clear hcell
    go_enter Tryd.func27, Tryd.ntmps27
    go_wp2_with fail
    go_ret
    exact ⟨_, rfl, Below.refl _ _, row_nil _ _ _ _⟩
  | some a =>
    have hnil : ∀ W : World, (binOp .eql 33 (.slice (some a) l.length c) (.slice none 0 0)).run Tryd.prog W = .ok (.bool false) W := fun W => by
      simp only [binOp]
      simp [run_equal_slice_nil W 33 u4T (some a) l.length c Tryd.underlying33]
    have BA := Lib.hid ((Below.refl w.heap.size w).alloc (Nat.le_refl _) (.cells #[] u4T))
    have OE := Lib.hid (row_built (e := u4T) (sz := 1) w #[] 0 0 rfl (Nat.le_refl _) (Nat.zero_le _) w.heap.size (Nat.le_refl _) _ rfl [] rfl)
    have hzz : w.heap.size ≤ (w.alloc (.cells #[] u4T)).heap.size := BA.out.size
    have NC := Lib.hid (show ∀ (j : Nat) u, (l.flatMap wdC)[j]? = some u → (w.alloc (.cells #[] u4T)).cell? (a.add j) = some u from fun j u hj => by
      by_cases hp : l = []
      · subst hp
        simp at hj
      · obtain ⟨b, off, hA, _, hb, hc⟩ := hcell hp
        injection hA with hA
        subst hA
        rw [Go.WideShapes.add_plain]
        exact (BA.out.cell (p := ⟨b, off + j, none⟩) hb).trans (hc j u hj))
    clear hcell
    go_enter Tryd.func27, Tryd.ntmps27
    go_wp2_with (first | (at_builtin; refine wpList_append_own_at _ rfl _ _ 33 rfl w.heap.size u4T i0 _ 1 4 Tryd.underlying33 hi hz0 hz1 hz2 rfl (by decide) (.slice (some ⟨w.heap.size, 0, none⟩) 0 0) 0 [] rfl OE.out a l.length c (l.flatMap wdC) rfl (flat_len (f := wdC) (k := 1) (fun _ => rfl) l) NC.out (one_flat wd_one _) (by have := HN.out; unfold maxLen; omega) (by have := HN.out; omega) hzz ?_; intro v3 w3 ho3 hg3 hnl hat; have B3 := Lib.hid (BA.out.grown hg3 hzz (fun b hb => (World.ownsRow.lt OE.out b hb).1)); have O3 := Lib.hid ho3; clear ho3 hg3 hat hnl))
    go_ret
    exact ⟨_, rfl, B3.out, by have := O3.out; rwa [Nat.zero_add, List.nil_append] at this⟩

set_option maxHeartbeats 16000000 in
set_option maxRecDepth 100000 in
theorem fclone_any (v : Value) (B : Nat) (l : List Fxp) (w : World) (h : LstV fxC B w v l) (hn : l.length * 32 ≤ 140737488355328) :
    Calls Tryd.prog 28 #[v] w fun e w' => ∃ v', e = .returned v' ∧ Below w.heap.size w w' ∧ w'.ownsRow w.heap.size fxT 4 v' l.length (l.flatMap fxC) := by
  obtain ⟨i0, hi, hz0, hz1, hz2⟩ := info_parts fxInfo
  obtain ⟨A, c, rfl, hcell⟩ := h
  have HN := Lib.hid hn
  clear hn
  cases A with
  | none =>
    have hl : l = [] := Classical.byContradiction fun h => by
      obtain ⟨b, off, e, _⟩ := hcell h
      cases e
    subst hl
    have hnil : ∀ W : World, (binOp .eql 27 (.slice none 0 c) (.slice none 0 0)).run Tryd.prog W = .ok (.bool true) W := fun W => by
      simp only [binOp]
      simp [run_equal_slice_nil W 27 fxT none 0 c Tryd.underlying27]
    clear hcell
    go_enter Tryd.func28, Tryd.ntmps28
    go_wp2_with fail
    go_ret
    exact ⟨_, rfl, Below.refl _ _, row_nil _ _ _ _⟩
  | some a =>
    have hnil : ∀ W : World, (binOp .eql 27 (.slice (some a) l.length c) (.slice none 0 0)).run Tryd.prog W = .ok (.bool false) W := fun W => by
      simp only [binOp]
      simp [run_equal_slice_nil W 27 fxT (some a) l.length c Tryd.underlying27]
    have BA := Lib.hid ((Below.refl w.heap.size w).alloc (Nat.le_refl _) (.cells #[] fxT))
    have OE := Lib.hid (row_built (e := fxT) (sz := 4) w #[] 0 0 rfl (Nat.le_refl _) (Nat.zero_le _) w.heap.size (Nat.le_refl _) _ rfl [] rfl)
    have hzz : w.heap.size ≤ (w.alloc (.cells #[] fxT)).heap.size := BA.out.size
    have NC := Lib.hid (show ∀ (j : Nat) u, (l.flatMap fxC)[j]? = some u → (w.alloc (.cells #[] fxT)).cell? (a.add j) = some u from fun j u hj => by
      by_cases hp : l = []
      · subst hp
        simp at hj
      · obtain ⟨b, off, hA, _, hb, hc⟩ := hcell hp
        injection hA with hA
        subst hA
        rw [Go.WideShapes.add_plain]
        exact (BA.out.cell (p := ⟨b, off + j, none⟩) hb).trans (hc j u hj))
    clear hcell
    go_enter Tryd.func28, Tryd.ntmps28
    go_wp2_with (first | (at_builtin; refine wpList_append_own_at _ rfl _ _ 27 rfl w.heap.size fxT i0 _ 4 32 Tryd.underlying27 hi hz0 hz1 hz2 rfl (by decide) (.slice (some ⟨w.heap.size, 0, none⟩) 0 0) 0 [] rfl OE.out a l.length c (l.flatMap fxC) rfl (flat_len (f := fxC) (k := 4) (fun _ => rfl) l) NC.out (one_flat fx_one _) (by have := HN.out; unfold maxLen; omega) (by have := HN.out; omega) hzz ?_; intro v3 w3 ho3 hg3 hnl hat; have B3 := Lib.hid (BA.out.grown hg3 hzz (fun b hb => (World.ownsRow.lt OE.out b hb).1)); have O3 := Lib.hid ho3; clear ho3 hg3 hat hnl))
    go_ret
    exact ⟨_, rfl, B3.out, by have := O3.out; rwa [Nat.zero_add, List.nil_append] at this⟩

theorem row_beside17 {w w' : World} {B' g : Nat} {h : Option Nat} {v : Value} {n : Nat} {xs : List Value} (hv : w.ownsRow B' sgT 2 v n xs) (k : KeptS (BdS g h) w w') (ha : ∀ b, v.ownBlock = some b → b ≠ g ∧ h ≠ some b) : w'.ownsRow B' sgT 2 v n xs :=
  k.row hv (fun b hb hS => by
    rcases hS with e | e
    · exact (ha b hb).1 e
    · exact (ha b hb).2 e)

set_option maxHeartbeats 16000000 in
set_option maxRecDepth 100000 in
theorem segments_any (B g : Nat) (T : Nat → Prop) (N M : Nat) (m : Em) (w : World) (h : CdM w B g T N M m) (hN : N ≤ 100000) (hM : M ≤ 20000) :
    Calls Tryd.prog 29 #[.pointer (some ⟨g, 0, none⟩)] w fun e w' => ∃ v, ∃ l : List Sg, e = .returned v ∧ Below w.heap.size w w' ∧ w'.ownsRow w.heap.size sgT 2 v l.length (l.flatMap sgCells) := by
  obtain ⟨vw, vf, vp, vg, vm, ps, gs, ms, h⟩ := h
  have H := Lib.hid h
  have HN := Lib.hid hN
  have HM := Lib.hid hM
  have hb0 := (Below.refl w.heap.size w).alloc (Nat.le_refl _) (.cells #[.slice none 0 0] bdT)
  have B1 := Lib.hid hb0
  have D1 := Lib.hid (bd_new w w.heap.size w.heap.size rfl (Nat.le_refl _))
  have LS := Lib.hid (list7_any vw vf (.int .i64 m.err) (.int .i64 m.dep) (.int .i64 m.most) vp vg B g vm.ownBlock ms (w.alloc (.cells #[.slice none 0 0] bdT)) (h.below hb0).b7 (by have := h.ml; omega))
  have hml := Lib.hid h.ml
  clear h hN hM hb0
  go_enter Tryd.func29, Tryd.ntmps29
  go_wp2_with fail
  generalize w.alloc (.cells #[.slice none 0 0] bdT) = W at *
  refine LS.out.mono ?_
  rintro e w1 ⟨vl, rfl, hb, ho⟩
  obtain ⟨Al, cl, rfl⟩ := row_form ho
  have B2 := Lib.hid (B1.out.trans (hb.mono B1.out.size))
  have D2 := Lib.hid (D1.out.below hb)
  have V2 := Lib.hid (row_more ho B1.out.size)
  have A2 := Lib.hid (show ∀ b, (Value.slice Al ms.length cl).ownBlock = some b → b ≠ w.heap.size ∧ (none : Option Nat) ≠ some b from fun b hb => ⟨fun e => by
    have h1 := (row_block ho hb).1
    have h2 := D1.out.lt
    omega, fun e => by cases e⟩)
  clear hb ho LS D1
  generalize hl : ms = l at V2 A2 hml
  have hl5 : l.length ≤ 20000 := Nat.le_trans hml.out HM.out
  go_wp2_with fail
  go_loopw [12] (fun i wr => ∃ (t : Nat) (hh : Option Nat) (lm : List Sg), t ≤ l.length ∧ i = .int .i64 t ∧ Below w.heap.size w wr ∧ BdAt wr w.heap.size w.heap.size hh lm ∧ lm.length ≤ t ∧ wr.ownsRow w.heap.size sgT 2 (.slice Al l.length cl) l.length (l.flatMap sgCells) ∧ ∀ b, (Value.slice Al l.length cl).ownBlock = some b → b ≠ w.heap.size ∧ hh ≠ some b) (fun i _ => l.length - (intOf i).toNat)
  case atStart => exact ⟨0, none, [], Nat.zero_le _, rfl, B2.out, D2.out, Nat.le_refl _, V2.out, A2.out⟩
  case round =>
    obtain ⟨t, hh, lm, ht, rfl, hb, hd, hlm, hv, ha⟩ := hrel
    have HB := Lib.hid hb
    have HD := Lib.hid hd
    have HV := Lib.hid hv
    have HA := Lib.hid ha
    have LM := Lib.hid (show lm.length ≤ 20000 by omega)
    have LT := Lib.hid hlm
    clear hb hd hv ha hlm B2 D2 V2 A2
    by_cases hlt : t < l.length
    · have hI : (t : Int) < l.length := by omega
      obtain ⟨b1, o1, rfl, hbl, x0, x1⟩ := sg_at (LstV.own (k := 2) (fun _ => rfl) (by decide) zSg HV.out) hlt
      generalize l.getD t zSg = s at *
      obtain ⟨st, pd⟩ := s
      simp only at x0 x1
      have BA := Lib.hid ((Below.refl wr.heap.size wr).alloc (Nat.le_refl _) (.cells #[.int .i64 st, .int .i64 pd] sgT))
      have XS := Lib.hid (Whole.made wr sgT #[.int .i64 st, .int .i64 pd] _ rfl)
      have B3 := Lib.hid (HB.out.trans (BA.out.mono HB.out.size))
      have D3 := Lib.hid (HD.out.below BA.out)
      have V3 := Lib.hid (row_below HV.out BA.out)
      have H3 := Lib.hid (H.out.below B3.out)
      have s0 : (wr.alloc (.cells #[.int .i64 st, .int .i64 pd] sgT)).cell? ⟨wr.heap.size, 0, none⟩ = some (.int .i64 st) := XS.out.cell 0
      have s1 : (wr.alloc (.cells #[.int .i64 st, .int .i64 pd] sgT)).cell? ⟨wr.heap.size, 1, none⟩ = some (.int .i64 pd) := XS.out.cell 1
      have IP := Lib.hid (ispad_any pd B g T N M m vw vf vp vg vm ps gs ms (wr.alloc (.cells #[.int .i64 st, .int .i64 pd] sgT)) H3.out)
      by_cases hp : 0 ≤ pd ∧ pd < ps.length
      · rw [decide_eq_true hp] at IP
        obtain ⟨k, rfl⟩ := Int.eq_ofNat_of_zero_le hp.1
        have hk : k < ps.length := by omega
        have hkI : (k : Int) < ps.length := hp.2
        have hps : ps.length ≤ 100000 := Nat.le_trans H.out.np HN.out
        obtain ⟨Ap, cp, hvp⟩ := row_form H3.out.rp
        subst hvp
        obtain ⟨hcap, gp, rfl, _, _, hcell⟩ := row_cell (f := itC) (fun _ => rfl) (0 : Int) H3.out.rp rfl hk
        have p0 : (wr.alloc (.cells #[.int .i64 st, .int .i64 k] sgT)).cell? ⟨gp, k, none⟩ = some (.int .i64 (ps.getD k 0)) := by have := (hcell 0 (by decide)).1; rwa [Nat.mul_one, Nat.add_zero] at this
        have p5 : (wr.alloc (.cells #[.int .i64 st, .int .i64 k] sgT)).cell? ⟨g, 5, none⟩ = some (.slice (some ⟨gp, 0, none⟩) ps.length cp) := H3.out.whole.cell 5
        generalize ps.getD k 0 = pl at *
        have hcp := hcap
        clear hcell hp H3 hcap
        go_wp2_with fail
        generalize wr.alloc (.cells #[.int .i64 st, .int .i64 k] sgT) = y2 at *
        refine IP.out.mono ?_
        rintro e y2' ⟨rfl, rfl⟩
        clear IP
        go_wp2_with fail
        go_quiet (fail)
        rename_i nq
        have BQ := Lib.hid (below_drawn (Below.refl y2.heap.size y2) nq)
        have s2 := XS.out.drawn nq
        generalize hy3 : y2.drewN nq = y3 at *
        have B3 := Lib.hid (B3.out.trans (BQ.out.mono B3.out.size))
        have D3 := Lib.hid (D3.out.below BQ.out)
        have V3 := Lib.hid (row_below V3.out BQ.out)
        have s0 : y3.cell? ⟨wr.heap.size, 0, none⟩ = some (.int .i64 st) := s2.cell 0
        clear s2 hy3 p0 p5
        have MK := Lib.hid (mark_any st (pl) w.heap.size w.heap.size hh lm y3 D3.out B3.out.size (by have := LM.out; omega))
        go_wp2_with fail
        refine MK.out.mono ?_
        rintro e y4 ⟨rfl, hp⟩
        have B4 := Lib.hid (B3.out.trans ((hp.below D3.out B3.out.size).mono (Nat.le_refl _)))
        have ML := Lib.hid (mark_len lm st (pl))
        obtain ⟨h4, hd4, hk4, hm4⟩ := hp
        have D4 := Lib.hid hd4
        have V4 := Lib.hid (row_beside17 V3.out hk4 HA.out)
        have A4 := Lib.hid (show ∀ b, (Value.slice (some ⟨b1, o1, none⟩) l.length cl).ownBlock = some b → b ≠ w.heap.size ∧ h4 ≠ some b from fun b hb => ⟨(HA.out b hb).1, fun e => by
          rcases hm4 with h | ⟨b', h, hlt⟩
          · exact (HA.out b hb).2 (h.symm.trans e)
          · rw [h] at e
            injection e with e
            subst e
            have := (row_block V3.out hb).2.1
            omega⟩)
        clear hd4 hk4 hm4 MK B3 D3 V3 HA
        go_wp2_with fail
        go_roundw
        case rel => exact ⟨t + 1, h4, _, by omega, by go_num, B4.out, D4.out, by have := ML.out; have := LT.out; omega, V4.out, A4.out⟩
        case measure => simp [intOf]; omega
      · rw [decide_eq_false hp] at IP
        clear hp H3
        go_wp2_with fail
        generalize wr.alloc (.cells #[.int .i64 st, .int .i64 pd] sgT) = y3 at *
        refine IP.out.mono ?_
        rintro e y2' ⟨rfl, rfl⟩
        clear IP
        have MK := Lib.hid (mark_any st (-1) w.heap.size w.heap.size hh lm y3 D3.out B3.out.size (by have := LM.out; omega))
        go_wp2_with fail
        refine MK.out.mono ?_
        rintro e y4 ⟨rfl, hp⟩
        have B4 := Lib.hid (B3.out.trans ((hp.below D3.out B3.out.size).mono (Nat.le_refl _)))
        have ML := Lib.hid (mark_len lm st (-1))
        obtain ⟨h4, hd4, hk4, hm4⟩ := hp
        have D4 := Lib.hid hd4
        have V4 := Lib.hid (row_beside17 V3.out hk4 HA.out)
        have A4 := Lib.hid (show ∀ b, (Value.slice (some ⟨b1, o1, none⟩) l.length cl).ownBlock = some b → b ≠ w.heap.size ∧ h4 ≠ some b from fun b hb => ⟨(HA.out b hb).1, fun e => by
          rcases hm4 with h | ⟨b', h, hlt⟩
          · exact (HA.out b hb).2 (h.symm.trans e)
          · rw [h] at e
            injection e with e
            subst e
            have := (row_block V3.out hb).2.1
            omega⟩)
        clear hd4 hk4 hm4 MK B3 D3 V3 HA
        go_wp2_with fail
        go_roundw
        case rel => exact ⟨t + 1, h4, _, by omega, by go_num, B4.out, D4.out, by have := ML.out; have := LT.out; omega, V4.out, A4.out⟩
        case measure => simp [intOf]; omega
    · have hI : ¬ (t : Int) < l.length := by omega
      have LE := Lib.hid (list_any w.heap.size w.heap.size hh lm wr HD.out (by have := LM.out; omega))
      go_wp2_with fail
      refine LE.out.mono ?_
      rintro e y8 ⟨v8, rfl, hb8, ho8⟩
      have B8 := Lib.hid (HB.out.trans (hb8.mono HB.out.size))
      have O8 := Lib.hid (row_more ho8 HB.out.size)
      obtain ⟨A8, c8, hv8⟩ := row_form ho8
      subst hv8
      clear hb8 ho8 LE
      go_wp2_with fail
      go_ret
      exact ⟨_, lm, rfl, B8.out, O8.out⟩

abbrev resT : TypeId := 36

theorem setRow_kept17 {S : Nat → Prop} {w : World} {g : Nat} {t : TypeId} {cs us : Array Value} (h : Whole w g t cs) (hS : S g) : KeptS S w (w.setRow g us) :=
  KeptS.grown (h.setRow us).2 (fun b hb => by injection hb with hb; subst hb; exact hS)

theorem setRow_far17 {w : World} {g k : Nat} {t t' : TypeId} {cs us cs' : Array Value} (h : Whole w g t cs) (hk : Whole w k t' cs') (hne : k ≠ g) : Whole (w.setRow g us) k t' cs' :=
  ((h.setRow us).2.block _ hk.lt (fun e => by injection e with e; exact hne e)).trans hk

set_option maxHeartbeats 16000000 in
set_option maxRecDepth 100000 in
theorem finish_bad (B g : Nat) (T : Nat → Prop) (N M : Nat) (m : Em) (w : World) (h : CdM w B g T N M m) (hN : N ≤ 100000) (he : m.err ≠ 0) :
    Calls Tryd.prog 9 #[.pointer (some ⟨g, 0, none⟩)] w fun e w' => e = .returned (.tuple #[.agg #[.slice none 0 0, .slice none 0 0, .slice none 0 0], .int .i64 m.err]) ∧ Below w.heap.size w w' := by
  obtain ⟨vw, vf, vp, vg, vm, ps, gs, ms, h⟩ := h
  have hb0 := (Below.refl w.heap.size w).alloc (Nat.le_refl _) (.cells #[.slice none 0 0, .slice none 0 0, .slice none 0 0] resT)
  have B1 := Lib.hid hb0
  have X1 := Lib.hid (Whole.made w resT #[.slice none 0 0, .slice none 0 0, .slice none 0 0] _ rfl)
  have c2 : (w.alloc (.cells #[.slice none 0 0, .slice none 0 0, .slice none 0 0] resT)).cell? ⟨g, 2, none⟩ = some (.int .i64 m.err) := (h.below hb0).whole.cell 2
  have d : (m.err != 0) = true := by simpa using he
  have x0 : (w.alloc (.cells #[.slice none 0 0, .slice none 0 0, .slice none 0 0] resT)).cell? ⟨w.heap.size, 0, none⟩ = some (.slice none 0 0) := X1.out.cell 0
  have x1 : (w.alloc (.cells #[.slice none 0 0, .slice none 0 0, .slice none 0 0] resT)).cell? ⟨w.heap.size, 1, none⟩ = some (.slice none 0 0) := X1.out.cell 1
  have x2 : (w.alloc (.cells #[.slice none 0 0, .slice none 0 0, .slice none 0 0] resT)).cell? ⟨w.heap.size, 2, none⟩ = some (.slice none 0 0) := X1.out.cell 2
  clear h hN he hb0
  go_enter Tryd.func9, Tryd.ntmps9
  go_wp2_with fail
  go_region
  go_wp2_with fail
  refine bodyPost_ret (v := .tuple #[.agg #[.slice none 0 0, .slice none 0 0, .slice none 0 0], .int .i64 m.err]) ?_ rfl ⟨rfl, ?_⟩
  · simp [results, Tryd.results9, go_sem]
  · exact B1.out.drew

set_option maxHeartbeats 16000000 in
set_option maxRecDepth 100000 in
theorem finish_ok (B g : Nat) (T : Nat → Prop) (N M : Nat) (m : Em) (w : World) (h : CdM w B g T N M m) (hN : N ≤ 100000) (hM : M ≤ 20000) (he : m.err = 0) :
    Calls Tryd.prog 9 #[.pointer (some ⟨g, 0, none⟩)] w fun e w' => ∃ A1 c1 A2 c2 A3 n3 c3, e = .returned (.tuple #[.agg #[.slice A1 m.L.length c1, .slice A2 m.fx.length c2, .slice A3 n3 c3], .int .i64 0]) ∧ Below w.heap.size w w' ∧ w'.ownsRow w.heap.size u4T 1 (.slice A1 m.L.length c1) m.L.length (m.L.flatMap wdC) ∧ w'.ownsRow w.heap.size fxT 4 (.slice A2 m.fx.length c2) m.fx.length (m.fx.flatMap fxC) := by
  obtain ⟨vw, vf, vp, vg, vm, ps, gs, ms, h⟩ := h
  have hb0 := (Below.refl w.heap.size w).alloc (Nat.le_refl _) (.cells #[.slice none 0 0, .slice none 0 0, .slice none 0 0] resT)
  have BW := Lib.hid hb0
  have X0 := Whole.made w resT #[.slice none 0 0, .slice none 0 0, .slice none 0 0] _ rfl
  have c2 : (w.alloc (.cells #[.slice none 0 0, .slice none 0 0, .slice none 0 0] resT)).cell? ⟨g, 2, none⟩ = some (.int .i64 m.err) := (h.below hb0).whole.cell 2
  have d : (m.err != 0) = false := by simpa using he
  have H := Lib.hid h
  have HN := Lib.hid hN
  have HM := Lib.hid hM
  have gw := h.whole.lt
  have BV := Lib.hid (show Below w.heap.size w (w.alloc (.cells #[.slice none 0 0, .slice none 0 0, .slice none 0 0] resT)).drew from hb0.drew)
  have D0 := Lib.hid (Below.refl (w.alloc (.cells #[.slice none 0 0, .slice none 0 0, .slice none 0 0] resT)).drew.heap.size (w.alloc (.cells #[.slice none 0 0, .slice none 0 0, .slice none 0 0] resT)).drew)
  have X1 := Lib.hid (show Whole (w.alloc (.cells #[.slice none 0 0, .slice none 0 0, .slice none 0 0] resT)).drew w.heap.size resT #[.slice none 0 0, .slice none 0 0, .slice none 0 0] from X0)
  have SH := Lib.hid (fun y (hb : Below (w.alloc (.cells #[.slice none 0 0, .slice none 0 0, .slice none 0 0] resT)).drew.heap.size (w.alloc (.cells #[.slice none 0 0, .slice none 0 0, .slice none 0 0] resT)).drew y) => (show y.cell? ⟨g, 0, none⟩ = some vw ∧ y.cell? ⟨g, 1, none⟩ = some vf from by
    have h5 := (h.below (BV.out.trans (hb.mono BV.out.size))).whole
    exact ⟨h5.cell 0, h5.cell 1⟩))
  have L0 : (w.alloc (.cells #[.slice none 0 0, .slice none 0 0, .slice none 0 0] resT)).drew.cell? ⟨g, 0, none⟩ = some vw ∧ (w.alloc (.cells #[.slice none 0 0, .slice none 0 0, .slice none 0 0] resT)).drew.cell? ⟨g, 1, none⟩ = some vf := SH.out _ D0.out
  have SK := Lib.hid (show ∀ y : World, (y.cell? ⟨g, 0, none⟩ = some vw ∧ y.cell? ⟨g, 1, none⟩ = some vf) → ∀ {us : Array Value}, Whole y w.heap.size resT #[.slice none 0 0, .slice none 0 0, .slice none 0 0] → ((y.setRow w.heap.size us).cell? ⟨g, 0, none⟩ = some vw ∧ (y.setRow w.heap.size us).cell? ⟨g, 1, none⟩ = some vf) from fun y hy us hw => by
    have k := setRow_kept17 (S := fun b => b = w.heap.size) (us := us) hw rfl
    exact ⟨k.cell hy.1 (fun e => by omega), k.cell hy.2 (fun e => by omega)⟩)
  have CW := Lib.hid (wclone_any vw (w.alloc (.cells #[.slice none 0 0, .slice none 0 0, .slice none 0 0] resT)).drew.heap.size m.L (w.alloc (.cells #[.slice none 0 0, .slice none 0 0, .slice none 0 0] resT)).drew (LstV.own (k := 1) (fun _ => rfl) (by decide) zIns (h.below BV.out).rw) (by have := h.ok.len; omega))
  have BS := Lib.hid (show w.heap.size < (w.alloc (.cells #[.slice none 0 0, .slice none 0 0, .slice none 0 0] resT)).drew.heap.size from X1.out.lt)
  clear h hN hM he hb0 X0
  go_enter Tryd.func9, Tryd.ntmps9
  go_wp2_with fail
  refine wp_region_noPanic ?_
  refine wp_region_held_drew (S := fun y => y.cell? ⟨g, 0, none⟩ = some vw ∧ y.cell? ⟨g, 1, none⟩ = some vf) (by kernel_rfl) L0 (fun hHeld => ?_)
  clear L0
  refine wpAnyH_take (i := 0) (oi := _) (v := .pointer (some ⟨g, 0, none⟩)) rfl (by kernel_rfl) (by kernel_rfl) (by kernel_rfl) (fun _ _ _ h => h) (Or.inl ⟨by rfl, fun w hSw => by (try dsimp only at hSw); go_simp⟩) (by assumption) ?_
  try simp only [Act.put, List.getElem_toArray, List.getElem_cons_succ, List.getElem_cons_zero, List.setIfInBounds_toArray, List.set_cons_zero, List.set_cons_succ]
  refine wpAnyH_take (i := 1) (oi := _) (v := .pointer (some ⟨g, 0, none⟩)) rfl (by kernel_rfl) (by kernel_rfl) (by kernel_rfl) (fun _ _ _ h => h) (Or.inl ⟨by rfl, fun w hSw => by (try dsimp only at hSw); go_simp⟩) (by assumption) ?_
  try simp only [Act.put, List.getElem_toArray, List.getElem_cons_succ, List.getElem_cons_zero, List.setIfInBounds_toArray, List.set_cons_zero, List.set_cons_succ]
  refine wpAnyH_take (i := 2) (oi := _) (v := .pointer (some ⟨g, 0, none⟩)) rfl (by kernel_rfl) (by kernel_rfl) (by kernel_rfl) (fun _ _ _ h => h) (Or.inl ⟨by rfl, fun w hSw => by (try dsimp only at hSw); go_simp⟩) (by assumption) ?_
  try simp only [Act.put, List.getElem_toArray, List.getElem_cons_succ, List.getElem_cons_zero, List.setIfInBounds_toArray, List.set_cons_zero, List.set_cons_succ]
  refine wpAnyH_take (i := 3) (oi := _) (v := vw) rfl (by kernel_rfl) (by kernel_rfl) (by kernel_rfl) (fun _ _ _ h => h) (Or.inl ⟨by rfl, fun w hSw => by (try dsimp only at hSw); go_simp⟩) (by assumption) ?_
  try simp only [Act.put, List.getElem_toArray, List.getElem_cons_succ, List.getElem_cons_zero, List.setIfInBounds_toArray, List.set_cons_zero, List.set_cons_succ]
  refine wpAnyH_take (i := 5) (oi := _) (v := .pointer (some ⟨g, 0, none⟩)) rfl (by kernel_rfl) (by kernel_rfl) (by kernel_rfl) (fun _ _ _ h => h) (Or.inl ⟨by rfl, fun w hSw => by (try dsimp only at hSw); go_simp⟩) (by assumption) ?_
  try simp only [Act.put, List.getElem_toArray, List.getElem_cons_succ, List.getElem_cons_zero, List.setIfInBounds_toArray, List.set_cons_zero, List.set_cons_succ]
  refine wpAnyH_take (i := 6) (oi := _) (v := .pointer (some ⟨g, 0, none⟩)) rfl (by kernel_rfl) (by kernel_rfl) (by kernel_rfl) (fun _ _ _ h => h) (Or.inl ⟨by rfl, fun w hSw => by (try dsimp only at hSw); go_simp⟩) (by assumption) ?_
  try simp only [Act.put, List.getElem_toArray, List.getElem_cons_succ, List.getElem_cons_zero, List.setIfInBounds_toArray, List.set_cons_zero, List.set_cons_succ]
  refine wpAnyH_take (i := 7) (oi := _) (v := .pointer (some ⟨g, 1, none⟩)) rfl (by kernel_rfl) (by kernel_rfl) (by kernel_rfl) (fun _ _ _ h => h) (Or.inl ⟨by rfl, fun w hSw => by (try dsimp only at hSw); go_simp⟩) (by assumption) ?_
  try simp only [Act.put, List.getElem_toArray, List.getElem_cons_succ, List.getElem_cons_zero, List.setIfInBounds_toArray, List.set_cons_zero, List.set_cons_succ]
  refine wpAnyH_take (i := 8) (oi := _) (v := vf) rfl (by kernel_rfl) (by kernel_rfl) (by kernel_rfl) (fun _ _ _ h => h) (Or.inl ⟨by rfl, fun w hSw => by (try dsimp only at hSw); go_simp⟩) (by assumption) ?_
  try simp only [Act.put, List.getElem_toArray, List.getElem_cons_succ, List.getElem_cons_zero, List.setIfInBounds_toArray, List.set_cons_zero, List.set_cons_succ]
  refine wpAnyH_take (i := 10) (oi := _) (v := .pointer (some ⟨g, 0, none⟩)) rfl (by kernel_rfl) (by kernel_rfl) (by kernel_rfl) (fun _ _ _ h => h) (Or.inl ⟨by rfl, fun w hSw => by (try dsimp only at hSw); go_simp⟩) (by assumption) ?_
  try simp only [Act.put, List.getElem_toArray, List.getElem_cons_succ, List.getElem_cons_zero, List.setIfInBounds_toArray, List.set_cons_zero, List.set_cons_succ]
  refine wpAnyH_ready (rs := [4]) (by kernel_rfl) (by simp) (AllReadyH.cons (o := _) rfl (fun K hK => ?_) AllReadyH.nil)
  go_simp
  go_at_call 27
  refine (CW.out).mono ?_
  rintro e y1 ⟨v1, rfl, hb1, ho1⟩
  have D1 := Lib.hid (D0.out.trans (hb1.mono D0.out.size))
  have O1 := Lib.hid (row_more ho1 D0.out.size)
  have S1 := SH.out y1 D1.out
  have CF := Lib.hid (fclone_any vf y1.heap.size m.fx y1 (LstV.own (k := 4) (fun _ => rfl) (by decide) zFxp (H.out.below (BV.out.trans (D1.out.mono BV.out.size))).rf) (by have := H.out.nf; have := HN.out; omega))
  clear hb1 ho1 CW
  refine hK.out _ _ S1 (fun hHeld => ?_)
  clear hK K
  try simp only [Act.put, List.getElem_toArray, List.getElem_cons_succ, List.getElem_cons_zero, List.setIfInBounds_toArray, List.set_cons_zero, List.set_cons_succ]
  refine wpAnyH_ready (rs := [9]) (by kernel_rfl) (by simp) (AllReadyH.cons (o := _) rfl (fun K hK => ?_) AllReadyH.nil)
  go_simp
  go_at_call 28
  refine (CF.out).mono ?_
  rintro e y2 ⟨v2, rfl, hb2, ho2⟩
  have D2 := Lib.hid (D1.out.trans (hb2.mono D1.out.size))
  have P1 := Lib.hid (row_below O1.out hb2)
  have O2 := Lib.hid (row_more ho2 D1.out.size)
  have S2 := SH.out y2 D2.out
  have CS := Lib.hid (segments_any B g T N M m y2 ⟨_, _, _, _, _, _, _, _, H.out.below (BV.out.trans (D2.out.mono BV.out.size))⟩ HN.out HM.out)
  clear hb2 ho2 CF O1 S1
  refine hK.out _ _ S2 (fun hHeld => ?_)
  clear hK K
  try simp only [Act.put, List.getElem_toArray, List.getElem_cons_succ, List.getElem_cons_zero, List.setIfInBounds_toArray, List.set_cons_zero, List.set_cons_succ]
  refine wpAnyH_ready (rs := [11]) (by kernel_rfl) (by simp) (AllReadyH.cons (o := _) rfl (fun K hK => ?_) AllReadyH.nil)
  go_simp
  go_at_call 29
  refine (CS.out).mono ?_
  rintro e y3 ⟨v3, l3, rfl, hb3, ho3⟩
  have D3 := Lib.hid (D2.out.trans (hb3.mono D2.out.size))
  have P1 := Lib.hid (row_below P1.out hb3)
  have P2 := Lib.hid (row_below O2.out hb3)
  have S3 := SH.out y3 D3.out
  have Z3 := Lib.hid (X1.out.below D3.out X1.out.lt)
  obtain ⟨A1, c1, rfl⟩ := row_form P1.out
  obtain ⟨A2, c2, rfl⟩ := row_form P2.out
  obtain ⟨A3, c3, rfl⟩ := row_form ho3
  have SZ : (Tryd.prog.info? resT).map (·.size) = some 3 := by kernel_rfl
  clear hb3 CS O2 S2 ho3
  refine hK.out _ _ S3 (fun hHeld => ?_)
  clear hK K
  try simp only [Act.put, List.getElem_toArray, List.getElem_cons_succ, List.getElem_cons_zero, List.setIfInBounds_toArray, List.set_cons_zero, List.set_cons_succ]
  refine wpAnyH_take (i := 12) (oi := _) (v := .agg #[.slice A1 m.L.length c1, .slice A2 m.fx.length c2, .slice A3 l3.length c3]) rfl (by kernel_rfl) (by kernel_rfl) (by kernel_rfl) (fun _ _ _ h => h) (Or.inl ⟨by rfl, fun w hSw => by (try dsimp only at hSw); go_simp⟩) (by assumption) ?_
  try simp only [Act.put, List.getElem_toArray, List.getElem_cons_succ, List.getElem_cons_zero, List.setIfInBounds_toArray, List.set_cons_zero, List.set_cons_succ]
  refine wpAnyH_ready (rs := [13]) (by kernel_rfl) (by simp) (AllReadyH.cons (o := _) rfl (fun K hK => ?_) AllReadyH.nil)
  refine wp_store_row resT (.tmp 2) (.tmp 26) rfl (w.heap.size) #[.slice A1 m.L.length c1, .slice A2 m.fx.length c2, .slice A3 l3.length c3] rfl rfl resT #[.slice none 0 0, .slice none 0 0, .slice none 0 0] Z3.out SZ rfl (by simp [Value.oneCell']) ?_
  have SX := Lib.hid (Z3.out.setRow #[.slice A1 m.L.length c1, .slice A2 m.fx.length c2, .slice A3 l3.length c3]).1
  have SB := Lib.hid (show Below w.heap.size w (y3.setRow w.heap.size #[.slice A1 m.L.length c1, .slice A2 m.fx.length c2, .slice A3 l3.length c3]) from KeptS.below (BV.out.trans (D3.out.mono BV.out.size)) (setRow_kept17 (S := fun b => b = w.heap.size) (us := #[.slice A1 m.L.length c1, .slice A2 m.fx.length c2, .slice A3 l3.length c3]) Z3.out rfl) (Nat.le_trans BV.out.size D3.out.size) (fun b h => h ▸ Nat.le_refl _))
  have Q1 := Lib.hid (show (y3.setRow w.heap.size #[.slice A1 m.L.length c1, .slice A2 m.fx.length c2, .slice A3 l3.length c3]).ownsRow w.heap.size u4T 1 (.slice A1 m.L.length c1) m.L.length (m.L.flatMap wdC) from (setRow_kept17 (S := fun b => b = w.heap.size) (us := #[.slice A1 m.L.length c1, .slice A2 m.fx.length c2, .slice A3 l3.length c3]) Z3.out rfl).row (row_more P1.out (Nat.le_of_lt BS.out)) (fun b hb e => by have := (row_block P1.out hb).1; have := BS.out; omega))
  have Q2 := Lib.hid (show (y3.setRow w.heap.size #[.slice A1 m.L.length c1, .slice A2 m.fx.length c2, .slice A3 l3.length c3]).ownsRow w.heap.size fxT 4 (.slice A2 m.fx.length c2) m.fx.length (m.fx.flatMap fxC) from (setRow_kept17 (S := fun b => b = w.heap.size) (us := #[.slice A1 m.L.length c1, .slice A2 m.fx.length c2, .slice A3 l3.length c3]) Z3.out rfl).row (row_more P2.out (Nat.le_of_lt BS.out)) (fun b hb e => by have := (row_block P2.out hb).1; have := BS.out; omega))
  have S4 := SK.out _ S3 (us := #[.slice A1 m.L.length c1, .slice A2 m.fx.length c2, .slice A3 l3.length c3]) Z3.out
  generalize y3.setRow w.heap.size #[.slice A1 m.L.length c1, .slice A2 m.fx.length c2, .slice A3 l3.length c3] = y4 at *
  refine hK.out _ _ S4 (fun hHeld => ?_)
  clear hK K
  try simp only [Act.put, List.getElem_toArray, List.getElem_cons_succ, List.getElem_cons_zero, List.setIfInBounds_toArray, List.set_cons_zero, List.set_cons_succ]
  refine wpAnyH_ready (rs := [14]) (by kernel_rfl) (by simp) (AllReadyH.cons (o := _) rfl (fun K hK => ?_) AllReadyH.nil)
  go_simp
  refine hK.out _ _ S4 (fun hHeld => ?_)
  clear hK K
  try simp only [Act.put, List.getElem_toArray, List.getElem_cons_succ, List.getElem_cons_zero, List.setIfInBounds_toArray, List.set_cons_zero, List.set_cons_succ]
  refine wpAnyH_done (by kernel_rfl) ?_ _
  refine NoPanic.normal ?_
  try simp only [Act.put, List.getElem_toArray, List.getElem_cons_succ, List.getElem_cons_zero, List.setIfInBounds_toArray, List.set_cons_zero, List.set_cons_succ]
  have x0 : y4.cell? ⟨w.heap.size, 0, none⟩ = some (.slice A1 m.L.length c1) := SX.out.cell 0
  have x1 : y4.cell? ⟨w.heap.size, 1, none⟩ = some (.slice A2 m.fx.length c2) := SX.out.cell 1
  have x2 : y4.cell? ⟨w.heap.size, 2, none⟩ = some (.slice A3 l3.length c3) := SX.out.cell 2
  go_wp2_with fail
  refine bodyPost_ret (v := .tuple #[.agg #[.slice A1 m.L.length c1, .slice A2 m.fx.length c2, .slice A3 l3.length c3], .int .i64 0]) ?_ rfl ⟨A1, c1, A2, c2, A3, l3.length, c3, rfl, ?_, ?_, ?_⟩
  · simp [results, Tryd.results9, go_sem, x0, x1, x2]
  · exact SB.out
  · exact Q1.out
  · exact Q2.out
end Go.Proofs.YtcijjmmckofckaaDoor
