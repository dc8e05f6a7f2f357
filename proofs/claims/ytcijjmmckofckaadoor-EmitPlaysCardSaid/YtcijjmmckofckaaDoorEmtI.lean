/- Emit: Pad, Set, Guard, Unguard, Hide, Show. -/
import Derived.Test.YtcijjmmckofckaaDoorEmtG
import Derived.StillTailTactics
namespace Go.Proofs.YtcijjmmckofckaaDoor
open Go.ChangeShapes Go.WideShapes Go.ChangeAt Go.RowKit
set_option linter.unusedVariables false
set_option linter.unusedSimpArgs false

/-- What Guard, or Pad, leaves: the lists by name. -/
def CdPL (w w' : World) (B g : Nat) (T : Nat → Prop) (N M : Nat) (m : Em) (a b : Nat) : Prop := ∃ T' vw vf vp vg vm ps gs ms, CdR w' B g T' N M m vw vf vp vg vm ps gs ms ∧ ps.length ≤ a ∧ gs.length ≤ b ∧ KeptS T w w' ∧ ∀ b, T' b → T b ∨ w.heap.size ≤ b

theorem CdPL.toPM {w w' : World} {B g : Nat} {T : Nat → Prop} {N M : Nat} {m : Em} {a b : Nat} (h : CdPL w w' B g T N M m a b) : CdPM w w' B g T N M m := by
  obtain ⟨T', _, _, _, _, _, _, _, _, h, _, _, k, t⟩ := h
  exact ⟨T', ⟨_, _, _, _, _, _, _, _, h⟩, k, t⟩

theorem islice_front (g2 m n c : Nat) (h : m ≤ c) (hn : 0 < c) : ∀ W, (Instr.slice 26 (.slice (some ⟨g2, 0, none⟩) n c) none (some (.int .i64 m)) none).run Tryd.prog W = .ok (.slice (some ⟨g2, 0, none⟩) m c) W := fun W => by
  have hs : Tryd.prog.underlying 26 = some (.slice (Tryd.prog.elem 26)) := by kernel_rfl
  rw [run_slice_h W 26 (some ⟨g2, 0, none⟩) n c hs .i64 m (by omega) (by omega)]
  have hz : (sizeOf (Tryd.prog.elem 26)).run Tryd.prog W = .ok 1 W := by simp [sizeOf, typeInfo, show Tryd.prog.info? (Tryd.prog.elem 26) = some Tryd.t3 from by kernel_rfl]; kernel_rfl
  rw [hz]
  simp [Result.andThen, sliced, Addr.add, show c ≠ 0 by omega]

/-- One of the places is another one. -/
theorem CdR.setPlace {w : World} {B g : Nat} {T : Nat → Prop} {N M : Nat} {m : Em} {vw vf vg vm : Value} {ps gs : List Int} {ms : List Sg} {g2 c t : Nat} (h : CdR w B g T N M m vw vf (.slice (some ⟨g2, 0, none⟩) ps.length c) vg vm ps gs ms) (ht : t < ps.length) (x : Int) :
    CdPM w (w.setCell ⟨g2, t, none⟩ (.int .i64 x)) B g T N M m := by
  have hr := row_set h.rp (j := t) (.int .i64 x)
  have e := flat_set itC 1 (fun _ => rfl) (0 : Int) x 0 (.int .i64 x) ps t ht (by decide) rfl
  rw [Nat.mul_one, Nat.add_zero] at e
  rw [e] at hr
  have hl : (ps.set t x).length = ps.length := List.length_set
  have k : KeptS (fun b => b = g2) w (w.setCell ⟨g2, t, none⟩ (.int .i64 x)) := KeptS.set rfl
  have hg2 : T g2 := h.tp g2 rfl
  have hne : g2 ≠ g := fun e => h.ne h.rp (by decide) (congrArg some e)
  have ap : ∀ {e : TypeId} {sz n : Nat} {u : Value} {xs : List Value}, w.ownsRow B e sz u n xs → e ≠ itT → (w.setCell ⟨g2, t, none⟩ (.int .i64 x)).ownsRow B e sz u n xs := fun hr2 h6 => k.row hr2 (fun b hb hs => apart_some (row_apart hr2 h.rp h6) b hb (congrArg some hs.symm))
  refine ⟨T, ⟨vw, vf, _, vg, vm, ps.set t x, gs, ms, ⟨k.whole h.whole (fun e => hne e.symm), ap h.rw (by decide), ap h.rf (by decide), by rw [hl]; exact hr, k.row h.rg (fun b hb hs => h.apart g2 rfl (hs ▸ hb)), ap h.rm (by decide), h.tg, h.tw, h.tf, h.tp, h.tq, h.tm, h.apart, fun b hb => ⟨(h.frm b hb).1, Nat.lt_of_lt_of_le (h.frm b hb).2 k.size⟩, h.shp.kept k (fun e => absurd (h.frm _ hg2).1 (by have := h.low; omega)), h.low, h.ok, h.ml, by rw [hl]; exact h.np, h.ng, h.nf, h.nm⟩⟩, KeptS.set hg2, fun b hb => .inl hb⟩

/-- No Guard counts any more: their row is left alone. -/
theorem CdR.nilG {w : World} {B g : Nat} {T : Nat → Prop} {N M : Nat} {m : Em} {vw vf vp vg vm : Value} {ps gs : List Int} {ms : List Sg} (h : CdR w B g T N M m vw vf vp vg vm ps gs ms) :
    CdR (w.setCell ⟨g, 6, none⟩ (.slice none 0 0)) B g (fun b => T b ∧ vg.ownBlock ≠ some b) N M m vw vf vp (.slice none 0 0) vm ps [] ms ∧ KeptS T w (w.setCell ⟨g, 6, none⟩ (.slice none 0 0)) ∧ FarR (w.setCell ⟨g, 6, none⟩ (.slice none 0 0)) (fun b => T b ∧ vg.ownBlock ≠ some b) itT 1 vg gs.length (gs.flatMap itC) := by
  have k : KeptS (fun b => b = g) w (w.setCell ⟨g, 6, none⟩ (.slice none 0 0)) := KeptS.set rfl
  have kr : ∀ {e : TypeId} {sz n : Nat} {u : Value} {xs : List Value}, w.ownsRow B e sz u n xs → e ≠ cdT → (w.setCell ⟨g, 6, none⟩ (.slice none 0 0)).ownsRow B e sz u n xs := fun hr he => k.row hr (fun b hb hs => h.ne hr he (hs ▸ hb))
  have nt : ∀ {e : TypeId} {sz n : Nat} {u : Value} {xs : List Value}, w.ownsRow B e sz u n xs → e ≠ itT → (∀ b, u.ownBlock = some b → T b) → ∀ b, u.ownBlock = some b → T b ∧ vg.ownBlock ≠ some b := fun hr he ht b hb => ⟨ht b hb, apart_some (row_apart hr h.rg he) b hb⟩
  refine ⟨⟨h.whole.store 6 (.slice none 0 0), kr h.rw (by decide), kr h.rf (by decide), kr h.rp (by decide), row_nil _ _ _ _, kr h.rm (by decide), ⟨h.tg, h.ne h.rg (by decide)⟩, nt h.rw (by decide) h.tw, nt h.rf (by decide) h.tf, fun b hb => ⟨h.tp b hb, h.apart b hb⟩, fun b hb => by simp [Value.ownBlock] at hb, nt h.rm (by decide) h.tm, fun b hb e => by simp [Value.ownBlock] at e, fun b hb => ⟨(h.frm b hb.1).1, Nat.lt_of_lt_of_le (h.frm b hb.1).2 k.size⟩, h.shp.kept k (fun e => absurd (h.frm _ h.tg).1 (by have := h.low; omega)), h.low, h.ok, h.ml, h.np, Nat.zero_le _, h.nf, h.nm⟩, KeptS.set h.tg, ⟨?_, fun b hb ht => ht.2 hb⟩⟩
  exact row_more (kr h.rg (by decide)) (Nat.zero_le _)

set_option maxHeartbeats 16000000 in
set_option maxRecDepth 100000 in
theorem pad_any (B g : Nat) (T : Nat → Prop) (N M : Nat) (m : Em) (w : World) (h : CdM w B g T N M m) (hN : N ≤ 100000) :
    Calls Tryd.prog 41 #[.pointer (some ⟨g, 0, none⟩)] w fun e w' => (∃ r : Int, e = .returned (.int .i64 r)) ∧ CdPM w w' B g T (N + 1) M m := by
  obtain ⟨i0, hi0, hz0, hz1, hz2⟩ := info_parts itInfo
  obtain ⟨vw, vf, vp, vg, vm, ps, gs, ms, h0⟩ := h
  have hpn := h0.np
  have h := { h0 with np := Nat.le_succ_of_le h0.np, ng := Nat.le_succ_of_le h0.ng, nf := Nat.le_succ_of_le h0.nf, nm := by have := h0.nm; omega : CdR w B g T (N + 1) M m vw vf vp vg vm ps gs ms }
  have HN := Lib.hid hN
  clear h0
  have B5 := Lib.hid (show Below w.heap.size w (w.alloc (.cells #[.int .i64 (-1)] itT)) from (Below.refl w.heap.size w).alloc (Nat.le_refl _) (.cells #[.int .i64 (-1)] itT))
  have H5 := Lib.hid (h.below B5.out)
  have NB := Lib.hid (cell_one_new w (.int .i64 (-1)) itT)
  obtain ⟨A, c, rfl⟩ := row_form h.rp
  have O5 := Lib.hid H5.out.rp
  have N5 := Lib.hid (show (Value.slice A ps.length c).ownBlock ≠ some g from H5.out.ne H5.out.rp (by decide))
  have S5 := Lib.hid (show B ≤ (w.alloc (.cells #[.int .i64 (-1)] itT)).heap.size from Nat.le_of_lt (Nat.lt_of_le_of_lt (H5.out.frm g H5.out.tg).1 H5.out.whole.lt))
  have L5 := Lib.hid (show ps.length + 1 ≤ N + 1 from by omega)
  have c5 : w.cell? ⟨g, 5, none⟩ = some (.slice A ps.length c) := h.whole.cell 5
  have hb0 : ps.length ≤ 100000 := by omega
  clear h hpn hN
  go_enter Tryd.func41, Tryd.ntmps41
  go_wp2_with (first | (at_builtin; refine wpList_append_own_at _ rfl _ _ 26 rfl B itT i0 _ 1 8 Tryd.underlying26 hi0 hz0 hz1 hz2 rfl (by decide) (.slice A ps.length c) ps.length (ps.flatMap itC) rfl O5.out ⟨w.heap.size, 0, none⟩ 1 1 [.int .i64 (-1)] rfl rfl NB.out (it_one ((-1))) (by have := L5.out; have := HN.out; unfold maxLen; omega) (by have := L5.out; have := HN.out; omega) S5.out ?_; intro v3 w3 ho3 hg3 hnl hat; obtain ⟨A', c', rfl⟩ := row_form ho3; have G3 := Lib.hid hg3; have O3 := Lib.hid ho3; have AT := Lib.hid hat; have d0 : w3.cell? ⟨g, 5, none⟩ = some (.slice A ps.length c) := H5.out.cell3 hg3 N5.out 5; have f0 : w3.frozen? ⟨g, 5, none⟩ = false := H5.out.free3 hg3 N5.out 5; clear ho3 hg3 hnl hat))
  have R := Lib.hid (H5.out.setPP (L' := ps ++ [-1]) G3.out (by rw [List.length_append, List.flatMap_append, List.flatMap_singleton]; exact O3.out) AT.out (by rw [List.length_append, List.length_singleton]; exact L5.out))
  have e5 : (w3.setCell ⟨g, 5, none⟩ (.slice A' (ps.length + 1) c')).cell? ⟨g, 5, none⟩ = some (.slice A' (ps.length + 1) c') := by
    obtain ⟨_, ⟨vw', vf', vp', vg', vm', ps', gs', ms', h6⟩, _, _⟩ := R.out
    exact World.cell?_setCell_same _ _ _ (by rw [d0])
  go_wp2_with fail
  go_ret
  exact ⟨⟨_, rfl⟩, CdPM.before B5.out R.out⟩

set_option maxHeartbeats 16000000 in
set_option maxRecDepth 100000 in
theorem guardr_any (x : Int) (B g : Nat) (T : Nat → Prop) (N M : Nat) (m : Em) (vw vf vp vg vm : Value) (ps gs : List Int) (ms : List Sg) (w : World) (h : CdR w B g T N M m vw vf vp vg vm ps gs ms) (hN : N ≤ 100000) (hg : gs.length + 1 ≤ N) :
    Calls Tryd.prog 42 #[.pointer (some ⟨g, 0, none⟩), .int .i64 x] w fun e w' => e = .returned (.tuple #[]) ∧ CdPL w w' B g T N M m ps.length (gs.length + 1) := by
  obtain ⟨i0, hi0, hz0, hz1, hz2⟩ := info_parts itInfo
  have IP := Lib.hid (ispad_any x B g T N M m vw vf vp vg vm ps gs ms w h)
  have HN := Lib.hid hN
  by_cases hp : 0 ≤ x ∧ x < ps.length
  · rw [decide_eq_true hp] at IP
    have B5 := Lib.hid (show Below w.heap.size w (w.alloc (.cells #[.int .i64 x] itT)) from (Below.refl w.heap.size w).alloc (Nat.le_refl _) (.cells #[.int .i64 x] itT))
    have H5 := Lib.hid (h.below B5.out)
    have NB := Lib.hid (cell_one_new w (.int .i64 x) itT)
    obtain ⟨A, c, rfl⟩ := row_form h.rg
    have O5 := Lib.hid H5.out.rg
    have N5 := Lib.hid (show (Value.slice A gs.length c).ownBlock ≠ some g from H5.out.ne H5.out.rg (by decide))
    have S5 := Lib.hid (show B ≤ (w.alloc (.cells #[.int .i64 x] itT)).heap.size from Nat.le_of_lt (Nat.lt_of_le_of_lt (H5.out.frm g H5.out.tg).1 H5.out.whole.lt))
    have L5 := Lib.hid (show gs.length + 1 ≤ N from hg)
    have c6 : w.cell? ⟨g, 6, none⟩ = some (.slice A gs.length c) := h.whole.cell 6
    clear h hg hN hp
    go_enter Tryd.func42, Tryd.ntmps42
    go_wp2_with fail
    refine IP.out.mono ?_
    rintro e y0 ⟨rfl, rfl⟩
    clear IP
    go_wp2_with (first | (at_builtin; refine wpList_append_own_at _ rfl _ _ 26 rfl B itT i0 _ 1 8 Tryd.underlying26 hi0 hz0 hz1 hz2 rfl (by decide) (.slice A gs.length c) gs.length (gs.flatMap itC) rfl O5.out ⟨w.heap.size, 0, none⟩ 1 1 [.int .i64 x] rfl rfl NB.out (it_one (x)) (by have := L5.out; have := HN.out; unfold maxLen; omega) (by have := L5.out; have := HN.out; omega) S5.out ?_; intro v3 w3 ho3 hg3 hnl hat; obtain ⟨A', c', rfl⟩ := row_form ho3; have G3 := Lib.hid hg3; have O3 := Lib.hid ho3; have AT := Lib.hid hat; have d0 : w3.cell? ⟨g, 6, none⟩ = some (.slice A gs.length c) := H5.out.cell3 hg3 N5.out 6; have f0 : w3.frozen? ⟨g, 6, none⟩ = false := H5.out.free3 hg3 N5.out 6; clear ho3 hg3 hnl hat))
    have R := Lib.hid (H5.out.setG (L' := gs ++ [x]) G3.out (by rw [List.length_append, List.flatMap_append, List.flatMap_singleton]; exact O3.out) AT.out (by rw [List.length_append, List.length_singleton]; exact L5.out))
    have K := Lib.hid (show KeptS T w (w3.setCell ⟨g, 6, none⟩ (.slice A' (gs.length + 1) c')) from ((KeptS.ofBelow B5.out).trans (KeptS.grown G3.out (fun b hb => H5.out.tq b hb)) (fun _ h => .inl h)).trans (KeptS.set H5.out.tg) (fun _ h => .inl h))
    first | go_end0 | refine bodyPost_ret (results_none rfl _ _ _) rfl ?_
    refine ⟨rfl, _, _, _, _, _, _, _, _, _, R.out, Nat.le_refl _, by rw [List.length_append, List.length_singleton]; exact Nat.le_refl _, K.out, fun b hb => ?_⟩
    rcases hb with hb | hb
    · exact .inl hb
    · rcases AT.out with h1 | h1
      · exact .inl (H5.out.tq b (h1 ▸ hb))
      · rw [h1] at hb
        injection hb with hb
        exact .inr (hb ▸ B5.out.size)
  · rw [decide_eq_false hp] at IP
    have R := Lib.hid (show CdPL w w B g T N M m ps.length (gs.length + 1) from ⟨T, _, _, _, _, _, _, _, _, h, Nat.le_refl _, Nat.le_succ _, KeptS.ofBelow (Below.refl _ _), fun b hb => .inl hb⟩)
    clear h hg hN hp
    go_enter Tryd.func42, Tryd.ntmps42
    go_wp2_with fail
    refine IP.out.mono ?_
    rintro e y0 ⟨rfl, rfl⟩
    clear IP
    go_wp2_with fail
    first | go_end0 | refine bodyPost_ret (results_none rfl _ _ _) rfl ?_
    exact ⟨rfl, R.out⟩

theorem eguard_any (x : Int) (B g : Nat) (T : Nat → Prop) (N M : Nat) (m : Em) (w : World) (h : CdM w B g T N M m) (hN : N ≤ 100000) (hN2 : N + 1 ≤ 100000) :
    Calls Tryd.prog 42 #[.pointer (some ⟨g, 0, none⟩), .int .i64 x] w fun e w' => e = .returned (.tuple #[]) ∧ CdPM w w' B g T (N + 1) M m := by
  obtain ⟨vw, vf, vp, vg, vm, ps, gs, ms, h0⟩ := h
  have hgn := h0.ng
  have h := { h0 with np := Nat.le_succ_of_le h0.np, ng := Nat.le_succ_of_le h0.ng, nf := Nat.le_succ_of_le h0.nf, nm := by have := h0.nm; omega : CdR w B g T (N + 1) M m vw vf vp vg vm ps gs ms }
  exact (guardr_any x B g T (N + 1) M m vw vf vp vg vm ps gs ms w h hN2 (by omega)).mono (fun e w' q => ⟨q.1, q.2.toPM⟩)

set_option maxHeartbeats 16000000 in
set_option maxRecDepth 100000 in
theorem unguard_any (B g : Nat) (T : Nat → Prop) (N M : Nat) (m : Em) (w : World) (h : CdM w B g T N M m) (hN : N ≤ 100000) :
    Calls Tryd.prog 43 #[.pointer (some ⟨g, 0, none⟩)] w fun e w' => e = .returned (.tuple #[]) ∧ CdPM w w' B g T N M m := by
  have R0 := Lib.hid (show CdPM w w B g T N M m from ⟨T, h, KeptS.ofBelow (Below.refl _ _), fun b hb => .inl hb⟩)
  obtain ⟨vw, vf, vp, vg, vm, ps, gs, ms, h⟩ := h
  obtain ⟨A, c, rfl⟩ := row_form h.rg
  have c6 : w.cell? ⟨g, 6, none⟩ = some (.slice A gs.length c) := h.whole.cell 6
  have f6 : w.frozen? ⟨g, 6, none⟩ = false := h.whole.free 6
  have hgl : gs.length ≤ 100000 := Nat.le_trans h.ng hN
  have H := Lib.hid h
  have hR := h.rg
  have hT := h.tq
  clear h hN
  generalize hl : gs.length = n at *
  rcases n with _ | k
  · clear hR
    go_enter Tryd.func43, Tryd.ntmps43
    go_wp2_with fail
    first | go_end0 | refine bodyPost_ret (results_none rfl _ _ _) rfl ?_
    exact ⟨rfl, R0.out⟩
  · obtain ⟨hcap, g2, rfl, hBg2, hg2, _⟩ := row_cell (f := itC) (fun _ => rfl) (0 : Int) hR hl (Nat.lt_succ_self k)
    have FR := Lib.hid (row_front (f := itC) (k := 1) (l := gs) (m := k) (fun _ => rfl) (by rw [hl]; exact hR) (by omega))
    have hsl := islice_front g2 k (k + 1) c (by omega) (by omega)
    have dk : decide ((0 : Int) < (k : Int) + 1) = true := decide_eq_true (by omega)
    have GL := Lib.hid (show (gs.take k).length = k by rw [List.length_take]; omega)
    have R := Lib.hid (by
      have h6 := H.out
      have := h6.setGP (w3 := w) (v' := .slice (some ⟨g2, 0, none⟩) k c) (L' := gs.take k) (World.grownBy.refl w _) (by rw [GL.out]; exact FR.out) (.inl rfl) (by rw [GL.out]; have := h6.ng; omega)
      exact this)
    have hb0 := hcap
    clear hR hcap hBg2 hg2 hl
    go_enter Tryd.func43, Tryd.ntmps43
    go_wp2_with fail
    first | go_end0 | refine bodyPost_ret (results_none rfl _ _ _) rfl ?_
    exact ⟨rfl, R.out⟩

set_option maxHeartbeats 16000000 in
set_option maxRecDepth 100000 in
theorem set_any (x : Int) (B g : Nat) (T : Nat → Prop) (N M : Nat) (m : Em) (w : World) (h : CdM w B g T N M m) (hN : N ≤ 100000) :
    Calls Tryd.prog 44 #[.pointer (some ⟨g, 0, none⟩), .int .i64 x] w fun e w' => e = .returned (.tuple #[]) ∧ CdPM w w' B g T N M m := by
  have R0 := Lib.hid (show CdPM w w B g T N M m from ⟨T, h, KeptS.ofBelow (Below.refl _ _), fun b hb => .inl hb⟩)
  have C0 := Lib.hid h
  obtain ⟨vw, vf, vp, vg, vm, ps, gs, ms, h⟩ := h
  have IP := Lib.hid (ispad_any x B g T N M m vw vf vp vg vm ps gs ms w h)
  by_cases hp : 0 ≤ x ∧ x < ps.length
  · rw [decide_eq_true hp] at IP
    obtain ⟨k, rfl⟩ := Int.eq_ofNat_of_zero_le hp.1
    have hk : k < ps.length := by omega
    have hkI : (k : Int) < ps.length := hp.2
    have hps : ps.length ≤ 100000 := Nat.le_trans h.np hN
    have B1 := Lib.hid (show Below w.heap.size w w.drew from (Below.refl _ _).drew)
    have hd := h.below B1.out
    obtain ⟨A, c, rfl⟩ := row_form h.rp
    obtain ⟨hcap, gp, rfl, _, _, hcell⟩ := row_cell (f := itC) (fun _ => rfl) (0 : Int) hd.rp rfl hk
    have p0 : w.drew.cell? ⟨gp, k, none⟩ = some (.int .i64 (ps.getD k 0)) := by have := (hcell 0 (by decide)).1; rwa [Nat.mul_one, Nat.add_zero] at this
    have p1 : w.drew.frozen? ⟨gp, k, none⟩ = false := by have := (hcell 0 (by decide)).2; rwa [Nat.mul_one, Nat.add_zero] at this
    have c5 : w.cell? ⟨g, 5, none⟩ = some (.slice (some ⟨gp, 0, none⟩) ps.length c) := h.whole.cell 5
    have R := Lib.hid (hd.setPlace hk m.L.length)
    have HE := Lib.hid (fun W (hb : Below w.heap.size w W) => (here_any B g T N M m W (C0.out.below hb)).mono (R' := fun e w' => e = .returned (.int .i64 m.L.length) ∧ w' = W) (fun e w' h => ⟨h.1, h.2.symm⟩))
    have hcp := hcap
    clear hcell hp hcap hd h hN C0 R0
    go_enter Tryd.func44, Tryd.ntmps44
    go_wp2_with fail
    refine IP.out.mono ?_
    rintro e y0 ⟨rfl, rfl⟩
    clear IP
    go_wp2_with fail
    go_still_tail 7, (by kernel_rfl)
    still_call (HE.out _ B1.out)
    repeat still_step
    try refine wpStill_nil ?_
    change wpList _ _ _ _ _ w.drew
    clear c5 HE
    have R2 := Lib.hid (CdPM.before B1.out R.out)
    clear R B1
    generalize w.drew = wd' at *
    go_wp2_with fail
    first | go_end0 | refine bodyPost_ret (results_none rfl _ _ _) rfl ?_
    exact ⟨rfl, R2.out⟩
  · rw [decide_eq_false hp] at IP
    clear h hN hp C0
    go_enter Tryd.func44, Tryd.ntmps44
    go_wp2_with fail
    refine IP.out.mono ?_
    rintro e y0 ⟨rfl, rfl⟩
    clear IP
    go_wp2_with fail
    first | go_end0 | refine bodyPost_ret (results_none rfl _ _ _) rfl ?_
    exact ⟨rfl, R0.out⟩

set_option maxHeartbeats 16000000 in
set_option maxRecDepth 100000 in
theorem hide_any (B g : Nat) (T : Nat → Prop) (N M : Nat) (m : Em) (w : World) (h : CdM w B g T N M m) (hN : N ≤ 100000) :
    Calls Tryd.prog 21 #[.pointer (some ⟨g, 0, none⟩)] w fun e w' => ∃ v, ∃ l : List Int, ∃ T' : Nat → Prop, e = .returned v ∧ CdM w' B g T' N M m ∧ KeptS T w w' ∧ (∀ b, T' b → T b ∨ w.heap.size ≤ b) ∧ FarR w' T' itT 1 v l.length (l.flatMap itC) ∧ l.length ≤ N := by
  obtain ⟨vw, vf, vp, vg, vm, ps, gs, ms, h⟩ := h
  have H := Lib.hid h
  have c6 : w.cell? ⟨g, 6, none⟩ = some vg := h.whole.cell 6
  have f6 : w.frozen? ⟨g, 6, none⟩ = false := h.whole.free 6
  obtain ⟨A, c, rfl⟩ := row_form h.rg
  clear h hN
  go_enter Tryd.func21, Tryd.ntmps21
  go_wp2_with fail
  go_ret
  obtain ⟨h1, h2, h3⟩ := H.out.nilG
  exact ⟨_, gs, _, rfl, ⟨_, _, _, _, _, _, _, _, h1⟩, h2, fun b hb => .inl hb.1, h3, H.out.ng⟩

set_option maxHeartbeats 16000000 in
set_option maxRecDepth 100000 in
theorem show_any (v : Value) (l : List Int) (B g : Nat) (T : Nat → Prop) (N M : Nat) (m : Em) (w : World) (h : CdM w B g T N M m) (hN : N ≤ 100000) (hv : FarR w T itT 1 v l.length (l.flatMap itC)) (hl : l.length ≤ N) :
    Calls Tryd.prog 24 #[.pointer (some ⟨g, 0, none⟩), v] w fun e w' => e = .returned (.tuple #[]) ∧ CdPM w w' B g T N M m := by
  obtain ⟨vw, vf, vp, vg, vm, ps, gs, ms, h⟩ := h
  have c6 : w.cell? ⟨g, 6, none⟩ = some vg := h.whole.cell 6
  have f6 : w.frozen? ⟨g, 6, none⟩ = false := h.whole.free 6
  obtain ⟨h1, h2, _⟩ := h.nilG
  have C1 := Lib.hid h1
  have K1 := Lib.hid h2
  have V1 := Lib.hid (show FarR (w.setCell ⟨g, 6, none⟩ (.slice none 0 0)) (fun b => T b ∧ vg.ownBlock ≠ some b) itT 1 v l.length (l.flatMap itC) from hv.kept h2 (fun b hb => .inl hb.1))
  obtain ⟨Av, cv, rfl⟩ := row_form hv.1
  have HN := Lib.hid hN
  have hl2 : l.length ≤ 100000 := Nat.le_trans hl hN
  have HL := Lib.hid hl
  clear h h1 h2 hv hN hl
  go_enter Tryd.func24, Tryd.ntmps24
  go_wp2_with fail
  generalize w.setCell ⟨g, 6, none⟩ (.slice none 0 0) = w1 at *
  go_loopw [11] (fun i wr => ∃ (t : Nat) (T' : Nat → Prop) (vw vf vp vg vm : Value) (ps gs : List Int) (ms : List Sg), t ≤ l.length ∧ i = .int .i64 t ∧ CdR wr B g T' N M m vw vf vp vg vm ps gs ms ∧ gs.length ≤ t ∧ KeptS T w wr ∧ (∀ b, T' b → T b ∨ w.heap.size ≤ b) ∧ FarR wr T' itT 1 (.slice Av l.length cv) l.length (l.flatMap itC)) (fun i _ => l.length - (intOf i).toNat)
  case atStart => exact ⟨0, _, _, _, _, _, _, _, _, _, Nat.zero_le _, rfl, C1.out, Nat.le_refl _, K1.out, fun b hb => .inl hb.1, V1.out⟩
  case round =>
    obtain ⟨t, T2, vw, vf, vp, vg, vm, ps, gs, ms, ht, rfl, hc, hgs, hk, hT, hv⟩ := hrel
    have CR := Lib.hid hc
    have GR := Lib.hid hgs
    have KR := Lib.hid hk
    have TR := Lib.hid hT
    have VR := Lib.hid hv
    clear hc hgs hk hT hv C1 K1 V1
    by_cases hlt : t < l.length
    · have hI : (t : Int) < l.length := by omega
      obtain ⟨hcap, gp, rfl, _, _, hcell⟩ := row_cell (f := itC) (fun _ => rfl) (0 : Int) VR.out.1 rfl hlt
      have p0 : wr.cell? ⟨gp, t, none⟩ = some (.int .i64 (l.getD t 0)) := by have := (hcell 0 (by decide)).1; rwa [Nat.mul_one, Nat.add_zero] at this
      generalize l.getD t 0 = x at *
      have GE := Lib.hid (guardr_any x B g T2 N M m vw vf vp vg vm ps gs ms wr CR.out HN.out (by have := GR.out; have := HL.out; omega))
      have hcp := hcap
      clear hcell hcap
      go_wp2_with fail
      refine GE.out.mono ?_
      rintro e y2 ⟨rfl, T3, vw3, vf3, vp3, vg3, vm3, ps3, gs3, ms3, hc3, _, hg3, hk3, ht3⟩
      have K3 := Lib.hid (KR.out.trans hk3 TR.out)
      have O3 := Lib.hid (show ∀ b, T3 b → T b ∨ w.heap.size ≤ b from fun b hb => by
        rcases ht3 b hb with h | h
        · exact TR.out b h
        · exact .inr (Nat.le_trans KR.out.size h))
      have V3 := Lib.hid (VR.out.kept hk3 ht3)
      have C3 := Lib.hid hc3
      have G3 := Lib.hid (show gs3.length ≤ t + 1 from by have := GR.out; omega)
      clear hc3 hg3 hk3 ht3 GE p0 VR KR TR CR GR
      go_wp2_with fail
      go_roundw
      case rel => exact ⟨t + 1, T3, _, _, _, _, _, _, _, _, by omega, by go_num, C3.out, G3.out, K3.out, O3.out, V3.out⟩
      case measure => simp [intOf]; omega
    · have hI : ¬ (t : Int) < l.length := by omega
      have R := Lib.hid (show CdPM w wr B g T N M m from ⟨T2, ⟨_, _, _, _, _, _, _, _, CR.out⟩, KR.out, TR.out⟩)
      go_wp2_with fail
      first | go_end0 | refine bodyPost_ret (results_none rfl _ _ _) rfl ?_
      exact ⟨rfl, R.out⟩
end Go.Proofs.YtcijjmmckofckaaDoor
