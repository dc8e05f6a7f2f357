/- Emit: Patch, Land, Back. -/
import Derived.Test.YtcijjmmckofckaaDoorEmtF
import Derived.Test.YtcijjmmckofckaaDoorInstrJ
namespace Go.Proofs.YtcijjmmckofckaaDoor
open Go.ChangeShapes Go.WideShapes Go.ChangeAt Go.RowKit
set_option linter.unusedVariables false
set_option linter.unusedSimpArgs false

theorem CdR.below {w : World} {B g : Nat} {T : Nat → Prop} {N M : Nat} {m : Em} {vw vf vp vg vm : Value} {ps gs : List Int} {ms : List Sg} {w' : World} (h : CdR w B g T N M m vw vf vp vg vm ps gs ms) (hb : Below w.heap.size w w') : CdR w' B g T N M m vw vf vp vg vm ps gs ms :=
  h.later (S := fun _ => False) (KeptS.ofBelow hb) (fun _ h => h.elim) (fun _ h => h.elim)

/-- One of the words is another one. -/
theorem CdR.patchW {w : World} {B g : Nat} {T : Nat → Prop} {N M : Nat} {m : Em} {vf vp vg vm : Value} {ps gs : List Int} {ms : List Sg} {g2 c t : Nat} (h : CdR w B g T N M m (.slice (some ⟨g2, 0, none⟩) m.L.length c) vf vp vg vm ps gs ms) (ht : t < m.L.length) (i : Ins) (hok : EmOk ⟨m.L.set t i, m.fx, m.dep, m.most, m.err⟩) :
    CdPM w (w.setCell ⟨g2, t, none⟩ (.int .u32 (wd i))) B g T N M ⟨m.L.set t i, m.fx, m.dep, m.most, m.err⟩ := by
  have hr := row_set h.rw (j := t) (.int .u32 (wd i))
  have e := flat_set wdC 1 (fun _ => rfl) zIns i 0 (.int .u32 (wd i)) m.L t ht (by decide) rfl
  rw [Nat.mul_one, Nat.add_zero] at e
  rw [e] at hr
  have hl : (m.L.set t i).length = m.L.length := List.length_set
  have k : KeptS (fun b => b = g2) w (w.setCell ⟨g2, t, none⟩ (.int .u32 (wd i))) := KeptS.set rfl
  have hg2 : T g2 := h.tw g2 rfl
  have hne : g2 ≠ g := fun e => h.ne h.rw (by decide) (congrArg some e)
  have ap : ∀ {e : TypeId} {sz n : Nat} {u : Value} {xs : List Value}, w.ownsRow B e sz u n xs → e ≠ u4T → (w.setCell ⟨g2, t, none⟩ (.int .u32 (wd i))).ownsRow B e sz u n xs := fun hr2 h6 => k.row hr2 (fun b hb hs => apart_some (row_apart hr2 h.rw h6) b hb (congrArg some hs.symm))
  refine ⟨T, ⟨_, vf, vp, vg, vm, ps, gs, ms, ⟨k.whole h.whole (fun e => hne e.symm), by rw [hl]; exact hr, ap h.rf (by decide), ap h.rp (by decide), ap h.rg (by decide), ap h.rm (by decide), h.tg, h.tw, h.tf, h.tp, h.tq, h.tm, h.apart, fun b hb => ⟨(h.frm b hb).1, Nat.lt_of_lt_of_le (h.frm b hb).2 k.size⟩, h.shp.kept k (fun e => absurd (h.frm _ hg2).1 (by have := h.low; omega)), h.low, hok, h.ml, h.np, h.ng, h.nf, h.nm⟩⟩, KeptS.set hg2, fun b hb => .inl hb⟩

theorem patch_yes {m : Em} {t : Nat} {n : Int} (ht : t < m.L.length) (hc : chk (numI (m.L.getD t zIns) n) = 0) : patchE m t n = ⟨m.L.set t (numI (m.L.getD t zIns) n), m.fx, m.dep, m.most, m.err⟩ := by
  unfold patchE
  rw [if_neg (by omega), Int.toNat_natCast, if_pos hc]

theorem patch_no {m : Em} {t : Nat} {n : Int} (ht : t < m.L.length) (hc : chk (numI (m.L.getD t zIns) n) ≠ 0) : patchE m t n = failE m 52 := by
  unfold patchE
  rw [if_neg (by omega), Int.toNat_natCast, if_neg hc]

theorem patch_len (m : Em) (x n : Int) : (patchE m x n).L.length = m.L.length := by
  unfold patchE failE
  split
  · rfl
  · split
    · exact List.length_set
    · rfl

theorem encR_num {i : Ins} {n : Int} (h : chk (numI i n) = 0) : encR i.op i.a i.b i.c n = .tuple #[.int .u32 (wd (numI i n)), .int .i64 0] := encR_ok (i := numI i n) h

theorem encR_num_bad {i : Ins} {n : Int} (h : chk (numI i n) ≠ 0) : encR i.op i.a i.b i.c n = .tuple #[.int .u32 0, .int .i64 (chk (numI i n))] := encR_bad (i := numI i n) h

set_option maxHeartbeats 16000000 in
set_option maxRecDepth 100000 in
theorem patch_any (x n : Int) (hn : I64 n) (B g : Nat) (T : Nat → Prop) (N : Nat) (m : Em) (w : World) (h : CdAt w B g T N m) (hN : N ≤ 100000) :
    Calls Tryd.prog 39 #[.pointer (some ⟨g, 0, none⟩), .int .i64 x, .int .i64 n] w fun e w' => e = .returned (.tuple #[]) ∧ CdPM w w' B g T N m.L.length (patchE m x n) := by
  by_cases h0 : x < 0
  case pos =>
    have d0 : decide (x < 0) = true := decide_eq_true h0
    have R := Lib.hid (show patchE m x n = failE m 52 from by unfold patchE; rw [if_pos (by omega)])
    rw [R.out]
    have FE := Lib.hid (fail_any 52 B g T N m.L.length m w h)
    have HE := Lib.hid (here_any B g T N m.L.length m w h)
    clear h hN hn R
    go_enter Tryd.func39, Tryd.ntmps39
    go_wp2_with fail
    refine FE.out.mono ?_
    rintro e y1 ⟨rfl, hp⟩
    have HP := Lib.hid hp
    clear hp FE HE
    go_wp2_with fail
    first | go_end0 | refine bodyPost_ret (results_none rfl _ _ _) rfl ?_
    exact ⟨rfl, HP.out⟩
  case neg =>
    have d0 : decide (x < 0) = false := decide_eq_false h0
    by_cases h1 : (m.L.length : Int) ≤ x
    case pos =>
      have d1 : decide ((m.L.length : Int) ≤ x) = true := decide_eq_true h1
      have R := Lib.hid (show patchE m x n = failE m 52 from by unfold patchE; rw [if_pos (by omega)])
      rw [R.out]
      have FE := Lib.hid (fail_any 52 B g T N m.L.length m w h)
      have HE := Lib.hid (here_any B g T N m.L.length m w h)
      clear h hN hn R
      go_enter Tryd.func39, Tryd.ntmps39
      go_wp2_with fail
      refine HE.out.mono ?_
      rintro e y0 ⟨rfl, rfl⟩
      go_wp2_with fail
      refine FE.out.mono ?_
      rintro e y1 ⟨rfl, hp⟩
      have HP := Lib.hid hp
      clear hp FE HE
      go_wp2_with fail
      first | go_end0 | refine bodyPost_ret (results_none rfl _ _ _) rfl ?_
      exact ⟨rfl, HP.out⟩
    case neg =>
      obtain ⟨t, rfl⟩ := Int.eq_ofNat_of_zero_le (show 0 ≤ x by omega)
      have d1 : decide ((m.L.length : Int) ≤ t) = false := decide_eq_false h1
      have ht : t < m.L.length := by omega
      have htl : (t : Int) < m.L.length := by omega
      have HE := Lib.hid (here_any B g T N m.L.length m w h)
      obtain ⟨vw, vf, vp, vg, vm, ps, gs, ms, h⟩ := h
      obtain ⟨A, c, rfl⟩ := row_form h.rw
      obtain ⟨hcap, g2, rfl, hBg2, hg2, hcell⟩ := row_cell (f := wdC) (fun _ => rfl) zIns h.rw rfl ht
      have H := Lib.hid h
      have x0 : w.cell? ⟨g2, t, none⟩ = some (.int .u32 (wd (m.L.getD t zIns))) := by have := (hcell 0 (by decide)).1; rwa [Nat.mul_one, Nat.add_zero] at this
      have c0 : w.cell? ⟨g, 0, none⟩ = some (.slice (some ⟨g2, 0, none⟩) m.L.length c) := h.whole.cell 0
      have hgood : chk (m.L.getD t zIns) = 0 := h.ok.good _ (by rw [List.getD_eq_getElem?_getD, List.getElem?_eq_getElem ht]; exact List.getElem_mem ht)
      obtain ⟨w0, w1⟩ := wd_range hgood
      have DE := Lib.hid (decode_any (wd (m.L.getD t zIns)) w h.shp w0 w1)
      rw [dec_wd hgood] at DE
      have IR := Lib.hid (good_of_check hgood).2
      have PY := Lib.hid (patch_yes (n := n) ht)
      have PN := Lib.hid (patch_no (n := n) ht)
      have hl16 : m.L.length ≤ 16384 := h.ok.len
      have OKS := Lib.hid (fun (hc : chk (numI (m.L.getD t zIns) n) = 0) => (by have := h.ok.patch t n; rwa [PY.out hc] at this : EmOk ⟨m.L.set t (numI (m.L.getD t zIns) n), m.fx, m.dep, m.most, m.err⟩))
      have HT := Lib.hid ht
      have HI := Lib.hid hn
      clear hcell hBg2 hg2 h hgood w0 w1 h0 h1 hn
      generalize hi0 : m.L.getD t zIns = i0 at *
      clear hi0
      unfold instrV at DE
      have hb0 := hcap
      clear hcap
      go_enter Tryd.func39, Tryd.ntmps39
      go_wp2_with fail
      refine HE.out.mono ?_
      rintro e y0 ⟨rfl, rfl⟩
      clear HE
      go_wp2_with fail
      refine DE.out.mono ?_
      rintro e y1 ⟨rfl, hb1⟩
      have XB := Lib.hid (Whole.made y1 iT #[.int .i64 i0.op, .int .i64 i0.a, .int .i64 i0.b, .int .i64 i0.c, .int .i64 i0.n] _ rfl)
      have B1 := Lib.hid ((Below.refl y1.heap.size y1).alloc (Nat.le_refl _) (.cells #[.int .i64 i0.op, .int .i64 i0.a, .int .i64 i0.b, .int .i64 i0.c, .int .i64 n] iT))
      have XS := Lib.hid (Whole.made y1 iT #[.int .i64 i0.op, .int .i64 i0.a, .int .i64 i0.b, .int .i64 i0.c, .int .i64 n] _ rfl)
      have k4 : (y1.alloc (.cells #[.int .i64 i0.op, .int .i64 i0.a, .int .i64 i0.b, .int .i64 i0.c, .int .i64 i0.n] iT)).cell? ⟨y1.heap.size, 4, none⟩ = some (.int .i64 i0.n) := XB.out.cell 4
      have f4 : (y1.alloc (.cells #[.int .i64 i0.op, .int .i64 i0.a, .int .i64 i0.b, .int .i64 i0.c, .int .i64 i0.n] iT)).frozen? ⟨y1.heap.size, 4, none⟩ = false := XB.out.free 4
      have s0 : (y1.alloc (.cells #[.int .i64 i0.op, .int .i64 i0.a, .int .i64 i0.b, .int .i64 i0.c, .int .i64 n] iT)).cell? ⟨y1.heap.size, 0, none⟩ = some (.int .i64 i0.op) := XS.out.cell 0
      have s1 : (y1.alloc (.cells #[.int .i64 i0.op, .int .i64 i0.a, .int .i64 i0.b, .int .i64 i0.c, .int .i64 n] iT)).cell? ⟨y1.heap.size, 1, none⟩ = some (.int .i64 i0.a) := XS.out.cell 1
      have s2 : (y1.alloc (.cells #[.int .i64 i0.op, .int .i64 i0.a, .int .i64 i0.b, .int .i64 i0.c, .int .i64 n] iT)).cell? ⟨y1.heap.size, 2, none⟩ = some (.int .i64 i0.b) := XS.out.cell 2
      have s3 : (y1.alloc (.cells #[.int .i64 i0.op, .int .i64 i0.a, .int .i64 i0.b, .int .i64 i0.c, .int .i64 n] iT)).cell? ⟨y1.heap.size, 3, none⟩ = some (.int .i64 i0.c) := XS.out.cell 3
      have s4 : (y1.alloc (.cells #[.int .i64 i0.op, .int .i64 i0.a, .int .i64 i0.b, .int .i64 i0.c, .int .i64 n] iT)).cell? ⟨y1.heap.size, 4, none⟩ = some (.int .i64 n) := XS.out.cell 4
      have HB := Lib.hid hb1
      have EN := Lib.hid (encode_any i0.op i0.a i0.b i0.c n (y1.alloc (.cells #[.int .i64 i0.op, .int .i64 i0.a, .int .i64 i0.b, .int .i64 i0.c, .int .i64 n] iT)) ((H.out.shp.below HB.out (Nat.le_refl _)).below B1.out (Nat.le_refl _)) (by have := IR.out; unfold GoodP at this; unfold I64; omega) (by have := IR.out; unfold GoodP at this; unfold I64; omega) (by have := IR.out; unfold GoodP at this; unfold I64; omega) HI.out)
      clear hb1 DE x0 c0
      unfold instrV at EN
      by_cases hc : chk (numI i0 n) = 0
      case pos =>
        rw [encR_num hc] at EN
        have PE := Lib.hid (PY.out hc)
        have OK1 := Lib.hid (OKS.out hc)
        clear OKS PY PN hc
        go_wp2_with fail
        refine EN.out.mono ?_
        rintro e y2 ⟨rfl, hb2⟩
        have B2 := Lib.hid (HB.out.trans ((B1.out.trans (hb2.mono B1.out.size)).mono HB.out.size))
        have H2 := Lib.hid (H.out.below B2.out)
        have z0 : y2.cell? ⟨g, 0, none⟩ = some (.slice (some ⟨g2, 0, none⟩) m.L.length c) := H2.out.whole.cell 0
        obtain ⟨_, g3, e3, _, _, hcell⟩ := row_cell (f := wdC) (fun _ => rfl) zIns H2.out.rw rfl HT.out
        injection e3 with e3
        injection e3 with e3 _ _
        subst e3
        have z1 : y2.cell? ⟨g2, t, none⟩ = some (.int .u32 (wd (m.L.getD t zIns))) := by have := (hcell 0 (by decide)).1; rwa [Nat.mul_one, Nat.add_zero] at this
        have z2 : y2.frozen? ⟨g2, t, none⟩ = false := by have := (hcell 0 (by decide)).2; rwa [Nat.mul_one, Nat.add_zero] at this
        have R := Lib.hid (H2.out.patchW HT.out (numI i0 n) OK1.out)
        clear hcell EN H B1 XB XS k4 f4 s0 s1 s2 s3 s4 hb2
        go_wp2_with fail
        first | go_end0 | refine bodyPost_ret (results_none rfl _ _ _) rfl ?_
        exact ⟨rfl, by rw [PE.out]; exact CdPM.before B2.out R.out⟩
      case neg =>
        rw [encR_num_bad hc] at EN
        have PE := Lib.hid (PN.out hc)
        have dc : (chk (numI i0 n) != 0) = true := by simpa using hc
        clear OKS PY PN hc
        go_wp2_with fail
        refine EN.out.mono ?_
        rintro e y2 ⟨rfl, hb2⟩
        have B2 := Lib.hid (HB.out.trans ((B1.out.trans (hb2.mono B1.out.size)).mono HB.out.size))
        have FE := Lib.hid (fail_any 52 B g T N m.L.length m y2 ⟨_, _, _, _, _, _, _, _, H.out.below B2.out⟩)
        clear EN H B1 XB XS k4 f4 s0 s1 s2 s3 s4 hb2
        go_wp2_with fail
        refine FE.out.mono ?_
        rintro e y3 ⟨rfl, hp⟩
        have HP := Lib.hid hp
        clear hp FE
        go_wp2_with fail
        first | go_end0 | refine bodyPost_ret (results_none rfl _ _ _) rfl ?_
        exact ⟨rfl, by rw [PE.out]; exact CdPM.before B2.out HP.out⟩

set_option maxHeartbeats 16000000 in
set_option maxRecDepth 100000 in
theorem aim_any (x to : Int) (h1 : -1000000 ≤ x) (h2 : x ≤ 1000000) (h3 : -1000000 ≤ to) (h4 : to ≤ 1000000) (B g : Nat) (T : Nat → Prop) (N : Nat) (m : Em) (w : World) (h : CdAt w B g T N m) (hN : N ≤ 100000) :
    Calls Tryd.prog 34 #[.pointer (some ⟨g, 0, none⟩), .int .i64 x, .int .i64 to] w fun e w' => e = .returned (.tuple #[]) ∧ CdPost w w' B g T N (patchE m x (to - x - 1)) := by
  have PE := Lib.hid (patch_any x (to - x - 1) (by unfold I64; omega) B g T N m w h hN)
  have PL := Lib.hid (patch_len m x (to - x - 1))
  rw [← PL.out] at PE
  clear h hN
  generalize patchE m x (to - x - 1) = m2 at *
  go_enter Tryd.func34, Tryd.ntmps34
  go_wp2_with fail
  refine PE.out.mono ?_
  rintro e y1 ⟨rfl, hp⟩
  have HP := Lib.hid hp
  clear hp PE
  go_wp2_with fail
  first | go_end0 | refine bodyPost_ret (results_none rfl _ _ _) rfl ?_
  exact ⟨rfl, HP.out⟩

set_option maxHeartbeats 16000000 in
set_option maxRecDepth 100000 in
theorem land_any (x : Int) (h1 : -1000000 ≤ x) (h2 : x ≤ 1000000) (B g : Nat) (T : Nat → Prop) (N : Nat) (m : Em) (w : World) (h : CdAt w B g T N m) (hN : N ≤ 100000) :
    Calls Tryd.prog 16 #[.pointer (some ⟨g, 0, none⟩), .int .i64 x] w fun e w' => e = .returned (.tuple #[]) ∧ CdPost w w' B g T N (patchE m x (m.L.length - x - 1)) := by
  have hl : m.L.length ≤ 16384 := by obtain ⟨_, _, _, _, _, _, _, _, h0⟩ := h; exact h0.ok.len
  have HE := Lib.hid (here_any B g T N m.L.length m w h)
  have AE := Lib.hid (aim_any x m.L.length h1 h2 (by omega) (by omega) B g T N m w h hN)
  clear h hN
  generalize patchE m x (m.L.length - x - 1) = m2 at *
  go_enter Tryd.func16, Tryd.ntmps16
  go_wp2_with fail
  refine HE.out.mono ?_
  rintro e y0 ⟨rfl, rfl⟩
  go_wp2_with fail
  refine AE.out.mono ?_
  rintro e y1 ⟨rfl, hp⟩
  have HP := Lib.hid hp
  clear hp AE HE
  go_wp2_with fail
  first | go_end0 | refine bodyPost_ret (results_none rfl _ _ _) rfl ?_
  exact ⟨rfl, HP.out⟩

set_option maxHeartbeats 16000000 in
set_option maxRecDepth 100000 in
theorem back_any (op a to : Int) (ho : I64 op) (ha : I64 a) (h3 : -1000000 ≤ to) (h4 : to ≤ 1000000) (B g : Nat) (T : Nat → Prop) (N : Nat) (m : Em) (w : World) (h : CdAt w B g T N m) (hN : N ≤ 100000) :
    Calls Tryd.prog 18 #[.pointer (some ⟨g, 0, none⟩), .int .i64 op, .int .i64 a, .int .i64 to] w fun e w' => e = .returned (.tuple #[]) ∧ CdPost w w' B g T N (patchE (putE m ⟨op, a, 0, 0, 0⟩) ((putE m ⟨op, a, 0, 0, 0⟩).L.length - 1) (to - (putE m ⟨op, a, 0, 0, 0⟩).L.length)) := by
  have JE := Lib.hid (jump_any op a ho ha B g T N m w h hN)
  have AE := Lib.hid (fun T y (h : CdAt y B g T N (putE m ⟨op, a, 0, 0, 0⟩)) => aim_any ((putE m ⟨op, a, 0, 0, 0⟩).L.length - 1) to (by omega) (by have : (putE m ⟨op, a, 0, 0, 0⟩).L.length ≤ 16384 := (by obtain ⟨_, _, _, _, _, _, _, _, h0⟩ := h; exact h0.ok.len); omega) h3 h4 B g T N (putE m ⟨op, a, 0, 0, 0⟩) y h hN)
  have EQ := Lib.hid (show to - ((putE m ⟨op, a, 0, 0, 0⟩).L.length - 1) - 1 = to - (putE m ⟨op, a, 0, 0, 0⟩).L.length by omega)
  rw [EQ.out] at AE
  clear h hN
  generalize (putE m ⟨op, a, 0, 0, 0⟩) = m1 at *
  generalize patchE m1 (m1.L.length - 1) (to - m1.L.length) = m2 at *
  go_enter Tryd.func18, Tryd.ntmps18
  go_wp2_with fail
  refine JE.out.mono ?_
  rintro e y1 ⟨rfl, T1, hc, hk, ht⟩
  have C1 := Lib.hid hc
  have K1 := Lib.hid hk
  have O1 := Lib.hid ht
  clear hc hk ht JE
  have P2 := Lib.hid (AE.out T1 y1 C1.out)
  clear C1 AE
  go_wp2_with fail
  refine P2.out.mono ?_
  rintro e y2 ⟨rfl, T2, hc, hk, ht⟩
  have C2 := Lib.hid hc
  have K2 := Lib.hid hk
  have O2 := Lib.hid ht
  clear hc hk ht P2
  go_wp2_with fail
  first | go_end0 | refine bodyPost_ret (results_none rfl _ _ _) rfl ?_
  exact ⟨rfl, CdPM.trans K1.out O1.out ⟨T2, C2.out, K2.out, O2.out⟩⟩
end Go.Proofs.YtcijjmmckofckaaDoor
