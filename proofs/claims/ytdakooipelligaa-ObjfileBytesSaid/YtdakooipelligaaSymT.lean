/- Symfile: the program's reader: a word, imports. -/
import Derived.Test.YtdakooipelligaaSymA
import Derived.Test.YtdakooipelligaaSymK0
import Derived.Test.YtdakooipelligaaFngN
namespace Go.Proofs.Ytdakooipelligaa
open Go.ChangeShapes Go.WideShapes Go.ChangeAt Go.RowKit
set_option linter.unusedVariables false
set_option linter.unusedSimpArgs false

set_option maxHeartbeats 16000000 in
set_option maxRecDepth 100000 in
theorem rword_no (g D : Nat) (zs : List Int) (err : Int) (w : World) (h : RdAt w g D zs err) (hl : zs.length < 4) :
    Calls Try.prog 32 #[.pointer (some ⟨g, 0, none⟩)] w fun e w' => e = .returned (.int .u32 0) ∧ RdAt w' g D [] (errP err 120) ∧ KeptS (RdS g) w w' := by
  have T := Lib.hid (rtake_short 4 g D zs err w h hl (by decide))
  have hnil := bs_nil_yes
  clear h
  go_enter Try.func32, Try.ntmps32
  go_wp2_with fail
  refine T.out.mono ?_
  rintro e w1 ⟨rfl, hr, hk⟩
  have R := Lib.hid hr
  have K := Lib.hid hk
  clear hr hk
  go_wp2_with fail
  go_ret
  exact ⟨rfl, R.out, K.out⟩

theorem rword_any (g D : Nat) (st : RSt) (w : World) (h : RdAt w g D st.1 st.2) (ok : RdOk st) :
    Calls Try.prog 32 #[.pointer (some ⟨g, 0, none⟩)] w fun e w' => e = .returned (.int .u32 (wordP st.1 st.2).1) ∧ RdAt w' g D (wordP st.1 st.2).2.1 (wordP st.1 st.2).2.2 ∧ KeptS (RdS g) w w' := by
  obtain ⟨zs, err⟩ := st
  by_cases hl : zs.length < 4
  · simp only [wordP_no hl]
    exact rword_no g D zs err w h hl
  · match zs, hl, h, ok with
    | z0 :: z1 :: z2 :: z3 :: r, _, h, ok =>
      have hb := ok.byt
      have hn := ok.len
      have b0 := hb z0 (by simp)
      have b1 := hb z1 (by simp)
      have b2 := hb z2 (by simp)
      have b3 := hb z3 (by simp)
      exact rword_yes g D z0 z1 z2 z3 r err w h (by simp at hn; omega) b0.1 b0.2 b1.1 b1.2 b2.1 b2.2 b3.1 b3.2
    | [], hl, _, _ => exact absurd (show (0 : Nat) < 4 by decide) hl
    | [_], hl, _, _ => exact absurd (show (1 : Nat) < 4 by decide) hl
    | [_, _], hl, _, _ => exact absurd (show (2 : Nat) < 4 by decide) hl
    | [_, _, _], hl, _, _ => exact absurd (show (3 : Nat) < 4 by decide) hl

/-- In the middle of imports that are read: the Reader at g, the row. -/
structure RiF (w0 w : World) (g D : Nat) (zs : List Int) (err : Int) (v : Value) (l : List Im) : Prop where
  R : RdAt w g D zs err
  K : KeptS (RdS g) w0 w
  P : w.ownsRow w0.heap.size pI 2 v l.length (l.flatMap imCells)
  lg : g < w0.heap.size
  lD : D < w0.heap.size

section
variable {w0 w w' : World} {g D : Nat} {zs zs' : List Int} {err err' : Int} {v v' : Value} {l : List Im}

theorem RiF.call (h : RiF w0 w g D zs err v l) (hr : RdAt w' g D zs' err') (hk : KeptS (RdS g) w w') : RiF w0 w' g D zs' err' v l :=
  ⟨hr, h.K.trans hk (fun i hi => .inl hi), hk.row h.P (fun b hb hs => by have := (World.ownsRow.lt h.P b hb).1; have := h.lg; have hs : b = g := hs; omega), h.lg, h.lD⟩

theorem RiF.below (h : RiF w0 w g D zs err v l) (hb : Below w.heap.size w w') : RiF w0 w' g D zs err v l :=
  ⟨h.R.below hb, h.K.trans (S' := fun _ => False) (KeptS.ofBelow hb) (fun i hi => hi.elim), row_below h.P hb, h.lg, h.lD⟩

/-- A store into a box of another. -/
theorem RiF.far (h : RiF w0 w g D zs err v l) {p i : Nat} {u : Value} (hp : w0.heap.size ≤ p) (ho : v.ownBlock ≠ some p) : RiF w0 (w.setCell ⟨p, i, none⟩ u) g D zs err v l :=
  ⟨rdAt_store h.R (by have := h.lg; omega) (by have := h.lD; omega),
    h.K.trans (S' := fun b => b = p) (KeptS.set rfl) (fun i hi => .inr (by omega)),
    (KeptS.set (S := fun b => b = p) (w := w) (g := p) (j := i) (u := u) rfl).row h.P (fun b hb hs => by subst hs; exact ho hb), h.lg, h.lD⟩

/-- The row grown. -/
theorem RiF.grown (h : RiF w0 w g D zs err v l) {x : Im} (hg : w.grownBy w' v.ownBlock) (ho : w'.ownsRow w0.heap.size pI 2 v' (l.length + 1) (l.flatMap imCells ++ imCells x)) : RiF w0 w' g D zs err v' (l ++ [x]) := by
  have hne : ∀ b, v.ownBlock = some b → w0.heap.size ≤ b := fun b hb => (World.ownsRow.lt h.P b hb).1
  have hk : KeptS (fun b => v.ownBlock = some b) w w' := KeptS.grown hg (fun b hb => hb)
  refine ⟨h.R.keep hk (fun hs => ?_) (fun hs => ?_), h.K.trans hk (fun i hi => .inr (hne i hi)), by rw [List.length_append, List.flatMap_append, List.length_singleton, List.flatMap_singleton]; exact ho, h.lg, h.lD⟩
  · have := hne g hs
    have := h.lg
    omega
  · have := hne D hs
    have := h.lD
    omega
end

/-- What Read of imports leaves. -/
def RdIms (w : World) (g D : Nat) (st : RSt) (e : Ending) (w' : World) : Prop :=
  ∃ v, e = .returned v ∧ w'.ownsRow w.heap.size pI 2 v (rdAllI st).1.length ((rdAllI st).1.flatMap imCells) ∧ RdAt w' g D (rdAllI st).2.1 (rdAllI st).2.2 ∧ KeptS (RdS g) w w'

set_option maxHeartbeats 16000000 in
set_option maxRecDepth 100000 in
theorem iread_any (g D : Nat) (st0 : RSt) (w : World) (h : RdAt w g D st0.1 st0.2) (ok : RdOk st0) :
    Calls Try.prog 34 #[.pointer (some ⟨g, 0, none⟩)] w fun e w' => RdIms w g D st0 e w' := by
  have C0 := Lib.hid (rcount_any 64 g D st0.1 st0.2 w h (by have := ok.len; omega) ok.byt (by decide))
  have OK0 := Lib.hid (ok.groups 64)
  have LN := Lib.hid (groupsP_le st0.1 st0.2 64)
  have LG := Lib.hid h.lt.1
  have LD := Lib.hid h.lt.2
  have AL := Lib.hid (show rdAllI st0 = ((if (rdIms (groupsP st0.1 st0.2 64).1 [] (groupsP st0.1 st0.2 64).2).2.2 = 0 then (rdIms (groupsP st0.1 st0.2 64).1 [] (groupsP st0.1 st0.2 64).2).1 else []), (rdIms (groupsP st0.1 st0.2 64).1 [] (groupsP st0.1 st0.2 64).2).2) from rfl)
  have UL := Lib.hid (show ∀ e w', RdIms w g D st0 e w' = (∃ v, e = .returned v ∧ w'.ownsRow w.heap.size pI 2 v (rdAllI st0).1.length ((rdAllI st0).1.flatMap imCells) ∧ RdAt w' g D (rdAllI st0).2.1 (rdAllI st0).2.2 ∧ KeptS (RdS g) w w') from fun _ _ => rfl)
  obtain ⟨i0, hi0, hz0, hz1, hz2⟩ := info_parts imInfo
  clear h ok
  generalize rdAllI st0 = RA at *
  generalize groupsP st0.1 st0.2 64 = gn at *
  obtain ⟨n, zs1, e1⟩ := gn
  have hn : n ≤ 64 := LN.out
  have AL2 := Lib.hid (show RA = ((if (rdIms n [] (zs1, e1)).2.2 = 0 then (rdIms n [] (zs1, e1)).1 else []), (rdIms n [] (zs1, e1)).2) from AL.out)
  clear AL
  generalize hre : rdIms n [] (zs1, e1) = re at *
  have HRE := Lib.hid hre
  clear hre
  go_enter Try.func34, Try.ntmps34
  go_wp2_with fail
  refine C0.out.mono ?_
  rintro e w1 ⟨rfl, hr, hk⟩
  have F0 := Lib.hid (show RiF w w1 g D zs1 e1 (.slice none 0 0) [] from ⟨hr, hk, row_nil _ _ _ _, LG.out, LD.out⟩)
  clear hr hk C0
  go_wp2_with fail
  go_loopw [3, 7] (fun v i wr => ∃ (t : Nat) (st : RSt) (l : List Im), t ≤ n ∧ i = .int .i64 t ∧ RdOk st ∧ l.length = t ∧ rdIms (n - t) l st = re ∧ RiF w wr g D st.1 st.2 v l) (fun _ i _ => n - (intOf i).toNat)
  case atStart => exact ⟨0, (zs1, e1), [], Nat.zero_le _, rfl, OK0.out, rfl, HRE.out, F0.out⟩
  case round =>
    clear F0 OK0 HRE
    obtain ⟨t, st, l, ht, rfl, hok, hpl, hrd, hf⟩ := hrel
    obtain ⟨A0, c0, rfl⟩ := row_form hf.P
    have F := Lib.hid hf
    have OKS := Lib.hid hok
    have RD := Lib.hid hrd
    have HPL := Lib.hid hpl
    have PB := Lib.hid (show l.length ≤ 64 by omega)
    clear hok hrd hpl
    by_cases hlt : t < n
    · have hI : (t : Int) < n := by omega
      have RD1 := Lib.hid (show rdIms (n - (t + 1)) (l ++ [(rdIm st).1]) (rdIm st).2 = re from by
        rw [← RD.out, show n - t = (n - (t + 1)) + 1 by omega]
        rfl)
      have OK2 := Lib.hid OKS.out.im
      have PE := Lib.hid (show rdIm st = (⟨(textP st.1 st.2 32).1, (wordP (textP st.1 st.2 32).2.1 (textP st.1 st.2 32).2.2).1⟩, (wordP (textP st.1 st.2 32).2.1 (textP st.1 st.2 32).2.2).2) from rfl)
      have q1 := (Below.refl wr.heap.size wr).alloc (Nat.le_refl _) (.cells #[.string ⟨#[]⟩, .int .u32 0] pI)
      have F1 := Lib.hid (hf.below q1)
      have Y1 := Lib.hid (Whole.made wr pI #[.string ⟨#[]⟩, .int .u32 0] _ rfl)
      have NE := Lib.hid (show (wr.heap.size ≠ g ∧ wr.heap.size ≠ D) ∧ w.heap.size ≤ wr.heap.size from by
        have h1 := hf.R.lt
        have h4 := hf.K.size
        omega)
      have NO := Lib.hid (show (Value.slice A0 l.length c0).ownBlock ≠ some wr.heap.size from fun e => by
        have := (World.ownsRow.lt hf.P _ e).2
        omega)
      have CT := Lib.hid (rtext_any 32 g D st.1 st.2 _ F1.out.R (by have := OKS.out.len; omega) OKS.out.byt (by decide))
      have OKT := Lib.hid (OKS.out.text 32)
      have CR := Lib.hid (fun W (h : RdAt W g D (textP st.1 st.2 32).2.1 (textP st.1 st.2 32).2.2) => rword_any g D (textP st.1 st.2 32).2 W h OKT.out)
      generalize rdIm st = rp at *
      generalize wordP (textP st.1 st.2 32).2.1 (textP st.1 st.2 32).2.2 = gr at *
      generalize textP st.1 st.2 32 = gt at *
      obtain ⟨nm, zt, et⟩ := gt
      obtain ⟨kw, zr, er⟩ := gr
      obtain rfl := PE.out
      have RD2 := Lib.hid (show rdIms (n - (t + 1)) (l ++ [⟨nm, kw⟩]) (zr, er) = re from RD1.out)
      have OK3 := Lib.hid (show RdOk (zr, er) from OK2.out)
      clear PE RD RD1 OK2 OKT q1 hf
      go_wp2_with fail
      generalize hZ0 : wr.alloc (.cells #[.string ⟨#[]⟩, .int .u32 0] pI) = W0 at *
      clear hZ0
      generalize wr.heap.size = p at *
      refine CT.out.mono ?_
      rintro e w6 ⟨rfl, hr, hk⟩
      have F6 := Lib.hid (F1.out.call hr hk)
      have Y6 := Lib.hid (hk.whole Y1.out NE.out.1.1)
      have F6' := Lib.hid (F6.out.far (i := 0) (u := .string nm) NE.out.2 NO.out)
      have Y6' := Lib.hid (show Whole (w6.setCell ⟨p, 0, none⟩ (.string nm)) p pI #[.string nm, .int .u32 0] from Y6.out.store 0 _)
      have CR1 := Lib.hid (CR.out _ F6'.out.R)
      have c0' : w6.cell? ⟨p, 0, none⟩ = some (.string ⟨#[]⟩) := Y6.out.cell 0
      have f0 : w6.frozen? ⟨p, 0, none⟩ = false := Y6.out.free 0
      clear hr hk F1 Y1 CT CR
      go_wp2_with fail
      clear c0' f0 F6 Y6
      generalize hZ0 : w6.setCell ⟨p, 0, none⟩ (.string nm) = W1 at *
      clear hZ0
      refine CR1.out.mono ?_
      rintro e w7 ⟨rfl, hr, hk⟩
      have F7 := Lib.hid (F6'.out.call hr hk)
      have Y7 := Lib.hid (hk.whole Y6'.out NE.out.1.1)
      have F7' := Lib.hid (F7.out.far (i := 1) (u := .int .u32 kw) NE.out.2 NO.out)
      have Y7' := Lib.hid (show Whole (w7.setCell ⟨p, 1, none⟩ (.int .u32 kw)) p pI #[.string nm, .int .u32 kw] from Y7.out.store 1 _)
      have c1 : w7.cell? ⟨p, 1, none⟩ = some (.int .u32 0) := Y7.out.cell 1
      have f1 : w7.frozen? ⟨p, 1, none⟩ = false := Y7.out.free 1
      have y0 : (w7.setCell ⟨p, 1, none⟩ (.int .u32 kw)).cell? ⟨p, 0, none⟩ = some (.string nm) := Y7'.out.cell 0
      have y1 : (w7.setCell ⟨p, 1, none⟩ (.int .u32 kw)).cell? ⟨p, 1, none⟩ = some (.int .u32 kw) := Y7'.out.cell 1
      have b8 := (Below.refl (w7.setCell ⟨p, 1, none⟩ (.int .u32 kw)).heap.size (w7.setCell ⟨p, 1, none⟩ (.int .u32 kw))).alloc (Nat.le_refl _) (.cells #[.string nm, .int .u32 kw] pI)
      have F8 := Lib.hid (F7'.out.below b8)
      have NC := Lib.hid (show ∀ (j : Nat) u, ([.string nm, .int .u32 kw] : List Value)[j]? = some u → ((w7.setCell ⟨p, 1, none⟩ (.int .u32 kw)).alloc (.cells #[.string nm, .int .u32 kw] pI)).cell? ((⟨w7.heap.size, 0, none⟩ : Addr).add j) = some u from fun j u hj => by rw [Go.WideShapes.add_plain, Nat.zero_add]; exact ((Whole.made (w7.setCell ⟨p, 1, none⟩ (.int .u32 kw)) pI #[.string nm, .int .u32 kw] w7.heap.size (by simp)).cell j).trans (by simpa using hj))
      have HBASE := Lib.hid (F8.out.K.size)
      clear hr hk b8 F6' Y6' CR1 F7 Y7 F7' Y7'
      go_wp2_with (at_builtin; refine wpList_append_own_at _ rfl _ _ 23 rfl w.heap.size pI i0 _ 2 24 Try.underlying23 hi0 hz0 hz1 hz2 rfl (by decide) (.slice A0 l.length c0) l.length _ rfl F8.out.P ⟨_, 0, none⟩ 1 1 [.string nm, .int .u32 kw] rfl rfl NC.out (fun u hu => by simp at hu; rcases hu with rfl | rfl <;> rfl) (by have := PB.out; unfold maxLen; omega) (by have := PB.out; omega) HBASE.out ?_; intro v3 w3 ho3 hg3 _ _; obtain ⟨A3, c3, rfl⟩ := row_form ho3; have F9 := Lib.hid (F8.out.grown (x := ⟨nm, kw⟩) hg3 ho3); clear ho3 hg3)
      clear c1 f1 y0 y1 NC F8
      go_roundw
      case rel => exact ⟨t + 1, (zr, er), l ++ [⟨nm, kw⟩], by omega, by go_num, OK3.out, by rw [List.length_append, List.length_singleton, HPL.out], RD2.out, F9.out⟩
      case measure => simp [intOf]; omega
    · have hI : ¬ (t : Int) < n := by omega
      obtain rfl : t = n := by omega
      have E := RD.out
      rw [Nat.sub_self] at E
      have HE := Lib.hid (show (l, st) = re from E)
      obtain rfl := HE.out
      clear E RD HE hf
      obtain ⟨zs, er⟩ := st
      have RR := Lib.hid (show RA = ((if er = 0 then l else []), (zs, er)) from AL2.out)
      have ER := Lib.hid (rerr_any g D zs er wr F.out.R)
      by_cases h0 : er = 0
      · have hne : (er != 0) = false := by simp [h0]
        have RZ := Lib.hid (show RA = (l, (zs, er)) from by rw [RR.out, if_pos h0])
        clear h0 RR AL2
        go_wp2_with fail
        refine ER.out.mono ?_
        rintro e w4 ⟨rfl, rfl⟩
        go_wp2_with fail
        go_ret
        rw [UL.out, RZ.out]
        exact ⟨_, rfl, F.out.P, F.out.R, F.out.K⟩
      · have hne : (er != 0) = true := by simp [h0]
        have RZ := Lib.hid (show RA = ([], (zs, er)) from by rw [RR.out, if_neg h0])
        clear h0 RR AL2
        go_wp2_with fail
        refine ER.out.mono ?_
        rintro e w4 ⟨rfl, rfl⟩
        go_wp2_with fail
        go_ret
        rw [UL.out, RZ.out]
        exact ⟨_, rfl, row_nil _ _ _ _, F.out.R, F.out.K⟩
end Go.Proofs.Ytdakooipelligaa
