/- Finger: the program's readExport. -/
import Derived.Test.YthmjniedfiabhaaFngL
import Derived.Test.YthmjniedfiabhaaRowSet
import Derived.Maps.AppendAt
import Derived.Deep.RegionHeld3
import Derived.BigRegion
namespace Go.Proofs.Ythmjniedfiabhaa
open Go.ChangeShapes Go.WideShapes Go.ChangeAt Go.RowKit
set_option linter.unusedVariables false
set_option linter.unusedSimpArgs false

theorem parInfo : (Try.prog.info? pP).map (fun i => (i.zero, i.size, i.bytes)) = some (some (.agg #[.int .i64 0, .bool false]), 2, 16) := by kernel_rfl

theorem exInfo : (Try.prog.info? pE).map (fun i => (i.zero, i.size, i.bytes)) = some (some (.agg #[.string ⟨#[]⟩, .int .i64 0, .int .i64 0, .int .i32 0, .slice none 0 0]), 5, 64) := by kernel_rfl

theorem rdAt_store {w : World} {g D x i : Nat} {zs : List Int} {err : Int} {u : Value} (h : RdAt w g D zs err) (hg : g ≠ x) (hD : D ≠ x) : RdAt (w.setCell ⟨x, i, none⟩ u) g D zs err :=
  h.keep (S := fun b => b = x) (KeptS.set rfl) hg hD

theorem set_five {w : World} {g : Nat} {t : TypeId} {c0 c1 c2 c3 c4 : Value} (h : Whole w g t #[c0, c1, c2, c3, c4]) (u0 u1 u2 u3 u4 : Value) :
    Whole (((((w.setCell ⟨g, 0, none⟩ u0).setCell ⟨g, 1, none⟩ u1).setCell ⟨g, 2, none⟩ u2).setCell ⟨g, 3, none⟩ u3).setCell ⟨g, 4, none⟩ u4) g t #[u0, u1, u2, u3, u4] ∧ w.grownBy (((((w.setCell ⟨g, 0, none⟩ u0).setCell ⟨g, 1, none⟩ u1).setCell ⟨g, 2, none⟩ u2).setCell ⟨g, 3, none⟩ u3).setCell ⟨g, 4, none⟩ u4) (some g) :=
  ⟨((((h.store 0 u0).store 1 u1).store 2 u2).store 3 u3).store 4 u4, ((((grown_set w g 0 u0).trans (grown_set _ g 1 u1)).trans (grown_set _ g 2 u2)).trans (grown_set _ g 3 u3)).trans (grown_set _ g 4 u4)⟩

/-- In the middle of an export that is read: the Reader at g; the export's box x, the result's box q; the row of its parameters. -/
structure RxF (w0 w : World) (g D : Nat) (zs : List Int) (err : Int) (x q : Nat) (xc : Array Value) (pv : Value) (ps : List (Int × Bool)) : Prop where
  R : RdAt w g D zs err
  X : Whole w x pE xc
  Q : Whole w q pE #[.string ⟨#[]⟩, .int .i64 0, .int .i64 0, .int .i32 0, .slice none 0 0]
  K : KeptS (RdS g) w0 w
  P : w.ownsRow w0.heap.size pP 2 pv ps.length (ps.flatMap parCells)
  lg : g < w0.heap.size
  lD : D < w0.heap.size
  lx : w0.heap.size ≤ x
  lq : w0.heap.size ≤ q
  ne : x ≠ q

section
variable {w0 w w' : World} {g D : Nat} {zs zs' : List Int} {err err' : Int} {x q : Nat} {xc : Array Value} {pv pv' : Value} {ps : List (Int × Bool)}

theorem RxF.call (h : RxF w0 w g D zs err x q xc pv ps) (hr : RdAt w' g D zs' err') (hk : KeptS (RdS g) w w') : RxF w0 w' g D zs' err' x q xc pv ps :=
  ⟨hr, hk.whole h.X (by have := h.lg; have := h.lx; show ¬ x = g; omega), hk.whole h.Q (by have := h.lg; have := h.lq; show ¬ q = g; omega), h.K.trans hk (fun i hi => .inl hi), hk.row h.P (fun b hb hs => by have := (World.ownsRow.lt h.P b hb).1; have := h.lg; have hs : b = g := hs; omega), h.lg, h.lD, h.lx, h.lq, h.ne⟩

theorem RxF.put (h : RxF w0 w g D zs err x q xc pv ps) (i : Nat) (u : Value) : RxF w0 (w.setCell ⟨x, i, none⟩ u) g D zs err x q (xc.setIfInBounds i u) pv ps :=
  ⟨rdAt_store h.R (by have := h.lg; have := h.lx; omega) (by have := h.lD; have := h.lx; omega), h.X.store i u, h.Q.far h.ne.symm u,
    h.K.trans (S' := fun b => b = x) (KeptS.set rfl) (fun i hi => .inr (by have := h.lx; omega)),
    (KeptS.set (S := fun b => b = x) (w := w) (g := x) (j := i) (u := u) rfl).row h.P (fun b hb hs => by subst hs; exact row_ne h.P h.X (fun _ _ e => by injection e with _ e _; exact absurd e (by decide)) hb), h.lg, h.lD, h.lx, h.lq, h.ne⟩

theorem RxF.below (h : RxF w0 w g D zs err x q xc pv ps) (hb : Below w.heap.size w w') : RxF w0 w' g D zs err x q xc pv ps :=
  ⟨h.R.below hb, h.X.below hb h.X.lt, h.Q.below hb h.Q.lt, h.K.trans (S' := fun _ => False) (KeptS.ofBelow hb) (fun i hi => hi.elim), row_below h.P hb, h.lg, h.lD, h.lx, h.lq, h.ne⟩

/-- A store into a box of another. -/
theorem RxF.far (h : RxF w0 w g D zs err x q xc pv ps) {p i : Nat} {u : Value} (hp : w0.heap.size ≤ p) (hx : x ≠ p) (hq : q ≠ p) (ho : pv.ownBlock ≠ some p) : RxF w0 (w.setCell ⟨p, i, none⟩ u) g D zs err x q xc pv ps :=
  ⟨rdAt_store h.R (by have := h.lg; omega) (by have := h.lD; omega), h.X.far hx u, h.Q.far hq u,
    h.K.trans (S' := fun b => b = p) (KeptS.set rfl) (fun i hi => .inr (by omega)),
    (KeptS.set (S := fun b => b = p) (w := w) (g := p) (j := i) (u := u) rfl).row h.P (fun b hb hs => by subst hs; exact ho hb), h.lg, h.lD, h.lx, h.lq, h.ne⟩

/-- The row of the parameters grown. -/
theorem RxF.grown (h : RxF w0 w g D zs err x q xc pv ps) {p : Int × Bool} (hg : w.grownBy w' pv.ownBlock) (ho : w'.ownsRow w0.heap.size pP 2 pv' (ps.length + 1) (ps.flatMap parCells ++ parCells p)) : RxF w0 w' g D zs err x q xc pv' (ps ++ [p]) := by
  have hne : ∀ b, pv.ownBlock = some b → w0.heap.size ≤ b := fun b hb => (World.ownsRow.lt h.P b hb).1
  have hk : KeptS (fun b => pv.ownBlock = some b) w w' := KeptS.grown hg (fun b hb => hb)
  refine ⟨h.R.keep hk (fun hs => ?_) (fun hs => ?_), hk.whole h.X (fun hs => ?_), hk.whole h.Q (fun hs => ?_), h.K.trans hk (fun i hi => .inr (hne i hi)), by rw [List.length_append, List.flatMap_append, List.length_singleton, List.flatMap_singleton]; exact ho, h.lg, h.lD, h.lx, h.lq, h.ne⟩
  · have := hne g hs
    have := h.lg
    omega
  · have := hne D hs
    have := h.lD
    omega
  · exact row_ne h.P h.X (fun _ _ e => by injection e with _ e _; exact absurd e (by decide)) hs
  · exact row_ne h.P h.Q (fun _ _ e => by injection e with _ e _; exact absurd e (by decide)) hs
end

set_option maxHeartbeats 32000000 in
set_option maxRecDepth 100000 in
theorem readexp_any (g D : Nat) (zs : List Int) (err : Int) (w : World) (h : RdAt w g D zs err) (ok : RdOk (zs, err)) :
    Calls Try.prog 72 #[.pointer (some ⟨g, 0, none⟩)] w fun e w' => ∃ A c, e = .returned (.agg #[.string (rdEx (zs, err)).1.nm, .int .i64 (rdEx (zs, err)).1.kd, .int .i64 (rdEx (zs, err)).1.ty, .int .i32 (rdEx (zs, err)).1.vl, .slice A (rdEx (zs, err)).1.ps.length c]) ∧
      w'.ownsRow w.heap.size pP 2 (.slice A (rdEx (zs, err)).1.ps.length c) (rdEx (zs, err)).1.ps.length ((rdEx (zs, err)).1.ps.flatMap parCells) ∧ RdAt w' g D (rdEx (zs, err)).2.1 (rdEx (zs, err)).2.2 ∧ KeptS (RdS g) w w' := by
  have OA := Lib.hid ok.ra
  have OB := Lib.hid ok.rb
  have OC := Lib.hid ok.rc
  have OD := Lib.hid ok.rd
  have OE := Lib.hid ok.re
  have OK := Lib.hid ok
  have LE := Lib.hid (rsE_le (zs, err))
  have EX := Lib.hid (show rdEx (zs, err) = (⟨(rsA (zs, err)).1, (rsB (zs, err)).1, (rsC (zs, err)).1, zagN (rsD (zs, err)).1, (rdPars (rsE (zs, err)).1 [] (rsE (zs, err)).2).1⟩, (rdPars (rsE (zs, err)).1 [] (rsE (zs, err)).2).2) from rfl)
  have F0 := Lib.hid (show RxF w ((w.alloc (.cells #[.string ⟨#[]⟩, .int .i64 0, .int .i64 0, .int .i32 0, .slice none 0 0] pE)).alloc (.cells #[.string ⟨#[]⟩, .int .i64 0, .int .i64 0, .int .i32 0, .slice none 0 0] pE)) g D zs err (w.heap.size + 1) w.heap.size #[.string ⟨#[]⟩, .int .i64 0, .int .i64 0, .int .i32 0, .slice none 0 0] (.slice none 0 0) [] from
    ⟨(h.below ((Below.refl w.heap.size w).alloc (Nat.le_refl _) _)).below ((Below.refl _ _).alloc (Nat.le_refl _) _), Whole.made _ pE _ _ (by simp), (Whole.made w pE _ _ rfl).alloc _, KeptS.ofBelow (((Below.refl w.heap.size w).alloc (Nat.le_refl _) _).alloc (by simp) _), row_nil _ _ _ _, h.lt.1, h.lt.2, Nat.le_succ _, Nat.le_refl _, by omega⟩)
  have C1 := Lib.hid (rtext_any 32 g D zs err _ F0.out.R (by have := ok.len; simp at this; omega) ok.byt (by decide))
  have A1 := Lib.hid (show rsA (zs, err) = textP zs err 32 from rfl)
  rw [← A1.out] at C1
  have CB := Lib.hid (fun W (h : RdAt W g D (rsA (zs, err)).2.1 (rsA (zs, err)).2.2) => rcount_any 8 g D _ _ W h (by have := OA.out.len; omega) OA.out.byt (by decide))
  have A2 := Lib.hid (show rsB (zs, err) = groupsP (rsA (zs, err)).2.1 (rsA (zs, err)).2.2 8 from rfl)
  rw [← A2.out] at CB
  have CC := Lib.hid (fun W (h : RdAt W g D (rsB (zs, err)).2.1 (rsB (zs, err)).2.2) => rcount_any 4096 g D _ _ W h (by have := OB.out.len; omega) OB.out.byt (by decide))
  have A3 := Lib.hid (show rsC (zs, err) = groupsP (rsB (zs, err)).2.1 (rsB (zs, err)).2.2 4096 from rfl)
  rw [← A3.out] at CC
  have CD := Lib.hid (fun W (h : RdAt W g D (rsC (zs, err)).2.1 (rsC (zs, err)).2.2) => rnumber_any g D _ _ W h (by have := OC.out.len; omega) OC.out.byt)
  have A4 := Lib.hid (show rsD (zs, err) = groupsP (rsC (zs, err)).2.1 (rsC (zs, err)).2.2 4294967295 from rfl)
  rw [← A4.out] at CD
  have CE := Lib.hid (fun W (h : RdAt W g D (rsD (zs, err)).2.1 (rsD (zs, err)).2.2) => rcount_any 16 g D _ _ W h (by have := OD.out.len; omega) OD.out.byt (by decide))
  have A5 := Lib.hid (show rsE (zs, err) = groupsP (rsD (zs, err)).2.1 (rsD (zs, err)).2.2 16 from rfl)
  rw [← A5.out] at CE
  clear A1 A2 A3 A4 A5 OA OB OC OD h ok
  generalize rdEx (zs, err) = RX at *
  generalize rsA (zs, err) = sA at *
  generalize rsB (zs, err) = sB at *
  generalize rsC (zs, err) = sC at *
  generalize rsD (zs, err) = sD at *
  generalize rsE (zs, err) = sE at *
  obtain ⟨nm, zA, eA⟩ := sA
  obtain ⟨kd, zB, eB⟩ := sB
  obtain ⟨ty, zC, eC⟩ := sC
  obtain ⟨vl, zD, eD⟩ := sD
  obtain ⟨mp, zE, eE⟩ := sE
  generalize hvl : zagN vl = vv at *
  clear hvl
  obtain ⟨⟨xn, xk, xt, xv, xp⟩, xs, xe⟩ := RX
  have EX1 := EX.out
  injection EX1 with EX1 EX2
  injection EX1 with g0 g1 g2 g3 g4
  subst g0 g1 g2 g3 g4
  have hz2 := EX2
  clear EX
  have EXS := Lib.hid hz2
  clear hz2
  have hmp : mp ≤ 16 := LE.out
  go_enter Try.func72, Try.ntmps72
  go_wp2_with fail
  refine (C1.out).mono ?_
  rintro e w1 ⟨rfl, hr, hk⟩
  have G1 := Lib.hid (F0.out.call hr hk)
  have F1 := Lib.hid (G1.out.put 0 (.string xn))
  have c0 : w1.cell? ⟨(w.heap.size + 1), 0, none⟩ = some (.string ⟨#[]⟩) := G1.out.X.cell 0
  have f0 : w1.frozen? ⟨(w.heap.size + 1), 0, none⟩ = false := G1.out.X.free 0
  clear hr hk F0
  go_wp2_with fail
  clear c0 f0 G1
  refine (CB.out _ F1.out.R).mono ?_
  rintro e w2 ⟨rfl, hr, hk⟩
  have G2 := Lib.hid (F1.out.call hr hk)
  have F2 := Lib.hid (G2.out.put 1 (.int .i64 (kd : Nat)))
  have c1 : w2.cell? ⟨(w.heap.size + 1), 1, none⟩ = some (.int .i64 0) := G2.out.X.cell 1
  have f1 : w2.frozen? ⟨(w.heap.size + 1), 1, none⟩ = false := G2.out.X.free 1
  clear hr hk F1
  go_wp2_with fail
  clear c1 f1 G2
  refine (CC.out _ F2.out.R).mono ?_
  rintro e w3 ⟨rfl, hr, hk⟩
  have G3 := Lib.hid (F2.out.call hr hk)
  have F3 := Lib.hid (G3.out.put 2 (.int .i64 (ty : Nat)))
  have c2 : w3.cell? ⟨(w.heap.size + 1), 2, none⟩ = some (.int .i64 0) := G3.out.X.cell 2
  have f2 : w3.frozen? ⟨(w.heap.size + 1), 2, none⟩ = false := G3.out.X.free 2
  clear hr hk F2
  go_wp2_with fail
  clear c2 f2 G3
  refine (CD.out _ F3.out.R).mono ?_
  rintro e w4 ⟨rfl, hr, hk⟩
  have G4 := Lib.hid (F3.out.call hr hk)
  have F4 := Lib.hid (G4.out.put 3 (.int .i32 xv))
  have c3 : w4.cell? ⟨(w.heap.size + 1), 3, none⟩ = some (.int .i32 0) := G4.out.X.cell 3
  have f3 : w4.frozen? ⟨(w.heap.size + 1), 3, none⟩ = false := G4.out.X.free 3
  clear hr hk F3
  go_wp2_with fail
  clear c3 f3 G4
  refine (CE.out _ F4.out.R).mono ?_
  rintro e w5 ⟨rfl, hr, hk⟩
  have F5 := Lib.hid (F4.out.call hr hk)
  clear hr hk F4 C1 CB CC CD CE
  go_wp2_with fail
  go_loopw [19] (fun i wr => ∃ (t : Nat) (st : RSt) (ps : List (Int × Bool)) (A : Option Addr) (c : Nat), t ≤ mp ∧ i = .int .i64 t ∧ RdOk st ∧ ps.length = t ∧ rdPars (mp - t) ps st = rdPars mp [] (zE, eE) ∧ RxF w wr g D st.1 st.2 (w.heap.size + 1) w.heap.size #[.string xn, .int .i64 (kd : Nat), .int .i64 (ty : Nat), .int .i32 xv, .slice A ps.length c] (.slice A ps.length c) ps) (fun i _ => mp - (intOf i).toNat)
  case atStart => exact ⟨0, (zE, eE), [], none, 0, Nat.zero_le _, rfl, OE.out, rfl, rfl, F5.out⟩
  case round =>
    clear F5 OE
    obtain ⟨t, st, ps, A, c, ht, rfl, hok, hpl, hrd, hf⟩ := hrel
    have F := Lib.hid hf
    have OKS := Lib.hid hok
    have RD := Lib.hid hrd
    have HPL := Lib.hid hpl
    have PB := Lib.hid (show ps.length ≤ 16 by omega)
    clear hok hrd hpl
    by_cases hlt : t < mp
    · have hI : (t : Int) < mp := by omega
      have RD1 := Lib.hid (show rdPars (mp - (t + 1)) (ps ++ [(rdPar st).1]) (rdPar st).2 = rdPars mp [] (zE, eE) from by
        rw [← RD.out, show mp - t = (mp - (t + 1)) + 1 by omega]
        rfl)
      have OK2 := Lib.hid OKS.out.par
      have PE := Lib.hid (show rdPar st = ((((groupsP st.1 st.2 4096).1 : Int), decide ((groupsP (groupsP st.1 st.2 4096).2.1 (groupsP st.1 st.2 4096).2.2 1).1 = 1)), (groupsP (groupsP st.1 st.2 4096).2.1 (groupsP st.1 st.2 4096).2.2 1).2) from rfl)
      have q1 := (Below.refl wr.heap.size wr).alloc (Nat.le_refl _) (.cells #[.int .i64 0, .bool false] pP)
      have F1 := Lib.hid (hf.below q1)
      have Y1 := Lib.hid (Whole.made wr pP #[.int .i64 0, .bool false] _ rfl)
      have NE := Lib.hid (show (wr.heap.size ≠ g ∧ wr.heap.size ≠ D) ∧ w.heap.size ≤ wr.heap.size ∧ (w.heap.size + 1) ≠ wr.heap.size ∧ w.heap.size ≠ wr.heap.size from by
        have h1 := hf.R.lt
        have h2 := hf.X.lt
        have h3 := hf.Q.lt
        have h4 := hf.K.size
        omega)
      have NO := Lib.hid (show (Value.slice A ps.length c).ownBlock ≠ some wr.heap.size from fun e => by
        have := (World.ownsRow.lt hf.P _ e).2
        omega)
      have CT := Lib.hid (rcount_any 4096 g D st.1 st.2 _ F1.out.R (by have := OKS.out.len; omega) OKS.out.byt (by decide))
      have OKT := OKS.out.groups 4096
      have CR := Lib.hid (fun W (h : RdAt W g D (groupsP st.1 st.2 4096).2.1 (groupsP st.1 st.2 4096).2.2) => rcount_any 1 g D _ _ W h (by have := OKT.len; omega) OKT.byt (by decide))
      have TL := Lib.hid (groupsP_le st.1 st.2 4096)
      have RL := Lib.hid (groupsP_le (groupsP st.1 st.2 4096).2.1 (groupsP st.1 st.2 4096).2.2 1)
      generalize rdPar st = rp at *
      generalize groupsP (groupsP st.1 st.2 4096).2.1 (groupsP st.1 st.2 4096).2.2 1 = gr at *
      generalize groupsP st.1 st.2 4096 = gt at *
      obtain ⟨pt, zt, et⟩ := gt
      obtain ⟨pr, zr, er⟩ := gr
      obtain rfl := PE.out
      have hpt : pt ≤ 4096 := TL.out
      have hpr : pr ≤ 1 := RL.out
      obtain ⟨bb, hbb⟩ : ∃ bb : Bool, bb = decide (pr = 1) := ⟨_, rfl⟩
      have hb1 : ((pr : Int) == 1) = bb := by
        rw [hbb]
        by_cases h1 : pr = 1
        · subst h1
          rfl
        · rw [decide_eq_false h1]
          simp
          omega
      have RD2 := Lib.hid (show rdPars (mp - (t + 1)) (ps ++ [((pt : Int), bb)]) (zr, er) = rdPars mp [] (zE, eE) from by rw [hbb]; exact RD1.out)
      have OK3 := Lib.hid (show RdOk (zr, er) from OK2.out)
      clear hbb PE RD RD1 OK2 OKT q1 TL RL
      go_wp2_with fail
      clear hf
      generalize hZ0 : wr.alloc (.cells #[.int .i64 0, .bool false] pP) = W0 at *
      clear hZ0
      generalize wr.heap.size = p at *
      refine CT.out.mono ?_
      rintro e w6 ⟨rfl, hr, hk⟩
      have F6 := Lib.hid (F1.out.call hr hk)
      have Y6 := Lib.hid (hk.whole Y1.out NE.out.1.1)
      have F6' := Lib.hid (F6.out.far (i := 0) (u := .int .i64 (pt : Nat)) NE.out.2.1 NE.out.2.2.1 NE.out.2.2.2 NO.out)
      have Y6' := Lib.hid (show Whole (w6.setCell ⟨p, 0, none⟩ (.int .i64 (pt : Nat))) p pP #[.int .i64 (pt : Nat), .bool false] from Y6.out.store 0 _)
      have CR1 := Lib.hid (CR.out _ F6'.out.R)
      have c0 : w6.cell? ⟨p, 0, none⟩ = some (.int .i64 0) := Y6.out.cell 0
      have f0 : w6.frozen? ⟨p, 0, none⟩ = false := Y6.out.free 0
      clear hr hk F1 Y1 CT CR
      go_wp2_with fail
      clear c0 f0 F6 Y6
      generalize hZ0 : w6.setCell ⟨p, 0, none⟩ (.int .i64 (pt : Nat)) = W1 at *
      clear hZ0
      refine CR1.out.mono ?_
      rintro e w7 ⟨rfl, hr, hk⟩
      have F7 := Lib.hid (F6'.out.call hr hk)
      have Y7 := Lib.hid (hk.whole Y6'.out NE.out.1.1)
      have F7' := Lib.hid (F7.out.far (i := 1) (u := .bool bb) NE.out.2.1 NE.out.2.2.1 NE.out.2.2.2 NO.out)
      have Y7' := Lib.hid (show Whole (w7.setCell ⟨p, 1, none⟩ (.bool bb)) p pP #[.int .i64 (pt : Nat), .bool bb] from Y7.out.store 1 _)
      have c1 : w7.cell? ⟨p, 1, none⟩ = some (.bool false) := Y7.out.cell 1
      have f1 : w7.frozen? ⟨p, 1, none⟩ = false := Y7.out.free 1
      have y0 : (w7.setCell ⟨p, 1, none⟩ (.bool bb)).cell? ⟨p, 0, none⟩ = some (.int .i64 (pt : Nat)) := Y7'.out.cell 0
      have y1 : (w7.setCell ⟨p, 1, none⟩ (.bool bb)).cell? ⟨p, 1, none⟩ = some (.bool bb) := Y7'.out.cell 1
      have x4 : (w7.setCell ⟨p, 1, none⟩ (.bool bb)).cell? ⟨(w.heap.size + 1), 4, none⟩ = some (.slice A ps.length c) := F7'.out.X.cell 4
      have b8 := (Below.refl (w7.setCell ⟨p, 1, none⟩ (.bool bb)).heap.size (w7.setCell ⟨p, 1, none⟩ (.bool bb))).alloc (Nat.le_refl _) (.cells #[.int .i64 (pt : Nat), .bool bb] pP)
      have F8 := Lib.hid (F7'.out.below b8)
      have NC := Lib.hid (show ∀ (j : Nat) u, ([.int .i64 (pt : Nat), .bool bb] : List Value)[j]? = some u → ((w7.setCell ⟨p, 1, none⟩ (.bool bb)).alloc (.cells #[.int .i64 (pt : Nat), .bool bb] pP)).cell? ((⟨w7.heap.size, 0, none⟩ : Addr).add j) = some u from fun j u hj => by rw [Go.WideShapes.add_plain, Nat.zero_add]; exact ((Whole.made (w7.setCell ⟨p, 1, none⟩ (.bool bb)) pP #[.int .i64 (pt : Nat), .bool bb] w7.heap.size (by simp)).cell j).trans (by simpa using hj))
      have HBASE := Lib.hid (F8.out.K.size)
      obtain ⟨i0, hi0, hz0, hz1, hz2⟩ := info_parts parInfo
      clear hr hk b8 F6' Y6' CR1 F7 Y7 F7' Y7'
      go_wp2_with (at_builtin; refine wpList_append_own_at _ rfl _ _ 31 rfl w.heap.size pP i0 _ 2 16 Try.underlying31 hi0 hz0 hz1 hz2 rfl (by decide) (.slice A ps.length c) ps.length _ rfl F8.out.P ⟨_, 0, none⟩ 1 1 [.int .i64 (pt : Nat), .bool bb] rfl rfl NC.out (fun u hu => by simp at hu; rcases hu with rfl | rfl <;> rfl) (by have := PB.out; unfold maxLen; omega) (by have := PB.out; omega) HBASE.out ?_; intro v3 w3 ho3 hg3 _ _; obtain ⟨A3, c3, rfl⟩ := row_form ho3; have F9 := Lib.hid (F8.out.grown (p := ((pt : Int), bb)) hg3 ho3); have z4 : w3.cell? ⟨(w.heap.size + 1), 4, none⟩ = some (.slice A ps.length c) := F9.out.X.cell 4; have zf4 : w3.frozen? ⟨(w.heap.size + 1), 4, none⟩ = false := F9.out.X.free 4; have F10 := Lib.hid (F9.out.put 4 (.slice A3 (ps.length + 1) c3)); clear ho3 hg3)
      clear c1 f1 y0 y1 x4 NC F8 F9
      go_roundw
      case rel => exact ⟨t + 1, (zr, er), ps ++ [((pt : Int), bb)], A3, c3, by omega, by go_num, OK3.out, by rw [List.length_append, List.length_singleton, HPL.out], RD2.out, by rw [List.length_append, List.length_singleton]; exact F10.out⟩
      case measure => simp [intOf]; omega
    · have hI : ¬ (t : Int) < mp := by omega
      obtain rfl : t = mp := by omega
      have E := RD.out
      rw [Nat.sub_self] at E
      have HE := Lib.hid (show (ps, st) = rdPars t [] (zE, eE) from E)
      rw [← HE.out] at EXS EX2
      clear E
      obtain ⟨rs, re⟩ := st
      obtain ⟨rfl, rfl⟩ : xs = rs ∧ xe = re := by
        have := EXS.out
        injection this with h1 h2
        exact ⟨h1, h2⟩
      have SR := Lib.hid (hf.Q.setRow #[.string xn, .int .i64 (kd : Nat), .int .i64 (ty : Nat), .int .i32 xv, .slice A ps.length c])
      have QW := Lib.hid hf.Q
      have HZ : (Try.prog.info? pE).map (·.size) = some 5 := by kernel_rfl
      have H1 := Lib.hid (show (#[.string xn, .int .i64 (kd : Nat), .int .i64 (ty : Nat), .int .i32 xv, .slice A ps.length c] : Array Value).all (·.oneCell') = true from by simp [Value.oneCell'])
      have x0 : wr.cell? ⟨(w.heap.size + 1), 0, none⟩ = some (.string xn) := hf.X.cell 0
      have x1 : wr.cell? ⟨(w.heap.size + 1), 1, none⟩ = some (.int .i64 (kd : Nat)) := hf.X.cell 1
      have x2 : wr.cell? ⟨(w.heap.size + 1), 2, none⟩ = some (.int .i64 (ty : Nat)) := hf.X.cell 2
      have x3 : wr.cell? ⟨(w.heap.size + 1), 3, none⟩ = some (.int .i32 xv) := hf.X.cell 3
      have x4 : wr.cell? ⟨(w.heap.size + 1), 4, none⟩ = some (.slice A ps.length c) := hf.X.cell 4
      have KF := Lib.hid (show KeptS (RdS g) w (wr.setRow w.heap.size #[.string xn, .int .i64 (kd : Nat), .int .i64 (ty : Nat), .int .i32 xv, .slice A ps.length c]) from hf.K.trans (S' := fun b => b = w.heap.size) (KeptS.grown SR.out.2 (fun b hb => by injection hb with hb; exact hb.symm)) (fun i hi => .inr (by omega)))
      have RF := Lib.hid (show RdAt (wr.setRow w.heap.size #[.string xn, .int .i64 (kd : Nat), .int .i64 (ty : Nat), .int .i32 xv, .slice A ps.length c]) g D xs xe from hf.R.keep (S := fun b => b = w.heap.size) (KeptS.grown SR.out.2 (fun b hb => by injection hb with hb; exact hb.symm)) (by have := hf.lg; omega) (by have := hf.lD; omega))
      have PF := Lib.hid (show (wr.setRow w.heap.size #[.string xn, .int .i64 (kd : Nat), .int .i64 (ty : Nat), .int .i32 xv, .slice A ps.length c]).ownsRow w.heap.size pP 2 (.slice A ps.length c) ps.length (ps.flatMap parCells) from (KeptS.grown (S := fun b => b = w.heap.size) SR.out.2 (fun b hb => by injection hb with hb; exact hb.symm)).row hf.P (fun b hb hs => by subst hs; exact row_ne hf.P hf.Q (fun _ _ e => by injection e with _ e _; exact absurd e (by decide)) hb))
      have QF := Lib.hid SR.out.1
      clear hf EXS EX2 SR
      generalize hZZ : wr.setRow w.heap.size #[.string xn, .int .i64 (kd : Nat), .int .i64 (ty : Nat), .int .i32 xv, .slice A ps.length c] = ZZ at *
      have HZZ := Lib.hid hZZ
      clear hZZ
      repeat (first | (go_big_may; refine wpList_store_row rfl pE (.tmp 2) (.tmp 35) rfl w.heap.size #[.string xn, .int .i64 (kd : Nat), .int .i64 (ty : Nat), .int .i32 xv, .slice A ps.length c] rfl rfl pE #[.string ⟨#[]⟩, .int .i64 0, .int .i64 0, .int .i32 0, .slice none 0 0] QW.out HZ rfl H1.out ?_; rw [HZZ.out]) | go_values | go_skip | go_guarded | go_step | go_upon)
      rw [← HE.out]
      have z0 : ZZ.cell? ⟨w.heap.size, 0, none⟩ = some (.string xn) := QF.out.cell 0
      have z1 : ZZ.cell? ⟨w.heap.size, 1, none⟩ = some (.int .i64 (kd : Nat)) := QF.out.cell 1
      have z2 : ZZ.cell? ⟨w.heap.size, 2, none⟩ = some (.int .i64 (ty : Nat)) := QF.out.cell 2
      have z3 : ZZ.cell? ⟨w.heap.size, 3, none⟩ = some (.int .i32 xv) := QF.out.cell 3
      have z4 : ZZ.cell? ⟨w.heap.size, 4, none⟩ = some (.slice A ps.length c) := QF.out.cell 4
      refine bodyPost_ret (v := .agg #[.string xn, .int .i64 (kd : Nat), .int .i64 (ty : Nat), .int .i32 xv, .slice A ps.length c]) ?_ rfl ⟨A, c, rfl, PF.out, RF.out, KF.out⟩
      simp [results, Try.results72, go_sem, z0, z1, z2, z3, z4]
end Go.Proofs.Ythmjniedfiabhaa
