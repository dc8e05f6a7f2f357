/- Finger: the answers' Take. -/
import Derived.Test.YthaclkdclkhclaaFngO
namespace Go.Proofs.Ythaclkdclkhclaa
open Go.ChangeShapes Go.WideShapes Go.ChangeAt Go.RowKit
set_option linter.unusedVariables false
set_option linter.unusedSimpArgs false

/-- What Take leaves. -/
def RtList (V w : World) (st : RSt) (e : Ending) (w' : World) : Prop :=
  ∃ A n c v l, e = .returned (.tuple #[.agg #[.slice A n c, .int .i64 (rdAll st).2.2], v]) ∧ RfV V A n c (rdAll st).2.1 (rdAll st).2.2 ∧ RowE w' 0 w.heap.size v l ∧ l.map (·.1) = (rdAll st).1 ∧ Below w.heap.size w w'

set_option maxHeartbeats 64000000 in
set_option maxRecDepth 100000 in
theorem take13_any (A : Option Addr) (n c : Nat) (st0 : RSt) (V w : World) (hV : Below V.heap.size V w) (h : RfV V A n c st0.1 st0.2) (hn : n ≤ 1000000) (ok : RdOk st0) :
    Calls Try.prog 20 #[.agg #[.slice A n c, .int .i64 st0.2]] w fun e w' => RtList V w st0 e w' := by
  have HZ2 : (Try.prog.info? rfT).map (·.size) = some 2 := by kernel_rfl
  have HZ5 : (Try.prog.info? pE).map (·.size) = some 5 := by kernel_rfl
  have OK0 := Lib.hid (ok.groups 4096)
  have LN := Lib.hid (groupsP_le st0.1 st0.2 4096)
  have AL := Lib.hid (show rdExs (groupsP st0.1 st0.2 4096).1 [] (groupsP st0.1 st0.2 4096).2 = rdAll st0 from rfl)
  have GE := Lib.hid (fun hh => (groupsP_err (most := 4096) ok.bad hh).1)
  have UL := Lib.hid (show ∀ e w', RtList V w st0 e w' = (∃ A n c v l, e = .returned (.tuple #[.agg #[.slice A n c, .int .i64 (rdAll st0).2.2], v]) ∧ RfV V A n c (rdAll st0).2.1 (rdAll st0).2.2 ∧ RowE w' 0 w.heap.size v l ∧ l.map (·.1) = (rdAll st0).1 ∧ Below w.heap.size w w') from fun _ _ => rfl)
  have T0 := Lib.hid (show TkF V w ((w.alloc (.cells #[.slice A n c, .int .i64 st0.2] rfT)).alloc (.cells #[.slice none 0 0, .int .i64 0] rfT)) A n c st0.1 st0.2 (.slice none 0 0) [] from
    have b := ((Below.refl w.heap.size w).alloc (Nat.le_refl _) (.cells #[.slice A n c, .int .i64 st0.2] rfT)).alloc (by simp) (.cells #[.slice none 0 0, .int .i64 0] rfT)
    ⟨hV.trans (b.mono hV.size), h, hn, (Whole.made w rfT _ _ rfl).alloc _, Whole.made _ rfT _ _ (by simp), RowE.nil _ _ _, b, hV.size⟩)
  have C0 := Lib.hid (reftake_count 4096 A n c st0.1 st0.2 V _ T0.out.VW h hn ok.byt (by decide))
  obtain ⟨i0, hi0, hz0, hz1, hz2⟩ := info_parts exInfo
  obtain ⟨j0, hj0, hy0, hy1, hy2⟩ := info_parts parInfo
  have p0 : ((w.alloc (.cells #[.slice A n c, .int .i64 st0.2] rfT)).alloc (.cells #[.slice none 0 0, .int .i64 0] rfT)).cell? ⟨w.heap.size, 0, none⟩ = some (.slice A n c) := T0.out.Rp.cell 0
  have p1 : ((w.alloc (.cells #[.slice A n c, .int .i64 st0.2] rfT)).alloc (.cells #[.slice none 0 0, .int .i64 0] rfT)).cell? ⟨w.heap.size, 1, none⟩ = some (.int .i64 st0.2) := T0.out.Rp.cell 1
  clear h ok hV
  generalize rdAll st0 = RA at *
  generalize groupsP st0.1 st0.2 4096 = gn at *
  obtain ⟨mn, zs1, e1⟩ := gn
  obtain ⟨zs0, e0⟩ := st0
  have hmn : mn ≤ 4096 := LN.out
  go_enter Try.func20, Try.ntmps20
  go_wp2_with fail
  clear p0 p1
  refine C0.out.mono ?_
  rintro e w1 ⟨A1, n1, c1, rfl, hrv, hn1, hb⟩
  have T1 := Lib.hid (T0.out.call hb)
  have T2 := Lib.hid (T1.out.setp hrv hn1)
  generalize hZZ : w1.setRow w.heap.size #[.slice A1 n1 c1, .int .i64 e1] = ZZ at *
  have HZZ := Lib.hid hZZ
  clear hb hrv hn1 C0 T0 hZZ
  go_wp2_with (refine wpList_store_row rfl rfT (.tmp 1) (.tmp 15) rfl w.heap.size #[.slice A1 n1 c1, .int .i64 e1] rfl rfl rfT #[.slice A n c, .int .i64 e0] T1.out.Rp HZ2 rfl (show (#[.slice A1 n1 c1, .int .i64 e1] : Array Value).all (·.oneCell') = true from by simp [Value.oneCell']) ?_; rw [HZZ.out])
  clear T1 HZZ
  go_loopw [5, 6] (fun v i wr => ∃ (t : Nat) (st : RSt) (l : List Exx) (A : Option Addr) (n c : Nat), t ≤ mn ∧ i = .int .i64 t ∧ RdOk st ∧ (st.2 = 0 → l.length = t ∧ rdExs (mn - t) (l.map (·.1)) st = RA) ∧ (st.2 ≠ 0 → ([], st) = RA) ∧ l.length ≤ t ∧ TkF V w wr A n c st.1 st.2 v l) (fun _ i _ => mn - (intOf i).toNat)
  case atStart => exact ⟨0, (zs1, e1), [], A1, n1, c1, Nat.zero_le _, rfl, OK0.out, fun _ => ⟨rfl, AL.out⟩, fun he => by
    have hmz : mn = 0 := GE.out he
    have h2 := AL.out
    rw [hmz] at h2
    exact h2, Nat.le_refl _, T2.out⟩
  case round =>
    clear T2 OK0 AL GE
    obtain ⟨t, st, l, A, n, c, ht, rfl, hok, hgo, hbad, hpl, hT⟩ := hrel
    obtain ⟨A0, c0, rfl⟩ := row_form hT.L.row
    obtain ⟨zs, er⟩ := st
    have OKS := Lib.hid hok
    have GO := Lib.hid hgo
    have BAD := Lib.hid hbad
    have HPL := Lib.hid hpl
    have PB := Lib.hid (show l.length ≤ 4096 by omega)
    have T := Lib.hid hT
    clear hok hgo hbad hpl
    have p0 : wr.cell? ⟨w.heap.size, 0, none⟩ = some (.slice A n c) := hT.Rp.cell 0
    have p1 : wr.cell? ⟨w.heap.size, 1, none⟩ = some (.int .i64 er) := hT.Rp.cell 1
    by_cases he : er = 0
    · have GO1 := Lib.hid (GO.out he)
      clear GO BAD
      subst he
      by_cases hlt : t < mn
      · have hI : (t : Int) < mn := by omega
        have GOX := Lib.hid (show (rdEx (zs, 0)).2.2 = 0 → rdExs (mn - (t + 1)) (l.map (·.1) ++ [(rdEx (zs, 0)).1]) (rdEx (zs, 0)).2 = RA from fun h0 => by
          rw [← GO1.out.2, show mn - t = (mn - (t + 1)) + 1 by omega, rdExs_go h0])
        have BADX := Lib.hid (show (rdEx (zs, 0)).2.2 ≠ 0 → ([], (rdEx (zs, 0)).2) = RA from fun h0 => by
          rw [← GO1.out.2, show mn - t = (mn - (t + 1)) + 1 by omega, rdExs_bad h0])
        have HPT := Lib.hid GO1.out.1
        have OKX := Lib.hid OKS.out.ex
        have OA := Lib.hid OKS.out.ra
        have OB := Lib.hid OKS.out.rb
        have OC := Lib.hid OKS.out.rc
        have OD := Lib.hid OKS.out.rd
        have OE := Lib.hid OKS.out.re
        have LE := Lib.hid (rsE_le (zs, 0))
        have XP := Lib.hid (rdEx_ps (zs, 0))
        have EX := Lib.hid (show rdEx (zs, 0) = (⟨(rsA (zs, 0)).1, (rsB (zs, 0)).1, (rsC (zs, 0)).1, zagN (rsD (zs, 0)).1, (rdPars (rsE (zs, 0)).1 [] (rsE (zs, 0)).2).1⟩, (rdPars (rsE (zs, 0)).1 [] (rsE (zs, 0)).2).2) from rfl)
        have CA := Lib.hid (fun W A n c (hV : Below V.heap.size V W) (hr : RfV V A n c zs 0) (hn : n ≤ 1000000) => reftake_text 32 A n c zs 0 V W hV hr hn OKS.out.byt (by decide))
        have A1 := Lib.hid (show rsA (zs, 0) = textP zs 0 32 from rfl)
        rw [← A1.out] at CA
        have CB := Lib.hid (fun W A n c (hV : Below V.heap.size V W) (hr : RfV V A n c (rsA (zs, 0)).2.1 (rsA (zs, 0)).2.2) (hn : n ≤ 1000000) => reftake_count 8 A n c _ _ V W hV hr hn OA.out.byt (by decide))
        have A2 := Lib.hid (show rsB (zs, 0) = groupsP (rsA (zs, 0)).2.1 (rsA (zs, 0)).2.2 8 from rfl)
        rw [← A2.out] at CB
        have CC := Lib.hid (fun W A n c (hV : Below V.heap.size V W) (hr : RfV V A n c (rsB (zs, 0)).2.1 (rsB (zs, 0)).2.2) (hn : n ≤ 1000000) => reftake_count 4096 A n c _ _ V W hV hr hn OB.out.byt (by decide))
        have A3 := Lib.hid (show rsC (zs, 0) = groupsP (rsB (zs, 0)).2.1 (rsB (zs, 0)).2.2 4096 from rfl)
        rw [← A3.out] at CC
        have CD := Lib.hid (fun W A n c (hV : Below V.heap.size V W) (hr : RfV V A n c (rsC (zs, 0)).2.1 (rsC (zs, 0)).2.2) (hn : n ≤ 1000000) => reftake_number A n c _ _ V W hV hr hn OC.out.byt)
        have A4 := Lib.hid (show rsD (zs, 0) = groupsP (rsC (zs, 0)).2.1 (rsC (zs, 0)).2.2 4294967295 from rfl)
        rw [← A4.out] at CD
        have CE := Lib.hid (fun W A n c (hV : Below V.heap.size V W) (hr : RfV V A n c (rsD (zs, 0)).2.1 (rsD (zs, 0)).2.2) (hn : n ≤ 1000000) => reftake_count 16 A n c _ _ V W hV hr hn OD.out.byt (by decide))
        have A5 := Lib.hid (show rsE (zs, 0) = groupsP (rsD (zs, 0)).2.1 (rsD (zs, 0)).2.2 16 from rfl)
        rw [← A5.out] at CE
        clear A1 A2 A3 A4 A5 OA OB OC OD GO1
        generalize rdEx (zs, 0) = RX at *
        generalize rsA (zs, 0) = sA at *
        generalize rsB (zs, 0) = sB at *
        generalize rsC (zs, 0) = sC at *
        generalize rsD (zs, 0) = sD at *
        generalize rsE (zs, 0) = sE at *
        obtain ⟨nm, zA, eA⟩ := sA
        obtain ⟨kd, zB, eB⟩ := sB
        obtain ⟨ty, zC, eC⟩ := sC
        obtain ⟨vl, zD, eD⟩ := sD
        obtain ⟨mp, zE, eE⟩ := sE
        generalize hvl : zagN vl = vv at *
        clear hvl
        obtain ⟨⟨xn, xk, xt, xv, xp⟩, xs, xe⟩ := RX
        have EX1 := EX.out
        injection EX1 with EX1 EX2
        injection EX1 with g0 g1 g2 g3 g4
        subst g0 g1 g2 g3
        have EXS := Lib.hid (show ((xp, (xs, xe)) : List (Int × Bool) × RSt) = rdPars mp [] (zE, eE) from by rw [g4, EX2])
        clear EX EX2 g4
        have hmp : mp ≤ 16 := LE.out
        have W1B := (Below.refl wr.heap.size wr).alloc (Nat.le_refl _) (.cells #[.string ⟨#[]⟩, .int .i64 0, .int .i64 0, .int .i32 0, .slice none 0 0] pE)
        have F0 := Lib.hid (show TxF V wr (wr.alloc (.cells #[.string ⟨#[]⟩, .int .i64 0, .int .i64 0, .int .i32 0, .slice none 0 0] pE)) w.heap.size wr.heap.size A n c zs 0 #[.string ⟨#[]⟩, .int .i64 0, .int .i64 0, .int .i32 0, .slice none 0 0] (.slice none 0 0) [] from
          ⟨T.out.VW.trans (W1B.mono T.out.VW.size), T.out.RV, T.out.RN, T.out.Rp.alloc _, Whole.made wr pE _ _ rfl, row_nil _ _ _ _, KeptS.ofBelow W1B, T.out.Vp, T.out.Rp.lt, Nat.le_refl _⟩)
        have r0 : (wr.alloc (.cells #[.string ⟨#[]⟩, .int .i64 0, .int .i64 0, .int .i32 0, .slice none 0 0] pE)).cell? ⟨w.heap.size, 0, none⟩ = some (.slice A n c) := F0.out.Rp.cell 0
        have r1 : (wr.alloc (.cells #[.string ⟨#[]⟩, .int .i64 0, .int .i64 0, .int .i32 0, .slice none 0 0] pE)).cell? ⟨w.heap.size, 1, none⟩ = some (.int .i64 0) := F0.out.Rp.cell 1
        clear W1B hT
        go_wp2_with fail
        clear p0 p1 r0 r1
        generalize hW1 : wr.alloc (.cells #[.string ⟨#[]⟩, .int .i64 0, .int .i64 0, .int .i32 0, .slice none 0 0] pE) = W1 at *
        clear hW1
        generalize wr = WR at *
        refine (CA.out _ _ _ _ F0.out.VW F0.out.RV F0.out.RN).mono ?_
        rintro e w1 ⟨A1, n1, c1, rfl, hrv, hn1, hb⟩
        have G1 := Lib.hid (F0.out.call hb)
        have H1 := Lib.hid (G1.out.setp hrv hn1)
        have F1 := Lib.hid (H1.out.put 0 (.string xn))
        generalize hZZ : w1.setRow w.heap.size #[.slice A1 n1 c1, .int .i64 eA] = ZZ1 at *
        have HZZ := Lib.hid hZZ
        clear hb hrv hn1 hZZ CA F0
        have x0 : ZZ1.cell? ⟨WR.heap.size, 0, none⟩ = some (.string ⟨#[]⟩) := H1.out.X.cell 0
        have fx0 : ZZ1.frozen? ⟨WR.heap.size, 0, none⟩ = false := H1.out.X.free 0
        have r0 : (ZZ1.setCell ⟨WR.heap.size, 0, none⟩ (.string xn)).cell? ⟨w.heap.size, 0, none⟩ = some (.slice A1 n1 c1) := F1.out.Rp.cell 0
        have r1 : (ZZ1.setCell ⟨WR.heap.size, 0, none⟩ (.string xn)).cell? ⟨w.heap.size, 1, none⟩ = some (.int .i64 eA) := F1.out.Rp.cell 1
        go_wp2_with (refine wpList_store_row rfl rfT (.tmp 1) (.tmp 30) rfl w.heap.size #[.slice A1 n1 c1, .int .i64 eA] rfl rfl rfT #[.slice A n c, .int .i64 0] G1.out.Rp HZ2 rfl (show (#[.slice A1 n1 c1, .int .i64 eA] : Array Value).all (·.oneCell') = true from by simp [Value.oneCell']) ?_; rw [HZZ.out])
        clear x0 fx0 r0 r1 G1 H1 HZZ
        refine (CB.out _ _ _ _ F1.out.VW F1.out.RV F1.out.RN).mono ?_
        rintro e w2 ⟨A2, n2, c2, rfl, hrv, hn1, hb⟩
        have G2 := Lib.hid (F1.out.call hb)
        have H2 := Lib.hid (G2.out.setp hrv hn1)
        have F2 := Lib.hid (H2.out.put 1 (.int .i64 (kd : Nat)))
        generalize hZZ : w2.setRow w.heap.size #[.slice A2 n2 c2, .int .i64 eB] = ZZ2 at *
        have HZZ := Lib.hid hZZ
        clear hb hrv hn1 hZZ CB F1
        have x1 : ZZ2.cell? ⟨WR.heap.size, 1, none⟩ = some (.int .i64 0) := H2.out.X.cell 1
        have fx1 : ZZ2.frozen? ⟨WR.heap.size, 1, none⟩ = false := H2.out.X.free 1
        have r0 : (ZZ2.setCell ⟨WR.heap.size, 1, none⟩ (.int .i64 (kd : Nat))).cell? ⟨w.heap.size, 0, none⟩ = some (.slice A2 n2 c2) := F2.out.Rp.cell 0
        have r1 : (ZZ2.setCell ⟨WR.heap.size, 1, none⟩ (.int .i64 (kd : Nat))).cell? ⟨w.heap.size, 1, none⟩ = some (.int .i64 eB) := F2.out.Rp.cell 1
        go_wp2_with (refine wpList_store_row rfl rfT (.tmp 1) (.tmp 36) rfl w.heap.size #[.slice A2 n2 c2, .int .i64 eB] rfl rfl rfT #[.slice A1 n1 c1, .int .i64 eA] G2.out.Rp HZ2 rfl (show (#[.slice A2 n2 c2, .int .i64 eB] : Array Value).all (·.oneCell') = true from by simp [Value.oneCell']) ?_; rw [HZZ.out])
        clear x1 fx1 r0 r1 G2 H2 HZZ
        refine (CC.out _ _ _ _ F2.out.VW F2.out.RV F2.out.RN).mono ?_
        rintro e w3 ⟨A3, n3, c3, rfl, hrv, hn1, hb⟩
        have G3 := Lib.hid (F2.out.call hb)
        have H3 := Lib.hid (G3.out.setp hrv hn1)
        have F3 := Lib.hid (H3.out.put 2 (.int .i64 (ty : Nat)))
        generalize hZZ : w3.setRow w.heap.size #[.slice A3 n3 c3, .int .i64 eC] = ZZ3 at *
        have HZZ := Lib.hid hZZ
        clear hb hrv hn1 hZZ CC F2
        have x2 : ZZ3.cell? ⟨WR.heap.size, 2, none⟩ = some (.int .i64 0) := H3.out.X.cell 2
        have fx2 : ZZ3.frozen? ⟨WR.heap.size, 2, none⟩ = false := H3.out.X.free 2
        have r0 : (ZZ3.setCell ⟨WR.heap.size, 2, none⟩ (.int .i64 (ty : Nat))).cell? ⟨w.heap.size, 0, none⟩ = some (.slice A3 n3 c3) := F3.out.Rp.cell 0
        have r1 : (ZZ3.setCell ⟨WR.heap.size, 2, none⟩ (.int .i64 (ty : Nat))).cell? ⟨w.heap.size, 1, none⟩ = some (.int .i64 eC) := F3.out.Rp.cell 1
        go_wp2_with (refine wpList_store_row rfl rfT (.tmp 1) (.tmp 42) rfl w.heap.size #[.slice A3 n3 c3, .int .i64 eC] rfl rfl rfT #[.slice A2 n2 c2, .int .i64 eB] G3.out.Rp HZ2 rfl (show (#[.slice A3 n3 c3, .int .i64 eC] : Array Value).all (·.oneCell') = true from by simp [Value.oneCell']) ?_; rw [HZZ.out])
        clear x2 fx2 r0 r1 G3 H3 HZZ
        refine (CD.out _ _ _ _ F3.out.VW F3.out.RV F3.out.RN).mono ?_
        rintro e w4 ⟨A4, n4, c4, rfl, hrv, hn1, hb⟩
        have G4 := Lib.hid (F3.out.call hb)
        have H4 := Lib.hid (G4.out.setp hrv hn1)
        have F4 := Lib.hid (H4.out.put 3 (.int .i32 xv))
        generalize hZZ : w4.setRow w.heap.size #[.slice A4 n4 c4, .int .i64 eD] = ZZ4 at *
        have HZZ := Lib.hid hZZ
        clear hb hrv hn1 hZZ CD F3
        have x3 : ZZ4.cell? ⟨WR.heap.size, 3, none⟩ = some (.int .i32 0) := H4.out.X.cell 3
        have fx3 : ZZ4.frozen? ⟨WR.heap.size, 3, none⟩ = false := H4.out.X.free 3
        have r0 : (ZZ4.setCell ⟨WR.heap.size, 3, none⟩ (.int .i32 xv)).cell? ⟨w.heap.size, 0, none⟩ = some (.slice A4 n4 c4) := F4.out.Rp.cell 0
        have r1 : (ZZ4.setCell ⟨WR.heap.size, 3, none⟩ (.int .i32 xv)).cell? ⟨w.heap.size, 1, none⟩ = some (.int .i64 eD) := F4.out.Rp.cell 1
        go_wp2_with (refine wpList_store_row rfl rfT (.tmp 1) (.tmp 48) rfl w.heap.size #[.slice A4 n4 c4, .int .i64 eD] rfl rfl rfT #[.slice A3 n3 c3, .int .i64 eC] G4.out.Rp HZ2 rfl (show (#[.slice A4 n4 c4, .int .i64 eD] : Array Value).all (·.oneCell') = true from by simp [Value.oneCell']) ?_; rw [HZZ.out])
        clear x3 fx3 r0 r1 G4 H4 HZZ
        refine (CE.out _ _ _ _ F4.out.VW F4.out.RV F4.out.RN).mono ?_
        rintro e w5 ⟨A5, n5, c5, rfl, hrv, hn1, hb⟩
        have G5 := Lib.hid (F4.out.call hb)
        have F5 := Lib.hid (G5.out.setp hrv hn1)
        generalize hZZ : w5.setRow w.heap.size #[.slice A5 n5 c5, .int .i64 eE] = ZZ5 at *
        have HZZ := Lib.hid hZZ
        clear hb hrv hn1 hZZ CE F4
        go_wp2_with (refine wpList_store_row rfl rfT (.tmp 1) (.tmp 54) rfl w.heap.size #[.slice A5 n5 c5, .int .i64 eE] rfl rfl rfT #[.slice A4 n4 c4, .int .i64 eD] G5.out.Rp HZ2 rfl (show (#[.slice A5 n5 c5, .int .i64 eE] : Array Value).all (·.oneCell') = true from by simp [Value.oneCell']) ?_; rw [HZZ.out])
        clear G5 HZZ
        go_loopw [10] (fun i wr => ∃ (k : Nat) (st : RSt) (ps : List (Int × Bool)) (Ap : Option Addr) (cp : Nat) (A : Option Addr) (n c : Nat), k ≤ mp ∧ i = .int .i64 k ∧ RdOk st ∧ ps.length = k ∧ rdPars (mp - k) ps st = rdPars mp [] (zE, eE) ∧ TxF V WR wr w.heap.size WR.heap.size A n c st.1 st.2 #[.string xn, .int .i64 (kd : Nat), .int .i64 (ty : Nat), .int .i32 xv, .slice Ap ps.length cp] (.slice Ap ps.length cp) ps) (fun i _ => mp - (intOf i).toNat)
        case atStart => exact ⟨0, (zE, eE), [], none, 0, A5, n5, c5, Nat.zero_le _, rfl, OE.out, rfl, rfl, F5.out⟩
        case round =>
          clear F5 OE OKS
          obtain ⟨k, st, ps, Ap, cp, A, n, c, hk, rfl, hok, hpp, hrd, hf⟩ := hrel
          obtain ⟨zs, er⟩ := st
          have F := Lib.hid hf
          have OKS := Lib.hid hok
          have RD := Lib.hid hrd
          have HPP := Lib.hid hpp
          have PPB := Lib.hid (show ps.length ≤ 16 by omega)
          clear hok hrd hpp
          by_cases hlk : k < mp
          · have hJ : (k : Int) < mp := by omega
            have RD1 := Lib.hid (show rdPars (mp - (k + 1)) (ps ++ [(rdPar (zs, er)).1]) (rdPar (zs, er)).2 = rdPars mp [] (zE, eE) from by
              rw [← RD.out, show mp - k = (mp - (k + 1)) + 1 by omega]
              rfl)
            have OK2 := Lib.hid OKS.out.par
            have PE := Lib.hid (show rdPar (zs, er) = ((((groupsP zs er 4096).1 : Int), decide ((groupsP (groupsP zs er 4096).2.1 (groupsP zs er 4096).2.2 1).1 = 1)), (groupsP (groupsP zs er 4096).2.1 (groupsP zs er 4096).2.2 1).2) from rfl)
            have q1 := (Below.refl wr.heap.size wr).alloc (Nat.le_refl _) (.cells #[.int .i64 0, .bool false] pP)
            have F1 := Lib.hid (hf.call q1)
            have Y1 := Lib.hid (Whole.made wr pP #[.int .i64 0, .bool false] _ rfl)
            have NE := Lib.hid (show WR.heap.size ≤ wr.heap.size ∧ WR.heap.size ≠ wr.heap.size ∧ wr.heap.size ≠ w.heap.size from by
              have h2 := hf.X.lt
              have h3 := hf.Rp.lt
              omega)
            have NO := Lib.hid (show (Value.slice Ap ps.length cp).ownBlock ≠ some wr.heap.size from fun e => by
              have := (World.ownsRow.lt hf.P _ e).2
              omega)
            have CT := Lib.hid (reftake_count 4096 A n c zs er V _ F1.out.VW F1.out.RV F1.out.RN OKS.out.byt (by decide))
            have OKT := OKS.out.groups 4096
            have CR := Lib.hid (fun W A n c (hV : Below V.heap.size V W) (hr : RfV V A n c (groupsP zs er 4096).2.1 (groupsP zs er 4096).2.2) (hn : n ≤ 1000000) => reftake_count 1 A n c _ _ V W hV hr hn OKT.byt (by decide))
            have TL := Lib.hid (groupsP_le zs er 4096)
            have RL := Lib.hid (groupsP_le (groupsP zs er 4096).2.1 (groupsP zs er 4096).2.2 1)
            generalize rdPar (zs, er) = rp at *
            generalize groupsP (groupsP zs er 4096).2.1 (groupsP zs er 4096).2.2 1 = gr at *
            generalize groupsP zs er 4096 = gt at *
            obtain ⟨pt, zt, et⟩ := gt
            obtain ⟨pr, zr, e2⟩ := gr
            obtain rfl := PE.out
            have hpt : pt ≤ 4096 := TL.out
            have hpr : pr ≤ 1 := RL.out
            obtain ⟨bb, hbb⟩ : ∃ bb : Bool, bb = decide (pr = 1) := ⟨_, rfl⟩
            have hb1 : ((pr : Int) == 1) = bb := by
              rw [hbb]
              by_cases h1 : pr = 1
              · subst h1
                rfl
              · rw [decide_eq_false h1]
                simp
                omega
            have RD2 := Lib.hid (show rdPars (mp - (k + 1)) (ps ++ [((pt : Int), bb)]) (zr, e2) = rdPars mp [] (zE, eE) from by rw [hbb]; exact RD1.out)
            have OK3 := Lib.hid (show RdOk (zr, e2) from OK2.out)
            have r0 : (wr.alloc (.cells #[.int .i64 0, .bool false] pP)).cell? ⟨w.heap.size, 0, none⟩ = some (.slice A n c) := F1.out.Rp.cell 0
            have r1 : (wr.alloc (.cells #[.int .i64 0, .bool false] pP)).cell? ⟨w.heap.size, 1, none⟩ = some (.int .i64 er) := F1.out.Rp.cell 1
            clear hbb PE RD RD1 OK2 OKT q1 TL RL hf
            go_wp2_with fail
            clear r0 r1
            generalize hZ0 : wr.alloc (.cells #[.int .i64 0, .bool false] pP) = Z0 at *
            clear hZ0
            generalize wr.heap.size = y at *
            refine CT.out.mono ?_
            rintro e w6 ⟨A6, n6, c6, rfl, hrv, hn1, hb⟩
            have G6 := Lib.hid (F1.out.call hb)
            have H6 := Lib.hid (G6.out.setp hrv hn1)
            have Y6 := Lib.hid (Y1.out.below hb Y1.out.lt)
            have s6 := G6.out.Rp.setRow #[.slice A6 n6 c6, .int .i64 et]
            have Y6' := Lib.hid ((s6.2.block y Y6.out.lt (by intro e; injection e with e; exact NE.out.2.2 e)).trans Y6.out)
            have F6 := Lib.hid (H6.out.far (i := 0) (u := .int .i64 (pt : Nat)) NE.out.1 NE.out.2.1 NO.out)
            generalize hZZ : w6.setRow w.heap.size #[.slice A6 n6 c6, .int .i64 et] = ZZ6 at *
            have HZZ := Lib.hid hZZ
            have Y6w := Lib.hid (show Whole ZZ6 y pP #[.int .i64 0, .bool false] from Y6'.out)
            have Y7 := Lib.hid (show Whole (ZZ6.setCell ⟨y, 0, none⟩ (.int .i64 (pt : Nat))) y pP #[.int .i64 (pt : Nat), .bool false] from Y6w.out.store 0 _)
            have c0y : ZZ6.cell? ⟨y, 0, none⟩ = some (.int .i64 0) := Y6w.out.cell 0
            have f0y : ZZ6.frozen? ⟨y, 0, none⟩ = false := Y6w.out.free 0
            have r0 : (ZZ6.setCell ⟨y, 0, none⟩ (.int .i64 (pt : Nat))).cell? ⟨w.heap.size, 0, none⟩ = some (.slice A6 n6 c6) := F6.out.Rp.cell 0
            have r1 : (ZZ6.setCell ⟨y, 0, none⟩ (.int .i64 (pt : Nat))).cell? ⟨w.heap.size, 1, none⟩ = some (.int .i64 et) := F6.out.Rp.cell 1
            clear hb hrv hn1 hZZ CT F1 Y1 Y6 Y6' s6
            go_wp2_with (refine wpList_store_row rfl rfT (.tmp 1) (.tmp 64) rfl w.heap.size #[.slice A6 n6 c6, .int .i64 et] rfl rfl rfT #[.slice A n c, .int .i64 er] G6.out.Rp HZ2 rfl (show (#[.slice A6 n6 c6, .int .i64 et] : Array Value).all (·.oneCell') = true from by simp [Value.oneCell']) ?_; rw [HZZ.out])
            clear c0y f0y r0 r1 G6 H6 HZZ Y6w
            generalize hZ7 : ZZ6.setCell ⟨y, 0, none⟩ (.int .i64 (pt : Nat)) = Z7 at *
            clear hZ7
            refine (CR.out _ _ _ _ F6.out.VW F6.out.RV F6.out.RN).mono ?_
            rintro e w7 ⟨A7, n7, c7, rfl, hrv, hn1, hb⟩
            have G7 := Lib.hid (F6.out.call hb)
            have H7 := Lib.hid (G7.out.setp hrv hn1)
            have Y8 := Lib.hid (Y7.out.below hb Y7.out.lt)
            have s7 := G7.out.Rp.setRow #[.slice A7 n7 c7, .int .i64 e2]
            have Y8' := Lib.hid ((s7.2.block y Y8.out.lt (by intro e; injection e with e; exact NE.out.2.2 e)).trans Y8.out)
            have F7 := Lib.hid (H7.out.far (i := 1) (u := .bool bb) NE.out.1 NE.out.2.1 NO.out)
            generalize hZZ : w7.setRow w.heap.size #[.slice A7 n7 c7, .int .i64 e2] = ZZ7 at *
            have HZZ := Lib.hid hZZ
            have Y8w := Lib.hid (show Whole ZZ7 y pP #[.int .i64 (pt : Nat), .bool false] from Y8'.out)
            have Y9 := Lib.hid (show Whole (ZZ7.setCell ⟨y, 1, none⟩ (.bool bb)) y pP #[.int .i64 (pt : Nat), .bool bb] from Y8w.out.store 1 _)
            have c1y : ZZ7.cell? ⟨y, 1, none⟩ = some (.bool false) := Y8w.out.cell 1
            have f1y : ZZ7.frozen? ⟨y, 1, none⟩ = false := Y8w.out.free 1
            have y0 : (ZZ7.setCell ⟨y, 1, none⟩ (.bool bb)).cell? ⟨y, 0, none⟩ = some (.int .i64 (pt : Nat)) := Y9.out.cell 0
            have y1 : (ZZ7.setCell ⟨y, 1, none⟩ (.bool bb)).cell? ⟨y, 1, none⟩ = some (.bool bb) := Y9.out.cell 1
            have x4 : (ZZ7.setCell ⟨y, 1, none⟩ (.bool bb)).cell? ⟨WR.heap.size, 4, none⟩ = some (.slice Ap ps.length cp) := F7.out.X.cell 4
            have b8 := (Below.refl (ZZ7.setCell ⟨y, 1, none⟩ (.bool bb)).heap.size (ZZ7.setCell ⟨y, 1, none⟩ (.bool bb))).alloc (Nat.le_refl _) (.cells #[.int .i64 (pt : Nat), .bool bb] pP)
            have F8 := Lib.hid (F7.out.call b8)
            have NC := Lib.hid (show ∀ (j : Nat) u, ([.int .i64 (pt : Nat), .bool bb] : List Value)[j]? = some u → ((ZZ7.setCell ⟨y, 1, none⟩ (.bool bb)).alloc (.cells #[.int .i64 (pt : Nat), .bool bb] pP)).cell? ((⟨ZZ7.heap.size, 0, none⟩ : Addr).add j) = some u from fun j u hj => by rw [Go.WideShapes.add_plain, Nat.zero_add]; exact ((Whole.made (ZZ7.setCell ⟨y, 1, none⟩ (.bool bb)) pP #[.int .i64 (pt : Nat), .bool bb] ZZ7.heap.size (by simp)).cell j).trans (by simpa using hj))
            have HBASE := Lib.hid (F8.out.K.size)
            clear hb hrv hn1 hZZ CR F6 Y7 Y8 Y8' s7 b8 F7
            go_wp2_with (first | (refine wpList_store_row rfl rfT (.tmp 1) (.tmp 70) rfl w.heap.size #[.slice A7 n7 c7, .int .i64 e2] rfl rfl rfT #[.slice A6 n6 c6, .int .i64 et] G7.out.Rp HZ2 rfl (show (#[.slice A7 n7 c7, .int .i64 e2] : Array Value).all (·.oneCell') = true from by simp [Value.oneCell']) ?_; rw [HZZ.out]) | (at_builtin; refine wpList_append_own_at _ rfl _ _ 54 rfl WR.heap.size pP j0 _ 2 16 Try.underlying54 hj0 hy0 hy1 hy2 rfl (by decide) (.slice Ap ps.length cp) ps.length _ rfl F8.out.P ⟨_, 0, none⟩ 1 1 [.int .i64 (pt : Nat), .bool bb] rfl rfl NC.out (fun u hu => by simp at hu; rcases hu with rfl | rfl <;> rfl) (by have := PPB.out; unfold maxLen; omega) (by have := PPB.out; omega) HBASE.out ?_; intro v3 w3 ho3 hg3 _ _; obtain ⟨A3, c3, rfl⟩ := row_form ho3; have F9 := Lib.hid (F8.out.grown (q := ((pt : Int), bb)) hg3 ho3); have z4 : w3.cell? ⟨WR.heap.size, 4, none⟩ = some (.slice Ap ps.length cp) := F9.out.X.cell 4; have zf4 : w3.frozen? ⟨WR.heap.size, 4, none⟩ = false := F9.out.X.free 4; have F10 := Lib.hid (F9.out.put 4 (.slice A3 (ps.length + 1) c3)); clear ho3 hg3))
            clear c1y f1y y0 y1 x4 NC F8 F9 G7 H7 HZZ Y8w Y9
            go_roundw
            case rel => exact ⟨k + 1, (zr, e2), ps ++ [((pt : Int), bb)], A3, c3, A7, n7, c7, by omega, by go_num, OK3.out, by rw [List.length_append, List.length_singleton, HPP.out], RD2.out, by rw [List.length_append, List.length_singleton]; exact F10.out⟩
            case measure => simp [intOf]; omega
          · have hJ : ¬ (k : Int) < mp := by omega
            obtain rfl : k = mp := by omega
            have E := RD.out
            rw [Nat.sub_self] at E
            have E : (ps, (zs, er)) = rdPars k [] (zE, eE) := E
            have E2 := EXS.out.trans E.symm
            injection E2 with E2 E3
            injection E3 with E3 E4
            subst E2 E3 E4
            have T' := T.out.round hf
            have b8 := (Below.refl wr.heap.size wr).alloc (Nat.le_refl _) (.cells #[.string xn, .int .i64 (kd : Nat), .int .i64 (ty : Nat), .int .i32 xv, .slice Ap xp.length cp] pE)
            have PV := Lib.hid (show ParV 0 (wr.alloc (.cells #[.string xn, .int .i64 (kd : Nat), .int .i64 (ty : Nat), .int .i32 xv, .slice Ap xp.length cp] pE)) (.slice Ap xp.length cp) xp from (ParV.own hf.P).below b8)
            have T8 := Lib.hid (T'.call b8)
            have NC := Lib.hid (show ∀ (j : Nat) u, ([.string xn, .int .i64 (kd : Nat), .int .i64 (ty : Nat), .int .i32 xv, .slice Ap xp.length cp] : List Value)[j]? = some u → (wr.alloc (.cells #[.string xn, .int .i64 (kd : Nat), .int .i64 (ty : Nat), .int .i32 xv, .slice Ap xp.length cp] pE)).cell? ((⟨wr.heap.size, 0, none⟩ : Addr).add j) = some u from fun j u hj => by rw [Go.WideShapes.add_plain, Nat.zero_add]; exact ((Whole.made wr pE #[.string xn, .int .i64 (kd : Nat), .int .i64 (ty : Nat), .int .i32 xv, .slice Ap xp.length cp] _ rfl).cell j).trans (by simpa using hj))
            have HBASE := Lib.hid T8.out.B.size
            have x0 : wr.cell? ⟨WR.heap.size, 0, none⟩ = some (.string xn) := hf.X.cell 0
            have x1 : wr.cell? ⟨WR.heap.size, 1, none⟩ = some (.int .i64 (kd : Nat)) := hf.X.cell 1
            have x2 : wr.cell? ⟨WR.heap.size, 2, none⟩ = some (.int .i64 (ty : Nat)) := hf.X.cell 2
            have x3 : wr.cell? ⟨WR.heap.size, 3, none⟩ = some (.int .i32 xv) := hf.X.cell 3
            have x4 : wr.cell? ⟨WR.heap.size, 4, none⟩ = some (.slice Ap xp.length cp) := hf.X.cell 4
            clear hf T' b8 E EXS RD
            go_wp2_with (at_builtin; refine wpList_append_own_at _ rfl _ _ 29 rfl w.heap.size pE i0 _ 5 64 Try.underlying29 hi0 hz0 hz1 hz2 rfl (by decide) (.slice A0 l.length c0) l.length _ rfl T8.out.L.row ⟨wr.heap.size, 0, none⟩ 1 1 [.string xn, .int .i64 (kd : Nat), .int .i64 (ty : Nat), .int .i32 xv, .slice Ap xp.length cp] rfl rfl NC.out (fun u hu => by simp at hu; rcases hu with rfl | rfl | rfl | rfl | rfl <;> rfl) (by have := PB.out; unfold maxLen; omega) (by have := PB.out; omega) HBASE.out ?_; intro v3 w3 ho3 hg3 _ _; have T9 := Lib.hid (T8.out.grown (x := (⟨xn, (kd : Nat), (ty : Nat), xv, xp⟩, .slice Ap xp.length cp)) PV.out hg3 ho3); clear ho3 hg3)
            clear x0 x1 x2 x3 x4 NC T8
            go_roundw
            case rel => exact ⟨t + 1, (xs, xe), l ++ [(⟨xn, (kd : Nat), (ty : Nat), xv, xp⟩, .slice Ap xp.length cp)], A, n, c, by omega, by go_num, OKX.out, fun h0 => ⟨by rw [List.length_append, List.length_singleton, HPT.out], by rw [List.map_append]; exact GOX.out h0⟩, fun h0 => BADX.out h0, by rw [List.length_append, List.length_singleton]; have := HPL.out; omega, T9.out⟩
            case measure => simp [intOf]; omega
      · have hI : ¬ (t : Int) < mn := by omega
        obtain rfl : t = mn := by omega
        have RE := Lib.hid (show (l.map (·.1), (zs, 0)) = RA from by
          have := GO1.out.2
          rwa [Nat.sub_self] at this)
        have SR := Lib.hid (hT.Rq.setRow #[.slice A n c, .int .i64 0])
        have QW := Lib.hid hT.Rq
        have BF := Lib.hid (show Below w.heap.size w (wr.setRow (w.heap.size + 1) #[.slice A n c, .int .i64 0]) from hT.B.grown SR.out.2 hT.B.size (fun b hb => by injection hb with hb; omega))
        have LF := Lib.hid (show RowE (wr.setRow (w.heap.size + 1) #[.slice A n c, .int .i64 0]) 0 w.heap.size (.slice A0 l.length c0) l from hT.L.keepBox hT.Rq (KeptS.grown SR.out.2 (fun b hb => by injection hb with hb; exact hb.symm)))
        have QF := Lib.hid SR.out.1
        clear SR hT
        generalize hZZ : wr.setRow (w.heap.size + 1) #[.slice A n c, .int .i64 0] = ZZ at *
        have HZZ := Lib.hid hZZ
        clear hZZ
        repeat (first | (go_big_may; refine wpList_store_row rfl rfT (.tmp 2) (.tmp 89) rfl (w.heap.size + 1) #[.slice A n c, .int .i64 0] rfl rfl rfT #[.slice none 0 0, .int .i64 0] QW.out HZ2 rfl (show (#[.slice A n c, .int .i64 0] : Array Value).all (·.oneCell') = true from by simp [Value.oneCell']) ?_; rw [HZZ.out]) | go_values | go_skip | go_guarded | go_step | go_upon)
        have z0 : ZZ.cell? ⟨(w.heap.size + 1), 0, none⟩ = some (.slice A n c) := QF.out.cell 0
        have z1 : ZZ.cell? ⟨(w.heap.size + 1), 1, none⟩ = some (.int .i64 0) := QF.out.cell 1
        refine bodyPost_ret (v := .tuple #[.agg #[.slice A n c, .int .i64 0], .slice A0 l.length c0]) ?_ rfl ?_
        · simp [results, Try.results20, go_sem, z0, z1]
        · rw [UL.out, ← RE.out]
          exact ⟨A, n, c, _, l, rfl, T.out.RV, LF.out, rfl, BF.out⟩
    · have RE := Lib.hid (show ([], (zs, er)) = RA from BAD.out he)
      have hne : (er != 0) = true := by simp [he]
      have hne2 : (er == 0) = false := by simp [he]
      have HH := Lib.hid he
      clear GO BAD he
      by_cases hlt : t < mn
      · have hI : (t : Int) < mn := by omega
        have SR := Lib.hid (hT.Rq.setRow #[.slice A n c, .int .i64 er])
        have QW := Lib.hid hT.Rq
        have BF := Lib.hid (show Below w.heap.size w (wr.setRow (w.heap.size + 1) #[.slice A n c, .int .i64 er]) from hT.B.grown SR.out.2 hT.B.size (fun b hb => by injection hb with hb; omega))
        have LF := Lib.hid (show RowE (wr.setRow (w.heap.size + 1) #[.slice A n c, .int .i64 er]) 0 w.heap.size (.slice A0 l.length c0) l from hT.L.keepBox hT.Rq (KeptS.grown SR.out.2 (fun b hb => by injection hb with hb; exact hb.symm)))
        have QF := Lib.hid SR.out.1
        clear SR hT
        generalize hZZ : wr.setRow (w.heap.size + 1) #[.slice A n c, .int .i64 er] = ZZ at *
        have HZZ := Lib.hid hZZ
        clear hZZ
        repeat (first | (go_big_may; refine wpList_store_row rfl rfT (.tmp 2) (.tmp 88) rfl (w.heap.size + 1) #[.slice A n c, .int .i64 er] rfl rfl rfT #[.slice none 0 0, .int .i64 0] QW.out HZ2 rfl (show (#[.slice A n c, .int .i64 er] : Array Value).all (·.oneCell') = true from by simp [Value.oneCell']) ?_; rw [HZZ.out]) | go_values | go_skip | go_guarded | go_step | go_upon)
        have z0 : ZZ.cell? ⟨(w.heap.size + 1), 0, none⟩ = some (.slice A n c) := QF.out.cell 0
        have z1 : ZZ.cell? ⟨(w.heap.size + 1), 1, none⟩ = some (.int .i64 er) := QF.out.cell 1
        refine bodyPost_ret (v := .tuple #[.agg #[.slice A n c, .int .i64 er], .slice none 0 0]) ?_ rfl ?_
        · simp [results, Try.results20, go_sem, z0, z1]
        · rw [UL.out, ← RE.out]
          exact ⟨A, n, c, _, [], rfl, T.out.RV, RowE.nil _ _ _, rfl, BF.out⟩
      · have hI : ¬ (t : Int) < mn := by omega
        have SR := Lib.hid (hT.Rq.setRow #[.slice A n c, .int .i64 er])
        have QW := Lib.hid hT.Rq
        have BF := Lib.hid (show Below w.heap.size w (wr.setRow (w.heap.size + 1) #[.slice A n c, .int .i64 er]) from hT.B.grown SR.out.2 hT.B.size (fun b hb => by injection hb with hb; omega))
        have LF := Lib.hid (show RowE (wr.setRow (w.heap.size + 1) #[.slice A n c, .int .i64 er]) 0 w.heap.size (.slice A0 l.length c0) l from hT.L.keepBox hT.Rq (KeptS.grown SR.out.2 (fun b hb => by injection hb with hb; exact hb.symm)))
        have QF := Lib.hid SR.out.1
        clear SR hT
        generalize hZZ : wr.setRow (w.heap.size + 1) #[.slice A n c, .int .i64 er] = ZZ at *
        have HZZ := Lib.hid hZZ
        clear hZZ
        repeat (first | (go_big_may; refine wpList_store_row rfl rfT (.tmp 2) (.tmp 88) rfl (w.heap.size + 1) #[.slice A n c, .int .i64 er] rfl rfl rfT #[.slice none 0 0, .int .i64 0] QW.out HZ2 rfl (show (#[.slice A n c, .int .i64 er] : Array Value).all (·.oneCell') = true from by simp [Value.oneCell']) ?_; rw [HZZ.out]) | go_values | go_skip | go_guarded | go_step | go_upon)
        have z0 : ZZ.cell? ⟨(w.heap.size + 1), 0, none⟩ = some (.slice A n c) := QF.out.cell 0
        have z1 : ZZ.cell? ⟨(w.heap.size + 1), 1, none⟩ = some (.int .i64 er) := QF.out.cell 1
        refine bodyPost_ret (v := .tuple #[.agg #[.slice A n c, .int .i64 er], .slice none 0 0]) ?_ rfl ?_
        · simp [results, Try.results20, go_sem, z0, z1]
        · rw [UL.out, ← RE.out]
          exact ⟨A, n, c, _, [], rfl, T.out.RV, RowE.nil _ _ _, rfl, BF.out⟩
end Go.Proofs.Ythaclkdclkhclaa
