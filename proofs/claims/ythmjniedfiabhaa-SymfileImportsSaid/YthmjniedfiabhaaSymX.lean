/- Symfile: the answers' Read of imports. -/
import Derived.Test.YthmjniedfiabhaaSymU
import Derived.Test.YthmjniedfiabhaaSymT
namespace Go.Proofs.Ythmjniedfiabhaa
open Go.ChangeShapes Go.WideShapes Go.ChangeAt Go.RowKit
set_option linter.unusedVariables false
set_option linter.unusedSimpArgs false

/-- Within Read: the reader's box, the result's, the row. -/
structure TiF (V w0 w : World) (A : Option Addr) (n c : Nat) (zs : List Int) (err : Int) (v : Value) (l : List Im) : Prop where
  VW : Below V.heap.size V w
  RV : RfV V A n c zs err
  RN : n ≤ 1000000
  Rp : Whole w w0.heap.size rfT #[.slice A n c, .int .i64 err]
  Rq : Whole w (w0.heap.size + 1) rfT #[.slice none 0 0, .int .i64 0]
  P : w.ownsRow w0.heap.size pI 2 v l.length (l.flatMap imCells)
  B : Below w0.heap.size w0 w
  Vz : V.heap.size ≤ w0.heap.size

section
variable {V w0 w w' : World} {A A' : Option Addr} {n c n' c' : Nat} {zs zs' : List Int} {err err' : Int} {v v' : Value} {l : List Im}

theorem TiF.call (h : TiF V w0 w A n c zs err v l) (hb : Below w.heap.size w w') : TiF V w0 w' A n c zs err v l :=
  ⟨h.VW.trans (hb.mono h.VW.size), h.RV, h.RN, h.Rp.below hb h.Rp.lt, h.Rq.below hb h.Rq.lt, row_below h.P hb, h.B.trans (hb.mono h.B.size), h.Vz⟩

theorem TiF.setp (h : TiF V w0 w A n c zs err v l) (hr : RfV V A' n' c' zs' err') (hn : n' ≤ 1000000) : TiF V w0 (w.setRow w0.heap.size #[.slice A' n' c', .int .i64 err']) A' n' c' zs' err' v l := by
  have s := h.Rp.setRow #[.slice A' n' c', .int .i64 err']
  have hk : KeptS (fun b => b = w0.heap.size) w (w.setRow w0.heap.size #[.slice A' n' c', .int .i64 err']) := KeptS.grown s.2 (fun b hb => by injection hb with hb; exact hb.symm)
  exact ⟨h.VW.grown s.2 h.VW.size (fun b hb => by injection hb with hb; have := h.Vz; omega), hr, hn, s.1, hk.whole h.Rq (by show ¬ w0.heap.size + 1 = w0.heap.size; omega), hk.row h.P (fun b hb hs => by subst hs; exact row_ne h.P h.Rp (fun _ _ e => by injection e with _ e _; exact absurd e (by decide)) hb), h.B.grown s.2 h.B.size (fun b hb => by injection hb with hb; omega), h.Vz⟩

/-- A store into a later box. -/
theorem TiF.far (h : TiF V w0 w A n c zs err v l) {x i : Nat} {u : Value} (hx : w0.heap.size + 1 < x) (ho : v.ownBlock ≠ some x) : TiF V w0 (w.setCell ⟨x, i, none⟩ u) A n c zs err v l :=
  ⟨h.VW.grown (grown_set w x i u) h.VW.size (fun b hb => by injection hb with hb; have := h.Vz; omega), h.RV, h.RN, h.Rp.far (by show w0.heap.size ≠ x; omega) u, h.Rq.far (by show w0.heap.size + 1 ≠ x; omega) u, (KeptS.set (S := fun b => b = x) (w := w) (g := x) (j := i) (u := u) rfl).row h.P (fun b hb hs => by subst hs; exact ho hb), h.B.setCell (by show w0.heap.size ≤ x; omega) _, h.Vz⟩

/-- The row grown. -/
theorem TiF.grown (h : TiF V w0 w A n c zs err v l) {x : Im} (hg : w.grownBy w' v.ownBlock) (ho : w'.ownsRow w0.heap.size pI 2 v' (l.length + 1) (l.flatMap imCells ++ imCells x)) : TiF V w0 w' A n c zs err v' (l ++ [x]) := by
  have hne : ∀ b, v.ownBlock = some b → w0.heap.size ≤ b := fun b hb => (World.ownsRow.lt h.P b hb).1
  have hk : KeptS (fun b => v.ownBlock = some b) w w' := KeptS.grown hg (fun b hb => hb)
  exact ⟨h.VW.grown hg h.VW.size (fun b hb => by have := hne b hb; have := h.Vz; omega), h.RV, h.RN, hk.whole h.Rp (fun hs => row_ne h.P h.Rp (fun _ _ e => by injection e with _ e _; exact absurd e (by decide)) hs), hk.whole h.Rq (fun hs => row_ne h.P h.Rq (fun _ _ e => by injection e with _ e _; exact absurd e (by decide)) hs), by rw [List.length_append, List.flatMap_append, List.length_singleton, List.flatMap_singleton]; exact ho, h.B.grown hg h.B.size (fun b hb => hne b hb), h.Vz⟩

theorem TiF.out (h : TiF V w0 w A n c zs err v l) : Whole (w.setRow (w0.heap.size + 1) #[.slice A n c, .int .i64 err]) (w0.heap.size + 1) rfT #[.slice A n c, .int .i64 err] ∧ Below w0.heap.size w0 (w.setRow (w0.heap.size + 1) #[.slice A n c, .int .i64 err]) ∧ (w.setRow (w0.heap.size + 1) #[.slice A n c, .int .i64 err]).ownsRow w0.heap.size pI 2 v l.length (l.flatMap imCells) := by
  have s := h.Rq.setRow #[.slice A n c, .int .i64 err]
  have hk : KeptS (fun b => b = w0.heap.size + 1) w (w.setRow (w0.heap.size + 1) #[.slice A n c, .int .i64 err]) := KeptS.grown s.2 (fun b hb => by injection hb with hb; exact hb.symm)
  exact ⟨s.1, h.B.grown s.2 h.B.size (fun b hb => by injection hb with hb; omega), hk.row h.P (fun b hb hs => by subst hs; exact row_ne h.P h.Rq (fun _ _ e => by injection e with _ e _; exact absurd e (by decide)) hb)⟩
end

/-- What the answers' Read leaves. -/
def RtIms (V w : World) (st : RSt) (e : Ending) (w' : World) : Prop :=
  ∃ A n c v, e = .returned (.tuple #[.agg #[.slice A n c, .int .i64 (rdAllI st).2.2], v]) ∧ RfV V A n c (rdAllI st).2.1 (rdAllI st).2.2 ∧ w'.ownsRow w.heap.size pI 2 v (rdAllI st).1.length ((rdAllI st).1.flatMap imCells) ∧ Below w.heap.size w w'

set_option maxHeartbeats 32000000 in
set_option maxRecDepth 100000 in
theorem reftake_ims (A : Option Addr) (n c : Nat) (st0 : RSt) (V w : World) (hV : Below V.heap.size V w) (h : RfV V A n c st0.1 st0.2) (hn : n ≤ 1000000) (ok : RdOk st0) :
    Calls Try.prog 30 #[.agg #[.slice A n c, .int .i64 st0.2]] w fun e w' => RtIms V w st0 e w' := by
  have HZI : (Try.prog.info? rfT).map (·.size) = some 2 := by kernel_rfl
  have OK0 := Lib.hid (ok.groups 64)
  have LN := Lib.hid (groupsP_le st0.1 st0.2 64)
  have AL := Lib.hid (show rdAllI st0 = ((if (rdIms (groupsP st0.1 st0.2 64).1 [] (groupsP st0.1 st0.2 64).2).2.2 = 0 then (rdIms (groupsP st0.1 st0.2 64).1 [] (groupsP st0.1 st0.2 64).2).1 else []), (rdIms (groupsP st0.1 st0.2 64).1 [] (groupsP st0.1 st0.2 64).2).2) from rfl)
  have UL := Lib.hid (show ∀ e w', RtIms V w st0 e w' = (∃ A n c v, e = .returned (.tuple #[.agg #[.slice A n c, .int .i64 (rdAllI st0).2.2], v]) ∧ RfV V A n c (rdAllI st0).2.1 (rdAllI st0).2.2 ∧ w'.ownsRow w.heap.size pI 2 v (rdAllI st0).1.length ((rdAllI st0).1.flatMap imCells) ∧ Below w.heap.size w w') from fun _ _ => rfl)
  have T0 := Lib.hid (show TiF V w ((w.alloc (.cells #[.slice A n c, .int .i64 st0.2] rfT)).alloc (.cells #[.slice none 0 0, .int .i64 0] rfT)) A n c st0.1 st0.2 (.slice none 0 0) [] from
    have b := ((Below.refl w.heap.size w).alloc (Nat.le_refl _) (.cells #[.slice A n c, .int .i64 st0.2] rfT)).alloc (by simp) (.cells #[.slice none 0 0, .int .i64 0] rfT)
    ⟨hV.trans (b.mono hV.size), h, hn, (Whole.made w rfT _ _ rfl).alloc _, Whole.made _ rfT _ _ (by simp), row_nil _ _ _ _, b, hV.size⟩)
  have C0 := Lib.hid (reftake_count 64 A n c st0.1 st0.2 V _ T0.out.VW h hn ok.byt (by decide))
  have UR := Lib.hid (show ∀ W x zs err e w', RcPost V W x zs err e w' → (∃ A n c, e = .returned (.tuple #[.agg #[.slice A n c, .int .i64 err], x]) ∧ RfV V A n c zs err ∧ n ≤ 1000000 ∧ Below W.heap.size W w') from fun _ _ _ _ _ _ h => h)
  obtain ⟨i0, hi0, hz0, hz1, hz2⟩ := info_parts imInfo
  have p0 : ((w.alloc (.cells #[.slice A n c, .int .i64 st0.2] rfT)).alloc (.cells #[.slice none 0 0, .int .i64 0] rfT)).cell? ⟨w.heap.size, 0, none⟩ = some (.slice A n c) := T0.out.Rp.cell 0
  have p1 : ((w.alloc (.cells #[.slice A n c, .int .i64 st0.2] rfT)).alloc (.cells #[.slice none 0 0, .int .i64 0] rfT)).cell? ⟨w.heap.size, 1, none⟩ = some (.int .i64 st0.2) := T0.out.Rp.cell 1
  clear h ok hV
  generalize rdAllI st0 = RA at *
  generalize groupsP st0.1 st0.2 64 = gn at *
  obtain ⟨mn, zs1, e1⟩ := gn
  obtain ⟨zs0, e0⟩ := st0
  have hmn : mn ≤ 64 := LN.out
  have AL2 := Lib.hid (show RA = ((if (rdIms mn [] (zs1, e1)).2.2 = 0 then (rdIms mn [] (zs1, e1)).1 else []), (rdIms mn [] (zs1, e1)).2) from AL.out)
  clear AL
  generalize hre : rdIms mn [] (zs1, e1) = re at *
  have HRE := Lib.hid hre
  clear hre
  go_enter Try.func30, Try.ntmps30
  go_wp2_with fail
  clear p0 p1
  refine C0.out.mono ?_
  rintro e w1 ⟨A1, n1, c1, rfl, hrv, hn1, hb⟩
  have T1 := Lib.hid (T0.out.call hb)
  have T2 := Lib.hid (T1.out.setp hrv hn1)
  generalize hZZ : w1.setRow w.heap.size #[.slice A1 n1 c1, .int .i64 e1] = ZZ at *
  have HZZ := Lib.hid hZZ
  clear hb hrv hn1 C0 T0 hZZ
  go_wp2_with (refine wpList_store_row rfl rfT (.tmp 1) (.tmp 11) rfl (w.heap.size) #[.slice A1 n1 c1, .int .i64 e1] rfl rfl rfT #[.slice A n c, .int .i64 e0] T1.out.Rp HZI rfl (show (#[.slice A1 n1 c1, .int .i64 e1] : Array Value).all (·.oneCell') = true from by simp [Value.oneCell']) ?_; rw [HZZ.out])
  clear T1 HZZ
  go_loopw [5, 6] (fun v i wr => ∃ (t : Nat) (st : RSt) (l : List Im) (A : Option Addr) (n c : Nat), t ≤ mn ∧ i = .int .i64 t ∧ RdOk st ∧ l.length = t ∧ rdIms (mn - t) l st = re ∧ TiF V w wr A n c st.1 st.2 v l) (fun _ i _ => mn - (intOf i).toNat)
  case atStart => exact ⟨0, (zs1, e1), [], A1, n1, c1, Nat.zero_le _, rfl, OK0.out, rfl, HRE.out, T2.out⟩
  case round =>
    clear T2 OK0 HRE
    obtain ⟨t, st, l, A, n, c, ht, rfl, hok, hpl, hrd, hT⟩ := hrel
    obtain ⟨A0, c0, rfl⟩ := row_form hT.P
    have OKS := Lib.hid hok
    have RD := Lib.hid hrd
    have HPL := Lib.hid hpl
    have PB := Lib.hid (show l.length ≤ 64 by omega)
    have T := Lib.hid hT
    clear hok hrd hpl
    by_cases hlt : t < mn
    · have hI : (t : Int) < mn := by omega
      have RD1 := Lib.hid (show rdIms (mn - (t + 1)) (l ++ [(rdIm st).1]) (rdIm st).2 = re from by
        rw [← RD.out, show mn - t = (mn - (t + 1)) + 1 by omega]
        rfl)
      have OK2 := Lib.hid OKS.out.im
      have PE := Lib.hid (show rdIm st = (⟨(textP st.1 st.2 32).1, (wordP (textP st.1 st.2 32).2.1 (textP st.1 st.2 32).2.2).1⟩, (wordP (textP st.1 st.2 32).2.1 (textP st.1 st.2 32).2.2).2) from rfl)
      have q1 := (Below.refl wr.heap.size wr).alloc (Nat.le_refl _) (.cells #[.string ⟨#[]⟩, .int .u32 0] pI)
      have F1 := Lib.hid (hT.call q1)
      have Y1 := Lib.hid (Whole.made wr pI #[.string ⟨#[]⟩, .int .u32 0] _ rfl)
      have NE := Lib.hid (show w.heap.size + 1 < wr.heap.size from hT.Rq.lt)
      have NO := Lib.hid (show (Value.slice A0 l.length c0).ownBlock ≠ some wr.heap.size from fun e => by
        have := (World.ownsRow.lt hT.P _ e).2
        omega)
      have CT := Lib.hid (reftake_text 32 A n c st.1 st.2 V _ F1.out.VW F1.out.RV F1.out.RN OKS.out.byt (by decide))
      have OKT := Lib.hid (OKS.out.text 32)
      have CR := Lib.hid (fun A n c W (h1 : Below V.heap.size V W) (h2 : RfV V A n c (textP st.1 st.2 32).2.1 (textP st.1 st.2 32).2.2) (h3 : n ≤ 1000000) => reftake_word A n c (textP st.1 st.2 32).2 V W h1 h2 h3 OKT.out.byt)
      generalize rdIm st = rp at *
      generalize wordP (textP st.1 st.2 32).2.1 (textP st.1 st.2 32).2.2 = gr at *
      generalize textP st.1 st.2 32 = gt at *
      obtain ⟨nm, zt, et⟩ := gt
      obtain ⟨kw, zr, er⟩ := gr
      obtain ⟨zs, er0⟩ := st
      obtain rfl := PE.out
      have RD2 := Lib.hid (show rdIms (mn - (t + 1)) (l ++ [⟨nm, kw⟩]) (zr, er) = re from RD1.out)
      have OK3 := Lib.hid (show RdOk (zr, er) from OK2.out)
      have p0 : (wr.alloc (.cells #[.string ⟨#[]⟩, .int .u32 0] pI)).cell? ⟨w.heap.size, 0, none⟩ = some (.slice A n c) := F1.out.Rp.cell 0
      have p1 : (wr.alloc (.cells #[.string ⟨#[]⟩, .int .u32 0] pI)).cell? ⟨w.heap.size, 1, none⟩ = some (.int .i64 er0) := F1.out.Rp.cell 1
      clear PE RD RD1 OK2 OKT q1 hT
      go_wp2_with fail
      clear p0 p1
      generalize hZ0 : wr.alloc (.cells #[.string ⟨#[]⟩, .int .u32 0] pI) = W0 at *
      clear hZ0
      generalize wr.heap.size = x at *
      refine CT.out.mono ?_
      intro e w6 hpost
      obtain ⟨A6, n6, c6, rfl, hrv, hn6, hb⟩ := UR.out _ _ _ _ _ _ hpost
      have F6 := Lib.hid (F1.out.call hb)
      have Y6 := Lib.hid (Y1.out.below hb Y1.out.lt)
      have F7 := Lib.hid (F6.out.setp hrv hn6)
      have Y7 := Lib.hid (show Whole (w6.setRow w.heap.size #[.slice A6 n6 c6, .int .i64 et]) x pI #[.string ⟨#[]⟩, .int .u32 0] from (KeptS.grown (S := fun b => b = w.heap.size) (F6.out.Rp.setRow _).2 (fun b hb => by injection hb with hb; exact hb.symm)).whole Y6.out (by have := NE.out; show ¬ x = w.heap.size; omega))
      generalize hZZ : w6.setRow w.heap.size #[.slice A6 n6 c6, .int .i64 et] = Z6 at *
      have HZ6 := Lib.hid hZZ
      have x0 : Z6.cell? ⟨x, 0, none⟩ = some (.string ⟨#[]⟩) := Y7.out.cell 0
      have xf0 : Z6.frozen? ⟨x, 0, none⟩ = false := Y7.out.free 0
      have F8 := Lib.hid (F7.out.far (i := 0) (u := .string nm) NE.out NO.out)
      have Y8 := Lib.hid (show Whole (Z6.setCell ⟨x, 0, none⟩ (.string nm)) x pI #[.string nm, .int .u32 0] from Y7.out.store 0 _)
      have CR1 := Lib.hid (CR.out A6 n6 c6 _ F8.out.VW F8.out.RV F8.out.RN)
      have p0 : (Z6.setCell ⟨x, 0, none⟩ (.string nm)).cell? ⟨w.heap.size, 0, none⟩ = some (.slice A6 n6 c6) := F8.out.Rp.cell 0
      have p1 : (Z6.setCell ⟨x, 0, none⟩ (.string nm)).cell? ⟨w.heap.size, 1, none⟩ = some (.int .i64 et) := F8.out.Rp.cell 1
      clear hpost hrv hn6 hb hZZ F1 Y1 CT CR F7 Y7
      go_wp2_with (refine wpList_store_row rfl rfT (.tmp 1) (.tmp 21) rfl (w.heap.size) #[.slice A6 n6 c6, .int .i64 et] rfl rfl rfT #[.slice A n c, .int .i64 er0] F6.out.Rp HZI rfl (show (#[.slice A6 n6 c6, .int .i64 et] : Array Value).all (·.oneCell') = true from by simp [Value.oneCell']) ?_; rw [HZ6.out])
      clear p0 p1 x0 xf0 F6 Y6 HZ6
      generalize hZ0 : Z6.setCell ⟨x, 0, none⟩ (.string nm) = W1 at *
      clear hZ0
      refine CR1.out.mono ?_
      intro e w9 hpost
      obtain ⟨A9, n9, c9, rfl, hrv, hn9, hb⟩ := UR.out _ _ _ _ _ _ hpost
      have F9 := Lib.hid (F8.out.call hb)
      have Y9 := Lib.hid (Y8.out.below hb Y8.out.lt)
      have FA := Lib.hid (F9.out.setp hrv hn9)
      have YA := Lib.hid (show Whole (w9.setRow w.heap.size #[.slice A9 n9 c9, .int .i64 er]) x pI #[.string nm, .int .u32 0] from (KeptS.grown (S := fun b => b = w.heap.size) (F9.out.Rp.setRow _).2 (fun b hb => by injection hb with hb; exact hb.symm)).whole Y9.out (by have := NE.out; show ¬ x = w.heap.size; omega))
      generalize hZZ : w9.setRow w.heap.size #[.slice A9 n9 c9, .int .i64 er] = Z9 at *
      have HZ9 := Lib.hid hZZ
      have x1 : Z9.cell? ⟨x, 1, none⟩ = some (.int .u32 0) := YA.out.cell 1
      have xf1 : Z9.frozen? ⟨x, 1, none⟩ = false := YA.out.free 1
      have FB := Lib.hid (FA.out.far (i := 1) (u := .int .u32 kw) NE.out NO.out)
      have YB := Lib.hid (show Whole (Z9.setCell ⟨x, 1, none⟩ (.int .u32 kw)) x pI #[.string nm, .int .u32 kw] from YA.out.store 1 _)
      have y0 : (Z9.setCell ⟨x, 1, none⟩ (.int .u32 kw)).cell? ⟨x, 0, none⟩ = some (.string nm) := YB.out.cell 0
      have y1 : (Z9.setCell ⟨x, 1, none⟩ (.int .u32 kw)).cell? ⟨x, 1, none⟩ = some (.int .u32 kw) := YB.out.cell 1
      have b8 := (Below.refl (Z9.setCell ⟨x, 1, none⟩ (.int .u32 kw)).heap.size (Z9.setCell ⟨x, 1, none⟩ (.int .u32 kw))).alloc (Nat.le_refl _) (.cells #[.string nm, .int .u32 kw] pI)
      have FC := Lib.hid (FB.out.call b8)
      have NC := Lib.hid (show ∀ (j : Nat) u, ([.string nm, .int .u32 kw] : List Value)[j]? = some u → ((Z9.setCell ⟨x, 1, none⟩ (.int .u32 kw)).alloc (.cells #[.string nm, .int .u32 kw] pI)).cell? ((⟨Z9.heap.size, 0, none⟩ : Addr).add j) = some u from fun j u hj => by rw [Go.WideShapes.add_plain, Nat.zero_add]; exact ((Whole.made (Z9.setCell ⟨x, 1, none⟩ (.int .u32 kw)) pI #[.string nm, .int .u32 kw] Z9.heap.size (by simp)).cell j).trans (by simpa using hj))
      have HBASE := Lib.hid (FC.out.B.size)
      clear hpost hrv hn9 hb hZZ b8 F8 Y8 CR1 FA YA FB YB
      go_wp2_with (first | (refine wpList_store_row rfl rfT (.tmp 1) (.tmp 27) rfl (w.heap.size) #[.slice A9 n9 c9, .int .i64 er] rfl rfl rfT #[.slice A6 n6 c6, .int .i64 et] F9.out.Rp HZI rfl (show (#[.slice A9 n9 c9, .int .i64 er] : Array Value).all (·.oneCell') = true from by simp [Value.oneCell']) ?_; rw [HZ9.out]) | (at_builtin; refine wpList_append_own_at _ rfl _ _ 23 rfl w.heap.size pI i0 _ 2 24 Try.underlying23 hi0 hz0 hz1 hz2 rfl (by decide) (.slice A0 l.length c0) l.length _ rfl FC.out.P ⟨_, 0, none⟩ 1 1 [.string nm, .int .u32 kw] rfl rfl NC.out (fun u hu => by simp at hu; rcases hu with rfl | rfl <;> rfl) (by have := PB.out; unfold maxLen; omega) (by have := PB.out; omega) HBASE.out ?_; intro v3 w3 ho3 hg3 _ _; obtain ⟨A3, c3, rfl⟩ := row_form ho3; have FD := Lib.hid (FC.out.grown (x := ⟨nm, kw⟩) hg3 ho3); clear ho3 hg3))
      clear x1 xf1 y0 y1 NC FC F9 Y9 HZ9
      go_roundw
      case rel => exact ⟨t + 1, (zr, er), l ++ [⟨nm, kw⟩], A9, n9, c9, by omega, by go_num, OK3.out, by rw [List.length_append, List.length_singleton, HPL.out], RD2.out, FD.out⟩
      case measure => simp [intOf]; omega
    · have hI : ¬ (t : Int) < mn := by omega
      obtain rfl : t = mn := by omega
      have E := RD.out
      rw [Nat.sub_self] at E
      have HE := Lib.hid (show (l, st) = re from E)
      obtain rfl := HE.out
      clear E RD HE
      obtain ⟨zs, er⟩ := st
      have RR := Lib.hid (show RA = ((if er = 0 then l else []), (zs, er)) from AL2.out)
      have p0 : wr.cell? ⟨w.heap.size, 0, none⟩ = some (.slice A n c) := hT.Rp.cell 0
      have p1 : wr.cell? ⟨w.heap.size, 1, none⟩ = some (.int .i64 er) := hT.Rp.cell 1
      have OO := Lib.hid hT.out
      have QW := Lib.hid hT.Rq
      simp only at OO
      generalize hZZ : wr.setRow (w.heap.size + 1) #[.slice A n c, .int .i64 er] = ZZ at *
      have HZZ := Lib.hid hZZ
      clear hZZ hT
      by_cases h0 : er = 0
      · have hne : (er != 0) = false := by simp [h0]
        have RZ := Lib.hid (show RA = (l, (zs, er)) from by rw [RR.out, if_pos h0])
        clear h0 RR AL2
        go_wp2_with (refine wpList_store_row rfl rfT (.tmp 2) (.tmp 38) rfl (w.heap.size + 1) #[.slice A n c, .int .i64 er] rfl rfl rfT #[.slice none 0 0, .int .i64 0] QW.out HZI rfl (show (#[.slice A n c, .int .i64 er] : Array Value).all (·.oneCell') = true from by simp [Value.oneCell']) ?_; rw [HZZ.out])
        have z0 : ZZ.cell? ⟨w.heap.size + 1, 0, none⟩ = some (.slice A n c) := OO.out.1.cell 0
        have z1 : ZZ.cell? ⟨w.heap.size + 1, 1, none⟩ = some (.int .i64 er) := OO.out.1.cell 1
        refine bodyPost_ret (v := .tuple #[.agg #[.slice A n c, .int .i64 er], .slice A0 l.length c0]) ?_ rfl ?_
        · simp [results, Try.results30, go_sem, z0, z1]
        · rw [UL.out, RZ.out]
          exact ⟨A, n, c, _, rfl, T.out.RV, OO.out.2.2, OO.out.2.1⟩
      · have hne : (er != 0) = true := by simp [h0]
        have RZ := Lib.hid (show RA = ([], (zs, er)) from by rw [RR.out, if_neg h0])
        clear h0 RR AL2
        go_wp2_with (refine wpList_store_row rfl rfT (.tmp 2) (.tmp 37) rfl (w.heap.size + 1) #[.slice A n c, .int .i64 er] rfl rfl rfT #[.slice none 0 0, .int .i64 0] QW.out HZI rfl (show (#[.slice A n c, .int .i64 er] : Array Value).all (·.oneCell') = true from by simp [Value.oneCell']) ?_; rw [HZZ.out])
        have z0 : ZZ.cell? ⟨w.heap.size + 1, 0, none⟩ = some (.slice A n c) := OO.out.1.cell 0
        have z1 : ZZ.cell? ⟨w.heap.size + 1, 1, none⟩ = some (.int .i64 er) := OO.out.1.cell 1
        refine bodyPost_ret (v := .tuple #[.agg #[.slice A n c, .int .i64 er], .slice none 0 0]) ?_ rfl ?_
        · simp [results, Try.results30, go_sem, z0, z1]
        · rw [UL.out, RZ.out]
          exact ⟨A, n, c, _, rfl, T.out.RV, row_nil _ _ _ _, OO.out.2.1⟩
end Go.Proofs.Ythmjniedfiabhaa
