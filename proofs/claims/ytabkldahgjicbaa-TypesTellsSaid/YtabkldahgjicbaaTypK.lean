/- Types: the program's Find. -/
import Derived.Test.YtabkldahgjicbaaTypJ
namespace Go.Proofs.Ytabkldahgjicbaa
open Go.ChangeShapes Go.WideShapes Go.ChangeAt Go.RowKit
set_option linter.unusedVariables false
set_option linter.unusedSimpArgs false

/-- A whole struct of three cells stored into a block. -/
theorem set_three {w : World} {g : Nat} {t : TypeId} {c0 c1 c2 : Value} (h : Whole w g t #[c0, c1, c2]) (u0 u1 u2 : Value) :
    Whole (((w.setCell ⟨g, 0, none⟩ u0).setCell ⟨g, 1, none⟩ u1).setCell ⟨g, 2, none⟩ u2) g t #[u0, u1, u2] ∧ w.grownBy (((w.setCell ⟨g, 0, none⟩ u0).setCell ⟨g, 1, none⟩ u1).setCell ⟨g, 2, none⟩ u2) (some g) :=
  ⟨((h.store 0 u0).store 1 u1).store 2 u2, ((grown_set w g 0 u0).trans (grown_set _ g 1 u1)).trans (grown_set _ g 2 u2)⟩

def findP (x : Ty) (s : ByteArray) : Fd × Int :=
  if x.kind ≠ 6 then (zF, 111)
  else if idxF (nameIs s) x.fds 0 < 0 then (zF, 110)
  else (x.fds.getD (idxF (nameIs s) x.fds 0).toNat zF, 0)

set_option maxHeartbeats 16000000 in
set_option maxRecDepth 100000 in
theorem find_any (p B : Nat) (v : Value) (L : List Tx) (id : Int) (s : ByteArray) (w : World) (h : TabAt w B p v L) (hn : L.length ≤ 4096) (x : Tx) (hx : x = getX L id) (hF : x.1.fds.length ≤ 1000) (hN : NamesOk x.1.fds) :
    Calls Try.prog 8 #[.pointer (some ⟨p, 0, none⟩), .int .i64 id, .string s] w fun e w' => e = .returned (.tuple #[.agg #[.string (findP x.1 s).1.name, .int .i64 (findP x.1 s).1.ty, .int .i64 (findP x.1 s).1.off], .int .i64 (findP x.1 s).2]) ∧ Below w.heap.size w w' := by
  have hb0 := (Below.refl w.heap.size w).alloc (Nat.le_refl _) (.cells #[.string ⟨#[]⟩, .int .i64 0, .int .i64 0] pF)
  have AT := Lib.hid (at_any p B v L id _ (h.below hb0) hn x hx)
  have Q0 := Lib.hid (Whole.made w pF #[.string ⟨#[]⟩, .int .i64 0, .int .i64 0] _ rfl)
  have hfr := h.rows.get id
  rw [← hx] at hfr
  obtain ⟨k, ln, bs, sz, op, fds, Af, cf, hP⟩ := h.rows.parts id
  obtain rfl := hx.trans hP
  have HR := Lib.hid hfr
  have BA := Lib.hid hb0
  have HN := Lib.hid hN
  simp only at hF
  have hF2 : fds.length ≤ 1000000 := by omega
  have FD := Lib.hid (show findP ⟨k, ln, bs, sz, op, fds⟩ s = if k ≠ 6 then (zF, 111) else if idxF (nameIs s) fds 0 < 0 then (zF, 110) else (fds.getD (idxF (nameIs s) fds 0).toNat zF, 0) from rfl)
  clear h hx hP hb0 hfr hN
  show Calls Try.prog 8 _ w fun e w' => e = .returned (.tuple #[.agg #[.string (findP ⟨k, ln, bs, sz, op, fds⟩ s).1.name, .int .i64 (findP ⟨k, ln, bs, sz, op, fds⟩ s).1.ty, .int .i64 (findP ⟨k, ln, bs, sz, op, fds⟩ s).1.off], .int .i64 (findP ⟨k, ln, bs, sz, op, fds⟩ s).2]) ∧ Below w.heap.size w w'
  generalize findP ⟨k, ln, bs, sz, op, fds⟩ s = r at *
  have IX := Lib.hid (fun w1 (hb : Below w.heap.size w w1) => indexof_any s (.slice Af fds.length cf) B fds w1 (row_below HR.out hb) hF2)
  have hib := idxF_bound (nameIs s) fds 0
  generalize idxF (nameIs s) fds 0 = ix at *
  by_cases hk : k = 6
  case neg =>
    have HP := Lib.hid (FD.out.trans (if_pos hk))
    have d1 : (k != 6) = true := by simpa using hk
    clear FD hk IX hib
    go_enter Try.func8, Try.ntmps8
    go_wp2_with fail
    refine AT.out.mono ?_
    rintro e w1 ⟨rfl, hb1⟩
    have b2 := (Below.refl w1.heap.size w1).alloc (Nat.le_refl _) (.cells #[.int .i64 k, .int .i64 ln, .int .i64 bs, .int .i64 sz, .bool op, .slice Af fds.length cf] pT)
    have B2 := Lib.hid ((BA.out.trans (hb1.mono BA.out.size)).trans (b2.mono (Nat.le_trans BA.out.size hb1.size)))
    have Q1 := Lib.hid (Q0.out.below hb1 Q0.out.lt)
    have Q2 := Lib.hid (Q1.out.below b2 Q1.out.lt)
    have X2 := Lib.hid (Whole.made w1 pT #[.int .i64 k, .int .i64 ln, .int .i64 bs, .int .i64 sz, .bool op, .slice Af fds.length cf] _ rfl)
    have x0 : (w1.alloc (.cells #[.int .i64 k, .int .i64 ln, .int .i64 bs, .int .i64 sz, .bool op, .slice Af fds.length cf] pT)).cell? ⟨w1.heap.size, 0, none⟩ = some (.int .i64 k) := X2.out.cell 0
    have x5 : (w1.alloc (.cells #[.int .i64 k, .int .i64 ln, .int .i64 bs, .int .i64 sz, .bool op, .slice Af fds.length cf] pT)).cell? ⟨w1.heap.size, 5, none⟩ = some (.slice Af fds.length cf) := X2.out.cell 5
    have y0 : (w1.alloc (.cells #[.int .i64 k, .int .i64 ln, .int .i64 bs, .int .i64 sz, .bool op, .slice Af fds.length cf] pT)).cell? ⟨w.heap.size, 0, none⟩ = some (.string ⟨#[]⟩) := Q2.out.cell 0
    have y1 : (w1.alloc (.cells #[.int .i64 k, .int .i64 ln, .int .i64 bs, .int .i64 sz, .bool op, .slice Af fds.length cf] pT)).cell? ⟨w.heap.size, 1, none⟩ = some (.int .i64 0) := Q2.out.cell 1
    have y2 : (w1.alloc (.cells #[.int .i64 k, .int .i64 ln, .int .i64 bs, .int .i64 sz, .bool op, .slice Af fds.length cf] pT)).cell? ⟨w.heap.size, 2, none⟩ = some (.int .i64 0) := Q2.out.cell 2
    have z0 : (w1.alloc (.cells #[.int .i64 k, .int .i64 ln, .int .i64 bs, .int .i64 sz, .bool op, .slice Af fds.length cf] pT)).frozen? ⟨w.heap.size, 0, none⟩ = false := Q2.out.free 0
    have z1 : (w1.alloc (.cells #[.int .i64 k, .int .i64 ln, .int .i64 bs, .int .i64 sz, .bool op, .slice Af fds.length cf] pT)).frozen? ⟨w.heap.size, 1, none⟩ = false := Q2.out.free 1
    have z2 : (w1.alloc (.cells #[.int .i64 k, .int .i64 ln, .int .i64 bs, .int .i64 sz, .bool op, .slice Af fds.length cf] pT)).frozen? ⟨w.heap.size, 2, none⟩ = false := Q2.out.free 2
    clear hb1 b2
    go_wp2_with fail
    have SX := set_three Q2.out (.string ⟨#[]⟩) (.int .i64 0) (.int .i64 0)
    have B9 : Below w.heap.size w _ := B2.out.grown SX.2 B2.out.size (fun b hb => by injection hb with hb; omega)
    have w0 := SX.1.cell 0
    have wa := SX.1.cell 1
    have wb := SX.1.cell 2
    refine bodyPost_ret (v := .tuple #[.agg #[.string ⟨#[]⟩, .int .i64 0, .int .i64 0], .int .i64 111]) ?_ rfl ⟨by rw [HP.out]; rfl, B9⟩
    clear B9 SX
    generalize (((w1.alloc (.cells #[.int .i64 k, .int .i64 ln, .int .i64 bs, .int .i64 sz, .bool op, .slice Af fds.length cf] pT)).setCell ⟨w.heap.size, 0, none⟩ (.string ⟨#[]⟩)).setCell ⟨w.heap.size, 1, none⟩ (.int .i64 0)).setCell ⟨w.heap.size, 2, none⟩ (.int .i64 0) = Z at *
    simp [results, Try.results8, go_sem, w0, wa, wb]
  subst hk
  have F2 := Lib.hid (FD.out.trans (if_neg (by decide)))
  clear FD
  by_cases hneg : ix < 0
  case pos =>
    have HP := Lib.hid (F2.out.trans (if_pos hneg))
    have d1 : decide (ix < 0) = true := decide_eq_true hneg
    clear F2 hneg hib
    go_enter Try.func8, Try.ntmps8
    go_wp2_with fail
    refine AT.out.mono ?_
    rintro e w1 ⟨rfl, hb1⟩
    have b2 := (Below.refl w1.heap.size w1).alloc (Nat.le_refl _) (.cells #[.int .i64 6, .int .i64 ln, .int .i64 bs, .int .i64 sz, .bool op, .slice Af fds.length cf] pT)
    have B2 := Lib.hid ((BA.out.trans (hb1.mono BA.out.size)).trans (b2.mono (Nat.le_trans BA.out.size hb1.size)))
    have Q1 := Lib.hid (Q0.out.below hb1 Q0.out.lt)
    have Q2 := Lib.hid (Q1.out.below b2 Q1.out.lt)
    have X2 := Lib.hid (Whole.made w1 pT #[.int .i64 6, .int .i64 ln, .int .i64 bs, .int .i64 sz, .bool op, .slice Af fds.length cf] _ rfl)
    have x0 : (w1.alloc (.cells #[.int .i64 6, .int .i64 ln, .int .i64 bs, .int .i64 sz, .bool op, .slice Af fds.length cf] pT)).cell? ⟨w1.heap.size, 0, none⟩ = some (.int .i64 6) := X2.out.cell 0
    have x5 : (w1.alloc (.cells #[.int .i64 6, .int .i64 ln, .int .i64 bs, .int .i64 sz, .bool op, .slice Af fds.length cf] pT)).cell? ⟨w1.heap.size, 5, none⟩ = some (.slice Af fds.length cf) := X2.out.cell 5
    have IC := Lib.hid (IX.out _ B2.out)
    clear hb1 b2 IX
    go_wp2_with fail
    refine IC.out.mono ?_
    rintro e w3 ⟨rfl, hb3⟩
    have B3 := Lib.hid (B2.out.trans (hb3.mono B2.out.size))
    have Q3 := Lib.hid (Q2.out.below hb3 Q2.out.lt)
    have X3 := Lib.hid (X2.out.below hb3 X2.out.lt)
    have R3 := Lib.hid (row_below HR.out B3.out)
    have x5 : w3.cell? ⟨w1.heap.size, 5, none⟩ = some (.slice Af fds.length cf) := X3.out.cell 5
    have y0 : w3.cell? ⟨w.heap.size, 0, none⟩ = some (.string ⟨#[]⟩) := Q3.out.cell 0
    have y1 : w3.cell? ⟨w.heap.size, 1, none⟩ = some (.int .i64 0) := Q3.out.cell 1
    have y2 : w3.cell? ⟨w.heap.size, 2, none⟩ = some (.int .i64 0) := Q3.out.cell 2
    have z0 : w3.frozen? ⟨w.heap.size, 0, none⟩ = false := Q3.out.free 0
    have z1 : w3.frozen? ⟨w.heap.size, 1, none⟩ = false := Q3.out.free 1
    have z2 : w3.frozen? ⟨w.heap.size, 2, none⟩ = false := Q3.out.free 2
    clear hb3 x0 B2 Q2 X2 Q1
    go_wp2_with fail
    have SX := set_three Q3.out (.string ⟨#[]⟩) (.int .i64 0) (.int .i64 0)
    have B9 : Below w.heap.size w _ := B3.out.grown SX.2 B3.out.size (fun b hb => by injection hb with hb; omega)
    have w0 := SX.1.cell 0
    have wa := SX.1.cell 1
    have wb := SX.1.cell 2
    refine bodyPost_ret (v := .tuple #[.agg #[.string ⟨#[]⟩, .int .i64 0, .int .i64 0], .int .i64 110]) ?_ rfl ⟨by rw [HP.out]; rfl, B9⟩
    clear B9 SX
    generalize ((w3.setCell ⟨w.heap.size, 0, none⟩ (.string ⟨#[]⟩)).setCell ⟨w.heap.size, 1, none⟩ (.int .i64 0)).setCell ⟨w.heap.size, 2, none⟩ (.int .i64 0) = Z at *
    simp [results, Try.results8, go_sem, w0, wa, wb]
  obtain ⟨t, rfl⟩ : ∃ t : Nat, ix = t := ⟨ix.toNat, by omega⟩
  have htl : t < fds.length := by omega
  have htI : (t : Int) < fds.length := by omega
  have HP := Lib.hid (F2.out.trans (if_neg hneg))
  have d1 : decide ((t : Int) < 0) = false := decide_eq_false hneg
  have hfm : fds.getD t zF ∈ fds := by
    rw [List.getD_eq_getElem?_getD, List.getElem?_eq_getElem htl]
    exact List.getElem_mem htl
  have hsz := HN.out _ hfm
  have SC := Lib.hid (fun w => sclone_any (fds.getD t zF).name w hsz)
  rw [Int.toNat_natCast] at HP
  clear F2 hneg hib hsz hfm
  obtain ⟨hcap, g, rfl, hBg, hgl, hg⟩ := row_cell (f := Fd.cells) (fun _ => rfl) zF HR.out rfl htl
  generalize fds.getD t zF = f at *
  obtain ⟨nm, ty, off⟩ := f
  have G0 := Lib.hid (fun w1 (hb : Below w.heap.size w w1) => And.intro (show w1.cell? ⟨g, t * 3, none⟩ = some (.string nm) from (hb.cell (p := ⟨g, t * 3, none⟩) hgl).trans (hg 0 (by decide)).1) (And.intro (show w1.cell? ⟨g, t * 3 + 1, none⟩ = some (.int .i64 ty) from (hb.cell (p := ⟨g, t * 3 + 1, none⟩) hgl).trans (hg 1 (by decide)).1) (show w1.cell? ⟨g, t * 3 + 2, none⟩ = some (.int .i64 off) from (hb.cell (p := ⟨g, t * 3 + 2, none⟩) hgl).trans (hg 2 (by decide)).1)))
  clear hg
  go_enter Try.func8, Try.ntmps8
  go_wp2_with fail
  refine AT.out.mono ?_
  rintro e w1 ⟨rfl, hb1⟩
  have b2 := (Below.refl w1.heap.size w1).alloc (Nat.le_refl _) (.cells #[.int .i64 6, .int .i64 ln, .int .i64 bs, .int .i64 sz, .bool op, .slice (some ⟨g, 0, none⟩) fds.length cf] pT)
  have B2 := Lib.hid ((BA.out.trans (hb1.mono BA.out.size)).trans (b2.mono (Nat.le_trans BA.out.size hb1.size)))
  have Q1 := Lib.hid (Q0.out.below hb1 Q0.out.lt)
  have Q2 := Lib.hid (Q1.out.below b2 Q1.out.lt)
  have X2 := Lib.hid (Whole.made w1 pT #[.int .i64 6, .int .i64 ln, .int .i64 bs, .int .i64 sz, .bool op, .slice (some ⟨g, 0, none⟩) fds.length cf] _ rfl)
  have x0 : (w1.alloc (.cells #[.int .i64 6, .int .i64 ln, .int .i64 bs, .int .i64 sz, .bool op, .slice (some ⟨g, 0, none⟩) fds.length cf] pT)).cell? ⟨w1.heap.size, 0, none⟩ = some (.int .i64 6) := X2.out.cell 0
  have x5 : (w1.alloc (.cells #[.int .i64 6, .int .i64 ln, .int .i64 bs, .int .i64 sz, .bool op, .slice (some ⟨g, 0, none⟩) fds.length cf] pT)).cell? ⟨w1.heap.size, 5, none⟩ = some (.slice (some ⟨g, 0, none⟩) fds.length cf) := X2.out.cell 5
  have IC := Lib.hid (IX.out _ B2.out)
  clear hb1 b2 IX
  go_wp2_with fail
  refine IC.out.mono ?_
  rintro e w3 ⟨rfl, hb3⟩
  have B3 := Lib.hid (B2.out.trans (hb3.mono B2.out.size))
  have Q3 := Lib.hid (Q2.out.below hb3 Q2.out.lt)
  have X3 := Lib.hid (X2.out.below hb3 X2.out.lt)
  have R3 := Lib.hid (row_below HR.out B3.out)
  have x5 : w3.cell? ⟨w1.heap.size, 5, none⟩ = some (.slice (some ⟨g, 0, none⟩) fds.length cf) := X3.out.cell 5
  obtain ⟨g0, g1, g2⟩ := G0.out w3 B3.out
  have b4 := (Below.refl w3.heap.size w3).alloc (Nat.le_refl _) (.cells #[.string nm, .int .i64 ty, .int .i64 off] pF)
  have B4 := Lib.hid (B3.out.trans (b4.mono B3.out.size))
  have Q4 := Lib.hid (Q3.out.below b4 Q3.out.lt)
  have D4 := Lib.hid (Whole.made w3 pF #[.string nm, .int .i64 ty, .int .i64 off] _ rfl)
  have d40 : (w3.alloc (.cells #[.string nm, .int .i64 ty, .int .i64 off] pF)).cell? ⟨w3.heap.size, 0, none⟩ = some (.string nm) := D4.out.cell 0
  clear hb3 x0 B2 Q2 X2 Q1 b4
  go_wp2_with fail
  refine (SC.out _).mono ?_
  rintro e w5 ⟨rfl, hb5⟩
  have B5 := Lib.hid (B4.out.trans (hb5.mono B4.out.size))
  have Q5 := Lib.hid (Q4.out.below hb5 Q4.out.lt)
  have D5 := Lib.hid (D4.out.below hb5 D4.out.lt)
  have hq3 := Q3.out.lt
  have e0 : w5.cell? ⟨w3.heap.size, 0, none⟩ = some (.string nm) := D5.out.cell 0
  have ef : w5.frozen? ⟨w3.heap.size, 0, none⟩ = false := D5.out.free 0
  have D6 := Lib.hid (D5.out.store 0 (.string nm))
  have Q6 := Lib.hid (Q5.out.far (p := ⟨w3.heap.size, 0, none⟩) (Nat.ne_of_lt hq3) (.string nm))
  have B6 := Lib.hid (B5.out.setCell (p := ⟨w3.heap.size, 0, none⟩) (Nat.le_of_lt hq3) (.string nm))
  have h0 : (w5.setCell ⟨w3.heap.size, 0, none⟩ (.string nm)).cell? ⟨w3.heap.size, 0, none⟩ = some (.string nm) := D6.out.cell 0
  have h1 : (w5.setCell ⟨w3.heap.size, 0, none⟩ (.string nm)).cell? ⟨w3.heap.size, 1, none⟩ = some (.int .i64 ty) := D6.out.cell 1
  have h2 : (w5.setCell ⟨w3.heap.size, 0, none⟩ (.string nm)).cell? ⟨w3.heap.size, 2, none⟩ = some (.int .i64 off) := D6.out.cell 2
  have y0 : (w5.setCell ⟨w3.heap.size, 0, none⟩ (.string nm)).cell? ⟨w.heap.size, 0, none⟩ = some (.string ⟨#[]⟩) := Q6.out.cell 0
  have y1 : (w5.setCell ⟨w3.heap.size, 0, none⟩ (.string nm)).cell? ⟨w.heap.size, 1, none⟩ = some (.int .i64 0) := Q6.out.cell 1
  have y2 : (w5.setCell ⟨w3.heap.size, 0, none⟩ (.string nm)).cell? ⟨w.heap.size, 2, none⟩ = some (.int .i64 0) := Q6.out.cell 2
  have z0 : (w5.setCell ⟨w3.heap.size, 0, none⟩ (.string nm)).frozen? ⟨w.heap.size, 0, none⟩ = false := Q6.out.free 0
  have z1 : (w5.setCell ⟨w3.heap.size, 0, none⟩ (.string nm)).frozen? ⟨w.heap.size, 1, none⟩ = false := Q6.out.free 1
  have z2 : (w5.setCell ⟨w3.heap.size, 0, none⟩ (.string nm)).frozen? ⟨w.heap.size, 2, none⟩ = false := Q6.out.free 2
  clear hb5 d40 B4 Q4 D4 Q5 D5 SC
  go_wp2_with fail
  have SX := set_three Q6.out (.string nm) (.int .i64 ty) (.int .i64 off)
  have B9 : Below w.heap.size w _ := B6.out.grown SX.2 B6.out.size (fun b hb => by injection hb with hb; omega)
  have w0 := SX.1.cell 0
  have wa := SX.1.cell 1
  have wb := SX.1.cell 2
  refine bodyPost_ret (v := .tuple #[.agg #[.string nm, .int .i64 ty, .int .i64 off], .int .i64 0]) ?_ rfl ⟨by rw [HP.out], B9⟩
  clear B9 SX
  generalize (((w5.setCell ⟨w3.heap.size, 0, none⟩ (.string nm)).setCell ⟨w.heap.size, 0, none⟩ (.string nm)).setCell ⟨w.heap.size, 1, none⟩ (.int .i64 ty)).setCell ⟨w.heap.size, 2, none⟩ (.int .i64 off) = Z at *
  simp [results, Try.results8, go_sem, w0, wa, wb]
end Go.Proofs.Ytabkldahgjicbaa
