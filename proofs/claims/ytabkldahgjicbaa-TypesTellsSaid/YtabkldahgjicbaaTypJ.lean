/- Types: the program's Get. -/
import Derived.Test.YtabkldahgjicbaaTypH
import Derived.Deep.RegionHeld3
namespace Go.Proofs.Ytabkldahgjicbaa
open Go.ChangeShapes Go.WideShapes Go.ChangeAt Go.RowKit
set_option linter.unusedVariables false
set_option linter.unusedSimpArgs false

/-- A whole struct of six cells stored into a block. -/
theorem set_six {w : World} {g : Nat} {t : TypeId} {c0 c1 c2 c3 c4 c5 : Value} (h : Whole w g t #[c0, c1, c2, c3, c4, c5]) (u0 u1 u2 u3 u4 u5 : Value) :
    Whole ((((((w.setCell ⟨g, 0, none⟩ u0).setCell ⟨g, 1, none⟩ u1).setCell ⟨g, 2, none⟩ u2).setCell ⟨g, 3, none⟩ u3).setCell ⟨g, 4, none⟩ u4).setCell ⟨g, 5, none⟩ u5) g t #[u0, u1, u2, u3, u4, u5] ∧ w.grownBy ((((((w.setCell ⟨g, 0, none⟩ u0).setCell ⟨g, 1, none⟩ u1).setCell ⟨g, 2, none⟩ u2).setCell ⟨g, 3, none⟩ u3).setCell ⟨g, 4, none⟩ u4).setCell ⟨g, 5, none⟩ u5) (some g) :=
  ⟨(((((h.store 0 u0).store 1 u1).store 2 u2).store 3 u3).store 4 u4).store 5 u5, ((((((grown_set w g 0 u0).trans (grown_set _ g 1 u1)).trans (grown_set _ g 2 u2)).trans (grown_set _ g 3 u3)).trans (grown_set _ g 4 u4)).trans (grown_set _ g 5 u5))⟩

theorem list_set_same {α : Type} {l : List α} {j : Nat} {u : α} (h : l[j]? = some u) : l.set j u = l := by
  apply List.ext_getElem?
  intro i
  rw [List.getElem?_set]
  split
  · rename_i e
    subst e
    split
    · exact h.symm
    · rename_i h2
      rw [List.getElem?_eq_none (by omega)]
  · rfl

/-- The names are no longer than may be. -/
def NamesOk (fds : List Fd) : Prop := ∀ f ∈ fds, f.name.size ≤ 140737488355328

set_option maxHeartbeats 16000000 in
set_option maxRecDepth 100000 in
theorem get_any (p B : Nat) (v : Value) (L : List Tx) (id : Int) (w : World) (h : TabAt w B p v L) (hn : L.length ≤ 4096) (x : Tx) (hx : x = getX L id) (hF : x.1.fds.length ≤ 1000) (hN : NamesOk x.1.fds) :
    Calls Try.prog 11 #[.pointer (some ⟨p, 0, none⟩), .int .i64 id] w fun e w' => ∃ fv', e = .returned (.agg #[.int .i64 x.1.kind, .int .i64 x.1.len, .int .i64 x.1.base, .int .i64 x.1.size, .bool x.1.opn, fv']) ∧ Below w.heap.size w w' ∧ w'.ownsRow w.heap.size pF 3 fv' x.1.fds.length (x.1.fds.flatMap Fd.cells) := by
  have hb0 := (Below.refl w.heap.size w).alloc (Nat.le_refl _) (.cells #[.int .i64 0, .int .i64 0, .int .i64 0, .int .i64 0, .bool false, .slice none 0 0] pT)
  have AT := Lib.hid (at_any p B v L id _ (h.below hb0) hn x hx)
  have Q0 := Lib.hid (Whole.made w pT #[.int .i64 0, .int .i64 0, .int .i64 0, .int .i64 0, .bool false, .slice none 0 0] _ rfl)
  have hfr := h.rows.get id
  rw [← hx] at hfr
  obtain ⟨k, ln, bs, sz, op, fds, Af, cf, hP⟩ := h.rows.parts id
  obtain rfl := hx.trans hP
  have HR := Lib.hid hfr
  have BA := Lib.hid hb0
  have HN := Lib.hid hN
  simp only at hF
  have hF2 : fds.length ≤ 1000000 := by omega
  clear h hx hP hb0 hfr hN
  show Calls Try.prog 11 _ w fun e w' => ∃ fv', e = .returned (.agg #[.int .i64 k, .int .i64 ln, .int .i64 bs, .int .i64 sz, .bool op, fv']) ∧ Below w.heap.size w w' ∧ w'.ownsRow w.heap.size pF 3 fv' fds.length (fds.flatMap Fd.cells)
  go_enter Try.func11, Try.ntmps11
  go_wp2_with fail
  refine AT.out.mono ?_
  rintro e w1 ⟨rfl, hb1⟩
  have B1 := Lib.hid (BA.out.trans (hb1.mono BA.out.size))
  have Q1 := Lib.hid (Q0.out.below hb1 Q0.out.lt)
  have hq1 : w.heap.size < w1.heap.size := Q1.out.lt
  have b2 := (Below.refl w1.heap.size w1).alloc (Nat.le_refl _) (.cells #[.int .i64 k, .int .i64 ln, .int .i64 bs, .int .i64 sz, .bool op, .slice Af fds.length cf] pT)
  have Q2 := Lib.hid (Q1.out.below b2 Q1.out.lt)
  have X2 := Lib.hid (Whole.made w1 pT #[.int .i64 k, .int .i64 ln, .int .i64 bs, .int .i64 sz, .bool op, .slice Af fds.length cf] _ rfl)
  have B2 := Lib.hid (B1.out.trans (b2.mono B1.out.size))
  have FC := Lib.hid (fclone_any (.slice Af fds.length cf) B fds _ (row_below HR.out B2.out) hF2)
  have x5 : (w1.alloc (.cells #[.int .i64 k, .int .i64 ln, .int .i64 bs, .int .i64 sz, .bool op, .slice Af fds.length cf] pT)).cell? ⟨w1.heap.size, 5, none⟩ = some (.slice Af fds.length cf) := X2.out.cell 5
  clear hb1 AT b2 BA Q0 Q1 HR
  go_wp2_with fail
  refine FC.out.mono ?_
  rintro e w3 ⟨fv', rfl, hb3, ho3⟩
  obtain ⟨A3, c3, rfl⟩ := row_form ho3
  have hz3 : w.heap.size ≤ (w1.alloc (.cells #[.int .i64 k, .int .i64 ln, .int .i64 bs, .int .i64 sz, .bool op, .slice Af fds.length cf] pT)).heap.size := B2.out.size
  have B3 := Lib.hid (B2.out.trans (hb3.mono B2.out.size))
  have Q3 := Lib.hid (Q2.out.below hb3 Q2.out.lt)
  have X3 := Lib.hid (X2.out.below hb3 X2.out.lt)
  have O3 := Lib.hid (row_more ho3 hz3)
  have x5 : w3.cell? ⟨w1.heap.size, 5, none⟩ = some (.slice Af fds.length cf) := X3.out.cell 5
  have f5 : w3.frozen? ⟨w1.heap.size, 5, none⟩ = false := X3.out.free 5
  have X4 := Lib.hid (show Whole (w3.setCell ⟨w1.heap.size, 5, none⟩ (.slice A3 fds.length c3)) w1.heap.size pT #[.int .i64 k, .int .i64 ln, .int .i64 bs, .int .i64 sz, .bool op, .slice A3 fds.length c3] from X3.out.store 5 _)
  have Q4 := Lib.hid (show Whole (w3.setCell ⟨w1.heap.size, 5, none⟩ (.slice A3 fds.length c3)) w.heap.size pT #[.int .i64 0, .int .i64 0, .int .i64 0, .int .i64 0, .bool false, .slice none 0 0] from Q3.out.far (by show w.heap.size ≠ w1.heap.size; omega) _)
  have B4 := Lib.hid (B3.out.setCell (p := ⟨w1.heap.size, 5, none⟩) (Nat.le_of_lt hq1) (.slice A3 fds.length c3))
  have O4 := Lib.hid (World.ownsRow.kept O3.out (grown_set w3 w1.heap.size 5 (.slice A3 fds.length c3)) (.inr (row_ne O3.out X3.out (fun _ _ h => pF_pT (by injection h with _ h; exact h.symm)))))
  have y5 : (w3.setCell ⟨w1.heap.size, 5, none⟩ (.slice A3 fds.length c3)).cell? ⟨w1.heap.size, 5, none⟩ = some (.slice A3 fds.length c3) := X4.out.cell 5
  clear hb3 ho3 hz3 FC B2 Q2 X2 B1 Q3 X3 O3 B3
  go_wp2_with fail
  generalize hV : w3.setCell ⟨w1.heap.size, 5, none⟩ (.slice A3 fds.length c3) = V at *
  clear hV x5 f5
  generalize w1.heap.size = q at *
  go_loopw [6, 17] (fun _ i wr => ∃ t : Nat, t ≤ fds.length ∧ i = .int .i64 t ∧ Below w.heap.size w wr ∧ Whole wr w.heap.size pT #[.int .i64 0, .int .i64 0, .int .i64 0, .int .i64 0, .bool false, .slice none 0 0] ∧ Whole wr q pT #[.int .i64 k, .int .i64 ln, .int .i64 bs, .int .i64 sz, .bool op, .slice A3 fds.length c3] ∧ wr.ownsRow w.heap.size pF 3 (.slice A3 fds.length c3) fds.length (fds.flatMap Fd.cells)) (fun _ i _ => fds.length - (intOf i).toNat)
  case atStart => exact ⟨0, Nat.zero_le _, rfl, B4.out, Q4.out, X4.out, O4.out⟩
  case round =>
    clear B4 Q4 X4 O4 y5
    obtain ⟨t, ht, rfl, hb, hq, hxx, ho⟩ := hrel
    have BW := Lib.hid hb
    have QW := Lib.hid hq
    have XW := Lib.hid hxx
    have OW := Lib.hid ho
    have x5 : wr.cell? ⟨q, 5, none⟩ = some (.slice A3 fds.length c3) := hxx.cell 5
    clear hb hq hxx ho
    by_cases hlt : t < fds.length
    · have hI : (t : Int) < fds.length := by omega
      obtain ⟨hcap, g, rfl, hBg, hgl, hg⟩ := row_cell (f := Fd.cells) (fun _ => rfl) zF OW.out rfl hlt
      have hfm : fds.getD t zF ∈ fds := by
        rw [List.getD_eq_getElem?_getD, List.getElem?_eq_getElem hlt]
        exact List.getElem_mem hlt
      have hsz := HN.out _ hfm
      have hflat := flat_at Fd.cells 3 (fun _ => rfl) zF fds t 0 hlt (by decide)
      generalize fds.getD t zF = f at *
      obtain ⟨nm, ty, off⟩ := f
      have x0 : wr.cell? ⟨g, t * 3, none⟩ = some (.string nm) := (hg 0 (by decide)).1
      have g0 : wr.frozen? ⟨g, t * 3, none⟩ = false := (hg 0 (by decide)).2
      have SC := Lib.hid (fun w => sclone_any nm w hsz)
      have hqg : g ≠ q := fun e => by
        have h1 := row_ne OW.out XW.out (fun _ _ h => pF_pT (by injection h with _ h; exact h.symm))
        exact h1 (by simp [Value.ownBlock, e])
      have hwg : w.heap.size ≠ g := fun e => by
        have h1 := row_ne OW.out QW.out (fun _ _ h => pF_pT (by injection h with _ h; exact h.symm))
        exact h1 (by simp [Value.ownBlock, e])
      have FL := Lib.hid (show (fds.flatMap Fd.cells)[t * 3]? = some (.string nm) from hflat)
      have L0 : wr.drew.cell? ⟨q, 5, none⟩ = some (.slice (some ⟨g, 0, none⟩) fds.length c3) ∧ wr.drew.cell? ⟨g, t * 3, none⟩ = some (.string nm) := ⟨x5, x0⟩
      clear hfm hg hflat hsz
      go_wp2_with fail
      go_region_held3 (fun y => y.cell? ⟨q, 5, none⟩ = some (.slice (some ⟨g, 0, none⟩) fds.length c3) ∧ y.cell? ⟨g, t * 3, none⟩ = some (.string nm))
        (first
          | with_reducible assumption
          | with_reducible exact L0
          | with_reducible exact S2.out
          | with_reducible exact S3.out
          | fail)
        (first
          | (go_at_call 28; refine (SC.out _).mono ?_; rintro e y1 ⟨rfl, hb1⟩; have bd := (Below.refl wr.heap.size wr).drew.trans hb1; have B2 := Lib.hid (BW.out.trans (bd.mono BW.out.size)); have Q2 := Lib.hid (QW.out.below bd QW.out.lt); have X2 := Lib.hid (XW.out.below bd XW.out.lt); have O2 := Lib.hid (row_below OW.out bd); have S2 := Lib.hid (show y1.cell? ⟨q, 5, none⟩ = some (.slice (some ⟨g, 0, none⟩) fds.length c3) ∧ y1.cell? ⟨g, t * 3, none⟩ = some (.string nm) from ⟨X2.out.cell 5, (bd.cell (p := ⟨g, t * 3, none⟩) hgl).trans x0⟩); have x2 : y1.cell? ⟨g, t * 3, none⟩ = some (.string nm) := S2.out.2; have g2 : y1.frozen? ⟨g, t * 3, none⟩ = false := (bd.frozen (p := ⟨g, t * 3, none⟩) hgl).trans g0; have S3 := Lib.hid (show (y1.setCell ⟨g, t * 3, none⟩ (.string nm)).cell? ⟨q, 5, none⟩ = some (.slice (some ⟨g, 0, none⟩) fds.length c3) ∧ (y1.setCell ⟨g, t * 3, none⟩ (.string nm)).cell? ⟨g, t * 3, none⟩ = some (.string nm) from ⟨(X2.out.far (p := ⟨g, t * 3, none⟩) hqg.symm (.string nm)).cell 5, World.cell?_setCell_same _ _ _ x2⟩); clear hb1 bd))
      rename_i hH
      have B5 := Lib.hid (B2.out.setCell (p := ⟨g, t * 3, none⟩) hBg (.string nm))
      have Q5 := Lib.hid (Q2.out.far (p := ⟨g, t * 3, none⟩) hwg (.string nm))
      have X5 := Lib.hid (X2.out.far (p := ⟨g, t * 3, none⟩) hqg.symm (.string nm))
      have O5 := Lib.hid (row_set O2.out (j := t * 3) (.string nm))
      rw [list_set_same FL.out] at O5
      clear hH S2 S3 x2 g2 x0 x5 g0 L0 B2 Q2 X2 O2 BW QW XW OW SC
      generalize y1.setCell ⟨g, t * 3, none⟩ (.string nm) = W5 at *
      go_wp2_with fail
      go_roundw
      case rel => exact ⟨t + 1, by omega, by go_num, B5.out, Q5.out, X5.out, O5.out⟩
      case measure => simp [intOf]; omega
    · have hI : ¬ (t : Int) < fds.length := by omega
      have x0 : wr.cell? ⟨q, 0, none⟩ = some (.int .i64 k) := XW.out.cell 0
      have x1 : wr.cell? ⟨q, 1, none⟩ = some (.int .i64 ln) := XW.out.cell 1
      have x2 : wr.cell? ⟨q, 2, none⟩ = some (.int .i64 bs) := XW.out.cell 2
      have x3 : wr.cell? ⟨q, 3, none⟩ = some (.int .i64 sz) := XW.out.cell 3
      have x4 : wr.cell? ⟨q, 4, none⟩ = some (.bool op) := XW.out.cell 4
      have y0 : wr.cell? ⟨w.heap.size, 0, none⟩ = some (.int .i64 0) := QW.out.cell 0
      have y1 : wr.cell? ⟨w.heap.size, 1, none⟩ = some (.int .i64 0) := QW.out.cell 1
      have y2 : wr.cell? ⟨w.heap.size, 2, none⟩ = some (.int .i64 0) := QW.out.cell 2
      have y3 : wr.cell? ⟨w.heap.size, 3, none⟩ = some (.int .i64 0) := QW.out.cell 3
      have y4 : wr.cell? ⟨w.heap.size, 4, none⟩ = some (.bool false) := QW.out.cell 4
      have y5 : wr.cell? ⟨w.heap.size, 5, none⟩ = some (.slice none 0 0) := QW.out.cell 5
      have z0 : wr.frozen? ⟨w.heap.size, 0, none⟩ = false := QW.out.free 0
      have z1 : wr.frozen? ⟨w.heap.size, 1, none⟩ = false := QW.out.free 1
      have z2 : wr.frozen? ⟨w.heap.size, 2, none⟩ = false := QW.out.free 2
      have z3 : wr.frozen? ⟨w.heap.size, 3, none⟩ = false := QW.out.free 3
      have z4 : wr.frozen? ⟨w.heap.size, 4, none⟩ = false := QW.out.free 4
      have z5 : wr.frozen? ⟨w.heap.size, 5, none⟩ = false := QW.out.free 5
      have SX := Lib.hid (set_six QW.out (.int .i64 k) (.int .i64 ln) (.int .i64 bs) (.int .i64 sz) (.bool op) (.slice A3 fds.length c3))
      have NE := Lib.hid (row_ne OW.out QW.out (fun _ _ h => pF_pT (by injection h with _ h; exact h.symm)))
      go_wp2_with fail
      have O9 := World.ownsRow.kept OW.out SX.out.2 (.inr NE.out)
      have B9 : Below w.heap.size w _ := BW.out.grown SX.out.2 BW.out.size (fun b hb => by injection hb with hb; omega)
      have W9 := SX.out.1
      have w0 := W9.cell 0
      have w1' := W9.cell 1
      have w2 := W9.cell 2
      have w3' := W9.cell 3
      have w4 := W9.cell 4
      have w5 := W9.cell 5
      refine bodyPost_ret (v := .agg #[.int .i64 k, .int .i64 ln, .int .i64 bs, .int .i64 sz, .bool op, .slice A3 fds.length c3]) ?_ rfl ⟨_, rfl, B9, O9⟩
      clear O9 B9 SX W9
      generalize (((((wr.setCell ⟨w.heap.size, 0, none⟩ (.int .i64 k)).setCell ⟨w.heap.size, 1, none⟩ (.int .i64 ln)).setCell ⟨w.heap.size, 2, none⟩ (.int .i64 bs)).setCell ⟨w.heap.size, 3, none⟩ (.int .i64 sz)).setCell ⟨w.heap.size, 4, none⟩ (.bool op)).setCell ⟨w.heap.size, 5, none⟩ (.slice A3 fds.length c3) = Z at *
      simp [results, Try.results11, go_sem, w0, w1', w2, w3', w4, w5]
end Go.Proofs.Ytabkldahgjicbaa
