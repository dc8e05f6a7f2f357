/- Types: the answers' Find. -/
import Derived.Test.YtabkldahgjicbaaTypL
import Derived.Test.YtabkldahgjicbaaTypK
namespace Go.Proofs.Ytabkldahgjicbaa
open Go.ChangeShapes Go.WideShapes Go.ChangeAt Go.RowKit
set_option linter.unusedVariables false
set_option linter.unusedSimpArgs false

set_option maxHeartbeats 16000000 in
set_option maxRecDepth 100000 in
theorem reffind_any (B : Nat) (v : Value) (L : List Tx) (id : Int) (s : ByteArray) (w : World) (h : RowsX rT rF w B v L) (hn : L.length ≤ 4096) (x : Tx) (hx : x = getX L id) (hF : x.1.fds.length ≤ 1000) :
    Calls Try.prog 9 #[v, .int .i64 id, .string s] w fun e w' => e = .returned (.tuple #[.agg #[.string (findP x.1 s).1.name, .int .i64 (findP x.1 s).1.ty, .int .i64 (findP x.1 s).1.off], .int .i64 (findP x.1 s).2]) ∧ Below w.heap.size w w' := by
  have hb0 := (Below.refl w.heap.size w).alloc (Nat.le_refl _) (.cells #[.string ⟨#[]⟩, .int .i64 0, .int .i64 0] rF)
  have AT := Lib.hid (refget_any B v L id _ (h.below hb0) hn x hx)
  have Q0 := Lib.hid (Whole.made w rF #[.string ⟨#[]⟩, .int .i64 0, .int .i64 0] _ rfl)
  have hfr := h.get id
  rw [← hx] at hfr
  obtain ⟨k, ln, bs, sz, op, fds, Af, cf, hP⟩ := h.parts id
  obtain rfl := hx.trans hP
  have HR := Lib.hid hfr
  have BA := Lib.hid hb0
  simp only at hF
  have FD := Lib.hid (show findP ⟨k, ln, bs, sz, op, fds⟩ s = if k ≠ 6 then (zF, 111) else if idxF (nameIs s) fds 0 < 0 then (zF, 110) else (fds.getD (idxF (nameIs s) fds 0).toNat zF, 0) from rfl)
  clear h hx hP hb0 hfr
  show Calls Try.prog 9 _ w fun e w' => e = .returned (.tuple #[.agg #[.string (findP ⟨k, ln, bs, sz, op, fds⟩ s).1.name, .int .i64 (findP ⟨k, ln, bs, sz, op, fds⟩ s).1.ty, .int .i64 (findP ⟨k, ln, bs, sz, op, fds⟩ s).1.off], .int .i64 (findP ⟨k, ln, bs, sz, op, fds⟩ s).2]) ∧ Below w.heap.size w w'
  generalize findP ⟨k, ln, bs, sz, op, fds⟩ s = r at *
  have RR := Lib.hid (show idxF (nameIs s) (fds.drop 0) 0 = idxF (nameIs s) fds 0 from rfl)
  generalize idxF (nameIs s) fds 0 = ix at *
  by_cases hk : k = 6
  case neg =>
    have HP := Lib.hid (FD.out.trans (if_pos hk))
    have d1 : (k != 6) = true := by simpa using hk
    clear FD hk
    go_enter Try.func9, Try.ntmps9
    go_wp2_with fail
    refine AT.out.mono ?_
    rintro e w1 ⟨rfl, hb1⟩
    have b2 := (Below.refl w1.heap.size w1).alloc (Nat.le_refl _) (.cells #[.int .i64 k, .int .i64 ln, .int .i64 bs, .int .i64 sz, .bool op, .slice Af fds.length cf] rT)
    have B2 := Lib.hid ((BA.out.trans (hb1.mono BA.out.size)).trans (b2.mono (Nat.le_trans BA.out.size hb1.size)))
    have Q1 := Lib.hid (Q0.out.below hb1 Q0.out.lt)
    have Q2 := Lib.hid (Q1.out.below b2 Q1.out.lt)
    have X2 := Lib.hid (Whole.made w1 rT #[.int .i64 k, .int .i64 ln, .int .i64 bs, .int .i64 sz, .bool op, .slice Af fds.length cf] _ rfl)
    have x0 : (w1.alloc (.cells #[.int .i64 k, .int .i64 ln, .int .i64 bs, .int .i64 sz, .bool op, .slice Af fds.length cf] rT)).cell? ⟨w1.heap.size, 0, none⟩ = some (.int .i64 k) := X2.out.cell 0
    have y0 : (w1.alloc (.cells #[.int .i64 k, .int .i64 ln, .int .i64 bs, .int .i64 sz, .bool op, .slice Af fds.length cf] rT)).cell? ⟨w.heap.size, 0, none⟩ = some (.string ⟨#[]⟩) := Q2.out.cell 0
    have y1 : (w1.alloc (.cells #[.int .i64 k, .int .i64 ln, .int .i64 bs, .int .i64 sz, .bool op, .slice Af fds.length cf] rT)).cell? ⟨w.heap.size, 1, none⟩ = some (.int .i64 0) := Q2.out.cell 1
    have y2 : (w1.alloc (.cells #[.int .i64 k, .int .i64 ln, .int .i64 bs, .int .i64 sz, .bool op, .slice Af fds.length cf] rT)).cell? ⟨w.heap.size, 2, none⟩ = some (.int .i64 0) := Q2.out.cell 2
    have z0 : (w1.alloc (.cells #[.int .i64 k, .int .i64 ln, .int .i64 bs, .int .i64 sz, .bool op, .slice Af fds.length cf] rT)).frozen? ⟨w.heap.size, 0, none⟩ = false := Q2.out.free 0
    have z1 : (w1.alloc (.cells #[.int .i64 k, .int .i64 ln, .int .i64 bs, .int .i64 sz, .bool op, .slice Af fds.length cf] rT)).frozen? ⟨w.heap.size, 1, none⟩ = false := Q2.out.free 1
    have z2 : (w1.alloc (.cells #[.int .i64 k, .int .i64 ln, .int .i64 bs, .int .i64 sz, .bool op, .slice Af fds.length cf] rT)).frozen? ⟨w.heap.size, 2, none⟩ = false := Q2.out.free 2
    clear hb1 b2
    go_wp2_with fail
    have SX := set_three Q2.out (.string ⟨#[]⟩) (.int .i64 0) (.int .i64 0)
    have B9 : Below w.heap.size w _ := B2.out.grown SX.2 B2.out.size (fun b hb => by injection hb with hb; omega)
    have w0 := SX.1.cell 0
    have wa := SX.1.cell 1
    have wb := SX.1.cell 2
    refine bodyPost_ret (v := .tuple #[.agg #[.string ⟨#[]⟩, .int .i64 0, .int .i64 0], .int .i64 111]) ?_ rfl ⟨by rw [HP.out]; rfl, B9⟩
    clear B9 SX
    generalize (((w1.alloc (.cells #[.int .i64 k, .int .i64 ln, .int .i64 bs, .int .i64 sz, .bool op, .slice Af fds.length cf] rT)).setCell ⟨w.heap.size, 0, none⟩ (.string ⟨#[]⟩)).setCell ⟨w.heap.size, 1, none⟩ (.int .i64 0)).setCell ⟨w.heap.size, 2, none⟩ (.int .i64 0) = Z at *
    simp [results, Try.results9, go_sem, w0, wa, wb]
  subst hk
  have F2 := Lib.hid (FD.out.trans (if_neg (by decide)))
  clear FD
  go_enter Try.func9, Try.ntmps9
  go_wp2_with fail
  refine AT.out.mono ?_
  rintro e w1 ⟨rfl, hb1⟩
  have b2 := (Below.refl w1.heap.size w1).alloc (Nat.le_refl _) (.cells #[.int .i64 6, .int .i64 ln, .int .i64 bs, .int .i64 sz, .bool op, .slice Af fds.length cf] rT)
  have B2 := Lib.hid ((BA.out.trans (hb1.mono BA.out.size)).trans (b2.mono (Nat.le_trans BA.out.size hb1.size)))
  have Q1 := Lib.hid (Q0.out.below hb1 Q0.out.lt)
  have Q2 := Lib.hid (Q1.out.below b2 Q1.out.lt)
  have X2 := Lib.hid (Whole.made w1 rT #[.int .i64 6, .int .i64 ln, .int .i64 bs, .int .i64 sz, .bool op, .slice Af fds.length cf] _ rfl)
  have x0 : (w1.alloc (.cells #[.int .i64 6, .int .i64 ln, .int .i64 bs, .int .i64 sz, .bool op, .slice Af fds.length cf] rT)).cell? ⟨w1.heap.size, 0, none⟩ = some (.int .i64 6) := X2.out.cell 0
  clear hb1 b2
  go_wp2_with fail
  have R2 := Lib.hid (row_below HR.out B2.out)
  clear x0 HR BA Q0 Q1
  generalize (w1.alloc (.cells #[.int .i64 6, .int .i64 ln, .int .i64 bs, .int .i64 sz, .bool op, .slice Af fds.length cf] rT)) = V at *
  generalize w1.heap.size = q at *
  go_loop [9] (fun i => ∃ t : Nat, t ≤ fds.length ∧ i = .int .i64 t ∧ idxF (nameIs s) (fds.drop t) t = ix) (fun i => fds.length - (intOf i).toNat)
  case atStart => exact ⟨0, Nat.zero_le _, rfl, RR.out⟩
  case round =>
    obtain ⟨t, ht, rfl, hr⟩ := hrel
    have HI := Lib.hid hr
    have x5 : V.cell? ⟨q, 5, none⟩ = some (.slice Af fds.length cf) := X2.out.cell 5
    clear hr RR
    by_cases hlt : t < fds.length
    · have hI : (t : Int) < fds.length := by omega
      obtain ⟨hcap, g, rfl, _, hgl, hg⟩ := row_cell (f := Fd.cells) (fun _ => rfl) zF R2.out rfl hlt
      have E := Lib.hid (HI.out.symm.trans (idxF_at (nameIs s) fds t zF hlt))
      have GT := Lib.hid (show fds.getD t zF = fds.getD t zF from rfl)
      generalize hf : fds.getD t zF = f at *
      obtain ⟨nm, ty, off⟩ := f
      have HF := Lib.hid hf
      have x0 : V.cell? ⟨g, t * 3, none⟩ = some (.string nm) := (hg 0 (by decide)).1
      have x1 : V.cell? ⟨g, t * 3 + 1, none⟩ = some (.int .i64 ty) := (hg 1 (by decide)).1
      have x2 : V.cell? ⟨g, t * 3 + 2, none⟩ = some (.int .i64 off) := (hg 2 (by decide)).1
      have NI := Lib.hid (show nameIs s ⟨nm, ty, off⟩ = (nm.toList == s.toList) from rfl)
      clear hg hf HI GT
      cases hq : (nm.toList == s.toList) with
      | true =>
        have HX := Lib.hid (E.out.trans (if_pos (NI.out.trans hq)))
        have HP := Lib.hid (show r = (⟨nm, ty, off⟩, 0) from F2.out.trans (by rw [HX.out, if_neg (by omega), Int.toNat_natCast, HF.out]))
        clear E NI F2 HX
        have y0 : V.cell? ⟨w.heap.size, 0, none⟩ = some (.string ⟨#[]⟩) := Q2.out.cell 0
        have y1 : V.cell? ⟨w.heap.size, 1, none⟩ = some (.int .i64 0) := Q2.out.cell 1
        have y2 : V.cell? ⟨w.heap.size, 2, none⟩ = some (.int .i64 0) := Q2.out.cell 2
        have z0 : V.frozen? ⟨w.heap.size, 0, none⟩ = false := Q2.out.free 0
        have z1 : V.frozen? ⟨w.heap.size, 1, none⟩ = false := Q2.out.free 1
        have z2 : V.frozen? ⟨w.heap.size, 2, none⟩ = false := Q2.out.free 2
        go_wp2_with fail
        have SX := set_three Q2.out (.string nm) (.int .i64 ty) (.int .i64 off)
        have B9 : Below w.heap.size w _ := B2.out.grown SX.2 B2.out.size (fun b hb => by injection hb with hb; omega)
        have w0 := SX.1.cell 0
        have wa := SX.1.cell 1
        have wb := SX.1.cell 2
        refine bodyPost_ret (v := .tuple #[.agg #[.string nm, .int .i64 ty, .int .i64 off], .int .i64 0]) ?_ rfl ⟨by rw [HP.out], B9⟩
        clear B9 SX
        generalize ((V.setCell ⟨w.heap.size, 0, none⟩ (.string nm)).setCell ⟨w.heap.size, 1, none⟩ (.int .i64 ty)).setCell ⟨w.heap.size, 2, none⟩ (.int .i64 off) = Z at *
        simp [results, Try.results9, go_sem, w0, wa, wb]
      | false =>
        have HX := Lib.hid (E.out.trans (if_neg (by rw [NI.out, hq]; decide)))
        clear E NI
        go_wp2_with fail
        go_round
        case rel => exact ⟨t + 1, by omega, by go_num, HX.out.symm⟩
        case measure => simp [intOf]; omega
    · have hI : ¬ (t : Int) < fds.length := by omega
      have hix : ix = -1 := by
        rw [← HI.out, List.drop_of_length_le (by omega)]
        rfl
      have HP := Lib.hid (F2.out.trans (if_pos (by rw [hix]; decide)))
      clear F2 HI hix
      have y0 : V.cell? ⟨w.heap.size, 0, none⟩ = some (.string ⟨#[]⟩) := Q2.out.cell 0
      have y1 : V.cell? ⟨w.heap.size, 1, none⟩ = some (.int .i64 0) := Q2.out.cell 1
      have y2 : V.cell? ⟨w.heap.size, 2, none⟩ = some (.int .i64 0) := Q2.out.cell 2
      have z0 : V.frozen? ⟨w.heap.size, 0, none⟩ = false := Q2.out.free 0
      have z1 : V.frozen? ⟨w.heap.size, 1, none⟩ = false := Q2.out.free 1
      have z2 : V.frozen? ⟨w.heap.size, 2, none⟩ = false := Q2.out.free 2
      go_wp2_with fail
      have SX := set_three Q2.out (.string ⟨#[]⟩) (.int .i64 0) (.int .i64 0)
      have B9 : Below w.heap.size w _ := B2.out.grown SX.2 B2.out.size (fun b hb => by injection hb with hb; omega)
      have w0 := SX.1.cell 0
      have wa := SX.1.cell 1
      have wb := SX.1.cell 2
      refine bodyPost_ret (v := .tuple #[.agg #[.string ⟨#[]⟩, .int .i64 0, .int .i64 0], .int .i64 110]) ?_ rfl ⟨by rw [HP.out]; rfl, B9⟩
      clear B9 SX
      generalize ((V.setCell ⟨w.heap.size, 0, none⟩ (.string ⟨#[]⟩)).setCell ⟨w.heap.size, 1, none⟩ (.int .i64 0)).setCell ⟨w.heap.size, 2, none⟩ (.int .i64 0) = Z at *
      simp [results, Try.results9, go_sem, w0, wa, wb]
end Go.Proofs.Ytabkldahgjicbaa
