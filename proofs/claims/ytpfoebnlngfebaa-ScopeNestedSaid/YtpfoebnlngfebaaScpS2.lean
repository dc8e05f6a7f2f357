/- Scopes: the answers' Import whole. -/
import Derived.Test.YtpfoebnlngfebaaScpS
namespace Go.Proofs.Ytpfoebnlngfebaa
open Go.ChangeShapes Go.WideShapes Go.ChangeAt Go.RowKit
set_option linter.unusedVariables false
set_option linter.unusedSimpArgs false

set_option maxHeartbeats 32000000 in
set_option maxRecDepth 100000 in
theorem refimport_ok (B : Nat) (AL : Option Addr) (cL : Nat) (lx : List Ox) (AM : Option Addr) (cM : Nat) (mx : List (Value × List Ox)) (s : Stt) (nm : ByteArray) (v : Value) (es : List Exx) (w : World) (h : RefIn w B AL cL lx AM cM mx s) (he : ExpV B w v es) (hB : B ≤ w.heap.size) (hlen : s.L.length ≤ 1000) (hml : s.mods.length ≤ 64) (hen : es.length * 64 ≤ 140737488355328) (hfull : ¬ 64 ≤ s.mods.length) (hgood : (declP s (impOb ((s.mods.length : Int) + 1) nm)).2 = 0) :
    Calls Try.prog 36 #[.agg #[.slice AL s.L.length cL, .int .i64 s.lev, .slice AM s.mods.length cM], .string nm, v] w (RefPost3 B w (importP s nm (es.map (·.1)))) := by
  obtain ⟨Ae, ce, rfl⟩ : ∃ Ae ce, v = .slice Ae es.length ce := by
    obtain ⟨A, c, h1, _⟩ := he
    exact ⟨A, c, h1⟩
  have DP : importP s nm (es.map (·.1)) = ({ (declP s (impOb ((s.mods.length : Int) + 1) nm)).1 with mods := s.mods ++ [(es.map (·.1)).map (expOb ((s.mods.length : Int) + 1))] }, (s.mods.length : Int) + 1, 0) := by
    unfold importP
    rw [if_neg hfull]
    rw [show ((s.mods.length + 1 : Nat) : Int) = (s.mods.length : Int) + 1 by omega]
    rw [if_neg (by rw [hgood]; decide)]
  rw [DP]
  clear DP
  have b1 := (Below.refl w.heap.size w).alloc (Nat.le_refl _) (.cells #[.slice AL s.L.length cL, .int .i64 s.lev, .slice AM s.mods.length cM] rS)
  have b2 := b1.alloc b1.size (.cells #[.slice none 0 0, .int .i64 0, .slice none 0 0] rS)
  have BV := Lib.hid b2
  have HV := Lib.hid (h.below b2)
  have X1 := Lib.hid ((Whole.made w rS #[.slice AL s.L.length cL, .int .i64 s.lev, .slice AM s.mods.length cM] _ rfl).alloc (.cells #[.slice none 0 0, .int .i64 0, .slice none 0 0] rS))
  have X2 := Lib.hid (Whole.made (w.alloc (.cells #[.slice AL s.L.length cL, .int .i64 s.lev, .slice AM s.mods.length cM] rS)) rS #[.slice none 0 0, .int .i64 0, .slice none 0 0] (w.heap.size + 1) (by simp))
  have hmI : ¬ (64 : Int) ≤ s.mods.length := by omega
  have hmL : (s.mods.length : Int) < 64 := by omega
  have hwr := wrap_i32_small hml
  have DD := Lib.hid (refdecl_any B AL cL lx AM cM mx s nm 8 0 0 ((s.mods.length : Int) + 1) 0 false [] none 0 ((w.alloc (.cells #[.slice AL s.L.length cL, .int .i64 s.lev, .slice AM s.mods.length cM] rS)).alloc (.cells #[.slice none 0 0, .int .i64 0, .slice none 0 0] rS)) HV.out (ParV.nil _ _) (Nat.le_trans hB b2.size) hlen)
  rw [show (⟨nm, 8, 0, 0, (s.mods.length : Int) + 1, 0, false, []⟩ : Ob) = impOb ((s.mods.length : Int) + 1) nm from rfl] at DD
  have H0 := Lib.hid h
  have HE := Lib.hid he
  have HB := Lib.hid hB
  have HL := Lib.hid h.len
  have HN := Lib.hid hen
  have DM := Lib.hid (declP_mods s (impOb ((s.mods.length : Int) + 1) nm))
  clear h he b1 b2 hB hlen hen hml
  generalize hdp : declP s (impOb ((s.mods.length : Int) + 1) nm) = dp at *
  obtain ⟨s1, e1⟩ := dp
  unfold RefPost at DD
  have q2 : ((w.alloc (.cells #[.slice AL s.L.length cL, .int .i64 s.lev, .slice AM s.mods.length cM] rS)).alloc (.cells #[.slice none 0 0, .int .i64 0, .slice none 0 0] rS)).cell? ⟨w.heap.size, 2, none⟩ = some (.slice AM s.mods.length cM) := X1.out.cell 2
  go_enter Try.func36, Try.ntmps36
  go_wp2_with fail
  clear q2
  generalize ((w.alloc (.cells #[.slice AL s.L.length cL, .int .i64 s.lev, .slice AM s.mods.length cM] rS)).alloc (.cells #[.slice none 0 0, .int .i64 0, .slice none 0 0] rS)) = V at *
  refine DD.out.mono ?_
  rintro e w1 ⟨AL1, cL1, lx1, AM1, cM1, mx1, rfl, hR1, hb1⟩
  have B1 := Lib.hid (BV.out.trans (hb1.mono BV.out.size))
  have Y1 := Lib.hid (X1.out.below hb1 X1.out.lt)
  have Y2 := Lib.hid (X2.out.below hb1 X2.out.lt)
  have R1 := Lib.hid hR1
  have BN := Lib.hid ((Below.refl w1.heap.size w1).alloc (Nat.le_refl _) (.cells #[.slice AL1 s1.L.length cL1, .int .i64 s1.lev, .slice AM1 s1.mods.length cM1] rS))
  clear hR1 hb1 DD X1 X2 BV HV
  simp only []
  go_at_K
  obtain rfl : e1 = 0 := hgood
  clear hdp
  have HN1 := Lib.hid (show s1.mods = s.mods from DM.out.1)
  clear DM
  obtain ⟨i0, hi0, hz0, hz1, hz2⟩ := info_parts rO_info
  obtain ⟨j0, hj0, hy0, hy1, hy2⟩ := info_parts rL_info
  have hen47 := HN.out
  have Q1 := Lib.hid (Y1.out.below BN.out Y1.out.lt)
  have Q2 := Lib.hid (Y2.out.below BN.out Y2.out.lt)
  have Q3 := Lib.hid (Whole.made w1 rS #[.slice AL1 s1.L.length cL1, .int .i64 s1.lev, .slice AM1 s1.mods.length cM1] _ rfl)
  have B2 := Lib.hid (B1.out.trans (BN.out.mono B1.out.size))
  have HQ := Lib.hid (And.intro Y1.out.lt Y2.out.lt)
  have YG := Lib.hid Y2.out
  clear Y1 Y2
  go_wp2_with fail
  generalize (w1.alloc (.cells #[.slice AL1 s1.L.length cL1, .int .i64 s1.lev, .slice AM1 s1.mods.length cM1] rS)) = V at *
  have BV := B2
  go_loopw [12, 13, 14] (fun o i _ wr => ∃ (t : Nat) (l : List Ox), t ≤ es.length ∧ i = .int .i64 t ∧ RowO rO wr B V.heap.size o l ∧ l.map (·.1) = ((es.take t).map (·.1)).map (expOb ((s.mods.length : Int) + 1)) ∧ Below V.heap.size V wr) (fun _ i _ _ => es.length - (intOf i).toNat)
  case atStart => exact ⟨0, [], Nat.zero_le _, rfl, RowO.nil _ _ _ _, rfl, Below.refl _ _⟩
  case round =>
    obtain ⟨t, l, ht, rfl, hrow, hmap, hb⟩ := hrel
    have hlen : l.length = t := by
      have h := congrArg List.length hmap
      simp only [List.length_map, List.length_take] at h
      omega
    obtain ⟨A3, c3, rfl⟩ := row_form hrow.row
    rw [hlen]
    have BW := Lib.hid hb
    have RW := Lib.hid hrow
    have HM := Lib.hid hmap
    have HLN := Lib.hid hlen
    clear hb hrow hmap hlen
    by_cases hlt : t < es.length
    · have hI : (t : Int) < es.length := by omega
      obtain ⟨b, off, rfl, enm, ekd, ety, evl, ps, Ap, cp, hX, hpar, hg⟩ := (HE.out.below (B2.out.trans (BW.out.mono B2.out.size))).at hlt
      have x0 : wr.cell? ⟨b, off + t * 5, none⟩ = some (.string enm) := hg 0 _ rfl
      have x1 : wr.cell? ⟨b, off + t * 5 + 1, none⟩ = some (.int .i64 ekd) := by rw [Nat.add_assoc]; exact hg 1 _ rfl
      have x2 : wr.cell? ⟨b, off + t * 5 + 2, none⟩ = some (.int .i64 ety) := by rw [Nat.add_assoc]; exact hg 2 _ rfl
      have x3 : wr.cell? ⟨b, off + t * 5 + 3, none⟩ = some (.int .i32 evl) := by rw [Nat.add_assoc]; exact hg 3 _ rfl
      have x4 : wr.cell? ⟨b, off + t * 5 + 4, none⟩ = some (.slice Ap ps.length cp) := by rw [Nat.add_assoc]; exact hg 4 _ rfl
      have BE := Lib.hid ((Below.refl wr.heap.size wr).alloc (Nat.le_refl _) (.cells #[.string enm, .int .i64 ekd, .int .i64 ety, .int .i32 evl, .slice Ap ps.length cp] pE))
      have BA := Lib.hid (BE.out.alloc BE.out.size (.cells #[.string enm, .int .i64 ekd, .int .i64 ety, .int .i64 0, .int .i32 evl, .int .i64 ((s.mods.length : Int) + 1), .bool false, .slice Ap ps.length cp] rO))
      have HM2 := Lib.hid (show (l ++ [((⟨enm, ekd, ety, 0, evl, (s.mods.length : Int) + 1, false, ps⟩ : Ob), Value.slice Ap ps.length cp)]).map (·.1) = ((es.take (t + 1)).map (·.1)).map (expOb ((s.mods.length : Int) + 1)) from by
        have e : es.take (t + 1) = es.take t ++ [es.getD t zEx] := by
          rw [List.take_add_one, List.getD_eq_getElem?_getD, List.getElem?_eq_getElem hlt]
          rfl
        rw [e, List.map_append, List.map_append, List.map_append, ← HM.out, hX]
        rfl)
      have SZ := Lib.hid (show (wr.alloc (.cells #[.string enm, .int .i64 ekd, .int .i64 ety, .int .i32 evl, .slice Ap ps.length cp] pE)).heap.size = wr.heap.size + 1 by simp)
      have NC := Lib.hid (show ∀ (j : Nat) u, ([.string enm, .int .i64 ekd, .int .i64 ety, .int .i64 0, .int .i32 evl, .int .i64 ((s.mods.length : Int) + 1), .bool false, .slice Ap ps.length cp] : List Value)[j]? = some u → ((wr.alloc (.cells #[.string enm, .int .i64 ekd, .int .i64 ety, .int .i32 evl, .slice Ap ps.length cp] pE)).alloc (.cells #[.string enm, .int .i64 ekd, .int .i64 ety, .int .i64 0, .int .i32 evl, .int .i64 ((s.mods.length : Int) + 1), .bool false, .slice Ap ps.length cp] rO)).cell? ((⟨wr.heap.size + 1, 0, none⟩ : Addr).add j) = some u from fun j u hj => by
        rw [Go.WideShapes.add_plain, Nat.zero_add]
        exact ((Whole.made (wr.alloc (.cells #[.string enm, .int .i64 ekd, .int .i64 ety, .int .i32 evl, .slice Ap ps.length cp] pE)) rO #[.string enm, .int .i64 ekd, .int .i64 ety, .int .i64 0, .int .i32 evl, .int .i64 ((s.mods.length : Int) + 1), .bool false, .slice Ap ps.length cp] (wr.heap.size + 1) SZ.out.symm).cell j).trans (by simpa using hj))
      have hRA := RW.out.below BA.out
      rw [HLN.out] at hRA
      have RA := Lib.hid hRA
      have hro := hRA.row
      rw [HLN.out] at hro
      have RO := Lib.hid hro
      have PA := Lib.hid (hpar.below BA.out)
      have BY := Lib.hid (BW.out.trans (BA.out.mono BW.out.size))
      have HBASE := Lib.hid (show V.heap.size ≤ ((wr.alloc (.cells #[.string enm, .int .i64 ekd, .int .i64 ety, .int .i32 evl, .slice Ap ps.length cp] pE)).alloc (.cells #[.string enm, .int .i64 ekd, .int .i64 ety, .int .i64 0, .int .i32 evl, .int .i64 ((s.mods.length : Int) + 1), .bool false, .slice Ap ps.length cp] rO)).heap.size from BY.out.size)
      have q0 : (wr.alloc (.cells #[.string enm, .int .i64 ekd, .int .i64 ety, .int .i32 evl, .slice Ap ps.length cp] pE)).cell? ⟨wr.heap.size, 0, none⟩ = some (.string enm) := (Whole.made wr pE #[.string enm, .int .i64 ekd, .int .i64 ety, .int .i32 evl, .slice Ap ps.length cp] _ rfl).cell 0
      have q1 : (wr.alloc (.cells #[.string enm, .int .i64 ekd, .int .i64 ety, .int .i32 evl, .slice Ap ps.length cp] pE)).cell? ⟨wr.heap.size, 1, none⟩ = some (.int .i64 ekd) := (Whole.made wr pE #[.string enm, .int .i64 ekd, .int .i64 ety, .int .i32 evl, .slice Ap ps.length cp] _ rfl).cell 1
      have q2 : (wr.alloc (.cells #[.string enm, .int .i64 ekd, .int .i64 ety, .int .i32 evl, .slice Ap ps.length cp] pE)).cell? ⟨wr.heap.size, 2, none⟩ = some (.int .i64 ety) := (Whole.made wr pE #[.string enm, .int .i64 ekd, .int .i64 ety, .int .i32 evl, .slice Ap ps.length cp] _ rfl).cell 2
      have q3 : (wr.alloc (.cells #[.string enm, .int .i64 ekd, .int .i64 ety, .int .i32 evl, .slice Ap ps.length cp] pE)).cell? ⟨wr.heap.size, 3, none⟩ = some (.int .i32 evl) := (Whole.made wr pE #[.string enm, .int .i64 ekd, .int .i64 ety, .int .i32 evl, .slice Ap ps.length cp] _ rfl).cell 3
      have q4 : (wr.alloc (.cells #[.string enm, .int .i64 ekd, .int .i64 ety, .int .i32 evl, .slice Ap ps.length cp] pE)).cell? ⟨wr.heap.size, 4, none⟩ = some (.slice Ap ps.length cp) := (Whole.made wr pE #[.string enm, .int .i64 ekd, .int .i64 ety, .int .i32 evl, .slice Ap ps.length cp] _ rfl).cell 4
      clear hX hpar hg HM hRA hro
      go_wp2_with (first | (at_builtin; refine wpList_append_own_wide _ rfl _ _ 25 rfl V.heap.size rO i0 _ 8 88 Try.underlying25 hi0 hz0 hz1 hz2 rfl (by decide) (.slice A3 t c3) t (l.flatMap oxCells) rfl RO.out ⟨wr.heap.size + 1, 0, none⟩ 1 1 [.string enm, .int .i64 ekd, .int .i64 ety, .int .i64 0, .int .i32 evl, .int .i64 ((s.mods.length : Int) + 1), .bool false, .slice Ap ps.length cp] rfl rfl NC.out (fun u hu => by simp at hu; rcases hu with rfl | rfl | rfl | rfl | rfl | rfl | rfl | rfl <;> rfl) (by unfold maxLen; omega) (by omega) HBASE.out ?_; intro v3 w3 ho3 hg3 hnl; have B3 := Lib.hid (BY.out.grown hg3 HBASE.out (fun b hb => (World.ownsRow.lt RO.out b hb).1)); have O3 := Lib.hid (And.intro ho3 hg3); clear ho3 hg3 hnl))
      go_roundw
      case rel =>
        refine ⟨t + 1, l ++ [((⟨enm, ekd, ety, 0, evl, (s.mods.length : Int) + 1, false, ps⟩ : Ob), Value.slice Ap ps.length cp)], by omega, by go_num, RowO.grown (v := .slice A3 t c3) RA.out (by decide) (Nat.le_trans HB.out BV.out.size) PA.out O3.out.2 (by rw [HLN.out]; exact O3.out.1), HM2.out, B3.out⟩
      case measure => simp [intOf]; omega
    · have hI : ¬ (t : Int) < es.length := by omega
      obtain rfl : t = es.length := by omega
      rw [List.take_length] at HM
      have ba := (Below.refl wr.heap.size wr).alloc (Nat.le_refl _) (.cells #[] rL)
      have BA := Lib.hid ba
      have BWR := Lib.hid (BV.out.trans (BW.out.mono BV.out.size))
      have hmr := (H0.out.below (BWR.out.trans (ba.mono BWR.out.size)))
      have ONE := Lib.hid (show ∀ u ∈ mx.map (·.1), u.oneCell' = true from fun u hu => by
        obtain ⟨m, hm, rfl⟩ := List.mem_map.1 hu
        obtain ⟨A, c, e⟩ := row_form (hmr.mrows m hm).row
        rw [e]
        rfl)
      have RM := Lib.hid hmr.mods
      have OE := Lib.hid (row_built (e := rL) (sz := 1) wr #[] 0 0 rfl (Nat.le_refl _) (Nat.zero_le _) wr.heap.size (Nat.le_refl _) _ rfl [] rfl)
      have HZA := Lib.hid (show wr.heap.size ≤ (wr.alloc (.cells #[] rL)).heap.size from ba.size)
      have W1 := Lib.hid (Q1.out.below BW.out Q1.out.lt)
      have W2 := Lib.hid (Q2.out.below BW.out Q2.out.lt)
      have W3 := Lib.hid (Q3.out.below BW.out Q3.out.lt)
      have la : (wr.alloc (.cells #[] rL)).cell? ⟨w.heap.size, 2, none⟩ = some (.slice AM s.mods.length cM) := (W1.out.below ba W1.out.lt).cell 2
      have S3 : (Try.prog.info? rS).map (·.size) = some 3 := by kernel_rfl
      clear ba hmr
      repeat (first | (go_big_may; first | (at_builtin; refine wp_app_any _ rfl _ _ 26 rfl wr.heap.size rL j0 _ 1 24 Try.underlying26 hj0 hy0 hy1 hy2 rfl (by decide) (.slice (some ⟨wr.heap.size, 0, none⟩) 0 0) 0 [] rfl OE.out (.slice AM s.mods.length cM) s.mods.length _ rfl RM.out ONE.out (by unfold maxLen; omega) (by omega) HZA.out ?_; intro v6 w6 ho6 hg6 hat6; rw [Nat.zero_add, List.nil_append] at ho6; have hform := row_form ho6; obtain ⟨A6, c6, rfl⟩ := hform; have B6 := Lib.hid (below_row BA.out OE.out hg6 HZA.out); have bo := (Below.refl w6.heap.size w6).alloc (Nat.le_refl _) (.cells #[.slice A3 es.length c3] rL); have B6o := Lib.hid (B6.out.trans (bo.mono B6.out.size)); have O6 := Lib.hid (row_below ho6 bo); have NCo := Lib.hid (show ∀ (j : Nat) u, ([.slice A3 es.length c3] : List Value)[j]? = some u → (w6.alloc (.cells #[.slice A3 es.length c3] rL)).cell? ((⟨w6.heap.size, 0, none⟩ : Addr).add j) = some u from fun j u hj => by (rw [Go.WideShapes.add_plain, Nat.zero_add]; exact ((Whole.made w6 rL #[.slice A3 es.length c3] _ rfl).cell j).trans (by simpa using hj))); have HZO := Lib.hid (show wr.heap.size ≤ (w6.alloc (.cells #[.slice A3 es.length c3] rL)).heap.size from B6o.out.size); clear ho6 hg6 hat6 bo) | (at_builtin; refine wpList_append_own_at _ rfl _ _ 26 rfl wr.heap.size rL j0 _ 1 24 Try.underlying26 hj0 hy0 hy1 hy2 rfl (by decide) (.slice A6 s.mods.length c6) s.mods.length _ rfl O6.out ⟨w6.heap.size, 0, none⟩ 1 1 [.slice A3 es.length c3] rfl rfl NCo.out (fun u hu => by obtain rfl := List.mem_singleton.1 hu; rfl) (by unfold maxLen; omega) (by omega) HZO.out ?_; intro v7 w7 ho7 hg7 hnl7 hat7; have hform := row_form ho7; obtain ⟨A7, c7, rfl⟩ := hform; have B7 := Lib.hid (below_row B6o.out O6.out hg7 HZO.out); have O7 := Lib.hid ho7; have N7 := Lib.hid (W3.out.below B7.out W3.out.lt); have G7 := Lib.hid (W2.out.below B7.out W2.out.lt); have m0 : w7.cell? ⟨w1.heap.size, 2, none⟩ = some (.slice AM1 s1.mods.length cM1) := N7.out.cell 2; have m1 : w7.frozen? ⟨w1.heap.size, 2, none⟩ = false := N7.out.free 2; have N9 := Lib.hid (show Whole (w7.setCell ⟨w1.heap.size, 2, none⟩ (.slice A7 (s.mods.length + 1) c7)) (w1.heap.size) rS #[.slice AL1 s1.L.length cL1, .int .i64 s1.lev, .slice A7 (s.mods.length + 1) c7] from N7.out.store 2 _); have G9 := Lib.hid (show Whole (w7.setCell ⟨w1.heap.size, 2, none⟩ (.slice A7 (s.mods.length + 1) c7)) (w.heap.size + 1) rS #[.slice none 0 0, .int .i64 0, .slice none 0 0] from G7.out.far (p := ⟨w1.heap.size, 2, none⟩) (by show w.heap.size + 1 ≠ w1.heap.size; have := HQ.out.2; omega) _); have r0 : (w7.setCell ⟨w1.heap.size, 2, none⟩ (.slice A7 (s.mods.length + 1) c7)).cell? ⟨w1.heap.size, 0, none⟩ = some (.slice AL1 s1.L.length cL1) := N9.out.cell 0; have r1 : (w7.setCell ⟨w1.heap.size, 2, none⟩ (.slice A7 (s.mods.length + 1) c7)).cell? ⟨w1.heap.size, 1, none⟩ = some (.int .i64 s1.lev) := N9.out.cell 1; have r2 : (w7.setCell ⟨w1.heap.size, 2, none⟩ (.slice A7 (s.mods.length + 1) c7)).cell? ⟨w1.heap.size, 2, none⟩ = some (.slice A7 (s.mods.length + 1) c7) := N9.out.cell 2; clear ho7 hg7 hnl7 hat7) | (refine wpList_store_row rfl rS (.tmp 6) (.tmp 70) rfl (w.heap.size + 1) #[.slice AL1 s1.L.length cL1, .int .i64 s1.lev, .slice A7 (s.mods.length + 1) c7] rfl rfl rS #[.slice none 0 0, .int .i64 0, .slice none 0 0] G9.out S3 rfl (by simp [Value.oneCell']) ?_; generalize hZZ : (w7.setCell ⟨w1.heap.size, 2, none⟩ (.slice A7 (s.mods.length + 1) c7)).setRow (w.heap.size + 1) #[.slice AL1 s1.L.length cL1, .int .i64 s1.lev, .slice A7 (s.mods.length + 1) c7] = ZZ; have HZZ := Lib.hid hZZ; clear hZZ)) | go_values | go_skip | go_guarded | go_step | go_upon)
      have SX := Lib.hid (G9.out.setRow #[.slice AL1 s1.L.length cL1, .int .i64 s1.lev, .slice A7 (s.mods.length + 1) c7])
      rw [HZZ.out] at SX
      have hq1 := HQ.out.1
      have hq2 := HQ.out.2
      have hw1 := B1.out.size
      have K := (KeptS.set (S := fun k => k = w1.heap.size ∨ k = w.heap.size + 1) (w := w7) (g := w1.heap.size) (j := 2) (u := .slice A7 (s.mods.length + 1) c7) (.inl rfl)).trans (KeptS.grown (S := fun k => k = w1.heap.size ∨ k = w.heap.size + 1) SX.out.2 (fun b hb => .inr (Option.some.inj hb).symm)) (fun _ h => .inl h)
      have BV7 := BW.out.trans (B7.out.mono BW.out.size)
      have BZ : Below w.heap.size w ZZ := KeptS.below (BV.out.trans (BV7.mono BV.out.size)) K (by have h1 := BV.out.size; have h2 := BV7.size; omega) (fun k hk => by rcases hk with rfl | rfl <;> omega)
      have BN7 := BN.out.trans (BV7.mono BN.out.size)
      have KG := (KeptS.ofBelow (S := fun k => k = w.heap.size + 1) BN7).trans K (fun k hk => by rcases hk with rfl | rfl <;> omega)
      have RN := R1.out.boxes KG (fun k hk => by subst hk; exact ⟨by have := HB.out; omega, _, YG.out⟩)
      have HNZ := H0.out.below BZ
      have hwr2 := Q2.out.lt
      have hnr := W3.out.lt
      have hgr := W2.out.lt
      have OZ := K.row O7.out (fun b hb hs => by
        have h1 := (row_block O7.out hb).1
        rcases hs with rfl | rfl <;> omega)
      have RL := ((RW.out.below B7.out).more (B2 := B) (Nat.le_trans HB.out BV.out.size)).boxes K (fun k hk => by
        rcases hk with rfl | rfl
        · exact ⟨by have := HB.out; omega, _, N7.out⟩
        · exact ⟨by have := HB.out; omega, _, G7.out⟩)
      rw [HLN.out] at RL
      have HF := Lib.hid (show RefPost3 B w ({ s1 with mods := s.mods ++ [(es.map (·.1)).map (expOb ((s.mods.length : Int) + 1))] }, (s.mods.length : Int) + 1, 0) (.returned (.tuple #[.agg #[.slice AL1 s1.L.length cL1, .int .i64 s1.lev, .slice A7 (s.mods.length + 1) c7], .int .i64 ((s.mods.length : Int) + 1), .int .i64 0])) ZZ from ⟨AL1, cL1, lx1, A7, c7, mx ++ [(Value.slice A3 es.length c3, l)], by rw [List.length_append, List.length_singleton], ⟨RN.rows, RN.same, by
        rw [List.length_append, List.length_singleton, List.map_append]
        exact row_more OZ (Nat.le_trans HB.out (Nat.le_trans BV.out.size BW.out.size)), fun m hm => by
        rcases List.mem_append.1 hm with hm | hm
        · exact HNZ.mrows m hm
        · obtain rfl := List.mem_singleton.1 hm
          exact RL, by
        rw [List.map_append, HNZ.msame, ← HM.out]
        rfl⟩, BZ⟩)
      have W9 := SX.out.1
      clear BZ OZ HNZ K KG SX RL RN BN7 BV7
      have y0 : ZZ.cell? ⟨w.heap.size + 1, 0, none⟩ = some (.slice AL1 s1.L.length cL1) := W9.cell 0
      have y1 : ZZ.cell? ⟨w.heap.size + 1, 1, none⟩ = some (.int .i64 s1.lev) := W9.cell 1
      have y2 : ZZ.cell? ⟨w.heap.size + 1, 2, none⟩ = some (.slice A7 (s.mods.length + 1) c7) := W9.cell 2
      refine bodyPost_ret (v := .tuple #[.agg #[.slice AL1 s1.L.length cL1, .int .i64 s1.lev, .slice A7 (s.mods.length + 1) c7], .int .i64 ((s.mods.length : Int) + 1), .int .i64 0]) ?_ rfl HF.out
      clear HF W9
      simp [results, Try.results36, go_sem, y0, y1, y2]

theorem refimport_any (B : Nat) (AL : Option Addr) (cL : Nat) (lx : List Ox) (AM : Option Addr) (cM : Nat) (mx : List (Value × List Ox)) (s : Stt) (nm : ByteArray) (v : Value) (es : List Exx) (w : World) (h : RefIn w B AL cL lx AM cM mx s) (he : ExpV B w v es) (hB : B ≤ w.heap.size) (hlen : s.L.length ≤ 1000) (hml : s.mods.length ≤ 64) (hen : es.length * 64 ≤ 140737488355328) :
    Calls Try.prog 36 #[.agg #[.slice AL s.L.length cL, .int .i64 s.lev, .slice AM s.mods.length cM], .string nm, v] w (RefPost3 B w (importP s nm (es.map (·.1)))) := by
  by_cases h1 : 64 ≤ s.mods.length
  · exact refimport_full B AL cL lx AM cM mx s nm v es w h he hB hlen hml hen h1
  · by_cases h2 : (declP s (impOb ((s.mods.length : Int) + 1) nm)).2 = 0
    · exact refimport_ok B AL cL lx AM cM mx s nm v es w h he hB hlen hml hen h1 h2
    · exact refimport_bad B AL cL lx AM cM mx s nm v es w h he hB hlen hml hen h1 h2
end Go.Proofs.Ytpfoebnlngfebaa
