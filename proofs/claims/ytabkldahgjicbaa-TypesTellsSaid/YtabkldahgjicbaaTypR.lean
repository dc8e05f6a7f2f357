/- Types: the answers' AddField. -/
import Derived.Test.YtabkldahgjicbaaTypP
import Derived.Test.YtabkldahgjicbaaTypI
namespace Go.Proofs.Ytabkldahgjicbaa
open Go.ChangeShapes Go.WideShapes Go.ChangeAt Go.RowKit
set_option linter.unusedVariables false
set_option linter.unusedSimpArgs false

theorem found_code (x : Ty) (s : ByteArray) (h : x.kind = 6) : (findP x s).2 = if 0 ≤ idxF (nameIs s) x.fds 0 then 0 else 110 := by
  unfold findP
  rw [if_neg (by omega)]
  by_cases h1 : idxF (nameIs s) x.fds 0 < 0
  · rw [if_pos h1, if_neg (by omega)]
  · rw [if_neg h1, if_pos (by omega)]

set_option maxHeartbeats 32000000 in
set_option maxRecDepth 100000 in
theorem reffield_any (B : Nat) (v : Value) (L : List Tx) (id : Int) (s : ByteArray) (kd : Int) (w : World) (h : RowsX rT rF w B v L) (hB : B ≤ w.heap.size) (hn : L.length ≤ 4096) (hS : SizesOk (L.map (·.1))) (hF : (getT (L.map (·.1)) id).fds.length ≤ 1000) (hO : (getT (L.map (·.1)) id).opn = true → (getT (L.map (·.1)) id).kind = 6) :
    Calls Try.prog 36 #[v, .int .i64 id, .string s, .int .i64 kd] w (RefPost1 B w (fieldP (L.map (·.1)) id s kd)) := by
  have AT := Lib.hid (refget_any B v L id w h hn _ rfl)
  have WK := Lib.hid (fun w1 (hb : Below w.heap.size w w1) => refwhole_any B v L kd w1 (h.below hb) hn _ rfl)
  have GK := Lib.hid (fun w1 (hb : Below w.heap.size w w1) => refget_any B v L kd w1 (h.below hb) hn _ rfl)
  have CP := Lib.hid (show fieldP (L.map (·.1)) id s kd = if (getT (L.map (·.1)) id).opn = false then (L.map (·.1), 111) else if wholeB (getT (L.map (·.1)) kd) = false then (L.map (·.1), 91) else if 0 ≤ idxF (nameIs s) (getT (L.map (·.1)) id).fds 0 then (L.map (·.1), 51) else if 16384 < (getT (L.map (·.1)) id).size + (getT (L.map (·.1)) kd).size then (L.map (·.1), 90) else ((L.map (·.1)).set id.toNat { getT (L.map (·.1)) id with fds := (getT (L.map (·.1)) id).fds ++ [⟨s, kd, (getT (L.map (·.1)) id).size⟩], size := (getT (L.map (·.1)) id).size + (getT (L.map (·.1)) kd).size }, 0) from rfl)
  have hs1 := hS.get id
  have hs2 := hS.get kd
  rw [← getX_fst] at CP hF hs1 hs2 hO
  rw [← getX_fst] at CP
  have FN := Lib.hid (fun w1 (hb : Below w.heap.size w w1) => reffind_any B v L id s w1 (h.below hb) hn _ rfl hF)
  have SAME := Lib.hid (fun (r : List Ty × Int) w1 (hb : Below w.heap.size w w1) hr => RefPost1.same (r := r) h hb hr)
  generalize fieldP (L.map (·.1)) id s kd = r at *
  obtain ⟨k, ln, bs, sz, op, fds, Af, cf, hP⟩ := h.parts id
  have hfr := h.get id
  have H := Lib.hid h
  obtain ⟨A, c, rfl⟩ := row_form h.rows
  clear h
  cases op with
  | false =>
    have HR := Lib.hid (CP.out.trans (if_pos (by rw [hP])))
    rw [hP] at AT
    clear CP hP hO hfr WK GK FN H
    cases h6 : (k != 6)
    all_goals
      go_enter Try.func36, Try.ntmps36
      go_wp2_with fail
      refine AT.out.mono ?_
      rintro e w1 ⟨rfl, hb1⟩
      have X2 := Lib.hid (Whole.made w1 rT #[.int .i64 k, .int .i64 ln, .int .i64 bs, .int .i64 sz, .bool false, .slice Af fds.length cf] _ rfl)
      have B2 := Lib.hid (hb1.alloc hb1.size (.cells #[.int .i64 k, .int .i64 ln, .int .i64 bs, .int .i64 sz, .bool false, .slice Af fds.length cf] rT))
      have x0 : (w1.alloc (.cells #[.int .i64 k, .int .i64 ln, .int .i64 bs, .int .i64 sz, .bool false, .slice Af fds.length cf] rT)).cell? ⟨w1.heap.size, 0, none⟩ = some (.int .i64 k) := X2.out.cell 0
      have x4 : (w1.alloc (.cells #[.int .i64 k, .int .i64 ln, .int .i64 bs, .int .i64 sz, .bool false, .slice Af fds.length cf] rT)).cell? ⟨w1.heap.size, 4, none⟩ = some (.bool false) := X2.out.cell 4
      clear hb1 AT X2
      go_wp2_with fail
      go_ret2
      have := SAME.out r _ B2.out (by rw [HR.out])
      rw [HR.out] at this ⊢
      exact this
  | true =>
  have C2 := Lib.hid (CP.out.trans (if_neg (by rw [hP]; simp)))
  have hk : k = 6 := by
    have := hO (by rw [hP])
    rw [hP] at this
    exact this
  obtain ⟨t, rfl, ht, hX⟩ := getX_there (L := L) (id := id) (fun e => by rw [e] at hP; cases hP)
  have htI : (t : Int) < L.length := by omega
  subst hk
  have FC := found_code (getX L (t : Int)).1 s (by rw [hP])
  rw [hP] at AT C2 hfr FN hF hs1 FC
  simp only at FC hF hs1
  obtain ⟨k2, ln2, bs2, sz2, op2, fds2, Af2, cf2, hP2⟩ := H.out.parts kd
  have f3 := field_r3 k2 ln2 bs2 sz2 op2 (.slice Af2 fds2.length cf2)
  rw [hP2] at WK GK C2 hs2
  simp only at hs2
  clear CP hP hO hX hP2
  have C3 := Lib.hid C2.out
  simp only at C3
  generalize hwb : wholeB ⟨k2, ln2, bs2, sz2, op2, fds2⟩ = wb at *
  generalize hfp : findP ⟨6, ln, bs, sz, true, fds⟩ s = fp at *
  obtain ⟨⟨fnm, fty, fof⟩, fcode⟩ := fp
  have hib := idxF_bound (nameIs s) fds 0
  generalize idxF (nameIs s) fds 0 = ix at *
  have FCH := Lib.hid (show fcode = if 0 ≤ ix then 0 else 110 from FC)
  clear FC hwb hfp C2
  cases wb with
  | false =>
    have HR := Lib.hid (C3.out.trans (if_pos rfl))
    clear C3 FN GK H hfr FCH
    go_enter Try.func36, Try.ntmps36
    go_wp2_with fail
    refine AT.out.mono ?_
    rintro e w1 ⟨rfl, hb1⟩
    have X2 := Lib.hid (Whole.made w1 rT #[.int .i64 6, .int .i64 ln, .int .i64 bs, .int .i64 sz, .bool true, .slice Af fds.length cf] _ rfl)
    have B2 := Lib.hid (hb1.alloc hb1.size (.cells #[.int .i64 6, .int .i64 ln, .int .i64 bs, .int .i64 sz, .bool true, .slice Af fds.length cf] rT))
    have hq : w.heap.size ≤ w1.heap.size := hb1.size
    have HQ := Lib.hid hq
    have x0 : (w1.alloc (.cells #[.int .i64 6, .int .i64 ln, .int .i64 bs, .int .i64 sz, .bool true, .slice Af fds.length cf] rT)).cell? ⟨w1.heap.size, 0, none⟩ = some (.int .i64 6) := X2.out.cell 0
    have x4 : (w1.alloc (.cells #[.int .i64 6, .int .i64 ln, .int .i64 bs, .int .i64 sz, .bool true, .slice Af fds.length cf] rT)).cell? ⟨w1.heap.size, 4, none⟩ = some (.bool true) := X2.out.cell 4
    clear hb1 AT hq
    go_wp2_with fail
    refine (WK.out _ B2.out).mono ?_
    rintro e w3 ⟨rfl, hb3⟩
    have X3 := Lib.hid (X2.out.below hb3 X2.out.lt)
    have B3 := Lib.hid (B2.out.trans (hb3.mono B2.out.size))
    clear hb3 WK x0 x4 X2 B2
    go_wp2_with fail
    go_ret2
    have := SAME.out r _ B3.out (by rw [HR.out])
    rw [HR.out] at this ⊢
    exact this
  | true =>
  have C4 := Lib.hid (C3.out.trans (if_neg (by decide)))
  clear C3
  by_cases h0 : 0 ≤ ix
  · have HR := Lib.hid (C4.out.trans (if_pos h0))
    have FC2 := Lib.hid (FCH.out.trans (if_pos h0))
    obtain rfl := FC2.out
    clear C4 GK H hfr FCH FC2 h0 hib
    go_enter Try.func36, Try.ntmps36
    go_wp2_with fail
    refine AT.out.mono ?_
    rintro e w1 ⟨rfl, hb1⟩
    have X2 := Lib.hid (Whole.made w1 rT #[.int .i64 6, .int .i64 ln, .int .i64 bs, .int .i64 sz, .bool true, .slice Af fds.length cf] _ rfl)
    have B2 := Lib.hid (hb1.alloc hb1.size (.cells #[.int .i64 6, .int .i64 ln, .int .i64 bs, .int .i64 sz, .bool true, .slice Af fds.length cf] rT))
    have hq : w.heap.size ≤ w1.heap.size := hb1.size
    have HQ := Lib.hid hq
    have x0 : (w1.alloc (.cells #[.int .i64 6, .int .i64 ln, .int .i64 bs, .int .i64 sz, .bool true, .slice Af fds.length cf] rT)).cell? ⟨w1.heap.size, 0, none⟩ = some (.int .i64 6) := X2.out.cell 0
    have x4 : (w1.alloc (.cells #[.int .i64 6, .int .i64 ln, .int .i64 bs, .int .i64 sz, .bool true, .slice Af fds.length cf] rT)).cell? ⟨w1.heap.size, 4, none⟩ = some (.bool true) := X2.out.cell 4
    clear hb1 AT hq
    go_wp2_with fail
    refine (WK.out _ B2.out).mono ?_
    rintro e w3 ⟨rfl, hb3⟩
    have X3 := Lib.hid (X2.out.below hb3 X2.out.lt)
    have B3 := Lib.hid (B2.out.trans (hb3.mono B2.out.size))
    clear hb3 WK x0 x4 X2 B2
    go_wp2_with fail
    refine (FN.out _ B3.out).mono ?_
    rintro e w4 ⟨rfl, hb4⟩
    have b5 := (Below.refl w4.heap.size w4).alloc (Nat.le_refl _) (.cells #[.string fnm, .int .i64 fty, .int .i64 fof] rF)
    have X4 := Lib.hid ((X3.out.below hb4 X3.out.lt).below b5 (X3.out.below hb4 X3.out.lt).lt)
    have B4 := Lib.hid ((B3.out.trans (hb4.mono B3.out.size)).trans (b5.mono (Nat.le_trans B3.out.size hb4.size)))
    clear hb4 FN X3 B3 b5
    go_wp2_with fail
    go_ret2
    have := SAME.out r _ B4.out (by rw [HR.out])
    rw [HR.out] at this ⊢
    exact this
  have C5 := Lib.hid (C4.out.trans (if_neg h0))
  obtain rfl := FCH.out.trans (if_neg h0)
  clear C4 FCH hib h0
  by_cases h1 : 16384 < sz + sz2
  · have HR := Lib.hid (C5.out.trans (if_pos h1))
    have d1 : decide (16384 < sz + sz2) = true := decide_eq_true h1
    clear C5 H hfr h1
    go_enter Try.func36, Try.ntmps36
    go_wp2_with fail
    refine AT.out.mono ?_
    rintro e w1 ⟨rfl, hb1⟩
    have X2 := Lib.hid (Whole.made w1 rT #[.int .i64 6, .int .i64 ln, .int .i64 bs, .int .i64 sz, .bool true, .slice Af fds.length cf] _ rfl)
    have B2 := Lib.hid (hb1.alloc hb1.size (.cells #[.int .i64 6, .int .i64 ln, .int .i64 bs, .int .i64 sz, .bool true, .slice Af fds.length cf] rT))
    have hq : w.heap.size ≤ w1.heap.size := hb1.size
    have HQ := Lib.hid hq
    have x0 : (w1.alloc (.cells #[.int .i64 6, .int .i64 ln, .int .i64 bs, .int .i64 sz, .bool true, .slice Af fds.length cf] rT)).cell? ⟨w1.heap.size, 0, none⟩ = some (.int .i64 6) := X2.out.cell 0
    have x4 : (w1.alloc (.cells #[.int .i64 6, .int .i64 ln, .int .i64 bs, .int .i64 sz, .bool true, .slice Af fds.length cf] rT)).cell? ⟨w1.heap.size, 4, none⟩ = some (.bool true) := X2.out.cell 4
    clear hb1 AT hq
    go_wp2_with fail
    refine (WK.out _ B2.out).mono ?_
    rintro e w3 ⟨rfl, hb3⟩
    have X3 := Lib.hid (X2.out.below hb3 X2.out.lt)
    have B3 := Lib.hid (B2.out.trans (hb3.mono B2.out.size))
    clear hb3 WK x0 x4 X2 B2
    go_wp2_with fail
    refine (FN.out _ B3.out).mono ?_
    rintro e w4 ⟨rfl, hb4⟩
    have b5 := (Below.refl w4.heap.size w4).alloc (Nat.le_refl _) (.cells #[.string fnm, .int .i64 fty, .int .i64 fof] rF)
    have X4 := Lib.hid ((X3.out.below hb4 X3.out.lt).below b5 (X3.out.below hb4 X3.out.lt).lt)
    have B4 := Lib.hid ((B3.out.trans (hb4.mono B3.out.size)).trans (b5.mono (Nat.le_trans B3.out.size hb4.size)))
    clear hb4 FN X3 B3 b5
    go_wp2_with fail
    refine (GK.out _ B4.out).mono ?_
    rintro e w6 ⟨rfl, hb6⟩
    have X6 := Lib.hid (X4.out.below hb6 X4.out.lt)
    have B6 := Lib.hid (B4.out.trans (hb6.mono B4.out.size))
    have x3 : w6.cell? ⟨w1.heap.size, 3, none⟩ = some (.int .i64 sz) := X6.out.cell 3
    have x5 : w6.cell? ⟨w1.heap.size, 5, none⟩ = some (.slice Af fds.length cf) := X6.out.cell 5
    clear hb6 GK X4 B4
    go_wp2_with fail
    go_ret2
    have := SAME.out r _ B6.out (by rw [HR.out])
    rw [HR.out] at this ⊢
    exact this
  have HR := Lib.hid (C5.out.trans (if_neg h1))
  have d1 : decide (16384 < sz + sz2) = false := decide_eq_false h1
  obtain ⟨i0, hi, hz0, hz1, hz2⟩ := info_parts rF_info
  have PU := Lib.hid (fun w1 (hb : Below w.heap.size w w1) A8 c8 hr => refput_any B (.slice A L.length c) L t 6 ln bs (sz + sz2) true (fds ++ [⟨s, kd, sz⟩]) A8 (fds.length + 1) c8 w1 (H.out.below hb) hr (Nat.le_trans hB hb.size) hn ht)
  have HFR := Lib.hid hfr
  clear C5 H hfr SAME h1
  go_enter Try.func36, Try.ntmps36
  go_wp2_with fail
  refine AT.out.mono ?_
  rintro e w1 ⟨rfl, hb1⟩
  have X2 := Lib.hid (Whole.made w1 rT #[.int .i64 6, .int .i64 ln, .int .i64 bs, .int .i64 sz, .bool true, .slice Af fds.length cf] _ rfl)
  have B2 := Lib.hid (hb1.alloc hb1.size (.cells #[.int .i64 6, .int .i64 ln, .int .i64 bs, .int .i64 sz, .bool true, .slice Af fds.length cf] rT))
  have hq : w.heap.size ≤ w1.heap.size := hb1.size
  have HQ := Lib.hid hq
  have x0 : (w1.alloc (.cells #[.int .i64 6, .int .i64 ln, .int .i64 bs, .int .i64 sz, .bool true, .slice Af fds.length cf] rT)).cell? ⟨w1.heap.size, 0, none⟩ = some (.int .i64 6) := X2.out.cell 0
  have x4 : (w1.alloc (.cells #[.int .i64 6, .int .i64 ln, .int .i64 bs, .int .i64 sz, .bool true, .slice Af fds.length cf] rT)).cell? ⟨w1.heap.size, 4, none⟩ = some (.bool true) := X2.out.cell 4
  clear hb1 AT hq
  go_wp2_with fail
  refine (WK.out _ B2.out).mono ?_
  rintro e w3 ⟨rfl, hb3⟩
  have X3 := Lib.hid (X2.out.below hb3 X2.out.lt)
  have B3 := Lib.hid (B2.out.trans (hb3.mono B2.out.size))
  clear hb3 WK x0 x4 X2 B2
  go_wp2_with fail
  refine (FN.out _ B3.out).mono ?_
  rintro e w4 ⟨rfl, hb4⟩
  have b5 := (Below.refl w4.heap.size w4).alloc (Nat.le_refl _) (.cells #[.string fnm, .int .i64 fty, .int .i64 fof] rF)
  have X4 := Lib.hid ((X3.out.below hb4 X3.out.lt).below b5 (X3.out.below hb4 X3.out.lt).lt)
  have B4 := Lib.hid ((B3.out.trans (hb4.mono B3.out.size)).trans (b5.mono (Nat.le_trans B3.out.size hb4.size)))
  clear hb4 FN X3 B3 b5
  go_wp2_with fail
  refine (GK.out _ B4.out).mono ?_
  rintro e w6 ⟨rfl, hb6⟩
  have X6 := Lib.hid (X4.out.below hb6 X4.out.lt)
  have B6 := Lib.hid (B4.out.trans (hb6.mono B4.out.size))
  have x3 : w6.cell? ⟨w1.heap.size, 3, none⟩ = some (.int .i64 sz) := X6.out.cell 3
  have x5 : w6.cell? ⟨w1.heap.size, 5, none⟩ = some (.slice Af fds.length cf) := X6.out.cell 5
  clear hb6 GK X4 B4
  go_wp2_with fail
  have R6 := Lib.hid (row_below HFR.out B6.out)
  have hqV := X6.out.lt
  have QV := Lib.hid hqV
  clear HFR x3 x5 hqV
  generalize w6 = V at *
  generalize w1.heap.size = q at *
  have SZ := Lib.hid (show (V.alloc (.cells #[.string s, .int .i64 kd, .int .i64 sz] rF)).heap.size = V.heap.size + 1 by simp)
  have SE := Lib.hid (show (V.alloc (.cells #[] rF)).heap.size = V.heap.size + 1 by simp)
  have ba := (Below.refl V.heap.size V).alloc (Nat.le_refl _) (.cells #[] rF)
  have bx := (Below.refl V.heap.size V).alloc (Nat.le_refl _) (.cells #[.string s, .int .i64 kd, .int .i64 sz] rF)
  have Ba := Lib.hid (show Below V.heap.size V (V.alloc (.cells #[] rF)).drew from ba.drew)
  have Bb := Lib.hid (show Below V.heap.size V ((V.alloc (.cells #[.string s, .int .i64 kd, .int .i64 sz] rF)).alloc (.cells #[] rF)).drew from (bx.alloc (by rw [SZ.out]; omega) _).drew)
  have Bc := Lib.hid (show Below V.heap.size V ((V.alloc (.cells #[] rF)).alloc (.cells #[.string s, .int .i64 kd, .int .i64 sz] rF)).drew from (ba.alloc (by rw [SE.out]; omega) _).drew)
  have c3 : V.cell? ⟨q, 3, none⟩ = some (.int .i64 sz) := X6.out.cell 3
  have c5 : V.cell? ⟨q, 5, none⟩ = some (.slice Af fds.length cf) := X6.out.cell 5
  have a3 : (V.alloc (.cells #[] rF)).cell? ⟨q, 3, none⟩ = some (.int .i64 sz) := (X6.out.below ba X6.out.lt).cell 3
  have a5 : (V.alloc (.cells #[] rF)).cell? ⟨q, 5, none⟩ = some (.slice Af fds.length cf) := (X6.out.below ba X6.out.lt).cell 5
  have b5 : (V.alloc (.cells #[.string s, .int .i64 kd, .int .i64 sz] rF)).cell? ⟨q, 5, none⟩ = some (.slice Af fds.length cf) := (X6.out.below bx X6.out.lt).cell 5
  have bb5 : ((V.alloc (.cells #[.string s, .int .i64 kd, .int .i64 sz] rF)).alloc (.cells #[] rF)).cell? ⟨q, 5, none⟩ = some (.slice Af fds.length cf) := (X6.out.below Bb.out X6.out.lt).cell 5
  have bc5 : ((V.alloc (.cells #[] rF)).alloc (.cells #[.string s, .int .i64 kd, .int .i64 sz] rF)).cell? ⟨q, 5, none⟩ = some (.slice Af fds.length cf) := (X6.out.below Bc.out X6.out.lt).cell 5
  have Ra := Lib.hid (row_below R6.out Ba.out)
  have Rb := Lib.hid (row_below R6.out Bb.out)
  have Rc := Lib.hid (row_below R6.out Bc.out)
  have Oa := Lib.hid (show World.ownsRow (V.alloc (.cells #[] rF)).drew V.heap.size rF 3 (.slice (some ⟨V.heap.size, 0, none⟩) 0 0) 0 [] from row_built (e := rF) (sz := 3) V #[] 0 0 rfl (Nat.le_refl _) (Nat.zero_le _) V.heap.size (Nat.le_refl _) _ rfl [] rfl)
  have Ob := Lib.hid (show World.ownsRow ((V.alloc (.cells #[.string s, .int .i64 kd, .int .i64 sz] rF)).alloc (.cells #[] rF)).drew V.heap.size rF 3 (.slice (some ⟨V.heap.size + 1, 0, none⟩) 0 0) 0 [] from row_built (e := rF) (sz := 3) (V.alloc (.cells #[.string s, .int .i64 kd, .int .i64 sz] rF)) #[] 0 0 rfl (Nat.le_refl _) (Nat.zero_le _) V.heap.size (by rw [SZ.out]; omega) _ (by rw [SZ.out]) [] rfl)
  have Oc := Lib.hid (show World.ownsRow ((V.alloc (.cells #[] rF)).alloc (.cells #[.string s, .int .i64 kd, .int .i64 sz] rF)).drew V.heap.size rF 3 (.slice (some ⟨V.heap.size, 0, none⟩) 0 0) 0 [] from World.ownsRow.alloc Oa.out (.cells #[.string s, .int .i64 kd, .int .i64 sz] rF))
  have Xb := Lib.hid (show Whole ((V.alloc (.cells #[.string s, .int .i64 kd, .int .i64 sz] rF)).alloc (.cells #[] rF)).drew V.heap.size rF #[.string s, .int .i64 kd, .int .i64 sz] from (Whole.made V rF #[.string s, .int .i64 kd, .int .i64 sz] _ rfl).alloc (.cells #[] rF))
  have Xc := Lib.hid (show Whole ((V.alloc (.cells #[] rF)).alloc (.cells #[.string s, .int .i64 kd, .int .i64 sz] rF)).drew (V.heap.size + 1) rF #[.string s, .int .i64 kd, .int .i64 sz] from Whole.made (V.alloc (.cells #[] rF)) rF #[.string s, .int .i64 kd, .int .i64 sz] _ (by rw [SE.out]))
  have Za : V.heap.size ≤ (V.alloc (.cells #[] rF)).drew.heap.size := Ba.out.size
  have Zb : V.heap.size ≤ ((V.alloc (.cells #[.string s, .int .i64 kd, .int .i64 sz] rF)).alloc (.cells #[] rF)).drew.heap.size := Bb.out.size
  have Zc : V.heap.size ≤ ((V.alloc (.cells #[] rF)).alloc (.cells #[.string s, .int .i64 kd, .int .i64 sz] rF)).drew.heap.size := Bc.out.size
  have hN : 0 + fds.length ≤ maxLen := by unfold maxLen; omega
  have hM : fds.length + 1 ≤ maxLen := by unfold maxLen; omega
  clear ba bx
  go_region_law (first
    | (refine step_app_any rfl (.tmp 51) (.tmp 53) 44 rfl V.heap.size rF i0 _ 3 32 Try.underlying44 hi hz0 hz1 hz2 rfl (by decide) (.slice (some ⟨V.heap.size, 0, none⟩) 0 0) 0 [] rfl Oa.out (.slice Af fds.length cf) fds.length _ rfl Ra.out (fd_one _) hN (by omega) Za ?_; intro v6 w6 ho6 hg6 hat6; rw [Nat.zero_add, List.nil_append] at ho6; have hform := row_form ho6; obtain ⟨A6, c6, rfl⟩ := hform; have B7 := Lib.hid (below_row Ba.out Oa.out hg6 Za); have Z6 : V.heap.size ≤ w6.heap.size := B7.out.size; have O7 := Lib.hid (World.ownsRow.alloc ho6 (.cells #[.string s, .int .i64 kd, .int .i64 sz] rF)); have B7x := Lib.hid (B7.out.alloc Z6 (.cells #[.string s, .int .i64 kd, .int .i64 sz] rF)); have N7 := Lib.hid (show ∀ (j : Nat) u, ([.string s, .int .i64 kd, .int .i64 sz] : List Value)[j]? = some u → (w6.alloc (.cells #[.string s, .int .i64 kd, .int .i64 sz] rF)).cell? ((⟨w6.heap.size, 0, none⟩ : Addr).add j) = some u from fun j u hj => by rw [Go.WideShapes.add_plain, Nat.zero_add]; exact ((Whole.made w6 rF #[.string s, .int .i64 kd, .int .i64 sz] _ rfl).cell j).trans (by simpa using hj)); have Z7 : V.heap.size ≤ (w6.alloc (.cells #[.string s, .int .i64 kd, .int .i64 sz] rF)).heap.size := B7x.out.size; have s3 : w6.cell? ⟨q, 3, none⟩ = some (.int .i64 sz) := (X6.out.below B7.out X6.out.lt).cell 3; clear ho6 hg6 hat6)
    | (refine step_app_any rfl (.tmp 51) (.tmp 53) 44 rfl V.heap.size rF i0 _ 3 32 Try.underlying44 hi hz0 hz1 hz2 rfl (by decide) (.slice (some ⟨V.heap.size + 1, 0, none⟩) 0 0) 0 [] rfl Ob.out (.slice Af fds.length cf) fds.length _ rfl Rb.out (fd_one _) hN (by omega) Zb ?_; intro v6 w6 ho6 hg6 hat6; rw [Nat.zero_add, List.nil_append] at ho6; have hform := row_form ho6; obtain ⟨A6, c6, rfl⟩ := hform; have B7 := Lib.hid (below_row Bb.out Ob.out hg6 Zb); have Z6 : V.heap.size ≤ w6.heap.size := B7.out.size; have Pb := Lib.hid ho6; have Nb := Lib.hid (show ∀ (j : Nat) u, ([.string s, .int .i64 kd, .int .i64 sz] : List Value)[j]? = some u → w6.cell? ((⟨V.heap.size, 0, none⟩ : Addr).add j) = some u from fun j u hj => by rw [Go.WideShapes.add_plain, Nat.zero_add]; exact (show w6.cell? ⟨V.heap.size, j, none⟩ = _ from (World.cell?_of_block (a := ⟨V.heap.size, j, none⟩) (hg6.block (V.heap.size) Xb.out.lt (by simp [Value.ownBlock]))).trans (Xb.out.cell j)).trans (by simpa using hj)); clear ho6 hg6 hat6)
    | (refine step_app_any rfl (.tmp 51) (.tmp 53) 44 rfl V.heap.size rF i0 _ 3 32 Try.underlying44 hi hz0 hz1 hz2 rfl (by decide) (.slice (some ⟨V.heap.size, 0, none⟩) 0 0) 0 [] rfl Oc.out (.slice Af fds.length cf) fds.length _ rfl Rc.out (fd_one _) hN (by omega) Zc ?_; intro v6 w6 ho6 hg6 hat6; rw [Nat.zero_add, List.nil_append] at ho6; have hform := row_form ho6; obtain ⟨A6, c6, rfl⟩ := hform; have B7 := Lib.hid (below_row Bc.out Oc.out hg6 Zc); have Z6 : V.heap.size ≤ w6.heap.size := B7.out.size; have Pc := Lib.hid ho6; have Nc := Lib.hid (show ∀ (j : Nat) u, ([.string s, .int .i64 kd, .int .i64 sz] : List Value)[j]? = some u → w6.cell? ((⟨V.heap.size + 1, 0, none⟩ : Addr).add j) = some u from fun j u hj => by rw [Go.WideShapes.add_plain, Nat.zero_add]; exact (show w6.cell? ⟨V.heap.size + 1, j, none⟩ = _ from (World.cell?_of_block (a := ⟨V.heap.size + 1, j, none⟩) (hg6.block (V.heap.size + 1) Xc.out.lt (by simp [Value.ownBlock]))).trans (Xc.out.cell j)).trans (by simpa using hj)); clear ho6 hg6 hat6)
    | (refine step_app rfl (.tmp 54) (.tmp 60) 44 rfl V.heap.size rF i0 _ 3 32 Try.underlying44 hi hz0 hz1 hz2 rfl (by decide) (.slice A6 fds.length c6) fds.length _ rfl O7.out ⟨w6.heap.size, 0, none⟩ 1 1 [.string s, .int .i64 kd, .int .i64 sz] rfl rfl N7.out (fun u hu => by simp at hu; rcases hu with rfl | rfl | rfl <;> rfl) hM (by omega) Z7 ?_; intro v8 w8 ho8 hg8 hat8; have hform := row_form ho8; obtain ⟨A8, c8, rfl⟩ := hform; have B8 := Lib.hid (below_row B7x.out O7.out hg8 Z7); have O8 := Lib.hid ho8; have X8 := Lib.hid (X6.out.below B8.out X6.out.lt); have e5 : w8.cell? ⟨q, 5, none⟩ = some (.slice Af fds.length cf) := X8.out.cell 5; have f5 : w8.frozen? ⟨q, 5, none⟩ = false := X8.out.free 5; clear ho8 hg8 hat8)
    | (refine step_app rfl (.tmp 54) (.tmp 60) 44 rfl V.heap.size rF i0 _ 3 32 Try.underlying44 hi hz0 hz1 hz2 rfl (by decide) (.slice A6 fds.length c6) fds.length _ rfl Pb.out ⟨V.heap.size, 0, none⟩ 1 1 [.string s, .int .i64 kd, .int .i64 sz] rfl rfl Nb.out (fun u hu => by simp at hu; rcases hu with rfl | rfl | rfl <;> rfl) hM (by omega) Z6 ?_; intro v8 w8 ho8 hg8 hat8; have hform := row_form ho8; obtain ⟨A8, c8, rfl⟩ := hform; have B8 := Lib.hid (below_row B7.out Pb.out hg8 Z6); have O8 := Lib.hid ho8; have X8 := Lib.hid (X6.out.below B8.out X6.out.lt); have e5 : w8.cell? ⟨q, 5, none⟩ = some (.slice Af fds.length cf) := X8.out.cell 5; have f5 : w8.frozen? ⟨q, 5, none⟩ = false := X8.out.free 5; clear ho8 hg8 hat8)
    | (refine step_app rfl (.tmp 54) (.tmp 60) 44 rfl V.heap.size rF i0 _ 3 32 Try.underlying44 hi hz0 hz1 hz2 rfl (by decide) (.slice A6 fds.length c6) fds.length _ rfl Pc.out ⟨V.heap.size + 1, 0, none⟩ 1 1 [.string s, .int .i64 kd, .int .i64 sz] rfl rfl Nc.out (fun u hu => by simp at hu; rcases hu with rfl | rfl | rfl <;> rfl) hM (by omega) Z6 ?_; intro v8 w8 ho8 hg8 hat8; have hform := row_form ho8; obtain ⟨A8, c8, rfl⟩ := hform; have B8 := Lib.hid (below_row B7.out Pc.out hg8 Z6); have O8 := Lib.hid ho8; have X8 := Lib.hid (X6.out.below B8.out X6.out.lt); have e5 : w8.cell? ⟨q, 5, none⟩ = some (.slice Af fds.length cf) := X8.out.cell 5; have f5 : w8.frozen? ⟨q, 5, none⟩ = false := X8.out.free 5; clear ho8 hg8 hat8))
  all_goals
    have X9 := Lib.hid (show Whole (w8.setCell ⟨q, 5, none⟩ (.slice A8 (fds.length + 1) c8)) q rT #[.int .i64 6, .int .i64 ln, .int .i64 bs, .int .i64 sz, .bool true, .slice A8 (fds.length + 1) c8] from X8.out.store 5 _)
    have XA := Lib.hid (show Whole ((w8.setCell ⟨q, 5, none⟩ (.slice A8 (fds.length + 1) c8)).setCell ⟨q, 3, none⟩ (.int .i64 (sz + sz2))) q rT #[.int .i64 6, .int .i64 ln, .int .i64 bs, .int .i64 (sz + sz2), .bool true, .slice A8 (fds.length + 1) c8] from X9.out.store 3 _)
    have NG := row_ne O8.out X8.out (fun _ _ h => rF_rT (by injection h with _ h; exact h.symm))
    have hr := World.ownsRow.kept O8.out ((grown_set w8 q 5 (.slice A8 (fds.length + 1) c8)).trans (grown_set _ q 3 (.int .i64 (sz + sz2)))) (.inr NG)
    have HRW := Lib.hid (show World.ownsRow ((w8.setCell ⟨q, 5, none⟩ (.slice A8 (fds.length + 1) c8)).setCell ⟨q, 3, none⟩ (.int .i64 (sz + sz2))) B rF 3 (.slice A8 (fds.length + 1) c8) (fds ++ [(⟨s, kd, sz⟩ : Fd)]).length ((fds ++ [(⟨s, kd, sz⟩ : Fd)]).flatMap Fd.cells) from by rw [List.length_append, List.flatMap_append, List.flatMap_singleton]; exact row_more hr (Nat.le_trans hB B6.out.size))
    have BA := Lib.hid (show Below w.heap.size w ((w8.setCell ⟨q, 5, none⟩ (.slice A8 (fds.length + 1) c8)).setCell ⟨q, 3, none⟩ (.int .i64 (sz + sz2))) from ((B6.out.trans (B8.out.mono B6.out.size)).setCell (p := ⟨q, 5, none⟩) HQ.out _).setCell (p := ⟨q, 3, none⟩) HQ.out _)
    have y3 : (w8.setCell ⟨q, 5, none⟩ (.slice A8 (fds.length + 1) c8)).cell? ⟨q, 3, none⟩ = some (.int .i64 sz) := X9.out.cell 3
    have z3 : (w8.setCell ⟨q, 5, none⟩ (.slice A8 (fds.length + 1) c8)).frozen? ⟨q, 3, none⟩ = false := X9.out.free 3
    have p0 : ((w8.setCell ⟨q, 5, none⟩ (.slice A8 (fds.length + 1) c8)).setCell ⟨q, 3, none⟩ (.int .i64 (sz + sz2))).cell? ⟨q, 0, none⟩ = some (.int .i64 6) := XA.out.cell 0
    have p1 : ((w8.setCell ⟨q, 5, none⟩ (.slice A8 (fds.length + 1) c8)).setCell ⟨q, 3, none⟩ (.int .i64 (sz + sz2))).cell? ⟨q, 1, none⟩ = some (.int .i64 ln) := XA.out.cell 1
    have p2 : ((w8.setCell ⟨q, 5, none⟩ (.slice A8 (fds.length + 1) c8)).setCell ⟨q, 3, none⟩ (.int .i64 (sz + sz2))).cell? ⟨q, 2, none⟩ = some (.int .i64 bs) := XA.out.cell 2
    have p3 : ((w8.setCell ⟨q, 5, none⟩ (.slice A8 (fds.length + 1) c8)).setCell ⟨q, 3, none⟩ (.int .i64 (sz + sz2))).cell? ⟨q, 3, none⟩ = some (.int .i64 (sz + sz2)) := XA.out.cell 3
    have p4 : ((w8.setCell ⟨q, 5, none⟩ (.slice A8 (fds.length + 1) c8)).setCell ⟨q, 3, none⟩ (.int .i64 (sz + sz2))).cell? ⟨q, 4, none⟩ = some (.bool true) := XA.out.cell 4
    have p5 : ((w8.setCell ⟨q, 5, none⟩ (.slice A8 (fds.length + 1) c8)).setCell ⟨q, 3, none⟩ (.int .i64 (sz + sz2))).cell? ⟨q, 5, none⟩ = some (.slice A8 (fds.length + 1) c8) := XA.out.cell 5
    clear hr NG X9 XA X8 O8 B8 e5 f5 c3 c5 a3 a5 b5 bb5 bc5 Ra Rb Rc Oa Ob Oc Xb Xc Za Zb Zc Ba Bb Bc R6 f3 SZ SE X6
    go_wp2_with fail
    refine (PU.out _ BA.out A8 c8 HRW.out).mono ?_
    rintro e wB ⟨v', rfl, hR, hbB⟩
    have RB := Lib.hid hR
    have BB := Lib.hid (BA.out.trans (hbB.mono BA.out.size))
    clear hR hbB PU p0 p1 p2 p3 p4 p5 y3 z3 HRW BA
    go_wp2_with fail
    go_ret2
    exact ⟨v', _, by rw [HR.out]; rfl, by rw [HR.out]; simp [List.map_set], RB.out, BB.out⟩
end Go.Proofs.Ytabkldahgjicbaa
