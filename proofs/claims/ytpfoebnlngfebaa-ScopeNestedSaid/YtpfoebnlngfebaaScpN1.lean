/- Scopes: ScopeNested. -/
import Derived.Test.YtpfoebnlngfebaaScpN0
namespace Go.Proofs.Ytpfoebnlngfebaa
open Go.ChangeShapes Go.WideShapes Go.ChangeAt Go.RowKit
set_option linter.unusedVariables false
set_option linter.unusedSimpArgs false

set_option maxHeartbeats 32000000 in
set_option maxRecDepth 100000 in
theorem nested_walk (W : World) (A : Option Addr) (n c : Nat) (f : Nat → OpP) (hO : OpPs W W.heap.size A n f) (hm : n ≤ maxLen) (x : Ob) (Ax : Option Addr) (cx : Nat) (hpx : ParV W.heap.size W (.slice Ax x.ps.length cx) x.ps) (hkx : ObOk x) (mo : Nat) (hmo : mo ≤ 255) :
    Calls Try.prog 5 #[.slice A n c, .agg #[.string x.nm, .int .i64 x.kd, .int .i64 x.ty, .int .i64 x.lv, .int .i32 x.nn, .int .i64 x.md, .bool x.ou, .slice Ax x.ps.length cx], .int .u8 mo] W fun e w' => e = .returned (.bool true) ∧ Below W.heap.size W w' := by
  have b0 := (Below.refl W.heap.size W).alloc (Nat.le_refl _) (.cells #[.string x.nm, .int .i64 x.kd, .int .i64 x.ty, .int .i64 x.lv, .int .i32 x.nn, .int .i64 x.md, .bool x.ou, .slice Ax x.ps.length cx] pO)
  have B0 := Lib.hid b0
  have HO := Lib.hid ((hO.later b0).more (show W.heap.size ≤ W.heap.size + 1 by omega))
  have PX := Lib.hid ((hpx.below b0).more (show W.heap.size ≤ W.heap.size + 1 by omega))
  have X0 := Lib.hid (Whole.made W pO #[.string x.nm, .int .i64 x.kd, .int .i64 x.ty, .int .i64 x.lv, .int .i32 x.nn, .int .i64 x.md, .bool x.ou, .slice Ax x.ps.length cx] _ rfl)
  have AW := Lib.hid (awake11_any (W.alloc (.cells #[.string x.nm, .int .i64 x.kd, .int .i64 x.ty, .int .i64 x.lv, .int .i32 x.nn, .int .i64 x.md, .bool x.ou, .slice Ax x.ps.length cx] pO)))
  have HS := Lib.hid (show (W.alloc (.cells #[.string x.nm, .int .i64 x.kd, .int .i64 x.ty, .int .i64 x.lv, .int .i32 x.nn, .int .i64 x.md, .bool x.ou, .slice Ax x.ps.length cx] pO)).heap.size = W.heap.size + 1 by simp)
  have HKX := Lib.hid hkx
  have HM := Lib.hid hm
  clear hO hm hpx hkx b0
  go_enter Try.func5, Try.ntmps5
  go_wp2_with fail
  refine AW.out.mono ?_
  rintro e w1 ⟨rfl, hb1⟩
  rw [HS.out] at hb1
  have B1 := Lib.hid hb1
  generalize (W.alloc (.cells #[.string x.nm, .int .i64 x.kd, .int .i64 x.ty, .int .i64 x.lv, .int .i32 x.nn, .int .i64 x.md, .bool x.ou, .slice Ax x.ps.length cx] pO)) = V0 at *
  have hs1 : W.heap.size + 1 ≤ w1.heap.size := by rw [← HS.out]; exact hb1.size
  have HOB := Lib.hid (fun W' (hb : Below (W.heap.size + 1) V0 W') => show OpPs W' (W.heap.size + 1) A n f from ⟨fun hn => by
    obtain ⟨b, off, e, hb1, hb2, hc⟩ := HO.out.1 hn
    exact ⟨b, off, e, hb1, Nat.lt_of_lt_of_le hb2 hb.size, fun j hj r u hu => (hb.cell (p := ⟨b, off + (j * 11 + r), none⟩) hb1).trans (hc j hj r u hu)⟩, fun j hj => by
    have hg := HO.out.2 j hj
    exact ⟨hg.par.below (by rw [HS.out]; exact hb), hg.ok, hg.exs.below (by rw [HS.out]; exact hb), hg.eok, hg.elen⟩⟩)
  generalize hBB : W.heap.size + 1 = B at *
  have HBB := Lib.hid hBB
  clear hBB
  have PL := Lib.hid (played_any A n c f B w1 hs1 (fun W' hb => HOB.out W' (B1.out.trans hb)) HM.out)
  have HS1 := Lib.hid hs1
  clear hb1 AW HO HOB hs1
  go_wp2_with fail
  refine PL.out.mono ?_
  rintro e w2 ⟨p, AL, cL, AM, cM, s, rfl, T, lx, mx, k, rfl, hk, hI, hT, hR, hb2⟩
  have bV := (Below.refl w2.heap.size w2).alloc (Nat.le_refl _) (.cells #[.slice AL s.L.length cL, .int .i64 s.lev, .slice AM s.mods.length cM] rS)
  have hz := Nat.le_trans HS1.out hb2.size
  have BV := Lib.hid ((B1.out.trans hb2).trans (bV.mono hz))
  have TV := Lib.hid (hT.below bV)
  have II := Lib.hid hI
  have HK := Lib.hid hk
  have HZ := Lib.hid (Nat.le_trans hz bV.size)
  have hlv := hI.lev
  have F0 := Lib.hid (find_any B T s x.nm (w2.alloc (.cells #[.slice AL s.L.length cL, .int .i64 s.lev, .slice AM s.mods.length cM] rS)) (hT.below bV) HZ.out hI.lev (by have := hI.len; omega) hI.ok)
  unfold FoundPost at F0
  have hxb : W.heap.size < B := by have := HBB.out; omega
  have xq : (w2.alloc (.cells #[.slice AL s.L.length cL, .int .i64 s.lev, .slice AM s.mods.length cM] rS)).cell? ⟨W.heap.size, 0, none⟩ = some (.string x.nm) := (BV.out.cell (p := ⟨W.heap.size, 0, none⟩) hxb).trans (X0.out.cell 0)
  clear hT hR hb2 hI bV hz PL
  generalize hv : (findP s x.nm).getD zO = v at *
  generalize hcv : codeOf (findP s x.nm) = cv at *
  have HV := Lib.hid hv
  have HCV := Lib.hid hcv
  clear hv hcv
  go_wp2_with fail
  clear xq
  generalize (w2.alloc (.cells #[.slice AL s.L.length cL, .int .i64 s.lev, .slice AM s.mods.length cM] rS)) = V2 at *
  refine F0.out.mono ?_
  rintro e y1 ⟨A1, c1, rfl, hb1, hp1⟩
  have hT1 := TV.out.below hb1
  have ba := (Below.refl y1.heap.size y1).alloc (Nat.le_refl _) (.cells #[.string v.nm, .int .i64 v.kd, .int .i64 v.ty, .int .i64 v.lv, .int .i32 v.nn, .int .i64 v.md, .bool v.ou, .slice A1 v.ps.length c1] pO)
  have NG := Lib.hid (show ¬ Own T y1.heap.size from fun ho => by have := (hT1.own ho).2.1; omega)
  have T3 := Lib.hid (hT1.below ba)
  have X1 := Lib.hid (Whole.made y1 pO #[.string v.nm, .int .i64 v.kd, .int .i64 v.ty, .int .i64 v.lv, .int .i32 v.nn, .int .i64 v.md, .bool v.ou, .slice A1 v.ps.length c1] _ rfl)
  have hz := Nat.le_trans HZ.out hb1.size
  have BV3 := Lib.hid ((BV.out.trans (hb1.mono HZ.out)).trans (ba.mono hz))
  have HG := Lib.hid (Nat.le_trans HZ.out hb1.size)
  have HZ3 := Lib.hid (Nat.le_trans hz ba.size)
  have LV := Lib.hid (level_any B T s (y1.alloc (.cells #[.string v.nm, .int .i64 v.kd, .int .i64 v.ty, .int .i64 v.lv, .int .i32 v.nn, .int .i64 v.md, .bool v.ou, .slice A1 v.ps.length c1] pO)) T3.out)
  clear F0 hb1 hp1 hT1 ba hz TV BV
  go_wp2_with fail
  generalize (y1.alloc (.cells #[.string v.nm, .int .i64 v.kd, .int .i64 v.ty, .int .i64 v.lv, .int .i32 v.nn, .int .i64 v.md, .bool v.ou, .slice A1 v.ps.length c1] pO)) = V3 at *
  generalize y1.heap.size = g1 at *
  refine LV.out.mono ?_
  rintro e w4 ⟨rfl, rfl⟩
  clear LV
  go_wp2_with fail
  generalize hTp : T.p = p at *
  have HTP := Lib.hid hTp
  clear hTp
  go_loopw [13] (fun i wr => ∃ (t l : Nat) (T : Tb), t ≤ mo ∧ l ≤ 64 ∧ l ≤ s.lev + t ∧ (l = 64 ∨ l = s.lev + t) ∧ i = .int .i64 t ∧ T.p = p ∧ TabAt wr B T (upS s l) ∧ ¬ Own T g1 ∧ Whole wr g1 pO #[.string v.nm, .int .i64 v.kd, .int .i64 v.ty, .int .i64 v.lv, .int .i32 v.nn, .int .i64 v.md, .bool v.ou, .slice A1 v.ps.length c1] ∧ Below B V0 wr ∧ w4.heap.size ≤ wr.heap.size) (fun i _ => mo - (intOf i).toNat)
  case atStart => exact ⟨0, s.lev, T, Nat.zero_le _, hlv, by omega, .inr rfl, rfl, HTP.out, T3.out, NG.out, X1.out, BV3.out, Nat.le_refl _⟩
  case round =>
    clear NG T3 X1 BV3 HTP T
    obtain ⟨t, l, T, ht, hl, hl2, hl3, rfl, hTp, hT, hN, hX, hb, hzr⟩ := hrel
    have HTW := Lib.hid hT
    have HZR := Lib.hid hzr
    clear hzr
    by_cases hlt : t < mo
    · have hI : (t : Int) < mo := by omega
      have PO := open_any B T (upS s l) wr hT hl
      by_cases h64 : l < 64
      · skip
        have hd : (s.lev : Int) + t < 64 := by omega
        rw [open_up h64] at PO
        rw [hTp] at PO
        have PO := Lib.hid PO
        clear hT
        go_wp2_with fail
        refine PO.out.mono ?_
        rintro e w5 ⟨rfl, T5, hp5, hT5, hK5, hO5⟩
        have NO := Lib.hid (show ¬ Own T5 g1 from fun ho => (hO5 _ ho).elim hN (fun h => by have := hX.lt; omega))
        have X5 := Lib.hid (hK5.whole hX hN)
        have Z5 := Lib.hid (Nat.le_trans HZR.out hK5.size)
        have B5 := Lib.hid (KeptS.below hb hK5 (Nat.le_trans HZ3.out HZR.out) (fun i hi => (HTW.out.own hi).1))
        clear hN hX hb PO hK5 hO5
        go_wp2_with fail
        go_roundw
        case rel => exact ⟨t + 1, l + 1, T5, by omega, by omega, by omega, by omega, by go_num, hp5.trans hTp, hT5, NO.out, X5.out, B5.out, Z5.out⟩
        case measure => simp [intOf]; omega
      · skip
        have hd : ¬ (s.lev : Int) + t < 64 := by omega
        rw [open_full (by omega)] at PO
        rw [hTp] at PO
        have PO := Lib.hid PO
        clear hT
        go_wp2_with fail
        refine PO.out.mono ?_
        rintro e w5 ⟨rfl, T5, hp5, hT5, hK5, hO5⟩
        have NO := Lib.hid (show ¬ Own T5 g1 from fun ho => (hO5 _ ho).elim hN (fun h => by have := hX.lt; omega))
        have X5 := Lib.hid (hK5.whole hX hN)
        have Z5 := Lib.hid (Nat.le_trans HZR.out hK5.size)
        have B5 := Lib.hid (KeptS.below hb hK5 (Nat.le_trans HZ3.out HZR.out) (fun i hi => (HTW.out.own hi).1))
        clear hN hX hb PO hK5 hO5
        go_wp2_with fail
        go_roundw
        case rel => exact ⟨t + 1, l, T5, by omega, by omega, by omega, by omega, by go_num, hp5.trans hTp, hT5, NO.out, X5.out, B5.out, Z5.out⟩
        case measure => simp [intOf]; omega
    · have hI : ¬ (t : Int) < mo := by omega
      obtain rfl : t = mo := by omega
      have LV := Lib.hid (level_any B T (upS s l) wr hT)
      rw [hTp, show (upS s l).lev = l from rfl] at LV
      have hsl : s.lev ≤ l := by omega
      by_cases he : l = s.lev
      · subst he
        have hd : ((s.lev : Int) == s.lev) = true := by simp
        go_wp2_with fail
        refine LV.out.mono ?_
        rintro e w5 ⟨rfl, rfl⟩
        clear LV
        have BF := Lib.hid (B0.out.trans (hb.mono (show W.heap.size ≤ B by have := HBB.out; omega)))
        clear hT hN hX hb
        go_wp2_with fail
        go_ret
        exact ⟨rfl, BF.out⟩
      · have hel : s.lev < l := by omega
        have hd : ((l : Int) == s.lev) = false := beq_eq_false_iff_ne.2 (by omega)
        go_wp2_with fail
        refine LV.out.mono ?_
        rintro e w5 ⟨rfl, rfl⟩
        clear LV
        have IU := Lib.hid (II.out.up hsl hl)
        have DC := Lib.hid (decl_any B T (upS s l) x.nm x.kd x.ty x.lv x.nn x.md x.ou x.ps Ax cx w5 hT ((PX.out).below (by rw [HS.out]; exact hb)) (Nat.le_trans HZ3.out HZR.out) hl (by have := IU.out.len; omega) HKX.out.1 HKX.out.2)
        rw [hTp] at DC
        have XQ := Lib.hid (show Whole w5 W.heap.size pO #[.string x.nm, .int .i64 x.kd, .int .i64 x.ty, .int .i64 x.lv, .int .i32 x.nn, .int .i64 x.md, .bool x.ou, .slice Ax x.ps.length cx] from (hb.block _ hxb).trans X0.out)
        have x0 : w5.cell? ⟨W.heap.size, 0, none⟩ = some (.string x.nm) := XQ.out.cell 0
        have x1 : w5.cell? ⟨W.heap.size, 1, none⟩ = some (.int .i64 x.kd) := XQ.out.cell 1
        have x2 : w5.cell? ⟨W.heap.size, 2, none⟩ = some (.int .i64 x.ty) := XQ.out.cell 2
        have x3 : w5.cell? ⟨W.heap.size, 3, none⟩ = some (.int .i64 x.lv) := XQ.out.cell 3
        have x4 : w5.cell? ⟨W.heap.size, 4, none⟩ = some (.int .i32 x.nn) := XQ.out.cell 4
        have x5 : w5.cell? ⟨W.heap.size, 5, none⟩ = some (.int .i64 x.md) := XQ.out.cell 5
        have x6 : w5.cell? ⟨W.heap.size, 6, none⟩ = some (.bool x.ou) := XQ.out.cell 6
        have x7 : w5.cell? ⟨W.heap.size, 7, none⟩ = some (.slice Ax x.ps.length cx) := XQ.out.cell 7
        have HN := Lib.hid hN
        have HX := Lib.hid hX
        have HB := Lib.hid hb
        have HTp := Lib.hid hTp
        clear hN hX hb hT hTp
        by_cases hbad : x.nm.size = 0 ∨ 32 < x.nm.size
        · rw [decl_bad hbad] at DC
          go_wp2_with fail
          clear x0 x1 x2 x3 x4 x5 x6 x7
          refine DC.out.mono ?_
          rintro e w6 ⟨rfl, T6, hp6, hT6, hK6, hO6⟩
          have B6 := Lib.hid (KeptS.below HB.out hK6 (Nat.le_trans HZ3.out HZR.out) (fun i hi => (HTW.out.own hi).1))
          have XQ6 := Lib.hid (show Whole w6 W.heap.size pO #[.string x.nm, .int .i64 x.kd, .int .i64 x.ty, .int .i64 x.lv, .int .i32 x.nn, .int .i64 x.md, .bool x.ou, .slice Ax x.ps.length cx] from (B6.out.block _ hxb).trans X0.out)
          clear hp6 hT6 hK6 hO6 DC
          have x0 : w6.cell? ⟨W.heap.size, 0, none⟩ = some (.string x.nm) := XQ6.out.cell 0
          have BF := Lib.hid (B0.out.trans (B6.out.mono (show W.heap.size ≤ B by have := HBB.out; omega)))
          have hsz : (x.nm.size : Int) ≤ 140737488355328 := by have := HKX.out.1; omega
          rcases hbad with h0 | h32
          · have he : x.nm.toList.isEmpty = true := by rw [empty_of h0, ByteArray.toList_eq]; rfl
            go_wp2_with fail
            go_ret
            exact ⟨rfl, BF.out⟩
          · have he : x.nm.toList.isEmpty = false := not_empty (by omega)
            have hI : (32 : Int) < x.nm.size := by omega
            go_wp2_with fail
            go_ret
            exact ⟨rfl, BF.out⟩
        · rw [decl_up II.out hel hbad] at DC
          go_wp2_with fail
          clear x0 x1 x2 x3 x4 x5 x6 x7
          refine DC.out.mono ?_
          rintro e w6 ⟨rfl, T6, hp6, hT6, hK6, hO6⟩
          have B6 := Lib.hid (KeptS.below HB.out hK6 (Nat.le_trans HZ3.out HZR.out) (fun i hi => (HTW.out.own hi).1))
          have XQ6 := Lib.hid (show Whole w6 W.heap.size pO #[.string x.nm, .int .i64 x.kd, .int .i64 x.ty, .int .i64 x.lv, .int .i32 x.nn, .int .i64 x.md, .bool x.ou, .slice Ax x.ps.length cx] from (B6.out.block _ hxb).trans X0.out)
          have hsz : (x.nm.size : Int) ≤ 140737488355328 := by have := HKX.out.1; omega
          have heq : x.nm.toList.isEmpty = false := not_empty (fun e => hbad (.inl e))
          have hI2 : ¬ (32 : Int) < x.nm.size := fun e => hbad (.inr (by omega))
          have N6 := Lib.hid (show ¬ Own T6 g1 from fun ho => (hO6 _ ho).elim HN.out (fun h => by have := HX.out.lt; omega))
          have X6 := Lib.hid (hK6.whole HX.out HN.out)
          have x0 : w6.cell? ⟨W.heap.size, 0, none⟩ = some (.string x.nm) := XQ6.out.cell 0
          have HLS := Lib.hid (show Below B V0 w6 ∧ B ≤ w6.heap.size from ⟨B6.out, Nat.le_trans (Nat.le_trans HZ3.out HZR.out) hK6.size⟩)
          have hyo : ObOk { x with lv := (l : Int) } := ⟨HKX.out.1, HKX.out.2⟩
          have HYO := Lib.hid hyo
          have INE := Lib.hid (fun j hj => II.out.nest (j := j) hel hl hj (y := { x with lv := (l : Int) }) rfl hyo)
          have hT6' : TabAt w6 B T6 (nestS s { x with lv := (l : Int) } l 0) := hT6
          have i0 := INE.out 0 (Nat.zero_le _)
          have FN := find_any B T6 _ x.nm w6 hT6' HLS.out.2 i0.lev (by have := i0.len; omega) i0.ok
          rw [find_nest II.out hel x, hp6, HTp.out] at FN
          have FN := Lib.hid (show Calls Try.prog 11 #[.pointer (some ⟨p, 0, none⟩), .string x.nm] w6 fun e w' => ∃ Aq cq, e = .returned (.tuple #[.agg #[.string x.nm, .int .i64 x.kd, .int .i64 x.ty, .int .i64 l, .int .i32 x.nn, .int .i64 x.md, .bool x.ou, .slice Aq x.ps.length cq], .int .i64 0]) ∧ Below w6.heap.size w6 w' from FN.mono (fun e w' ⟨Aq, cq, he, hb, _⟩ => ⟨Aq, cq, he, hb⟩))
          have T6H := Lib.hid hT6'
          have HP6 := Lib.hid (hp6.trans HTp.out)
          clear hp6 hT6 hT6' hK6 hO6 DC hbad i0 hyo HN HX HTp HB XQ HTW T
          go_wp2_with fail
          refine FN.out.mono ?_
          rintro e y7 ⟨A7, c7, rfl, hb7⟩
          have ba := (Below.refl y7.heap.size y7).alloc (Nat.le_refl _) (.cells #[.string x.nm, .int .i64 x.kd, .int .i64 x.ty, .int .i64 l, .int .i32 x.nn, .int .i64 x.md, .bool x.ou, .slice A7 x.ps.length c7] pO)
          have b7 := hb7.trans (ba.mono hb7.size)
          have X7 := Lib.hid (Whole.made y7 pO #[.string x.nm, .int .i64 x.kd, .int .i64 x.ty, .int .i64 l, .int .i32 x.nn, .int .i64 x.md, .bool x.ou, .slice A7 x.ps.length c7] _ rfl)
          have T7 := Lib.hid (T6H.out.below b7)
          have X17 := Lib.hid (X6.out.below b7 X6.out.lt)
          have BV7 := Lib.hid (HLS.out.1.trans (b7.mono HLS.out.2))
          have HZ7 := Lib.hid (Nat.le_trans HLS.out.2 b7.size)
          have XQ7 := Lib.hid (show Whole (y7.alloc (.cells #[.string x.nm, .int .i64 x.kd, .int .i64 x.ty, .int .i64 l, .int .i32 x.nn, .int .i64 x.md, .bool x.ou, .slice A7 x.ps.length c7] pO)) W.heap.size pO #[.string x.nm, .int .i64 x.kd, .int .i64 x.ty, .int .i64 x.lv, .int .i32 x.nn, .int .i64 x.md, .bool x.ou, .slice Ax x.ps.length cx] from (BV7.out.block _ hxb).trans X0.out)
          clear hb7 ba b7 FN T6H X6 x0
          go_wp2_with fail
          generalize (y7.alloc (.cells #[.string x.nm, .int .i64 x.kd, .int .i64 x.ty, .int .i64 l, .int .i32 x.nn, .int .i64 x.md, .bool x.ou, .slice A7 x.ps.length c7] pO)) = V7 at *
          generalize y7.heap.size = g7 at *
          have L0 : V7.drew.cell? ⟨g7, 3, none⟩ = some (.int .i64 l) ∧ V7.drew.cell? ⟨g7, 4, none⟩ = some (.int .i32 x.nn) ∧ V7.drew.cell? ⟨W.heap.size, 4, none⟩ = some (.int .i32 x.nn) := ⟨X7.out.cell 3, X7.out.cell 4, XQ7.out.cell 4⟩
          have LV := Lib.hid (level_any B T6 _ V7.drew (T7.out.below ((Below.refl V7.heap.size V7).drew)))
          rw [nest_lev, Nat.sub_zero, HP6.out] at LV
          go_region_held3 (fun y => y.cell? ⟨g7, 3, none⟩ = some (.int .i64 l) ∧ y.cell? ⟨g7, 4, none⟩ = some (.int .i32 x.nn) ∧ y.cell? ⟨W.heap.size, 4, none⟩ = some (.int .i32 x.nn))
            (first
              | with_reducible assumption
              | with_reducible exact L0
              | fail)
            (first
              | (go_at_call 16; refine LV.out.mono ?_; rintro e y1 ⟨rfl, rfl⟩))
          all_goals
            rename_i hH
            clear hH L0 LV X7 XQ7
            go_wp2_with fail
            have b8 := (Below.refl V7.heap.size V7).drew
            have T8 := Lib.hid (T7.out.below b8)
            have X18 := Lib.hid (show Whole V7.drew g1 pO #[.string v.nm, .int .i64 v.kd, .int .i64 v.ty, .int .i64 v.lv, .int .i32 v.nn, .int .i64 v.md, .bool v.ou, .slice A1 v.ps.length c1] from X17.out)
            have BV8 := Lib.hid (BV7.out.trans (b8.mono HZ7.out))
            clear b8 T7 X17 BV7
            go_loopw [18] (fun i wr => ∃ (j : Nat) (T : Tb), j ≤ l - s.lev ∧ i = .int .i64 j ∧ T.p = p ∧ TabAt wr B T (nestS s { x with lv := (l : Int) } l j) ∧ ¬ Own T g1 ∧ Whole wr g1 pO #[.string v.nm, .int .i64 v.kd, .int .i64 v.ty, .int .i64 v.lv, .int .i32 v.nn, .int .i64 v.md, .bool v.ou, .slice A1 v.ps.length c1] ∧ Below B V0 wr ∧ B ≤ wr.heap.size) (fun i _ => 70 - (intOf i).toNat)
            case atStart => exact ⟨0, T6, Nat.zero_le _, rfl, HP6.out, T8.out, N6.out, X18.out, BV8.out, HZ7.out⟩
            case round =>
              clear T8 N6 X18 BV8 HZ7 HP6 T6
              obtain ⟨j, T, hj, rfl, hTp, hT, hN, hX, hb, hzr⟩ := hrel
              have TW := Lib.hid hT
              have HN := Lib.hid hN
              have HX := Lib.hid hX
              have HB := Lib.hid hb
              have HR := Lib.hid hzr
              have HTp := Lib.hid hTp
              have hI70 : (j : Int) < 70 := by omega
              have LV := level_any B T _ wr hT
              rw [nest_lev, hTp] at LV
              have LV := Lib.hid LV
              clear hT hN hX hb hzr
              by_cases hjl : j < l - s.lev
              · have ij := INE.out j hj
                have CL := close_any B T _ wr TW.out ij.lev ij.lv
                rw [close_nest II.out hjl rfl, hTp] at CL
                have CL := Lib.hid CL
                have hgt : (s.lev : Int) < (l - j : Nat) := by omega
                generalize l - j = lj at *
                clear ij hTp
                go_wp2_with fail
                refine LV.out.mono ?_
                rintro e w8 ⟨rfl, rfl⟩
                clear LV
                go_wp2_with fail
                refine CL.out.mono ?_
                rintro e w9 ⟨rfl, T9, hp9, hT9, hK9, hO9⟩
                have X9 := Lib.hid (hK9.whole HX.out HN.out)
                have N9 := Lib.hid (show ¬ Own T9 g1 from fun ho => (hO9 _ ho).elim HN.out (fun h => by have := HX.out.lt; omega))
                have B9 := Lib.hid (KeptS.below HB.out hK9 HR.out (fun i hi => (TW.out.own hi).1))
                have Z9 := Lib.hid (Nat.le_trans HR.out hK9.size)
                have T9H := Lib.hid hT9
                have P9 := Lib.hid (hp9.trans HTp.out)
                clear hp9 hT9 hK9 hO9 CL
                go_wp2_with fail
                go_roundw
                case rel => exact ⟨j + 1, T9, by omega, by go_num, P9.out, T9H.out, N9.out, X9.out, B9.out, Z9.out⟩
                case measure => simp [intOf]; omega
              · obtain rfl : j = l - s.lev := by omega
                have hle : ¬ (s.lev : Int) < (l - (l - s.lev) : Nat) := by omega
                have TS := Lib.hid (show TabAt wr B T s from by have h := TW.out; rw [nest_end hel] at h; exact h)
                generalize l - (l - s.lev) = lj at *
                have XQ := Lib.hid (show Whole wr W.heap.size pO #[.string x.nm, .int .i64 x.kd, .int .i64 x.ty, .int .i64 x.lv, .int .i32 x.nn, .int .i64 x.md, .bool x.ou, .slice Ax x.ps.length cx] from (HB.out.block _ hxb).trans X0.out)
                have FC := find_any B T s x.nm wr TS.out HR.out hlv (by have := II.out.len; omega) II.out.ok
                rw [HTp.out] at FC
                unfold FoundPost at FC
                rw [HV.out, HCV.out] at FC
                have FC := Lib.hid FC
                have x0 : wr.cell? ⟨W.heap.size, 0, none⟩ = some (.string x.nm) := XQ.out.cell 0
                clear hTp TW XQ
                go_wp2_with fail
                refine LV.out.mono ?_
                rintro e w8 ⟨rfl, rfl⟩
                clear LV
                go_wp2_with fail
                refine FC.out.mono ?_
                rintro e y9 ⟨A9, c9, rfl, hb9, _⟩
                have ba := (Below.refl y9.heap.size y9).alloc (Nat.le_refl _) (.cells #[.string v.nm, .int .i64 v.kd, .int .i64 v.ty, .int .i64 v.lv, .int .i32 v.nn, .int .i64 v.md, .bool v.ou, .slice A9 v.ps.length c9] pO)
                have b9 := hb9.trans (ba.mono hb9.size)
                have X9 := Lib.hid (Whole.made y9 pO #[.string v.nm, .int .i64 v.kd, .int .i64 v.ty, .int .i64 v.lv, .int .i32 v.nn, .int .i64 v.md, .bool v.ou, .slice A9 v.ps.length c9] _ rfl)
                have X1 := Lib.hid (HX.out.below b9 HX.out.lt)
                have BF := Lib.hid (B0.out.trans ((HB.out.trans (b9.mono HR.out)).mono (show W.heap.size ≤ B by have := HBB.out; omega)))
                clear hb9 ba b9 FC x0 HX HB HN TS
                have p0 : (y9.alloc (.cells #[.string v.nm, .int .i64 v.kd, .int .i64 v.ty, .int .i64 v.lv, .int .i32 v.nn, .int .i64 v.md, .bool v.ou, .slice A9 v.ps.length c9] pO)).cell? ⟨y9.heap.size, 0, none⟩ = some (.string v.nm) := X9.out.cell 0
                have p1 : (y9.alloc (.cells #[.string v.nm, .int .i64 v.kd, .int .i64 v.ty, .int .i64 v.lv, .int .i32 v.nn, .int .i64 v.md, .bool v.ou, .slice A9 v.ps.length c9] pO)).cell? ⟨y9.heap.size, 1, none⟩ = some (.int .i64 v.kd) := X9.out.cell 1
                have p2 : (y9.alloc (.cells #[.string v.nm, .int .i64 v.kd, .int .i64 v.ty, .int .i64 v.lv, .int .i32 v.nn, .int .i64 v.md, .bool v.ou, .slice A9 v.ps.length c9] pO)).cell? ⟨y9.heap.size, 2, none⟩ = some (.int .i64 v.ty) := X9.out.cell 2
                have p3 : (y9.alloc (.cells #[.string v.nm, .int .i64 v.kd, .int .i64 v.ty, .int .i64 v.lv, .int .i32 v.nn, .int .i64 v.md, .bool v.ou, .slice A9 v.ps.length c9] pO)).cell? ⟨y9.heap.size, 3, none⟩ = some (.int .i64 v.lv) := X9.out.cell 3
                have p4 : (y9.alloc (.cells #[.string v.nm, .int .i64 v.kd, .int .i64 v.ty, .int .i64 v.lv, .int .i32 v.nn, .int .i64 v.md, .bool v.ou, .slice A9 v.ps.length c9] pO)).cell? ⟨y9.heap.size, 4, none⟩ = some (.int .i32 v.nn) := X9.out.cell 4
                have p5 : (y9.alloc (.cells #[.string v.nm, .int .i64 v.kd, .int .i64 v.ty, .int .i64 v.lv, .int .i32 v.nn, .int .i64 v.md, .bool v.ou, .slice A9 v.ps.length c9] pO)).cell? ⟨y9.heap.size, 5, none⟩ = some (.int .i64 v.md) := X9.out.cell 5
                have p6 : (y9.alloc (.cells #[.string v.nm, .int .i64 v.kd, .int .i64 v.ty, .int .i64 v.lv, .int .i32 v.nn, .int .i64 v.md, .bool v.ou, .slice A9 v.ps.length c9] pO)).cell? ⟨y9.heap.size, 6, none⟩ = some (.bool v.ou) := X9.out.cell 6
                have p7 : (y9.alloc (.cells #[.string v.nm, .int .i64 v.kd, .int .i64 v.ty, .int .i64 v.lv, .int .i32 v.nn, .int .i64 v.md, .bool v.ou, .slice A9 v.ps.length c9] pO)).cell? ⟨y9.heap.size, 7, none⟩ = some (.slice A9 v.ps.length c9) := X9.out.cell 7
                have q0 : (y9.alloc (.cells #[.string v.nm, .int .i64 v.kd, .int .i64 v.ty, .int .i64 v.lv, .int .i32 v.nn, .int .i64 v.md, .bool v.ou, .slice A9 v.ps.length c9] pO)).cell? ⟨g1, 0, none⟩ = some (.string v.nm) := X1.out.cell 0
                have q1 : (y9.alloc (.cells #[.string v.nm, .int .i64 v.kd, .int .i64 v.ty, .int .i64 v.lv, .int .i32 v.nn, .int .i64 v.md, .bool v.ou, .slice A9 v.ps.length c9] pO)).cell? ⟨g1, 1, none⟩ = some (.int .i64 v.kd) := X1.out.cell 1
                have q2 : (y9.alloc (.cells #[.string v.nm, .int .i64 v.kd, .int .i64 v.ty, .int .i64 v.lv, .int .i32 v.nn, .int .i64 v.md, .bool v.ou, .slice A9 v.ps.length c9] pO)).cell? ⟨g1, 2, none⟩ = some (.int .i64 v.ty) := X1.out.cell 2
                have q3 : (y9.alloc (.cells #[.string v.nm, .int .i64 v.kd, .int .i64 v.ty, .int .i64 v.lv, .int .i32 v.nn, .int .i64 v.md, .bool v.ou, .slice A9 v.ps.length c9] pO)).cell? ⟨g1, 3, none⟩ = some (.int .i64 v.lv) := X1.out.cell 3
                have q4 : (y9.alloc (.cells #[.string v.nm, .int .i64 v.kd, .int .i64 v.ty, .int .i64 v.lv, .int .i32 v.nn, .int .i64 v.md, .bool v.ou, .slice A9 v.ps.length c9] pO)).cell? ⟨g1, 4, none⟩ = some (.int .i32 v.nn) := X1.out.cell 4
                have q5 : (y9.alloc (.cells #[.string v.nm, .int .i64 v.kd, .int .i64 v.ty, .int .i64 v.lv, .int .i32 v.nn, .int .i64 v.md, .bool v.ou, .slice A9 v.ps.length c9] pO)).cell? ⟨g1, 5, none⟩ = some (.int .i64 v.md) := X1.out.cell 5
                have q6 : (y9.alloc (.cells #[.string v.nm, .int .i64 v.kd, .int .i64 v.ty, .int .i64 v.lv, .int .i32 v.nn, .int .i64 v.md, .bool v.ou, .slice A9 v.ps.length c9] pO)).cell? ⟨g1, 6, none⟩ = some (.bool v.ou) := X1.out.cell 6
                have q7 : (y9.alloc (.cells #[.string v.nm, .int .i64 v.kd, .int .i64 v.ty, .int .i64 v.lv, .int .i32 v.nn, .int .i64 v.md, .bool v.ou, .slice A9 v.ps.length c9] pO)).cell? ⟨g1, 7, none⟩ = some (.slice A1 v.ps.length c1) := X1.out.cell 7
                go_wp2_with fail
                go_ret
                exact ⟨rfl, BF.out⟩
end Go.Proofs.Ytpfoebnlngfebaa
