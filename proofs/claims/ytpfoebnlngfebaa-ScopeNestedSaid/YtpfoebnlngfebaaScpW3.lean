/- Scopes: the law's do: Change. -/
import Derived.Test.YtpfoebnlngfebaaScpW0
import Derived.Test.YtpfoebnlngfebaaScpQ
import Derived.Test.YtpfoebnlngfebaaScpT
namespace Go.Proofs.Ytpfoebnlngfebaa
open Go.ChangeShapes Go.WideShapes Go.ChangeAt Go.RowKit
set_option linter.unusedVariables false
set_option linter.unusedSimpArgs false

set_option maxHeartbeats 32000000 in
set_option maxRecDepth 100000 in
theorem do_change (B : Nat) (T : Tb) (AL : Option Addr) (cL : Nat) (lx : List Ox) (AM : Option Addr) (cM : Nat) (mx : List (Value × List Ox)) (s : Stt) (on : Int) (nm : ByteArray) (kd ty lv nn md : Int) (ou : Bool) (ps : List (Int × Bool)) (Ap : Option Addr) (cp : Nat) (Ae : Option Addr) (es : List Exx) (ce : Nat) (n : Nat) (w : World) (hT : TabAt w B T s) (hR : RefIn w B AL cL lx AM cM mx s) (hI : Inv n s) (hn : n ≤ 100) (hB : B ≤ w.heap.size) (hp : ParV B w (.slice Ap ps.length cp) ps) (hok : ObOk ⟨nm, kd, ty, lv, nn, md, ou, ps⟩) (hE : ExpV B w (.slice Ae es.length ce) es) (heok : ∀ e ∈ es, ObOk (expOb 0 e.1)) (hel : es.length * 64 ≤ 140737488355328) :
    Calls Try.prog 21 #[.pointer (some ⟨T.p, 0, none⟩), .agg #[.slice AL s.L.length cL, .int .i64 s.lev, .slice AM s.mods.length cM], .agg #[.int .i64 3, .int .i64 on, .string nm, .int .i64 kd, .int .i64 ty, .int .i64 lv, .int .i32 nn, .int .i64 md, .bool ou, .slice Ap ps.length cp, .slice Ae es.length ce]] w (DoPost B T w (changeP s on ⟨nm, kd, ty, lv, nn, md, ou, ps⟩).1) := by
  have b1 := (Below.refl w.heap.size w).alloc (Nat.le_refl _) (.cells #[.slice AL s.L.length cL, .int .i64 s.lev, .slice AM s.mods.length cM] rS)
  have b2 := b1.alloc b1.size (.cells #[.int .i64 3, .int .i64 on, .string nm, .int .i64 kd, .int .i64 ty, .int .i64 lv, .int .i32 nn, .int .i64 md, .bool ou, .slice Ap ps.length cp, .slice Ae es.length ce] oT)
  have b3 := b2.alloc b2.size (.cells #[.slice none 0 0, .int .i64 0, .slice none 0 0] rS)
  have b4 := b3.alloc b3.size (.cells #[.slice AL s.L.length cL, .int .i64 s.lev, .slice AM s.mods.length cM] rS)
  have BV := Lib.hid b4
  have HB := Lib.hid hB
  have X1 := Lib.hid ((((Whole.made w rS #[.slice AL s.L.length cL, .int .i64 s.lev, .slice AM s.mods.length cM] _ rfl).alloc (.cells #[.int .i64 3, .int .i64 on, .string nm, .int .i64 kd, .int .i64 ty, .int .i64 lv, .int .i32 nn, .int .i64 md, .bool ou, .slice Ap ps.length cp, .slice Ae es.length ce] oT)).alloc (.cells #[.slice none 0 0, .int .i64 0, .slice none 0 0] rS)).alloc (.cells #[.slice AL s.L.length cL, .int .i64 s.lev, .slice AM s.mods.length cM] rS))
  have X2 := Lib.hid (((Whole.made (w.alloc (.cells #[.slice AL s.L.length cL, .int .i64 s.lev, .slice AM s.mods.length cM] rS)) oT #[.int .i64 3, .int .i64 on, .string nm, .int .i64 kd, .int .i64 ty, .int .i64 lv, .int .i32 nn, .int .i64 md, .bool ou, .slice Ap ps.length cp, .slice Ae es.length ce] (w.heap.size + 1) (by simp)).alloc (.cells #[.slice none 0 0, .int .i64 0, .slice none 0 0] rS)).alloc (.cells #[.slice AL s.L.length cL, .int .i64 s.lev, .slice AM s.mods.length cM] rS))
  have X3 := Lib.hid ((Whole.made ((w.alloc (.cells #[.slice AL s.L.length cL, .int .i64 s.lev, .slice AM s.mods.length cM] rS)).alloc (.cells #[.int .i64 3, .int .i64 on, .string nm, .int .i64 kd, .int .i64 ty, .int .i64 lv, .int .i32 nn, .int .i64 md, .bool ou, .slice Ap ps.length cp, .slice Ae es.length ce] oT)) rS #[.slice none 0 0, .int .i64 0, .slice none 0 0] (w.heap.size + 1 + 1) (by simp)).alloc (.cells #[.slice AL s.L.length cL, .int .i64 s.lev, .slice AM s.mods.length cM] rS))
  have X4 := Lib.hid (Whole.made (((w.alloc (.cells #[.slice AL s.L.length cL, .int .i64 s.lev, .slice AM s.mods.length cM] rS)).alloc (.cells #[.int .i64 3, .int .i64 on, .string nm, .int .i64 kd, .int .i64 ty, .int .i64 lv, .int .i32 nn, .int .i64 md, .bool ou, .slice Ap ps.length cp, .slice Ae es.length ce] oT)).alloc (.cells #[.slice none 0 0, .int .i64 0, .slice none 0 0] rS)) rS #[.slice AL s.L.length cL, .int .i64 s.lev, .slice AM s.mods.length cM] (w.heap.size + 1 + 1 + 1) (by simp))
  have hBV : B ≤ ((((w.alloc (.cells #[.slice AL s.L.length cL, .int .i64 s.lev, .slice AM s.mods.length cM] rS)).alloc (.cells #[.int .i64 3, .int .i64 on, .string nm, .int .i64 kd, .int .i64 ty, .int .i64 lv, .int .i32 nn, .int .i64 md, .bool ou, .slice Ap ps.length cp, .slice Ae es.length ce] oT)).alloc (.cells #[.slice none 0 0, .int .i64 0, .slice none 0 0] rS)).alloc (.cells #[.slice AL s.L.length cL, .int .i64 s.lev, .slice AM s.mods.length cM] rS)).heap.size := Nat.le_trans hB b4.size
  have hlen : s.L.length ≤ 1000 := by have := hI.len; omega
  have PO := Lib.hid (change_any B T s on nm kd ty lv nn md ou ps Ap cp ((((w.alloc (.cells #[.slice AL s.L.length cL, .int .i64 s.lev, .slice AM s.mods.length cM] rS)).alloc (.cells #[.int .i64 3, .int .i64 on, .string nm, .int .i64 kd, .int .i64 ty, .int .i64 lv, .int .i32 nn, .int .i64 md, .bool ou, .slice Ap ps.length cp, .slice Ae es.length ce] oT)).alloc (.cells #[.slice none 0 0, .int .i64 0, .slice none 0 0] rS)).alloc (.cells #[.slice AL s.L.length cL, .int .i64 s.lev, .slice AM s.mods.length cM] rS)) (hT.below b4) (hp.below b4) hBV hI.lev hlen hI.lv hok.1 hok.2)
  have RO := Lib.hid (fun W (hW : RefIn W B AL cL lx AM cM mx s) (hp : ParV B W (.slice Ap ps.length cp) ps) (hBW : B ≤ W.heap.size) => refchange_any B AL cL lx AM cM mx s on nm kd ty lv nn md ou ps Ap cp W hW hp hBW hlen)
  have RF := Lib.hid (fun W => ref_any nm kd ty lv nn md ou ps Ap cp W)
  unfold RefPost at RO
  have HR := Lib.hid (hR.below b4)
  have TV := Lib.hid (hT.below b4)
  have PV0 := Lib.hid (hp.below b4)
  clear hT hR b1 b2 b3 b4 hBV hp hok hE heok hel hB hlen
  generalize changeP s on ⟨nm, kd, ty, lv, nn, md, ou, ps⟩ = r at *
  obtain ⟨r1, re⟩ := r
  go_enter Try.func21, Try.ntmps21
  go_wp2_with fail
  generalize ((((w.alloc (.cells #[.slice AL s.L.length cL, .int .i64 s.lev, .slice AM s.mods.length cM] rS)).alloc (.cells #[.int .i64 3, .int .i64 on, .string nm, .int .i64 kd, .int .i64 ty, .int .i64 lv, .int .i32 nn, .int .i64 md, .bool ou, .slice Ap ps.length cp, .slice Ae es.length ce] oT)).alloc (.cells #[.slice none 0 0, .int .i64 0, .slice none 0 0] rS)).alloc (.cells #[.slice AL s.L.length cL, .int .i64 s.lev, .slice AM s.mods.length cM] rS)) = V at *
  refine PO.out.mono ?_
  rintro e w1 ⟨rfl, hC⟩
  obtain ⟨T1, hp1, hT1, hK1, hO1⟩ := hC
  have Y1 := Lib.hid (hK1.whole X1.out (TV.out.notOwn X1.out (by decide) (by decide) (by decide)))
  have Y2 := Lib.hid (hK1.whole X2.out (TV.out.notOwn X2.out (by decide) (by decide) (by decide)))
  have Y3 := Lib.hid (hK1.whole X3.out (TV.out.notOwn X3.out (by decide) (by decide) (by decide)))
  have Y4 := Lib.hid (hK1.whole X4.out (TV.out.notOwn X4.out (by decide) (by decide) (by decide)))
  have R1 := Lib.hid (TV.out.keepRef hK1 HR.out)
  have C1 := Lib.hid (show ChPost B T w r1 w1 from (show ChPost B T V r1 w1 from ⟨T1, hp1, hT1, hK1, hO1⟩).before BV.out)
  have HB1 := Lib.hid (show B ≤ w1.heap.size from Nat.le_trans HB.out (Nat.le_trans BV.out.size hK1.size))
  have PV := Lib.hid (TV.out.keepPar hK1 PV0.out)
  have BU := Lib.hid ((Below.refl w1.heap.size w1).drew)
  have L0 : w1.drew.cell? ⟨w.heap.size, 0, none⟩ = some (.slice AL s.L.length cL) ∧ w1.drew.cell? ⟨w.heap.size, 1, none⟩ = some (.int .i64 s.lev) ∧ w1.drew.cell? ⟨w.heap.size, 2, none⟩ = some (.slice AM s.mods.length cM) ∧ w1.drew.cell? ⟨w.heap.size + 1, 1, none⟩ = some (.int .i64 on) ∧ w1.drew.cell? ⟨w.heap.size + 1, 2, none⟩ = some (.string nm) ∧ w1.drew.cell? ⟨w.heap.size + 1, 3, none⟩ = some (.int .i64 kd) ∧ w1.drew.cell? ⟨w.heap.size + 1, 4, none⟩ = some (.int .i64 ty) ∧ w1.drew.cell? ⟨w.heap.size + 1, 5, none⟩ = some (.int .i64 lv) ∧ w1.drew.cell? ⟨w.heap.size + 1, 6, none⟩ = some (.int .i32 nn) ∧ w1.drew.cell? ⟨w.heap.size + 1, 7, none⟩ = some (.int .i64 md) ∧ w1.drew.cell? ⟨w.heap.size + 1, 8, none⟩ = some (.bool ou) ∧ w1.drew.cell? ⟨w.heap.size + 1, 9, none⟩ = some (.slice Ap ps.length cp) := ⟨Y1.out.cell 0, Y1.out.cell 1, Y1.out.cell 2, Y2.out.cell 1, Y2.out.cell 2, Y2.out.cell 3, Y2.out.cell 4, Y2.out.cell 5, Y2.out.cell 6, Y2.out.cell 7, Y2.out.cell 8, Y2.out.cell 9⟩
  have U1 := Lib.hid (show Whole w1.drew (w.heap.size) rS #[.slice AL s.L.length cL, .int .i64 s.lev, .slice AM s.mods.length cM] from Y1.out)
  have U2 := Lib.hid (show Whole w1.drew (w.heap.size + 1) oT #[.int .i64 3, .int .i64 on, .string nm, .int .i64 kd, .int .i64 ty, .int .i64 lv, .int .i32 nn, .int .i64 md, .bool ou, .slice Ap ps.length cp, .slice Ae es.length ce] from Y2.out)
  have U3 := Lib.hid (show Whole w1.drew (w.heap.size + 1 + 1) rS #[.slice none 0 0, .int .i64 0, .slice none 0 0] from Y3.out)
  have U4 := Lib.hid (show Whole w1.drew (w.heap.size + 1 + 1 + 1) rS #[.slice AL s.L.length cL, .int .i64 s.lev, .slice AM s.mods.length cM] from Y4.out)
  clear hp1 hT1 hK1 hO1 PO X1 X2 X3 X4 TV HR BV PV0
  go_wp2_with fail
  refine wp_region_noPanic ?_
  refine wp_region_held_drew (S := fun y => y.cell? ⟨w.heap.size, 0, none⟩ = some (.slice AL s.L.length cL) ∧ y.cell? ⟨w.heap.size, 1, none⟩ = some (.int .i64 s.lev) ∧ y.cell? ⟨w.heap.size, 2, none⟩ = some (.slice AM s.mods.length cM) ∧ y.cell? ⟨w.heap.size + 1, 1, none⟩ = some (.int .i64 on) ∧ y.cell? ⟨w.heap.size + 1, 2, none⟩ = some (.string nm) ∧ y.cell? ⟨w.heap.size + 1, 3, none⟩ = some (.int .i64 kd) ∧ y.cell? ⟨w.heap.size + 1, 4, none⟩ = some (.int .i64 ty) ∧ y.cell? ⟨w.heap.size + 1, 5, none⟩ = some (.int .i64 lv) ∧ y.cell? ⟨w.heap.size + 1, 6, none⟩ = some (.int .i32 nn) ∧ y.cell? ⟨w.heap.size + 1, 7, none⟩ = some (.int .i64 md) ∧ y.cell? ⟨w.heap.size + 1, 8, none⟩ = some (.bool ou) ∧ y.cell? ⟨w.heap.size + 1, 9, none⟩ = some (.slice Ap ps.length cp)) (by kernel_rfl) L0 (fun hHeld => ?_)
  clear L0
  refine wpAnyH_take (i := 0) (oi := _) (v := .agg #[.slice AL s.L.length cL, .int .i64 s.lev, .slice AM s.mods.length cM]) rfl (by kernel_rfl) (by kernel_rfl) (by kernel_rfl) (fun _ _ _ h => h) (Or.inl ⟨by rfl, fun w hSw => by (try dsimp only at hSw); go_simp⟩) (by assumption) ?_
  try simp only [Act.put, List.getElem_toArray, List.getElem_cons_succ, List.getElem_cons_zero, List.setIfInBounds_toArray, List.set_cons_zero, List.set_cons_succ]
  refine wpAnyH_take (i := 1) (oi := _) (v := .pointer (some ⟨w.heap.size + 1, 1, none⟩)) rfl (by kernel_rfl) (by kernel_rfl) (by kernel_rfl) (fun _ _ _ h => h) (Or.inl ⟨by rfl, fun w hSw => by (try dsimp only at hSw); go_simp⟩) (by assumption) ?_
  try simp only [Act.put, List.getElem_toArray, List.getElem_cons_succ, List.getElem_cons_zero, List.setIfInBounds_toArray, List.set_cons_zero, List.set_cons_succ]
  refine wpAnyH_take (i := 2) (oi := _) (v := .int .i64 on) rfl (by kernel_rfl) (by kernel_rfl) (by kernel_rfl) (fun _ _ _ h => h) (Or.inl ⟨by rfl, fun w hSw => by (try dsimp only at hSw); go_simp⟩) (by assumption) ?_
  try simp only [Act.put, List.getElem_toArray, List.getElem_cons_succ, List.getElem_cons_zero, List.setIfInBounds_toArray, List.set_cons_zero, List.set_cons_succ]
  refine wpAnyH_take (i := 3) (oi := _) (v := .pointer (some ⟨w.heap.size + 1, 2, none⟩)) rfl (by kernel_rfl) (by kernel_rfl) (by kernel_rfl) (fun _ _ _ h => h) (Or.inl ⟨by rfl, fun w hSw => by (try dsimp only at hSw); go_simp⟩) (by assumption) ?_
  try simp only [Act.put, List.getElem_toArray, List.getElem_cons_succ, List.getElem_cons_zero, List.setIfInBounds_toArray, List.set_cons_zero, List.set_cons_succ]
  refine wpAnyH_take (i := 4) (oi := _) (v := .agg #[.string nm, .int .i64 kd, .int .i64 ty, .int .i64 lv, .int .i32 nn, .int .i64 md, .bool ou, .slice Ap ps.length cp]) rfl (by kernel_rfl) (by kernel_rfl) (by kernel_rfl) (fun _ _ _ h => h) (Or.inl ⟨by rfl, fun w hSw => by (try dsimp only at hSw); go_simp⟩) (by assumption) ?_
  try simp only [Act.put, List.getElem_toArray, List.getElem_cons_succ, List.getElem_cons_zero, List.setIfInBounds_toArray, List.set_cons_zero, List.set_cons_succ]
  refine wpAnyH_ready (rs := [5]) (by kernel_rfl) (by simp) (AllReadyH.cons (o := _) rfl (fun K hK => ?_) AllReadyH.nil)
  go_simp
  go_at_call 32
  refine (RF.out _).mono ?_
  rintro e y1 ⟨rfl, hb1⟩
  have A1 := Lib.hid (U1.out.below hb1 U1.out.lt)
  have A2 := Lib.hid (U2.out.below hb1 U2.out.lt)
  have A3 := Lib.hid (U3.out.below hb1 U3.out.lt)
  have A4 := Lib.hid (U4.out.below hb1 U4.out.lt)
  have S1 : y1.cell? ⟨w.heap.size, 0, none⟩ = some (.slice AL s.L.length cL) ∧ y1.cell? ⟨w.heap.size, 1, none⟩ = some (.int .i64 s.lev) ∧ y1.cell? ⟨w.heap.size, 2, none⟩ = some (.slice AM s.mods.length cM) ∧ y1.cell? ⟨w.heap.size + 1, 1, none⟩ = some (.int .i64 on) ∧ y1.cell? ⟨w.heap.size + 1, 2, none⟩ = some (.string nm) ∧ y1.cell? ⟨w.heap.size + 1, 3, none⟩ = some (.int .i64 kd) ∧ y1.cell? ⟨w.heap.size + 1, 4, none⟩ = some (.int .i64 ty) ∧ y1.cell? ⟨w.heap.size + 1, 5, none⟩ = some (.int .i64 lv) ∧ y1.cell? ⟨w.heap.size + 1, 6, none⟩ = some (.int .i32 nn) ∧ y1.cell? ⟨w.heap.size + 1, 7, none⟩ = some (.int .i64 md) ∧ y1.cell? ⟨w.heap.size + 1, 8, none⟩ = some (.bool ou) ∧ y1.cell? ⟨w.heap.size + 1, 9, none⟩ = some (.slice Ap ps.length cp) := ⟨A1.out.cell 0, A1.out.cell 1, A1.out.cell 2, A2.out.cell 1, A2.out.cell 2, A2.out.cell 3, A2.out.cell 4, A2.out.cell 5, A2.out.cell 6, A2.out.cell 7, A2.out.cell 8, A2.out.cell 9⟩
  have D1 := Lib.hid (BU.out.trans (hb1.mono BU.out.size))
  have RC := Lib.hid (RO.out y1 (R1.out.below D1.out) (PV.out.below D1.out) (Nat.le_trans HB1.out D1.out.size))
  clear hb1
  refine hK.out _ _ S1 (fun hHeld => ?_)
  clear hK K
  try simp only [Act.put, List.getElem_toArray, List.getElem_cons_succ, List.getElem_cons_zero, List.setIfInBounds_toArray, List.set_cons_zero, List.set_cons_succ]
  refine wpAnyH_ready (rs := [6]) (by kernel_rfl) (by simp) (AllReadyH.cons (o := _) rfl (fun K hK => ?_) AllReadyH.nil)
  go_simp
  go_at_call 34
  refine (RC.out).mono ?_
  rintro e y2 ⟨AL2, cL2, lx2, AM2, cM2, mx2, rfl, hR2, hb2⟩
  have E1 := Lib.hid (A1.out.below hb2 A1.out.lt)
  have E2 := Lib.hid (A2.out.below hb2 A2.out.lt)
  have Z3 := Lib.hid (A3.out.below hb2 A3.out.lt)
  have Z4 := Lib.hid (A4.out.below hb2 A4.out.lt)
  have S2 : y2.cell? ⟨w.heap.size, 0, none⟩ = some (.slice AL s.L.length cL) ∧ y2.cell? ⟨w.heap.size, 1, none⟩ = some (.int .i64 s.lev) ∧ y2.cell? ⟨w.heap.size, 2, none⟩ = some (.slice AM s.mods.length cM) ∧ y2.cell? ⟨w.heap.size + 1, 1, none⟩ = some (.int .i64 on) ∧ y2.cell? ⟨w.heap.size + 1, 2, none⟩ = some (.string nm) ∧ y2.cell? ⟨w.heap.size + 1, 3, none⟩ = some (.int .i64 kd) ∧ y2.cell? ⟨w.heap.size + 1, 4, none⟩ = some (.int .i64 ty) ∧ y2.cell? ⟨w.heap.size + 1, 5, none⟩ = some (.int .i64 lv) ∧ y2.cell? ⟨w.heap.size + 1, 6, none⟩ = some (.int .i32 nn) ∧ y2.cell? ⟨w.heap.size + 1, 7, none⟩ = some (.int .i64 md) ∧ y2.cell? ⟨w.heap.size + 1, 8, none⟩ = some (.bool ou) ∧ y2.cell? ⟨w.heap.size + 1, 9, none⟩ = some (.slice Ap ps.length cp) := ⟨E1.out.cell 0, E1.out.cell 1, E1.out.cell 2, E2.out.cell 1, E2.out.cell 2, E2.out.cell 3, E2.out.cell 4, E2.out.cell 5, E2.out.cell 6, E2.out.cell 7, E2.out.cell 8, E2.out.cell 9⟩
  have R2 := Lib.hid hR2
  have C2 := Lib.hid (C1.out.later (D1.out.trans (hb2.mono D1.out.size)))
  have S3 : (Try.prog.info? rS).map (·.size) = some 3 := by kernel_rfl
  have H1 := Lib.hid (show (#[.slice AL2 r1.L.length cL2, .int .i64 r1.lev, .slice AM2 r1.mods.length cM2] : Array Value).all (·.oneCell') = true from by simp [Value.oneCell'])
  clear hR2 hb2
  refine hK.out _ _ S2 (fun hHeld => ?_)
  clear hK K
  try simp only [Act.put, List.getElem_toArray, List.getElem_cons_succ, List.getElem_cons_zero, List.setIfInBounds_toArray, List.set_cons_zero, List.set_cons_succ]
  refine wpAnyH_take (i := 7) (oi := _) (v := .tuple #[.agg #[.slice AL2 r1.L.length cL2, .int .i64 r1.lev, .slice AM2 r1.mods.length cM2], .int .i64 re]) rfl (by kernel_rfl) (by kernel_rfl) (by kernel_rfl) (fun _ _ _ h => h) (Or.inl ⟨by rfl, fun w hSw => by (try dsimp only at hSw); go_simp⟩) (by assumption) ?_
  try simp only [Act.put, List.getElem_toArray, List.getElem_cons_succ, List.getElem_cons_zero, List.setIfInBounds_toArray, List.set_cons_zero, List.set_cons_succ]
  refine wpAnyH_take (i := 8) (oi := _) (v := .agg #[.slice AL2 r1.L.length cL2, .int .i64 r1.lev, .slice AM2 r1.mods.length cM2]) rfl (by kernel_rfl) (by kernel_rfl) (by kernel_rfl) (fun _ _ _ h => h) (Or.inl ⟨by rfl, fun w hSw => by (try dsimp only at hSw); go_simp⟩) (by assumption) ?_
  try simp only [Act.put, List.getElem_toArray, List.getElem_cons_succ, List.getElem_cons_zero, List.setIfInBounds_toArray, List.set_cons_zero, List.set_cons_succ]
  refine wpAnyH_take (i := 9) (oi := _) (v := .int .i64 re) rfl (by kernel_rfl) (by kernel_rfl) (by kernel_rfl) (fun _ _ _ h => h) (Or.inl ⟨by rfl, fun w hSw => by (try dsimp only at hSw); go_simp⟩) (by assumption) ?_
  try simp only [Act.put, List.getElem_toArray, List.getElem_cons_succ, List.getElem_cons_zero, List.setIfInBounds_toArray, List.set_cons_zero, List.set_cons_succ]
  refine wpAnyH_ready (rs := [10]) (by kernel_rfl) (by simp) (AllReadyH.cons (o := _) rfl (fun K hK => ?_) AllReadyH.nil)
  refine wp_store_row rS (.tmp 10) (.tmp 68) rfl (w.heap.size + 1 + 1 + 1) #[.slice AL2 r1.L.length cL2, .int .i64 r1.lev, .slice AM2 r1.mods.length cM2] rfl rfl rS #[.slice AL s.L.length cL, .int .i64 s.lev, .slice AM s.mods.length cM] Z4.out S3 rfl H1.out ?_
  have SX1 := Lib.hid (Z4.out.setRow #[.slice AL2 r1.L.length cL2, .int .i64 r1.lev, .slice AM2 r1.mods.length cM2]).1
  have G1 := Lib.hid (setRow_far (us := #[.slice AL2 r1.L.length cL2, .int .i64 r1.lev, .slice AM2 r1.mods.length cM2]) Z4.out Z3.out (by omega))
  have G2 := Lib.hid (setRow_far (us := #[.slice AL2 r1.L.length cL2, .int .i64 r1.lev, .slice AM2 r1.mods.length cM2]) Z4.out E1.out (by omega))
  have G3 := Lib.hid (setRow_far (us := #[.slice AL2 r1.L.length cL2, .int .i64 r1.lev, .slice AM2 r1.mods.length cM2]) Z4.out E2.out (by omega))
  generalize hw3 : y2.setRow (w.heap.size + 1 + 1 + 1) #[.slice AL2 r1.L.length cL2, .int .i64 r1.lev, .slice AM2 r1.mods.length cM2] = w3 at *
  have Hw3 := Lib.hid hw3
  clear hw3
  have S4 : w3.cell? ⟨w.heap.size, 0, none⟩ = some (.slice AL s.L.length cL) ∧ w3.cell? ⟨w.heap.size, 1, none⟩ = some (.int .i64 s.lev) ∧ w3.cell? ⟨w.heap.size, 2, none⟩ = some (.slice AM s.mods.length cM) ∧ w3.cell? ⟨w.heap.size + 1, 1, none⟩ = some (.int .i64 on) ∧ w3.cell? ⟨w.heap.size + 1, 2, none⟩ = some (.string nm) ∧ w3.cell? ⟨w.heap.size + 1, 3, none⟩ = some (.int .i64 kd) ∧ w3.cell? ⟨w.heap.size + 1, 4, none⟩ = some (.int .i64 ty) ∧ w3.cell? ⟨w.heap.size + 1, 5, none⟩ = some (.int .i64 lv) ∧ w3.cell? ⟨w.heap.size + 1, 6, none⟩ = some (.int .i32 nn) ∧ w3.cell? ⟨w.heap.size + 1, 7, none⟩ = some (.int .i64 md) ∧ w3.cell? ⟨w.heap.size + 1, 8, none⟩ = some (.bool ou) ∧ w3.cell? ⟨w.heap.size + 1, 9, none⟩ = some (.slice Ap ps.length cp) := ⟨G2.out.cell 0, G2.out.cell 1, G2.out.cell 2, G3.out.cell 1, G3.out.cell 2, G3.out.cell 3, G3.out.cell 4, G3.out.cell 5, G3.out.cell 6, G3.out.cell 7, G3.out.cell 8, G3.out.cell 9⟩
  refine hK.out _ _ S4 (fun hHeld => ?_)
  clear hK K
  try simp only [Act.put, List.getElem_toArray, List.getElem_cons_succ, List.getElem_cons_zero, List.setIfInBounds_toArray, List.set_cons_zero, List.set_cons_succ]
  refine wpAnyH_ready (rs := [11]) (by kernel_rfl) (by simp) (AllReadyH.cons (o := _) rfl (fun K hK => ?_) AllReadyH.nil)
  go_simp
  refine hK.out _ _ S4 (fun hHeld => ?_)
  clear hK K
  try simp only [Act.put, List.getElem_toArray, List.getElem_cons_succ, List.getElem_cons_zero, List.setIfInBounds_toArray, List.set_cons_zero, List.set_cons_succ]
  refine wpAnyH_done (by kernel_rfl) ?_ _
  refine NoPanic.normal ?_
  try simp only [Act.put, List.getElem_toArray, List.getElem_cons_succ, List.getElem_cons_zero, List.setIfInBounds_toArray, List.set_cons_zero, List.set_cons_succ]
  have y0 : w3.cell? ⟨w.heap.size + 1 + 1 + 1, 0, none⟩ = some (.slice AL2 r1.L.length cL2) := SX1.out.cell 0
  have y1 : w3.cell? ⟨w.heap.size + 1 + 1 + 1, 1, none⟩ = some (.int .i64 r1.lev) := SX1.out.cell 1
  have y2 : w3.cell? ⟨w.heap.size + 1 + 1 + 1, 2, none⟩ = some (.slice AM2 r1.mods.length cM2) := SX1.out.cell 2
  repeat (first | (go_big_may; first | (refine wpList_store_row rfl rS (.tmp 6) (.tmp 102) rfl (w.heap.size + 1 + 1) #[.slice AL2 r1.L.length cL2, .int .i64 r1.lev, .slice AM2 r1.mods.length cM2] rfl rfl rS #[.slice none 0 0, .int .i64 0, .slice none 0 0] G1.out S3 rfl H1.out ?_; generalize hZZ : (w3).setRow (w.heap.size + 1 + 1) #[.slice AL2 r1.L.length cL2, .int .i64 r1.lev, .slice AM2 r1.mods.length cM2] = ZZ; have HZZ := Lib.hid hZZ; clear hZZ)) | go_values | go_skip | go_guarded | go_step | go_upon)
  clear y0 y1 y2 S3 H1
  have K2 := setRow_kept (S := fun k => k = w.heap.size + 1 + 1 ∨ k = w.heap.size + 1 + 1 + 1) (us := #[.slice AL2 r1.L.length cL2, .int .i64 r1.lev, .slice AM2 r1.mods.length cM2]) Z4.out (.inr rfl)
  rw [Hw3.out] at K2
  have K3 := setRow_kept (S := fun k => k = w.heap.size + 1 + 1 ∨ k = w.heap.size + 1 + 1 + 1) (us := #[.slice AL2 r1.L.length cL2, .int .i64 r1.lev, .slice AM2 r1.mods.length cM2]) G1.out (.inl rfl)
  rw [HZZ.out] at K3
  have K := K2.trans K3 (fun _ h => .inl h)
  have hbx := two_boxes (w := w) HB.out Z3.out Z4.out (by omega) (by omega)
  have HF := Lib.hid (show DoPost B T w r1 (.returned (.tuple #[.agg #[.slice AL2 r1.L.length cL2, .int .i64 r1.lev, .slice AM2 r1.mods.length cM2], .bool true])) ZZ from ⟨AL2, cL2, lx2, AM2, cM2, mx2, rfl, R2.out.boxes K hbx.1, C2.out.boxes K hbx.1 hbx.2⟩)
  have SX := (G1.out.setRow #[.slice AL2 r1.L.length cL2, .int .i64 r1.lev, .slice AM2 r1.mods.length cM2]).1
  rw [HZZ.out] at SX
  clear K K2 K3 hbx
  have z0 : ZZ.cell? ⟨w.heap.size + 1 + 1, 0, none⟩ = some (.slice AL2 r1.L.length cL2) := SX.cell 0
  have z1 : ZZ.cell? ⟨w.heap.size + 1 + 1, 1, none⟩ = some (.int .i64 r1.lev) := SX.cell 1
  have z2 : ZZ.cell? ⟨w.heap.size + 1 + 1, 2, none⟩ = some (.slice AM2 r1.mods.length cM2) := SX.cell 2
  refine bodyPost_ret (v := .tuple #[.agg #[.slice AL2 r1.L.length cL2, .int .i64 r1.lev, .slice AM2 r1.mods.length cM2], .bool true]) ?_ rfl HF.out
  clear HF SX
  simp [results, Try.results21, go_sem, z0, z1, z2]
end Go.Proofs.Ytpfoebnlngfebaa
