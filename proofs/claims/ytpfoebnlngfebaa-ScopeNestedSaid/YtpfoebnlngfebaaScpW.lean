/- Scopes: the law's do: Open, Close. -/
import Derived.Test.YtpfoebnlngfebaaScpW0
namespace Go.Proofs.Ytpfoebnlngfebaa
open Go.ChangeShapes Go.WideShapes Go.ChangeAt Go.RowKit
set_option linter.unusedVariables false
set_option linter.unusedSimpArgs false

set_option maxHeartbeats 32000000 in
set_option maxRecDepth 100000 in
theorem do_open (B : Nat) (T : Tb) (AL : Option Addr) (cL : Nat) (lx : List Ox) (AM : Option Addr) (cM : Nat) (mx : List (Value × List Ox)) (s : Stt) (on : Int) (nm : ByteArray) (kd ty lv nn md : Int) (ou : Bool) (ps : List (Int × Bool)) (Ap : Option Addr) (cp : Nat) (Ae : Option Addr) (es : List Exx) (ce : Nat) (n : Nat) (w : World) (hT : TabAt w B T s) (hR : RefIn w B AL cL lx AM cM mx s) (hI : Inv n s) (hn : n ≤ 100) (hB : B ≤ w.heap.size) (hp : ParV B w (.slice Ap ps.length cp) ps) (hok : ObOk ⟨nm, kd, ty, lv, nn, md, ou, ps⟩) (hE : ExpV B w (.slice Ae es.length ce) es) (heok : ∀ e ∈ es, ObOk (expOb 0 e.1)) (hel : es.length * 64 ≤ 140737488355328) :
    Calls Try.prog 21 #[.pointer (some ⟨T.p, 0, none⟩), .agg #[.slice AL s.L.length cL, .int .i64 s.lev, .slice AM s.mods.length cM], .agg #[.int .i64 0, .int .i64 on, .string nm, .int .i64 kd, .int .i64 ty, .int .i64 lv, .int .i32 nn, .int .i64 md, .bool ou, .slice Ap ps.length cp, .slice Ae es.length ce]] w (DoPost B T w (openP s).1) := by
  have b1 := (Below.refl w.heap.size w).alloc (Nat.le_refl _) (.cells #[.slice AL s.L.length cL, .int .i64 s.lev, .slice AM s.mods.length cM] rS)
  have b2 := b1.alloc b1.size (.cells #[.int .i64 0, .int .i64 on, .string nm, .int .i64 kd, .int .i64 ty, .int .i64 lv, .int .i32 nn, .int .i64 md, .bool ou, .slice Ap ps.length cp, .slice Ae es.length ce] oT)
  have b3 := b2.alloc b2.size (.cells #[.slice none 0 0, .int .i64 0, .slice none 0 0] rS)
  have b4 := b3.alloc b3.size (.cells #[.slice AL s.L.length cL, .int .i64 s.lev, .slice AM s.mods.length cM] rS)
  have BV := Lib.hid b4
  have HB := Lib.hid hB
  have X1 := Lib.hid ((((Whole.made w rS #[.slice AL s.L.length cL, .int .i64 s.lev, .slice AM s.mods.length cM] _ rfl).alloc (.cells #[.int .i64 0, .int .i64 on, .string nm, .int .i64 kd, .int .i64 ty, .int .i64 lv, .int .i32 nn, .int .i64 md, .bool ou, .slice Ap ps.length cp, .slice Ae es.length ce] oT)).alloc (.cells #[.slice none 0 0, .int .i64 0, .slice none 0 0] rS)).alloc (.cells #[.slice AL s.L.length cL, .int .i64 s.lev, .slice AM s.mods.length cM] rS))
  have X2 := Lib.hid (((Whole.made (w.alloc (.cells #[.slice AL s.L.length cL, .int .i64 s.lev, .slice AM s.mods.length cM] rS)) oT #[.int .i64 0, .int .i64 on, .string nm, .int .i64 kd, .int .i64 ty, .int .i64 lv, .int .i32 nn, .int .i64 md, .bool ou, .slice Ap ps.length cp, .slice Ae es.length ce] (w.heap.size + 1) (by simp)).alloc (.cells #[.slice none 0 0, .int .i64 0, .slice none 0 0] rS)).alloc (.cells #[.slice AL s.L.length cL, .int .i64 s.lev, .slice AM s.mods.length cM] rS))
  have X3 := Lib.hid ((Whole.made ((w.alloc (.cells #[.slice AL s.L.length cL, .int .i64 s.lev, .slice AM s.mods.length cM] rS)).alloc (.cells #[.int .i64 0, .int .i64 on, .string nm, .int .i64 kd, .int .i64 ty, .int .i64 lv, .int .i32 nn, .int .i64 md, .bool ou, .slice Ap ps.length cp, .slice Ae es.length ce] oT)) rS #[.slice none 0 0, .int .i64 0, .slice none 0 0] (w.heap.size + 1 + 1) (by simp)).alloc (.cells #[.slice AL s.L.length cL, .int .i64 s.lev, .slice AM s.mods.length cM] rS))
  have X4 := Lib.hid (Whole.made (((w.alloc (.cells #[.slice AL s.L.length cL, .int .i64 s.lev, .slice AM s.mods.length cM] rS)).alloc (.cells #[.int .i64 0, .int .i64 on, .string nm, .int .i64 kd, .int .i64 ty, .int .i64 lv, .int .i32 nn, .int .i64 md, .bool ou, .slice Ap ps.length cp, .slice Ae es.length ce] oT)).alloc (.cells #[.slice none 0 0, .int .i64 0, .slice none 0 0] rS)) rS #[.slice AL s.L.length cL, .int .i64 s.lev, .slice AM s.mods.length cM] (w.heap.size + 1 + 1 + 1) (by simp))
  have hBV : B ≤ ((((w.alloc (.cells #[.slice AL s.L.length cL, .int .i64 s.lev, .slice AM s.mods.length cM] rS)).alloc (.cells #[.int .i64 0, .int .i64 on, .string nm, .int .i64 kd, .int .i64 ty, .int .i64 lv, .int .i32 nn, .int .i64 md, .bool ou, .slice Ap ps.length cp, .slice Ae es.length ce] oT)).alloc (.cells #[.slice none 0 0, .int .i64 0, .slice none 0 0] rS)).alloc (.cells #[.slice AL s.L.length cL, .int .i64 s.lev, .slice AM s.mods.length cM] rS)).heap.size := Nat.le_trans hB b4.size
  have hlen : s.L.length ≤ 1000 := by have := hI.len; omega
  have PO := Lib.hid (open_any B T s ((((w.alloc (.cells #[.slice AL s.L.length cL, .int .i64 s.lev, .slice AM s.mods.length cM] rS)).alloc (.cells #[.int .i64 0, .int .i64 on, .string nm, .int .i64 kd, .int .i64 ty, .int .i64 lv, .int .i32 nn, .int .i64 md, .bool ou, .slice Ap ps.length cp, .slice Ae es.length ce] oT)).alloc (.cells #[.slice none 0 0, .int .i64 0, .slice none 0 0] rS)).alloc (.cells #[.slice AL s.L.length cL, .int .i64 s.lev, .slice AM s.mods.length cM] rS)) (hT.below b4) hI.lev)
  have RO := Lib.hid (fun W (hW : RefIn W B AL cL lx AM cM mx s) (hBW : B ≤ W.heap.size) => refopen_any B AL cL lx AM cM mx s W hW hI.lev)
  unfold RefPost at RO
  have HR := Lib.hid (hR.below b4)
  have TV := Lib.hid (hT.below b4)
  clear hT hR b1 b2 b3 b4 hBV hp hok hE heok hel hB hlen
  generalize openP s = r at *
  obtain ⟨r1, re⟩ := r
  go_enter Try.func21, Try.ntmps21
  go_wp2_with fail
  generalize ((((w.alloc (.cells #[.slice AL s.L.length cL, .int .i64 s.lev, .slice AM s.mods.length cM] rS)).alloc (.cells #[.int .i64 0, .int .i64 on, .string nm, .int .i64 kd, .int .i64 ty, .int .i64 lv, .int .i32 nn, .int .i64 md, .bool ou, .slice Ap ps.length cp, .slice Ae es.length ce] oT)).alloc (.cells #[.slice none 0 0, .int .i64 0, .slice none 0 0] rS)).alloc (.cells #[.slice AL s.L.length cL, .int .i64 s.lev, .slice AM s.mods.length cM] rS)) = V at *
  refine PO.out.mono ?_
  rintro e w1 ⟨rfl, hC⟩
  obtain ⟨T1, hp1, hT1, hK1, hO1⟩ := hC
  have Y1 := Lib.hid (hK1.whole X1.out (TV.out.notOwn X1.out (by decide) (by decide) (by decide)))
  have Y2 := Lib.hid (hK1.whole X2.out (TV.out.notOwn X2.out (by decide) (by decide) (by decide)))
  have Y3 := Lib.hid (hK1.whole X3.out (TV.out.notOwn X3.out (by decide) (by decide) (by decide)))
  have Y4 := Lib.hid (hK1.whole X4.out (TV.out.notOwn X4.out (by decide) (by decide) (by decide)))
  have R1 := Lib.hid (TV.out.keepRef hK1 HR.out)
  have C1 := Lib.hid (show ChPost B T w r1 w1 from (show ChPost B T V r1 w1 from ⟨T1, hp1, hT1, hK1, hO1⟩).before BV.out)
  have HB1 := Lib.hid (show B ≤ w1.heap.size from Nat.le_trans HB.out (Nat.le_trans BV.out.size hK1.size))
  have RC := Lib.hid (RO.out w1 R1.out HB1.out)
  clear hp1 hT1 hK1 hO1 PO RO X1 X2 X3 X4 TV HR BV Y2
  have x0 : w1.cell? ⟨w.heap.size, 0, none⟩ = some (.slice AL s.L.length cL) := Y1.out.cell 0
  have x1 : w1.cell? ⟨w.heap.size, 1, none⟩ = some (.int .i64 s.lev) := Y1.out.cell 1
  have x2 : w1.cell? ⟨w.heap.size, 2, none⟩ = some (.slice AM s.mods.length cM) := Y1.out.cell 2
  go_wp2_with fail
  refine RC.out.mono ?_
  rintro e w2 ⟨AL2, cL2, lx2, AM2, cM2, mx2, rfl, hR2, hb2⟩
  have Z3 := Lib.hid (Y3.out.below hb2 Y3.out.lt)
  have Z4 := Lib.hid (Y4.out.below hb2 Y4.out.lt)
  have R2 := Lib.hid hR2
  have C2 := Lib.hid (C1.out.later hb2)
  clear hR2 hb2 Y1 Y3 Y4 R1 C1 RC x0 x1 x2
  have S3 : (Try.prog.info? rS).map (·.size) = some 3 := by kernel_rfl
  have H1 := Lib.hid (show (#[.slice AL2 r1.L.length cL2, .int .i64 r1.lev, .slice AM2 r1.mods.length cM2] : Array Value).all (·.oneCell') = true from by simp [Value.oneCell'])
  simp only []
  go_at_K
  repeat (first | (go_big_may; first | (refine wpList_store_row rfl rS (.tmp 10) (.tmp 27) rfl (w.heap.size + 1 + 1 + 1) #[.slice AL2 r1.L.length cL2, .int .i64 r1.lev, .slice AM2 r1.mods.length cM2] rfl rfl rS #[.slice AL s.L.length cL, .int .i64 s.lev, .slice AM s.mods.length cM] Z4.out S3 rfl H1.out ?_; have SX1 := Lib.hid (Z4.out.setRow #[.slice AL2 r1.L.length cL2, .int .i64 r1.lev, .slice AM2 r1.mods.length cM2]).1; have G1 := Lib.hid (setRow_far (us := #[.slice AL2 r1.L.length cL2, .int .i64 r1.lev, .slice AM2 r1.mods.length cM2]) Z4.out Z3.out (by omega)); generalize hw3 : w2.setRow (w.heap.size + 1 + 1 + 1) #[.slice AL2 r1.L.length cL2, .int .i64 r1.lev, .slice AM2 r1.mods.length cM2] = w3 at *; have Hw3 := Lib.hid hw3; clear hw3; have y0 : w3.cell? ⟨w.heap.size + 1 + 1 + 1, 0, none⟩ = some (.slice AL2 r1.L.length cL2) := SX1.out.cell 0; have y1 : w3.cell? ⟨w.heap.size + 1 + 1 + 1, 1, none⟩ = some (.int .i64 r1.lev) := SX1.out.cell 1; have y2 : w3.cell? ⟨w.heap.size + 1 + 1 + 1, 2, none⟩ = some (.slice AM2 r1.mods.length cM2) := SX1.out.cell 2) | (refine wpList_store_row rfl rS (.tmp 6) (.tmp 102) rfl (w.heap.size + 1 + 1) #[.slice AL2 r1.L.length cL2, .int .i64 r1.lev, .slice AM2 r1.mods.length cM2] rfl rfl rS #[.slice none 0 0, .int .i64 0, .slice none 0 0] G1.out S3 rfl H1.out ?_; generalize hZZ : (w3).setRow (w.heap.size + 1 + 1) #[.slice AL2 r1.L.length cL2, .int .i64 r1.lev, .slice AM2 r1.mods.length cM2] = ZZ; have HZZ := Lib.hid hZZ; clear hZZ)) | go_values | go_skip | go_guarded | go_step | go_upon)
  clear y0 y1 y2 S3 H1
  have K2 := setRow_kept (S := fun k => k = w.heap.size + 1 + 1 ∨ k = w.heap.size + 1 + 1 + 1) (us := #[.slice AL2 r1.L.length cL2, .int .i64 r1.lev, .slice AM2 r1.mods.length cM2]) Z4.out (.inr rfl)
  rw [Hw3.out] at K2
  have K3 := setRow_kept (S := fun k => k = w.heap.size + 1 + 1 ∨ k = w.heap.size + 1 + 1 + 1) (us := #[.slice AL2 r1.L.length cL2, .int .i64 r1.lev, .slice AM2 r1.mods.length cM2]) G1.out (.inl rfl)
  rw [HZZ.out] at K3
  have K := K2.trans K3 (fun _ h => .inl h)
  have hbx := two_boxes (w := w) HB.out Z3.out Z4.out (by omega) (by omega)
  have HF := Lib.hid (show DoPost B T w r1 (.returned (.tuple #[.agg #[.slice AL2 r1.L.length cL2, .int .i64 r1.lev, .slice AM2 r1.mods.length cM2], .bool true])) ZZ from ⟨AL2, cL2, lx2, AM2, cM2, mx2, rfl, R2.out.boxes K hbx.1, C2.out.boxes K hbx.1 hbx.2⟩)
  have SX := (G1.out.setRow #[.slice AL2 r1.L.length cL2, .int .i64 r1.lev, .slice AM2 r1.mods.length cM2]).1
  rw [HZZ.out] at SX
  clear K K2 K3 hbx
  have z0 : ZZ.cell? ⟨w.heap.size + 1 + 1, 0, none⟩ = some (.slice AL2 r1.L.length cL2) := SX.cell 0
  have z1 : ZZ.cell? ⟨w.heap.size + 1 + 1, 1, none⟩ = some (.int .i64 r1.lev) := SX.cell 1
  have z2 : ZZ.cell? ⟨w.heap.size + 1 + 1, 2, none⟩ = some (.slice AM2 r1.mods.length cM2) := SX.cell 2
  refine bodyPost_ret (v := .tuple #[.agg #[.slice AL2 r1.L.length cL2, .int .i64 r1.lev, .slice AM2 r1.mods.length cM2], .bool true]) ?_ rfl HF.out
  clear HF SX
  simp [results, Try.results21, go_sem, z0, z1, z2]

set_option maxHeartbeats 32000000 in
set_option maxRecDepth 100000 in
theorem do_close (B : Nat) (T : Tb) (AL : Option Addr) (cL : Nat) (lx : List Ox) (AM : Option Addr) (cM : Nat) (mx : List (Value × List Ox)) (s : Stt) (on : Int) (nm : ByteArray) (kd ty lv nn md : Int) (ou : Bool) (ps : List (Int × Bool)) (Ap : Option Addr) (cp : Nat) (Ae : Option Addr) (es : List Exx) (ce : Nat) (n : Nat) (w : World) (hT : TabAt w B T s) (hR : RefIn w B AL cL lx AM cM mx s) (hI : Inv n s) (hn : n ≤ 100) (hB : B ≤ w.heap.size) (hp : ParV B w (.slice Ap ps.length cp) ps) (hok : ObOk ⟨nm, kd, ty, lv, nn, md, ou, ps⟩) (hE : ExpV B w (.slice Ae es.length ce) es) (heok : ∀ e ∈ es, ObOk (expOb 0 e.1)) (hel : es.length * 64 ≤ 140737488355328) :
    Calls Try.prog 21 #[.pointer (some ⟨T.p, 0, none⟩), .agg #[.slice AL s.L.length cL, .int .i64 s.lev, .slice AM s.mods.length cM], .agg #[.int .i64 1, .int .i64 on, .string nm, .int .i64 kd, .int .i64 ty, .int .i64 lv, .int .i32 nn, .int .i64 md, .bool ou, .slice Ap ps.length cp, .slice Ae es.length ce]] w (DoPost B T w (closeP s).1) := by
  have b1 := (Below.refl w.heap.size w).alloc (Nat.le_refl _) (.cells #[.slice AL s.L.length cL, .int .i64 s.lev, .slice AM s.mods.length cM] rS)
  have b2 := b1.alloc b1.size (.cells #[.int .i64 1, .int .i64 on, .string nm, .int .i64 kd, .int .i64 ty, .int .i64 lv, .int .i32 nn, .int .i64 md, .bool ou, .slice Ap ps.length cp, .slice Ae es.length ce] oT)
  have b3 := b2.alloc b2.size (.cells #[.slice none 0 0, .int .i64 0, .slice none 0 0] rS)
  have b4 := b3.alloc b3.size (.cells #[.slice AL s.L.length cL, .int .i64 s.lev, .slice AM s.mods.length cM] rS)
  have BV := Lib.hid b4
  have HB := Lib.hid hB
  have X1 := Lib.hid ((((Whole.made w rS #[.slice AL s.L.length cL, .int .i64 s.lev, .slice AM s.mods.length cM] _ rfl).alloc (.cells #[.int .i64 1, .int .i64 on, .string nm, .int .i64 kd, .int .i64 ty, .int .i64 lv, .int .i32 nn, .int .i64 md, .bool ou, .slice Ap ps.length cp, .slice Ae es.length ce] oT)).alloc (.cells #[.slice none 0 0, .int .i64 0, .slice none 0 0] rS)).alloc (.cells #[.slice AL s.L.length cL, .int .i64 s.lev, .slice AM s.mods.length cM] rS))
  have X2 := Lib.hid (((Whole.made (w.alloc (.cells #[.slice AL s.L.length cL, .int .i64 s.lev, .slice AM s.mods.length cM] rS)) oT #[.int .i64 1, .int .i64 on, .string nm, .int .i64 kd, .int .i64 ty, .int .i64 lv, .int .i32 nn, .int .i64 md, .bool ou, .slice Ap ps.length cp, .slice Ae es.length ce] (w.heap.size + 1) (by simp)).alloc (.cells #[.slice none 0 0, .int .i64 0, .slice none 0 0] rS)).alloc (.cells #[.slice AL s.L.length cL, .int .i64 s.lev, .slice AM s.mods.length cM] rS))
  have X3 := Lib.hid ((Whole.made ((w.alloc (.cells #[.slice AL s.L.length cL, .int .i64 s.lev, .slice AM s.mods.length cM] rS)).alloc (.cells #[.int .i64 1, .int .i64 on, .string nm, .int .i64 kd, .int .i64 ty, .int .i64 lv, .int .i32 nn, .int .i64 md, .bool ou, .slice Ap ps.length cp, .slice Ae es.length ce] oT)) rS #[.slice none 0 0, .int .i64 0, .slice none 0 0] (w.heap.size + 1 + 1) (by simp)).alloc (.cells #[.slice AL s.L.length cL, .int .i64 s.lev, .slice AM s.mods.length cM] rS))
  have X4 := Lib.hid (Whole.made (((w.alloc (.cells #[.slice AL s.L.length cL, .int .i64 s.lev, .slice AM s.mods.length cM] rS)).alloc (.cells #[.int .i64 1, .int .i64 on, .string nm, .int .i64 kd, .int .i64 ty, .int .i64 lv, .int .i32 nn, .int .i64 md, .bool ou, .slice Ap ps.length cp, .slice Ae es.length ce] oT)).alloc (.cells #[.slice none 0 0, .int .i64 0, .slice none 0 0] rS)) rS #[.slice AL s.L.length cL, .int .i64 s.lev, .slice AM s.mods.length cM] (w.heap.size + 1 + 1 + 1) (by simp))
  have hBV : B ≤ ((((w.alloc (.cells #[.slice AL s.L.length cL, .int .i64 s.lev, .slice AM s.mods.length cM] rS)).alloc (.cells #[.int .i64 1, .int .i64 on, .string nm, .int .i64 kd, .int .i64 ty, .int .i64 lv, .int .i32 nn, .int .i64 md, .bool ou, .slice Ap ps.length cp, .slice Ae es.length ce] oT)).alloc (.cells #[.slice none 0 0, .int .i64 0, .slice none 0 0] rS)).alloc (.cells #[.slice AL s.L.length cL, .int .i64 s.lev, .slice AM s.mods.length cM] rS)).heap.size := Nat.le_trans hB b4.size
  have hlen : s.L.length ≤ 1000 := by have := hI.len; omega
  have PO := Lib.hid (close_any B T s ((((w.alloc (.cells #[.slice AL s.L.length cL, .int .i64 s.lev, .slice AM s.mods.length cM] rS)).alloc (.cells #[.int .i64 1, .int .i64 on, .string nm, .int .i64 kd, .int .i64 ty, .int .i64 lv, .int .i32 nn, .int .i64 md, .bool ou, .slice Ap ps.length cp, .slice Ae es.length ce] oT)).alloc (.cells #[.slice none 0 0, .int .i64 0, .slice none 0 0] rS)).alloc (.cells #[.slice AL s.L.length cL, .int .i64 s.lev, .slice AM s.mods.length cM] rS)) (hT.below b4) hI.lev hI.lv)
  have RO := Lib.hid (fun W (hW : RefIn W B AL cL lx AM cM mx s) (hBW : B ≤ W.heap.size) => refclose_any B AL cL lx AM cM mx s W hW hBW hI.lev hlen)
  unfold RefPost at RO
  have HR := Lib.hid (hR.below b4)
  have TV := Lib.hid (hT.below b4)
  clear hT hR b1 b2 b3 b4 hBV hp hok hE heok hel hB hlen
  generalize closeP s = r at *
  obtain ⟨r1, re⟩ := r
  go_enter Try.func21, Try.ntmps21
  go_wp2_with fail
  generalize ((((w.alloc (.cells #[.slice AL s.L.length cL, .int .i64 s.lev, .slice AM s.mods.length cM] rS)).alloc (.cells #[.int .i64 1, .int .i64 on, .string nm, .int .i64 kd, .int .i64 ty, .int .i64 lv, .int .i32 nn, .int .i64 md, .bool ou, .slice Ap ps.length cp, .slice Ae es.length ce] oT)).alloc (.cells #[.slice none 0 0, .int .i64 0, .slice none 0 0] rS)).alloc (.cells #[.slice AL s.L.length cL, .int .i64 s.lev, .slice AM s.mods.length cM] rS)) = V at *
  refine PO.out.mono ?_
  rintro e w1 ⟨rfl, hC⟩
  obtain ⟨T1, hp1, hT1, hK1, hO1⟩ := hC
  have Y1 := Lib.hid (hK1.whole X1.out (TV.out.notOwn X1.out (by decide) (by decide) (by decide)))
  have Y2 := Lib.hid (hK1.whole X2.out (TV.out.notOwn X2.out (by decide) (by decide) (by decide)))
  have Y3 := Lib.hid (hK1.whole X3.out (TV.out.notOwn X3.out (by decide) (by decide) (by decide)))
  have Y4 := Lib.hid (hK1.whole X4.out (TV.out.notOwn X4.out (by decide) (by decide) (by decide)))
  have R1 := Lib.hid (TV.out.keepRef hK1 HR.out)
  have C1 := Lib.hid (show ChPost B T w r1 w1 from (show ChPost B T V r1 w1 from ⟨T1, hp1, hT1, hK1, hO1⟩).before BV.out)
  have HB1 := Lib.hid (show B ≤ w1.heap.size from Nat.le_trans HB.out (Nat.le_trans BV.out.size hK1.size))
  have RC := Lib.hid (RO.out w1 R1.out HB1.out)
  clear hp1 hT1 hK1 hO1 PO RO X1 X2 X3 X4 TV HR BV Y2
  have x0 : w1.cell? ⟨w.heap.size, 0, none⟩ = some (.slice AL s.L.length cL) := Y1.out.cell 0
  have x1 : w1.cell? ⟨w.heap.size, 1, none⟩ = some (.int .i64 s.lev) := Y1.out.cell 1
  have x2 : w1.cell? ⟨w.heap.size, 2, none⟩ = some (.slice AM s.mods.length cM) := Y1.out.cell 2
  go_wp2_with fail
  refine RC.out.mono ?_
  rintro e w2 ⟨AL2, cL2, lx2, AM2, cM2, mx2, rfl, hR2, hb2⟩
  have Z3 := Lib.hid (Y3.out.below hb2 Y3.out.lt)
  have Z4 := Lib.hid (Y4.out.below hb2 Y4.out.lt)
  have R2 := Lib.hid hR2
  have C2 := Lib.hid (C1.out.later hb2)
  clear hR2 hb2 Y1 Y3 Y4 R1 C1 RC x0 x1 x2
  have S3 : (Try.prog.info? rS).map (·.size) = some 3 := by kernel_rfl
  have H1 := Lib.hid (show (#[.slice AL2 r1.L.length cL2, .int .i64 r1.lev, .slice AM2 r1.mods.length cM2] : Array Value).all (·.oneCell') = true from by simp [Value.oneCell'])
  simp only []
  go_at_K
  repeat (first | (go_big_may; first | (refine wpList_store_row rfl rS (.tmp 10) (.tmp 36) rfl (w.heap.size + 1 + 1 + 1) #[.slice AL2 r1.L.length cL2, .int .i64 r1.lev, .slice AM2 r1.mods.length cM2] rfl rfl rS #[.slice AL s.L.length cL, .int .i64 s.lev, .slice AM s.mods.length cM] Z4.out S3 rfl H1.out ?_; have SX1 := Lib.hid (Z4.out.setRow #[.slice AL2 r1.L.length cL2, .int .i64 r1.lev, .slice AM2 r1.mods.length cM2]).1; have G1 := Lib.hid (setRow_far (us := #[.slice AL2 r1.L.length cL2, .int .i64 r1.lev, .slice AM2 r1.mods.length cM2]) Z4.out Z3.out (by omega)); generalize hw3 : w2.setRow (w.heap.size + 1 + 1 + 1) #[.slice AL2 r1.L.length cL2, .int .i64 r1.lev, .slice AM2 r1.mods.length cM2] = w3 at *; have Hw3 := Lib.hid hw3; clear hw3; have y0 : w3.cell? ⟨w.heap.size + 1 + 1 + 1, 0, none⟩ = some (.slice AL2 r1.L.length cL2) := SX1.out.cell 0; have y1 : w3.cell? ⟨w.heap.size + 1 + 1 + 1, 1, none⟩ = some (.int .i64 r1.lev) := SX1.out.cell 1; have y2 : w3.cell? ⟨w.heap.size + 1 + 1 + 1, 2, none⟩ = some (.slice AM2 r1.mods.length cM2) := SX1.out.cell 2) | (refine wpList_store_row rfl rS (.tmp 6) (.tmp 102) rfl (w.heap.size + 1 + 1) #[.slice AL2 r1.L.length cL2, .int .i64 r1.lev, .slice AM2 r1.mods.length cM2] rfl rfl rS #[.slice none 0 0, .int .i64 0, .slice none 0 0] G1.out S3 rfl H1.out ?_; generalize hZZ : (w3).setRow (w.heap.size + 1 + 1) #[.slice AL2 r1.L.length cL2, .int .i64 r1.lev, .slice AM2 r1.mods.length cM2] = ZZ; have HZZ := Lib.hid hZZ; clear hZZ)) | go_values | go_skip | go_guarded | go_step | go_upon)
  clear y0 y1 y2 S3 H1
  have K2 := setRow_kept (S := fun k => k = w.heap.size + 1 + 1 ∨ k = w.heap.size + 1 + 1 + 1) (us := #[.slice AL2 r1.L.length cL2, .int .i64 r1.lev, .slice AM2 r1.mods.length cM2]) Z4.out (.inr rfl)
  rw [Hw3.out] at K2
  have K3 := setRow_kept (S := fun k => k = w.heap.size + 1 + 1 ∨ k = w.heap.size + 1 + 1 + 1) (us := #[.slice AL2 r1.L.length cL2, .int .i64 r1.lev, .slice AM2 r1.mods.length cM2]) G1.out (.inl rfl)
  rw [HZZ.out] at K3
  have K := K2.trans K3 (fun _ h => .inl h)
  have hbx := two_boxes (w := w) HB.out Z3.out Z4.out (by omega) (by omega)
  have HF := Lib.hid (show DoPost B T w r1 (.returned (.tuple #[.agg #[.slice AL2 r1.L.length cL2, .int .i64 r1.lev, .slice AM2 r1.mods.length cM2], .bool true])) ZZ from ⟨AL2, cL2, lx2, AM2, cM2, mx2, rfl, R2.out.boxes K hbx.1, C2.out.boxes K hbx.1 hbx.2⟩)
  have SX := (G1.out.setRow #[.slice AL2 r1.L.length cL2, .int .i64 r1.lev, .slice AM2 r1.mods.length cM2]).1
  rw [HZZ.out] at SX
  clear K K2 K3 hbx
  have z0 : ZZ.cell? ⟨w.heap.size + 1 + 1, 0, none⟩ = some (.slice AL2 r1.L.length cL2) := SX.cell 0
  have z1 : ZZ.cell? ⟨w.heap.size + 1 + 1, 1, none⟩ = some (.int .i64 r1.lev) := SX.cell 1
  have z2 : ZZ.cell? ⟨w.heap.size + 1 + 1, 2, none⟩ = some (.slice AM2 r1.mods.length cM2) := SX.cell 2
  refine bodyPost_ret (v := .tuple #[.agg #[.slice AL2 r1.L.length cL2, .int .i64 r1.lev, .slice AM2 r1.mods.length cM2], .bool true]) ?_ rfl HF.out
  clear HF SX
  simp [results, Try.results21, go_sem, z0, z1, z2]
end Go.Proofs.Ytpfoebnlngfebaa
