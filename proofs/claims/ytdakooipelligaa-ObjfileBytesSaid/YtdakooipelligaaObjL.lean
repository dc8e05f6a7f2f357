/- Objfile: the program's readers of what was written: fixups, segments, words; lists of them. -/
import Derived.Test.YtdakooipelligaaObjB
import Derived.Test.YtdakooipelligaaRrF
import Derived.Test.YtdakooipelligaaSymT
import Derived.Test.YtdakooipelligaaRowSet
namespace Go.Proofs.Ytdakooipelligaa
open Go.ChangeShapes Go.WideShapes Go.ChangeAt Go.RowKit
set_option linter.unusedVariables false
set_option linter.unusedSimpArgs false

/-- Bytes that are read. -/
def BOk (zs : List Int) : Prop := Byt zs ∧ zs.length ≤ 100000

theorem BOk.right {a b : List Int} (h : BOk (a ++ b)) : BOk b :=
  ⟨fun z hz => h.1 z (List.mem_append_right _ hz), by have := h.2; rw [List.length_append] at this; omega⟩

theorem BOk.rd {zs : List Int} (h : BOk zs) : RdOk (zs, 0) := ⟨h.1, h.2, fun e => absurd rfl e⟩

/-- A number that is read again. -/
theorem rcnt15_any (n : Int) (most : Nat) (h0 : 0 ≤ n) (h1 : n ≤ most) (hm : most ≤ 100000) (r : List Int) (g D : Nat) (w : World) (h : RdAt w g D (cntI n ++ r) 0) (ok : BOk (cntI n ++ r)) :
    Calls Try.prog 41 #[.pointer (some ⟨g, 0, none⟩), .int .i64 most] w fun e w' => e = .returned (.int .i64 n) ∧ RdAt w' g D r 0 ∧ KeptS (RdS g) w w' := by
  have H := rcount_any most g D _ 0 w h (by have := ok.2; omega) ok.1 (by omega)
  rw [int_again h0 h1 (by omega) r] at H
  refine H.mono fun e w' ⟨a, b, c⟩ => ⟨?_, b, c⟩
  rw [a]
  show Ending.returned (.int .i64 (n.toNat : Int)) = _
  rw [Int.toNat_of_nonneg h0]

/-- A word that is read again. -/
theorem rwd15_any (n : Int) (hn : 0 ≤ n ∧ n ≤ 4294967295) (r : List Int) (g D : Nat) (w : World) (h : RdAt w g D (bytesOf n ++ r) 0) (ok : BOk (bytesOf n ++ r)) :
    Calls Try.prog 32 #[.pointer (some ⟨g, 0, none⟩)] w fun e w' => e = .returned (.int .u32 n) ∧ RdAt w' g D r 0 ∧ KeptS (RdS g) w w' := by
  have H := rword_any g D (bytesOf n ++ r, 0) w h ok.rd
  simp only [word_again hn r] at H
  exact H

/-- In the middle of an element that is read: the Reader at g, the result's box, the element's box. -/
structure ElF (T : TypeId) (zc : Array Value) (w0 w : World) (g D : Nat) (zs : List Int) (cs : Array Value) : Prop where
  R : RdAt w g D zs 0
  K : KeptS (RdS g) w0 w
  Q : Whole w w0.heap.size T zc
  P : Whole w (w0.heap.size + 1) T cs
  lg : g < w0.heap.size
  lD : D < w0.heap.size

section
variable {T : TypeId} {zc : Array Value} {w0 w w' : World} {g D : Nat} {zs zs' : List Int} {cs : Array Value}

theorem ElF.start (h : RdAt w0 g D zs 0) : ElF T zc w0 ((w0.alloc (.cells zc T)).alloc (.cells zc T)) g D zs zc := by
  have b : Below w0.heap.size w0 ((w0.alloc (.cells zc T)).alloc (.cells zc T)) := ((Below.refl w0.heap.size w0).alloc (Nat.le_refl _) _).alloc (by simp) _
  exact ⟨h.below b, KeptS.ofBelow b, (Whole.made w0 T zc _ rfl).alloc _, Whole.made (w0.alloc (.cells zc T)) T zc (w0.heap.size + 1) (by simp), h.lt.1, h.lt.2⟩

theorem ElF.call (h : ElF T zc w0 w g D zs cs) (hr : RdAt w' g D zs' 0) (hk : KeptS (RdS g) w w') : ElF T zc w0 w' g D zs' cs :=
  ⟨hr, h.K.trans hk (fun i hi => .inl hi), hk.whole h.Q (fun hs => by have hs : w0.heap.size = g := hs; have := h.lg; omega), hk.whole h.P (fun hs => by have hs : w0.heap.size + 1 = g := hs; have := h.lg; omega), h.lg, h.lD⟩

theorem ElF.put (h : ElF T zc w0 w g D zs cs) (i : Nat) (u : Value) : ElF T zc w0 (w.setCell ⟨w0.heap.size + 1, i, none⟩ u) g D zs (cs.setIfInBounds i u) :=
  ⟨rdAt_store h.R (by have := h.lg; omega) (by have := h.lD; omega),
    h.K.trans (S' := fun b => b = w0.heap.size + 1) (KeptS.set rfl) (fun i hi => .inr (by omega)),
    h.Q.far (show w0.heap.size ≠ w0.heap.size + 1 by omega) _, h.P.store i u, h.lg, h.lD⟩

theorem ElF.row (h : ElF T zc w0 w g D zs cs) (us : Array Value) : (RdAt (w.setRow w0.heap.size us) g D zs 0 ∧ KeptS (RdS g) w0 (w.setRow w0.heap.size us)) ∧ Whole (w.setRow w0.heap.size us) w0.heap.size T us := by
  have hq := h.Q.setRow us
  have hk : KeptS (fun b => b = w0.heap.size) w (w.setRow w0.heap.size us) := KeptS.grown hq.2 (fun b hb => by injection hb with hb; exact hb.symm)
  exact ⟨⟨h.R.keep hk (by have := h.lg; omega) (by have := h.lD; omega), h.K.trans hk (fun i hi => .inr (by omega))⟩, hq.1⟩
end

theorem dropL15 {α : Type} (l : List α) (d : α) {t : Nat} (h : t < l.length) : l.drop t = l.getD t d :: l.drop (t + 1) := by
  rw [List.drop_eq_getElem_cons h, List.getD_eq_getElem?_getD, List.getElem?_eq_getElem h]
  rfl

/-- What a list that was read leaves. -/
def RlPost {α : Type} (f : α → List Value) (T : TypeId) (k : Nat) (w : World) (g D : Nat) (r : List Int) (l : List α) (e : Ending) (w' : World) : Prop :=
  ∃ v, e = .returned v ∧ w'.ownsRow w.heap.size T k v l.length (l.flatMap f) ∧ RdAt w' g D r 0 ∧ KeptS (RdS g) w w'

theorem fxInfo : (Try.prog.info? fxT).map (fun i => (i.zero, i.size, i.bytes)) = some (some (.agg #[.int .i64 0, .int .i64 0, .int .i64 0, .int .i64 0]), 4, 32) := by kernel_rfl

theorem sgInfo : (Try.prog.info? sgT).map (fun i => (i.zero, i.size, i.bytes)) = some (some (.agg #[.int .i64 0, .int .i64 0]), 2, 16) := by kernel_rfl

theorem u32Info : (Try.prog.info? u32T).map (fun i => (i.zero, i.size, i.bytes)) = some (some (.int .u32 0), 1, 4) := by kernel_rfl

theorem take_snoc15 {α : Type} (l : List α) (d : α) {t : Nat} (h : t < l.length) : l.take (t + 1) = l.take t ++ [l.getD t d] := by
  rw [List.take_add_one, List.getD_eq_getElem?_getD, List.getElem?_eq_getElem h]
  rfl

set_option maxHeartbeats 16000000 in
set_option maxRecDepth 100000 in
theorem rdw15_any (n : Int) (hn : 0 ≤ n ∧ n ≤ 4294967295) (r : List Int) (g D : Nat) (w : World) (h : RdAt w g D (bytesOf n ++ r) 0) (ok : BOk (bytesOf n ++ r)) :
    Calls Try.prog 36 #[.pointer (some ⟨g, 0, none⟩)] w fun e w' => e = .returned (.int .u32 n) ∧ RdAt w' g D r 0 ∧ KeptS (RdS g) w w' := by
  have T := Lib.hid (rwd15_any n hn r g D w h ok)
  clear h ok hn
  go_enter Try.func36, Try.ntmps36
  go_wp2_with fail
  refine T.out.mono ?_
  rintro e w1 ⟨rfl, hr, hk⟩
  have R := Lib.hid hr
  have K := Lib.hid hk
  clear hr hk T
  go_wp2_with fail
  go_ret
  exact ⟨rfl, R.out, K.out⟩

set_option maxHeartbeats 16000000 in
set_option maxRecDepth 100000 in
theorem rfx15_any (pl kd fm vl : Int) (hf : FxRd ⟨pl, kd, fm, vl⟩) (r : List Int) (g D : Nat) (w : World) (h : RdAt w g D (fxB ⟨pl, kd, fm, vl⟩ ++ r) 0) (ok : BOk (fxB ⟨pl, kd, fm, vl⟩ ++ r)) :
    Calls Try.prog 38 #[.pointer (some ⟨g, 0, none⟩)] w fun e w' => e = .returned (.agg #[.int .i64 pl, .int .i64 kd, .int .i64 fm, .int .i64 vl]) ∧ RdAt w' g D r 0 ∧ KeptS (RdS g) w w' := by
  have e0 : fxB ⟨pl, kd, fm, vl⟩ ++ r = cntI pl ++ (cntI kd ++ (cntI fm ++ (cntI vl ++ r))) := by
    show (((cntI pl ++ cntI kd) ++ cntI fm) ++ cntI vl) ++ r = _
    simp only [List.append_assoc]
  rw [e0] at h ok
  obtain ⟨h1, h2, h3, h4⟩ := hf
  simp only at h1 h2 h3 h4
  have F0 := Lib.hid (ElF.start (T := fxT) (zc := #[.int .i64 0, .int .i64 0, .int .i64 0, .int .i64 0]) h)
  have C0 := Lib.hid (fun W (h : RdAt W g D (cntI pl ++ (cntI kd ++ (cntI fm ++ (cntI vl ++ r)))) 0) => rcnt15_any pl 16384 h1.1 (by have := h1.2; omega) (by decide) (cntI kd ++ (cntI fm ++ (cntI vl ++ r))) g D W h ok)
  have C1 := Lib.hid (fun W (h : RdAt W g D (cntI kd ++ (cntI fm ++ (cntI vl ++ r))) 0) => rcnt15_any kd 4 h2.1 (by have := h2.2; omega) (by decide) (cntI fm ++ (cntI vl ++ r)) g D W h ok.right)
  have C2 := Lib.hid (fun W (h : RdAt W g D (cntI fm ++ (cntI vl ++ r)) 0) => rcnt15_any fm 64 h3.1 (by have := h3.2; omega) (by decide) (cntI vl ++ r) g D W h (ok.right.right))
  have C3 := Lib.hid (fun W (h : RdAt W g D (cntI vl ++ r) 0) => rcnt15_any vl 16384 h4.1 (by have := h4.2; omega) (by decide) (r) g D W h ((ok.right.right).right))
  have HZ : (Try.prog.info? fxT).map (·.size) = some 4 := by kernel_rfl
  clear h ok e0
  go_enter Try.func38, Try.ntmps38
  go_wp2_with fail
  generalize hV : (w.alloc (.cells #[.int .i64 0, .int .i64 0, .int .i64 0, .int .i64 0] fxT)).alloc (.cells #[.int .i64 0, .int .i64 0, .int .i64 0, .int .i64 0] fxT) = V at *
  clear hV
  have D0 := Lib.hid (C0.out V F0.out.R)
  refine D0.out.mono ?_
  rintro e w1 ⟨rfl, hr, hk⟩
  have G0 := Lib.hid (F0.out.call hr hk)
  have F1 := Lib.hid (show ElF fxT #[.int .i64 0, .int .i64 0, .int .i64 0, .int .i64 0] w (w1.setCell ⟨w.heap.size + 1, 0, none⟩ (.int .i64 pl)) g D (cntI kd ++ (cntI fm ++ (cntI vl ++ r))) #[.int .i64 pl, .int .i64 0, .int .i64 0, .int .i64 0] from G0.out.put 0 (.int .i64 pl))
  have x0 : w1.cell? ⟨w.heap.size + 1, 0, none⟩ = some (.int .i64 0) := G0.out.P.cell 0
  have f0 : w1.frozen? ⟨w.heap.size + 1, 0, none⟩ = false := G0.out.P.free 0
  clear hr hk F0 D0 C0
  have D1 := Lib.hid (C1.out _ F1.out.R)
  go_wp2_with fail
  clear x0 f0 G0
  generalize w1.setCell ⟨w.heap.size + 1, 0, none⟩ (.int .i64 pl) = V1 at *
  refine D1.out.mono ?_
  rintro e w2 ⟨rfl, hr, hk⟩
  have G1 := Lib.hid (F1.out.call hr hk)
  have F2 := Lib.hid (show ElF fxT #[.int .i64 0, .int .i64 0, .int .i64 0, .int .i64 0] w (w2.setCell ⟨w.heap.size + 1, 1, none⟩ (.int .i64 kd)) g D (cntI fm ++ (cntI vl ++ r)) #[.int .i64 pl, .int .i64 kd, .int .i64 0, .int .i64 0] from G1.out.put 1 (.int .i64 kd))
  have x1 : w2.cell? ⟨w.heap.size + 1, 1, none⟩ = some (.int .i64 0) := G1.out.P.cell 1
  have f1 : w2.frozen? ⟨w.heap.size + 1, 1, none⟩ = false := G1.out.P.free 1
  clear hr hk F1 D1 C1
  have D2 := Lib.hid (C2.out _ F2.out.R)
  go_wp2_with fail
  clear x1 f1 G1
  generalize w2.setCell ⟨w.heap.size + 1, 1, none⟩ (.int .i64 kd) = V2 at *
  refine D2.out.mono ?_
  rintro e w3 ⟨rfl, hr, hk⟩
  have G2 := Lib.hid (F2.out.call hr hk)
  have F3 := Lib.hid (show ElF fxT #[.int .i64 0, .int .i64 0, .int .i64 0, .int .i64 0] w (w3.setCell ⟨w.heap.size + 1, 2, none⟩ (.int .i64 fm)) g D (cntI vl ++ r) #[.int .i64 pl, .int .i64 kd, .int .i64 fm, .int .i64 0] from G2.out.put 2 (.int .i64 fm))
  have x2 : w3.cell? ⟨w.heap.size + 1, 2, none⟩ = some (.int .i64 0) := G2.out.P.cell 2
  have f2 : w3.frozen? ⟨w.heap.size + 1, 2, none⟩ = false := G2.out.P.free 2
  clear hr hk F2 D2 C2
  have D3 := Lib.hid (C3.out _ F3.out.R)
  go_wp2_with fail
  clear x2 f2 G2
  generalize w3.setCell ⟨w.heap.size + 1, 2, none⟩ (.int .i64 fm) = V3 at *
  refine D3.out.mono ?_
  rintro e w4 ⟨rfl, hr, hk⟩
  have G3 := Lib.hid (F3.out.call hr hk)
  have F4 := Lib.hid (show ElF fxT #[.int .i64 0, .int .i64 0, .int .i64 0, .int .i64 0] w (w4.setCell ⟨w.heap.size + 1, 3, none⟩ (.int .i64 vl)) g D (r) #[.int .i64 pl, .int .i64 kd, .int .i64 fm, .int .i64 vl] from G3.out.put 3 (.int .i64 vl))
  have x3 : w4.cell? ⟨w.heap.size + 1, 3, none⟩ = some (.int .i64 0) := G3.out.P.cell 3
  have f3 : w4.frozen? ⟨w.heap.size + 1, 3, none⟩ = false := G3.out.P.free 3
  clear hr hk F3 D3 C3
  have SR := Lib.hid (F4.out.row #[.int .i64 pl, .int .i64 kd, .int .i64 fm, .int .i64 vl])
  have QW := Lib.hid F4.out.Q
  have y0 : (w4.setCell ⟨w.heap.size + 1, 3, none⟩ (.int .i64 vl)).cell? ⟨w.heap.size + 1, 0, none⟩ = some (.int .i64 pl) := F4.out.P.cell 0
  have y1 : (w4.setCell ⟨w.heap.size + 1, 3, none⟩ (.int .i64 vl)).cell? ⟨w.heap.size + 1, 1, none⟩ = some (.int .i64 kd) := F4.out.P.cell 1
  have y2 : (w4.setCell ⟨w.heap.size + 1, 3, none⟩ (.int .i64 vl)).cell? ⟨w.heap.size + 1, 2, none⟩ = some (.int .i64 fm) := F4.out.P.cell 2
  have y3 : (w4.setCell ⟨w.heap.size + 1, 3, none⟩ (.int .i64 vl)).cell? ⟨w.heap.size + 1, 3, none⟩ = some (.int .i64 vl) := F4.out.P.cell 3
  clear F4 G3
  generalize hZ : (w4.setCell ⟨w.heap.size + 1, 3, none⟩ (.int .i64 vl)).setRow w.heap.size #[.int .i64 pl, .int .i64 kd, .int .i64 fm, .int .i64 vl] = ZZ at *
  have HZZ := Lib.hid hZ
  clear hZ
  go_wp2_with (refine wpList_store_row rfl fxT (.tmp 2) (.tmp 16) rfl w.heap.size #[.int .i64 pl, .int .i64 kd, .int .i64 fm, .int .i64 vl] rfl rfl fxT #[.int .i64 0, .int .i64 0, .int .i64 0, .int .i64 0] QW.out HZ rfl (show (#[.int .i64 pl, .int .i64 kd, .int .i64 fm, .int .i64 vl] : Array Value).all (·.oneCell') = true from by simp [Value.oneCell']) ?_; rw [HZZ.out])
  have z0 : ZZ.cell? ⟨w.heap.size, 0, none⟩ = some (.int .i64 pl) := SR.out.2.cell 0
  have z1 : ZZ.cell? ⟨w.heap.size, 1, none⟩ = some (.int .i64 kd) := SR.out.2.cell 1
  have z2 : ZZ.cell? ⟨w.heap.size, 2, none⟩ = some (.int .i64 fm) := SR.out.2.cell 2
  have z3 : ZZ.cell? ⟨w.heap.size, 3, none⟩ = some (.int .i64 vl) := SR.out.2.cell 3
  refine bodyPost_ret (v := .agg #[.int .i64 pl, .int .i64 kd, .int .i64 fm, .int .i64 vl]) ?_ rfl ?_
  · simp [results, Try.results38, go_sem, z0, z1, z2, z3]
  · exact ⟨rfl, SR.out.1.1, SR.out.1.2⟩

set_option maxHeartbeats 16000000 in
set_option maxRecDepth 100000 in
theorem rsg15_any (st pd : Int) (hf : SgRd ⟨st, pd⟩) (r : List Int) (g D : Nat) (w : World) (h : RdAt w g D (sgB ⟨st, pd⟩ ++ r) 0) (ok : BOk (sgB ⟨st, pd⟩ ++ r)) :
    Calls Try.prog 40 #[.pointer (some ⟨g, 0, none⟩)] w fun e w' => e = .returned (.agg #[.int .i64 st, .int .i64 pd]) ∧ RdAt w' g D r 0 ∧ KeptS (RdS g) w w' := by
  have e0 : sgB ⟨st, pd⟩ ++ r = cntI st ++ (cntI (pd + 1) ++ r) := by
    show (cntI st ++ cntI (pd + 1)) ++ r = _
    simp only [List.append_assoc]
  rw [e0] at h ok
  obtain ⟨h1, h2⟩ := hf
  simp only at h1 h2
  have F0 := Lib.hid (ElF.start (T := sgT) (zc := #[.int .i64 0, .int .i64 0]) h)
  have C0 := Lib.hid (fun W (h : RdAt W g D (cntI st ++ (cntI (pd + 1) ++ r)) 0) => rcnt15_any st 16384 h1.1 (by have := h1.2; omega) (by decide) (cntI (pd + 1) ++ r) g D W h ok)
  have C1 := Lib.hid (fun W (h : RdAt W g D (cntI (pd + 1) ++ r) 0) => rcnt15_any (pd + 1) 16384 h2.1 (by have := h2.2; omega) (by decide) (r) g D W h ok.right)
  have HZ : (Try.prog.info? sgT).map (·.size) = some 2 := by kernel_rfl
  clear h ok e0
  go_enter Try.func40, Try.ntmps40
  go_wp2_with fail
  generalize hV : (w.alloc (.cells #[.int .i64 0, .int .i64 0] sgT)).alloc (.cells #[.int .i64 0, .int .i64 0] sgT) = V at *
  clear hV
  have D0 := Lib.hid (C0.out V F0.out.R)
  refine D0.out.mono ?_
  rintro e w1 ⟨rfl, hr, hk⟩
  have G0 := Lib.hid (F0.out.call hr hk)
  have F1 := Lib.hid (show ElF sgT #[.int .i64 0, .int .i64 0] w (w1.setCell ⟨w.heap.size + 1, 0, none⟩ (.int .i64 st)) g D (cntI (pd + 1) ++ r) #[.int .i64 st, .int .i64 0] from G0.out.put 0 (.int .i64 st))
  have x0 : w1.cell? ⟨w.heap.size + 1, 0, none⟩ = some (.int .i64 0) := G0.out.P.cell 0
  have f0 : w1.frozen? ⟨w.heap.size + 1, 0, none⟩ = false := G0.out.P.free 0
  clear hr hk F0 D0 C0
  have D1 := Lib.hid (C1.out _ F1.out.R)
  go_wp2_with fail
  clear x0 f0 G0
  generalize w1.setCell ⟨w.heap.size + 1, 0, none⟩ (.int .i64 st) = V1 at *
  refine D1.out.mono ?_
  rintro e w2 ⟨rfl, hr, hk⟩
  have G1 := Lib.hid (F1.out.call hr hk)
  have F2 := Lib.hid (show ElF sgT #[.int .i64 0, .int .i64 0] w (w2.setCell ⟨w.heap.size + 1, 1, none⟩ (.int .i64 pd)) g D (r) #[.int .i64 st, .int .i64 pd] from G1.out.put 1 (.int .i64 pd))
  have x1 : w2.cell? ⟨w.heap.size + 1, 1, none⟩ = some (.int .i64 0) := G1.out.P.cell 1
  have f1 : w2.frozen? ⟨w.heap.size + 1, 1, none⟩ = false := G1.out.P.free 1
  clear hr hk F1 D1 C1
  have SR := Lib.hid (F2.out.row #[.int .i64 st, .int .i64 pd])
  have QW := Lib.hid F2.out.Q
  have y0 : (w2.setCell ⟨w.heap.size + 1, 1, none⟩ (.int .i64 pd)).cell? ⟨w.heap.size + 1, 0, none⟩ = some (.int .i64 st) := F2.out.P.cell 0
  have y1 : (w2.setCell ⟨w.heap.size + 1, 1, none⟩ (.int .i64 pd)).cell? ⟨w.heap.size + 1, 1, none⟩ = some (.int .i64 pd) := F2.out.P.cell 1
  clear F2 G1
  generalize hZ : (w2.setCell ⟨w.heap.size + 1, 1, none⟩ (.int .i64 pd)).setRow w.heap.size #[.int .i64 st, .int .i64 pd] = ZZ at *
  have HZZ := Lib.hid hZ
  clear hZ
  go_wp2_with (refine wpList_store_row rfl sgT (.tmp 2) (.tmp 11) rfl w.heap.size #[.int .i64 st, .int .i64 pd] rfl rfl sgT #[.int .i64 0, .int .i64 0] QW.out HZ rfl (show (#[.int .i64 st, .int .i64 pd] : Array Value).all (·.oneCell') = true from by simp [Value.oneCell']) ?_; rw [HZZ.out])
  have z0 : ZZ.cell? ⟨w.heap.size, 0, none⟩ = some (.int .i64 st) := SR.out.2.cell 0
  have z1 : ZZ.cell? ⟨w.heap.size, 1, none⟩ = some (.int .i64 pd) := SR.out.2.cell 1
  refine bodyPost_ret (v := .agg #[.int .i64 st, .int .i64 pd]) ?_ rfl ?_
  · simp [results, Try.results40, go_sem, z0, z1]
  · exact ⟨rfl, SR.out.1.1, SR.out.1.2⟩

set_option maxHeartbeats 16000000 in
set_option maxRecDepth 100000 in
theorem rlw15_any (l : List Int) (hl : ∀ x ∈ l, 0 ≤ x ∧ x ≤ 4294967295) (hn : l.length ≤ 16384) (r : List Int) (g D : Nat) (w : World) (h : RdAt w g D (cntI l.length ++ (l.flatMap bytesOf ++ r)) 0) (ok : BOk (cntI l.length ++ (l.flatMap bytesOf ++ r))) :
    Calls Try.prog 35 #[.pointer (some ⟨g, 0, none⟩), .func (.func 36) #[] #[]] w fun e w' => RlPost u32Cells u32T 1 w g D r l e w' := by
  have C0 := Lib.hid (rcnt15_any l.length 16384 (by omega) (by omega) (by decide) (l.flatMap bytesOf ++ r) g D w h ok)
  have OK := Lib.hid ok.right
  have HL := Lib.hid hl
  have H0 := Lib.hid h
  have UL := Lib.hid (show ∀ e w', RlPost u32Cells u32T 1 w g D r l e w' = (∃ v, e = .returned v ∧ w'.ownsRow w.heap.size u32T 1 v l.length (l.flatMap u32Cells) ∧ RdAt w' g D r 0 ∧ KeptS (RdS g) w w') from fun _ _ => rfl)
  obtain ⟨i0, hi0, hz0, hz1, hz2⟩ := info_parts u32Info
  clear h ok hl
  go_enter Try.func35, Try.ntmps35
  go_wp2_with fail
  refine C0.out.mono ?_
  rintro e w1 ⟨rfl, hr, hk⟩
  have F0 := Lib.hid (RrF.start (f := u32Cells) (e := u32T) (sz := 1) hr hk H0.out)
  clear hr hk C0 H0
  go_wp2_with fail
  go_loopw [5, 8] (fun v i wr => ∃ (t : Nat), t ≤ l.length ∧ i = .int .i64 t ∧ BOk ((l.drop t).flatMap bytesOf ++ r) ∧ RrF u32Cells u32T 1 w wr g D ((l.drop t).flatMap bytesOf ++ r) 0 v (l.take t)) (fun _ i _ => l.length - (intOf i).toNat)
  case atStart => exact ⟨0, Nat.zero_le _, rfl, OK.out, F0.out⟩
  case round =>
    clear F0 OK
    obtain ⟨t, ht, rfl, hok, hf⟩ := hrel
    obtain ⟨A0, c0, rfl⟩ := row_form hf.P
    by_cases hlt : t < l.length
    · have hI : (t : Int) < l.length := by omega
      have TK := Lib.hid (take_snoc15 l 0 hlt)
      have PL := Lib.hid (show (l.take t).length = t by rw [List.length_take]; omega)
      have PB := Lib.hid (show (l.take t).length ≤ 16384 by rw [PL.out]; omega)
      have RD := HL.out _ (getD_mem 0 hlt)
      rw [dropL15 l 0 hlt, List.flatMap_cons, List.append_assoc] at hok hf
      generalize l.getD t 0 = x at *
      generalize l.take t = lt at *
      generalize hzs : (l.drop (t + 1)).flatMap bytesOf ++ r = zs at *
      have HZS := Lib.hid hzs
      clear hzs
      have F := Lib.hid hf
      have RE := Lib.hid (rdw15_any x RD zs g D wr F.out.R hok)
      have OK2 := Lib.hid hok.right
      clear hf hok RD
      go_wp2_with fail
      refine RE.out.mono ?_
      rintro e w2 ⟨rfl, hr, hk⟩
      have F2 := Lib.hid (F.out.call hr hk)
      have b3 := (Below.refl w2.heap.size w2).alloc (Nat.le_refl _) (.cells #[.int .u32 x] u32T)
      have F8 := Lib.hid (F2.out.below b3)
      have NC := Lib.hid (show ∀ (j : Nat) u, ([.int .u32 x] : List Value)[j]? = some u → (w2.alloc (.cells #[.int .u32 x] u32T)).cell? ((⟨w2.heap.size, 0, none⟩ : Addr).add j) = some u from fun j u hj => by rw [Go.WideShapes.add_plain, Nat.zero_add]; exact ((Whole.made w2 u32T #[.int .u32 x] w2.heap.size rfl).cell j).trans (by simpa using hj))
      have HBASE := Lib.hid F8.out.K.size
      clear hr hk b3 F RE F2
      go_wp2_with (at_builtin; refine wpList_append_own_at _ rfl _ _ 24 rfl w.heap.size u32T i0 _ 1 4 Try.underlying24 hi0 hz0 hz1 hz2 rfl (by decide) (.slice A0 lt.length c0) lt.length _ rfl F8.out.P ⟨_, 0, none⟩ 1 1 [.int .u32 x] rfl rfl NC.out (fun u hu => by simp at hu; rcases hu with rfl <;> rfl) (by have := PB.out; unfold maxLen; omega) (by have := PB.out; omega) HBASE.out ?_; intro v3 w3 ho3 hg3 _ _; obtain ⟨A3, c3, rfl⟩ := row_form ho3; have F9 := Lib.hid (F8.out.grown (x := x) hg3 ho3); clear ho3 hg3)
      clear NC F8
      refine (rerr_any g D zs 0 _ F9.out.R).mono ?_
      rintro e w4 ⟨rfl, rfl⟩
      go_wp2_with fail
      go_roundw
      case rel => exact ⟨t + 1, by omega, by go_num, by rw [HZS.out]; exact OK2.out, by rw [HZS.out, TK.out]; exact F9.out⟩
      case measure => simp [intOf]; omega
    · have hI : ¬ (t : Int) < l.length := by omega
      obtain rfl : t = l.length := by omega
      rw [List.drop_length, List.flatMap_nil, List.nil_append, List.take_length] at hf
      have F := Lib.hid hf
      clear hf hok
      go_wp2_with fail
      go_ret
      rw [UL.out]
      exact ⟨_, rfl, F.out.P, F.out.R, F.out.K⟩

set_option maxHeartbeats 16000000 in
set_option maxRecDepth 100000 in
theorem rlf15_any (l : List Fx) (hl : ∀ x ∈ l, FxRd x) (hn : l.length ≤ 16384) (r : List Int) (g D : Nat) (w : World) (h : RdAt w g D (cntI l.length ++ (l.flatMap fxB ++ r)) 0) (ok : BOk (cntI l.length ++ (l.flatMap fxB ++ r))) :
    Calls Try.prog 37 #[.pointer (some ⟨g, 0, none⟩), .func (.func 38) #[] #[]] w fun e w' => RlPost fxCells fxT 4 w g D r l e w' := by
  have C0 := Lib.hid (rcnt15_any l.length 16384 (by omega) (by omega) (by decide) (l.flatMap fxB ++ r) g D w h ok)
  have OK := Lib.hid ok.right
  have HL := Lib.hid hl
  have H0 := Lib.hid h
  have UL := Lib.hid (show ∀ e w', RlPost fxCells fxT 4 w g D r l e w' = (∃ v, e = .returned v ∧ w'.ownsRow w.heap.size fxT 4 v l.length (l.flatMap fxCells) ∧ RdAt w' g D r 0 ∧ KeptS (RdS g) w w') from fun _ _ => rfl)
  obtain ⟨i0, hi0, hz0, hz1, hz2⟩ := info_parts fxInfo
  clear h ok hl
  go_enter Try.func37, Try.ntmps37
  go_wp2_with fail
  refine C0.out.mono ?_
  rintro e w1 ⟨rfl, hr, hk⟩
  have F0 := Lib.hid (RrF.start (f := fxCells) (e := fxT) (sz := 4) hr hk H0.out)
  clear hr hk C0 H0
  go_wp2_with fail
  go_loopw [5, 8] (fun v i wr => ∃ (t : Nat), t ≤ l.length ∧ i = .int .i64 t ∧ BOk ((l.drop t).flatMap fxB ++ r) ∧ RrF fxCells fxT 4 w wr g D ((l.drop t).flatMap fxB ++ r) 0 v (l.take t)) (fun _ i _ => l.length - (intOf i).toNat)
  case atStart => exact ⟨0, Nat.zero_le _, rfl, OK.out, F0.out⟩
  case round =>
    clear F0 OK
    obtain ⟨t, ht, rfl, hok, hf⟩ := hrel
    obtain ⟨A0, c0, rfl⟩ := row_form hf.P
    by_cases hlt : t < l.length
    · have hI : (t : Int) < l.length := by omega
      have TK := Lib.hid (take_snoc15 l zFx hlt)
      have PL := Lib.hid (show (l.take t).length = t by rw [List.length_take]; omega)
      have PB := Lib.hid (show (l.take t).length ≤ 16384 by rw [PL.out]; omega)
      have RD := HL.out _ (getD_mem zFx hlt)
      rw [dropL15 l zFx hlt, List.flatMap_cons, List.append_assoc] at hok hf
      generalize l.getD t zFx = x at *
      generalize l.take t = lt at *
      generalize hzs : (l.drop (t + 1)).flatMap fxB ++ r = zs at *
      have HZS := Lib.hid hzs
      clear hzs
      obtain ⟨pl, kd, fm, vl⟩ := x
      have F := Lib.hid hf
      have RE := Lib.hid (rfx15_any pl kd fm vl RD zs g D wr F.out.R hok)
      have OK2 := Lib.hid hok.right
      clear hf hok RD
      go_wp2_with fail
      refine RE.out.mono ?_
      rintro e w2 ⟨rfl, hr, hk⟩
      have F2 := Lib.hid (F.out.call hr hk)
      have b3 := (Below.refl w2.heap.size w2).alloc (Nat.le_refl _) (.cells #[.int .i64 pl, .int .i64 kd, .int .i64 fm, .int .i64 vl] fxT)
      have F8 := Lib.hid (F2.out.below b3)
      have NC := Lib.hid (show ∀ (j : Nat) u, ([.int .i64 pl, .int .i64 kd, .int .i64 fm, .int .i64 vl] : List Value)[j]? = some u → (w2.alloc (.cells #[.int .i64 pl, .int .i64 kd, .int .i64 fm, .int .i64 vl] fxT)).cell? ((⟨w2.heap.size, 0, none⟩ : Addr).add j) = some u from fun j u hj => by rw [Go.WideShapes.add_plain, Nat.zero_add]; exact ((Whole.made w2 fxT #[.int .i64 pl, .int .i64 kd, .int .i64 fm, .int .i64 vl] w2.heap.size rfl).cell j).trans (by simpa using hj))
      have HBASE := Lib.hid F8.out.K.size
      clear hr hk b3 F RE F2
      go_wp2_with (at_builtin; refine wpList_append_own_at _ rfl _ _ 25 rfl w.heap.size fxT i0 _ 4 32 Try.underlying25 hi0 hz0 hz1 hz2 rfl (by decide) (.slice A0 lt.length c0) lt.length _ rfl F8.out.P ⟨_, 0, none⟩ 1 1 [.int .i64 pl, .int .i64 kd, .int .i64 fm, .int .i64 vl] rfl rfl NC.out (fun u hu => by simp at hu; rcases hu with rfl | rfl | rfl | rfl <;> rfl) (by have := PB.out; unfold maxLen; omega) (by have := PB.out; omega) HBASE.out ?_; intro v3 w3 ho3 hg3 _ _; obtain ⟨A3, c3, rfl⟩ := row_form ho3; have F9 := Lib.hid (F8.out.grown (x := ⟨pl, kd, fm, vl⟩) hg3 ho3); clear ho3 hg3)
      clear NC F8
      refine (rerr_any g D zs 0 _ F9.out.R).mono ?_
      rintro e w4 ⟨rfl, rfl⟩
      go_wp2_with fail
      go_roundw
      case rel => exact ⟨t + 1, by omega, by go_num, by rw [HZS.out]; exact OK2.out, by rw [HZS.out, TK.out]; exact F9.out⟩
      case measure => simp [intOf]; omega
    · have hI : ¬ (t : Int) < l.length := by omega
      obtain rfl : t = l.length := by omega
      rw [List.drop_length, List.flatMap_nil, List.nil_append, List.take_length] at hf
      have F := Lib.hid hf
      clear hf hok
      go_wp2_with fail
      go_ret
      rw [UL.out]
      exact ⟨_, rfl, F.out.P, F.out.R, F.out.K⟩

set_option maxHeartbeats 16000000 in
set_option maxRecDepth 100000 in
theorem rls15_any (l : List Sg) (hl : ∀ x ∈ l, SgRd x) (hn : l.length ≤ 16384) (r : List Int) (g D : Nat) (w : World) (h : RdAt w g D (cntI l.length ++ (l.flatMap sgB ++ r)) 0) (ok : BOk (cntI l.length ++ (l.flatMap sgB ++ r))) :
    Calls Try.prog 39 #[.pointer (some ⟨g, 0, none⟩), .func (.func 40) #[] #[]] w fun e w' => RlPost sgCells sgT 2 w g D r l e w' := by
  have C0 := Lib.hid (rcnt15_any l.length 16384 (by omega) (by omega) (by decide) (l.flatMap sgB ++ r) g D w h ok)
  have OK := Lib.hid ok.right
  have HL := Lib.hid hl
  have H0 := Lib.hid h
  have UL := Lib.hid (show ∀ e w', RlPost sgCells sgT 2 w g D r l e w' = (∃ v, e = .returned v ∧ w'.ownsRow w.heap.size sgT 2 v l.length (l.flatMap sgCells) ∧ RdAt w' g D r 0 ∧ KeptS (RdS g) w w') from fun _ _ => rfl)
  obtain ⟨i0, hi0, hz0, hz1, hz2⟩ := info_parts sgInfo
  clear h ok hl
  go_enter Try.func39, Try.ntmps39
  go_wp2_with fail
  refine C0.out.mono ?_
  rintro e w1 ⟨rfl, hr, hk⟩
  have F0 := Lib.hid (RrF.start (f := sgCells) (e := sgT) (sz := 2) hr hk H0.out)
  clear hr hk C0 H0
  go_wp2_with fail
  go_loopw [5, 8] (fun v i wr => ∃ (t : Nat), t ≤ l.length ∧ i = .int .i64 t ∧ BOk ((l.drop t).flatMap sgB ++ r) ∧ RrF sgCells sgT 2 w wr g D ((l.drop t).flatMap sgB ++ r) 0 v (l.take t)) (fun _ i _ => l.length - (intOf i).toNat)
  case atStart => exact ⟨0, Nat.zero_le _, rfl, OK.out, F0.out⟩
  case round =>
    clear F0 OK
    obtain ⟨t, ht, rfl, hok, hf⟩ := hrel
    obtain ⟨A0, c0, rfl⟩ := row_form hf.P
    by_cases hlt : t < l.length
    · have hI : (t : Int) < l.length := by omega
      have TK := Lib.hid (take_snoc15 l zSg hlt)
      have PL := Lib.hid (show (l.take t).length = t by rw [List.length_take]; omega)
      have PB := Lib.hid (show (l.take t).length ≤ 16384 by rw [PL.out]; omega)
      have RD := HL.out _ (getD_mem zSg hlt)
      rw [dropL15 l zSg hlt, List.flatMap_cons, List.append_assoc] at hok hf
      generalize l.getD t zSg = x at *
      generalize l.take t = lt at *
      generalize hzs : (l.drop (t + 1)).flatMap sgB ++ r = zs at *
      have HZS := Lib.hid hzs
      clear hzs
      obtain ⟨st, pd⟩ := x
      have F := Lib.hid hf
      have RE := Lib.hid (rsg15_any st pd RD zs g D wr F.out.R hok)
      have OK2 := Lib.hid hok.right
      clear hf hok RD
      go_wp2_with fail
      refine RE.out.mono ?_
      rintro e w2 ⟨rfl, hr, hk⟩
      have F2 := Lib.hid (F.out.call hr hk)
      have b3 := (Below.refl w2.heap.size w2).alloc (Nat.le_refl _) (.cells #[.int .i64 st, .int .i64 pd] sgT)
      have F8 := Lib.hid (F2.out.below b3)
      have NC := Lib.hid (show ∀ (j : Nat) u, ([.int .i64 st, .int .i64 pd] : List Value)[j]? = some u → (w2.alloc (.cells #[.int .i64 st, .int .i64 pd] sgT)).cell? ((⟨w2.heap.size, 0, none⟩ : Addr).add j) = some u from fun j u hj => by rw [Go.WideShapes.add_plain, Nat.zero_add]; exact ((Whole.made w2 sgT #[.int .i64 st, .int .i64 pd] w2.heap.size rfl).cell j).trans (by simpa using hj))
      have HBASE := Lib.hid F8.out.K.size
      clear hr hk b3 F RE F2
      go_wp2_with (at_builtin; refine wpList_append_own_at _ rfl _ _ 26 rfl w.heap.size sgT i0 _ 2 16 Try.underlying26 hi0 hz0 hz1 hz2 rfl (by decide) (.slice A0 lt.length c0) lt.length _ rfl F8.out.P ⟨_, 0, none⟩ 1 1 [.int .i64 st, .int .i64 pd] rfl rfl NC.out (fun u hu => by simp at hu; rcases hu with rfl | rfl <;> rfl) (by have := PB.out; unfold maxLen; omega) (by have := PB.out; omega) HBASE.out ?_; intro v3 w3 ho3 hg3 _ _; obtain ⟨A3, c3, rfl⟩ := row_form ho3; have F9 := Lib.hid (F8.out.grown (x := ⟨st, pd⟩) hg3 ho3); clear ho3 hg3)
      clear NC F8
      refine (rerr_any g D zs 0 _ F9.out.R).mono ?_
      rintro e w4 ⟨rfl, rfl⟩
      go_wp2_with fail
      go_roundw
      case rel => exact ⟨t + 1, by omega, by go_num, by rw [HZS.out]; exact OK2.out, by rw [HZS.out, TK.out]; exact F9.out⟩
      case measure => simp [intOf]; omega
    · have hI : ¬ (t : Int) < l.length := by omega
      obtain rfl : t = l.length := by omega
      rw [List.drop_length, List.flatMap_nil, List.nil_append, List.take_length] at hf
      have F := Lib.hid hf
      clear hf hok
      go_wp2_with fail
      go_ret
      rw [UL.out]
      exact ⟨_, rfl, F.out.P, F.out.R, F.out.K⟩
end Go.Proofs.Ytdakooipelligaa
