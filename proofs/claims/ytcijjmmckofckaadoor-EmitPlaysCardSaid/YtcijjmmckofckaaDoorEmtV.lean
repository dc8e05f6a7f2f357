/- Emit: the law's writes. -/
import Derived.Test.YtcijjmmckofckaaDoorEmtT
import Derived.Test.YtcijjmmckofckaaDoorEmtH
namespace Go.Proofs.YtcijjmmckofckaaDoor
open Go.ChangeShapes Go.WideShapes Go.ChangeAt Go.RowKit
set_option linter.unusedVariables false
set_option linter.unusedSimpArgs false

abbrev opT : TypeId := 60

/-- The boxes of a function of the law. -/
structure Lx3 (w W : World) (t0 t1 t2 : TypeId) (d0 d1 d2 : Array Value) : Prop where
  x0 : Whole W (w.heap.size) t0 d0
  x1 : Whole W (w.heap.size + 1) t1 d1
  x2 : Whole W (w.heap.size + 1 + 1) t2 d2

theorem Lx3.later {w W W' : World} {t0 t1 t2 : TypeId} {d0 d1 d2 : Array Value} {S : Nat → Prop} (h : Lx3 w W t0 t1 t2 d0 d1 d2) (K : KeptS S W W') (hS : ∀ b, S b → ¬ (w.heap.size ≤ b ∧ b < w.heap.size + 3)) : Lx3 w W' t0 t1 t2 d0 d1 d2 :=
  ⟨K.whole h.x0 (fun e => hS _ e (by omega)), K.whole h.x1 (fun e => hS _ e (by omega)), K.whole h.x2 (fun e => hS _ e (by omega))⟩

theorem Lx3.row0 {w W : World} {t0 t1 t2 : TypeId} {d0 d1 d2 : Array Value} (h : Lx3 w W t0 t1 t2 d0 d1 d2) (us : Array Value) : Lx3 w (W.setRow (w.heap.size) us) t0 t1 t2 us d1 d2 :=
  ⟨(h.x0.setRow us).1, ((h.x0.setRow us).2.block _ h.x1.lt (fun e => by injection e with e; omega)).trans h.x1, ((h.x0.setRow us).2.block _ h.x2.lt (fun e => by injection e with e; omega)).trans h.x2⟩

theorem Lx3.kept0 {w W : World} {t0 t1 t2 : TypeId} {d0 d1 d2 : Array Value} (h : Lx3 w W t0 t1 t2 d0 d1 d2) (us : Array Value) : KeptS (fun b => w.heap.size ≤ b ∧ b < w.heap.size + 3) W (W.setRow (w.heap.size) us) :=
  KeptS.grown (h.x0.setRow us).2 (fun b hb => by injection hb with hb; omega)

theorem Lx3.row2 {w W : World} {t0 t1 t2 : TypeId} {d0 d1 d2 : Array Value} (h : Lx3 w W t0 t1 t2 d0 d1 d2) (us : Array Value) : Lx3 w (W.setRow (w.heap.size + 1 + 1) us) t0 t1 t2 d0 d1 us :=
  ⟨((h.x2.setRow us).2.block _ h.x0.lt (fun e => by injection e with e; omega)).trans h.x0, ((h.x2.setRow us).2.block _ h.x1.lt (fun e => by injection e with e; omega)).trans h.x1, (h.x2.setRow us).1⟩

theorem Lx3.kept2 {w W : World} {t0 t1 t2 : TypeId} {d0 d1 d2 : Array Value} (h : Lx3 w W t0 t1 t2 d0 d1 d2) (us : Array Value) : KeptS (fun b => w.heap.size ≤ b ∧ b < w.heap.size + 3) W (W.setRow (w.heap.size + 1 + 1) us) :=
  KeptS.grown (h.x2.setRow us).2 (fun b hb => by injection hb with hb; omega)

theorem Lx3.set0 {w W : World} {t0 t1 t2 : TypeId} {d0 d1 d2 : Array Value} (h : Lx3 w W t0 t1 t2 d0 d1 d2) (n : Nat) (u : Value) : Lx3 w (W.setCell ⟨w.heap.size, n, none⟩ u) t0 t1 t2 (d0.setIfInBounds n u) d1 d2 :=
  ⟨h.x0.store n u, h.x1.far (p := ⟨w.heap.size, n, none⟩) (by show w.heap.size + 1 ≠ w.heap.size; omega) u, h.x2.far (p := ⟨w.heap.size, n, none⟩) (by show w.heap.size + 1 + 1 ≠ w.heap.size; omega) u⟩

/-- What a call at both leaves: the same at both. -/
def DoP (B g : Nat) (T : Nat → Prop) (N : Nat) (w : World) (m : Em) (e : Ending) (w' : World) : Prop :=
  ∃ T' AL cL AG cG AF cF AP cP AA cA gl pl al, e = .returned (.agg #[.slice AL m.L.length cL, .slice AG gl.length cG, .slice AF m.fx.length cF, .slice AP pl.length cP, .slice AA al.length cA, .int .i64 m.dep, .int .i64 m.most, .int .i64 m.err]) ∧ CdAt w' B g T' N m ∧ RfR w' T' N m AL cL AG cG AF cF AP cP AA cA gl pl al ∧ KeptS T w w' ∧ ∀ b, T' b → T b ∨ w.heap.size ≤ b

set_option maxHeartbeats 16000000 in
set_option maxRecDepth 100000 in
theorem wr_put (oi : Ins) (on oa ob oc : Int) (hi : I64I oi) (hon : I64 on) (hoc : I64 oc) (ha1 : -1000 ≤ oa) (ha2 : oa ≤ 1000) (hb1 : -1000000 ≤ ob) (hb2 : ob ≤ 1000000) (B g : Nat) (T : Nat → Prop) (N : Nat) (m : Em) (AL : Option Addr) (cL : Nat) (AG : Option Addr) (cG : Nat) (AF : Option Addr) (cF : Nat) (AP : Option Addr) (cP : Nat) (AA : Option Addr) (cA : Nat) (gl pl al : List Int) (w : World) (hC : CdAt w B g T N m) (hR : RfR w T N m AL cL AG cG AF cF AP cP AA cA gl pl al) (hN : N + 2 ≤ 100000) :
    Calls Tryd.prog 23 #[.pointer (some ⟨g, 0, none⟩), .agg #[.slice AL m.L.length cL, .slice AG gl.length cG, .slice AF m.fx.length cF, .slice AP pl.length cP, .slice AA al.length cA, .int .i64 m.dep, .int .i64 m.most, .int .i64 m.err], .agg #[.int .i64 0, .int .i64 oi.op, .int .i64 oi.a, .int .i64 oi.b, .int .i64 oi.c, .int .i64 oi.n, .int .i64 on, .int .i64 oa, .int .i64 ob, .int .i64 oc]] w (DoP B g T (N + 2) w (putE m oi)) := by
  have b1 := (Below.refl w.heap.size w).alloc (Nat.le_refl _) (.cells #[.slice AL m.L.length cL, .slice AG gl.length cG, .slice AF m.fx.length cF, .slice AP pl.length cP, .slice AA al.length cA, .int .i64 m.dep, .int .i64 m.most, .int .i64 m.err] rfT)
  have b2 := b1.alloc b1.size (.cells #[.int .i64 0, .int .i64 oi.op, .int .i64 oi.a, .int .i64 oi.b, .int .i64 oi.c, .int .i64 oi.n, .int .i64 on, .int .i64 oa, .int .i64 ob, .int .i64 oc] opT)
  have b3 := b2.alloc b2.size (.cells #[.slice none 0 0, .slice none 0 0, .slice none 0 0, .slice none 0 0, .slice none 0 0, .int .i64 0, .int .i64 0, .int .i64 0] rfT)
  have LX := Lib.hid (show Lx3 w (((w.alloc (.cells #[.slice AL m.L.length cL, .slice AG gl.length cG, .slice AF m.fx.length cF, .slice AP pl.length cP, .slice AA al.length cA, .int .i64 m.dep, .int .i64 m.most, .int .i64 m.err] rfT)).alloc (.cells #[.int .i64 0, .int .i64 oi.op, .int .i64 oi.a, .int .i64 oi.b, .int .i64 oi.c, .int .i64 oi.n, .int .i64 on, .int .i64 oa, .int .i64 ob, .int .i64 oc] opT)).alloc (.cells #[.slice none 0 0, .slice none 0 0, .slice none 0 0, .slice none 0 0, .slice none 0 0, .int .i64 0, .int .i64 0, .int .i64 0] rfT)) rfT opT rfT #[.slice AL m.L.length cL, .slice AG gl.length cG, .slice AF m.fx.length cF, .slice AP pl.length cP, .slice AA al.length cA, .int .i64 m.dep, .int .i64 m.most, .int .i64 m.err] #[.int .i64 0, .int .i64 oi.op, .int .i64 oi.a, .int .i64 oi.b, .int .i64 oi.c, .int .i64 oi.n, .int .i64 on, .int .i64 oa, .int .i64 ob, .int .i64 oc] #[.slice none 0 0, .slice none 0 0, .slice none 0 0, .slice none 0 0, .slice none 0 0, .int .i64 0, .int .i64 0, .int .i64 0] from ⟨((Whole.made w rfT #[.slice AL m.L.length cL, .slice AG gl.length cG, .slice AF m.fx.length cF, .slice AP pl.length cP, .slice AA al.length cA, .int .i64 m.dep, .int .i64 m.most, .int .i64 m.err] _ rfl).alloc _).alloc _, (Whole.made (w.alloc (.cells #[.slice AL m.L.length cL, .slice AG gl.length cG, .slice AF m.fx.length cF, .slice AP pl.length cP, .slice AA al.length cA, .int .i64 m.dep, .int .i64 m.most, .int .i64 m.err] rfT)) opT #[.int .i64 0, .int .i64 oi.op, .int .i64 oi.a, .int .i64 oi.b, .int .i64 oi.c, .int .i64 oi.n, .int .i64 on, .int .i64 oa, .int .i64 ob, .int .i64 oc] _ (by simp)).alloc _, Whole.made ((w.alloc (.cells #[.slice AL m.L.length cL, .slice AG gl.length cG, .slice AF m.fx.length cF, .slice AP pl.length cP, .slice AA al.length cA, .int .i64 m.dep, .int .i64 m.most, .int .i64 m.err] rfT)).alloc (.cells #[.int .i64 0, .int .i64 oi.op, .int .i64 oi.a, .int .i64 oi.b, .int .i64 oi.c, .int .i64 oi.n, .int .i64 on, .int .i64 oa, .int .i64 ob, .int .i64 oc] opT)) rfT #[.slice none 0 0, .slice none 0 0, .slice none 0 0, .slice none 0 0, .slice none 0 0, .int .i64 0, .int .i64 0, .int .i64 0] _ (by simp)⟩)
  have HR := Lib.hid ((hR.boxed 3).below b3)
  have HC := Lib.hid (hC.below b3)
  have BV := Lib.hid b3
  have HN := Lib.hid hN
  have TW := Lib.hid (show ∀ b, T b → b < w.heap.size from by
    obtain ⟨_, _, _, _, _, _, _, _, h0⟩ := hC
    exact fun b hb => (h0.frm b hb).2)
  have BG := Lib.hid (show B ≤ g ∧ g < w.heap.size from by
    obtain ⟨_, _, _, _, _, _, _, _, h0⟩ := hC
    exact h0.frm g h0.tg)
  have S8 : (Tryd.prog.info? rfT).map (·.size) = some 8 := by kernel_rfl
  clear hC hR b1 b2 b3
  obtain ⟨o0, o1, o2, o3, o4, o5, o6, o7, o8, o9⟩ := cells10 LX.out.x1
  have PC := Lib.hid (put_any oi hi B g T N m (((w.alloc (.cells #[.slice AL m.L.length cL, .slice AG gl.length cG, .slice AF m.fx.length cF, .slice AP pl.length cP, .slice AA al.length cA, .int .i64 m.dep, .int .i64 m.most, .int .i64 m.err] rfT)).alloc (.cells #[.int .i64 0, .int .i64 oi.op, .int .i64 oi.a, .int .i64 oi.b, .int .i64 oi.c, .int .i64 oi.n, .int .i64 on, .int .i64 oa, .int .i64 ob, .int .i64 oc] opT)).alloc (.cells #[.slice none 0 0, .slice none 0 0, .slice none 0 0, .slice none 0 0, .slice none 0 0, .int .i64 0, .int .i64 0, .int .i64 0] rfT)) HC.out (by have := HN.out; omega))
  have RX := Lib.hid (fun (T1 : Nat → Prop) w1 (hr : RfR w1 (fun b => T1 b ∨ (w.heap.size ≤ b ∧ b < w.heap.size + 3)) N m AL cL AG cG AF cF AP cP AA cA gl pl al) (ht : ∀ b, (fun b => T1 b ∨ (w.heap.size ≤ b ∧ b < w.heap.size + 3)) b → b < w1.heap.size) => refput_any oi (fun b => T1 b ∨ (w.heap.size ≤ b ∧ b < w.heap.size + 3)) N m AL cL AG cG AF cF AP cP AA cA gl pl al w1 hr ht (by have := HN.out; omega))
  try unfold instrV at PC
  clear hi hon hoc
  generalize putE m oi = m1 at *
  go_enter Tryd.func23, Tryd.ntmps23
  go_wp2_with fail
  generalize (((w.alloc (.cells #[.slice AL m.L.length cL, .slice AG gl.length cG, .slice AF m.fx.length cF, .slice AP pl.length cP, .slice AA al.length cA, .int .i64 m.dep, .int .i64 m.most, .int .i64 m.err] rfT)).alloc (.cells #[.int .i64 0, .int .i64 oi.op, .int .i64 oi.a, .int .i64 oi.b, .int .i64 oi.c, .int .i64 oi.n, .int .i64 on, .int .i64 oa, .int .i64 ob, .int .i64 oc] opT)).alloc (.cells #[.slice none 0 0, .slice none 0 0, .slice none 0 0, .slice none 0 0, .slice none 0 0, .int .i64 0, .int .i64 0, .int .i64 0] rfT)) = V at *
  refine PC.out.mono ?_
  rintro e w1 ⟨rfl, T1, hc, hk, ht⟩
  have KP := Lib.hid ((show KeptS T w V from KeptS.ofBelow BV.out).trans hk (fun b hb => .inl hb))
  have O1 := Lib.hid (show ∀ b, T1 b → T b ∨ w.heap.size ≤ b from fun b hb => by
    rcases ht b hb with h | h
    · exact .inl h
    · exact .inr (Nat.le_trans BV.out.size h))
  have NB := Lib.hid (show ∀ b, (w.heap.size ≤ b ∧ b < w.heap.size + 3) → ¬ T1 b from fun b hb h => by
    have h3 := LX.out.x2.lt
    rcases ht b h with h | h
    · have := TW.out b h
      omega
    · omega)
  have LX := Lib.hid (LX.out.later hk (fun b hb h => by have := TW.out b hb; omega))
  have C1 := Lib.hid hc
  have HR := Lib.hid (HR.out.kept (T' := (fun b => T1 b ∨ (w.heap.size ≤ b ∧ b < w.heap.size + 3))) (hk.mono (fun b hb => .inl hb)) (fun b hb => by
    rcases hb with hb | hb
    · rcases ht b hb with h | h
      · exact .inl (.inl h)
      · exact .inr h
    · exact .inl (.inr hb)))
  have HT := Lib.hid (show ∀ b, (fun b => T1 b ∨ (w.heap.size ≤ b ∧ b < w.heap.size + 3)) b → b < w1.heap.size from fun b hb => by
    have h3 := LX.out.x2.lt
    rcases hb with hb | hb
    · obtain ⟨_, _, _, _, _, _, _, _, h0⟩ := hc
      exact (h0.frm b hb).2
    · omega)
  clear hc hk ht PC o0 o1 o2 o3 o4 o5 o6 o7 o8 o9 HC
  obtain ⟨o0, o1, o2, o3, o4, o5, o6, o7, o8, o9⟩ := cells10 LX.out.x1
  obtain ⟨a0, a1, a2, a3, a4, a5, a6, a7⟩ := cells8 LX.out.x0
  have RF := Lib.hid (RX.out T1 w1 HR.out HT.out)
  clear RX HT
  go_wp2_with fail
  refine RF.out.mono ?_
  rintro e y ⟨AL1, cL1, AG1, cG1, AF1, cF1, AP1, cP1, AA1, cA1, gl1, pl1, al1, rfl, hr1, hb1⟩
  have LX := Lib.hid (LX.out.later (S := fun _ => False) (KeptS.ofBelow hb1) (fun _ h => h.elim))
  have RE := Lib.hid hr1
  have C1 := Lib.hid (C1.out.below hb1)
  have KP := Lib.hid (KP.out.trans (S' := fun _ => False) (KeptS.ofBelow hb1) (fun _ h => h.elim))
  have H1 := Lib.hid (show (#[.slice AL1 m1.L.length cL1, .slice AG1 gl1.length cG1, .slice AF1 m1.fx.length cF1, .slice AP1 pl1.length cP1, .slice AA1 al1.length cA1, .int .i64 m1.dep, .int .i64 m1.most, .int .i64 m1.err] : Array Value).all (·.oneCell') = true from by simp [Value.oneCell'])
  clear hr1 hb1 RF HR a0 a1 a2 a3 a4 a5 a6 a7 o0 o1 o2 o3 o4 o5 o6 o7 o8 o9
  simp only []
  go_at_K
  repeat (first | (go_big_may; first | (refine wpList_store_row rfl rfT (.tmp 6) (.tmp 33) rfl (w.heap.size + 1 + 1) #[.slice AL1 m1.L.length cL1, .slice AG1 gl1.length cG1, .slice AF1 m1.fx.length cF1, .slice AP1 pl1.length cP1, .slice AA1 al1.length cA1, .int .i64 m1.dep, .int .i64 m1.most, .int .i64 m1.err] rfl rfl rfT #[.slice none 0 0, .slice none 0 0, .slice none 0 0, .slice none 0 0, .slice none 0 0, .int .i64 0, .int .i64 0, .int .i64 0] LX.out.x2 S8 rfl H1.out ?_; generalize hZZ : (y).setRow (w.heap.size + 1 + 1) #[.slice AL1 m1.L.length cL1, .slice AG1 gl1.length cG1, .slice AF1 m1.fx.length cF1, .slice AP1 pl1.length cP1, .slice AA1 al1.length cA1, .int .i64 m1.dep, .int .i64 m1.most, .int .i64 m1.err] = ZZ; have HZZ := Lib.hid hZZ; clear hZZ)) | go_values | go_skip | go_guarded | go_step | go_upon)
  have KZ := LX.out.kept2 #[.slice AL1 m1.L.length cL1, .slice AG1 gl1.length cG1, .slice AF1 m1.fx.length cF1, .slice AP1 pl1.length cP1, .slice AA1 al1.length cA1, .int .i64 m1.dep, .int .i64 m1.most, .int .i64 m1.err]
  have LZ := LX.out.row2 #[.slice AL1 m1.L.length cL1, .slice AG1 gl1.length cG1, .slice AF1 m1.fx.length cF1, .slice AP1 pl1.length cP1, .slice AA1 al1.length cA1, .int .i64 m1.dep, .int .i64 m1.most, .int .i64 m1.err]
  rw [HZZ.out] at KZ LZ
  have CZ := Lib.hid (C1.out.later KZ (fun b hb => NB.out b hb) (fun b hb => by have := BG.out; omega))
  have RZ := Lib.hid (RE.out.later KZ (fun b hb => .inr hb))
  have KF := Lib.hid (KP.out.trans KZ (fun b hb => .inr hb.1))
  obtain ⟨z0, z1, z2, z3, z4, z5, z6, z7⟩ := cells8 LZ.x2
  clear KZ LZ
  refine bodyPost_ret (v := .agg #[.slice AL1 m1.L.length cL1, .slice AG1 gl1.length cG1, .slice AF1 m1.fx.length cF1, .slice AP1 pl1.length cP1, .slice AA1 al1.length cA1, .int .i64 m1.dep, .int .i64 m1.most, .int .i64 m1.err]) ?_ rfl ⟨T1, AL1, cL1, AG1, cG1, AF1, cF1, AP1, cP1, AA1, cA1, gl1, pl1, al1, rfl, CZ.out.more (show N ≤ N + 2 by omega) (Nat.le_refl _), (RZ.out.less (fun b hb => .inl hb)).more (show N ≤ N + 2 by omega), KF.out, O1.out⟩
  simp [results, Tryd.results23, go_sem, z0, z1, z2, z3, z4, z5, z6, z7]

set_option maxHeartbeats 16000000 in
set_option maxRecDepth 100000 in
theorem wr_number (oi : Ins) (on oa ob oc : Int) (hi : I64I oi) (hon : I64 on) (hoc : I64 oc) (ha1 : -1000 ≤ oa) (ha2 : oa ≤ 1000) (hb1 : -1000000 ≤ ob) (hb2 : ob ≤ 1000000) (B g : Nat) (T : Nat → Prop) (N : Nat) (m : Em) (AL : Option Addr) (cL : Nat) (AG : Option Addr) (cG : Nat) (AF : Option Addr) (cF : Nat) (AP : Option Addr) (cP : Nat) (AA : Option Addr) (cA : Nat) (gl pl al : List Int) (w : World) (hC : CdAt w B g T N m) (hR : RfR w T N m AL cL AG cG AF cF AP cP AA cA gl pl al) (hN : N + 2 ≤ 100000) :
    Calls Tryd.prog 23 #[.pointer (some ⟨g, 0, none⟩), .agg #[.slice AL m.L.length cL, .slice AG gl.length cG, .slice AF m.fx.length cF, .slice AP pl.length cP, .slice AA al.length cA, .int .i64 m.dep, .int .i64 m.most, .int .i64 m.err], .agg #[.int .i64 1, .int .i64 oi.op, .int .i64 oi.a, .int .i64 oi.b, .int .i64 oi.c, .int .i64 oi.n, .int .i64 on, .int .i64 oa, .int .i64 ob, .int .i64 oc]] w (DoP B g T (N + 2) w (numE m oa (wrap32 on))) := by
  have b1 := (Below.refl w.heap.size w).alloc (Nat.le_refl _) (.cells #[.slice AL m.L.length cL, .slice AG gl.length cG, .slice AF m.fx.length cF, .slice AP pl.length cP, .slice AA al.length cA, .int .i64 m.dep, .int .i64 m.most, .int .i64 m.err] rfT)
  have b2 := b1.alloc b1.size (.cells #[.int .i64 1, .int .i64 oi.op, .int .i64 oi.a, .int .i64 oi.b, .int .i64 oi.c, .int .i64 oi.n, .int .i64 on, .int .i64 oa, .int .i64 ob, .int .i64 oc] opT)
  have b3 := b2.alloc b2.size (.cells #[.slice none 0 0, .slice none 0 0, .slice none 0 0, .slice none 0 0, .slice none 0 0, .int .i64 0, .int .i64 0, .int .i64 0] rfT)
  have LX := Lib.hid (show Lx3 w (((w.alloc (.cells #[.slice AL m.L.length cL, .slice AG gl.length cG, .slice AF m.fx.length cF, .slice AP pl.length cP, .slice AA al.length cA, .int .i64 m.dep, .int .i64 m.most, .int .i64 m.err] rfT)).alloc (.cells #[.int .i64 1, .int .i64 oi.op, .int .i64 oi.a, .int .i64 oi.b, .int .i64 oi.c, .int .i64 oi.n, .int .i64 on, .int .i64 oa, .int .i64 ob, .int .i64 oc] opT)).alloc (.cells #[.slice none 0 0, .slice none 0 0, .slice none 0 0, .slice none 0 0, .slice none 0 0, .int .i64 0, .int .i64 0, .int .i64 0] rfT)) rfT opT rfT #[.slice AL m.L.length cL, .slice AG gl.length cG, .slice AF m.fx.length cF, .slice AP pl.length cP, .slice AA al.length cA, .int .i64 m.dep, .int .i64 m.most, .int .i64 m.err] #[.int .i64 1, .int .i64 oi.op, .int .i64 oi.a, .int .i64 oi.b, .int .i64 oi.c, .int .i64 oi.n, .int .i64 on, .int .i64 oa, .int .i64 ob, .int .i64 oc] #[.slice none 0 0, .slice none 0 0, .slice none 0 0, .slice none 0 0, .slice none 0 0, .int .i64 0, .int .i64 0, .int .i64 0] from ⟨((Whole.made w rfT #[.slice AL m.L.length cL, .slice AG gl.length cG, .slice AF m.fx.length cF, .slice AP pl.length cP, .slice AA al.length cA, .int .i64 m.dep, .int .i64 m.most, .int .i64 m.err] _ rfl).alloc _).alloc _, (Whole.made (w.alloc (.cells #[.slice AL m.L.length cL, .slice AG gl.length cG, .slice AF m.fx.length cF, .slice AP pl.length cP, .slice AA al.length cA, .int .i64 m.dep, .int .i64 m.most, .int .i64 m.err] rfT)) opT #[.int .i64 1, .int .i64 oi.op, .int .i64 oi.a, .int .i64 oi.b, .int .i64 oi.c, .int .i64 oi.n, .int .i64 on, .int .i64 oa, .int .i64 ob, .int .i64 oc] _ (by simp)).alloc _, Whole.made ((w.alloc (.cells #[.slice AL m.L.length cL, .slice AG gl.length cG, .slice AF m.fx.length cF, .slice AP pl.length cP, .slice AA al.length cA, .int .i64 m.dep, .int .i64 m.most, .int .i64 m.err] rfT)).alloc (.cells #[.int .i64 1, .int .i64 oi.op, .int .i64 oi.a, .int .i64 oi.b, .int .i64 oi.c, .int .i64 oi.n, .int .i64 on, .int .i64 oa, .int .i64 ob, .int .i64 oc] opT)) rfT #[.slice none 0 0, .slice none 0 0, .slice none 0 0, .slice none 0 0, .slice none 0 0, .int .i64 0, .int .i64 0, .int .i64 0] _ (by simp)⟩)
  have HR := Lib.hid ((hR.boxed 3).below b3)
  have HC := Lib.hid (hC.below b3)
  have BV := Lib.hid b3
  have HN := Lib.hid hN
  have TW := Lib.hid (show ∀ b, T b → b < w.heap.size from by
    obtain ⟨_, _, _, _, _, _, _, _, h0⟩ := hC
    exact fun b hb => (h0.frm b hb).2)
  have BG := Lib.hid (show B ≤ g ∧ g < w.heap.size from by
    obtain ⟨_, _, _, _, _, _, _, _, h0⟩ := hC
    exact h0.frm g h0.tg)
  have S8 : (Tryd.prog.info? rfT).map (·.size) = some 8 := by kernel_rfl
  clear hC hR b1 b2 b3
  obtain ⟨o0, o1, o2, o3, o4, o5, o6, o7, o8, o9⟩ := cells10 LX.out.x1
  have PC := Lib.hid (enumber_any oa (wrap32 on) (show I64 (oa) from by unfold I64; omega) (by unfold wrap32; omega) (by unfold wrap32; omega) B g T N m (((w.alloc (.cells #[.slice AL m.L.length cL, .slice AG gl.length cG, .slice AF m.fx.length cF, .slice AP pl.length cP, .slice AA al.length cA, .int .i64 m.dep, .int .i64 m.most, .int .i64 m.err] rfT)).alloc (.cells #[.int .i64 1, .int .i64 oi.op, .int .i64 oi.a, .int .i64 oi.b, .int .i64 oi.c, .int .i64 oi.n, .int .i64 on, .int .i64 oa, .int .i64 ob, .int .i64 oc] opT)).alloc (.cells #[.slice none 0 0, .slice none 0 0, .slice none 0 0, .slice none 0 0, .slice none 0 0, .int .i64 0, .int .i64 0, .int .i64 0] rfT)) HC.out (by have := HN.out; omega))
  have RX := Lib.hid (fun (T1 : Nat → Prop) w1 (hr : RfR w1 (fun b => T1 b ∨ (w.heap.size ≤ b ∧ b < w.heap.size + 3)) N m AL cL AG cG AF cF AP cP AA cA gl pl al) (ht : ∀ b, (fun b => T1 b ∨ (w.heap.size ≤ b ∧ b < w.heap.size + 3)) b → b < w1.heap.size) => refnumber_any oa (wrap32 on) (by unfold wrap32; omega) (by unfold wrap32; omega) (fun b => T1 b ∨ (w.heap.size ≤ b ∧ b < w.heap.size + 3)) N m AL cL AG cG AF cF AP cP AA cA gl pl al w1 hr ht (by have := HN.out; omega))
  try unfold instrV at PC
  clear hi hon hoc
  generalize numE m oa (wrap32 on) = m1 at *
  go_enter Tryd.func23, Tryd.ntmps23
  go_wp2_with fail
  generalize (((w.alloc (.cells #[.slice AL m.L.length cL, .slice AG gl.length cG, .slice AF m.fx.length cF, .slice AP pl.length cP, .slice AA al.length cA, .int .i64 m.dep, .int .i64 m.most, .int .i64 m.err] rfT)).alloc (.cells #[.int .i64 1, .int .i64 oi.op, .int .i64 oi.a, .int .i64 oi.b, .int .i64 oi.c, .int .i64 oi.n, .int .i64 on, .int .i64 oa, .int .i64 ob, .int .i64 oc] opT)).alloc (.cells #[.slice none 0 0, .slice none 0 0, .slice none 0 0, .slice none 0 0, .slice none 0 0, .int .i64 0, .int .i64 0, .int .i64 0] rfT)) = V at *
  refine PC.out.mono ?_
  rintro e w1 ⟨rfl, T1, hc, hk, ht⟩
  have KP := Lib.hid ((show KeptS T w V from KeptS.ofBelow BV.out).trans hk (fun b hb => .inl hb))
  have O1 := Lib.hid (show ∀ b, T1 b → T b ∨ w.heap.size ≤ b from fun b hb => by
    rcases ht b hb with h | h
    · exact .inl h
    · exact .inr (Nat.le_trans BV.out.size h))
  have NB := Lib.hid (show ∀ b, (w.heap.size ≤ b ∧ b < w.heap.size + 3) → ¬ T1 b from fun b hb h => by
    have h3 := LX.out.x2.lt
    rcases ht b h with h | h
    · have := TW.out b h
      omega
    · omega)
  have LX := Lib.hid (LX.out.later hk (fun b hb h => by have := TW.out b hb; omega))
  have C1 := Lib.hid hc
  have HR := Lib.hid (HR.out.kept (T' := (fun b => T1 b ∨ (w.heap.size ≤ b ∧ b < w.heap.size + 3))) (hk.mono (fun b hb => .inl hb)) (fun b hb => by
    rcases hb with hb | hb
    · rcases ht b hb with h | h
      · exact .inl (.inl h)
      · exact .inr h
    · exact .inl (.inr hb)))
  have HT := Lib.hid (show ∀ b, (fun b => T1 b ∨ (w.heap.size ≤ b ∧ b < w.heap.size + 3)) b → b < w1.heap.size from fun b hb => by
    have h3 := LX.out.x2.lt
    rcases hb with hb | hb
    · obtain ⟨_, _, _, _, _, _, _, _, h0⟩ := hc
      exact (h0.frm b hb).2
    · omega)
  clear hc hk ht PC o0 o1 o2 o3 o4 o5 o6 o7 o8 o9 HC
  obtain ⟨o0, o1, o2, o3, o4, o5, o6, o7, o8, o9⟩ := cells10 LX.out.x1
  obtain ⟨a0, a1, a2, a3, a4, a5, a6, a7⟩ := cells8 LX.out.x0
  have RF := Lib.hid (RX.out T1 w1 HR.out HT.out)
  clear RX HT
  go_wp2_with fail
  refine RF.out.mono ?_
  rintro e y ⟨AL1, cL1, AG1, cG1, AF1, cF1, AP1, cP1, AA1, cA1, gl1, pl1, al1, rfl, hr1, hb1⟩
  have LX := Lib.hid (LX.out.later (S := fun _ => False) (KeptS.ofBelow hb1) (fun _ h => h.elim))
  have RE := Lib.hid hr1
  have C1 := Lib.hid (C1.out.below hb1)
  have KP := Lib.hid (KP.out.trans (S' := fun _ => False) (KeptS.ofBelow hb1) (fun _ h => h.elim))
  have H1 := Lib.hid (show (#[.slice AL1 m1.L.length cL1, .slice AG1 gl1.length cG1, .slice AF1 m1.fx.length cF1, .slice AP1 pl1.length cP1, .slice AA1 al1.length cA1, .int .i64 m1.dep, .int .i64 m1.most, .int .i64 m1.err] : Array Value).all (·.oneCell') = true from by simp [Value.oneCell'])
  clear hr1 hb1 RF HR a0 a1 a2 a3 a4 a5 a6 a7 o0 o1 o2 o3 o4 o5 o6 o7 o8 o9
  simp only []
  go_at_K
  repeat (first | (go_big_may; first | (refine wpList_store_row rfl rfT (.tmp 6) (.tmp 49) rfl (w.heap.size + 1 + 1) #[.slice AL1 m1.L.length cL1, .slice AG1 gl1.length cG1, .slice AF1 m1.fx.length cF1, .slice AP1 pl1.length cP1, .slice AA1 al1.length cA1, .int .i64 m1.dep, .int .i64 m1.most, .int .i64 m1.err] rfl rfl rfT #[.slice none 0 0, .slice none 0 0, .slice none 0 0, .slice none 0 0, .slice none 0 0, .int .i64 0, .int .i64 0, .int .i64 0] LX.out.x2 S8 rfl H1.out ?_; generalize hZZ : (y).setRow (w.heap.size + 1 + 1) #[.slice AL1 m1.L.length cL1, .slice AG1 gl1.length cG1, .slice AF1 m1.fx.length cF1, .slice AP1 pl1.length cP1, .slice AA1 al1.length cA1, .int .i64 m1.dep, .int .i64 m1.most, .int .i64 m1.err] = ZZ; have HZZ := Lib.hid hZZ; clear hZZ)) | go_values | go_skip | go_guarded | go_step | go_upon)
  have KZ := LX.out.kept2 #[.slice AL1 m1.L.length cL1, .slice AG1 gl1.length cG1, .slice AF1 m1.fx.length cF1, .slice AP1 pl1.length cP1, .slice AA1 al1.length cA1, .int .i64 m1.dep, .int .i64 m1.most, .int .i64 m1.err]
  have LZ := LX.out.row2 #[.slice AL1 m1.L.length cL1, .slice AG1 gl1.length cG1, .slice AF1 m1.fx.length cF1, .slice AP1 pl1.length cP1, .slice AA1 al1.length cA1, .int .i64 m1.dep, .int .i64 m1.most, .int .i64 m1.err]
  rw [HZZ.out] at KZ LZ
  have CZ := Lib.hid (C1.out.later KZ (fun b hb => NB.out b hb) (fun b hb => by have := BG.out; omega))
  have RZ := Lib.hid (RE.out.later KZ (fun b hb => .inr hb))
  have KF := Lib.hid (KP.out.trans KZ (fun b hb => .inr hb.1))
  obtain ⟨z0, z1, z2, z3, z4, z5, z6, z7⟩ := cells8 LZ.x2
  clear KZ LZ
  refine bodyPost_ret (v := .agg #[.slice AL1 m1.L.length cL1, .slice AG1 gl1.length cG1, .slice AF1 m1.fx.length cF1, .slice AP1 pl1.length cP1, .slice AA1 al1.length cA1, .int .i64 m1.dep, .int .i64 m1.most, .int .i64 m1.err]) ?_ rfl ⟨T1, AL1, cL1, AG1, cG1, AF1, cF1, AP1, cP1, AA1, cA1, gl1, pl1, al1, rfl, CZ.out.more (show N ≤ N + 2 by omega) (Nat.le_refl _), (RZ.out.less (fun b hb => .inl hb)).more (show N ≤ N + 2 by omega), KF.out, O1.out⟩
  simp [results, Tryd.results23, go_sem, z0, z1, z2, z3, z4, z5, z6, z7]

set_option maxHeartbeats 16000000 in
set_option maxRecDepth 100000 in
theorem wr_jump (oi : Ins) (on oa ob oc : Int) (hi : I64I oi) (hon : I64 on) (hoc : I64 oc) (ha1 : -1000 ≤ oa) (ha2 : oa ≤ 1000) (hb1 : -1000000 ≤ ob) (hb2 : ob ≤ 1000000) (B g : Nat) (T : Nat → Prop) (N : Nat) (m : Em) (AL : Option Addr) (cL : Nat) (AG : Option Addr) (cG : Nat) (AF : Option Addr) (cF : Nat) (AP : Option Addr) (cP : Nat) (AA : Option Addr) (cA : Nat) (gl pl al : List Int) (w : World) (hC : CdAt w B g T N m) (hR : RfR w T N m AL cL AG cG AF cF AP cP AA cA gl pl al) (hN : N + 2 ≤ 100000) :
    Calls Tryd.prog 23 #[.pointer (some ⟨g, 0, none⟩), .agg #[.slice AL m.L.length cL, .slice AG gl.length cG, .slice AF m.fx.length cF, .slice AP pl.length cP, .slice AA al.length cA, .int .i64 m.dep, .int .i64 m.most, .int .i64 m.err], .agg #[.int .i64 2, .int .i64 oi.op, .int .i64 oi.a, .int .i64 oi.b, .int .i64 oi.c, .int .i64 oi.n, .int .i64 on, .int .i64 oa, .int .i64 ob, .int .i64 oc]] w (DoP B g T (N + 2) w (putE m ⟨22, 0, 0, 0, 0⟩)) := by
  have b1 := (Below.refl w.heap.size w).alloc (Nat.le_refl _) (.cells #[.slice AL m.L.length cL, .slice AG gl.length cG, .slice AF m.fx.length cF, .slice AP pl.length cP, .slice AA al.length cA, .int .i64 m.dep, .int .i64 m.most, .int .i64 m.err] rfT)
  have b2 := b1.alloc b1.size (.cells #[.int .i64 2, .int .i64 oi.op, .int .i64 oi.a, .int .i64 oi.b, .int .i64 oi.c, .int .i64 oi.n, .int .i64 on, .int .i64 oa, .int .i64 ob, .int .i64 oc] opT)
  have b3 := b2.alloc b2.size (.cells #[.slice none 0 0, .slice none 0 0, .slice none 0 0, .slice none 0 0, .slice none 0 0, .int .i64 0, .int .i64 0, .int .i64 0] rfT)
  have LX := Lib.hid (show Lx3 w (((w.alloc (.cells #[.slice AL m.L.length cL, .slice AG gl.length cG, .slice AF m.fx.length cF, .slice AP pl.length cP, .slice AA al.length cA, .int .i64 m.dep, .int .i64 m.most, .int .i64 m.err] rfT)).alloc (.cells #[.int .i64 2, .int .i64 oi.op, .int .i64 oi.a, .int .i64 oi.b, .int .i64 oi.c, .int .i64 oi.n, .int .i64 on, .int .i64 oa, .int .i64 ob, .int .i64 oc] opT)).alloc (.cells #[.slice none 0 0, .slice none 0 0, .slice none 0 0, .slice none 0 0, .slice none 0 0, .int .i64 0, .int .i64 0, .int .i64 0] rfT)) rfT opT rfT #[.slice AL m.L.length cL, .slice AG gl.length cG, .slice AF m.fx.length cF, .slice AP pl.length cP, .slice AA al.length cA, .int .i64 m.dep, .int .i64 m.most, .int .i64 m.err] #[.int .i64 2, .int .i64 oi.op, .int .i64 oi.a, .int .i64 oi.b, .int .i64 oi.c, .int .i64 oi.n, .int .i64 on, .int .i64 oa, .int .i64 ob, .int .i64 oc] #[.slice none 0 0, .slice none 0 0, .slice none 0 0, .slice none 0 0, .slice none 0 0, .int .i64 0, .int .i64 0, .int .i64 0] from ⟨((Whole.made w rfT #[.slice AL m.L.length cL, .slice AG gl.length cG, .slice AF m.fx.length cF, .slice AP pl.length cP, .slice AA al.length cA, .int .i64 m.dep, .int .i64 m.most, .int .i64 m.err] _ rfl).alloc _).alloc _, (Whole.made (w.alloc (.cells #[.slice AL m.L.length cL, .slice AG gl.length cG, .slice AF m.fx.length cF, .slice AP pl.length cP, .slice AA al.length cA, .int .i64 m.dep, .int .i64 m.most, .int .i64 m.err] rfT)) opT #[.int .i64 2, .int .i64 oi.op, .int .i64 oi.a, .int .i64 oi.b, .int .i64 oi.c, .int .i64 oi.n, .int .i64 on, .int .i64 oa, .int .i64 ob, .int .i64 oc] _ (by simp)).alloc _, Whole.made ((w.alloc (.cells #[.slice AL m.L.length cL, .slice AG gl.length cG, .slice AF m.fx.length cF, .slice AP pl.length cP, .slice AA al.length cA, .int .i64 m.dep, .int .i64 m.most, .int .i64 m.err] rfT)).alloc (.cells #[.int .i64 2, .int .i64 oi.op, .int .i64 oi.a, .int .i64 oi.b, .int .i64 oi.c, .int .i64 oi.n, .int .i64 on, .int .i64 oa, .int .i64 ob, .int .i64 oc] opT)) rfT #[.slice none 0 0, .slice none 0 0, .slice none 0 0, .slice none 0 0, .slice none 0 0, .int .i64 0, .int .i64 0, .int .i64 0] _ (by simp)⟩)
  have HR := Lib.hid ((hR.boxed 3).below b3)
  have HC := Lib.hid (hC.below b3)
  have BV := Lib.hid b3
  have HN := Lib.hid hN
  have TW := Lib.hid (show ∀ b, T b → b < w.heap.size from by
    obtain ⟨_, _, _, _, _, _, _, _, h0⟩ := hC
    exact fun b hb => (h0.frm b hb).2)
  have BG := Lib.hid (show B ≤ g ∧ g < w.heap.size from by
    obtain ⟨_, _, _, _, _, _, _, _, h0⟩ := hC
    exact h0.frm g h0.tg)
  have S8 : (Tryd.prog.info? rfT).map (·.size) = some 8 := by kernel_rfl
  clear hC hR b1 b2 b3
  obtain ⟨o0, o1, o2, o3, o4, o5, o6, o7, o8, o9⟩ := cells10 LX.out.x1
  have PC := Lib.hid (jump_any 22 0 (show I64 (22) from by unfold I64; omega) (show I64 (0) from by unfold I64; omega) B g T N m (((w.alloc (.cells #[.slice AL m.L.length cL, .slice AG gl.length cG, .slice AF m.fx.length cF, .slice AP pl.length cP, .slice AA al.length cA, .int .i64 m.dep, .int .i64 m.most, .int .i64 m.err] rfT)).alloc (.cells #[.int .i64 2, .int .i64 oi.op, .int .i64 oi.a, .int .i64 oi.b, .int .i64 oi.c, .int .i64 oi.n, .int .i64 on, .int .i64 oa, .int .i64 ob, .int .i64 oc] opT)).alloc (.cells #[.slice none 0 0, .slice none 0 0, .slice none 0 0, .slice none 0 0, .slice none 0 0, .int .i64 0, .int .i64 0, .int .i64 0] rfT)) HC.out (by have := HN.out; omega))
  have RX := Lib.hid (fun (T1 : Nat → Prop) w1 (hr : RfR w1 (fun b => T1 b ∨ (w.heap.size ≤ b ∧ b < w.heap.size + 3)) N m AL cL AG cG AF cF AP cP AA cA gl pl al) (ht : ∀ b, (fun b => T1 b ∨ (w.heap.size ≤ b ∧ b < w.heap.size + 3)) b → b < w1.heap.size) => refput_any ⟨22, 0, 0, 0, 0⟩ (fun b => T1 b ∨ (w.heap.size ≤ b ∧ b < w.heap.size + 3)) N m AL cL AG cG AF cF AP cP AA cA gl pl al w1 hr ht (by have := HN.out; omega))
  try unfold instrV at PC
  clear hi hon hoc
  generalize putE m ⟨22, 0, 0, 0, 0⟩ = m1 at *
  go_enter Tryd.func23, Tryd.ntmps23
  go_wp2_with fail
  generalize (((w.alloc (.cells #[.slice AL m.L.length cL, .slice AG gl.length cG, .slice AF m.fx.length cF, .slice AP pl.length cP, .slice AA al.length cA, .int .i64 m.dep, .int .i64 m.most, .int .i64 m.err] rfT)).alloc (.cells #[.int .i64 2, .int .i64 oi.op, .int .i64 oi.a, .int .i64 oi.b, .int .i64 oi.c, .int .i64 oi.n, .int .i64 on, .int .i64 oa, .int .i64 ob, .int .i64 oc] opT)).alloc (.cells #[.slice none 0 0, .slice none 0 0, .slice none 0 0, .slice none 0 0, .slice none 0 0, .int .i64 0, .int .i64 0, .int .i64 0] rfT)) = V at *
  refine PC.out.mono ?_
  rintro e w1 ⟨rfl, T1, hc, hk, ht⟩
  have KP := Lib.hid ((show KeptS T w V from KeptS.ofBelow BV.out).trans hk (fun b hb => .inl hb))
  have O1 := Lib.hid (show ∀ b, T1 b → T b ∨ w.heap.size ≤ b from fun b hb => by
    rcases ht b hb with h | h
    · exact .inl h
    · exact .inr (Nat.le_trans BV.out.size h))
  have NB := Lib.hid (show ∀ b, (w.heap.size ≤ b ∧ b < w.heap.size + 3) → ¬ T1 b from fun b hb h => by
    have h3 := LX.out.x2.lt
    rcases ht b h with h | h
    · have := TW.out b h
      omega
    · omega)
  have LX := Lib.hid (LX.out.later hk (fun b hb h => by have := TW.out b hb; omega))
  have C1 := Lib.hid hc
  have HR := Lib.hid (HR.out.kept (T' := (fun b => T1 b ∨ (w.heap.size ≤ b ∧ b < w.heap.size + 3))) (hk.mono (fun b hb => .inl hb)) (fun b hb => by
    rcases hb with hb | hb
    · rcases ht b hb with h | h
      · exact .inl (.inl h)
      · exact .inr h
    · exact .inl (.inr hb)))
  have HT := Lib.hid (show ∀ b, (fun b => T1 b ∨ (w.heap.size ≤ b ∧ b < w.heap.size + 3)) b → b < w1.heap.size from fun b hb => by
    have h3 := LX.out.x2.lt
    rcases hb with hb | hb
    · obtain ⟨_, _, _, _, _, _, _, _, h0⟩ := hc
      exact (h0.frm b hb).2
    · omega)
  clear hc hk ht PC o0 o1 o2 o3 o4 o5 o6 o7 o8 o9 HC
  obtain ⟨o0, o1, o2, o3, o4, o5, o6, o7, o8, o9⟩ := cells10 LX.out.x1
  obtain ⟨a0, a1, a2, a3, a4, a5, a6, a7⟩ := cells8 LX.out.x0
  have RF := Lib.hid (RX.out T1 w1 HR.out HT.out)
  clear RX HT
  go_wp2_with fail
  refine RF.out.mono ?_
  rintro e y ⟨AL1, cL1, AG1, cG1, AF1, cF1, AP1, cP1, AA1, cA1, gl1, pl1, al1, rfl, hr1, hb1⟩
  have LX := Lib.hid (LX.out.later (S := fun _ => False) (KeptS.ofBelow hb1) (fun _ h => h.elim))
  have RE := Lib.hid hr1
  have C1 := Lib.hid (C1.out.below hb1)
  have KP := Lib.hid (KP.out.trans (S' := fun _ => False) (KeptS.ofBelow hb1) (fun _ h => h.elim))
  have H1 := Lib.hid (show (#[.slice AL1 m1.L.length cL1, .slice AG1 gl1.length cG1, .slice AF1 m1.fx.length cF1, .slice AP1 pl1.length cP1, .slice AA1 al1.length cA1, .int .i64 m1.dep, .int .i64 m1.most, .int .i64 m1.err] : Array Value).all (·.oneCell') = true from by simp [Value.oneCell'])
  clear hr1 hb1 RF HR a0 a1 a2 a3 a4 a5 a6 a7 o0 o1 o2 o3 o4 o5 o6 o7 o8 o9
  simp only []
  go_at_K
  repeat (first | (go_big_may; first | (refine wpList_store_row rfl rfT (.tmp 6) (.tmp 56) rfl (w.heap.size + 1 + 1) #[.slice AL1 m1.L.length cL1, .slice AG1 gl1.length cG1, .slice AF1 m1.fx.length cF1, .slice AP1 pl1.length cP1, .slice AA1 al1.length cA1, .int .i64 m1.dep, .int .i64 m1.most, .int .i64 m1.err] rfl rfl rfT #[.slice none 0 0, .slice none 0 0, .slice none 0 0, .slice none 0 0, .slice none 0 0, .int .i64 0, .int .i64 0, .int .i64 0] LX.out.x2 S8 rfl H1.out ?_; generalize hZZ : (y).setRow (w.heap.size + 1 + 1) #[.slice AL1 m1.L.length cL1, .slice AG1 gl1.length cG1, .slice AF1 m1.fx.length cF1, .slice AP1 pl1.length cP1, .slice AA1 al1.length cA1, .int .i64 m1.dep, .int .i64 m1.most, .int .i64 m1.err] = ZZ; have HZZ := Lib.hid hZZ; clear hZZ)) | go_values | go_skip | go_guarded | go_step | go_upon)
  have KZ := LX.out.kept2 #[.slice AL1 m1.L.length cL1, .slice AG1 gl1.length cG1, .slice AF1 m1.fx.length cF1, .slice AP1 pl1.length cP1, .slice AA1 al1.length cA1, .int .i64 m1.dep, .int .i64 m1.most, .int .i64 m1.err]
  have LZ := LX.out.row2 #[.slice AL1 m1.L.length cL1, .slice AG1 gl1.length cG1, .slice AF1 m1.fx.length cF1, .slice AP1 pl1.length cP1, .slice AA1 al1.length cA1, .int .i64 m1.dep, .int .i64 m1.most, .int .i64 m1.err]
  rw [HZZ.out] at KZ LZ
  have CZ := Lib.hid (C1.out.later KZ (fun b hb => NB.out b hb) (fun b hb => by have := BG.out; omega))
  have RZ := Lib.hid (RE.out.later KZ (fun b hb => .inr hb))
  have KF := Lib.hid (KP.out.trans KZ (fun b hb => .inr hb.1))
  obtain ⟨z0, z1, z2, z3, z4, z5, z6, z7⟩ := cells8 LZ.x2
  clear KZ LZ
  refine bodyPost_ret (v := .agg #[.slice AL1 m1.L.length cL1, .slice AG1 gl1.length cG1, .slice AF1 m1.fx.length cF1, .slice AP1 pl1.length cP1, .slice AA1 al1.length cA1, .int .i64 m1.dep, .int .i64 m1.most, .int .i64 m1.err]) ?_ rfl ⟨T1, AL1, cL1, AG1, cG1, AF1, cF1, AP1, cP1, AA1, cA1, gl1, pl1, al1, rfl, CZ.out.more (show N ≤ N + 2 by omega) (Nat.le_refl _), (RZ.out.less (fun b hb => .inl hb)).more (show N ≤ N + 2 by omega), KF.out, O1.out⟩
  simp [results, Tryd.results23, go_sem, z0, z1, z2, z3, z4, z5, z6, z7]

set_option maxHeartbeats 16000000 in
set_option maxRecDepth 100000 in
theorem wr_fix (oi : Ins) (on oa ob oc : Int) (hi : I64I oi) (hon : I64 on) (hoc : I64 oc) (ha1 : -1000 ≤ oa) (ha2 : oa ≤ 1000) (hb1 : -1000000 ≤ ob) (hb2 : ob ≤ 1000000) (B g : Nat) (T : Nat → Prop) (N : Nat) (m : Em) (AL : Option Addr) (cL : Nat) (AG : Option Addr) (cG : Nat) (AF : Option Addr) (cF : Nat) (AP : Option Addr) (cP : Nat) (AA : Option Addr) (cA : Nat) (gl pl al : List Int) (w : World) (hC : CdAt w B g T N m) (hR : RfR w T N m AL cL AG cG AF cF AP cP AA cA gl pl al) (hN : N + 2 ≤ 100000) :
    Calls Tryd.prog 23 #[.pointer (some ⟨g, 0, none⟩), .agg #[.slice AL m.L.length cL, .slice AG gl.length cG, .slice AF m.fx.length cF, .slice AP pl.length cP, .slice AA al.length cA, .int .i64 m.dep, .int .i64 m.most, .int .i64 m.err], .agg #[.int .i64 6, .int .i64 oi.op, .int .i64 oi.a, .int .i64 oi.b, .int .i64 oi.c, .int .i64 oi.n, .int .i64 on, .int .i64 oa, .int .i64 ob, .int .i64 oc]] w (DoP B g T (N + 2) w (fixE m on oa ob oc)) := by
  have b1 := (Below.refl w.heap.size w).alloc (Nat.le_refl _) (.cells #[.slice AL m.L.length cL, .slice AG gl.length cG, .slice AF m.fx.length cF, .slice AP pl.length cP, .slice AA al.length cA, .int .i64 m.dep, .int .i64 m.most, .int .i64 m.err] rfT)
  have b2 := b1.alloc b1.size (.cells #[.int .i64 6, .int .i64 oi.op, .int .i64 oi.a, .int .i64 oi.b, .int .i64 oi.c, .int .i64 oi.n, .int .i64 on, .int .i64 oa, .int .i64 ob, .int .i64 oc] opT)
  have b3 := b2.alloc b2.size (.cells #[.slice none 0 0, .slice none 0 0, .slice none 0 0, .slice none 0 0, .slice none 0 0, .int .i64 0, .int .i64 0, .int .i64 0] rfT)
  have LX := Lib.hid (show Lx3 w (((w.alloc (.cells #[.slice AL m.L.length cL, .slice AG gl.length cG, .slice AF m.fx.length cF, .slice AP pl.length cP, .slice AA al.length cA, .int .i64 m.dep, .int .i64 m.most, .int .i64 m.err] rfT)).alloc (.cells #[.int .i64 6, .int .i64 oi.op, .int .i64 oi.a, .int .i64 oi.b, .int .i64 oi.c, .int .i64 oi.n, .int .i64 on, .int .i64 oa, .int .i64 ob, .int .i64 oc] opT)).alloc (.cells #[.slice none 0 0, .slice none 0 0, .slice none 0 0, .slice none 0 0, .slice none 0 0, .int .i64 0, .int .i64 0, .int .i64 0] rfT)) rfT opT rfT #[.slice AL m.L.length cL, .slice AG gl.length cG, .slice AF m.fx.length cF, .slice AP pl.length cP, .slice AA al.length cA, .int .i64 m.dep, .int .i64 m.most, .int .i64 m.err] #[.int .i64 6, .int .i64 oi.op, .int .i64 oi.a, .int .i64 oi.b, .int .i64 oi.c, .int .i64 oi.n, .int .i64 on, .int .i64 oa, .int .i64 ob, .int .i64 oc] #[.slice none 0 0, .slice none 0 0, .slice none 0 0, .slice none 0 0, .slice none 0 0, .int .i64 0, .int .i64 0, .int .i64 0] from ⟨((Whole.made w rfT #[.slice AL m.L.length cL, .slice AG gl.length cG, .slice AF m.fx.length cF, .slice AP pl.length cP, .slice AA al.length cA, .int .i64 m.dep, .int .i64 m.most, .int .i64 m.err] _ rfl).alloc _).alloc _, (Whole.made (w.alloc (.cells #[.slice AL m.L.length cL, .slice AG gl.length cG, .slice AF m.fx.length cF, .slice AP pl.length cP, .slice AA al.length cA, .int .i64 m.dep, .int .i64 m.most, .int .i64 m.err] rfT)) opT #[.int .i64 6, .int .i64 oi.op, .int .i64 oi.a, .int .i64 oi.b, .int .i64 oi.c, .int .i64 oi.n, .int .i64 on, .int .i64 oa, .int .i64 ob, .int .i64 oc] _ (by simp)).alloc _, Whole.made ((w.alloc (.cells #[.slice AL m.L.length cL, .slice AG gl.length cG, .slice AF m.fx.length cF, .slice AP pl.length cP, .slice AA al.length cA, .int .i64 m.dep, .int .i64 m.most, .int .i64 m.err] rfT)).alloc (.cells #[.int .i64 6, .int .i64 oi.op, .int .i64 oi.a, .int .i64 oi.b, .int .i64 oi.c, .int .i64 oi.n, .int .i64 on, .int .i64 oa, .int .i64 ob, .int .i64 oc] opT)) rfT #[.slice none 0 0, .slice none 0 0, .slice none 0 0, .slice none 0 0, .slice none 0 0, .int .i64 0, .int .i64 0, .int .i64 0] _ (by simp)⟩)
  have HR := Lib.hid ((hR.boxed 3).below b3)
  have HC := Lib.hid (hC.below b3)
  have BV := Lib.hid b3
  have HN := Lib.hid hN
  have TW := Lib.hid (show ∀ b, T b → b < w.heap.size from by
    obtain ⟨_, _, _, _, _, _, _, _, h0⟩ := hC
    exact fun b hb => (h0.frm b hb).2)
  have BG := Lib.hid (show B ≤ g ∧ g < w.heap.size from by
    obtain ⟨_, _, _, _, _, _, _, _, h0⟩ := hC
    exact h0.frm g h0.tg)
  have S8 : (Tryd.prog.info? rfT).map (·.size) = some 8 := by kernel_rfl
  clear hC hR b1 b2 b3
  obtain ⟨o0, o1, o2, o3, o4, o5, o6, o7, o8, o9⟩ := cells10 LX.out.x1
  have PC := Lib.hid (fix_any on oa ob oc hoc B g T N m (((w.alloc (.cells #[.slice AL m.L.length cL, .slice AG gl.length cG, .slice AF m.fx.length cF, .slice AP pl.length cP, .slice AA al.length cA, .int .i64 m.dep, .int .i64 m.most, .int .i64 m.err] rfT)).alloc (.cells #[.int .i64 6, .int .i64 oi.op, .int .i64 oi.a, .int .i64 oi.b, .int .i64 oi.c, .int .i64 oi.n, .int .i64 on, .int .i64 oa, .int .i64 ob, .int .i64 oc] opT)).alloc (.cells #[.slice none 0 0, .slice none 0 0, .slice none 0 0, .slice none 0 0, .slice none 0 0, .int .i64 0, .int .i64 0, .int .i64 0] rfT)) HC.out (by have := HN.out; omega))
  have RX := Lib.hid (fun (T1 : Nat → Prop) w1 (hr : RfR w1 (fun b => T1 b ∨ (w.heap.size ≤ b ∧ b < w.heap.size + 3)) N m AL cL AG cG AF cF AP cP AA cA gl pl al) (ht : ∀ b, (fun b => T1 b ∨ (w.heap.size ≤ b ∧ b < w.heap.size + 3)) b → b < w1.heap.size) => reffix_any on oa ob oc (fun b => T1 b ∨ (w.heap.size ≤ b ∧ b < w.heap.size + 3)) N m AL cL AG cG AF cF AP cP AA cA gl pl al w1 hr ht (by have := HN.out; omega))
  try unfold instrV at PC
  clear hi hon hoc
  generalize fixE m on oa ob oc = m1 at *
  go_enter Tryd.func23, Tryd.ntmps23
  go_wp2_with fail
  generalize (((w.alloc (.cells #[.slice AL m.L.length cL, .slice AG gl.length cG, .slice AF m.fx.length cF, .slice AP pl.length cP, .slice AA al.length cA, .int .i64 m.dep, .int .i64 m.most, .int .i64 m.err] rfT)).alloc (.cells #[.int .i64 6, .int .i64 oi.op, .int .i64 oi.a, .int .i64 oi.b, .int .i64 oi.c, .int .i64 oi.n, .int .i64 on, .int .i64 oa, .int .i64 ob, .int .i64 oc] opT)).alloc (.cells #[.slice none 0 0, .slice none 0 0, .slice none 0 0, .slice none 0 0, .slice none 0 0, .int .i64 0, .int .i64 0, .int .i64 0] rfT)) = V at *
  refine PC.out.mono ?_
  rintro e w1 ⟨rfl, T1, hc, hk, ht⟩
  have KP := Lib.hid ((show KeptS T w V from KeptS.ofBelow BV.out).trans hk (fun b hb => .inl hb))
  have O1 := Lib.hid (show ∀ b, T1 b → T b ∨ w.heap.size ≤ b from fun b hb => by
    rcases ht b hb with h | h
    · exact .inl h
    · exact .inr (Nat.le_trans BV.out.size h))
  have NB := Lib.hid (show ∀ b, (w.heap.size ≤ b ∧ b < w.heap.size + 3) → ¬ T1 b from fun b hb h => by
    have h3 := LX.out.x2.lt
    rcases ht b h with h | h
    · have := TW.out b h
      omega
    · omega)
  have LX := Lib.hid (LX.out.later hk (fun b hb h => by have := TW.out b hb; omega))
  have C1 := Lib.hid hc
  have HR := Lib.hid (HR.out.kept (T' := (fun b => T1 b ∨ (w.heap.size ≤ b ∧ b < w.heap.size + 3))) (hk.mono (fun b hb => .inl hb)) (fun b hb => by
    rcases hb with hb | hb
    · rcases ht b hb with h | h
      · exact .inl (.inl h)
      · exact .inr h
    · exact .inl (.inr hb)))
  have HT := Lib.hid (show ∀ b, (fun b => T1 b ∨ (w.heap.size ≤ b ∧ b < w.heap.size + 3)) b → b < w1.heap.size from fun b hb => by
    have h3 := LX.out.x2.lt
    rcases hb with hb | hb
    · obtain ⟨_, _, _, _, _, _, _, _, h0⟩ := hc
      exact (h0.frm b hb).2
    · omega)
  clear hc hk ht PC o0 o1 o2 o3 o4 o5 o6 o7 o8 o9 HC
  obtain ⟨o0, o1, o2, o3, o4, o5, o6, o7, o8, o9⟩ := cells10 LX.out.x1
  obtain ⟨a0, a1, a2, a3, a4, a5, a6, a7⟩ := cells8 LX.out.x0
  have RF := Lib.hid (RX.out T1 w1 HR.out HT.out)
  clear RX HT
  go_wp2_with fail
  refine RF.out.mono ?_
  rintro e y ⟨AL1, cL1, AG1, cG1, AF1, cF1, AP1, cP1, AA1, cA1, gl1, pl1, al1, rfl, hr1, hb1⟩
  have LX := Lib.hid (LX.out.later (S := fun _ => False) (KeptS.ofBelow hb1) (fun _ h => h.elim))
  have RE := Lib.hid hr1
  have C1 := Lib.hid (C1.out.below hb1)
  have KP := Lib.hid (KP.out.trans (S' := fun _ => False) (KeptS.ofBelow hb1) (fun _ h => h.elim))
  have H1 := Lib.hid (show (#[.slice AL1 m1.L.length cL1, .slice AG1 gl1.length cG1, .slice AF1 m1.fx.length cF1, .slice AP1 pl1.length cP1, .slice AA1 al1.length cA1, .int .i64 m1.dep, .int .i64 m1.most, .int .i64 m1.err] : Array Value).all (·.oneCell') = true from by simp [Value.oneCell'])
  clear hr1 hb1 RF HR a0 a1 a2 a3 a4 a5 a6 a7 o0 o1 o2 o3 o4 o5 o6 o7 o8 o9
  simp only []
  go_at_K
  repeat (first | (go_big_may; first | (refine wpList_store_row rfl rfT (.tmp 6) (.tmp 99) rfl (w.heap.size + 1 + 1) #[.slice AL1 m1.L.length cL1, .slice AG1 gl1.length cG1, .slice AF1 m1.fx.length cF1, .slice AP1 pl1.length cP1, .slice AA1 al1.length cA1, .int .i64 m1.dep, .int .i64 m1.most, .int .i64 m1.err] rfl rfl rfT #[.slice none 0 0, .slice none 0 0, .slice none 0 0, .slice none 0 0, .slice none 0 0, .int .i64 0, .int .i64 0, .int .i64 0] LX.out.x2 S8 rfl H1.out ?_; generalize hZZ : (y).setRow (w.heap.size + 1 + 1) #[.slice AL1 m1.L.length cL1, .slice AG1 gl1.length cG1, .slice AF1 m1.fx.length cF1, .slice AP1 pl1.length cP1, .slice AA1 al1.length cA1, .int .i64 m1.dep, .int .i64 m1.most, .int .i64 m1.err] = ZZ; have HZZ := Lib.hid hZZ; clear hZZ)) | go_values | go_skip | go_guarded | go_step | go_upon)
  have KZ := LX.out.kept2 #[.slice AL1 m1.L.length cL1, .slice AG1 gl1.length cG1, .slice AF1 m1.fx.length cF1, .slice AP1 pl1.length cP1, .slice AA1 al1.length cA1, .int .i64 m1.dep, .int .i64 m1.most, .int .i64 m1.err]
  have LZ := LX.out.row2 #[.slice AL1 m1.L.length cL1, .slice AG1 gl1.length cG1, .slice AF1 m1.fx.length cF1, .slice AP1 pl1.length cP1, .slice AA1 al1.length cA1, .int .i64 m1.dep, .int .i64 m1.most, .int .i64 m1.err]
  rw [HZZ.out] at KZ LZ
  have CZ := Lib.hid (C1.out.later KZ (fun b hb => NB.out b hb) (fun b hb => by have := BG.out; omega))
  have RZ := Lib.hid (RE.out.later KZ (fun b hb => .inr hb))
  have KF := Lib.hid (KP.out.trans KZ (fun b hb => .inr hb.1))
  obtain ⟨z0, z1, z2, z3, z4, z5, z6, z7⟩ := cells8 LZ.x2
  clear KZ LZ
  refine bodyPost_ret (v := .agg #[.slice AL1 m1.L.length cL1, .slice AG1 gl1.length cG1, .slice AF1 m1.fx.length cF1, .slice AP1 pl1.length cP1, .slice AA1 al1.length cA1, .int .i64 m1.dep, .int .i64 m1.most, .int .i64 m1.err]) ?_ rfl ⟨T1, AL1, cL1, AG1, cG1, AF1, cF1, AP1, cP1, AA1, cA1, gl1, pl1, al1, rfl, CZ.out.more (show N + 1 ≤ N + 2 by omega) (Nat.le_refl _), (RZ.out.less (fun b hb => .inl hb)).more (show N + 1 ≤ N + 2 by omega), KF.out, O1.out⟩
  simp [results, Tryd.results23, go_sem, z0, z1, z2, z3, z4, z5, z6, z7]

set_option maxHeartbeats 16000000 in
set_option maxRecDepth 100000 in
theorem wr_push (oi : Ins) (on oa ob oc : Int) (hi : I64I oi) (hon : I64 on) (hoc : I64 oc) (ha1 : -1000 ≤ oa) (ha2 : oa ≤ 1000) (hb1 : -1000000 ≤ ob) (hb2 : ob ≤ 1000000) (B g : Nat) (T : Nat → Prop) (N : Nat) (m : Em) (AL : Option Addr) (cL : Nat) (AG : Option Addr) (cG : Nat) (AF : Option Addr) (cF : Nat) (AP : Option Addr) (cP : Nat) (AA : Option Addr) (cA : Nat) (gl pl al : List Int) (w : World) (hC : CdAt w B g T N m) (hR : RfR w T N m AL cL AG cG AF cF AP cP AA cA gl pl al) (hN : N + 2 ≤ 100000) :
    Calls Tryd.prog 23 #[.pointer (some ⟨g, 0, none⟩), .agg #[.slice AL m.L.length cL, .slice AG gl.length cG, .slice AF m.fx.length cF, .slice AP pl.length cP, .slice AA al.length cA, .int .i64 m.dep, .int .i64 m.most, .int .i64 m.err], .agg #[.int .i64 7, .int .i64 oi.op, .int .i64 oi.a, .int .i64 oi.b, .int .i64 oi.c, .int .i64 oi.n, .int .i64 on, .int .i64 oa, .int .i64 ob, .int .i64 oc]] w (DoP B g T (N + 2) w (pushE m oa)) := by
  have b1 := (Below.refl w.heap.size w).alloc (Nat.le_refl _) (.cells #[.slice AL m.L.length cL, .slice AG gl.length cG, .slice AF m.fx.length cF, .slice AP pl.length cP, .slice AA al.length cA, .int .i64 m.dep, .int .i64 m.most, .int .i64 m.err] rfT)
  have b2 := b1.alloc b1.size (.cells #[.int .i64 7, .int .i64 oi.op, .int .i64 oi.a, .int .i64 oi.b, .int .i64 oi.c, .int .i64 oi.n, .int .i64 on, .int .i64 oa, .int .i64 ob, .int .i64 oc] opT)
  have b3 := b2.alloc b2.size (.cells #[.slice none 0 0, .slice none 0 0, .slice none 0 0, .slice none 0 0, .slice none 0 0, .int .i64 0, .int .i64 0, .int .i64 0] rfT)
  have LX := Lib.hid (show Lx3 w (((w.alloc (.cells #[.slice AL m.L.length cL, .slice AG gl.length cG, .slice AF m.fx.length cF, .slice AP pl.length cP, .slice AA al.length cA, .int .i64 m.dep, .int .i64 m.most, .int .i64 m.err] rfT)).alloc (.cells #[.int .i64 7, .int .i64 oi.op, .int .i64 oi.a, .int .i64 oi.b, .int .i64 oi.c, .int .i64 oi.n, .int .i64 on, .int .i64 oa, .int .i64 ob, .int .i64 oc] opT)).alloc (.cells #[.slice none 0 0, .slice none 0 0, .slice none 0 0, .slice none 0 0, .slice none 0 0, .int .i64 0, .int .i64 0, .int .i64 0] rfT)) rfT opT rfT #[.slice AL m.L.length cL, .slice AG gl.length cG, .slice AF m.fx.length cF, .slice AP pl.length cP, .slice AA al.length cA, .int .i64 m.dep, .int .i64 m.most, .int .i64 m.err] #[.int .i64 7, .int .i64 oi.op, .int .i64 oi.a, .int .i64 oi.b, .int .i64 oi.c, .int .i64 oi.n, .int .i64 on, .int .i64 oa, .int .i64 ob, .int .i64 oc] #[.slice none 0 0, .slice none 0 0, .slice none 0 0, .slice none 0 0, .slice none 0 0, .int .i64 0, .int .i64 0, .int .i64 0] from ⟨((Whole.made w rfT #[.slice AL m.L.length cL, .slice AG gl.length cG, .slice AF m.fx.length cF, .slice AP pl.length cP, .slice AA al.length cA, .int .i64 m.dep, .int .i64 m.most, .int .i64 m.err] _ rfl).alloc _).alloc _, (Whole.made (w.alloc (.cells #[.slice AL m.L.length cL, .slice AG gl.length cG, .slice AF m.fx.length cF, .slice AP pl.length cP, .slice AA al.length cA, .int .i64 m.dep, .int .i64 m.most, .int .i64 m.err] rfT)) opT #[.int .i64 7, .int .i64 oi.op, .int .i64 oi.a, .int .i64 oi.b, .int .i64 oi.c, .int .i64 oi.n, .int .i64 on, .int .i64 oa, .int .i64 ob, .int .i64 oc] _ (by simp)).alloc _, Whole.made ((w.alloc (.cells #[.slice AL m.L.length cL, .slice AG gl.length cG, .slice AF m.fx.length cF, .slice AP pl.length cP, .slice AA al.length cA, .int .i64 m.dep, .int .i64 m.most, .int .i64 m.err] rfT)).alloc (.cells #[.int .i64 7, .int .i64 oi.op, .int .i64 oi.a, .int .i64 oi.b, .int .i64 oi.c, .int .i64 oi.n, .int .i64 on, .int .i64 oa, .int .i64 ob, .int .i64 oc] opT)) rfT #[.slice none 0 0, .slice none 0 0, .slice none 0 0, .slice none 0 0, .slice none 0 0, .int .i64 0, .int .i64 0, .int .i64 0] _ (by simp)⟩)
  have HR := Lib.hid ((hR.boxed 3).below b3)
  have HC := Lib.hid (hC.below b3)
  have BV := Lib.hid b3
  have HN := Lib.hid hN
  have TW := Lib.hid (show ∀ b, T b → b < w.heap.size from by
    obtain ⟨_, _, _, _, _, _, _, _, h0⟩ := hC
    exact fun b hb => (h0.frm b hb).2)
  have BG := Lib.hid (show B ≤ g ∧ g < w.heap.size from by
    obtain ⟨_, _, _, _, _, _, _, _, h0⟩ := hC
    exact h0.frm g h0.tg)
  have S8 : (Tryd.prog.info? rfT).map (·.size) = some 8 := by kernel_rfl
  clear hC hR b1 b2 b3
  obtain ⟨o0, o1, o2, o3, o4, o5, o6, o7, o8, o9⟩ := cells10 LX.out.x1
  have PC := Lib.hid (push_any oa (show I64 (oa) from by unfold I64; omega) B g T N m (((w.alloc (.cells #[.slice AL m.L.length cL, .slice AG gl.length cG, .slice AF m.fx.length cF, .slice AP pl.length cP, .slice AA al.length cA, .int .i64 m.dep, .int .i64 m.most, .int .i64 m.err] rfT)).alloc (.cells #[.int .i64 7, .int .i64 oi.op, .int .i64 oi.a, .int .i64 oi.b, .int .i64 oi.c, .int .i64 oi.n, .int .i64 on, .int .i64 oa, .int .i64 ob, .int .i64 oc] opT)).alloc (.cells #[.slice none 0 0, .slice none 0 0, .slice none 0 0, .slice none 0 0, .slice none 0 0, .int .i64 0, .int .i64 0, .int .i64 0] rfT)) HC.out (by have := HN.out; omega))
  have RX := Lib.hid (fun (T1 : Nat → Prop) w1 (hr : RfR w1 (fun b => T1 b ∨ (w.heap.size ≤ b ∧ b < w.heap.size + 3)) N m AL cL AG cG AF cF AP cP AA cA gl pl al) (ht : ∀ b, (fun b => T1 b ∨ (w.heap.size ≤ b ∧ b < w.heap.size + 3)) b → b < w1.heap.size) => refpush_any oa (fun b => T1 b ∨ (w.heap.size ≤ b ∧ b < w.heap.size + 3)) N m AL cL AG cG AF cF AP cP AA cA gl pl al w1 hr ht (by have := HN.out; omega))
  try unfold instrV at PC
  clear hi hon hoc
  generalize pushE m oa = m1 at *
  go_enter Tryd.func23, Tryd.ntmps23
  go_wp2_with fail
  generalize (((w.alloc (.cells #[.slice AL m.L.length cL, .slice AG gl.length cG, .slice AF m.fx.length cF, .slice AP pl.length cP, .slice AA al.length cA, .int .i64 m.dep, .int .i64 m.most, .int .i64 m.err] rfT)).alloc (.cells #[.int .i64 7, .int .i64 oi.op, .int .i64 oi.a, .int .i64 oi.b, .int .i64 oi.c, .int .i64 oi.n, .int .i64 on, .int .i64 oa, .int .i64 ob, .int .i64 oc] opT)).alloc (.cells #[.slice none 0 0, .slice none 0 0, .slice none 0 0, .slice none 0 0, .slice none 0 0, .int .i64 0, .int .i64 0, .int .i64 0] rfT)) = V at *
  refine PC.out.mono ?_
  rintro e w1 ⟨rfl, T1, hc, hk, ht⟩
  have KP := Lib.hid ((show KeptS T w V from KeptS.ofBelow BV.out).trans hk (fun b hb => .inl hb))
  have O1 := Lib.hid (show ∀ b, T1 b → T b ∨ w.heap.size ≤ b from fun b hb => by
    rcases ht b hb with h | h
    · exact .inl h
    · exact .inr (Nat.le_trans BV.out.size h))
  have NB := Lib.hid (show ∀ b, (w.heap.size ≤ b ∧ b < w.heap.size + 3) → ¬ T1 b from fun b hb h => by
    have h3 := LX.out.x2.lt
    rcases ht b h with h | h
    · have := TW.out b h
      omega
    · omega)
  have LX := Lib.hid (LX.out.later hk (fun b hb h => by have := TW.out b hb; omega))
  have C1 := Lib.hid hc
  have HR := Lib.hid (HR.out.kept (T' := (fun b => T1 b ∨ (w.heap.size ≤ b ∧ b < w.heap.size + 3))) (hk.mono (fun b hb => .inl hb)) (fun b hb => by
    rcases hb with hb | hb
    · rcases ht b hb with h | h
      · exact .inl (.inl h)
      · exact .inr h
    · exact .inl (.inr hb)))
  have HT := Lib.hid (show ∀ b, (fun b => T1 b ∨ (w.heap.size ≤ b ∧ b < w.heap.size + 3)) b → b < w1.heap.size from fun b hb => by
    have h3 := LX.out.x2.lt
    rcases hb with hb | hb
    · obtain ⟨_, _, _, _, _, _, _, _, h0⟩ := hc
      exact (h0.frm b hb).2
    · omega)
  clear hc hk ht PC o0 o1 o2 o3 o4 o5 o6 o7 o8 o9 HC
  obtain ⟨o0, o1, o2, o3, o4, o5, o6, o7, o8, o9⟩ := cells10 LX.out.x1
  obtain ⟨a0, a1, a2, a3, a4, a5, a6, a7⟩ := cells8 LX.out.x0
  have RF := Lib.hid (RX.out T1 w1 HR.out HT.out)
  clear RX HT
  go_wp2_with fail
  refine RF.out.mono ?_
  rintro e y ⟨AL1, cL1, AG1, cG1, AF1, cF1, AP1, cP1, AA1, cA1, gl1, pl1, al1, rfl, hr1, hb1⟩
  have LX := Lib.hid (LX.out.later (S := fun _ => False) (KeptS.ofBelow hb1) (fun _ h => h.elim))
  have RE := Lib.hid hr1
  have C1 := Lib.hid (C1.out.below hb1)
  have KP := Lib.hid (KP.out.trans (S' := fun _ => False) (KeptS.ofBelow hb1) (fun _ h => h.elim))
  have H1 := Lib.hid (show (#[.slice AL1 m1.L.length cL1, .slice AG1 gl1.length cG1, .slice AF1 m1.fx.length cF1, .slice AP1 pl1.length cP1, .slice AA1 al1.length cA1, .int .i64 m1.dep, .int .i64 m1.most, .int .i64 m1.err] : Array Value).all (·.oneCell') = true from by simp [Value.oneCell'])
  clear hr1 hb1 RF HR a0 a1 a2 a3 a4 a5 a6 a7 o0 o1 o2 o3 o4 o5 o6 o7 o8 o9
  simp only []
  go_at_K
  repeat (first | (go_big_may; first | (refine wpList_store_row rfl rfT (.tmp 6) (.tmp 109) rfl (w.heap.size + 1 + 1) #[.slice AL1 m1.L.length cL1, .slice AG1 gl1.length cG1, .slice AF1 m1.fx.length cF1, .slice AP1 pl1.length cP1, .slice AA1 al1.length cA1, .int .i64 m1.dep, .int .i64 m1.most, .int .i64 m1.err] rfl rfl rfT #[.slice none 0 0, .slice none 0 0, .slice none 0 0, .slice none 0 0, .slice none 0 0, .int .i64 0, .int .i64 0, .int .i64 0] LX.out.x2 S8 rfl H1.out ?_; generalize hZZ : (y).setRow (w.heap.size + 1 + 1) #[.slice AL1 m1.L.length cL1, .slice AG1 gl1.length cG1, .slice AF1 m1.fx.length cF1, .slice AP1 pl1.length cP1, .slice AA1 al1.length cA1, .int .i64 m1.dep, .int .i64 m1.most, .int .i64 m1.err] = ZZ; have HZZ := Lib.hid hZZ; clear hZZ)) | go_values | go_skip | go_guarded | go_step | go_upon)
  have KZ := LX.out.kept2 #[.slice AL1 m1.L.length cL1, .slice AG1 gl1.length cG1, .slice AF1 m1.fx.length cF1, .slice AP1 pl1.length cP1, .slice AA1 al1.length cA1, .int .i64 m1.dep, .int .i64 m1.most, .int .i64 m1.err]
  have LZ := LX.out.row2 #[.slice AL1 m1.L.length cL1, .slice AG1 gl1.length cG1, .slice AF1 m1.fx.length cF1, .slice AP1 pl1.length cP1, .slice AA1 al1.length cA1, .int .i64 m1.dep, .int .i64 m1.most, .int .i64 m1.err]
  rw [HZZ.out] at KZ LZ
  have CZ := Lib.hid (C1.out.later KZ (fun b hb => NB.out b hb) (fun b hb => by have := BG.out; omega))
  have RZ := Lib.hid (RE.out.later KZ (fun b hb => .inr hb))
  have KF := Lib.hid (KP.out.trans KZ (fun b hb => .inr hb.1))
  obtain ⟨z0, z1, z2, z3, z4, z5, z6, z7⟩ := cells8 LZ.x2
  clear KZ LZ
  refine bodyPost_ret (v := .agg #[.slice AL1 m1.L.length cL1, .slice AG1 gl1.length cG1, .slice AF1 m1.fx.length cF1, .slice AP1 pl1.length cP1, .slice AA1 al1.length cA1, .int .i64 m1.dep, .int .i64 m1.most, .int .i64 m1.err]) ?_ rfl ⟨T1, AL1, cL1, AG1, cG1, AF1, cF1, AP1, cP1, AA1, cA1, gl1, pl1, al1, rfl, CZ.out.more (show N + 1 ≤ N + 2 by omega) (Nat.le_refl _), (RZ.out.less (fun b hb => .inl hb)).more (show N + 1 ≤ N + 2 by omega), KF.out, O1.out⟩
  simp [results, Tryd.results23, go_sem, z0, z1, z2, z3, z4, z5, z6, z7]

set_option maxHeartbeats 16000000 in
set_option maxRecDepth 100000 in
theorem wr_pop (oi : Ins) (on oa ob oc : Int) (hi : I64I oi) (hon : I64 on) (hoc : I64 oc) (ha1 : -1000 ≤ oa) (ha2 : oa ≤ 1000) (hb1 : -1000000 ≤ ob) (hb2 : ob ≤ 1000000) (B g : Nat) (T : Nat → Prop) (N : Nat) (m : Em) (AL : Option Addr) (cL : Nat) (AG : Option Addr) (cG : Nat) (AF : Option Addr) (cF : Nat) (AP : Option Addr) (cP : Nat) (AA : Option Addr) (cA : Nat) (gl pl al : List Int) (w : World) (hC : CdAt w B g T N m) (hR : RfR w T N m AL cL AG cG AF cF AP cP AA cA gl pl al) (hN : N + 2 ≤ 100000) :
    Calls Tryd.prog 23 #[.pointer (some ⟨g, 0, none⟩), .agg #[.slice AL m.L.length cL, .slice AG gl.length cG, .slice AF m.fx.length cF, .slice AP pl.length cP, .slice AA al.length cA, .int .i64 m.dep, .int .i64 m.most, .int .i64 m.err], .agg #[.int .i64 8, .int .i64 oi.op, .int .i64 oi.a, .int .i64 oi.b, .int .i64 oi.c, .int .i64 oi.n, .int .i64 on, .int .i64 oa, .int .i64 ob, .int .i64 oc]] w (DoP B g T (N + 2) w (popE m oa)) := by
  have b1 := (Below.refl w.heap.size w).alloc (Nat.le_refl _) (.cells #[.slice AL m.L.length cL, .slice AG gl.length cG, .slice AF m.fx.length cF, .slice AP pl.length cP, .slice AA al.length cA, .int .i64 m.dep, .int .i64 m.most, .int .i64 m.err] rfT)
  have b2 := b1.alloc b1.size (.cells #[.int .i64 8, .int .i64 oi.op, .int .i64 oi.a, .int .i64 oi.b, .int .i64 oi.c, .int .i64 oi.n, .int .i64 on, .int .i64 oa, .int .i64 ob, .int .i64 oc] opT)
  have b3 := b2.alloc b2.size (.cells #[.slice none 0 0, .slice none 0 0, .slice none 0 0, .slice none 0 0, .slice none 0 0, .int .i64 0, .int .i64 0, .int .i64 0] rfT)
  have LX := Lib.hid (show Lx3 w (((w.alloc (.cells #[.slice AL m.L.length cL, .slice AG gl.length cG, .slice AF m.fx.length cF, .slice AP pl.length cP, .slice AA al.length cA, .int .i64 m.dep, .int .i64 m.most, .int .i64 m.err] rfT)).alloc (.cells #[.int .i64 8, .int .i64 oi.op, .int .i64 oi.a, .int .i64 oi.b, .int .i64 oi.c, .int .i64 oi.n, .int .i64 on, .int .i64 oa, .int .i64 ob, .int .i64 oc] opT)).alloc (.cells #[.slice none 0 0, .slice none 0 0, .slice none 0 0, .slice none 0 0, .slice none 0 0, .int .i64 0, .int .i64 0, .int .i64 0] rfT)) rfT opT rfT #[.slice AL m.L.length cL, .slice AG gl.length cG, .slice AF m.fx.length cF, .slice AP pl.length cP, .slice AA al.length cA, .int .i64 m.dep, .int .i64 m.most, .int .i64 m.err] #[.int .i64 8, .int .i64 oi.op, .int .i64 oi.a, .int .i64 oi.b, .int .i64 oi.c, .int .i64 oi.n, .int .i64 on, .int .i64 oa, .int .i64 ob, .int .i64 oc] #[.slice none 0 0, .slice none 0 0, .slice none 0 0, .slice none 0 0, .slice none 0 0, .int .i64 0, .int .i64 0, .int .i64 0] from ⟨((Whole.made w rfT #[.slice AL m.L.length cL, .slice AG gl.length cG, .slice AF m.fx.length cF, .slice AP pl.length cP, .slice AA al.length cA, .int .i64 m.dep, .int .i64 m.most, .int .i64 m.err] _ rfl).alloc _).alloc _, (Whole.made (w.alloc (.cells #[.slice AL m.L.length cL, .slice AG gl.length cG, .slice AF m.fx.length cF, .slice AP pl.length cP, .slice AA al.length cA, .int .i64 m.dep, .int .i64 m.most, .int .i64 m.err] rfT)) opT #[.int .i64 8, .int .i64 oi.op, .int .i64 oi.a, .int .i64 oi.b, .int .i64 oi.c, .int .i64 oi.n, .int .i64 on, .int .i64 oa, .int .i64 ob, .int .i64 oc] _ (by simp)).alloc _, Whole.made ((w.alloc (.cells #[.slice AL m.L.length cL, .slice AG gl.length cG, .slice AF m.fx.length cF, .slice AP pl.length cP, .slice AA al.length cA, .int .i64 m.dep, .int .i64 m.most, .int .i64 m.err] rfT)).alloc (.cells #[.int .i64 8, .int .i64 oi.op, .int .i64 oi.a, .int .i64 oi.b, .int .i64 oi.c, .int .i64 oi.n, .int .i64 on, .int .i64 oa, .int .i64 ob, .int .i64 oc] opT)) rfT #[.slice none 0 0, .slice none 0 0, .slice none 0 0, .slice none 0 0, .slice none 0 0, .int .i64 0, .int .i64 0, .int .i64 0] _ (by simp)⟩)
  have HR := Lib.hid ((hR.boxed 3).below b3)
  have HC := Lib.hid (hC.below b3)
  have BV := Lib.hid b3
  have HN := Lib.hid hN
  have TW := Lib.hid (show ∀ b, T b → b < w.heap.size from by
    obtain ⟨_, _, _, _, _, _, _, _, h0⟩ := hC
    exact fun b hb => (h0.frm b hb).2)
  have BG := Lib.hid (show B ≤ g ∧ g < w.heap.size from by
    obtain ⟨_, _, _, _, _, _, _, _, h0⟩ := hC
    exact h0.frm g h0.tg)
  have S8 : (Tryd.prog.info? rfT).map (·.size) = some 8 := by kernel_rfl
  clear hC hR b1 b2 b3
  obtain ⟨o0, o1, o2, o3, o4, o5, o6, o7, o8, o9⟩ := cells10 LX.out.x1
  have PC := Lib.hid (pop_any oa (show I64 (oa) from by unfold I64; omega) B g T N m (((w.alloc (.cells #[.slice AL m.L.length cL, .slice AG gl.length cG, .slice AF m.fx.length cF, .slice AP pl.length cP, .slice AA al.length cA, .int .i64 m.dep, .int .i64 m.most, .int .i64 m.err] rfT)).alloc (.cells #[.int .i64 8, .int .i64 oi.op, .int .i64 oi.a, .int .i64 oi.b, .int .i64 oi.c, .int .i64 oi.n, .int .i64 on, .int .i64 oa, .int .i64 ob, .int .i64 oc] opT)).alloc (.cells #[.slice none 0 0, .slice none 0 0, .slice none 0 0, .slice none 0 0, .slice none 0 0, .int .i64 0, .int .i64 0, .int .i64 0] rfT)) HC.out (by have := HN.out; omega))
  have RX := Lib.hid (fun (T1 : Nat → Prop) w1 (hr : RfR w1 (fun b => T1 b ∨ (w.heap.size ≤ b ∧ b < w.heap.size + 3)) N m AL cL AG cG AF cF AP cP AA cA gl pl al) (ht : ∀ b, (fun b => T1 b ∨ (w.heap.size ≤ b ∧ b < w.heap.size + 3)) b → b < w1.heap.size) => refpop_any oa (fun b => T1 b ∨ (w.heap.size ≤ b ∧ b < w.heap.size + 3)) N m AL cL AG cG AF cF AP cP AA cA gl pl al w1 hr ht (by have := HN.out; omega))
  try unfold instrV at PC
  clear hi hon hoc
  generalize popE m oa = m1 at *
  go_enter Tryd.func23, Tryd.ntmps23
  go_wp2_with fail
  generalize (((w.alloc (.cells #[.slice AL m.L.length cL, .slice AG gl.length cG, .slice AF m.fx.length cF, .slice AP pl.length cP, .slice AA al.length cA, .int .i64 m.dep, .int .i64 m.most, .int .i64 m.err] rfT)).alloc (.cells #[.int .i64 8, .int .i64 oi.op, .int .i64 oi.a, .int .i64 oi.b, .int .i64 oi.c, .int .i64 oi.n, .int .i64 on, .int .i64 oa, .int .i64 ob, .int .i64 oc] opT)).alloc (.cells #[.slice none 0 0, .slice none 0 0, .slice none 0 0, .slice none 0 0, .slice none 0 0, .int .i64 0, .int .i64 0, .int .i64 0] rfT)) = V at *
  refine PC.out.mono ?_
  rintro e w1 ⟨rfl, T1, hc, hk, ht⟩
  have KP := Lib.hid ((show KeptS T w V from KeptS.ofBelow BV.out).trans hk (fun b hb => .inl hb))
  have O1 := Lib.hid (show ∀ b, T1 b → T b ∨ w.heap.size ≤ b from fun b hb => by
    rcases ht b hb with h | h
    · exact .inl h
    · exact .inr (Nat.le_trans BV.out.size h))
  have NB := Lib.hid (show ∀ b, (w.heap.size ≤ b ∧ b < w.heap.size + 3) → ¬ T1 b from fun b hb h => by
    have h3 := LX.out.x2.lt
    rcases ht b h with h | h
    · have := TW.out b h
      omega
    · omega)
  have LX := Lib.hid (LX.out.later hk (fun b hb h => by have := TW.out b hb; omega))
  have C1 := Lib.hid hc
  have HR := Lib.hid (HR.out.kept (T' := (fun b => T1 b ∨ (w.heap.size ≤ b ∧ b < w.heap.size + 3))) (hk.mono (fun b hb => .inl hb)) (fun b hb => by
    rcases hb with hb | hb
    · rcases ht b hb with h | h
      · exact .inl (.inl h)
      · exact .inr h
    · exact .inl (.inr hb)))
  have HT := Lib.hid (show ∀ b, (fun b => T1 b ∨ (w.heap.size ≤ b ∧ b < w.heap.size + 3)) b → b < w1.heap.size from fun b hb => by
    have h3 := LX.out.x2.lt
    rcases hb with hb | hb
    · obtain ⟨_, _, _, _, _, _, _, _, h0⟩ := hc
      exact (h0.frm b hb).2
    · omega)
  clear hc hk ht PC o0 o1 o2 o3 o4 o5 o6 o7 o8 o9 HC
  obtain ⟨o0, o1, o2, o3, o4, o5, o6, o7, o8, o9⟩ := cells10 LX.out.x1
  obtain ⟨a0, a1, a2, a3, a4, a5, a6, a7⟩ := cells8 LX.out.x0
  have RF := Lib.hid (RX.out T1 w1 HR.out HT.out)
  clear RX HT
  go_wp2_with fail
  refine RF.out.mono ?_
  rintro e y ⟨AL1, cL1, AG1, cG1, AF1, cF1, AP1, cP1, AA1, cA1, gl1, pl1, al1, rfl, hr1, hb1⟩
  have LX := Lib.hid (LX.out.later (S := fun _ => False) (KeptS.ofBelow hb1) (fun _ h => h.elim))
  have RE := Lib.hid hr1
  have C1 := Lib.hid (C1.out.below hb1)
  have KP := Lib.hid (KP.out.trans (S' := fun _ => False) (KeptS.ofBelow hb1) (fun _ h => h.elim))
  have H1 := Lib.hid (show (#[.slice AL1 m1.L.length cL1, .slice AG1 gl1.length cG1, .slice AF1 m1.fx.length cF1, .slice AP1 pl1.length cP1, .slice AA1 al1.length cA1, .int .i64 m1.dep, .int .i64 m1.most, .int .i64 m1.err] : Array Value).all (·.oneCell') = true from by simp [Value.oneCell'])
  clear hr1 hb1 RF HR a0 a1 a2 a3 a4 a5 a6 a7 o0 o1 o2 o3 o4 o5 o6 o7 o8 o9
  simp only []
  go_at_K
  repeat (first | (go_big_may; first | (refine wpList_store_row rfl rfT (.tmp 6) (.tmp 119) rfl (w.heap.size + 1 + 1) #[.slice AL1 m1.L.length cL1, .slice AG1 gl1.length cG1, .slice AF1 m1.fx.length cF1, .slice AP1 pl1.length cP1, .slice AA1 al1.length cA1, .int .i64 m1.dep, .int .i64 m1.most, .int .i64 m1.err] rfl rfl rfT #[.slice none 0 0, .slice none 0 0, .slice none 0 0, .slice none 0 0, .slice none 0 0, .int .i64 0, .int .i64 0, .int .i64 0] LX.out.x2 S8 rfl H1.out ?_; generalize hZZ : (y).setRow (w.heap.size + 1 + 1) #[.slice AL1 m1.L.length cL1, .slice AG1 gl1.length cG1, .slice AF1 m1.fx.length cF1, .slice AP1 pl1.length cP1, .slice AA1 al1.length cA1, .int .i64 m1.dep, .int .i64 m1.most, .int .i64 m1.err] = ZZ; have HZZ := Lib.hid hZZ; clear hZZ)) | go_values | go_skip | go_guarded | go_step | go_upon)
  have KZ := LX.out.kept2 #[.slice AL1 m1.L.length cL1, .slice AG1 gl1.length cG1, .slice AF1 m1.fx.length cF1, .slice AP1 pl1.length cP1, .slice AA1 al1.length cA1, .int .i64 m1.dep, .int .i64 m1.most, .int .i64 m1.err]
  have LZ := LX.out.row2 #[.slice AL1 m1.L.length cL1, .slice AG1 gl1.length cG1, .slice AF1 m1.fx.length cF1, .slice AP1 pl1.length cP1, .slice AA1 al1.length cA1, .int .i64 m1.dep, .int .i64 m1.most, .int .i64 m1.err]
  rw [HZZ.out] at KZ LZ
  have CZ := Lib.hid (C1.out.later KZ (fun b hb => NB.out b hb) (fun b hb => by have := BG.out; omega))
  have RZ := Lib.hid (RE.out.later KZ (fun b hb => .inr hb))
  have KF := Lib.hid (KP.out.trans KZ (fun b hb => .inr hb.1))
  obtain ⟨z0, z1, z2, z3, z4, z5, z6, z7⟩ := cells8 LZ.x2
  clear KZ LZ
  refine bodyPost_ret (v := .agg #[.slice AL1 m1.L.length cL1, .slice AG1 gl1.length cG1, .slice AF1 m1.fx.length cF1, .slice AP1 pl1.length cP1, .slice AA1 al1.length cA1, .int .i64 m1.dep, .int .i64 m1.most, .int .i64 m1.err]) ?_ rfl ⟨T1, AL1, cL1, AG1, cG1, AF1, cF1, AP1, cP1, AA1, cA1, gl1, pl1, al1, rfl, CZ.out.more (show N + 1 ≤ N + 2 by omega) (Nat.le_refl _), (RZ.out.less (fun b hb => .inl hb)).more (show N + 1 ≤ N + 2 by omega), KF.out, O1.out⟩
  simp [results, Tryd.results23, go_sem, z0, z1, z2, z3, z4, z5, z6, z7]

set_option maxHeartbeats 16000000 in
set_option maxRecDepth 100000 in
theorem wr_back (oi : Ins) (on oa ob oc : Int) (hi : I64I oi) (hon : I64 on) (hoc : I64 oc) (ha1 : -1000 ≤ oa) (ha2 : oa ≤ 1000) (hb1 : -1000000 ≤ ob) (hb2 : ob ≤ 1000000) (B g : Nat) (T : Nat → Prop) (N : Nat) (m : Em) (AL : Option Addr) (cL : Nat) (AG : Option Addr) (cG : Nat) (AF : Option Addr) (cF : Nat) (AP : Option Addr) (cP : Nat) (AA : Option Addr) (cA : Nat) (gl pl al : List Int) (w : World) (hC : CdAt w B g T N m) (hR : RfR w T N m AL cL AG cG AF cF AP cP AA cA gl pl al) (hN : N + 2 ≤ 100000) :
    Calls Tryd.prog 23 #[.pointer (some ⟨g, 0, none⟩), .agg #[.slice AL m.L.length cL, .slice AG gl.length cG, .slice AF m.fx.length cF, .slice AP pl.length cP, .slice AA al.length cA, .int .i64 m.dep, .int .i64 m.most, .int .i64 m.err], .agg #[.int .i64 4, .int .i64 oi.op, .int .i64 oi.a, .int .i64 oi.b, .int .i64 oi.c, .int .i64 oi.n, .int .i64 on, .int .i64 oa, .int .i64 ob, .int .i64 oc]] w (DoP B g T (N + 2) w (patchE (putE m ⟨22, 0, 0, 0, 0⟩) ((putE m ⟨22, 0, 0, 0, 0⟩).L.length - 1) (oa - (putE m ⟨22, 0, 0, 0, 0⟩).L.length))) := by
  have b1 := (Below.refl w.heap.size w).alloc (Nat.le_refl _) (.cells #[.slice AL m.L.length cL, .slice AG gl.length cG, .slice AF m.fx.length cF, .slice AP pl.length cP, .slice AA al.length cA, .int .i64 m.dep, .int .i64 m.most, .int .i64 m.err] rfT)
  have b2 := b1.alloc b1.size (.cells #[.int .i64 4, .int .i64 oi.op, .int .i64 oi.a, .int .i64 oi.b, .int .i64 oi.c, .int .i64 oi.n, .int .i64 on, .int .i64 oa, .int .i64 ob, .int .i64 oc] opT)
  have b3 := b2.alloc b2.size (.cells #[.slice none 0 0, .slice none 0 0, .slice none 0 0, .slice none 0 0, .slice none 0 0, .int .i64 0, .int .i64 0, .int .i64 0] rfT)
  have LX := Lib.hid (show Lx3 w (((w.alloc (.cells #[.slice AL m.L.length cL, .slice AG gl.length cG, .slice AF m.fx.length cF, .slice AP pl.length cP, .slice AA al.length cA, .int .i64 m.dep, .int .i64 m.most, .int .i64 m.err] rfT)).alloc (.cells #[.int .i64 4, .int .i64 oi.op, .int .i64 oi.a, .int .i64 oi.b, .int .i64 oi.c, .int .i64 oi.n, .int .i64 on, .int .i64 oa, .int .i64 ob, .int .i64 oc] opT)).alloc (.cells #[.slice none 0 0, .slice none 0 0, .slice none 0 0, .slice none 0 0, .slice none 0 0, .int .i64 0, .int .i64 0, .int .i64 0] rfT)) rfT opT rfT #[.slice AL m.L.length cL, .slice AG gl.length cG, .slice AF m.fx.length cF, .slice AP pl.length cP, .slice AA al.length cA, .int .i64 m.dep, .int .i64 m.most, .int .i64 m.err] #[.int .i64 4, .int .i64 oi.op, .int .i64 oi.a, .int .i64 oi.b, .int .i64 oi.c, .int .i64 oi.n, .int .i64 on, .int .i64 oa, .int .i64 ob, .int .i64 oc] #[.slice none 0 0, .slice none 0 0, .slice none 0 0, .slice none 0 0, .slice none 0 0, .int .i64 0, .int .i64 0, .int .i64 0] from ⟨((Whole.made w rfT #[.slice AL m.L.length cL, .slice AG gl.length cG, .slice AF m.fx.length cF, .slice AP pl.length cP, .slice AA al.length cA, .int .i64 m.dep, .int .i64 m.most, .int .i64 m.err] _ rfl).alloc _).alloc _, (Whole.made (w.alloc (.cells #[.slice AL m.L.length cL, .slice AG gl.length cG, .slice AF m.fx.length cF, .slice AP pl.length cP, .slice AA al.length cA, .int .i64 m.dep, .int .i64 m.most, .int .i64 m.err] rfT)) opT #[.int .i64 4, .int .i64 oi.op, .int .i64 oi.a, .int .i64 oi.b, .int .i64 oi.c, .int .i64 oi.n, .int .i64 on, .int .i64 oa, .int .i64 ob, .int .i64 oc] _ (by simp)).alloc _, Whole.made ((w.alloc (.cells #[.slice AL m.L.length cL, .slice AG gl.length cG, .slice AF m.fx.length cF, .slice AP pl.length cP, .slice AA al.length cA, .int .i64 m.dep, .int .i64 m.most, .int .i64 m.err] rfT)).alloc (.cells #[.int .i64 4, .int .i64 oi.op, .int .i64 oi.a, .int .i64 oi.b, .int .i64 oi.c, .int .i64 oi.n, .int .i64 on, .int .i64 oa, .int .i64 ob, .int .i64 oc] opT)) rfT #[.slice none 0 0, .slice none 0 0, .slice none 0 0, .slice none 0 0, .slice none 0 0, .int .i64 0, .int .i64 0, .int .i64 0] _ (by simp)⟩)
  have HR := Lib.hid ((hR.boxed 3).below b3)
  have HC := Lib.hid (hC.below b3)
  have BV := Lib.hid b3
  have HN := Lib.hid hN
  have TW := Lib.hid (show ∀ b, T b → b < w.heap.size from by
    obtain ⟨_, _, _, _, _, _, _, _, h0⟩ := hC
    exact fun b hb => (h0.frm b hb).2)
  have BG := Lib.hid (show B ≤ g ∧ g < w.heap.size from by
    obtain ⟨_, _, _, _, _, _, _, _, h0⟩ := hC
    exact h0.frm g h0.tg)
  have S8 : (Tryd.prog.info? rfT).map (·.size) = some 8 := by kernel_rfl
  clear hC hR b1 b2 b3
  obtain ⟨o0, o1, o2, o3, o4, o5, o6, o7, o8, o9⟩ := cells10 LX.out.x1
  have PC := Lib.hid (back_any 22 0 oa (show I64 (22) from by unfold I64; omega) (show I64 (0) from by unfold I64; omega) (by omega) (by omega) B g T N m (((w.alloc (.cells #[.slice AL m.L.length cL, .slice AG gl.length cG, .slice AF m.fx.length cF, .slice AP pl.length cP, .slice AA al.length cA, .int .i64 m.dep, .int .i64 m.most, .int .i64 m.err] rfT)).alloc (.cells #[.int .i64 4, .int .i64 oi.op, .int .i64 oi.a, .int .i64 oi.b, .int .i64 oi.c, .int .i64 oi.n, .int .i64 on, .int .i64 oa, .int .i64 ob, .int .i64 oc] opT)).alloc (.cells #[.slice none 0 0, .slice none 0 0, .slice none 0 0, .slice none 0 0, .slice none 0 0, .int .i64 0, .int .i64 0, .int .i64 0] rfT)) HC.out (by have := HN.out; omega))
  have RX := Lib.hid (fun (T1 : Nat → Prop) w1 (hr : RfR w1 (fun b => T1 b ∨ (w.heap.size ≤ b ∧ b < w.heap.size + 3)) N m AL cL AG cG AF cF AP cP AA cA gl pl al) (ht : ∀ b, (fun b => T1 b ∨ (w.heap.size ≤ b ∧ b < w.heap.size + 3)) b → b < w1.heap.size) => refput_any ⟨22, 0, 0, 0, 0⟩ (fun b => T1 b ∨ (w.heap.size ≤ b ∧ b < w.heap.size + 3)) N m AL cL AG cG AF cF AP cP AA cA gl pl al w1 hr ht (by have := HN.out; omega))
  clear hi hon hoc
  generalize (putE m ⟨22, 0, 0, 0, 0⟩) = mj at *
  generalize hm1 : patchE mj (mj.L.length - 1) (oa - mj.L.length) = m1 at PC ⊢
  have M1 := Lib.hid hm1
  clear hm1
  go_enter Tryd.func23, Tryd.ntmps23
  go_wp2_with fail
  generalize (((w.alloc (.cells #[.slice AL m.L.length cL, .slice AG gl.length cG, .slice AF m.fx.length cF, .slice AP pl.length cP, .slice AA al.length cA, .int .i64 m.dep, .int .i64 m.most, .int .i64 m.err] rfT)).alloc (.cells #[.int .i64 4, .int .i64 oi.op, .int .i64 oi.a, .int .i64 oi.b, .int .i64 oi.c, .int .i64 oi.n, .int .i64 on, .int .i64 oa, .int .i64 ob, .int .i64 oc] opT)).alloc (.cells #[.slice none 0 0, .slice none 0 0, .slice none 0 0, .slice none 0 0, .slice none 0 0, .int .i64 0, .int .i64 0, .int .i64 0] rfT)) = V at *
  refine PC.out.mono ?_
  rintro e w1 ⟨rfl, T1, hc, hk, ht⟩
  have KP := Lib.hid ((show KeptS T w V from KeptS.ofBelow BV.out).trans hk (fun b hb => .inl hb))
  have O1 := Lib.hid (show ∀ b, T1 b → T b ∨ w.heap.size ≤ b from fun b hb => by
    rcases ht b hb with h | h
    · exact .inl h
    · exact .inr (Nat.le_trans BV.out.size h))
  have NB := Lib.hid (show ∀ b, (w.heap.size ≤ b ∧ b < w.heap.size + 3) → ¬ T1 b from fun b hb h => by
    have h3 := LX.out.x2.lt
    rcases ht b h with h | h
    · have := TW.out b h
      omega
    · omega)
  have LX := Lib.hid (LX.out.later hk (fun b hb h => by have := TW.out b hb; omega))
  have C1 := Lib.hid hc
  have HR := Lib.hid (HR.out.kept (T' := (fun b => T1 b ∨ (w.heap.size ≤ b ∧ b < w.heap.size + 3))) (hk.mono (fun b hb => .inl hb)) (fun b hb => by
    rcases hb with hb | hb
    · rcases ht b hb with h | h
      · exact .inl (.inl h)
      · exact .inr h
    · exact .inl (.inr hb)))
  have HT := Lib.hid (show ∀ b, (fun b => T1 b ∨ (w.heap.size ≤ b ∧ b < w.heap.size + 3)) b → b < w1.heap.size from fun b hb => by
    have h3 := LX.out.x2.lt
    rcases hb with hb | hb
    · obtain ⟨_, _, _, _, _, _, _, _, h0⟩ := hc
      exact (h0.frm b hb).2
    · omega)
  clear hc hk ht PC o0 o1 o2 o3 o4 o5 o6 o7 o8 o9 HC
  obtain ⟨o0, o1, o2, o3, o4, o5, o6, o7, o8, o9⟩ := cells10 LX.out.x1
  obtain ⟨a0, a1, a2, a3, a4, a5, a6, a7⟩ := cells8 LX.out.x0
  have RF := Lib.hid (RX.out T1 w1 HR.out HT.out)
  clear RX
  go_wp2_with fail
  refine RF.out.mono ?_
  rintro e y5 ⟨AL5, cL5, AG5, cG5, AF5, cF5, AP5, cP5, AA5, cA5, gl5, pl5, al5, rfl, hr1, hb1⟩
  have LX := Lib.hid (LX.out.later (S := fun _ => False) (KeptS.ofBelow hb1) (fun _ h => h.elim))
  have HR := Lib.hid hr1
  have C1 := Lib.hid (C1.out.below hb1)
  have KP := Lib.hid (KP.out.trans (S' := fun _ => False) (KeptS.ofBelow hb1) (fun _ h => h.elim))
  have HT := Lib.hid (show ∀ b, (fun b => T1 b ∨ (w.heap.size ≤ b ∧ b < w.heap.size + 3)) b → b < y5.heap.size from fun b hb => Nat.lt_of_lt_of_le (HT.out b hb) hb1.size)
  have H5 := Lib.hid (show (#[.slice AL5 mj.L.length cL5, .slice AG5 gl5.length cG5, .slice AF5 mj.fx.length cF5, .slice AP5 pl5.length cP5, .slice AA5 al5.length cA5, .int .i64 mj.dep, .int .i64 mj.most, .int .i64 mj.err] : Array Value).all (·.oneCell') = true from by simp [Value.oneCell'])
  have hlj : mj.L.length ≤ 16384 := HR.out.ok.len
  clear hr1 hb1 RF a0 a1 a2 a3 a4 a5 a6 a7 o0 o1 o2 o3 o4 o5 o6 o7 o8 o9
  simp only []
  go_at_K
  repeat (first | (go_big_may; first | (refine wpList_store_row rfl rfT (.tmp 4) (.tmp 65) rfl (w.heap.size) #[.slice AL5 mj.L.length cL5, .slice AG5 gl5.length cG5, .slice AF5 mj.fx.length cF5, .slice AP5 pl5.length cP5, .slice AA5 al5.length cA5, .int .i64 mj.dep, .int .i64 mj.most, .int .i64 mj.err] rfl rfl rfT #[.slice AL m.L.length cL, .slice AG gl.length cG, .slice AF m.fx.length cF, .slice AP pl.length cP, .slice AA al.length cA, .int .i64 m.dep, .int .i64 m.most, .int .i64 m.err] LX.out.x0 S8 rfl H5.out ?_; generalize hZ1 : (y5).setRow (w.heap.size) #[.slice AL5 mj.L.length cL5, .slice AG5 gl5.length cG5, .slice AF5 mj.fx.length cF5, .slice AP5 pl5.length cP5, .slice AA5 al5.length cA5, .int .i64 mj.dep, .int .i64 mj.most, .int .i64 mj.err] = Z1; have HZ1 := Lib.hid hZ1; clear hZ1; have LX1 := Lib.hid (show Lx3 w Z1 rfT opT rfT #[.slice AL5 mj.L.length cL5, .slice AG5 gl5.length cG5, .slice AF5 mj.fx.length cF5, .slice AP5 pl5.length cP5, .slice AA5 al5.length cA5, .int .i64 mj.dep, .int .i64 mj.most, .int .i64 mj.err] _ _ from HZ1.out ▸ LX.out.row0 #[.slice AL5 mj.L.length cL5, .slice AG5 gl5.length cG5, .slice AF5 mj.fx.length cF5, .slice AP5 pl5.length cP5, .slice AA5 al5.length cA5, .int .i64 mj.dep, .int .i64 mj.most, .int .i64 mj.err]); have K1 := Lib.hid (show KeptS (fun b => w.heap.size ≤ b ∧ b < w.heap.size + 3) y5 Z1 from HZ1.out ▸ LX.out.kept0 #[.slice AL5 mj.L.length cL5, .slice AG5 gl5.length cG5, .slice AF5 mj.fx.length cF5, .slice AP5 pl5.length cP5, .slice AA5 al5.length cA5, .int .i64 mj.dep, .int .i64 mj.most, .int .i64 mj.err]); obtain ⟨a0, a1, a2, a3, a4, a5, a6, a7⟩ := cells8 LX1.out.x0; have o7 : Z1.cell? ⟨w.heap.size + 1, 7, none⟩ = some (.int .i64 oa) := LX1.out.x1.cell 7)) | go_values | go_skip | go_guarded | go_step | go_upon)
  have LX := LX1
  have HR := Lib.hid (HR.out.later K1.out (fun b hb => .inr hb))
  have C1 := Lib.hid (C1.out.later K1.out (fun b hb => NB.out b hb) (fun b hb => by have := BG.out; omega))
  have KP := Lib.hid (KP.out.trans K1.out (fun b hb => .inr hb.1))
  have HT := Lib.hid (show ∀ b, (fun b => T1 b ∨ (w.heap.size ≤ b ∧ b < w.heap.size + 3)) b → b < Z1.heap.size from fun b hb => Nat.lt_of_lt_of_le (HT.out b hb) K1.out.size)
  have RF := Lib.hid (refpatch_any (mj.L.length - 1) (oa - mj.L.length) (fun b => T1 b ∨ (w.heap.size ≤ b ∧ b < w.heap.size + 3)) N mj AL5 cL5 AG5 cG5 AF5 cF5 AP5 cP5 AA5 cA5 gl5 pl5 al5 Z1 HR.out HT.out (by have := HN.out; omega))
  rw [M1.out] at RF
  clear LX1 HT K1 HZ1
  refine RF.out.mono ?_
  rintro e y ⟨AL1, cL1, AG1, cG1, AF1, cF1, AP1, cP1, AA1, cA1, gl1, pl1, al1, rfl, hr1, hb1⟩
  have LX := Lib.hid (LX.out.later (S := fun _ => False) (KeptS.ofBelow hb1) (fun _ h => h.elim))
  have RE := Lib.hid hr1
  have C1 := Lib.hid (C1.out.below hb1)
  have KP := Lib.hid (KP.out.trans (S' := fun _ => False) (KeptS.ofBelow hb1) (fun _ h => h.elim))
  have H1 := Lib.hid (show (#[.slice AL1 m1.L.length cL1, .slice AG1 gl1.length cG1, .slice AF1 m1.fx.length cF1, .slice AP1 pl1.length cP1, .slice AA1 al1.length cA1, .int .i64 m1.dep, .int .i64 m1.most, .int .i64 m1.err] : Array Value).all (·.oneCell') = true from by simp [Value.oneCell'])
  clear hr1 hb1 RF HR a0 a1 a2 a3 a4 a5 a6 a7 o7
  simp only []
  go_at_K
  repeat (first | (go_big_may; first | (refine wpList_store_row rfl rfT (.tmp 6) (.tmp 77) rfl (w.heap.size + 1 + 1) #[.slice AL1 m1.L.length cL1, .slice AG1 gl1.length cG1, .slice AF1 m1.fx.length cF1, .slice AP1 pl1.length cP1, .slice AA1 al1.length cA1, .int .i64 m1.dep, .int .i64 m1.most, .int .i64 m1.err] rfl rfl rfT #[.slice none 0 0, .slice none 0 0, .slice none 0 0, .slice none 0 0, .slice none 0 0, .int .i64 0, .int .i64 0, .int .i64 0] LX.out.x2 S8 rfl H1.out ?_; generalize hZZ : (y).setRow (w.heap.size + 1 + 1) #[.slice AL1 m1.L.length cL1, .slice AG1 gl1.length cG1, .slice AF1 m1.fx.length cF1, .slice AP1 pl1.length cP1, .slice AA1 al1.length cA1, .int .i64 m1.dep, .int .i64 m1.most, .int .i64 m1.err] = ZZ; have HZZ := Lib.hid hZZ; clear hZZ)) | go_values | go_skip | go_guarded | go_step | go_upon)
  have KZ := LX.out.kept2 #[.slice AL1 m1.L.length cL1, .slice AG1 gl1.length cG1, .slice AF1 m1.fx.length cF1, .slice AP1 pl1.length cP1, .slice AA1 al1.length cA1, .int .i64 m1.dep, .int .i64 m1.most, .int .i64 m1.err]
  have LZ := LX.out.row2 #[.slice AL1 m1.L.length cL1, .slice AG1 gl1.length cG1, .slice AF1 m1.fx.length cF1, .slice AP1 pl1.length cP1, .slice AA1 al1.length cA1, .int .i64 m1.dep, .int .i64 m1.most, .int .i64 m1.err]
  rw [HZZ.out] at KZ LZ
  have CZ := Lib.hid (C1.out.later KZ (fun b hb => NB.out b hb) (fun b hb => by have := BG.out; omega))
  have RZ := Lib.hid (RE.out.later KZ (fun b hb => .inr hb))
  have KF := Lib.hid (KP.out.trans KZ (fun b hb => .inr hb.1))
  obtain ⟨z0, z1, z2, z3, z4, z5, z6, z7⟩ := cells8 LZ.x2
  clear KZ LZ
  refine bodyPost_ret (v := .agg #[.slice AL1 m1.L.length cL1, .slice AG1 gl1.length cG1, .slice AF1 m1.fx.length cF1, .slice AP1 pl1.length cP1, .slice AA1 al1.length cA1, .int .i64 m1.dep, .int .i64 m1.most, .int .i64 m1.err]) ?_ rfl ⟨T1, AL1, cL1, AG1, cG1, AF1, cF1, AP1, cP1, AA1, cA1, gl1, pl1, al1, rfl, CZ.out.more (show N ≤ N + 2 by omega) (Nat.le_refl _), (RZ.out.less (fun b hb => .inl hb)).more (show N ≤ N + 2 by omega), KF.out, O1.out⟩
  simp [results, Tryd.results23, go_sem, z0, z1, z2, z3, z4, z5, z6, z7]

set_option maxHeartbeats 16000000 in
set_option maxRecDepth 100000 in
theorem wr_none (k : Int) (hk : k ≠ 0 ∧ k ≠ 1 ∧ k ≠ 2 ∧ k ≠ 4 ∧ k ≠ 6 ∧ k ≠ 7 ∧ k ≠ 8) (oi : Ins) (on oa ob oc : Int) (hi : I64I oi) (hon : I64 on) (hoc : I64 oc) (ha1 : -1000 ≤ oa) (ha2 : oa ≤ 1000) (hb1 : -1000000 ≤ ob) (hb2 : ob ≤ 1000000) (B g : Nat) (T : Nat → Prop) (N : Nat) (m : Em) (AL : Option Addr) (cL : Nat) (AG : Option Addr) (cG : Nat) (AF : Option Addr) (cF : Nat) (AP : Option Addr) (cP : Nat) (AA : Option Addr) (cA : Nat) (gl pl al : List Int) (w : World) (hC : CdAt w B g T N m) (hR : RfR w T N m AL cL AG cG AF cF AP cP AA cA gl pl al) (hN : N + 2 ≤ 100000) :
    Calls Tryd.prog 23 #[.pointer (some ⟨g, 0, none⟩), .agg #[.slice AL m.L.length cL, .slice AG gl.length cG, .slice AF m.fx.length cF, .slice AP pl.length cP, .slice AA al.length cA, .int .i64 m.dep, .int .i64 m.most, .int .i64 m.err], .agg #[.int .i64 k, .int .i64 oi.op, .int .i64 oi.a, .int .i64 oi.b, .int .i64 oi.c, .int .i64 oi.n, .int .i64 on, .int .i64 oa, .int .i64 ob, .int .i64 oc]] w (DoP B g T (N + 2) w m) := by
  have b1 := (Below.refl w.heap.size w).alloc (Nat.le_refl _) (.cells #[.slice AL m.L.length cL, .slice AG gl.length cG, .slice AF m.fx.length cF, .slice AP pl.length cP, .slice AA al.length cA, .int .i64 m.dep, .int .i64 m.most, .int .i64 m.err] rfT)
  have b2 := b1.alloc b1.size (.cells #[.int .i64 k, .int .i64 oi.op, .int .i64 oi.a, .int .i64 oi.b, .int .i64 oi.c, .int .i64 oi.n, .int .i64 on, .int .i64 oa, .int .i64 ob, .int .i64 oc] opT)
  have b3 := b2.alloc b2.size (.cells #[.slice none 0 0, .slice none 0 0, .slice none 0 0, .slice none 0 0, .slice none 0 0, .int .i64 0, .int .i64 0, .int .i64 0] rfT)
  have LX := Lib.hid (show Lx3 w (((w.alloc (.cells #[.slice AL m.L.length cL, .slice AG gl.length cG, .slice AF m.fx.length cF, .slice AP pl.length cP, .slice AA al.length cA, .int .i64 m.dep, .int .i64 m.most, .int .i64 m.err] rfT)).alloc (.cells #[.int .i64 k, .int .i64 oi.op, .int .i64 oi.a, .int .i64 oi.b, .int .i64 oi.c, .int .i64 oi.n, .int .i64 on, .int .i64 oa, .int .i64 ob, .int .i64 oc] opT)).alloc (.cells #[.slice none 0 0, .slice none 0 0, .slice none 0 0, .slice none 0 0, .slice none 0 0, .int .i64 0, .int .i64 0, .int .i64 0] rfT)) rfT opT rfT #[.slice AL m.L.length cL, .slice AG gl.length cG, .slice AF m.fx.length cF, .slice AP pl.length cP, .slice AA al.length cA, .int .i64 m.dep, .int .i64 m.most, .int .i64 m.err] #[.int .i64 k, .int .i64 oi.op, .int .i64 oi.a, .int .i64 oi.b, .int .i64 oi.c, .int .i64 oi.n, .int .i64 on, .int .i64 oa, .int .i64 ob, .int .i64 oc] #[.slice none 0 0, .slice none 0 0, .slice none 0 0, .slice none 0 0, .slice none 0 0, .int .i64 0, .int .i64 0, .int .i64 0] from ⟨((Whole.made w rfT #[.slice AL m.L.length cL, .slice AG gl.length cG, .slice AF m.fx.length cF, .slice AP pl.length cP, .slice AA al.length cA, .int .i64 m.dep, .int .i64 m.most, .int .i64 m.err] _ rfl).alloc _).alloc _, (Whole.made (w.alloc (.cells #[.slice AL m.L.length cL, .slice AG gl.length cG, .slice AF m.fx.length cF, .slice AP pl.length cP, .slice AA al.length cA, .int .i64 m.dep, .int .i64 m.most, .int .i64 m.err] rfT)) opT #[.int .i64 k, .int .i64 oi.op, .int .i64 oi.a, .int .i64 oi.b, .int .i64 oi.c, .int .i64 oi.n, .int .i64 on, .int .i64 oa, .int .i64 ob, .int .i64 oc] _ (by simp)).alloc _, Whole.made ((w.alloc (.cells #[.slice AL m.L.length cL, .slice AG gl.length cG, .slice AF m.fx.length cF, .slice AP pl.length cP, .slice AA al.length cA, .int .i64 m.dep, .int .i64 m.most, .int .i64 m.err] rfT)).alloc (.cells #[.int .i64 k, .int .i64 oi.op, .int .i64 oi.a, .int .i64 oi.b, .int .i64 oi.c, .int .i64 oi.n, .int .i64 on, .int .i64 oa, .int .i64 ob, .int .i64 oc] opT)) rfT #[.slice none 0 0, .slice none 0 0, .slice none 0 0, .slice none 0 0, .slice none 0 0, .int .i64 0, .int .i64 0, .int .i64 0] _ (by simp)⟩)
  have HR := Lib.hid ((hR.boxed 3).below b3)
  have HC := Lib.hid (hC.below b3)
  have BV := Lib.hid b3
  have HN := Lib.hid hN
  have TW := Lib.hid (show ∀ b, T b → b < w.heap.size from by
    obtain ⟨_, _, _, _, _, _, _, _, h0⟩ := hC
    exact fun b hb => (h0.frm b hb).2)
  have BG := Lib.hid (show B ≤ g ∧ g < w.heap.size from by
    obtain ⟨_, _, _, _, _, _, _, _, h0⟩ := hC
    exact h0.frm g h0.tg)
  have S8 : (Tryd.prog.info? rfT).map (·.size) = some 8 := by kernel_rfl
  clear hC hR b1 b2 b3
  obtain ⟨o0, o1, o2, o3, o4, o5, o6, o7, o8, o9⟩ := cells10 LX.out.x1
  have n0 : (k == 0) = false := beq_eq_false_iff_ne.2 (by omega)
  have n1 : (k == 1) = false := beq_eq_false_iff_ne.2 (by omega)
  have n2 : (k == 2) = false := beq_eq_false_iff_ne.2 (by omega)
  have n4 : (k == 4) = false := beq_eq_false_iff_ne.2 (by omega)
  have n6 : (k == 6) = false := beq_eq_false_iff_ne.2 (by omega)
  have n7 : (k == 7) = false := beq_eq_false_iff_ne.2 (by omega)
  have n8 : (k == 8) = false := beq_eq_false_iff_ne.2 (by omega)
  obtain ⟨a0, a1, a2, a3, a4, a5, a6, a7⟩ := cells8 LX.out.x0
  have C1 := HC
  have RE := HR
  have NB := Lib.hid (show ∀ b, (w.heap.size ≤ b ∧ b < w.heap.size + 3) → ¬ T b from fun b hb h => by have := TW.out b h; omega)
  have KP := Lib.hid (show KeptS T w (((w.alloc (.cells #[.slice AL m.L.length cL, .slice AG gl.length cG, .slice AF m.fx.length cF, .slice AP pl.length cP, .slice AA al.length cA, .int .i64 m.dep, .int .i64 m.most, .int .i64 m.err] rfT)).alloc (.cells #[.int .i64 k, .int .i64 oi.op, .int .i64 oi.a, .int .i64 oi.b, .int .i64 oi.c, .int .i64 oi.n, .int .i64 on, .int .i64 oa, .int .i64 ob, .int .i64 oc] opT)).alloc (.cells #[.slice none 0 0, .slice none 0 0, .slice none 0 0, .slice none 0 0, .slice none 0 0, .int .i64 0, .int .i64 0, .int .i64 0] rfT)) from KeptS.ofBelow BV.out)
  have O1 := Lib.hid (show ∀ b, T b → T b ∨ w.heap.size ≤ b from fun b h => .inl h)
  have H1 := Lib.hid (show (#[.slice AL m.L.length cL, .slice AG gl.length cG, .slice AF m.fx.length cF, .slice AP pl.length cP, .slice AA al.length cA, .int .i64 m.dep, .int .i64 m.most, .int .i64 m.err] : Array Value).all (·.oneCell') = true from by simp [Value.oneCell'])
  clear hi hon hoc hk
  go_enter Tryd.func23, Tryd.ntmps23
  repeat (first | (go_big_may; first | (refine wpList_store_row rfl rfT (.tmp 6) (.tmp 9) rfl (w.heap.size + 1 + 1) #[.slice AL m.L.length cL, .slice AG gl.length cG, .slice AF m.fx.length cF, .slice AP pl.length cP, .slice AA al.length cA, .int .i64 m.dep, .int .i64 m.most, .int .i64 m.err] rfl rfl rfT #[.slice none 0 0, .slice none 0 0, .slice none 0 0, .slice none 0 0, .slice none 0 0, .int .i64 0, .int .i64 0, .int .i64 0] LX.out.x2 S8 rfl H1.out ?_; generalize hZZ : ((((w.alloc (.cells #[.slice AL m.L.length cL, .slice AG gl.length cG, .slice AF m.fx.length cF, .slice AP pl.length cP, .slice AA al.length cA, .int .i64 m.dep, .int .i64 m.most, .int .i64 m.err] rfT)).alloc (.cells #[.int .i64 k, .int .i64 oi.op, .int .i64 oi.a, .int .i64 oi.b, .int .i64 oi.c, .int .i64 oi.n, .int .i64 on, .int .i64 oa, .int .i64 ob, .int .i64 oc] opT)).alloc (.cells #[.slice none 0 0, .slice none 0 0, .slice none 0 0, .slice none 0 0, .slice none 0 0, .int .i64 0, .int .i64 0, .int .i64 0] rfT))).setRow (w.heap.size + 1 + 1) #[.slice AL m.L.length cL, .slice AG gl.length cG, .slice AF m.fx.length cF, .slice AP pl.length cP, .slice AA al.length cA, .int .i64 m.dep, .int .i64 m.most, .int .i64 m.err] = ZZ; have HZZ := Lib.hid hZZ; clear hZZ)) | go_values | go_skip | go_guarded | go_step | go_upon)
  have KZ := LX.out.kept2 #[.slice AL m.L.length cL, .slice AG gl.length cG, .slice AF m.fx.length cF, .slice AP pl.length cP, .slice AA al.length cA, .int .i64 m.dep, .int .i64 m.most, .int .i64 m.err]
  have LZ := LX.out.row2 #[.slice AL m.L.length cL, .slice AG gl.length cG, .slice AF m.fx.length cF, .slice AP pl.length cP, .slice AA al.length cA, .int .i64 m.dep, .int .i64 m.most, .int .i64 m.err]
  rw [HZZ.out] at KZ LZ
  have CZ := Lib.hid (C1.out.later KZ (fun b hb => NB.out b hb) (fun b hb => by have := BG.out; omega))
  have RZ := Lib.hid (RE.out.later KZ (fun b hb => .inr hb))
  have KF := Lib.hid (KP.out.trans KZ (fun b hb => .inr hb.1))
  obtain ⟨z0, z1, z2, z3, z4, z5, z6, z7⟩ := cells8 LZ.x2
  clear KZ LZ
  refine bodyPost_ret (v := .agg #[.slice AL m.L.length cL, .slice AG gl.length cG, .slice AF m.fx.length cF, .slice AP pl.length cP, .slice AA al.length cA, .int .i64 m.dep, .int .i64 m.most, .int .i64 m.err]) ?_ rfl ⟨T, AL, cL, AG, cG, AF, cF, AP, cP, AA, cA, gl, pl, al, rfl, CZ.out.more (show N ≤ N + 2 by omega) (Nat.le_refl _), (RZ.out.less (fun b hb => .inl hb)).more (show N ≤ N + 2 by omega), KF.out, O1.out⟩
  simp [results, Tryd.results23, go_sem, z0, z1, z2, z3, z4, z5, z6, z7]

/-- What a call that writes makes of it. -/
def wrM (k : Int) (oi : Ins) (on oa ob oc : Int) (m : Em) : Em :=
  if k = 0 then putE m oi else if k = 1 then numE m oa (wrap32 on) else if k = 2 then putE m ⟨22, 0, 0, 0, 0⟩ else if k = 4 then patchE (putE m ⟨22, 0, 0, 0, 0⟩) ((putE m ⟨22, 0, 0, 0, 0⟩).L.length - 1) (oa - (putE m ⟨22, 0, 0, 0, 0⟩).L.length) else if k = 6 then fixE m on oa ob oc else if k = 7 then pushE m oa else if k = 8 then popE m oa else m

theorem writes_any (k : Int) (oi : Ins) (on oa ob oc : Int) (hi : I64I oi) (hon : I64 on) (hoc : I64 oc) (ha1 : -1000 ≤ oa) (ha2 : oa ≤ 1000) (hb1 : -1000000 ≤ ob) (hb2 : ob ≤ 1000000) (B g : Nat) (T : Nat → Prop) (N : Nat) (m : Em) (AL : Option Addr) (cL : Nat) (AG : Option Addr) (cG : Nat) (AF : Option Addr) (cF : Nat) (AP : Option Addr) (cP : Nat) (AA : Option Addr) (cA : Nat) (gl pl al : List Int) (w : World) (hC : CdAt w B g T N m) (hR : RfR w T N m AL cL AG cG AF cF AP cP AA cA gl pl al) (hN : N + 2 ≤ 100000) :
    Calls Tryd.prog 23 #[.pointer (some ⟨g, 0, none⟩), .agg #[.slice AL m.L.length cL, .slice AG gl.length cG, .slice AF m.fx.length cF, .slice AP pl.length cP, .slice AA al.length cA, .int .i64 m.dep, .int .i64 m.most, .int .i64 m.err], .agg #[.int .i64 k, .int .i64 oi.op, .int .i64 oi.a, .int .i64 oi.b, .int .i64 oi.c, .int .i64 oi.n, .int .i64 on, .int .i64 oa, .int .i64 ob, .int .i64 oc]] w (DoP B g T (N + 2) w (wrM k oi on oa ob oc m)) := by
  unfold wrM
  by_cases h0 : k = 0
  · subst h0; rw [if_pos rfl]; exact wr_put oi on oa ob oc hi hon hoc ha1 ha2 hb1 hb2 B g T N m AL cL AG cG AF cF AP cP AA cA gl pl al w hC hR hN
  rw [if_neg h0]
  by_cases h1 : k = 1
  · subst h1; rw [if_pos rfl]; exact wr_number oi on oa ob oc hi hon hoc ha1 ha2 hb1 hb2 B g T N m AL cL AG cG AF cF AP cP AA cA gl pl al w hC hR hN
  rw [if_neg h1]
  by_cases h2 : k = 2
  · subst h2; rw [if_pos rfl]; exact wr_jump oi on oa ob oc hi hon hoc ha1 ha2 hb1 hb2 B g T N m AL cL AG cG AF cF AP cP AA cA gl pl al w hC hR hN
  rw [if_neg h2]
  by_cases h4 : k = 4
  · subst h4; rw [if_pos rfl]; exact wr_back oi on oa ob oc hi hon hoc ha1 ha2 hb1 hb2 B g T N m AL cL AG cG AF cF AP cP AA cA gl pl al w hC hR hN
  rw [if_neg h4]
  by_cases h6 : k = 6
  · subst h6; rw [if_pos rfl]; exact wr_fix oi on oa ob oc hi hon hoc ha1 ha2 hb1 hb2 B g T N m AL cL AG cG AF cF AP cP AA cA gl pl al w hC hR hN
  rw [if_neg h6]
  by_cases h7 : k = 7
  · subst h7; rw [if_pos rfl]; exact wr_push oi on oa ob oc hi hon hoc ha1 ha2 hb1 hb2 B g T N m AL cL AG cG AF cF AP cP AA cA gl pl al w hC hR hN
  rw [if_neg h7]
  by_cases h8 : k = 8
  · subst h8; rw [if_pos rfl]; exact wr_pop oi on oa ob oc hi hon hoc ha1 ha2 hb1 hb2 B g T N m AL cL AG cG AF cF AP cP AA cA gl pl al w hC hR hN
  rw [if_neg h8]
  exact wr_none k ⟨h0, h1, h2, h4, h6, h7, h8⟩ oi on oa ob oc hi hon hoc ha1 ha2 hb1 hb2 B g T N m AL cL AG cG AF cF AP cP AA cA gl pl al w hC hR hN
end Go.Proofs.YtcijjmmckofckaaDoor
