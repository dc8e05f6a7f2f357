/- Emit: the law's others. -/
import Derived.Test.YtcijjmmckofckaaDoorEmtV
import Derived.StillTailTactics
namespace Go.Proofs.YtcijjmmckofckaaDoor
open Go.ChangeShapes Go.WideShapes Go.ChangeAt Go.RowKit
set_option linter.unusedVariables false
set_option linter.unusedSimpArgs false

theorem islice_any (A : Option Addr) (m n c : Nat) (hA : A = none ∨ ∃ g, A = some ⟨g, 0, none⟩) (h : m ≤ c) : ∀ W, (Instr.slice 26 (.slice A n c) none (some (.int .i64 m)) none).run Tryd.prog W = .ok (.slice A m c) W := fun W => by
  have hs : Tryd.prog.underlying 26 = some (.slice (Tryd.prog.elem 26)) := by kernel_rfl
  rw [run_slice_h W 26 A n c hs .i64 m (by omega) (by omega)]
  have hz : (sizeOf (Tryd.prog.elem 26)).run Tryd.prog W = .ok 1 W := by simp [sizeOf, typeInfo, show Tryd.prog.info? (Tryd.prog.elem 26) = some Tryd.t3 from by kernel_rfl]; kernel_rfl
  rw [hz]
  rcases hA with rfl | ⟨g, rfl⟩ <;> simp [Result.andThen, sliced, Addr.add]

theorem row_addr {w : World} {B : Nat} {e : TypeId} {sz n m c : Nat} {A : Option Addr} {xs : List Value} (h : w.ownsRow B e sz (.slice A m c) n xs) : A = none ∨ ∃ g, A = some ⟨g, 0, none⟩ := by
  rcases h.2 with ⟨h1, _⟩ | ⟨g, cap, cur, h1, _⟩
  · injection h1 with h1 _ _
    exact .inl h1
  · injection h1 with h1 _ _
    exact .inr ⟨g, h1⟩

theorem epatch_any (x n : Int) (hn : I64 n) (B g : Nat) (T : Nat → Prop) (N : Nat) (m : Em) (w : World) (h : CdAt w B g T N m) (hN : N ≤ 100000) :
    Calls Tryd.prog 39 #[.pointer (some ⟨g, 0, none⟩), .int .i64 x, .int .i64 n] w fun e w' => e = .returned (.tuple #[]) ∧ CdPost w w' B g T N (patchE m x n) := by
  have PE := patch_any x n hn B g T N m w h hN
  rwa [← patch_len m x n] at PE

theorem efail_any (x : Int) (B g : Nat) (T : Nat → Prop) (N : Nat) (m : Em) (w : World) (h : CdAt w B g T N m) :
    Calls Tryd.prog 45 #[.pointer (some ⟨g, 0, none⟩), .int .i64 x] w fun e w' => e = .returned (.tuple #[]) ∧ CdPost w w' B g T N (failE m x) :=
  fail_any x B g T N m.L.length m w h

set_option maxHeartbeats 16000000 in
set_option maxRecDepth 100000 in
theorem ot_land (oi : Ins) (on oa ob oc : Int) (hi : I64I oi) (hon : I64 on) (hoc : I64 oc) (ha1 : -1000 ≤ oa) (ha2 : oa ≤ 1000) (hb1 : -1000000 ≤ ob) (hb2 : ob ≤ 1000000) (B g : Nat) (T : Nat → Prop) (N : Nat) (m : Em) (AL : Option Addr) (cL : Nat) (AG : Option Addr) (cG : Nat) (AF : Option Addr) (cF : Nat) (AP : Option Addr) (cP : Nat) (AA : Option Addr) (cA : Nat) (gl pl al : List Int) (w : World) (hC : CdAt w B g T N m) (hR : RfR w T N m AL cL AG cG AF cF AP cP AA cA gl pl al) (hN : N + 2 ≤ 100000) :
    Calls Tryd.prog 22 #[.pointer (some ⟨g, 0, none⟩), .agg #[.slice AL m.L.length cL, .slice AG gl.length cG, .slice AF m.fx.length cF, .slice AP pl.length cP, .slice AA al.length cA, .int .i64 m.dep, .int .i64 m.most, .int .i64 m.err], .agg #[.int .i64 3, .int .i64 oi.op, .int .i64 oi.a, .int .i64 oi.b, .int .i64 oi.c, .int .i64 oi.n, .int .i64 on, .int .i64 oa, .int .i64 ob, .int .i64 oc]] w (DoP B g T (N + 2) w (patchE m oa (m.L.length - oa - 1))) := by
  have b1 := (Below.refl w.heap.size w).alloc (Nat.le_refl _) (.cells #[.slice AL m.L.length cL, .slice AG gl.length cG, .slice AF m.fx.length cF, .slice AP pl.length cP, .slice AA al.length cA, .int .i64 m.dep, .int .i64 m.most, .int .i64 m.err] rfT)
  have b2 := b1.alloc b1.size (.cells #[.int .i64 3, .int .i64 oi.op, .int .i64 oi.a, .int .i64 oi.b, .int .i64 oi.c, .int .i64 oi.n, .int .i64 on, .int .i64 oa, .int .i64 ob, .int .i64 oc] opT)
  have b3 := b2.alloc b2.size (.cells #[.slice none 0 0, .slice none 0 0, .slice none 0 0, .slice none 0 0, .slice none 0 0, .int .i64 0, .int .i64 0, .int .i64 0] rfT)
  have LX := Lib.hid (show Lx3 w (((w.alloc (.cells #[.slice AL m.L.length cL, .slice AG gl.length cG, .slice AF m.fx.length cF, .slice AP pl.length cP, .slice AA al.length cA, .int .i64 m.dep, .int .i64 m.most, .int .i64 m.err] rfT)).alloc (.cells #[.int .i64 3, .int .i64 oi.op, .int .i64 oi.a, .int .i64 oi.b, .int .i64 oi.c, .int .i64 oi.n, .int .i64 on, .int .i64 oa, .int .i64 ob, .int .i64 oc] opT)).alloc (.cells #[.slice none 0 0, .slice none 0 0, .slice none 0 0, .slice none 0 0, .slice none 0 0, .int .i64 0, .int .i64 0, .int .i64 0] rfT)) rfT opT rfT #[.slice AL m.L.length cL, .slice AG gl.length cG, .slice AF m.fx.length cF, .slice AP pl.length cP, .slice AA al.length cA, .int .i64 m.dep, .int .i64 m.most, .int .i64 m.err] #[.int .i64 3, .int .i64 oi.op, .int .i64 oi.a, .int .i64 oi.b, .int .i64 oi.c, .int .i64 oi.n, .int .i64 on, .int .i64 oa, .int .i64 ob, .int .i64 oc] #[.slice none 0 0, .slice none 0 0, .slice none 0 0, .slice none 0 0, .slice none 0 0, .int .i64 0, .int .i64 0, .int .i64 0] from ⟨((Whole.made w rfT #[.slice AL m.L.length cL, .slice AG gl.length cG, .slice AF m.fx.length cF, .slice AP pl.length cP, .slice AA al.length cA, .int .i64 m.dep, .int .i64 m.most, .int .i64 m.err] _ rfl).alloc _).alloc _, (Whole.made (w.alloc (.cells #[.slice AL m.L.length cL, .slice AG gl.length cG, .slice AF m.fx.length cF, .slice AP pl.length cP, .slice AA al.length cA, .int .i64 m.dep, .int .i64 m.most, .int .i64 m.err] rfT)) opT #[.int .i64 3, .int .i64 oi.op, .int .i64 oi.a, .int .i64 oi.b, .int .i64 oi.c, .int .i64 oi.n, .int .i64 on, .int .i64 oa, .int .i64 ob, .int .i64 oc] _ (by simp)).alloc _, Whole.made ((w.alloc (.cells #[.slice AL m.L.length cL, .slice AG gl.length cG, .slice AF m.fx.length cF, .slice AP pl.length cP, .slice AA al.length cA, .int .i64 m.dep, .int .i64 m.most, .int .i64 m.err] rfT)).alloc (.cells #[.int .i64 3, .int .i64 oi.op, .int .i64 oi.a, .int .i64 oi.b, .int .i64 oi.c, .int .i64 oi.n, .int .i64 on, .int .i64 oa, .int .i64 ob, .int .i64 oc] opT)) rfT #[.slice none 0 0, .slice none 0 0, .slice none 0 0, .slice none 0 0, .slice none 0 0, .int .i64 0, .int .i64 0, .int .i64 0] _ (by simp)⟩)
  have HR := Lib.hid ((hR.boxed 3).below b3)
  have HC := Lib.hid (hC.below b3)
  have BV := Lib.hid b3
  have HN := Lib.hid hN
  have TW := Lib.hid (show ∀ b, T b → b < w.heap.size from by
    obtain ⟨_, _, _, _, _, _, _, _, h0⟩ := hC
    exact fun b hb => (h0.frm b hb).2)
  have BG := Lib.hid (show B ≤ g ∧ g < w.heap.size from by
    obtain ⟨_, _, _, _, _, _, _, _, h0⟩ := hC
    exact h0.frm g h0.tg)
  have S8 : (Tryd.prog.info? rfT).map (·.size) = some 8 := by kernel_rfl
  clear hC hR b1 b2 b3
  obtain ⟨o0, o1, o2, o3, o4, o5, o6, o7, o8, o9⟩ := cells10 LX.out.x1
  have hl16 : m.L.length ≤ 16384 := by obtain ⟨_, _, _, _, _, _, _, _, h0⟩ := HC.out; exact h0.ok.len
  have PC := Lib.hid (land_any oa (by omega) (by omega) B g T N m (((w.alloc (.cells #[.slice AL m.L.length cL, .slice AG gl.length cG, .slice AF m.fx.length cF, .slice AP pl.length cP, .slice AA al.length cA, .int .i64 m.dep, .int .i64 m.most, .int .i64 m.err] rfT)).alloc (.cells #[.int .i64 3, .int .i64 oi.op, .int .i64 oi.a, .int .i64 oi.b, .int .i64 oi.c, .int .i64 oi.n, .int .i64 on, .int .i64 oa, .int .i64 ob, .int .i64 oc] opT)).alloc (.cells #[.slice none 0 0, .slice none 0 0, .slice none 0 0, .slice none 0 0, .slice none 0 0, .int .i64 0, .int .i64 0, .int .i64 0] rfT)) HC.out (by have := HN.out; omega))
  have RX := Lib.hid (fun (T1 : Nat → Prop) w1 (hr : RfR w1 (fun b => T1 b ∨ (w.heap.size ≤ b ∧ b < w.heap.size + 3)) N m AL cL AG cG AF cF AP cP AA cA gl pl al) (ht : ∀ b, (fun b => T1 b ∨ (w.heap.size ≤ b ∧ b < w.heap.size + 3)) b → b < w1.heap.size) => refpatch_any oa (m.L.length - oa - 1) (fun b => T1 b ∨ (w.heap.size ≤ b ∧ b < w.heap.size + 3)) N m AL cL AG cG AF cF AP cP AA cA gl pl al w1 hr ht (by have := HN.out; omega))
  clear hi hon hoc
  generalize patchE m oa (m.L.length - oa - 1) = m1 at *
  go_enter Tryd.func22, Tryd.ntmps22
  go_wp2_with fail
  generalize (((w.alloc (.cells #[.slice AL m.L.length cL, .slice AG gl.length cG, .slice AF m.fx.length cF, .slice AP pl.length cP, .slice AA al.length cA, .int .i64 m.dep, .int .i64 m.most, .int .i64 m.err] rfT)).alloc (.cells #[.int .i64 3, .int .i64 oi.op, .int .i64 oi.a, .int .i64 oi.b, .int .i64 oi.c, .int .i64 oi.n, .int .i64 on, .int .i64 oa, .int .i64 ob, .int .i64 oc] opT)).alloc (.cells #[.slice none 0 0, .slice none 0 0, .slice none 0 0, .slice none 0 0, .slice none 0 0, .int .i64 0, .int .i64 0, .int .i64 0] rfT)) = V at *
  refine PC.out.mono ?_
  rintro e w1 ⟨rfl, T1, hc, hk, ht⟩
  have KP := Lib.hid ((show KeptS T w V from KeptS.ofBelow BV.out).trans hk (fun b hb => .inl hb))
  have O1 := Lib.hid (show ∀ b, T1 b → T b ∨ w.heap.size ≤ b from fun b hb => by
    rcases ht b hb with h | h
    · exact .inl h
    · exact .inr (Nat.le_trans BV.out.size h))
  have NB := Lib.hid (show ∀ b, (w.heap.size ≤ b ∧ b < w.heap.size + 3) → ¬ T1 b from fun b hb h => by
    have h3 := LX.out.x2.lt
    rcases ht b h with h | h
    · have := TW.out b h
      omega
    · omega)
  have LX := Lib.hid (LX.out.later hk (fun b hb h => by have := TW.out b hb; omega))
  have C1 := Lib.hid hc
  have HR := Lib.hid (HR.out.kept (T' := (fun b => T1 b ∨ (w.heap.size ≤ b ∧ b < w.heap.size + 3))) (hk.mono (fun b hb => .inl hb)) (fun b hb => by
    rcases hb with hb | hb
    · rcases ht b hb with h | h
      · exact .inl (.inl h)
      · exact .inr h
    · exact .inl (.inr hb)))
  have HT := Lib.hid (show ∀ b, (fun b => T1 b ∨ (w.heap.size ≤ b ∧ b < w.heap.size + 3)) b → b < w1.heap.size from fun b hb => by
    have h3 := LX.out.x2.lt
    rcases hb with hb | hb
    · obtain ⟨_, _, _, _, _, _, _, _, h0⟩ := hc
      exact (h0.frm b hb).2
    · omega)
  clear hc hk ht PC o0 o1 o2 o3 o4 o5 o6 o7 o8 o9 HC
  obtain ⟨o0, o1, o2, o3, o4, o5, o6, o7, o8, o9⟩ := cells10 LX.out.x1
  obtain ⟨a0, a1, a2, a3, a4, a5, a6, a7⟩ := cells8 LX.out.x0
  have RF := Lib.hid (RX.out T1 w1 HR.out HT.out)
  clear RX HT
  go_wp2_with fail
  refine RF.out.mono ?_
  rintro e y ⟨AL1, cL1, AG1, cG1, AF1, cF1, AP1, cP1, AA1, cA1, gl1, pl1, al1, rfl, hr1, hb1⟩
  have LX := Lib.hid (LX.out.later (S := fun _ => False) (KeptS.ofBelow hb1) (fun _ h => h.elim))
  have RE := Lib.hid hr1
  have C1 := Lib.hid (C1.out.below hb1)
  have KP := Lib.hid (KP.out.trans (S' := fun _ => False) (KeptS.ofBelow hb1) (fun _ h => h.elim))
  have H1 := Lib.hid (show (#[.slice AL1 m1.L.length cL1, .slice AG1 gl1.length cG1, .slice AF1 m1.fx.length cF1, .slice AP1 pl1.length cP1, .slice AA1 al1.length cA1, .int .i64 m1.dep, .int .i64 m1.most, .int .i64 m1.err] : Array Value).all (·.oneCell') = true from by simp [Value.oneCell'])
  clear hr1 hb1 RF HR a0 a1 a2 a3 a4 a5 a6 a7 o0 o1 o2 o3 o4 o5 o6 o7 o8 o9
  simp only []
  go_at_K
  repeat (first | (go_big_may; first | (refine wpList_store_row rfl rfT (.tmp 6) (.tmp 28) rfl (w.heap.size + 1 + 1) #[.slice AL1 m1.L.length cL1, .slice AG1 gl1.length cG1, .slice AF1 m1.fx.length cF1, .slice AP1 pl1.length cP1, .slice AA1 al1.length cA1, .int .i64 m1.dep, .int .i64 m1.most, .int .i64 m1.err] rfl rfl rfT #[.slice none 0 0, .slice none 0 0, .slice none 0 0, .slice none 0 0, .slice none 0 0, .int .i64 0, .int .i64 0, .int .i64 0] LX.out.x2 S8 rfl H1.out ?_; generalize hZZ : (y).setRow (w.heap.size + 1 + 1) #[.slice AL1 m1.L.length cL1, .slice AG1 gl1.length cG1, .slice AF1 m1.fx.length cF1, .slice AP1 pl1.length cP1, .slice AA1 al1.length cA1, .int .i64 m1.dep, .int .i64 m1.most, .int .i64 m1.err] = ZZ; have HZZ := Lib.hid hZZ; clear hZZ)) | go_values | go_skip | go_guarded | go_step | go_upon)
  have KZ := LX.out.kept2 #[.slice AL1 m1.L.length cL1, .slice AG1 gl1.length cG1, .slice AF1 m1.fx.length cF1, .slice AP1 pl1.length cP1, .slice AA1 al1.length cA1, .int .i64 m1.dep, .int .i64 m1.most, .int .i64 m1.err]
  have LZ := LX.out.row2 #[.slice AL1 m1.L.length cL1, .slice AG1 gl1.length cG1, .slice AF1 m1.fx.length cF1, .slice AP1 pl1.length cP1, .slice AA1 al1.length cA1, .int .i64 m1.dep, .int .i64 m1.most, .int .i64 m1.err]
  rw [HZZ.out] at KZ LZ
  have CZ := Lib.hid (C1.out.later KZ (fun b hb => NB.out b hb) (fun b hb => by have := BG.out; omega))
  have RZ := Lib.hid (RE.out.later KZ (fun b hb => .inr hb))
  have KF := Lib.hid (KP.out.trans KZ (fun b hb => .inr hb.1))
  obtain ⟨z0, z1, z2, z3, z4, z5, z6, z7⟩ := cells8 LZ.x2
  clear KZ LZ
  refine bodyPost_ret (v := .agg #[.slice AL1 m1.L.length cL1, .slice AG1 gl1.length cG1, .slice AF1 m1.fx.length cF1, .slice AP1 pl1.length cP1, .slice AA1 al1.length cA1, .int .i64 m1.dep, .int .i64 m1.most, .int .i64 m1.err]) ?_ rfl ⟨T1, AL1, cL1, AG1, cG1, AF1, cF1, AP1, cP1, AA1, cA1, gl1, pl1, al1, rfl, CZ.out.more (show N ≤ N + 2 by omega) (Nat.le_refl _), (RZ.out.less (fun b hb => .inl hb)).more (show N ≤ N + 2 by omega), KF.out, O1.out⟩
  simp [results, Tryd.results22, go_sem, z0, z1, z2, z3, z4, z5, z6, z7]

set_option maxHeartbeats 16000000 in
set_option maxRecDepth 100000 in
theorem ot_patch (oi : Ins) (on oa ob oc : Int) (hi : I64I oi) (hon : I64 on) (hoc : I64 oc) (ha1 : -1000 ≤ oa) (ha2 : oa ≤ 1000) (hb1 : -1000000 ≤ ob) (hb2 : ob ≤ 1000000) (B g : Nat) (T : Nat → Prop) (N : Nat) (m : Em) (AL : Option Addr) (cL : Nat) (AG : Option Addr) (cG : Nat) (AF : Option Addr) (cF : Nat) (AP : Option Addr) (cP : Nat) (AA : Option Addr) (cA : Nat) (gl pl al : List Int) (w : World) (hC : CdAt w B g T N m) (hR : RfR w T N m AL cL AG cG AF cF AP cP AA cA gl pl al) (hN : N + 2 ≤ 100000) :
    Calls Tryd.prog 22 #[.pointer (some ⟨g, 0, none⟩), .agg #[.slice AL m.L.length cL, .slice AG gl.length cG, .slice AF m.fx.length cF, .slice AP pl.length cP, .slice AA al.length cA, .int .i64 m.dep, .int .i64 m.most, .int .i64 m.err], .agg #[.int .i64 5, .int .i64 oi.op, .int .i64 oi.a, .int .i64 oi.b, .int .i64 oi.c, .int .i64 oi.n, .int .i64 on, .int .i64 oa, .int .i64 ob, .int .i64 oc]] w (DoP B g T (N + 2) w (patchE m oa ob)) := by
  have b1 := (Below.refl w.heap.size w).alloc (Nat.le_refl _) (.cells #[.slice AL m.L.length cL, .slice AG gl.length cG, .slice AF m.fx.length cF, .slice AP pl.length cP, .slice AA al.length cA, .int .i64 m.dep, .int .i64 m.most, .int .i64 m.err] rfT)
  have b2 := b1.alloc b1.size (.cells #[.int .i64 5, .int .i64 oi.op, .int .i64 oi.a, .int .i64 oi.b, .int .i64 oi.c, .int .i64 oi.n, .int .i64 on, .int .i64 oa, .int .i64 ob, .int .i64 oc] opT)
  have b3 := b2.alloc b2.size (.cells #[.slice none 0 0, .slice none 0 0, .slice none 0 0, .slice none 0 0, .slice none 0 0, .int .i64 0, .int .i64 0, .int .i64 0] rfT)
  have LX := Lib.hid (show Lx3 w (((w.alloc (.cells #[.slice AL m.L.length cL, .slice AG gl.length cG, .slice AF m.fx.length cF, .slice AP pl.length cP, .slice AA al.length cA, .int .i64 m.dep, .int .i64 m.most, .int .i64 m.err] rfT)).alloc (.cells #[.int .i64 5, .int .i64 oi.op, .int .i64 oi.a, .int .i64 oi.b, .int .i64 oi.c, .int .i64 oi.n, .int .i64 on, .int .i64 oa, .int .i64 ob, .int .i64 oc] opT)).alloc (.cells #[.slice none 0 0, .slice none 0 0, .slice none 0 0, .slice none 0 0, .slice none 0 0, .int .i64 0, .int .i64 0, .int .i64 0] rfT)) rfT opT rfT #[.slice AL m.L.length cL, .slice AG gl.length cG, .slice AF m.fx.length cF, .slice AP pl.length cP, .slice AA al.length cA, .int .i64 m.dep, .int .i64 m.most, .int .i64 m.err] #[.int .i64 5, .int .i64 oi.op, .int .i64 oi.a, .int .i64 oi.b, .int .i64 oi.c, .int .i64 oi.n, .int .i64 on, .int .i64 oa, .int .i64 ob, .int .i64 oc] #[.slice none 0 0, .slice none 0 0, .slice none 0 0, .slice none 0 0, .slice none 0 0, .int .i64 0, .int .i64 0, .int .i64 0] from ⟨((Whole.made w rfT #[.slice AL m.L.length cL, .slice AG gl.length cG, .slice AF m.fx.length cF, .slice AP pl.length cP, .slice AA al.length cA, .int .i64 m.dep, .int .i64 m.most, .int .i64 m.err] _ rfl).alloc _).alloc _, (Whole.made (w.alloc (.cells #[.slice AL m.L.length cL, .slice AG gl.length cG, .slice AF m.fx.length cF, .slice AP pl.length cP, .slice AA al.length cA, .int .i64 m.dep, .int .i64 m.most, .int .i64 m.err] rfT)) opT #[.int .i64 5, .int .i64 oi.op, .int .i64 oi.a, .int .i64 oi.b, .int .i64 oi.c, .int .i64 oi.n, .int .i64 on, .int .i64 oa, .int .i64 ob, .int .i64 oc] _ (by simp)).alloc _, Whole.made ((w.alloc (.cells #[.slice AL m.L.length cL, .slice AG gl.length cG, .slice AF m.fx.length cF, .slice AP pl.length cP, .slice AA al.length cA, .int .i64 m.dep, .int .i64 m.most, .int .i64 m.err] rfT)).alloc (.cells #[.int .i64 5, .int .i64 oi.op, .int .i64 oi.a, .int .i64 oi.b, .int .i64 oi.c, .int .i64 oi.n, .int .i64 on, .int .i64 oa, .int .i64 ob, .int .i64 oc] opT)) rfT #[.slice none 0 0, .slice none 0 0, .slice none 0 0, .slice none 0 0, .slice none 0 0, .int .i64 0, .int .i64 0, .int .i64 0] _ (by simp)⟩)
  have HR := Lib.hid ((hR.boxed 3).below b3)
  have HC := Lib.hid (hC.below b3)
  have BV := Lib.hid b3
  have HN := Lib.hid hN
  have TW := Lib.hid (show ∀ b, T b → b < w.heap.size from by
    obtain ⟨_, _, _, _, _, _, _, _, h0⟩ := hC
    exact fun b hb => (h0.frm b hb).2)
  have BG := Lib.hid (show B ≤ g ∧ g < w.heap.size from by
    obtain ⟨_, _, _, _, _, _, _, _, h0⟩ := hC
    exact h0.frm g h0.tg)
  have S8 : (Tryd.prog.info? rfT).map (·.size) = some 8 := by kernel_rfl
  clear hC hR b1 b2 b3
  obtain ⟨o0, o1, o2, o3, o4, o5, o6, o7, o8, o9⟩ := cells10 LX.out.x1
  have PC := Lib.hid (epatch_any oa ob (show I64 (ob) from by unfold I64; omega) B g T N m (((w.alloc (.cells #[.slice AL m.L.length cL, .slice AG gl.length cG, .slice AF m.fx.length cF, .slice AP pl.length cP, .slice AA al.length cA, .int .i64 m.dep, .int .i64 m.most, .int .i64 m.err] rfT)).alloc (.cells #[.int .i64 5, .int .i64 oi.op, .int .i64 oi.a, .int .i64 oi.b, .int .i64 oi.c, .int .i64 oi.n, .int .i64 on, .int .i64 oa, .int .i64 ob, .int .i64 oc] opT)).alloc (.cells #[.slice none 0 0, .slice none 0 0, .slice none 0 0, .slice none 0 0, .slice none 0 0, .int .i64 0, .int .i64 0, .int .i64 0] rfT)) HC.out (by have := HN.out; omega))
  have RX := Lib.hid (fun (T1 : Nat → Prop) w1 (hr : RfR w1 (fun b => T1 b ∨ (w.heap.size ≤ b ∧ b < w.heap.size + 3)) N m AL cL AG cG AF cF AP cP AA cA gl pl al) (ht : ∀ b, (fun b => T1 b ∨ (w.heap.size ≤ b ∧ b < w.heap.size + 3)) b → b < w1.heap.size) => refpatch_any oa ob (fun b => T1 b ∨ (w.heap.size ≤ b ∧ b < w.heap.size + 3)) N m AL cL AG cG AF cF AP cP AA cA gl pl al w1 hr ht (by have := HN.out; omega))
  clear hi hon hoc
  generalize patchE m oa ob = m1 at *
  go_enter Tryd.func22, Tryd.ntmps22
  go_wp2_with fail
  generalize (((w.alloc (.cells #[.slice AL m.L.length cL, .slice AG gl.length cG, .slice AF m.fx.length cF, .slice AP pl.length cP, .slice AA al.length cA, .int .i64 m.dep, .int .i64 m.most, .int .i64 m.err] rfT)).alloc (.cells #[.int .i64 5, .int .i64 oi.op, .int .i64 oi.a, .int .i64 oi.b, .int .i64 oi.c, .int .i64 oi.n, .int .i64 on, .int .i64 oa, .int .i64 ob, .int .i64 oc] opT)).alloc (.cells #[.slice none 0 0, .slice none 0 0, .slice none 0 0, .slice none 0 0, .slice none 0 0, .int .i64 0, .int .i64 0, .int .i64 0] rfT)) = V at *
  refine PC.out.mono ?_
  rintro e w1 ⟨rfl, T1, hc, hk, ht⟩
  have KP := Lib.hid ((show KeptS T w V from KeptS.ofBelow BV.out).trans hk (fun b hb => .inl hb))
  have O1 := Lib.hid (show ∀ b, T1 b → T b ∨ w.heap.size ≤ b from fun b hb => by
    rcases ht b hb with h | h
    · exact .inl h
    · exact .inr (Nat.le_trans BV.out.size h))
  have NB := Lib.hid (show ∀ b, (w.heap.size ≤ b ∧ b < w.heap.size + 3) → ¬ T1 b from fun b hb h => by
    have h3 := LX.out.x2.lt
    rcases ht b h with h | h
    · have := TW.out b h
      omega
    · omega)
  have LX := Lib.hid (LX.out.later hk (fun b hb h => by have := TW.out b hb; omega))
  have C1 := Lib.hid hc
  have HR := Lib.hid (HR.out.kept (T' := (fun b => T1 b ∨ (w.heap.size ≤ b ∧ b < w.heap.size + 3))) (hk.mono (fun b hb => .inl hb)) (fun b hb => by
    rcases hb with hb | hb
    · rcases ht b hb with h | h
      · exact .inl (.inl h)
      · exact .inr h
    · exact .inl (.inr hb)))
  have HT := Lib.hid (show ∀ b, (fun b => T1 b ∨ (w.heap.size ≤ b ∧ b < w.heap.size + 3)) b → b < w1.heap.size from fun b hb => by
    have h3 := LX.out.x2.lt
    rcases hb with hb | hb
    · obtain ⟨_, _, _, _, _, _, _, _, h0⟩ := hc
      exact (h0.frm b hb).2
    · omega)
  clear hc hk ht PC o0 o1 o2 o3 o4 o5 o6 o7 o8 o9 HC
  obtain ⟨o0, o1, o2, o3, o4, o5, o6, o7, o8, o9⟩ := cells10 LX.out.x1
  obtain ⟨a0, a1, a2, a3, a4, a5, a6, a7⟩ := cells8 LX.out.x0
  have RF := Lib.hid (RX.out T1 w1 HR.out HT.out)
  clear RX HT
  go_wp2_with fail
  refine RF.out.mono ?_
  rintro e y ⟨AL1, cL1, AG1, cG1, AF1, cF1, AP1, cP1, AA1, cA1, gl1, pl1, al1, rfl, hr1, hb1⟩
  have LX := Lib.hid (LX.out.later (S := fun _ => False) (KeptS.ofBelow hb1) (fun _ h => h.elim))
  have RE := Lib.hid hr1
  have C1 := Lib.hid (C1.out.below hb1)
  have KP := Lib.hid (KP.out.trans (S' := fun _ => False) (KeptS.ofBelow hb1) (fun _ h => h.elim))
  have H1 := Lib.hid (show (#[.slice AL1 m1.L.length cL1, .slice AG1 gl1.length cG1, .slice AF1 m1.fx.length cF1, .slice AP1 pl1.length cP1, .slice AA1 al1.length cA1, .int .i64 m1.dep, .int .i64 m1.most, .int .i64 m1.err] : Array Value).all (·.oneCell') = true from by simp [Value.oneCell'])
  clear hr1 hb1 RF HR a0 a1 a2 a3 a4 a5 a6 a7 o0 o1 o2 o3 o4 o5 o6 o7 o8 o9
  simp only []
  go_at_K
  repeat (first | (go_big_may; first | (refine wpList_store_row rfl rfT (.tmp 6) (.tmp 42) rfl (w.heap.size + 1 + 1) #[.slice AL1 m1.L.length cL1, .slice AG1 gl1.length cG1, .slice AF1 m1.fx.length cF1, .slice AP1 pl1.length cP1, .slice AA1 al1.length cA1, .int .i64 m1.dep, .int .i64 m1.most, .int .i64 m1.err] rfl rfl rfT #[.slice none 0 0, .slice none 0 0, .slice none 0 0, .slice none 0 0, .slice none 0 0, .int .i64 0, .int .i64 0, .int .i64 0] LX.out.x2 S8 rfl H1.out ?_; generalize hZZ : (y).setRow (w.heap.size + 1 + 1) #[.slice AL1 m1.L.length cL1, .slice AG1 gl1.length cG1, .slice AF1 m1.fx.length cF1, .slice AP1 pl1.length cP1, .slice AA1 al1.length cA1, .int .i64 m1.dep, .int .i64 m1.most, .int .i64 m1.err] = ZZ; have HZZ := Lib.hid hZZ; clear hZZ)) | go_values | go_skip | go_guarded | go_step | go_upon)
  have KZ := LX.out.kept2 #[.slice AL1 m1.L.length cL1, .slice AG1 gl1.length cG1, .slice AF1 m1.fx.length cF1, .slice AP1 pl1.length cP1, .slice AA1 al1.length cA1, .int .i64 m1.dep, .int .i64 m1.most, .int .i64 m1.err]
  have LZ := LX.out.row2 #[.slice AL1 m1.L.length cL1, .slice AG1 gl1.length cG1, .slice AF1 m1.fx.length cF1, .slice AP1 pl1.length cP1, .slice AA1 al1.length cA1, .int .i64 m1.dep, .int .i64 m1.most, .int .i64 m1.err]
  rw [HZZ.out] at KZ LZ
  have CZ := Lib.hid (C1.out.later KZ (fun b hb => NB.out b hb) (fun b hb => by have := BG.out; omega))
  have RZ := Lib.hid (RE.out.later KZ (fun b hb => .inr hb))
  have KF := Lib.hid (KP.out.trans KZ (fun b hb => .inr hb.1))
  obtain ⟨z0, z1, z2, z3, z4, z5, z6, z7⟩ := cells8 LZ.x2
  clear KZ LZ
  refine bodyPost_ret (v := .agg #[.slice AL1 m1.L.length cL1, .slice AG1 gl1.length cG1, .slice AF1 m1.fx.length cF1, .slice AP1 pl1.length cP1, .slice AA1 al1.length cA1, .int .i64 m1.dep, .int .i64 m1.most, .int .i64 m1.err]) ?_ rfl ⟨T1, AL1, cL1, AG1, cG1, AF1, cF1, AP1, cP1, AA1, cA1, gl1, pl1, al1, rfl, CZ.out.more (show N ≤ N + 2 by omega) (Nat.le_refl _), (RZ.out.less (fun b hb => .inl hb)).more (show N ≤ N + 2 by omega), KF.out, O1.out⟩
  simp [results, Tryd.results22, go_sem, z0, z1, z2, z3, z4, z5, z6, z7]

set_option maxHeartbeats 16000000 in
set_option maxRecDepth 100000 in
theorem ot_fail (oi : Ins) (on oa ob oc : Int) (hi : I64I oi) (hon : I64 on) (hoc : I64 oc) (ha1 : -1000 ≤ oa) (ha2 : oa ≤ 1000) (hb1 : -1000000 ≤ ob) (hb2 : ob ≤ 1000000) (B g : Nat) (T : Nat → Prop) (N : Nat) (m : Em) (AL : Option Addr) (cL : Nat) (AG : Option Addr) (cG : Nat) (AF : Option Addr) (cF : Nat) (AP : Option Addr) (cP : Nat) (AA : Option Addr) (cA : Nat) (gl pl al : List Int) (w : World) (hC : CdAt w B g T N m) (hR : RfR w T N m AL cL AG cG AF cF AP cP AA cA gl pl al) (hN : N + 2 ≤ 100000) :
    Calls Tryd.prog 22 #[.pointer (some ⟨g, 0, none⟩), .agg #[.slice AL m.L.length cL, .slice AG gl.length cG, .slice AF m.fx.length cF, .slice AP pl.length cP, .slice AA al.length cA, .int .i64 m.dep, .int .i64 m.most, .int .i64 m.err], .agg #[.int .i64 15, .int .i64 oi.op, .int .i64 oi.a, .int .i64 oi.b, .int .i64 oi.c, .int .i64 oi.n, .int .i64 on, .int .i64 oa, .int .i64 ob, .int .i64 oc]] w (DoP B g T (N + 2) w (failE m (wrap64 (1 + bits .and .i64 oc 7)))) := by
  have b1 := (Below.refl w.heap.size w).alloc (Nat.le_refl _) (.cells #[.slice AL m.L.length cL, .slice AG gl.length cG, .slice AF m.fx.length cF, .slice AP pl.length cP, .slice AA al.length cA, .int .i64 m.dep, .int .i64 m.most, .int .i64 m.err] rfT)
  have b2 := b1.alloc b1.size (.cells #[.int .i64 15, .int .i64 oi.op, .int .i64 oi.a, .int .i64 oi.b, .int .i64 oi.c, .int .i64 oi.n, .int .i64 on, .int .i64 oa, .int .i64 ob, .int .i64 oc] opT)
  have b3 := b2.alloc b2.size (.cells #[.slice none 0 0, .slice none 0 0, .slice none 0 0, .slice none 0 0, .slice none 0 0, .int .i64 0, .int .i64 0, .int .i64 0] rfT)
  have LX := Lib.hid (show Lx3 w (((w.alloc (.cells #[.slice AL m.L.length cL, .slice AG gl.length cG, .slice AF m.fx.length cF, .slice AP pl.length cP, .slice AA al.length cA, .int .i64 m.dep, .int .i64 m.most, .int .i64 m.err] rfT)).alloc (.cells #[.int .i64 15, .int .i64 oi.op, .int .i64 oi.a, .int .i64 oi.b, .int .i64 oi.c, .int .i64 oi.n, .int .i64 on, .int .i64 oa, .int .i64 ob, .int .i64 oc] opT)).alloc (.cells #[.slice none 0 0, .slice none 0 0, .slice none 0 0, .slice none 0 0, .slice none 0 0, .int .i64 0, .int .i64 0, .int .i64 0] rfT)) rfT opT rfT #[.slice AL m.L.length cL, .slice AG gl.length cG, .slice AF m.fx.length cF, .slice AP pl.length cP, .slice AA al.length cA, .int .i64 m.dep, .int .i64 m.most, .int .i64 m.err] #[.int .i64 15, .int .i64 oi.op, .int .i64 oi.a, .int .i64 oi.b, .int .i64 oi.c, .int .i64 oi.n, .int .i64 on, .int .i64 oa, .int .i64 ob, .int .i64 oc] #[.slice none 0 0, .slice none 0 0, .slice none 0 0, .slice none 0 0, .slice none 0 0, .int .i64 0, .int .i64 0, .int .i64 0] from ⟨((Whole.made w rfT #[.slice AL m.L.length cL, .slice AG gl.length cG, .slice AF m.fx.length cF, .slice AP pl.length cP, .slice AA al.length cA, .int .i64 m.dep, .int .i64 m.most, .int .i64 m.err] _ rfl).alloc _).alloc _, (Whole.made (w.alloc (.cells #[.slice AL m.L.length cL, .slice AG gl.length cG, .slice AF m.fx.length cF, .slice AP pl.length cP, .slice AA al.length cA, .int .i64 m.dep, .int .i64 m.most, .int .i64 m.err] rfT)) opT #[.int .i64 15, .int .i64 oi.op, .int .i64 oi.a, .int .i64 oi.b, .int .i64 oi.c, .int .i64 oi.n, .int .i64 on, .int .i64 oa, .int .i64 ob, .int .i64 oc] _ (by simp)).alloc _, Whole.made ((w.alloc (.cells #[.slice AL m.L.length cL, .slice AG gl.length cG, .slice AF m.fx.length cF, .slice AP pl.length cP, .slice AA al.length cA, .int .i64 m.dep, .int .i64 m.most, .int .i64 m.err] rfT)).alloc (.cells #[.int .i64 15, .int .i64 oi.op, .int .i64 oi.a, .int .i64 oi.b, .int .i64 oi.c, .int .i64 oi.n, .int .i64 on, .int .i64 oa, .int .i64 ob, .int .i64 oc] opT)) rfT #[.slice none 0 0, .slice none 0 0, .slice none 0 0, .slice none 0 0, .slice none 0 0, .int .i64 0, .int .i64 0, .int .i64 0] _ (by simp)⟩)
  have HR := Lib.hid ((hR.boxed 3).below b3)
  have HC := Lib.hid (hC.below b3)
  have BV := Lib.hid b3
  have HN := Lib.hid hN
  have TW := Lib.hid (show ∀ b, T b → b < w.heap.size from by
    obtain ⟨_, _, _, _, _, _, _, _, h0⟩ := hC
    exact fun b hb => (h0.frm b hb).2)
  have BG := Lib.hid (show B ≤ g ∧ g < w.heap.size from by
    obtain ⟨_, _, _, _, _, _, _, _, h0⟩ := hC
    exact h0.frm g h0.tg)
  have S8 : (Tryd.prog.info? rfT).map (·.size) = some 8 := by kernel_rfl
  clear hC hR b1 b2 b3
  obtain ⟨o0, o1, o2, o3, o4, o5, o6, o7, o8, o9⟩ := cells10 LX.out.x1
  have PC := Lib.hid ((fun x => efail_any x B g T N m (((w.alloc (.cells #[.slice AL m.L.length cL, .slice AG gl.length cG, .slice AF m.fx.length cF, .slice AP pl.length cP, .slice AA al.length cA, .int .i64 m.dep, .int .i64 m.most, .int .i64 m.err] rfT)).alloc (.cells #[.int .i64 15, .int .i64 oi.op, .int .i64 oi.a, .int .i64 oi.b, .int .i64 oi.c, .int .i64 oi.n, .int .i64 on, .int .i64 oa, .int .i64 ob, .int .i64 oc] opT)).alloc (.cells #[.slice none 0 0, .slice none 0 0, .slice none 0 0, .slice none 0 0, .slice none 0 0, .int .i64 0, .int .i64 0, .int .i64 0] rfT)) HC.out) (wrap64 (1 + bits .and .i64 oc 7)))
  have RX := Lib.hid (fun (T1 : Nat → Prop) w1 (hr : RfR w1 (fun b => T1 b ∨ (w.heap.size ≤ b ∧ b < w.heap.size + 3)) N m AL cL AG cG AF cF AP cP AA cA gl pl al) (ht : ∀ b, (fun b => T1 b ∨ (w.heap.size ≤ b ∧ b < w.heap.size + 3)) b → b < w1.heap.size) => reffail_any (wrap64 (1 + bits .and .i64 oc 7)) (fun b => T1 b ∨ (w.heap.size ≤ b ∧ b < w.heap.size + 3)) N m AL cL AG cG AF cF AP cP AA cA gl pl al w1 hr ht (by have := HN.out; omega))
  clear hi hon hoc
  generalize failE m (wrap64 (1 + bits .and .i64 oc 7)) = m1 at *
  go_enter Tryd.func22, Tryd.ntmps22
  go_wp2_with fail
  generalize (((w.alloc (.cells #[.slice AL m.L.length cL, .slice AG gl.length cG, .slice AF m.fx.length cF, .slice AP pl.length cP, .slice AA al.length cA, .int .i64 m.dep, .int .i64 m.most, .int .i64 m.err] rfT)).alloc (.cells #[.int .i64 15, .int .i64 oi.op, .int .i64 oi.a, .int .i64 oi.b, .int .i64 oi.c, .int .i64 oi.n, .int .i64 on, .int .i64 oa, .int .i64 ob, .int .i64 oc] opT)).alloc (.cells #[.slice none 0 0, .slice none 0 0, .slice none 0 0, .slice none 0 0, .slice none 0 0, .int .i64 0, .int .i64 0, .int .i64 0] rfT)) = V at *
  refine PC.out.mono ?_
  rintro e w1 ⟨rfl, T1, hc, hk, ht⟩
  have KP := Lib.hid ((show KeptS T w V from KeptS.ofBelow BV.out).trans hk (fun b hb => .inl hb))
  have O1 := Lib.hid (show ∀ b, T1 b → T b ∨ w.heap.size ≤ b from fun b hb => by
    rcases ht b hb with h | h
    · exact .inl h
    · exact .inr (Nat.le_trans BV.out.size h))
  have NB := Lib.hid (show ∀ b, (w.heap.size ≤ b ∧ b < w.heap.size + 3) → ¬ T1 b from fun b hb h => by
    have h3 := LX.out.x2.lt
    rcases ht b h with h | h
    · have := TW.out b h
      omega
    · omega)
  have LX := Lib.hid (LX.out.later hk (fun b hb h => by have := TW.out b hb; omega))
  have C1 := Lib.hid hc
  have HR := Lib.hid (HR.out.kept (T' := (fun b => T1 b ∨ (w.heap.size ≤ b ∧ b < w.heap.size + 3))) (hk.mono (fun b hb => .inl hb)) (fun b hb => by
    rcases hb with hb | hb
    · rcases ht b hb with h | h
      · exact .inl (.inl h)
      · exact .inr h
    · exact .inl (.inr hb)))
  have HT := Lib.hid (show ∀ b, (fun b => T1 b ∨ (w.heap.size ≤ b ∧ b < w.heap.size + 3)) b → b < w1.heap.size from fun b hb => by
    have h3 := LX.out.x2.lt
    rcases hb with hb | hb
    · obtain ⟨_, _, _, _, _, _, _, _, h0⟩ := hc
      exact (h0.frm b hb).2
    · omega)
  clear hc hk ht PC o0 o1 o2 o3 o4 o5 o6 o7 o8 o9 HC
  obtain ⟨o0, o1, o2, o3, o4, o5, o6, o7, o8, o9⟩ := cells10 LX.out.x1
  obtain ⟨a0, a1, a2, a3, a4, a5, a6, a7⟩ := cells8 LX.out.x0
  have RF := Lib.hid (RX.out T1 w1 HR.out HT.out)
  clear RX HT
  go_wp2_with fail
  refine RF.out.mono ?_
  rintro e y ⟨AL1, cL1, AG1, cG1, AF1, cF1, AP1, cP1, AA1, cA1, gl1, pl1, al1, rfl, hr1, hb1⟩
  have LX := Lib.hid (LX.out.later (S := fun _ => False) (KeptS.ofBelow hb1) (fun _ h => h.elim))
  have RE := Lib.hid hr1
  have C1 := Lib.hid (C1.out.below hb1)
  have KP := Lib.hid (KP.out.trans (S' := fun _ => False) (KeptS.ofBelow hb1) (fun _ h => h.elim))
  have H1 := Lib.hid (show (#[.slice AL1 m1.L.length cL1, .slice AG1 gl1.length cG1, .slice AF1 m1.fx.length cF1, .slice AP1 pl1.length cP1, .slice AA1 al1.length cA1, .int .i64 m1.dep, .int .i64 m1.most, .int .i64 m1.err] : Array Value).all (·.oneCell') = true from by simp [Value.oneCell'])
  clear hr1 hb1 RF HR a0 a1 a2 a3 a4 a5 a6 a7 o0 o1 o2 o3 o4 o5 o6 o7 o8 o9
  simp only []
  go_at_K
  repeat (first | (go_big_may; first | (refine wpList_store_row rfl rfT (.tmp 6) (.tmp 151) rfl (w.heap.size + 1 + 1) #[.slice AL1 m1.L.length cL1, .slice AG1 gl1.length cG1, .slice AF1 m1.fx.length cF1, .slice AP1 pl1.length cP1, .slice AA1 al1.length cA1, .int .i64 m1.dep, .int .i64 m1.most, .int .i64 m1.err] rfl rfl rfT #[.slice none 0 0, .slice none 0 0, .slice none 0 0, .slice none 0 0, .slice none 0 0, .int .i64 0, .int .i64 0, .int .i64 0] LX.out.x2 S8 rfl H1.out ?_; generalize hZZ : (y).setRow (w.heap.size + 1 + 1) #[.slice AL1 m1.L.length cL1, .slice AG1 gl1.length cG1, .slice AF1 m1.fx.length cF1, .slice AP1 pl1.length cP1, .slice AA1 al1.length cA1, .int .i64 m1.dep, .int .i64 m1.most, .int .i64 m1.err] = ZZ; have HZZ := Lib.hid hZZ; clear hZZ)) | go_values | go_skip | go_guarded | go_step | go_upon)
  have KZ := LX.out.kept2 #[.slice AL1 m1.L.length cL1, .slice AG1 gl1.length cG1, .slice AF1 m1.fx.length cF1, .slice AP1 pl1.length cP1, .slice AA1 al1.length cA1, .int .i64 m1.dep, .int .i64 m1.most, .int .i64 m1.err]
  have LZ := LX.out.row2 #[.slice AL1 m1.L.length cL1, .slice AG1 gl1.length cG1, .slice AF1 m1.fx.length cF1, .slice AP1 pl1.length cP1, .slice AA1 al1.length cA1, .int .i64 m1.dep, .int .i64 m1.most, .int .i64 m1.err]
  rw [HZZ.out] at KZ LZ
  have CZ := Lib.hid (C1.out.later KZ (fun b hb => NB.out b hb) (fun b hb => by have := BG.out; omega))
  have RZ := Lib.hid (RE.out.later KZ (fun b hb => .inr hb))
  have KF := Lib.hid (KP.out.trans KZ (fun b hb => .inr hb.1))
  obtain ⟨z0, z1, z2, z3, z4, z5, z6, z7⟩ := cells8 LZ.x2
  clear KZ LZ
  refine bodyPost_ret (v := .agg #[.slice AL1 m1.L.length cL1, .slice AG1 gl1.length cG1, .slice AF1 m1.fx.length cF1, .slice AP1 pl1.length cP1, .slice AA1 al1.length cA1, .int .i64 m1.dep, .int .i64 m1.most, .int .i64 m1.err]) ?_ rfl ⟨T1, AL1, cL1, AG1, cG1, AF1, cF1, AP1, cP1, AA1, cA1, gl1, pl1, al1, rfl, CZ.out.more (show N ≤ N + 2 by omega) (Nat.le_refl _), (RZ.out.less (fun b hb => .inl hb)).more (show N ≤ N + 2 by omega), KF.out, O1.out⟩
  simp [results, Tryd.results22, go_sem, z0, z1, z2, z3, z4, z5, z6, z7]

set_option maxHeartbeats 16000000 in
set_option maxRecDepth 100000 in
theorem ot_none (k : Int) (hk : k ≠ 3 ∧ k ≠ 5 ∧ k ≠ 9 ∧ k ≠ 10 ∧ k ≠ 11 ∧ k ≠ 12 ∧ k ≠ 13 ∧ k ≠ 15) (oi : Ins) (on oa ob oc : Int) (hi : I64I oi) (hon : I64 on) (hoc : I64 oc) (ha1 : -1000 ≤ oa) (ha2 : oa ≤ 1000) (hb1 : -1000000 ≤ ob) (hb2 : ob ≤ 1000000) (B g : Nat) (T : Nat → Prop) (N : Nat) (m : Em) (AL : Option Addr) (cL : Nat) (AG : Option Addr) (cG : Nat) (AF : Option Addr) (cF : Nat) (AP : Option Addr) (cP : Nat) (AA : Option Addr) (cA : Nat) (gl pl al : List Int) (w : World) (hC : CdAt w B g T N m) (hR : RfR w T N m AL cL AG cG AF cF AP cP AA cA gl pl al) (hN : N + 2 ≤ 100000) :
    Calls Tryd.prog 22 #[.pointer (some ⟨g, 0, none⟩), .agg #[.slice AL m.L.length cL, .slice AG gl.length cG, .slice AF m.fx.length cF, .slice AP pl.length cP, .slice AA al.length cA, .int .i64 m.dep, .int .i64 m.most, .int .i64 m.err], .agg #[.int .i64 k, .int .i64 oi.op, .int .i64 oi.a, .int .i64 oi.b, .int .i64 oi.c, .int .i64 oi.n, .int .i64 on, .int .i64 oa, .int .i64 ob, .int .i64 oc]] w (DoP B g T (N + 2) w m) := by
  have b1 := (Below.refl w.heap.size w).alloc (Nat.le_refl _) (.cells #[.slice AL m.L.length cL, .slice AG gl.length cG, .slice AF m.fx.length cF, .slice AP pl.length cP, .slice AA al.length cA, .int .i64 m.dep, .int .i64 m.most, .int .i64 m.err] rfT)
  have b2 := b1.alloc b1.size (.cells #[.int .i64 k, .int .i64 oi.op, .int .i64 oi.a, .int .i64 oi.b, .int .i64 oi.c, .int .i64 oi.n, .int .i64 on, .int .i64 oa, .int .i64 ob, .int .i64 oc] opT)
  have b3 := b2.alloc b2.size (.cells #[.slice none 0 0, .slice none 0 0, .slice none 0 0, .slice none 0 0, .slice none 0 0, .int .i64 0, .int .i64 0, .int .i64 0] rfT)
  have LX := Lib.hid (show Lx3 w (((w.alloc (.cells #[.slice AL m.L.length cL, .slice AG gl.length cG, .slice AF m.fx.length cF, .slice AP pl.length cP, .slice AA al.length cA, .int .i64 m.dep, .int .i64 m.most, .int .i64 m.err] rfT)).alloc (.cells #[.int .i64 k, .int .i64 oi.op, .int .i64 oi.a, .int .i64 oi.b, .int .i64 oi.c, .int .i64 oi.n, .int .i64 on, .int .i64 oa, .int .i64 ob, .int .i64 oc] opT)).alloc (.cells #[.slice none 0 0, .slice none 0 0, .slice none 0 0, .slice none 0 0, .slice none 0 0, .int .i64 0, .int .i64 0, .int .i64 0] rfT)) rfT opT rfT #[.slice AL m.L.length cL, .slice AG gl.length cG, .slice AF m.fx.length cF, .slice AP pl.length cP, .slice AA al.length cA, .int .i64 m.dep, .int .i64 m.most, .int .i64 m.err] #[.int .i64 k, .int .i64 oi.op, .int .i64 oi.a, .int .i64 oi.b, .int .i64 oi.c, .int .i64 oi.n, .int .i64 on, .int .i64 oa, .int .i64 ob, .int .i64 oc] #[.slice none 0 0, .slice none 0 0, .slice none 0 0, .slice none 0 0, .slice none 0 0, .int .i64 0, .int .i64 0, .int .i64 0] from ⟨((Whole.made w rfT #[.slice AL m.L.length cL, .slice AG gl.length cG, .slice AF m.fx.length cF, .slice AP pl.length cP, .slice AA al.length cA, .int .i64 m.dep, .int .i64 m.most, .int .i64 m.err] _ rfl).alloc _).alloc _, (Whole.made (w.alloc (.cells #[.slice AL m.L.length cL, .slice AG gl.length cG, .slice AF m.fx.length cF, .slice AP pl.length cP, .slice AA al.length cA, .int .i64 m.dep, .int .i64 m.most, .int .i64 m.err] rfT)) opT #[.int .i64 k, .int .i64 oi.op, .int .i64 oi.a, .int .i64 oi.b, .int .i64 oi.c, .int .i64 oi.n, .int .i64 on, .int .i64 oa, .int .i64 ob, .int .i64 oc] _ (by simp)).alloc _, Whole.made ((w.alloc (.cells #[.slice AL m.L.length cL, .slice AG gl.length cG, .slice AF m.fx.length cF, .slice AP pl.length cP, .slice AA al.length cA, .int .i64 m.dep, .int .i64 m.most, .int .i64 m.err] rfT)).alloc (.cells #[.int .i64 k, .int .i64 oi.op, .int .i64 oi.a, .int .i64 oi.b, .int .i64 oi.c, .int .i64 oi.n, .int .i64 on, .int .i64 oa, .int .i64 ob, .int .i64 oc] opT)) rfT #[.slice none 0 0, .slice none 0 0, .slice none 0 0, .slice none 0 0, .slice none 0 0, .int .i64 0, .int .i64 0, .int .i64 0] _ (by simp)⟩)
  have HR := Lib.hid ((hR.boxed 3).below b3)
  have HC := Lib.hid (hC.below b3)
  have BV := Lib.hid b3
  have HN := Lib.hid hN
  have TW := Lib.hid (show ∀ b, T b → b < w.heap.size from by
    obtain ⟨_, _, _, _, _, _, _, _, h0⟩ := hC
    exact fun b hb => (h0.frm b hb).2)
  have BG := Lib.hid (show B ≤ g ∧ g < w.heap.size from by
    obtain ⟨_, _, _, _, _, _, _, _, h0⟩ := hC
    exact h0.frm g h0.tg)
  have S8 : (Tryd.prog.info? rfT).map (·.size) = some 8 := by kernel_rfl
  clear hC hR b1 b2 b3
  obtain ⟨o0, o1, o2, o3, o4, o5, o6, o7, o8, o9⟩ := cells10 LX.out.x1
  have n3 : (k == 3) = false := beq_eq_false_iff_ne.2 (by omega)
  have n5 : (k == 5) = false := beq_eq_false_iff_ne.2 (by omega)
  have n9 : (k == 9) = false := beq_eq_false_iff_ne.2 (by omega)
  have n10 : (k == 10) = false := beq_eq_false_iff_ne.2 (by omega)
  have n11 : (k == 11) = false := beq_eq_false_iff_ne.2 (by omega)
  have n12 : (k == 12) = false := beq_eq_false_iff_ne.2 (by omega)
  have n13 : (k == 13) = false := beq_eq_false_iff_ne.2 (by omega)
  have n15 : (k == 15) = false := beq_eq_false_iff_ne.2 (by omega)
  obtain ⟨a0, a1, a2, a3, a4, a5, a6, a7⟩ := cells8 LX.out.x0
  have C1 := HC
  have RE := HR
  have NB := Lib.hid (show ∀ b, (w.heap.size ≤ b ∧ b < w.heap.size + 3) → ¬ T b from fun b hb h => by have := TW.out b h; omega)
  have KP := Lib.hid (show KeptS T w (((w.alloc (.cells #[.slice AL m.L.length cL, .slice AG gl.length cG, .slice AF m.fx.length cF, .slice AP pl.length cP, .slice AA al.length cA, .int .i64 m.dep, .int .i64 m.most, .int .i64 m.err] rfT)).alloc (.cells #[.int .i64 k, .int .i64 oi.op, .int .i64 oi.a, .int .i64 oi.b, .int .i64 oi.c, .int .i64 oi.n, .int .i64 on, .int .i64 oa, .int .i64 ob, .int .i64 oc] opT)).alloc (.cells #[.slice none 0 0, .slice none 0 0, .slice none 0 0, .slice none 0 0, .slice none 0 0, .int .i64 0, .int .i64 0, .int .i64 0] rfT)) from KeptS.ofBelow BV.out)
  have O1 := Lib.hid (show ∀ b, T b → T b ∨ w.heap.size ≤ b from fun b h => .inl h)
  have H1 := Lib.hid (show (#[.slice AL m.L.length cL, .slice AG gl.length cG, .slice AF m.fx.length cF, .slice AP pl.length cP, .slice AA al.length cA, .int .i64 m.dep, .int .i64 m.most, .int .i64 m.err] : Array Value).all (·.oneCell') = true from by simp [Value.oneCell'])
  clear hi hon hoc hk
  go_enter Tryd.func22, Tryd.ntmps22
  repeat (first | (go_big_may; first | (refine wpList_store_row rfl rfT (.tmp 6) (.tmp 11) rfl (w.heap.size + 1 + 1) #[.slice AL m.L.length cL, .slice AG gl.length cG, .slice AF m.fx.length cF, .slice AP pl.length cP, .slice AA al.length cA, .int .i64 m.dep, .int .i64 m.most, .int .i64 m.err] rfl rfl rfT #[.slice none 0 0, .slice none 0 0, .slice none 0 0, .slice none 0 0, .slice none 0 0, .int .i64 0, .int .i64 0, .int .i64 0] LX.out.x2 S8 rfl H1.out ?_; generalize hZZ : ((((w.alloc (.cells #[.slice AL m.L.length cL, .slice AG gl.length cG, .slice AF m.fx.length cF, .slice AP pl.length cP, .slice AA al.length cA, .int .i64 m.dep, .int .i64 m.most, .int .i64 m.err] rfT)).alloc (.cells #[.int .i64 k, .int .i64 oi.op, .int .i64 oi.a, .int .i64 oi.b, .int .i64 oi.c, .int .i64 oi.n, .int .i64 on, .int .i64 oa, .int .i64 ob, .int .i64 oc] opT)).alloc (.cells #[.slice none 0 0, .slice none 0 0, .slice none 0 0, .slice none 0 0, .slice none 0 0, .int .i64 0, .int .i64 0, .int .i64 0] rfT))).setRow (w.heap.size + 1 + 1) #[.slice AL m.L.length cL, .slice AG gl.length cG, .slice AF m.fx.length cF, .slice AP pl.length cP, .slice AA al.length cA, .int .i64 m.dep, .int .i64 m.most, .int .i64 m.err] = ZZ; have HZZ := Lib.hid hZZ; clear hZZ)) | go_values | go_skip | go_guarded | go_step | go_upon)
  have KZ := LX.out.kept2 #[.slice AL m.L.length cL, .slice AG gl.length cG, .slice AF m.fx.length cF, .slice AP pl.length cP, .slice AA al.length cA, .int .i64 m.dep, .int .i64 m.most, .int .i64 m.err]
  have LZ := LX.out.row2 #[.slice AL m.L.length cL, .slice AG gl.length cG, .slice AF m.fx.length cF, .slice AP pl.length cP, .slice AA al.length cA, .int .i64 m.dep, .int .i64 m.most, .int .i64 m.err]
  rw [HZZ.out] at KZ LZ
  have CZ := Lib.hid (C1.out.later KZ (fun b hb => NB.out b hb) (fun b hb => by have := BG.out; omega))
  have RZ := Lib.hid (RE.out.later KZ (fun b hb => .inr hb))
  have KF := Lib.hid (KP.out.trans KZ (fun b hb => .inr hb.1))
  obtain ⟨z0, z1, z2, z3, z4, z5, z6, z7⟩ := cells8 LZ.x2
  clear KZ LZ
  refine bodyPost_ret (v := .agg #[.slice AL m.L.length cL, .slice AG gl.length cG, .slice AF m.fx.length cF, .slice AP pl.length cP, .slice AA al.length cA, .int .i64 m.dep, .int .i64 m.most, .int .i64 m.err]) ?_ rfl ⟨T, AL, cL, AG, cG, AF, cF, AP, cP, AA, cA, gl, pl, al, rfl, CZ.out.more (show N ≤ N + 2 by omega) (Nat.le_refl _), (RZ.out.less (fun b hb => .inl hb)).more (show N ≤ N + 2 by omega), KF.out, O1.out⟩
  simp [results, Tryd.results22, go_sem, z0, z1, z2, z3, z4, z5, z6, z7]

set_option maxHeartbeats 16000000 in
set_option maxRecDepth 100000 in
theorem ot_drop00 (oi : Ins) (on oa ob oc : Int) (hi : I64I oi) (hon : I64 on) (hoc : I64 oc) (ha1 : -1000 ≤ oa) (ha2 : oa ≤ 1000) (hb1 : -1000000 ≤ ob) (hb2 : ob ≤ 1000000) (B g : Nat) (T : Nat → Prop) (N : Nat) (m : Em) (AL : Option Addr) (cL : Nat) (AG : Option Addr) (cG : Nat) (AF : Option Addr) (cF : Nat) (AP : Option Addr) (cP : Nat) (AA : Option Addr) (cA : Nat) (gl pl al : List Int) (w : World) (hC : CdAt w B g T N m) (hR : RfR w T N m AL cL AG cG AF cF AP cP AA cA gl pl al) (hN : N + 2 ≤ 100000) (hc : on < 0) (hd : 0 < m.dep) :
    Calls Tryd.prog 22 #[.pointer (some ⟨g, 0, none⟩), .agg #[.slice AL m.L.length cL, .slice AG gl.length cG, .slice AF m.fx.length cF, .slice AP pl.length cP, .slice AA al.length cA, .int .i64 m.dep, .int .i64 m.most, .int .i64 m.err], .agg #[.int .i64 9, .int .i64 oi.op, .int .i64 oi.a, .int .i64 oi.b, .int .i64 oi.c, .int .i64 oi.n, .int .i64 on, .int .i64 oa, .int .i64 ob, .int .i64 oc]] w (DoP B g T (N + 2) w (dropE m (0))) := by
  have b1 := (Below.refl w.heap.size w).alloc (Nat.le_refl _) (.cells #[.slice AL m.L.length cL, .slice AG gl.length cG, .slice AF m.fx.length cF, .slice AP pl.length cP, .slice AA al.length cA, .int .i64 m.dep, .int .i64 m.most, .int .i64 m.err] rfT)
  have b2 := b1.alloc b1.size (.cells #[.int .i64 9, .int .i64 oi.op, .int .i64 oi.a, .int .i64 oi.b, .int .i64 oi.c, .int .i64 oi.n, .int .i64 on, .int .i64 oa, .int .i64 ob, .int .i64 oc] opT)
  have b3 := b2.alloc b2.size (.cells #[.slice none 0 0, .slice none 0 0, .slice none 0 0, .slice none 0 0, .slice none 0 0, .int .i64 0, .int .i64 0, .int .i64 0] rfT)
  have LX := Lib.hid (show Lx3 w (((w.alloc (.cells #[.slice AL m.L.length cL, .slice AG gl.length cG, .slice AF m.fx.length cF, .slice AP pl.length cP, .slice AA al.length cA, .int .i64 m.dep, .int .i64 m.most, .int .i64 m.err] rfT)).alloc (.cells #[.int .i64 9, .int .i64 oi.op, .int .i64 oi.a, .int .i64 oi.b, .int .i64 oi.c, .int .i64 oi.n, .int .i64 on, .int .i64 oa, .int .i64 ob, .int .i64 oc] opT)).alloc (.cells #[.slice none 0 0, .slice none 0 0, .slice none 0 0, .slice none 0 0, .slice none 0 0, .int .i64 0, .int .i64 0, .int .i64 0] rfT)) rfT opT rfT #[.slice AL m.L.length cL, .slice AG gl.length cG, .slice AF m.fx.length cF, .slice AP pl.length cP, .slice AA al.length cA, .int .i64 m.dep, .int .i64 m.most, .int .i64 m.err] #[.int .i64 9, .int .i64 oi.op, .int .i64 oi.a, .int .i64 oi.b, .int .i64 oi.c, .int .i64 oi.n, .int .i64 on, .int .i64 oa, .int .i64 ob, .int .i64 oc] #[.slice none 0 0, .slice none 0 0, .slice none 0 0, .slice none 0 0, .slice none 0 0, .int .i64 0, .int .i64 0, .int .i64 0] from ⟨((Whole.made w rfT #[.slice AL m.L.length cL, .slice AG gl.length cG, .slice AF m.fx.length cF, .slice AP pl.length cP, .slice AA al.length cA, .int .i64 m.dep, .int .i64 m.most, .int .i64 m.err] _ rfl).alloc _).alloc _, (Whole.made (w.alloc (.cells #[.slice AL m.L.length cL, .slice AG gl.length cG, .slice AF m.fx.length cF, .slice AP pl.length cP, .slice AA al.length cA, .int .i64 m.dep, .int .i64 m.most, .int .i64 m.err] rfT)) opT #[.int .i64 9, .int .i64 oi.op, .int .i64 oi.a, .int .i64 oi.b, .int .i64 oi.c, .int .i64 oi.n, .int .i64 on, .int .i64 oa, .int .i64 ob, .int .i64 oc] _ (by simp)).alloc _, Whole.made ((w.alloc (.cells #[.slice AL m.L.length cL, .slice AG gl.length cG, .slice AF m.fx.length cF, .slice AP pl.length cP, .slice AA al.length cA, .int .i64 m.dep, .int .i64 m.most, .int .i64 m.err] rfT)).alloc (.cells #[.int .i64 9, .int .i64 oi.op, .int .i64 oi.a, .int .i64 oi.b, .int .i64 oi.c, .int .i64 oi.n, .int .i64 on, .int .i64 oa, .int .i64 ob, .int .i64 oc] opT)) rfT #[.slice none 0 0, .slice none 0 0, .slice none 0 0, .slice none 0 0, .slice none 0 0, .int .i64 0, .int .i64 0, .int .i64 0] _ (by simp)⟩)
  have HR := Lib.hid ((hR.boxed 3).below b3)
  have HC := Lib.hid (hC.below b3)
  have BV := Lib.hid b3
  have HN := Lib.hid hN
  have TW := Lib.hid (show ∀ b, T b → b < w.heap.size from by
    obtain ⟨_, _, _, _, _, _, _, _, h0⟩ := hC
    exact fun b hb => (h0.frm b hb).2)
  have BG := Lib.hid (show B ≤ g ∧ g < w.heap.size from by
    obtain ⟨_, _, _, _, _, _, _, _, h0⟩ := hC
    exact h0.frm g h0.tg)
  have S8 : (Tryd.prog.info? rfT).map (·.size) = some 8 := by kernel_rfl
  clear hC hR b1 b2 b3
  obtain ⟨o0, o1, o2, o3, o4, o5, o6, o7, o8, o9⟩ := cells10 LX.out.x1
  have PC := Lib.hid (drop_any (0) B g T N m.L.length m (((w.alloc (.cells #[.slice AL m.L.length cL, .slice AG gl.length cG, .slice AF m.fx.length cF, .slice AP pl.length cP, .slice AA al.length cA, .int .i64 m.dep, .int .i64 m.most, .int .i64 m.err] rfT)).alloc (.cells #[.int .i64 9, .int .i64 oi.op, .int .i64 oi.a, .int .i64 oi.b, .int .i64 oi.c, .int .i64 oi.n, .int .i64 on, .int .i64 oa, .int .i64 ob, .int .i64 oc] opT)).alloc (.cells #[.slice none 0 0, .slice none 0 0, .slice none 0 0, .slice none 0 0, .slice none 0 0, .int .i64 0, .int .i64 0, .int .i64 0] rfT)) HC.out (by omega) (by omega) (by have := HN.out; omega))
  have q1 := HR.out.ok.d0
  have q2 := HR.out.ok.dm
  have q3 := HR.out.nm
  have EQ := Lib.hid (show dropE m (0) = ⟨m.L, m.fx, m.dep, m.most, m.err⟩ from by unfold dropE; congr 1 <;> omega)
  clear hi hon hoc
  go_enter Tryd.func22, Tryd.ntmps22
  go_wp2_with fail
  generalize (((w.alloc (.cells #[.slice AL m.L.length cL, .slice AG gl.length cG, .slice AF m.fx.length cF, .slice AP pl.length cP, .slice AA al.length cA, .int .i64 m.dep, .int .i64 m.most, .int .i64 m.err] rfT)).alloc (.cells #[.int .i64 9, .int .i64 oi.op, .int .i64 oi.a, .int .i64 oi.b, .int .i64 oi.c, .int .i64 oi.n, .int .i64 on, .int .i64 oa, .int .i64 ob, .int .i64 oc] opT)).alloc (.cells #[.slice none 0 0, .slice none 0 0, .slice none 0 0, .slice none 0 0, .slice none 0 0, .int .i64 0, .int .i64 0, .int .i64 0] rfT)) = V at *
  refine PC.out.mono ?_
  rintro e w1 ⟨rfl, T1, hc, hk, ht⟩
  have KP := Lib.hid ((show KeptS T w V from KeptS.ofBelow BV.out).trans hk (fun b hb => .inl hb))
  have O1 := Lib.hid (show ∀ b, T1 b → T b ∨ w.heap.size ≤ b from fun b hb => by
    rcases ht b hb with h | h
    · exact .inl h
    · exact .inr (Nat.le_trans BV.out.size h))
  have NB := Lib.hid (show ∀ b, (w.heap.size ≤ b ∧ b < w.heap.size + 3) → ¬ T1 b from fun b hb h => by
    have h3 := LX.out.x2.lt
    rcases ht b h with h | h
    · have := TW.out b h
      omega
    · omega)
  have LX := Lib.hid (LX.out.later hk (fun b hb h => by have := TW.out b hb; omega))
  have C1 := Lib.hid hc
  have HR := Lib.hid (HR.out.kept (T' := (fun b => T1 b ∨ (w.heap.size ≤ b ∧ b < w.heap.size + 3))) (hk.mono (fun b hb => .inl hb)) (fun b hb => by
    rcases hb with hb | hb
    · rcases ht b hb with h | h
      · exact .inl (.inl h)
      · exact .inr h
    · exact .inl (.inr hb)))
  have HT := Lib.hid (show ∀ b, (fun b => T1 b ∨ (w.heap.size ≤ b ∧ b < w.heap.size + 3)) b → b < w1.heap.size from fun b hb => by
    have h3 := LX.out.x2.lt
    rcases hb with hb | hb
    · obtain ⟨_, _, _, _, _, _, _, _, h0⟩ := hc
      exact (h0.frm b hb).2
    · omega)
  clear hc hk ht PC o0 o1 o2 o3 o4 o5 o6 o7 o8 o9 HC
  obtain ⟨o0, o1, o2, o3, o4, o5, o6, o7, o8, o9⟩ := cells10 LX.out.x1
  obtain ⟨a0, a1, a2, a3, a4, a5, a6, a7⟩ := cells8 LX.out.x0
  rw [EQ.out] at C1
  simp only []
  go_at_K
  have zf : w1.frozen? ⟨w.heap.size, 5, none⟩ = false := LX.out.x0.free 5
  have LX9 := Lib.hid (show Lx3 w (w1.setCell ⟨w.heap.size, 5, none⟩ (.int .i64 m.dep)) rfT opT rfT #[.slice AL m.L.length cL, .slice AG gl.length cG, .slice AF m.fx.length cF, .slice AP pl.length cP, .slice AA al.length cA, .int .i64 m.dep, .int .i64 m.most, .int .i64 m.err] _ _ from LX.out.set0 5 (.int .i64 m.dep))
  obtain ⟨e0, e1, e2, e3, e4, e5, e6, e7⟩ := cells8 LX9.out.x0
  have H1 := Lib.hid (show (#[.slice AL m.L.length cL, .slice AG gl.length cG, .slice AF m.fx.length cF, .slice AP pl.length cP, .slice AA al.length cA, .int .i64 m.dep, .int .i64 m.most, .int .i64 m.err] : Array Value).all (·.oneCell') = true from by simp [Value.oneCell'])
  repeat (first | (go_big_may; first | (refine wpList_store_row rfl rfT (.tmp 6) (.tmp 152) rfl (w.heap.size + 1 + 1) #[.slice AL m.L.length cL, .slice AG gl.length cG, .slice AF m.fx.length cF, .slice AP pl.length cP, .slice AA al.length cA, .int .i64 m.dep, .int .i64 m.most, .int .i64 m.err] rfl rfl rfT #[.slice none 0 0, .slice none 0 0, .slice none 0 0, .slice none 0 0, .slice none 0 0, .int .i64 0, .int .i64 0, .int .i64 0] LX9.out.x2 S8 rfl H1.out ?_; generalize hZZ : ((w1.setCell ⟨w.heap.size, 5, none⟩ (.int .i64 m.dep))).setRow (w.heap.size + 1 + 1) #[.slice AL m.L.length cL, .slice AG gl.length cG, .slice AF m.fx.length cF, .slice AP pl.length cP, .slice AA al.length cA, .int .i64 m.dep, .int .i64 m.most, .int .i64 m.err] = ZZ; have HZZ := Lib.hid hZZ; clear hZZ)) | go_values | go_skip | go_guarded | go_step | go_upon)
  have K9 : KeptS (fun b => w.heap.size ≤ b ∧ b < w.heap.size + 3) w1 (w1.setCell ⟨w.heap.size, 5, none⟩ (.int .i64 m.dep)) := KeptS.set ⟨Nat.le_refl _, by omega⟩
  have KZ := LX9.out.kept2 #[.slice AL m.L.length cL, .slice AG gl.length cG, .slice AF m.fx.length cF, .slice AP pl.length cP, .slice AA al.length cA, .int .i64 m.dep, .int .i64 m.most, .int .i64 m.err]
  have LZ := LX9.out.row2 #[.slice AL m.L.length cL, .slice AG gl.length cG, .slice AF m.fx.length cF, .slice AP pl.length cP, .slice AA al.length cA, .int .i64 m.dep, .int .i64 m.most, .int .i64 m.err]
  rw [HZZ.out] at KZ LZ
  have KK := K9.trans KZ (fun _ h => .inl h)
  have CZ := Lib.hid (C1.out.later KK (fun b hb => NB.out b hb) (fun b hb => by have := BG.out; omega))
  have RZ := Lib.hid (show RfR ZZ (fun b => T1 b ∨ (w.heap.size ≤ b ∧ b < w.heap.size + 3)) (N + 2) ⟨m.L, m.fx, m.dep, m.most, m.err⟩ AL cL AG cG AF cF AP cP AA cA gl pl al from by
    have h0 := HR.out.later KK (fun b hb => .inr hb)
    exact ⟨h0.fL, h0.fG, h0.fF, h0.fP, h0.fA, h0.lg, Nat.le_trans h0.lp (by omega), Nat.le_trans h0.la (by omega), Nat.le_trans h0.lf (by omega), ⟨h0.ok.good, h0.ok.len, by show 0 ≤ m.dep; omega, by show m.dep ≤ m.most; omega⟩, by show m.most ≤ ((N + 2 : Nat) : Int); omega⟩)
  have KF := Lib.hid (KP.out.trans KK (fun b hb => .inr hb.1))
  obtain ⟨z0, z1, z2, z3, z4, z5, z6, z7⟩ := cells8 LZ.x2
  clear KZ LZ K9 KK
  rw [EQ.out]
  refine bodyPost_ret (v := .agg #[.slice AL m.L.length cL, .slice AG gl.length cG, .slice AF m.fx.length cF, .slice AP pl.length cP, .slice AA al.length cA, .int .i64 m.dep, .int .i64 m.most, .int .i64 m.err]) ?_ rfl ⟨T1, AL, cL, AG, cG, AF, cF, AP, cP, AA, cA, gl, pl, al, rfl, CZ.out.more (show N + 1 ≤ N + 2 by omega) (Nat.le_refl _), RZ.out.less (fun b hb => .inl hb), KF.out, O1.out⟩
  simp [results, Tryd.results22, go_sem, z0, z1, z2, z3, z4, z5, z6, z7]

set_option maxHeartbeats 16000000 in
set_option maxRecDepth 100000 in
theorem ot_drop01 (oi : Ins) (on oa ob oc : Int) (hi : I64I oi) (hon : I64 on) (hoc : I64 oc) (ha1 : -1000 ≤ oa) (ha2 : oa ≤ 1000) (hb1 : -1000000 ≤ ob) (hb2 : ob ≤ 1000000) (B g : Nat) (T : Nat → Prop) (N : Nat) (m : Em) (AL : Option Addr) (cL : Nat) (AG : Option Addr) (cG : Nat) (AF : Option Addr) (cF : Nat) (AP : Option Addr) (cP : Nat) (AA : Option Addr) (cA : Nat) (gl pl al : List Int) (w : World) (hC : CdAt w B g T N m) (hR : RfR w T N m AL cL AG cG AF cF AP cP AA cA gl pl al) (hN : N + 2 ≤ 100000) (hc : on < 0) (hd : m.dep ≤ 0) :
    Calls Tryd.prog 22 #[.pointer (some ⟨g, 0, none⟩), .agg #[.slice AL m.L.length cL, .slice AG gl.length cG, .slice AF m.fx.length cF, .slice AP pl.length cP, .slice AA al.length cA, .int .i64 m.dep, .int .i64 m.most, .int .i64 m.err], .agg #[.int .i64 9, .int .i64 oi.op, .int .i64 oi.a, .int .i64 oi.b, .int .i64 oi.c, .int .i64 oi.n, .int .i64 on, .int .i64 oa, .int .i64 ob, .int .i64 oc]] w (DoP B g T (N + 2) w (dropE m (0))) := by
  have b1 := (Below.refl w.heap.size w).alloc (Nat.le_refl _) (.cells #[.slice AL m.L.length cL, .slice AG gl.length cG, .slice AF m.fx.length cF, .slice AP pl.length cP, .slice AA al.length cA, .int .i64 m.dep, .int .i64 m.most, .int .i64 m.err] rfT)
  have b2 := b1.alloc b1.size (.cells #[.int .i64 9, .int .i64 oi.op, .int .i64 oi.a, .int .i64 oi.b, .int .i64 oi.c, .int .i64 oi.n, .int .i64 on, .int .i64 oa, .int .i64 ob, .int .i64 oc] opT)
  have b3 := b2.alloc b2.size (.cells #[.slice none 0 0, .slice none 0 0, .slice none 0 0, .slice none 0 0, .slice none 0 0, .int .i64 0, .int .i64 0, .int .i64 0] rfT)
  have LX := Lib.hid (show Lx3 w (((w.alloc (.cells #[.slice AL m.L.length cL, .slice AG gl.length cG, .slice AF m.fx.length cF, .slice AP pl.length cP, .slice AA al.length cA, .int .i64 m.dep, .int .i64 m.most, .int .i64 m.err] rfT)).alloc (.cells #[.int .i64 9, .int .i64 oi.op, .int .i64 oi.a, .int .i64 oi.b, .int .i64 oi.c, .int .i64 oi.n, .int .i64 on, .int .i64 oa, .int .i64 ob, .int .i64 oc] opT)).alloc (.cells #[.slice none 0 0, .slice none 0 0, .slice none 0 0, .slice none 0 0, .slice none 0 0, .int .i64 0, .int .i64 0, .int .i64 0] rfT)) rfT opT rfT #[.slice AL m.L.length cL, .slice AG gl.length cG, .slice AF m.fx.length cF, .slice AP pl.length cP, .slice AA al.length cA, .int .i64 m.dep, .int .i64 m.most, .int .i64 m.err] #[.int .i64 9, .int .i64 oi.op, .int .i64 oi.a, .int .i64 oi.b, .int .i64 oi.c, .int .i64 oi.n, .int .i64 on, .int .i64 oa, .int .i64 ob, .int .i64 oc] #[.slice none 0 0, .slice none 0 0, .slice none 0 0, .slice none 0 0, .slice none 0 0, .int .i64 0, .int .i64 0, .int .i64 0] from ⟨((Whole.made w rfT #[.slice AL m.L.length cL, .slice AG gl.length cG, .slice AF m.fx.length cF, .slice AP pl.length cP, .slice AA al.length cA, .int .i64 m.dep, .int .i64 m.most, .int .i64 m.err] _ rfl).alloc _).alloc _, (Whole.made (w.alloc (.cells #[.slice AL m.L.length cL, .slice AG gl.length cG, .slice AF m.fx.length cF, .slice AP pl.length cP, .slice AA al.length cA, .int .i64 m.dep, .int .i64 m.most, .int .i64 m.err] rfT)) opT #[.int .i64 9, .int .i64 oi.op, .int .i64 oi.a, .int .i64 oi.b, .int .i64 oi.c, .int .i64 oi.n, .int .i64 on, .int .i64 oa, .int .i64 ob, .int .i64 oc] _ (by simp)).alloc _, Whole.made ((w.alloc (.cells #[.slice AL m.L.length cL, .slice AG gl.length cG, .slice AF m.fx.length cF, .slice AP pl.length cP, .slice AA al.length cA, .int .i64 m.dep, .int .i64 m.most, .int .i64 m.err] rfT)).alloc (.cells #[.int .i64 9, .int .i64 oi.op, .int .i64 oi.a, .int .i64 oi.b, .int .i64 oi.c, .int .i64 oi.n, .int .i64 on, .int .i64 oa, .int .i64 ob, .int .i64 oc] opT)) rfT #[.slice none 0 0, .slice none 0 0, .slice none 0 0, .slice none 0 0, .slice none 0 0, .int .i64 0, .int .i64 0, .int .i64 0] _ (by simp)⟩)
  have HR := Lib.hid ((hR.boxed 3).below b3)
  have HC := Lib.hid (hC.below b3)
  have BV := Lib.hid b3
  have HN := Lib.hid hN
  have TW := Lib.hid (show ∀ b, T b → b < w.heap.size from by
    obtain ⟨_, _, _, _, _, _, _, _, h0⟩ := hC
    exact fun b hb => (h0.frm b hb).2)
  have BG := Lib.hid (show B ≤ g ∧ g < w.heap.size from by
    obtain ⟨_, _, _, _, _, _, _, _, h0⟩ := hC
    exact h0.frm g h0.tg)
  have S8 : (Tryd.prog.info? rfT).map (·.size) = some 8 := by kernel_rfl
  clear hC hR b1 b2 b3
  obtain ⟨o0, o1, o2, o3, o4, o5, o6, o7, o8, o9⟩ := cells10 LX.out.x1
  have PC := Lib.hid (drop_any (0) B g T N m.L.length m (((w.alloc (.cells #[.slice AL m.L.length cL, .slice AG gl.length cG, .slice AF m.fx.length cF, .slice AP pl.length cP, .slice AA al.length cA, .int .i64 m.dep, .int .i64 m.most, .int .i64 m.err] rfT)).alloc (.cells #[.int .i64 9, .int .i64 oi.op, .int .i64 oi.a, .int .i64 oi.b, .int .i64 oi.c, .int .i64 oi.n, .int .i64 on, .int .i64 oa, .int .i64 ob, .int .i64 oc] opT)).alloc (.cells #[.slice none 0 0, .slice none 0 0, .slice none 0 0, .slice none 0 0, .slice none 0 0, .int .i64 0, .int .i64 0, .int .i64 0] rfT)) HC.out (by omega) (by omega) (by have := HN.out; omega))
  have q1 := HR.out.ok.d0
  have q2 := HR.out.ok.dm
  have q3 := HR.out.nm
  have EQ := Lib.hid (show dropE m (0) = ⟨m.L, m.fx, 0, m.most, m.err⟩ from by unfold dropE; congr 1 <;> omega)
  clear hi hon hoc
  go_enter Tryd.func22, Tryd.ntmps22
  go_wp2_with fail
  generalize (((w.alloc (.cells #[.slice AL m.L.length cL, .slice AG gl.length cG, .slice AF m.fx.length cF, .slice AP pl.length cP, .slice AA al.length cA, .int .i64 m.dep, .int .i64 m.most, .int .i64 m.err] rfT)).alloc (.cells #[.int .i64 9, .int .i64 oi.op, .int .i64 oi.a, .int .i64 oi.b, .int .i64 oi.c, .int .i64 oi.n, .int .i64 on, .int .i64 oa, .int .i64 ob, .int .i64 oc] opT)).alloc (.cells #[.slice none 0 0, .slice none 0 0, .slice none 0 0, .slice none 0 0, .slice none 0 0, .int .i64 0, .int .i64 0, .int .i64 0] rfT)) = V at *
  refine PC.out.mono ?_
  rintro e w1 ⟨rfl, T1, hc, hk, ht⟩
  have KP := Lib.hid ((show KeptS T w V from KeptS.ofBelow BV.out).trans hk (fun b hb => .inl hb))
  have O1 := Lib.hid (show ∀ b, T1 b → T b ∨ w.heap.size ≤ b from fun b hb => by
    rcases ht b hb with h | h
    · exact .inl h
    · exact .inr (Nat.le_trans BV.out.size h))
  have NB := Lib.hid (show ∀ b, (w.heap.size ≤ b ∧ b < w.heap.size + 3) → ¬ T1 b from fun b hb h => by
    have h3 := LX.out.x2.lt
    rcases ht b h with h | h
    · have := TW.out b h
      omega
    · omega)
  have LX := Lib.hid (LX.out.later hk (fun b hb h => by have := TW.out b hb; omega))
  have C1 := Lib.hid hc
  have HR := Lib.hid (HR.out.kept (T' := (fun b => T1 b ∨ (w.heap.size ≤ b ∧ b < w.heap.size + 3))) (hk.mono (fun b hb => .inl hb)) (fun b hb => by
    rcases hb with hb | hb
    · rcases ht b hb with h | h
      · exact .inl (.inl h)
      · exact .inr h
    · exact .inl (.inr hb)))
  have HT := Lib.hid (show ∀ b, (fun b => T1 b ∨ (w.heap.size ≤ b ∧ b < w.heap.size + 3)) b → b < w1.heap.size from fun b hb => by
    have h3 := LX.out.x2.lt
    rcases hb with hb | hb
    · obtain ⟨_, _, _, _, _, _, _, _, h0⟩ := hc
      exact (h0.frm b hb).2
    · omega)
  clear hc hk ht PC o0 o1 o2 o3 o4 o5 o6 o7 o8 o9 HC
  obtain ⟨o0, o1, o2, o3, o4, o5, o6, o7, o8, o9⟩ := cells10 LX.out.x1
  obtain ⟨a0, a1, a2, a3, a4, a5, a6, a7⟩ := cells8 LX.out.x0
  rw [EQ.out] at C1
  simp only []
  go_at_K
  have zf : w1.frozen? ⟨w.heap.size, 5, none⟩ = false := LX.out.x0.free 5
  have LX9 := Lib.hid (show Lx3 w (w1.setCell ⟨w.heap.size, 5, none⟩ (.int .i64 0)) rfT opT rfT #[.slice AL m.L.length cL, .slice AG gl.length cG, .slice AF m.fx.length cF, .slice AP pl.length cP, .slice AA al.length cA, .int .i64 0, .int .i64 m.most, .int .i64 m.err] _ _ from LX.out.set0 5 (.int .i64 0))
  obtain ⟨e0, e1, e2, e3, e4, e5, e6, e7⟩ := cells8 LX9.out.x0
  have H1 := Lib.hid (show (#[.slice AL m.L.length cL, .slice AG gl.length cG, .slice AF m.fx.length cF, .slice AP pl.length cP, .slice AA al.length cA, .int .i64 0, .int .i64 m.most, .int .i64 m.err] : Array Value).all (·.oneCell') = true from by simp [Value.oneCell'])
  repeat (first | (go_big_may; first | (refine wpList_store_row rfl rfT (.tmp 6) (.tmp 152) rfl (w.heap.size + 1 + 1) #[.slice AL m.L.length cL, .slice AG gl.length cG, .slice AF m.fx.length cF, .slice AP pl.length cP, .slice AA al.length cA, .int .i64 0, .int .i64 m.most, .int .i64 m.err] rfl rfl rfT #[.slice none 0 0, .slice none 0 0, .slice none 0 0, .slice none 0 0, .slice none 0 0, .int .i64 0, .int .i64 0, .int .i64 0] LX9.out.x2 S8 rfl H1.out ?_; generalize hZZ : ((w1.setCell ⟨w.heap.size, 5, none⟩ (.int .i64 0))).setRow (w.heap.size + 1 + 1) #[.slice AL m.L.length cL, .slice AG gl.length cG, .slice AF m.fx.length cF, .slice AP pl.length cP, .slice AA al.length cA, .int .i64 0, .int .i64 m.most, .int .i64 m.err] = ZZ; have HZZ := Lib.hid hZZ; clear hZZ)) | go_values | go_skip | go_guarded | go_step | go_upon)
  have K9 : KeptS (fun b => w.heap.size ≤ b ∧ b < w.heap.size + 3) w1 (w1.setCell ⟨w.heap.size, 5, none⟩ (.int .i64 0)) := KeptS.set ⟨Nat.le_refl _, by omega⟩
  have KZ := LX9.out.kept2 #[.slice AL m.L.length cL, .slice AG gl.length cG, .slice AF m.fx.length cF, .slice AP pl.length cP, .slice AA al.length cA, .int .i64 0, .int .i64 m.most, .int .i64 m.err]
  have LZ := LX9.out.row2 #[.slice AL m.L.length cL, .slice AG gl.length cG, .slice AF m.fx.length cF, .slice AP pl.length cP, .slice AA al.length cA, .int .i64 0, .int .i64 m.most, .int .i64 m.err]
  rw [HZZ.out] at KZ LZ
  have KK := K9.trans KZ (fun _ h => .inl h)
  have CZ := Lib.hid (C1.out.later KK (fun b hb => NB.out b hb) (fun b hb => by have := BG.out; omega))
  have RZ := Lib.hid (show RfR ZZ (fun b => T1 b ∨ (w.heap.size ≤ b ∧ b < w.heap.size + 3)) (N + 2) ⟨m.L, m.fx, 0, m.most, m.err⟩ AL cL AG cG AF cF AP cP AA cA gl pl al from by
    have h0 := HR.out.later KK (fun b hb => .inr hb)
    exact ⟨h0.fL, h0.fG, h0.fF, h0.fP, h0.fA, h0.lg, Nat.le_trans h0.lp (by omega), Nat.le_trans h0.la (by omega), Nat.le_trans h0.lf (by omega), ⟨h0.ok.good, h0.ok.len, by show 0 ≤ 0; omega, by show 0 ≤ m.most; omega⟩, by show m.most ≤ ((N + 2 : Nat) : Int); omega⟩)
  have KF := Lib.hid (KP.out.trans KK (fun b hb => .inr hb.1))
  obtain ⟨z0, z1, z2, z3, z4, z5, z6, z7⟩ := cells8 LZ.x2
  clear KZ LZ K9 KK
  rw [EQ.out]
  refine bodyPost_ret (v := .agg #[.slice AL m.L.length cL, .slice AG gl.length cG, .slice AF m.fx.length cF, .slice AP pl.length cP, .slice AA al.length cA, .int .i64 0, .int .i64 m.most, .int .i64 m.err]) ?_ rfl ⟨T1, AL, cL, AG, cG, AF, cF, AP, cP, AA, cA, gl, pl, al, rfl, CZ.out.more (show N + 1 ≤ N + 2 by omega) (Nat.le_refl _), RZ.out.less (fun b hb => .inl hb), KF.out, O1.out⟩
  simp [results, Tryd.results22, go_sem, z0, z1, z2, z3, z4, z5, z6, z7]

set_option maxHeartbeats 16000000 in
set_option maxRecDepth 100000 in
theorem ot_drop10 (oi : Ins) (on oa ob oc : Int) (hi : I64I oi) (hon : I64 on) (hoc : I64 oc) (ha1 : -1000 ≤ oa) (ha2 : oa ≤ 1000) (hb1 : -1000000 ≤ ob) (hb2 : ob ≤ 1000000) (B g : Nat) (T : Nat → Prop) (N : Nat) (m : Em) (AL : Option Addr) (cL : Nat) (AG : Option Addr) (cG : Nat) (AF : Option Addr) (cF : Nat) (AP : Option Addr) (cP : Nat) (AA : Option Addr) (cA : Nat) (gl pl al : List Int) (w : World) (hC : CdAt w B g T N m) (hR : RfR w T N m AL cL AG cG AF cF AP cP AA cA gl pl al) (hN : N + 2 ≤ 100000) (hc : 0 ≤ on ∧ on ≤ 100) (hd : on < m.dep) :
    Calls Tryd.prog 22 #[.pointer (some ⟨g, 0, none⟩), .agg #[.slice AL m.L.length cL, .slice AG gl.length cG, .slice AF m.fx.length cF, .slice AP pl.length cP, .slice AA al.length cA, .int .i64 m.dep, .int .i64 m.most, .int .i64 m.err], .agg #[.int .i64 9, .int .i64 oi.op, .int .i64 oi.a, .int .i64 oi.b, .int .i64 oi.c, .int .i64 oi.n, .int .i64 on, .int .i64 oa, .int .i64 ob, .int .i64 oc]] w (DoP B g T (N + 2) w (dropE m (on))) := by
  have b1 := (Below.refl w.heap.size w).alloc (Nat.le_refl _) (.cells #[.slice AL m.L.length cL, .slice AG gl.length cG, .slice AF m.fx.length cF, .slice AP pl.length cP, .slice AA al.length cA, .int .i64 m.dep, .int .i64 m.most, .int .i64 m.err] rfT)
  have b2 := b1.alloc b1.size (.cells #[.int .i64 9, .int .i64 oi.op, .int .i64 oi.a, .int .i64 oi.b, .int .i64 oi.c, .int .i64 oi.n, .int .i64 on, .int .i64 oa, .int .i64 ob, .int .i64 oc] opT)
  have b3 := b2.alloc b2.size (.cells #[.slice none 0 0, .slice none 0 0, .slice none 0 0, .slice none 0 0, .slice none 0 0, .int .i64 0, .int .i64 0, .int .i64 0] rfT)
  have LX := Lib.hid (show Lx3 w (((w.alloc (.cells #[.slice AL m.L.length cL, .slice AG gl.length cG, .slice AF m.fx.length cF, .slice AP pl.length cP, .slice AA al.length cA, .int .i64 m.dep, .int .i64 m.most, .int .i64 m.err] rfT)).alloc (.cells #[.int .i64 9, .int .i64 oi.op, .int .i64 oi.a, .int .i64 oi.b, .int .i64 oi.c, .int .i64 oi.n, .int .i64 on, .int .i64 oa, .int .i64 ob, .int .i64 oc] opT)).alloc (.cells #[.slice none 0 0, .slice none 0 0, .slice none 0 0, .slice none 0 0, .slice none 0 0, .int .i64 0, .int .i64 0, .int .i64 0] rfT)) rfT opT rfT #[.slice AL m.L.length cL, .slice AG gl.length cG, .slice AF m.fx.length cF, .slice AP pl.length cP, .slice AA al.length cA, .int .i64 m.dep, .int .i64 m.most, .int .i64 m.err] #[.int .i64 9, .int .i64 oi.op, .int .i64 oi.a, .int .i64 oi.b, .int .i64 oi.c, .int .i64 oi.n, .int .i64 on, .int .i64 oa, .int .i64 ob, .int .i64 oc] #[.slice none 0 0, .slice none 0 0, .slice none 0 0, .slice none 0 0, .slice none 0 0, .int .i64 0, .int .i64 0, .int .i64 0] from ⟨((Whole.made w rfT #[.slice AL m.L.length cL, .slice AG gl.length cG, .slice AF m.fx.length cF, .slice AP pl.length cP, .slice AA al.length cA, .int .i64 m.dep, .int .i64 m.most, .int .i64 m.err] _ rfl).alloc _).alloc _, (Whole.made (w.alloc (.cells #[.slice AL m.L.length cL, .slice AG gl.length cG, .slice AF m.fx.length cF, .slice AP pl.length cP, .slice AA al.length cA, .int .i64 m.dep, .int .i64 m.most, .int .i64 m.err] rfT)) opT #[.int .i64 9, .int .i64 oi.op, .int .i64 oi.a, .int .i64 oi.b, .int .i64 oi.c, .int .i64 oi.n, .int .i64 on, .int .i64 oa, .int .i64 ob, .int .i64 oc] _ (by simp)).alloc _, Whole.made ((w.alloc (.cells #[.slice AL m.L.length cL, .slice AG gl.length cG, .slice AF m.fx.length cF, .slice AP pl.length cP, .slice AA al.length cA, .int .i64 m.dep, .int .i64 m.most, .int .i64 m.err] rfT)).alloc (.cells #[.int .i64 9, .int .i64 oi.op, .int .i64 oi.a, .int .i64 oi.b, .int .i64 oi.c, .int .i64 oi.n, .int .i64 on, .int .i64 oa, .int .i64 ob, .int .i64 oc] opT)) rfT #[.slice none 0 0, .slice none 0 0, .slice none 0 0, .slice none 0 0, .slice none 0 0, .int .i64 0, .int .i64 0, .int .i64 0] _ (by simp)⟩)
  have HR := Lib.hid ((hR.boxed 3).below b3)
  have HC := Lib.hid (hC.below b3)
  have BV := Lib.hid b3
  have HN := Lib.hid hN
  have TW := Lib.hid (show ∀ b, T b → b < w.heap.size from by
    obtain ⟨_, _, _, _, _, _, _, _, h0⟩ := hC
    exact fun b hb => (h0.frm b hb).2)
  have BG := Lib.hid (show B ≤ g ∧ g < w.heap.size from by
    obtain ⟨_, _, _, _, _, _, _, _, h0⟩ := hC
    exact h0.frm g h0.tg)
  have S8 : (Tryd.prog.info? rfT).map (·.size) = some 8 := by kernel_rfl
  clear hC hR b1 b2 b3
  obtain ⟨o0, o1, o2, o3, o4, o5, o6, o7, o8, o9⟩ := cells10 LX.out.x1
  have PC := Lib.hid (drop_any (on) B g T N m.L.length m (((w.alloc (.cells #[.slice AL m.L.length cL, .slice AG gl.length cG, .slice AF m.fx.length cF, .slice AP pl.length cP, .slice AA al.length cA, .int .i64 m.dep, .int .i64 m.most, .int .i64 m.err] rfT)).alloc (.cells #[.int .i64 9, .int .i64 oi.op, .int .i64 oi.a, .int .i64 oi.b, .int .i64 oi.c, .int .i64 oi.n, .int .i64 on, .int .i64 oa, .int .i64 ob, .int .i64 oc] opT)).alloc (.cells #[.slice none 0 0, .slice none 0 0, .slice none 0 0, .slice none 0 0, .slice none 0 0, .int .i64 0, .int .i64 0, .int .i64 0] rfT)) HC.out (by omega) (by omega) (by have := HN.out; omega))
  have q1 := HR.out.ok.d0
  have q2 := HR.out.ok.dm
  have q3 := HR.out.nm
  have EQ := Lib.hid (show dropE m (on) = ⟨m.L, m.fx, m.dep - on, m.most, m.err⟩ from by unfold dropE; congr 1 <;> omega)
  clear hi hon hoc
  go_enter Tryd.func22, Tryd.ntmps22
  go_wp2_with fail
  generalize (((w.alloc (.cells #[.slice AL m.L.length cL, .slice AG gl.length cG, .slice AF m.fx.length cF, .slice AP pl.length cP, .slice AA al.length cA, .int .i64 m.dep, .int .i64 m.most, .int .i64 m.err] rfT)).alloc (.cells #[.int .i64 9, .int .i64 oi.op, .int .i64 oi.a, .int .i64 oi.b, .int .i64 oi.c, .int .i64 oi.n, .int .i64 on, .int .i64 oa, .int .i64 ob, .int .i64 oc] opT)).alloc (.cells #[.slice none 0 0, .slice none 0 0, .slice none 0 0, .slice none 0 0, .slice none 0 0, .int .i64 0, .int .i64 0, .int .i64 0] rfT)) = V at *
  refine PC.out.mono ?_
  rintro e w1 ⟨rfl, T1, hc, hk, ht⟩
  have KP := Lib.hid ((show KeptS T w V from KeptS.ofBelow BV.out).trans hk (fun b hb => .inl hb))
  have O1 := Lib.hid (show ∀ b, T1 b → T b ∨ w.heap.size ≤ b from fun b hb => by
    rcases ht b hb with h | h
    · exact .inl h
    · exact .inr (Nat.le_trans BV.out.size h))
  have NB := Lib.hid (show ∀ b, (w.heap.size ≤ b ∧ b < w.heap.size + 3) → ¬ T1 b from fun b hb h => by
    have h3 := LX.out.x2.lt
    rcases ht b h with h | h
    · have := TW.out b h
      omega
    · omega)
  have LX := Lib.hid (LX.out.later hk (fun b hb h => by have := TW.out b hb; omega))
  have C1 := Lib.hid hc
  have HR := Lib.hid (HR.out.kept (T' := (fun b => T1 b ∨ (w.heap.size ≤ b ∧ b < w.heap.size + 3))) (hk.mono (fun b hb => .inl hb)) (fun b hb => by
    rcases hb with hb | hb
    · rcases ht b hb with h | h
      · exact .inl (.inl h)
      · exact .inr h
    · exact .inl (.inr hb)))
  have HT := Lib.hid (show ∀ b, (fun b => T1 b ∨ (w.heap.size ≤ b ∧ b < w.heap.size + 3)) b → b < w1.heap.size from fun b hb => by
    have h3 := LX.out.x2.lt
    rcases hb with hb | hb
    · obtain ⟨_, _, _, _, _, _, _, _, h0⟩ := hc
      exact (h0.frm b hb).2
    · omega)
  clear hc hk ht PC o0 o1 o2 o3 o4 o5 o6 o7 o8 o9 HC
  obtain ⟨o0, o1, o2, o3, o4, o5, o6, o7, o8, o9⟩ := cells10 LX.out.x1
  obtain ⟨a0, a1, a2, a3, a4, a5, a6, a7⟩ := cells8 LX.out.x0
  rw [EQ.out] at C1
  simp only []
  go_at_K
  have zf : w1.frozen? ⟨w.heap.size, 5, none⟩ = false := LX.out.x0.free 5
  have LX9 := Lib.hid (show Lx3 w (w1.setCell ⟨w.heap.size, 5, none⟩ (.int .i64 (m.dep - on))) rfT opT rfT #[.slice AL m.L.length cL, .slice AG gl.length cG, .slice AF m.fx.length cF, .slice AP pl.length cP, .slice AA al.length cA, .int .i64 (m.dep - on), .int .i64 m.most, .int .i64 m.err] _ _ from LX.out.set0 5 (.int .i64 (m.dep - on)))
  obtain ⟨e0, e1, e2, e3, e4, e5, e6, e7⟩ := cells8 LX9.out.x0
  have H1 := Lib.hid (show (#[.slice AL m.L.length cL, .slice AG gl.length cG, .slice AF m.fx.length cF, .slice AP pl.length cP, .slice AA al.length cA, .int .i64 (m.dep - on), .int .i64 m.most, .int .i64 m.err] : Array Value).all (·.oneCell') = true from by simp [Value.oneCell'])
  repeat (first | (go_big_may; first | (refine wpList_store_row rfl rfT (.tmp 6) (.tmp 152) rfl (w.heap.size + 1 + 1) #[.slice AL m.L.length cL, .slice AG gl.length cG, .slice AF m.fx.length cF, .slice AP pl.length cP, .slice AA al.length cA, .int .i64 (m.dep - on), .int .i64 m.most, .int .i64 m.err] rfl rfl rfT #[.slice none 0 0, .slice none 0 0, .slice none 0 0, .slice none 0 0, .slice none 0 0, .int .i64 0, .int .i64 0, .int .i64 0] LX9.out.x2 S8 rfl H1.out ?_; generalize hZZ : ((w1.setCell ⟨w.heap.size, 5, none⟩ (.int .i64 (m.dep - on)))).setRow (w.heap.size + 1 + 1) #[.slice AL m.L.length cL, .slice AG gl.length cG, .slice AF m.fx.length cF, .slice AP pl.length cP, .slice AA al.length cA, .int .i64 (m.dep - on), .int .i64 m.most, .int .i64 m.err] = ZZ; have HZZ := Lib.hid hZZ; clear hZZ)) | go_values | go_skip | go_guarded | go_step | go_upon)
  have K9 : KeptS (fun b => w.heap.size ≤ b ∧ b < w.heap.size + 3) w1 (w1.setCell ⟨w.heap.size, 5, none⟩ (.int .i64 (m.dep - on))) := KeptS.set ⟨Nat.le_refl _, by omega⟩
  have KZ := LX9.out.kept2 #[.slice AL m.L.length cL, .slice AG gl.length cG, .slice AF m.fx.length cF, .slice AP pl.length cP, .slice AA al.length cA, .int .i64 (m.dep - on), .int .i64 m.most, .int .i64 m.err]
  have LZ := LX9.out.row2 #[.slice AL m.L.length cL, .slice AG gl.length cG, .slice AF m.fx.length cF, .slice AP pl.length cP, .slice AA al.length cA, .int .i64 (m.dep - on), .int .i64 m.most, .int .i64 m.err]
  rw [HZZ.out] at KZ LZ
  have KK := K9.trans KZ (fun _ h => .inl h)
  have CZ := Lib.hid (C1.out.later KK (fun b hb => NB.out b hb) (fun b hb => by have := BG.out; omega))
  have RZ := Lib.hid (show RfR ZZ (fun b => T1 b ∨ (w.heap.size ≤ b ∧ b < w.heap.size + 3)) (N + 2) ⟨m.L, m.fx, m.dep - on, m.most, m.err⟩ AL cL AG cG AF cF AP cP AA cA gl pl al from by
    have h0 := HR.out.later KK (fun b hb => .inr hb)
    exact ⟨h0.fL, h0.fG, h0.fF, h0.fP, h0.fA, h0.lg, Nat.le_trans h0.lp (by omega), Nat.le_trans h0.la (by omega), Nat.le_trans h0.lf (by omega), ⟨h0.ok.good, h0.ok.len, by show 0 ≤ m.dep - on; omega, by show m.dep - on ≤ m.most; omega⟩, by show m.most ≤ ((N + 2 : Nat) : Int); omega⟩)
  have KF := Lib.hid (KP.out.trans KK (fun b hb => .inr hb.1))
  obtain ⟨z0, z1, z2, z3, z4, z5, z6, z7⟩ := cells8 LZ.x2
  clear KZ LZ K9 KK
  rw [EQ.out]
  refine bodyPost_ret (v := .agg #[.slice AL m.L.length cL, .slice AG gl.length cG, .slice AF m.fx.length cF, .slice AP pl.length cP, .slice AA al.length cA, .int .i64 (m.dep - on), .int .i64 m.most, .int .i64 m.err]) ?_ rfl ⟨T1, AL, cL, AG, cG, AF, cF, AP, cP, AA, cA, gl, pl, al, rfl, CZ.out.more (show N + 1 ≤ N + 2 by omega) (Nat.le_refl _), RZ.out.less (fun b hb => .inl hb), KF.out, O1.out⟩
  simp [results, Tryd.results22, go_sem, z0, z1, z2, z3, z4, z5, z6, z7]

set_option maxHeartbeats 16000000 in
set_option maxRecDepth 100000 in
theorem ot_drop11 (oi : Ins) (on oa ob oc : Int) (hi : I64I oi) (hon : I64 on) (hoc : I64 oc) (ha1 : -1000 ≤ oa) (ha2 : oa ≤ 1000) (hb1 : -1000000 ≤ ob) (hb2 : ob ≤ 1000000) (B g : Nat) (T : Nat → Prop) (N : Nat) (m : Em) (AL : Option Addr) (cL : Nat) (AG : Option Addr) (cG : Nat) (AF : Option Addr) (cF : Nat) (AP : Option Addr) (cP : Nat) (AA : Option Addr) (cA : Nat) (gl pl al : List Int) (w : World) (hC : CdAt w B g T N m) (hR : RfR w T N m AL cL AG cG AF cF AP cP AA cA gl pl al) (hN : N + 2 ≤ 100000) (hc : 0 ≤ on ∧ on ≤ 100) (hd : m.dep ≤ on) :
    Calls Tryd.prog 22 #[.pointer (some ⟨g, 0, none⟩), .agg #[.slice AL m.L.length cL, .slice AG gl.length cG, .slice AF m.fx.length cF, .slice AP pl.length cP, .slice AA al.length cA, .int .i64 m.dep, .int .i64 m.most, .int .i64 m.err], .agg #[.int .i64 9, .int .i64 oi.op, .int .i64 oi.a, .int .i64 oi.b, .int .i64 oi.c, .int .i64 oi.n, .int .i64 on, .int .i64 oa, .int .i64 ob, .int .i64 oc]] w (DoP B g T (N + 2) w (dropE m (on))) := by
  have b1 := (Below.refl w.heap.size w).alloc (Nat.le_refl _) (.cells #[.slice AL m.L.length cL, .slice AG gl.length cG, .slice AF m.fx.length cF, .slice AP pl.length cP, .slice AA al.length cA, .int .i64 m.dep, .int .i64 m.most, .int .i64 m.err] rfT)
  have b2 := b1.alloc b1.size (.cells #[.int .i64 9, .int .i64 oi.op, .int .i64 oi.a, .int .i64 oi.b, .int .i64 oi.c, .int .i64 oi.n, .int .i64 on, .int .i64 oa, .int .i64 ob, .int .i64 oc] opT)
  have b3 := b2.alloc b2.size (.cells #[.slice none 0 0, .slice none 0 0, .slice none 0 0, .slice none 0 0, .slice none 0 0, .int .i64 0, .int .i64 0, .int .i64 0] rfT)
  have LX := Lib.hid (show Lx3 w (((w.alloc (.cells #[.slice AL m.L.length cL, .slice AG gl.length cG, .slice AF m.fx.length cF, .slice AP pl.length cP, .slice AA al.length cA, .int .i64 m.dep, .int .i64 m.most, .int .i64 m.err] rfT)).alloc (.cells #[.int .i64 9, .int .i64 oi.op, .int .i64 oi.a, .int .i64 oi.b, .int .i64 oi.c, .int .i64 oi.n, .int .i64 on, .int .i64 oa, .int .i64 ob, .int .i64 oc] opT)).alloc (.cells #[.slice none 0 0, .slice none 0 0, .slice none 0 0, .slice none 0 0, .slice none 0 0, .int .i64 0, .int .i64 0, .int .i64 0] rfT)) rfT opT rfT #[.slice AL m.L.length cL, .slice AG gl.length cG, .slice AF m.fx.length cF, .slice AP pl.length cP, .slice AA al.length cA, .int .i64 m.dep, .int .i64 m.most, .int .i64 m.err] #[.int .i64 9, .int .i64 oi.op, .int .i64 oi.a, .int .i64 oi.b, .int .i64 oi.c, .int .i64 oi.n, .int .i64 on, .int .i64 oa, .int .i64 ob, .int .i64 oc] #[.slice none 0 0, .slice none 0 0, .slice none 0 0, .slice none 0 0, .slice none 0 0, .int .i64 0, .int .i64 0, .int .i64 0] from ⟨((Whole.made w rfT #[.slice AL m.L.length cL, .slice AG gl.length cG, .slice AF m.fx.length cF, .slice AP pl.length cP, .slice AA al.length cA, .int .i64 m.dep, .int .i64 m.most, .int .i64 m.err] _ rfl).alloc _).alloc _, (Whole.made (w.alloc (.cells #[.slice AL m.L.length cL, .slice AG gl.length cG, .slice AF m.fx.length cF, .slice AP pl.length cP, .slice AA al.length cA, .int .i64 m.dep, .int .i64 m.most, .int .i64 m.err] rfT)) opT #[.int .i64 9, .int .i64 oi.op, .int .i64 oi.a, .int .i64 oi.b, .int .i64 oi.c, .int .i64 oi.n, .int .i64 on, .int .i64 oa, .int .i64 ob, .int .i64 oc] _ (by simp)).alloc _, Whole.made ((w.alloc (.cells #[.slice AL m.L.length cL, .slice AG gl.length cG, .slice AF m.fx.length cF, .slice AP pl.length cP, .slice AA al.length cA, .int .i64 m.dep, .int .i64 m.most, .int .i64 m.err] rfT)).alloc (.cells #[.int .i64 9, .int .i64 oi.op, .int .i64 oi.a, .int .i64 oi.b, .int .i64 oi.c, .int .i64 oi.n, .int .i64 on, .int .i64 oa, .int .i64 ob, .int .i64 oc] opT)) rfT #[.slice none 0 0, .slice none 0 0, .slice none 0 0, .slice none 0 0, .slice none 0 0, .int .i64 0, .int .i64 0, .int .i64 0] _ (by simp)⟩)
  have HR := Lib.hid ((hR.boxed 3).below b3)
  have HC := Lib.hid (hC.below b3)
  have BV := Lib.hid b3
  have HN := Lib.hid hN
  have TW := Lib.hid (show ∀ b, T b → b < w.heap.size from by
    obtain ⟨_, _, _, _, _, _, _, _, h0⟩ := hC
    exact fun b hb => (h0.frm b hb).2)
  have BG := Lib.hid (show B ≤ g ∧ g < w.heap.size from by
    obtain ⟨_, _, _, _, _, _, _, _, h0⟩ := hC
    exact h0.frm g h0.tg)
  have S8 : (Tryd.prog.info? rfT).map (·.size) = some 8 := by kernel_rfl
  clear hC hR b1 b2 b3
  obtain ⟨o0, o1, o2, o3, o4, o5, o6, o7, o8, o9⟩ := cells10 LX.out.x1
  have PC := Lib.hid (drop_any (on) B g T N m.L.length m (((w.alloc (.cells #[.slice AL m.L.length cL, .slice AG gl.length cG, .slice AF m.fx.length cF, .slice AP pl.length cP, .slice AA al.length cA, .int .i64 m.dep, .int .i64 m.most, .int .i64 m.err] rfT)).alloc (.cells #[.int .i64 9, .int .i64 oi.op, .int .i64 oi.a, .int .i64 oi.b, .int .i64 oi.c, .int .i64 oi.n, .int .i64 on, .int .i64 oa, .int .i64 ob, .int .i64 oc] opT)).alloc (.cells #[.slice none 0 0, .slice none 0 0, .slice none 0 0, .slice none 0 0, .slice none 0 0, .int .i64 0, .int .i64 0, .int .i64 0] rfT)) HC.out (by omega) (by omega) (by have := HN.out; omega))
  have q1 := HR.out.ok.d0
  have q2 := HR.out.ok.dm
  have q3 := HR.out.nm
  have EQ := Lib.hid (show dropE m (on) = ⟨m.L, m.fx, 0, m.most, m.err⟩ from by unfold dropE; congr 1 <;> omega)
  clear hi hon hoc
  go_enter Tryd.func22, Tryd.ntmps22
  go_wp2_with fail
  generalize (((w.alloc (.cells #[.slice AL m.L.length cL, .slice AG gl.length cG, .slice AF m.fx.length cF, .slice AP pl.length cP, .slice AA al.length cA, .int .i64 m.dep, .int .i64 m.most, .int .i64 m.err] rfT)).alloc (.cells #[.int .i64 9, .int .i64 oi.op, .int .i64 oi.a, .int .i64 oi.b, .int .i64 oi.c, .int .i64 oi.n, .int .i64 on, .int .i64 oa, .int .i64 ob, .int .i64 oc] opT)).alloc (.cells #[.slice none 0 0, .slice none 0 0, .slice none 0 0, .slice none 0 0, .slice none 0 0, .int .i64 0, .int .i64 0, .int .i64 0] rfT)) = V at *
  refine PC.out.mono ?_
  rintro e w1 ⟨rfl, T1, hc, hk, ht⟩
  have KP := Lib.hid ((show KeptS T w V from KeptS.ofBelow BV.out).trans hk (fun b hb => .inl hb))
  have O1 := Lib.hid (show ∀ b, T1 b → T b ∨ w.heap.size ≤ b from fun b hb => by
    rcases ht b hb with h | h
    · exact .inl h
    · exact .inr (Nat.le_trans BV.out.size h))
  have NB := Lib.hid (show ∀ b, (w.heap.size ≤ b ∧ b < w.heap.size + 3) → ¬ T1 b from fun b hb h => by
    have h3 := LX.out.x2.lt
    rcases ht b h with h | h
    · have := TW.out b h
      omega
    · omega)
  have LX := Lib.hid (LX.out.later hk (fun b hb h => by have := TW.out b hb; omega))
  have C1 := Lib.hid hc
  have HR := Lib.hid (HR.out.kept (T' := (fun b => T1 b ∨ (w.heap.size ≤ b ∧ b < w.heap.size + 3))) (hk.mono (fun b hb => .inl hb)) (fun b hb => by
    rcases hb with hb | hb
    · rcases ht b hb with h | h
      · exact .inl (.inl h)
      · exact .inr h
    · exact .inl (.inr hb)))
  have HT := Lib.hid (show ∀ b, (fun b => T1 b ∨ (w.heap.size ≤ b ∧ b < w.heap.size + 3)) b → b < w1.heap.size from fun b hb => by
    have h3 := LX.out.x2.lt
    rcases hb with hb | hb
    · obtain ⟨_, _, _, _, _, _, _, _, h0⟩ := hc
      exact (h0.frm b hb).2
    · omega)
  clear hc hk ht PC o0 o1 o2 o3 o4 o5 o6 o7 o8 o9 HC
  obtain ⟨o0, o1, o2, o3, o4, o5, o6, o7, o8, o9⟩ := cells10 LX.out.x1
  obtain ⟨a0, a1, a2, a3, a4, a5, a6, a7⟩ := cells8 LX.out.x0
  rw [EQ.out] at C1
  simp only []
  go_at_K
  have zf : w1.frozen? ⟨w.heap.size, 5, none⟩ = false := LX.out.x0.free 5
  have LX9 := Lib.hid (show Lx3 w (w1.setCell ⟨w.heap.size, 5, none⟩ (.int .i64 0)) rfT opT rfT #[.slice AL m.L.length cL, .slice AG gl.length cG, .slice AF m.fx.length cF, .slice AP pl.length cP, .slice AA al.length cA, .int .i64 0, .int .i64 m.most, .int .i64 m.err] _ _ from LX.out.set0 5 (.int .i64 0))
  obtain ⟨e0, e1, e2, e3, e4, e5, e6, e7⟩ := cells8 LX9.out.x0
  have H1 := Lib.hid (show (#[.slice AL m.L.length cL, .slice AG gl.length cG, .slice AF m.fx.length cF, .slice AP pl.length cP, .slice AA al.length cA, .int .i64 0, .int .i64 m.most, .int .i64 m.err] : Array Value).all (·.oneCell') = true from by simp [Value.oneCell'])
  repeat (first | (go_big_may; first | (refine wpList_store_row rfl rfT (.tmp 6) (.tmp 152) rfl (w.heap.size + 1 + 1) #[.slice AL m.L.length cL, .slice AG gl.length cG, .slice AF m.fx.length cF, .slice AP pl.length cP, .slice AA al.length cA, .int .i64 0, .int .i64 m.most, .int .i64 m.err] rfl rfl rfT #[.slice none 0 0, .slice none 0 0, .slice none 0 0, .slice none 0 0, .slice none 0 0, .int .i64 0, .int .i64 0, .int .i64 0] LX9.out.x2 S8 rfl H1.out ?_; generalize hZZ : ((w1.setCell ⟨w.heap.size, 5, none⟩ (.int .i64 0))).setRow (w.heap.size + 1 + 1) #[.slice AL m.L.length cL, .slice AG gl.length cG, .slice AF m.fx.length cF, .slice AP pl.length cP, .slice AA al.length cA, .int .i64 0, .int .i64 m.most, .int .i64 m.err] = ZZ; have HZZ := Lib.hid hZZ; clear hZZ)) | go_values | go_skip | go_guarded | go_step | go_upon)
  have K9 : KeptS (fun b => w.heap.size ≤ b ∧ b < w.heap.size + 3) w1 (w1.setCell ⟨w.heap.size, 5, none⟩ (.int .i64 0)) := KeptS.set ⟨Nat.le_refl _, by omega⟩
  have KZ := LX9.out.kept2 #[.slice AL m.L.length cL, .slice AG gl.length cG, .slice AF m.fx.length cF, .slice AP pl.length cP, .slice AA al.length cA, .int .i64 0, .int .i64 m.most, .int .i64 m.err]
  have LZ := LX9.out.row2 #[.slice AL m.L.length cL, .slice AG gl.length cG, .slice AF m.fx.length cF, .slice AP pl.length cP, .slice AA al.length cA, .int .i64 0, .int .i64 m.most, .int .i64 m.err]
  rw [HZZ.out] at KZ LZ
  have KK := K9.trans KZ (fun _ h => .inl h)
  have CZ := Lib.hid (C1.out.later KK (fun b hb => NB.out b hb) (fun b hb => by have := BG.out; omega))
  have RZ := Lib.hid (show RfR ZZ (fun b => T1 b ∨ (w.heap.size ≤ b ∧ b < w.heap.size + 3)) (N + 2) ⟨m.L, m.fx, 0, m.most, m.err⟩ AL cL AG cG AF cF AP cP AA cA gl pl al from by
    have h0 := HR.out.later KK (fun b hb => .inr hb)
    exact ⟨h0.fL, h0.fG, h0.fF, h0.fP, h0.fA, h0.lg, Nat.le_trans h0.lp (by omega), Nat.le_trans h0.la (by omega), Nat.le_trans h0.lf (by omega), ⟨h0.ok.good, h0.ok.len, by show 0 ≤ 0; omega, by show 0 ≤ m.most; omega⟩, by show m.most ≤ ((N + 2 : Nat) : Int); omega⟩)
  have KF := Lib.hid (KP.out.trans KK (fun b hb => .inr hb.1))
  obtain ⟨z0, z1, z2, z3, z4, z5, z6, z7⟩ := cells8 LZ.x2
  clear KZ LZ K9 KK
  rw [EQ.out]
  refine bodyPost_ret (v := .agg #[.slice AL m.L.length cL, .slice AG gl.length cG, .slice AF m.fx.length cF, .slice AP pl.length cP, .slice AA al.length cA, .int .i64 0, .int .i64 m.most, .int .i64 m.err]) ?_ rfl ⟨T1, AL, cL, AG, cG, AF, cF, AP, cP, AA, cA, gl, pl, al, rfl, CZ.out.more (show N + 1 ≤ N + 2 by omega) (Nat.le_refl _), RZ.out.less (fun b hb => .inl hb), KF.out, O1.out⟩
  simp [results, Tryd.results22, go_sem, z0, z1, z2, z3, z4, z5, z6, z7]

set_option maxHeartbeats 16000000 in
set_option maxRecDepth 100000 in
theorem ot_drop20 (oi : Ins) (on oa ob oc : Int) (hi : I64I oi) (hon : I64 on) (hoc : I64 oc) (ha1 : -1000 ≤ oa) (ha2 : oa ≤ 1000) (hb1 : -1000000 ≤ ob) (hb2 : ob ≤ 1000000) (B g : Nat) (T : Nat → Prop) (N : Nat) (m : Em) (AL : Option Addr) (cL : Nat) (AG : Option Addr) (cG : Nat) (AF : Option Addr) (cF : Nat) (AP : Option Addr) (cP : Nat) (AA : Option Addr) (cA : Nat) (gl pl al : List Int) (w : World) (hC : CdAt w B g T N m) (hR : RfR w T N m AL cL AG cG AF cF AP cP AA cA gl pl al) (hN : N + 2 ≤ 100000) (hc : 100 < on) (hd : 100 < m.dep) :
    Calls Tryd.prog 22 #[.pointer (some ⟨g, 0, none⟩), .agg #[.slice AL m.L.length cL, .slice AG gl.length cG, .slice AF m.fx.length cF, .slice AP pl.length cP, .slice AA al.length cA, .int .i64 m.dep, .int .i64 m.most, .int .i64 m.err], .agg #[.int .i64 9, .int .i64 oi.op, .int .i64 oi.a, .int .i64 oi.b, .int .i64 oi.c, .int .i64 oi.n, .int .i64 on, .int .i64 oa, .int .i64 ob, .int .i64 oc]] w (DoP B g T (N + 2) w (dropE m (100))) := by
  have b1 := (Below.refl w.heap.size w).alloc (Nat.le_refl _) (.cells #[.slice AL m.L.length cL, .slice AG gl.length cG, .slice AF m.fx.length cF, .slice AP pl.length cP, .slice AA al.length cA, .int .i64 m.dep, .int .i64 m.most, .int .i64 m.err] rfT)
  have b2 := b1.alloc b1.size (.cells #[.int .i64 9, .int .i64 oi.op, .int .i64 oi.a, .int .i64 oi.b, .int .i64 oi.c, .int .i64 oi.n, .int .i64 on, .int .i64 oa, .int .i64 ob, .int .i64 oc] opT)
  have b3 := b2.alloc b2.size (.cells #[.slice none 0 0, .slice none 0 0, .slice none 0 0, .slice none 0 0, .slice none 0 0, .int .i64 0, .int .i64 0, .int .i64 0] rfT)
  have LX := Lib.hid (show Lx3 w (((w.alloc (.cells #[.slice AL m.L.length cL, .slice AG gl.length cG, .slice AF m.fx.length cF, .slice AP pl.length cP, .slice AA al.length cA, .int .i64 m.dep, .int .i64 m.most, .int .i64 m.err] rfT)).alloc (.cells #[.int .i64 9, .int .i64 oi.op, .int .i64 oi.a, .int .i64 oi.b, .int .i64 oi.c, .int .i64 oi.n, .int .i64 on, .int .i64 oa, .int .i64 ob, .int .i64 oc] opT)).alloc (.cells #[.slice none 0 0, .slice none 0 0, .slice none 0 0, .slice none 0 0, .slice none 0 0, .int .i64 0, .int .i64 0, .int .i64 0] rfT)) rfT opT rfT #[.slice AL m.L.length cL, .slice AG gl.length cG, .slice AF m.fx.length cF, .slice AP pl.length cP, .slice AA al.length cA, .int .i64 m.dep, .int .i64 m.most, .int .i64 m.err] #[.int .i64 9, .int .i64 oi.op, .int .i64 oi.a, .int .i64 oi.b, .int .i64 oi.c, .int .i64 oi.n, .int .i64 on, .int .i64 oa, .int .i64 ob, .int .i64 oc] #[.slice none 0 0, .slice none 0 0, .slice none 0 0, .slice none 0 0, .slice none 0 0, .int .i64 0, .int .i64 0, .int .i64 0] from ⟨((Whole.made w rfT #[.slice AL m.L.length cL, .slice AG gl.length cG, .slice AF m.fx.length cF, .slice AP pl.length cP, .slice AA al.length cA, .int .i64 m.dep, .int .i64 m.most, .int .i64 m.err] _ rfl).alloc _).alloc _, (Whole.made (w.alloc (.cells #[.slice AL m.L.length cL, .slice AG gl.length cG, .slice AF m.fx.length cF, .slice AP pl.length cP, .slice AA al.length cA, .int .i64 m.dep, .int .i64 m.most, .int .i64 m.err] rfT)) opT #[.int .i64 9, .int .i64 oi.op, .int .i64 oi.a, .int .i64 oi.b, .int .i64 oi.c, .int .i64 oi.n, .int .i64 on, .int .i64 oa, .int .i64 ob, .int .i64 oc] _ (by simp)).alloc _, Whole.made ((w.alloc (.cells #[.slice AL m.L.length cL, .slice AG gl.length cG, .slice AF m.fx.length cF, .slice AP pl.length cP, .slice AA al.length cA, .int .i64 m.dep, .int .i64 m.most, .int .i64 m.err] rfT)).alloc (.cells #[.int .i64 9, .int .i64 oi.op, .int .i64 oi.a, .int .i64 oi.b, .int .i64 oi.c, .int .i64 oi.n, .int .i64 on, .int .i64 oa, .int .i64 ob, .int .i64 oc] opT)) rfT #[.slice none 0 0, .slice none 0 0, .slice none 0 0, .slice none 0 0, .slice none 0 0, .int .i64 0, .int .i64 0, .int .i64 0] _ (by simp)⟩)
  have HR := Lib.hid ((hR.boxed 3).below b3)
  have HC := Lib.hid (hC.below b3)
  have BV := Lib.hid b3
  have HN := Lib.hid hN
  have TW := Lib.hid (show ∀ b, T b → b < w.heap.size from by
    obtain ⟨_, _, _, _, _, _, _, _, h0⟩ := hC
    exact fun b hb => (h0.frm b hb).2)
  have BG := Lib.hid (show B ≤ g ∧ g < w.heap.size from by
    obtain ⟨_, _, _, _, _, _, _, _, h0⟩ := hC
    exact h0.frm g h0.tg)
  have S8 : (Tryd.prog.info? rfT).map (·.size) = some 8 := by kernel_rfl
  clear hC hR b1 b2 b3
  obtain ⟨o0, o1, o2, o3, o4, o5, o6, o7, o8, o9⟩ := cells10 LX.out.x1
  have PC := Lib.hid (drop_any (100) B g T N m.L.length m (((w.alloc (.cells #[.slice AL m.L.length cL, .slice AG gl.length cG, .slice AF m.fx.length cF, .slice AP pl.length cP, .slice AA al.length cA, .int .i64 m.dep, .int .i64 m.most, .int .i64 m.err] rfT)).alloc (.cells #[.int .i64 9, .int .i64 oi.op, .int .i64 oi.a, .int .i64 oi.b, .int .i64 oi.c, .int .i64 oi.n, .int .i64 on, .int .i64 oa, .int .i64 ob, .int .i64 oc] opT)).alloc (.cells #[.slice none 0 0, .slice none 0 0, .slice none 0 0, .slice none 0 0, .slice none 0 0, .int .i64 0, .int .i64 0, .int .i64 0] rfT)) HC.out (by omega) (by omega) (by have := HN.out; omega))
  have q1 := HR.out.ok.d0
  have q2 := HR.out.ok.dm
  have q3 := HR.out.nm
  have EQ := Lib.hid (show dropE m (100) = ⟨m.L, m.fx, m.dep - 100, m.most, m.err⟩ from by unfold dropE; congr 1 <;> omega)
  clear hi hon hoc
  go_enter Tryd.func22, Tryd.ntmps22
  go_wp2_with fail
  generalize (((w.alloc (.cells #[.slice AL m.L.length cL, .slice AG gl.length cG, .slice AF m.fx.length cF, .slice AP pl.length cP, .slice AA al.length cA, .int .i64 m.dep, .int .i64 m.most, .int .i64 m.err] rfT)).alloc (.cells #[.int .i64 9, .int .i64 oi.op, .int .i64 oi.a, .int .i64 oi.b, .int .i64 oi.c, .int .i64 oi.n, .int .i64 on, .int .i64 oa, .int .i64 ob, .int .i64 oc] opT)).alloc (.cells #[.slice none 0 0, .slice none 0 0, .slice none 0 0, .slice none 0 0, .slice none 0 0, .int .i64 0, .int .i64 0, .int .i64 0] rfT)) = V at *
  refine PC.out.mono ?_
  rintro e w1 ⟨rfl, T1, hc, hk, ht⟩
  have KP := Lib.hid ((show KeptS T w V from KeptS.ofBelow BV.out).trans hk (fun b hb => .inl hb))
  have O1 := Lib.hid (show ∀ b, T1 b → T b ∨ w.heap.size ≤ b from fun b hb => by
    rcases ht b hb with h | h
    · exact .inl h
    · exact .inr (Nat.le_trans BV.out.size h))
  have NB := Lib.hid (show ∀ b, (w.heap.size ≤ b ∧ b < w.heap.size + 3) → ¬ T1 b from fun b hb h => by
    have h3 := LX.out.x2.lt
    rcases ht b h with h | h
    · have := TW.out b h
      omega
    · omega)
  have LX := Lib.hid (LX.out.later hk (fun b hb h => by have := TW.out b hb; omega))
  have C1 := Lib.hid hc
  have HR := Lib.hid (HR.out.kept (T' := (fun b => T1 b ∨ (w.heap.size ≤ b ∧ b < w.heap.size + 3))) (hk.mono (fun b hb => .inl hb)) (fun b hb => by
    rcases hb with hb | hb
    · rcases ht b hb with h | h
      · exact .inl (.inl h)
      · exact .inr h
    · exact .inl (.inr hb)))
  have HT := Lib.hid (show ∀ b, (fun b => T1 b ∨ (w.heap.size ≤ b ∧ b < w.heap.size + 3)) b → b < w1.heap.size from fun b hb => by
    have h3 := LX.out.x2.lt
    rcases hb with hb | hb
    · obtain ⟨_, _, _, _, _, _, _, _, h0⟩ := hc
      exact (h0.frm b hb).2
    · omega)
  clear hc hk ht PC o0 o1 o2 o3 o4 o5 o6 o7 o8 o9 HC
  obtain ⟨o0, o1, o2, o3, o4, o5, o6, o7, o8, o9⟩ := cells10 LX.out.x1
  obtain ⟨a0, a1, a2, a3, a4, a5, a6, a7⟩ := cells8 LX.out.x0
  rw [EQ.out] at C1
  simp only []
  go_at_K
  have zf : w1.frozen? ⟨w.heap.size, 5, none⟩ = false := LX.out.x0.free 5
  have LX9 := Lib.hid (show Lx3 w (w1.setCell ⟨w.heap.size, 5, none⟩ (.int .i64 (m.dep - 100))) rfT opT rfT #[.slice AL m.L.length cL, .slice AG gl.length cG, .slice AF m.fx.length cF, .slice AP pl.length cP, .slice AA al.length cA, .int .i64 (m.dep - 100), .int .i64 m.most, .int .i64 m.err] _ _ from LX.out.set0 5 (.int .i64 (m.dep - 100)))
  obtain ⟨e0, e1, e2, e3, e4, e5, e6, e7⟩ := cells8 LX9.out.x0
  have H1 := Lib.hid (show (#[.slice AL m.L.length cL, .slice AG gl.length cG, .slice AF m.fx.length cF, .slice AP pl.length cP, .slice AA al.length cA, .int .i64 (m.dep - 100), .int .i64 m.most, .int .i64 m.err] : Array Value).all (·.oneCell') = true from by simp [Value.oneCell'])
  repeat (first | (go_big_may; first | (refine wpList_store_row rfl rfT (.tmp 6) (.tmp 152) rfl (w.heap.size + 1 + 1) #[.slice AL m.L.length cL, .slice AG gl.length cG, .slice AF m.fx.length cF, .slice AP pl.length cP, .slice AA al.length cA, .int .i64 (m.dep - 100), .int .i64 m.most, .int .i64 m.err] rfl rfl rfT #[.slice none 0 0, .slice none 0 0, .slice none 0 0, .slice none 0 0, .slice none 0 0, .int .i64 0, .int .i64 0, .int .i64 0] LX9.out.x2 S8 rfl H1.out ?_; generalize hZZ : ((w1.setCell ⟨w.heap.size, 5, none⟩ (.int .i64 (m.dep - 100)))).setRow (w.heap.size + 1 + 1) #[.slice AL m.L.length cL, .slice AG gl.length cG, .slice AF m.fx.length cF, .slice AP pl.length cP, .slice AA al.length cA, .int .i64 (m.dep - 100), .int .i64 m.most, .int .i64 m.err] = ZZ; have HZZ := Lib.hid hZZ; clear hZZ)) | go_values | go_skip | go_guarded | go_step | go_upon)
  have K9 : KeptS (fun b => w.heap.size ≤ b ∧ b < w.heap.size + 3) w1 (w1.setCell ⟨w.heap.size, 5, none⟩ (.int .i64 (m.dep - 100))) := KeptS.set ⟨Nat.le_refl _, by omega⟩
  have KZ := LX9.out.kept2 #[.slice AL m.L.length cL, .slice AG gl.length cG, .slice AF m.fx.length cF, .slice AP pl.length cP, .slice AA al.length cA, .int .i64 (m.dep - 100), .int .i64 m.most, .int .i64 m.err]
  have LZ := LX9.out.row2 #[.slice AL m.L.length cL, .slice AG gl.length cG, .slice AF m.fx.length cF, .slice AP pl.length cP, .slice AA al.length cA, .int .i64 (m.dep - 100), .int .i64 m.most, .int .i64 m.err]
  rw [HZZ.out] at KZ LZ
  have KK := K9.trans KZ (fun _ h => .inl h)
  have CZ := Lib.hid (C1.out.later KK (fun b hb => NB.out b hb) (fun b hb => by have := BG.out; omega))
  have RZ := Lib.hid (show RfR ZZ (fun b => T1 b ∨ (w.heap.size ≤ b ∧ b < w.heap.size + 3)) (N + 2) ⟨m.L, m.fx, m.dep - 100, m.most, m.err⟩ AL cL AG cG AF cF AP cP AA cA gl pl al from by
    have h0 := HR.out.later KK (fun b hb => .inr hb)
    exact ⟨h0.fL, h0.fG, h0.fF, h0.fP, h0.fA, h0.lg, Nat.le_trans h0.lp (by omega), Nat.le_trans h0.la (by omega), Nat.le_trans h0.lf (by omega), ⟨h0.ok.good, h0.ok.len, by show 0 ≤ m.dep - 100; omega, by show m.dep - 100 ≤ m.most; omega⟩, by show m.most ≤ ((N + 2 : Nat) : Int); omega⟩)
  have KF := Lib.hid (KP.out.trans KK (fun b hb => .inr hb.1))
  obtain ⟨z0, z1, z2, z3, z4, z5, z6, z7⟩ := cells8 LZ.x2
  clear KZ LZ K9 KK
  rw [EQ.out]
  refine bodyPost_ret (v := .agg #[.slice AL m.L.length cL, .slice AG gl.length cG, .slice AF m.fx.length cF, .slice AP pl.length cP, .slice AA al.length cA, .int .i64 (m.dep - 100), .int .i64 m.most, .int .i64 m.err]) ?_ rfl ⟨T1, AL, cL, AG, cG, AF, cF, AP, cP, AA, cA, gl, pl, al, rfl, CZ.out.more (show N + 1 ≤ N + 2 by omega) (Nat.le_refl _), RZ.out.less (fun b hb => .inl hb), KF.out, O1.out⟩
  simp [results, Tryd.results22, go_sem, z0, z1, z2, z3, z4, z5, z6, z7]

set_option maxHeartbeats 16000000 in
set_option maxRecDepth 100000 in
theorem ot_drop21 (oi : Ins) (on oa ob oc : Int) (hi : I64I oi) (hon : I64 on) (hoc : I64 oc) (ha1 : -1000 ≤ oa) (ha2 : oa ≤ 1000) (hb1 : -1000000 ≤ ob) (hb2 : ob ≤ 1000000) (B g : Nat) (T : Nat → Prop) (N : Nat) (m : Em) (AL : Option Addr) (cL : Nat) (AG : Option Addr) (cG : Nat) (AF : Option Addr) (cF : Nat) (AP : Option Addr) (cP : Nat) (AA : Option Addr) (cA : Nat) (gl pl al : List Int) (w : World) (hC : CdAt w B g T N m) (hR : RfR w T N m AL cL AG cG AF cF AP cP AA cA gl pl al) (hN : N + 2 ≤ 100000) (hc : 100 < on) (hd : m.dep ≤ 100) :
    Calls Tryd.prog 22 #[.pointer (some ⟨g, 0, none⟩), .agg #[.slice AL m.L.length cL, .slice AG gl.length cG, .slice AF m.fx.length cF, .slice AP pl.length cP, .slice AA al.length cA, .int .i64 m.dep, .int .i64 m.most, .int .i64 m.err], .agg #[.int .i64 9, .int .i64 oi.op, .int .i64 oi.a, .int .i64 oi.b, .int .i64 oi.c, .int .i64 oi.n, .int .i64 on, .int .i64 oa, .int .i64 ob, .int .i64 oc]] w (DoP B g T (N + 2) w (dropE m (100))) := by
  have b1 := (Below.refl w.heap.size w).alloc (Nat.le_refl _) (.cells #[.slice AL m.L.length cL, .slice AG gl.length cG, .slice AF m.fx.length cF, .slice AP pl.length cP, .slice AA al.length cA, .int .i64 m.dep, .int .i64 m.most, .int .i64 m.err] rfT)
  have b2 := b1.alloc b1.size (.cells #[.int .i64 9, .int .i64 oi.op, .int .i64 oi.a, .int .i64 oi.b, .int .i64 oi.c, .int .i64 oi.n, .int .i64 on, .int .i64 oa, .int .i64 ob, .int .i64 oc] opT)
  have b3 := b2.alloc b2.size (.cells #[.slice none 0 0, .slice none 0 0, .slice none 0 0, .slice none 0 0, .slice none 0 0, .int .i64 0, .int .i64 0, .int .i64 0] rfT)
  have LX := Lib.hid (show Lx3 w (((w.alloc (.cells #[.slice AL m.L.length cL, .slice AG gl.length cG, .slice AF m.fx.length cF, .slice AP pl.length cP, .slice AA al.length cA, .int .i64 m.dep, .int .i64 m.most, .int .i64 m.err] rfT)).alloc (.cells #[.int .i64 9, .int .i64 oi.op, .int .i64 oi.a, .int .i64 oi.b, .int .i64 oi.c, .int .i64 oi.n, .int .i64 on, .int .i64 oa, .int .i64 ob, .int .i64 oc] opT)).alloc (.cells #[.slice none 0 0, .slice none 0 0, .slice none 0 0, .slice none 0 0, .slice none 0 0, .int .i64 0, .int .i64 0, .int .i64 0] rfT)) rfT opT rfT #[.slice AL m.L.length cL, .slice AG gl.length cG, .slice AF m.fx.length cF, .slice AP pl.length cP, .slice AA al.length cA, .int .i64 m.dep, .int .i64 m.most, .int .i64 m.err] #[.int .i64 9, .int .i64 oi.op, .int .i64 oi.a, .int .i64 oi.b, .int .i64 oi.c, .int .i64 oi.n, .int .i64 on, .int .i64 oa, .int .i64 ob, .int .i64 oc] #[.slice none 0 0, .slice none 0 0, .slice none 0 0, .slice none 0 0, .slice none 0 0, .int .i64 0, .int .i64 0, .int .i64 0] from ⟨((Whole.made w rfT #[.slice AL m.L.length cL, .slice AG gl.length cG, .slice AF m.fx.length cF, .slice AP pl.length cP, .slice AA al.length cA, .int .i64 m.dep, .int .i64 m.most, .int .i64 m.err] _ rfl).alloc _).alloc _, (Whole.made (w.alloc (.cells #[.slice AL m.L.length cL, .slice AG gl.length cG, .slice AF m.fx.length cF, .slice AP pl.length cP, .slice AA al.length cA, .int .i64 m.dep, .int .i64 m.most, .int .i64 m.err] rfT)) opT #[.int .i64 9, .int .i64 oi.op, .int .i64 oi.a, .int .i64 oi.b, .int .i64 oi.c, .int .i64 oi.n, .int .i64 on, .int .i64 oa, .int .i64 ob, .int .i64 oc] _ (by simp)).alloc _, Whole.made ((w.alloc (.cells #[.slice AL m.L.length cL, .slice AG gl.length cG, .slice AF m.fx.length cF, .slice AP pl.length cP, .slice AA al.length cA, .int .i64 m.dep, .int .i64 m.most, .int .i64 m.err] rfT)).alloc (.cells #[.int .i64 9, .int .i64 oi.op, .int .i64 oi.a, .int .i64 oi.b, .int .i64 oi.c, .int .i64 oi.n, .int .i64 on, .int .i64 oa, .int .i64 ob, .int .i64 oc] opT)) rfT #[.slice none 0 0, .slice none 0 0, .slice none 0 0, .slice none 0 0, .slice none 0 0, .int .i64 0, .int .i64 0, .int .i64 0] _ (by simp)⟩)
  have HR := Lib.hid ((hR.boxed 3).below b3)
  have HC := Lib.hid (hC.below b3)
  have BV := Lib.hid b3
  have HN := Lib.hid hN
  have TW := Lib.hid (show ∀ b, T b → b < w.heap.size from by
    obtain ⟨_, _, _, _, _, _, _, _, h0⟩ := hC
    exact fun b hb => (h0.frm b hb).2)
  have BG := Lib.hid (show B ≤ g ∧ g < w.heap.size from by
    obtain ⟨_, _, _, _, _, _, _, _, h0⟩ := hC
    exact h0.frm g h0.tg)
  have S8 : (Tryd.prog.info? rfT).map (·.size) = some 8 := by kernel_rfl
  clear hC hR b1 b2 b3
  obtain ⟨o0, o1, o2, o3, o4, o5, o6, o7, o8, o9⟩ := cells10 LX.out.x1
  have PC := Lib.hid (drop_any (100) B g T N m.L.length m (((w.alloc (.cells #[.slice AL m.L.length cL, .slice AG gl.length cG, .slice AF m.fx.length cF, .slice AP pl.length cP, .slice AA al.length cA, .int .i64 m.dep, .int .i64 m.most, .int .i64 m.err] rfT)).alloc (.cells #[.int .i64 9, .int .i64 oi.op, .int .i64 oi.a, .int .i64 oi.b, .int .i64 oi.c, .int .i64 oi.n, .int .i64 on, .int .i64 oa, .int .i64 ob, .int .i64 oc] opT)).alloc (.cells #[.slice none 0 0, .slice none 0 0, .slice none 0 0, .slice none 0 0, .slice none 0 0, .int .i64 0, .int .i64 0, .int .i64 0] rfT)) HC.out (by omega) (by omega) (by have := HN.out; omega))
  have q1 := HR.out.ok.d0
  have q2 := HR.out.ok.dm
  have q3 := HR.out.nm
  have EQ := Lib.hid (show dropE m (100) = ⟨m.L, m.fx, 0, m.most, m.err⟩ from by unfold dropE; congr 1 <;> omega)
  clear hi hon hoc
  go_enter Tryd.func22, Tryd.ntmps22
  go_wp2_with fail
  generalize (((w.alloc (.cells #[.slice AL m.L.length cL, .slice AG gl.length cG, .slice AF m.fx.length cF, .slice AP pl.length cP, .slice AA al.length cA, .int .i64 m.dep, .int .i64 m.most, .int .i64 m.err] rfT)).alloc (.cells #[.int .i64 9, .int .i64 oi.op, .int .i64 oi.a, .int .i64 oi.b, .int .i64 oi.c, .int .i64 oi.n, .int .i64 on, .int .i64 oa, .int .i64 ob, .int .i64 oc] opT)).alloc (.cells #[.slice none 0 0, .slice none 0 0, .slice none 0 0, .slice none 0 0, .slice none 0 0, .int .i64 0, .int .i64 0, .int .i64 0] rfT)) = V at *
  refine PC.out.mono ?_
  rintro e w1 ⟨rfl, T1, hc, hk, ht⟩
  have KP := Lib.hid ((show KeptS T w V from KeptS.ofBelow BV.out).trans hk (fun b hb => .inl hb))
  have O1 := Lib.hid (show ∀ b, T1 b → T b ∨ w.heap.size ≤ b from fun b hb => by
    rcases ht b hb with h | h
    · exact .inl h
    · exact .inr (Nat.le_trans BV.out.size h))
  have NB := Lib.hid (show ∀ b, (w.heap.size ≤ b ∧ b < w.heap.size + 3) → ¬ T1 b from fun b hb h => by
    have h3 := LX.out.x2.lt
    rcases ht b h with h | h
    · have := TW.out b h
      omega
    · omega)
  have LX := Lib.hid (LX.out.later hk (fun b hb h => by have := TW.out b hb; omega))
  have C1 := Lib.hid hc
  have HR := Lib.hid (HR.out.kept (T' := (fun b => T1 b ∨ (w.heap.size ≤ b ∧ b < w.heap.size + 3))) (hk.mono (fun b hb => .inl hb)) (fun b hb => by
    rcases hb with hb | hb
    · rcases ht b hb with h | h
      · exact .inl (.inl h)
      · exact .inr h
    · exact .inl (.inr hb)))
  have HT := Lib.hid (show ∀ b, (fun b => T1 b ∨ (w.heap.size ≤ b ∧ b < w.heap.size + 3)) b → b < w1.heap.size from fun b hb => by
    have h3 := LX.out.x2.lt
    rcases hb with hb | hb
    · obtain ⟨_, _, _, _, _, _, _, _, h0⟩ := hc
      exact (h0.frm b hb).2
    · omega)
  clear hc hk ht PC o0 o1 o2 o3 o4 o5 o6 o7 o8 o9 HC
  obtain ⟨o0, o1, o2, o3, o4, o5, o6, o7, o8, o9⟩ := cells10 LX.out.x1
  obtain ⟨a0, a1, a2, a3, a4, a5, a6, a7⟩ := cells8 LX.out.x0
  rw [EQ.out] at C1
  simp only []
  go_at_K
  have zf : w1.frozen? ⟨w.heap.size, 5, none⟩ = false := LX.out.x0.free 5
  have LX9 := Lib.hid (show Lx3 w (w1.setCell ⟨w.heap.size, 5, none⟩ (.int .i64 0)) rfT opT rfT #[.slice AL m.L.length cL, .slice AG gl.length cG, .slice AF m.fx.length cF, .slice AP pl.length cP, .slice AA al.length cA, .int .i64 0, .int .i64 m.most, .int .i64 m.err] _ _ from LX.out.set0 5 (.int .i64 0))
  obtain ⟨e0, e1, e2, e3, e4, e5, e6, e7⟩ := cells8 LX9.out.x0
  have H1 := Lib.hid (show (#[.slice AL m.L.length cL, .slice AG gl.length cG, .slice AF m.fx.length cF, .slice AP pl.length cP, .slice AA al.length cA, .int .i64 0, .int .i64 m.most, .int .i64 m.err] : Array Value).all (·.oneCell') = true from by simp [Value.oneCell'])
  repeat (first | (go_big_may; first | (refine wpList_store_row rfl rfT (.tmp 6) (.tmp 152) rfl (w.heap.size + 1 + 1) #[.slice AL m.L.length cL, .slice AG gl.length cG, .slice AF m.fx.length cF, .slice AP pl.length cP, .slice AA al.length cA, .int .i64 0, .int .i64 m.most, .int .i64 m.err] rfl rfl rfT #[.slice none 0 0, .slice none 0 0, .slice none 0 0, .slice none 0 0, .slice none 0 0, .int .i64 0, .int .i64 0, .int .i64 0] LX9.out.x2 S8 rfl H1.out ?_; generalize hZZ : ((w1.setCell ⟨w.heap.size, 5, none⟩ (.int .i64 0))).setRow (w.heap.size + 1 + 1) #[.slice AL m.L.length cL, .slice AG gl.length cG, .slice AF m.fx.length cF, .slice AP pl.length cP, .slice AA al.length cA, .int .i64 0, .int .i64 m.most, .int .i64 m.err] = ZZ; have HZZ := Lib.hid hZZ; clear hZZ)) | go_values | go_skip | go_guarded | go_step | go_upon)
  have K9 : KeptS (fun b => w.heap.size ≤ b ∧ b < w.heap.size + 3) w1 (w1.setCell ⟨w.heap.size, 5, none⟩ (.int .i64 0)) := KeptS.set ⟨Nat.le_refl _, by omega⟩
  have KZ := LX9.out.kept2 #[.slice AL m.L.length cL, .slice AG gl.length cG, .slice AF m.fx.length cF, .slice AP pl.length cP, .slice AA al.length cA, .int .i64 0, .int .i64 m.most, .int .i64 m.err]
  have LZ := LX9.out.row2 #[.slice AL m.L.length cL, .slice AG gl.length cG, .slice AF m.fx.length cF, .slice AP pl.length cP, .slice AA al.length cA, .int .i64 0, .int .i64 m.most, .int .i64 m.err]
  rw [HZZ.out] at KZ LZ
  have KK := K9.trans KZ (fun _ h => .inl h)
  have CZ := Lib.hid (C1.out.later KK (fun b hb => NB.out b hb) (fun b hb => by have := BG.out; omega))
  have RZ := Lib.hid (show RfR ZZ (fun b => T1 b ∨ (w.heap.size ≤ b ∧ b < w.heap.size + 3)) (N + 2) ⟨m.L, m.fx, 0, m.most, m.err⟩ AL cL AG cG AF cF AP cP AA cA gl pl al from by
    have h0 := HR.out.later KK (fun b hb => .inr hb)
    exact ⟨h0.fL, h0.fG, h0.fF, h0.fP, h0.fA, h0.lg, Nat.le_trans h0.lp (by omega), Nat.le_trans h0.la (by omega), Nat.le_trans h0.lf (by omega), ⟨h0.ok.good, h0.ok.len, by show 0 ≤ 0; omega, by show 0 ≤ m.most; omega⟩, by show m.most ≤ ((N + 2 : Nat) : Int); omega⟩)
  have KF := Lib.hid (KP.out.trans KK (fun b hb => .inr hb.1))
  obtain ⟨z0, z1, z2, z3, z4, z5, z6, z7⟩ := cells8 LZ.x2
  clear KZ LZ K9 KK
  rw [EQ.out]
  refine bodyPost_ret (v := .agg #[.slice AL m.L.length cL, .slice AG gl.length cG, .slice AF m.fx.length cF, .slice AP pl.length cP, .slice AA al.length cA, .int .i64 0, .int .i64 m.most, .int .i64 m.err]) ?_ rfl ⟨T1, AL, cL, AG, cG, AF, cF, AP, cP, AA, cA, gl, pl, al, rfl, CZ.out.more (show N + 1 ≤ N + 2 by omega) (Nat.le_refl _), RZ.out.less (fun b hb => .inl hb), KF.out, O1.out⟩
  simp [results, Tryd.results22, go_sem, z0, z1, z2, z3, z4, z5, z6, z7]
end Go.Proofs.YtcijjmmckofckaaDoor
