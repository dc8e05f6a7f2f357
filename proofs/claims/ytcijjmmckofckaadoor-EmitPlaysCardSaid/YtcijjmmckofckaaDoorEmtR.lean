/- Emit: the answers' Number, Push, Pop. -/
import Derived.Test.YtcijjmmckofckaaDoorEmtQ
namespace Go.Proofs.YtcijjmmckofckaaDoor
open Go.ChangeShapes Go.WideShapes Go.ChangeAt Go.RowKit
set_option linter.unusedVariables false
set_option linter.unusedSimpArgs false

set_option maxHeartbeats 16000000 in
set_option maxRecDepth 100000 in
theorem refnum_fit (a n : Int) (h1 : -32768 ≤ n) (h2 : n ≤ 32767) (T : Nat → Prop) (N : Nat) (m : Em) (AL : Option Addr) (cL : Nat) (AG : Option Addr) (cG : Nat) (AF : Option Addr) (cF : Nat) (AP : Option Addr) (cP : Nat) (AA : Option Addr) (cA : Nat) (gl pl al : List Int) (w : World) (h : RfR w T N m AL cL AG cG AF cF AP cP AA cA gl pl al) (hT : ∀ b, T b → b < w.heap.size) (hN : N ≤ 100000) :
    Calls Tryd.prog 48 #[.agg #[.slice AL m.L.length cL, .slice AG gl.length cG, .slice AF m.fx.length cF, .slice AP pl.length cP, .slice AA al.length cA, .int .i64 m.dep, .int .i64 m.most, .int .i64 m.err], .int .i64 a, .int .i32 n] w (RfP T N w (numE m a n)) := by
  have b1 := (Below.refl w.heap.size w).alloc (Nat.le_refl _) (.cells #[.slice AL m.L.length cL, .slice AG gl.length cG, .slice AF m.fx.length cF, .slice AP pl.length cP, .slice AA al.length cA, .int .i64 m.dep, .int .i64 m.most, .int .i64 m.err] rfT)
  have BX := Lib.hid (show Bx2 w ((w.alloc (.cells #[.slice AL m.L.length cL, .slice AG gl.length cG, .slice AF m.fx.length cF, .slice AP pl.length cP, .slice AA al.length cA, .int .i64 m.dep, .int .i64 m.most, .int .i64 m.err] rfT)).alloc (.cells #[.slice none 0 0, .slice none 0 0, .slice none 0 0, .slice none 0 0, .slice none 0 0, .int .i64 0, .int .i64 0, .int .i64 0] rfT)) rfT rfT #[.slice AL m.L.length cL, .slice AG gl.length cG, .slice AF m.fx.length cF, .slice AP pl.length cP, .slice AA al.length cA, .int .i64 m.dep, .int .i64 m.most, .int .i64 m.err] #[.slice none 0 0, .slice none 0 0, .slice none 0 0, .slice none 0 0, .slice none 0 0, .int .i64 0, .int .i64 0, .int .i64 0] from ⟨b1.alloc b1.size (.cells #[.slice none 0 0, .slice none 0 0, .slice none 0 0, .slice none 0 0, .slice none 0 0, .int .i64 0, .int .i64 0, .int .i64 0] rfT), (Whole.made w rfT #[.slice AL m.L.length cL, .slice AG gl.length cG, .slice AF m.fx.length cF, .slice AP pl.length cP, .slice AA al.length cA, .int .i64 m.dep, .int .i64 m.most, .int .i64 m.err] _ rfl).alloc _, Whole.made (w.alloc (.cells #[.slice AL m.L.length cL, .slice AG gl.length cG, .slice AF m.fx.length cF, .slice AP pl.length cP, .slice AA al.length cA, .int .i64 m.dep, .int .i64 m.most, .int .i64 m.err] rfT)) rfT #[.slice none 0 0, .slice none 0 0, .slice none 0 0, .slice none 0 0, .slice none 0 0, .int .i64 0, .int .i64 0, .int .i64 0] _ (by simp)⟩)
  have HR := Lib.hid ((h.boxed 2).below BX.out.b)
  have HN := Lib.hid hN
  have HT := Lib.hid (show ∀ b, (fun b => T b ∨ (w.heap.size ≤ b ∧ b < w.heap.size + 2)) b → b < ((w.alloc (.cells #[.slice AL m.L.length cL, .slice AG gl.length cG, .slice AF m.fx.length cF, .slice AP pl.length cP, .slice AA al.length cA, .int .i64 m.dep, .int .i64 m.most, .int .i64 m.err] rfT)).alloc (.cells #[.slice none 0 0, .slice none 0 0, .slice none 0 0, .slice none 0 0, .slice none 0 0, .int .i64 0, .int .i64 0, .int .i64 0] rfT)).heap.size from fun b hb => by
    have h1 := BX.out.x1.lt
    rcases hb with hb | hb
    · have := hT b hb
      omega
    · omega)
  have S8 : (Tryd.prog.info? rfT).map (·.size) = some 8 := by kernel_rfl
  clear h hT hN b1
  have PX := Lib.hid (refput_any ⟨2, a, 0, 0, n⟩ (fun b => T b ∨ (w.heap.size ≤ b ∧ b < w.heap.size + 2)) N m AL cL AG cG AF cF AP cP AA cA gl pl al ((w.alloc (.cells #[.slice AL m.L.length cL, .slice AG gl.length cG, .slice AF m.fx.length cF, .slice AP pl.length cP, .slice AA al.length cA, .int .i64 m.dep, .int .i64 m.most, .int .i64 m.err] rfT)).alloc (.cells #[.slice none 0 0, .slice none 0 0, .slice none 0 0, .slice none 0 0, .slice none 0 0, .int .i64 0, .int .i64 0, .int .i64 0] rfT)) HR.out HT.out HN.out)
  generalize hm1 : putE m ⟨2, a, 0, 0, n⟩ = m1 at PX
  have M1 := Lib.hid hm1
  clear hm1
  have EQ := Lib.hid (show numE m a n = m1 from by unfold numE; rw [if_pos ⟨h1, h2⟩]; exact M1.out)
  obtain ⟨a0, a1, a2, a3, a4, a5, a6, a7⟩ := cells8 BX.out.x0
  have d1 : decide ((-32768 : Int) ≤ n) = true := decide_eq_true h1
  have d2 : decide (n ≤ (32767 : Int)) = true := decide_eq_true h2
  go_enter Tryd.func48, Tryd.ntmps48
  go_wp2_with fail
  generalize ((w.alloc (.cells #[.slice AL m.L.length cL, .slice AG gl.length cG, .slice AF m.fx.length cF, .slice AP pl.length cP, .slice AA al.length cA, .int .i64 m.dep, .int .i64 m.most, .int .i64 m.err] rfT)).alloc (.cells #[.slice none 0 0, .slice none 0 0, .slice none 0 0, .slice none 0 0, .slice none 0 0, .int .i64 0, .int .i64 0, .int .i64 0] rfT)) = V at *
  refine PX.out.mono ?_
  rintro e y1 ⟨AL1, cL1, AG1, cG1, AF1, cF1, AP1, cP1, AA1, cA1, gl1, pl1, al1, rfl, hr1, hb1⟩
  have BX := Lib.hid (BX.out.below hb1)
  have HR := Lib.hid hr1
  have HT := Lib.hid (show ∀ b, (fun b => T b ∨ (w.heap.size ≤ b ∧ b < w.heap.size + 2)) b → b < y1.heap.size from fun b hb2 => Nat.lt_of_lt_of_le (HT.out b hb2) hb1.size)
  have H1 := Lib.hid (show (#[.slice AL1 m1.L.length cL1, .slice AG1 gl1.length cG1, .slice AF1 m1.fx.length cF1, .slice AP1 pl1.length cP1, .slice AA1 al1.length cA1, .int .i64 m1.dep, .int .i64 m1.most, .int .i64 m1.err] : Array Value).all (·.oneCell') = true from by simp [Value.oneCell'])
  clear hr1 hb1 PX a0 a1 a2 a3 a4 a5 a6 a7
  simp only []
  go_at_K
  repeat (first | (go_big_may; first | (refine wpList_store_row rfl rfT (.tmp 6) (.tmp 19) rfl (w.heap.size + 1) #[.slice AL1 m1.L.length cL1, .slice AG1 gl1.length cG1, .slice AF1 m1.fx.length cF1, .slice AP1 pl1.length cP1, .slice AA1 al1.length cA1, .int .i64 m1.dep, .int .i64 m1.most, .int .i64 m1.err] rfl rfl rfT #[.slice none 0 0, .slice none 0 0, .slice none 0 0, .slice none 0 0, .slice none 0 0, .int .i64 0, .int .i64 0, .int .i64 0] BX.out.x1 S8 rfl H1.out ?_; generalize hZZ : (y1).setRow (w.heap.size + 1) #[.slice AL1 m1.L.length cL1, .slice AG1 gl1.length cG1, .slice AF1 m1.fx.length cF1, .slice AP1 pl1.length cP1, .slice AA1 al1.length cA1, .int .i64 m1.dep, .int .i64 m1.most, .int .i64 m1.err] = ZZ; have HZZ := Lib.hid hZZ; clear hZZ)) | go_values | go_skip | go_guarded | go_step | go_upon)
  have RZ := Lib.hid (HZZ.out ▸ (HR.out.later (BX.out.kept1 #[.slice AL1 m1.L.length cL1, .slice AG1 gl1.length cG1, .slice AF1 m1.fx.length cF1, .slice AP1 pl1.length cP1, .slice AA1 al1.length cA1, .int .i64 m1.dep, .int .i64 m1.most, .int .i64 m1.err]) (fun b hb => .inr hb)))
  have BZ := Lib.hid (HZZ.out ▸ BX.out.row1 #[.slice AL1 m1.L.length cL1, .slice AG1 gl1.length cG1, .slice AF1 m1.fx.length cF1, .slice AP1 pl1.length cP1, .slice AA1 al1.length cA1, .int .i64 m1.dep, .int .i64 m1.most, .int .i64 m1.err])
  rw [EQ.out]
  obtain ⟨z0, z1, z2, z3, z4, z5, z6, z7⟩ := cells8 BZ.out.x1
  refine bodyPost_ret (v := .agg #[.slice AL1 m1.L.length cL1, .slice AG1 gl1.length cG1, .slice AF1 m1.fx.length cF1, .slice AP1 pl1.length cP1, .slice AA1 al1.length cA1, .int .i64 m1.dep, .int .i64 m1.most, .int .i64 m1.err]) ?_ rfl ⟨AL1, cL1, AG1, cG1, AF1, cF1, AP1, cP1, AA1, cA1, gl1, pl1, al1, rfl, RZ.out.less (fun b hb => .inl hb), BZ.out.b⟩
  simp [results, Tryd.results48, go_sem, z0, z1, z2, z3, z4, z5, z6, z7]

set_option maxHeartbeats 16000000 in
set_option maxRecDepth 100000 in
theorem refnum_not (a n : Int) (h1 : ¬ (-32768 ≤ n ∧ n ≤ 32767)) (h3 : -2147483648 ≤ n) (h4 : n ≤ 2147483647) (T : Nat → Prop) (N : Nat) (m : Em) (AL : Option Addr) (cL : Nat) (AG : Option Addr) (cG : Nat) (AF : Option Addr) (cF : Nat) (AP : Option Addr) (cP : Nat) (AA : Option Addr) (cA : Nat) (gl pl al : List Int) (w : World) (h : RfR w T N m AL cL AG cG AF cF AP cP AA cA gl pl al) (hT : ∀ b, T b → b < w.heap.size) (hN : N ≤ 100000) :
    Calls Tryd.prog 48 #[.agg #[.slice AL m.L.length cL, .slice AG gl.length cG, .slice AF m.fx.length cF, .slice AP pl.length cP, .slice AA al.length cA, .int .i64 m.dep, .int .i64 m.most, .int .i64 m.err], .int .i64 a, .int .i32 n] w (RfP T N w (numE m a n)) := by
  have b1 := (Below.refl w.heap.size w).alloc (Nat.le_refl _) (.cells #[.slice AL m.L.length cL, .slice AG gl.length cG, .slice AF m.fx.length cF, .slice AP pl.length cP, .slice AA al.length cA, .int .i64 m.dep, .int .i64 m.most, .int .i64 m.err] rfT)
  have BX := Lib.hid (show Bx2 w ((w.alloc (.cells #[.slice AL m.L.length cL, .slice AG gl.length cG, .slice AF m.fx.length cF, .slice AP pl.length cP, .slice AA al.length cA, .int .i64 m.dep, .int .i64 m.most, .int .i64 m.err] rfT)).alloc (.cells #[.slice none 0 0, .slice none 0 0, .slice none 0 0, .slice none 0 0, .slice none 0 0, .int .i64 0, .int .i64 0, .int .i64 0] rfT)) rfT rfT #[.slice AL m.L.length cL, .slice AG gl.length cG, .slice AF m.fx.length cF, .slice AP pl.length cP, .slice AA al.length cA, .int .i64 m.dep, .int .i64 m.most, .int .i64 m.err] #[.slice none 0 0, .slice none 0 0, .slice none 0 0, .slice none 0 0, .slice none 0 0, .int .i64 0, .int .i64 0, .int .i64 0] from ⟨b1.alloc b1.size (.cells #[.slice none 0 0, .slice none 0 0, .slice none 0 0, .slice none 0 0, .slice none 0 0, .int .i64 0, .int .i64 0, .int .i64 0] rfT), (Whole.made w rfT #[.slice AL m.L.length cL, .slice AG gl.length cG, .slice AF m.fx.length cF, .slice AP pl.length cP, .slice AA al.length cA, .int .i64 m.dep, .int .i64 m.most, .int .i64 m.err] _ rfl).alloc _, Whole.made (w.alloc (.cells #[.slice AL m.L.length cL, .slice AG gl.length cG, .slice AF m.fx.length cF, .slice AP pl.length cP, .slice AA al.length cA, .int .i64 m.dep, .int .i64 m.most, .int .i64 m.err] rfT)) rfT #[.slice none 0 0, .slice none 0 0, .slice none 0 0, .slice none 0 0, .slice none 0 0, .int .i64 0, .int .i64 0, .int .i64 0] _ (by simp)⟩)
  have HR := Lib.hid ((h.boxed 2).below BX.out.b)
  have HN := Lib.hid hN
  have HT := Lib.hid (show ∀ b, (fun b => T b ∨ (w.heap.size ≤ b ∧ b < w.heap.size + 2)) b → b < ((w.alloc (.cells #[.slice AL m.L.length cL, .slice AG gl.length cG, .slice AF m.fx.length cF, .slice AP pl.length cP, .slice AA al.length cA, .int .i64 m.dep, .int .i64 m.most, .int .i64 m.err] rfT)).alloc (.cells #[.slice none 0 0, .slice none 0 0, .slice none 0 0, .slice none 0 0, .slice none 0 0, .int .i64 0, .int .i64 0, .int .i64 0] rfT)).heap.size from fun b hb => by
    have h1 := BX.out.x1.lt
    rcases hb with hb | hb
    · have := hT b hb
      omega
    · omega)
  have S8 : (Tryd.prog.info? rfT).map (·.size) = some 8 := by kernel_rfl
  clear h hT hN b1
  have PX := Lib.hid (refput_any ⟨3, a, 0, 0, n % 4294967296 / 65536⟩ (fun b => T b ∨ (w.heap.size ≤ b ∧ b < w.heap.size + 2)) N m AL cL AG cG AF cF AP cP AA cA gl pl al ((w.alloc (.cells #[.slice AL m.L.length cL, .slice AG gl.length cG, .slice AF m.fx.length cF, .slice AP pl.length cP, .slice AA al.length cA, .int .i64 m.dep, .int .i64 m.most, .int .i64 m.err] rfT)).alloc (.cells #[.slice none 0 0, .slice none 0 0, .slice none 0 0, .slice none 0 0, .slice none 0 0, .int .i64 0, .int .i64 0, .int .i64 0] rfT)) HR.out HT.out HN.out)
  generalize hm1 : putE m ⟨3, a, 0, 0, n % 4294967296 / 65536⟩ = m1 at PX
  have M1 := Lib.hid hm1
  clear hm1
  have HF := Lib.hid h1
  obtain ⟨a0, a1, a2, a3, a4, a5, a6, a7⟩ := cells8 BX.out.x0
  have dd : ∀ p : Prop, p → p := fun _ h => h
  by_cases hlo : -32768 ≤ n
  · have d1 : decide ((-32768 : Int) ≤ n) = true := decide_eq_true hlo
    have d2 : decide (n ≤ (32767 : Int)) = false := decide_eq_false (fun h => h1 ⟨hlo, h⟩)
    clear h1 dd
    go_enter Tryd.func48, Tryd.ntmps48
    go_wp2_with fail
    generalize ((w.alloc (.cells #[.slice AL m.L.length cL, .slice AG gl.length cG, .slice AF m.fx.length cF, .slice AP pl.length cP, .slice AA al.length cA, .int .i64 m.dep, .int .i64 m.most, .int .i64 m.err] rfT)).alloc (.cells #[.slice none 0 0, .slice none 0 0, .slice none 0 0, .slice none 0 0, .slice none 0 0, .int .i64 0, .int .i64 0, .int .i64 0] rfT)) = V at *
    refine PX.out.mono ?_
    rintro e y1 ⟨AL1, cL1, AG1, cG1, AF1, cF1, AP1, cP1, AA1, cA1, gl1, pl1, al1, rfl, hr1, hb1⟩
    have BX := Lib.hid (BX.out.below hb1)
    have HR := Lib.hid hr1
    have HT := Lib.hid (show ∀ b, (fun b => T b ∨ (w.heap.size ≤ b ∧ b < w.heap.size + 2)) b → b < y1.heap.size from fun b hb2 => Nat.lt_of_lt_of_le (HT.out b hb2) hb1.size)
    have H1 := Lib.hid (show (#[.slice AL1 m1.L.length cL1, .slice AG1 gl1.length cG1, .slice AF1 m1.fx.length cF1, .slice AP1 pl1.length cP1, .slice AA1 al1.length cA1, .int .i64 m1.dep, .int .i64 m1.most, .int .i64 m1.err] : Array Value).all (·.oneCell') = true from by simp [Value.oneCell'])
    clear hr1 hb1 PX a0 a1 a2 a3 a4 a5 a6 a7
    simp only []
    go_at_K
    repeat (first | (go_big_may; first | (refine wpList_store_row rfl rfT (.tmp 3) (.tmp 28) rfl (w.heap.size) #[.slice AL1 m1.L.length cL1, .slice AG1 gl1.length cG1, .slice AF1 m1.fx.length cF1, .slice AP1 pl1.length cP1, .slice AA1 al1.length cA1, .int .i64 m1.dep, .int .i64 m1.most, .int .i64 m1.err] rfl rfl rfT #[.slice AL m.L.length cL, .slice AG gl.length cG, .slice AF m.fx.length cF, .slice AP pl.length cP, .slice AA al.length cA, .int .i64 m.dep, .int .i64 m.most, .int .i64 m.err] BX.out.x0 S8 rfl H1.out ?_; generalize hZ1 : (y1).setRow (w.heap.size) #[.slice AL1 m1.L.length cL1, .slice AG1 gl1.length cG1, .slice AF1 m1.fx.length cF1, .slice AP1 pl1.length cP1, .slice AA1 al1.length cA1, .int .i64 m1.dep, .int .i64 m1.most, .int .i64 m1.err] = Z1; have HZ1 := Lib.hid hZ1; clear hZ1; have BX1 := Lib.hid (show Bx2 w Z1 rfT rfT #[.slice AL1 m1.L.length cL1, .slice AG1 gl1.length cG1, .slice AF1 m1.fx.length cF1, .slice AP1 pl1.length cP1, .slice AA1 al1.length cA1, .int .i64 m1.dep, .int .i64 m1.most, .int .i64 m1.err] _ from HZ1.out ▸ BX.out.row0 #[.slice AL1 m1.L.length cL1, .slice AG1 gl1.length cG1, .slice AF1 m1.fx.length cF1, .slice AP1 pl1.length cP1, .slice AA1 al1.length cA1, .int .i64 m1.dep, .int .i64 m1.most, .int .i64 m1.err]); have HR1 := Lib.hid (show RfR Z1 (fun b => T b ∨ (w.heap.size ≤ b ∧ b < w.heap.size + 2)) N m1 AL1 cL1 AG1 cG1 AF1 cF1 AP1 cP1 AA1 cA1 gl1 pl1 al1 from HZ1.out ▸ (HR.out.later (BX.out.kept0 #[.slice AL1 m1.L.length cL1, .slice AG1 gl1.length cG1, .slice AF1 m1.fx.length cF1, .slice AP1 pl1.length cP1, .slice AA1 al1.length cA1, .int .i64 m1.dep, .int .i64 m1.most, .int .i64 m1.err]) (fun b hb => .inr hb))); have SZ1 := Lib.hid (show y1.heap.size ≤ Z1.heap.size from HZ1.out ▸ (BX.out.kept0 #[.slice AL1 m1.L.length cL1, .slice AG1 gl1.length cG1, .slice AF1 m1.fx.length cF1, .slice AP1 pl1.length cP1, .slice AA1 al1.length cA1, .int .i64 m1.dep, .int .i64 m1.most, .int .i64 m1.err]).size); obtain ⟨a0, a1, a2, a3, a4, a5, a6, a7⟩ := cells8 BX1.out.x0)) | go_values | go_skip | go_guarded | go_step | go_upon)
    have BX := BX1
    have HR := HR1
    have HT := Lib.hid (show ∀ b, (fun b => T b ∨ (w.heap.size ≤ b ∧ b < w.heap.size + 2)) b → b < Z1.heap.size from fun b hb2 => Nat.lt_of_lt_of_le (HT.out b hb2) SZ1.out)
    clear BX1 HR1 SZ1 HZ1
    have PX := Lib.hid (refput_any ⟨4, a, a, 0, n % 65536⟩ (fun b => T b ∨ (w.heap.size ≤ b ∧ b < w.heap.size + 2)) N m1 AL1 cL1 AG1 cG1 AF1 cF1 AP1 cP1 AA1 cA1 gl1 pl1 al1 Z1 HR.out HT.out HN.out)
    generalize hm2 : putE m1 ⟨4, a, a, 0, n % 65536⟩ = m2 at PX
    have M2 := Lib.hid hm2
    clear hm2
    have EQ := Lib.hid (show numE m a n = m2 from by unfold numE; rw [if_neg HF.out]; unfold halfE; rw [M1.out]; exact M2.out)
    refine PX.out.mono ?_
    rintro e y2 ⟨AL2, cL2, AG2, cG2, AF2, cF2, AP2, cP2, AA2, cA2, gl2, pl2, al2, rfl, hr1, hb1⟩
    have BX := Lib.hid (BX.out.below hb1)
    have HR := Lib.hid hr1
    have HT := Lib.hid (show ∀ b, (fun b => T b ∨ (w.heap.size ≤ b ∧ b < w.heap.size + 2)) b → b < y2.heap.size from fun b hb2 => Nat.lt_of_lt_of_le (HT.out b hb2) hb1.size)
    have H2 := Lib.hid (show (#[.slice AL2 m2.L.length cL2, .slice AG2 gl2.length cG2, .slice AF2 m2.fx.length cF2, .slice AP2 pl2.length cP2, .slice AA2 al2.length cA2, .int .i64 m2.dep, .int .i64 m2.most, .int .i64 m2.err] : Array Value).all (·.oneCell') = true from by simp [Value.oneCell'])
    clear hr1 hb1 PX a0 a1 a2 a3 a4 a5 a6 a7
    simp only []
    go_at_K
    repeat (first | (go_big_may; first | (refine wpList_store_row rfl rfT (.tmp 6) (.tmp 35) rfl (w.heap.size + 1) #[.slice AL2 m2.L.length cL2, .slice AG2 gl2.length cG2, .slice AF2 m2.fx.length cF2, .slice AP2 pl2.length cP2, .slice AA2 al2.length cA2, .int .i64 m2.dep, .int .i64 m2.most, .int .i64 m2.err] rfl rfl rfT #[.slice none 0 0, .slice none 0 0, .slice none 0 0, .slice none 0 0, .slice none 0 0, .int .i64 0, .int .i64 0, .int .i64 0] BX.out.x1 S8 rfl H2.out ?_; generalize hZZ : (y2).setRow (w.heap.size + 1) #[.slice AL2 m2.L.length cL2, .slice AG2 gl2.length cG2, .slice AF2 m2.fx.length cF2, .slice AP2 pl2.length cP2, .slice AA2 al2.length cA2, .int .i64 m2.dep, .int .i64 m2.most, .int .i64 m2.err] = ZZ; have HZZ := Lib.hid hZZ; clear hZZ)) | go_values | go_skip | go_guarded | go_step | go_upon)
    have RZ := Lib.hid (HZZ.out ▸ (HR.out.later (BX.out.kept1 #[.slice AL2 m2.L.length cL2, .slice AG2 gl2.length cG2, .slice AF2 m2.fx.length cF2, .slice AP2 pl2.length cP2, .slice AA2 al2.length cA2, .int .i64 m2.dep, .int .i64 m2.most, .int .i64 m2.err]) (fun b hb => .inr hb)))
    have BZ := Lib.hid (HZZ.out ▸ BX.out.row1 #[.slice AL2 m2.L.length cL2, .slice AG2 gl2.length cG2, .slice AF2 m2.fx.length cF2, .slice AP2 pl2.length cP2, .slice AA2 al2.length cA2, .int .i64 m2.dep, .int .i64 m2.most, .int .i64 m2.err])
    rw [EQ.out]
    obtain ⟨z0, z1, z2, z3, z4, z5, z6, z7⟩ := cells8 BZ.out.x1
    refine bodyPost_ret (v := .agg #[.slice AL2 m2.L.length cL2, .slice AG2 gl2.length cG2, .slice AF2 m2.fx.length cF2, .slice AP2 pl2.length cP2, .slice AA2 al2.length cA2, .int .i64 m2.dep, .int .i64 m2.most, .int .i64 m2.err]) ?_ rfl ⟨AL2, cL2, AG2, cG2, AF2, cF2, AP2, cP2, AA2, cA2, gl2, pl2, al2, rfl, RZ.out.less (fun b hb => .inl hb), BZ.out.b⟩
    simp [results, Tryd.results48, go_sem, z0, z1, z2, z3, z4, z5, z6, z7]
  · have d1 : decide ((-32768 : Int) ≤ n) = false := decide_eq_false hlo
    clear h1 dd
    go_enter Tryd.func48, Tryd.ntmps48
    go_wp2_with fail
    generalize ((w.alloc (.cells #[.slice AL m.L.length cL, .slice AG gl.length cG, .slice AF m.fx.length cF, .slice AP pl.length cP, .slice AA al.length cA, .int .i64 m.dep, .int .i64 m.most, .int .i64 m.err] rfT)).alloc (.cells #[.slice none 0 0, .slice none 0 0, .slice none 0 0, .slice none 0 0, .slice none 0 0, .int .i64 0, .int .i64 0, .int .i64 0] rfT)) = V at *
    refine PX.out.mono ?_
    rintro e y1 ⟨AL1, cL1, AG1, cG1, AF1, cF1, AP1, cP1, AA1, cA1, gl1, pl1, al1, rfl, hr1, hb1⟩
    have BX := Lib.hid (BX.out.below hb1)
    have HR := Lib.hid hr1
    have HT := Lib.hid (show ∀ b, (fun b => T b ∨ (w.heap.size ≤ b ∧ b < w.heap.size + 2)) b → b < y1.heap.size from fun b hb2 => Nat.lt_of_lt_of_le (HT.out b hb2) hb1.size)
    have H1 := Lib.hid (show (#[.slice AL1 m1.L.length cL1, .slice AG1 gl1.length cG1, .slice AF1 m1.fx.length cF1, .slice AP1 pl1.length cP1, .slice AA1 al1.length cA1, .int .i64 m1.dep, .int .i64 m1.most, .int .i64 m1.err] : Array Value).all (·.oneCell') = true from by simp [Value.oneCell'])
    clear hr1 hb1 PX a0 a1 a2 a3 a4 a5 a6 a7
    simp only []
    go_at_K
    repeat (first | (go_big_may; first | (refine wpList_store_row rfl rfT (.tmp 3) (.tmp 28) rfl (w.heap.size) #[.slice AL1 m1.L.length cL1, .slice AG1 gl1.length cG1, .slice AF1 m1.fx.length cF1, .slice AP1 pl1.length cP1, .slice AA1 al1.length cA1, .int .i64 m1.dep, .int .i64 m1.most, .int .i64 m1.err] rfl rfl rfT #[.slice AL m.L.length cL, .slice AG gl.length cG, .slice AF m.fx.length cF, .slice AP pl.length cP, .slice AA al.length cA, .int .i64 m.dep, .int .i64 m.most, .int .i64 m.err] BX.out.x0 S8 rfl H1.out ?_; generalize hZ1 : (y1).setRow (w.heap.size) #[.slice AL1 m1.L.length cL1, .slice AG1 gl1.length cG1, .slice AF1 m1.fx.length cF1, .slice AP1 pl1.length cP1, .slice AA1 al1.length cA1, .int .i64 m1.dep, .int .i64 m1.most, .int .i64 m1.err] = Z1; have HZ1 := Lib.hid hZ1; clear hZ1; have BX1 := Lib.hid (show Bx2 w Z1 rfT rfT #[.slice AL1 m1.L.length cL1, .slice AG1 gl1.length cG1, .slice AF1 m1.fx.length cF1, .slice AP1 pl1.length cP1, .slice AA1 al1.length cA1, .int .i64 m1.dep, .int .i64 m1.most, .int .i64 m1.err] _ from HZ1.out ▸ BX.out.row0 #[.slice AL1 m1.L.length cL1, .slice AG1 gl1.length cG1, .slice AF1 m1.fx.length cF1, .slice AP1 pl1.length cP1, .slice AA1 al1.length cA1, .int .i64 m1.dep, .int .i64 m1.most, .int .i64 m1.err]); have HR1 := Lib.hid (show RfR Z1 (fun b => T b ∨ (w.heap.size ≤ b ∧ b < w.heap.size + 2)) N m1 AL1 cL1 AG1 cG1 AF1 cF1 AP1 cP1 AA1 cA1 gl1 pl1 al1 from HZ1.out ▸ (HR.out.later (BX.out.kept0 #[.slice AL1 m1.L.length cL1, .slice AG1 gl1.length cG1, .slice AF1 m1.fx.length cF1, .slice AP1 pl1.length cP1, .slice AA1 al1.length cA1, .int .i64 m1.dep, .int .i64 m1.most, .int .i64 m1.err]) (fun b hb => .inr hb))); have SZ1 := Lib.hid (show y1.heap.size ≤ Z1.heap.size from HZ1.out ▸ (BX.out.kept0 #[.slice AL1 m1.L.length cL1, .slice AG1 gl1.length cG1, .slice AF1 m1.fx.length cF1, .slice AP1 pl1.length cP1, .slice AA1 al1.length cA1, .int .i64 m1.dep, .int .i64 m1.most, .int .i64 m1.err]).size); obtain ⟨a0, a1, a2, a3, a4, a5, a6, a7⟩ := cells8 BX1.out.x0)) | go_values | go_skip | go_guarded | go_step | go_upon)
    have BX := BX1
    have HR := HR1
    have HT := Lib.hid (show ∀ b, (fun b => T b ∨ (w.heap.size ≤ b ∧ b < w.heap.size + 2)) b → b < Z1.heap.size from fun b hb2 => Nat.lt_of_lt_of_le (HT.out b hb2) SZ1.out)
    clear BX1 HR1 SZ1 HZ1
    have PX := Lib.hid (refput_any ⟨4, a, a, 0, n % 65536⟩ (fun b => T b ∨ (w.heap.size ≤ b ∧ b < w.heap.size + 2)) N m1 AL1 cL1 AG1 cG1 AF1 cF1 AP1 cP1 AA1 cA1 gl1 pl1 al1 Z1 HR.out HT.out HN.out)
    generalize hm2 : putE m1 ⟨4, a, a, 0, n % 65536⟩ = m2 at PX
    have M2 := Lib.hid hm2
    clear hm2
    have EQ := Lib.hid (show numE m a n = m2 from by unfold numE; rw [if_neg HF.out]; unfold halfE; rw [M1.out]; exact M2.out)
    refine PX.out.mono ?_
    rintro e y2 ⟨AL2, cL2, AG2, cG2, AF2, cF2, AP2, cP2, AA2, cA2, gl2, pl2, al2, rfl, hr1, hb1⟩
    have BX := Lib.hid (BX.out.below hb1)
    have HR := Lib.hid hr1
    have HT := Lib.hid (show ∀ b, (fun b => T b ∨ (w.heap.size ≤ b ∧ b < w.heap.size + 2)) b → b < y2.heap.size from fun b hb2 => Nat.lt_of_lt_of_le (HT.out b hb2) hb1.size)
    have H2 := Lib.hid (show (#[.slice AL2 m2.L.length cL2, .slice AG2 gl2.length cG2, .slice AF2 m2.fx.length cF2, .slice AP2 pl2.length cP2, .slice AA2 al2.length cA2, .int .i64 m2.dep, .int .i64 m2.most, .int .i64 m2.err] : Array Value).all (·.oneCell') = true from by simp [Value.oneCell'])
    clear hr1 hb1 PX a0 a1 a2 a3 a4 a5 a6 a7
    simp only []
    go_at_K
    repeat (first | (go_big_may; first | (refine wpList_store_row rfl rfT (.tmp 6) (.tmp 35) rfl (w.heap.size + 1) #[.slice AL2 m2.L.length cL2, .slice AG2 gl2.length cG2, .slice AF2 m2.fx.length cF2, .slice AP2 pl2.length cP2, .slice AA2 al2.length cA2, .int .i64 m2.dep, .int .i64 m2.most, .int .i64 m2.err] rfl rfl rfT #[.slice none 0 0, .slice none 0 0, .slice none 0 0, .slice none 0 0, .slice none 0 0, .int .i64 0, .int .i64 0, .int .i64 0] BX.out.x1 S8 rfl H2.out ?_; generalize hZZ : (y2).setRow (w.heap.size + 1) #[.slice AL2 m2.L.length cL2, .slice AG2 gl2.length cG2, .slice AF2 m2.fx.length cF2, .slice AP2 pl2.length cP2, .slice AA2 al2.length cA2, .int .i64 m2.dep, .int .i64 m2.most, .int .i64 m2.err] = ZZ; have HZZ := Lib.hid hZZ; clear hZZ)) | go_values | go_skip | go_guarded | go_step | go_upon)
    have RZ := Lib.hid (HZZ.out ▸ (HR.out.later (BX.out.kept1 #[.slice AL2 m2.L.length cL2, .slice AG2 gl2.length cG2, .slice AF2 m2.fx.length cF2, .slice AP2 pl2.length cP2, .slice AA2 al2.length cA2, .int .i64 m2.dep, .int .i64 m2.most, .int .i64 m2.err]) (fun b hb => .inr hb)))
    have BZ := Lib.hid (HZZ.out ▸ BX.out.row1 #[.slice AL2 m2.L.length cL2, .slice AG2 gl2.length cG2, .slice AF2 m2.fx.length cF2, .slice AP2 pl2.length cP2, .slice AA2 al2.length cA2, .int .i64 m2.dep, .int .i64 m2.most, .int .i64 m2.err])
    rw [EQ.out]
    obtain ⟨z0, z1, z2, z3, z4, z5, z6, z7⟩ := cells8 BZ.out.x1
    refine bodyPost_ret (v := .agg #[.slice AL2 m2.L.length cL2, .slice AG2 gl2.length cG2, .slice AF2 m2.fx.length cF2, .slice AP2 pl2.length cP2, .slice AA2 al2.length cA2, .int .i64 m2.dep, .int .i64 m2.most, .int .i64 m2.err]) ?_ rfl ⟨AL2, cL2, AG2, cG2, AF2, cF2, AP2, cP2, AA2, cA2, gl2, pl2, al2, rfl, RZ.out.less (fun b hb => .inl hb), BZ.out.b⟩
    simp [results, Tryd.results48, go_sem, z0, z1, z2, z3, z4, z5, z6, z7]

theorem refnumber_any (a n : Int) (h3 : -2147483648 ≤ n) (h4 : n ≤ 2147483647) (T : Nat → Prop) (N : Nat) (m : Em) (AL : Option Addr) (cL : Nat) (AG : Option Addr) (cG : Nat) (AF : Option Addr) (cF : Nat) (AP : Option Addr) (cP : Nat) (AA : Option Addr) (cA : Nat) (gl pl al : List Int) (w : World) (h : RfR w T N m AL cL AG cG AF cF AP cP AA cA gl pl al) (hT : ∀ b, T b → b < w.heap.size) (hN : N ≤ 100000) :
    Calls Tryd.prog 48 #[.agg #[.slice AL m.L.length cL, .slice AG gl.length cG, .slice AF m.fx.length cF, .slice AP pl.length cP, .slice AA al.length cA, .int .i64 m.dep, .int .i64 m.most, .int .i64 m.err], .int .i64 a, .int .i32 n] w (RfP T N w (numE m a n)) := by
  by_cases h1 : -32768 ≤ n ∧ n ≤ 32767
  · exact refnum_fit a n h1.1 h1.2 T N m AL cL AG cG AF cF AP cP AA cA gl pl al w h hT hN
  · exact refnum_not a n h1 h3 h4 T N m AL cL AG cG AF cF AP cP AA cA gl pl al w h hT hN

set_option maxHeartbeats 16000000 in
set_option maxRecDepth 100000 in
theorem refpush_any (a : Int) (T : Nat → Prop) (N : Nat) (m : Em) (AL : Option Addr) (cL : Nat) (AG : Option Addr) (cG : Nat) (AF : Option Addr) (cF : Nat) (AP : Option Addr) (cP : Nat) (AA : Option Addr) (cA : Nat) (gl pl al : List Int) (w : World) (h : RfR w T N m AL cL AG cG AF cF AP cP AA cA gl pl al) (hT : ∀ b, T b → b < w.heap.size) (hN : N ≤ 100000) :
    Calls Tryd.prog 52 #[.agg #[.slice AL m.L.length cL, .slice AG gl.length cG, .slice AF m.fx.length cF, .slice AP pl.length cP, .slice AA al.length cA, .int .i64 m.dep, .int .i64 m.most, .int .i64 m.err], .int .i64 a] w (RfP T (N + 1) w (pushE m a)) := by
  have b1 := (Below.refl w.heap.size w).alloc (Nat.le_refl _) (.cells #[.slice AL m.L.length cL, .slice AG gl.length cG, .slice AF m.fx.length cF, .slice AP pl.length cP, .slice AA al.length cA, .int .i64 m.dep, .int .i64 m.most, .int .i64 m.err] rfT)
  have BX := Lib.hid (show Bx2 w ((w.alloc (.cells #[.slice AL m.L.length cL, .slice AG gl.length cG, .slice AF m.fx.length cF, .slice AP pl.length cP, .slice AA al.length cA, .int .i64 m.dep, .int .i64 m.most, .int .i64 m.err] rfT)).alloc (.cells #[.slice none 0 0, .slice none 0 0, .slice none 0 0, .slice none 0 0, .slice none 0 0, .int .i64 0, .int .i64 0, .int .i64 0] rfT)) rfT rfT #[.slice AL m.L.length cL, .slice AG gl.length cG, .slice AF m.fx.length cF, .slice AP pl.length cP, .slice AA al.length cA, .int .i64 m.dep, .int .i64 m.most, .int .i64 m.err] #[.slice none 0 0, .slice none 0 0, .slice none 0 0, .slice none 0 0, .slice none 0 0, .int .i64 0, .int .i64 0, .int .i64 0] from ⟨b1.alloc b1.size (.cells #[.slice none 0 0, .slice none 0 0, .slice none 0 0, .slice none 0 0, .slice none 0 0, .int .i64 0, .int .i64 0, .int .i64 0] rfT), (Whole.made w rfT #[.slice AL m.L.length cL, .slice AG gl.length cG, .slice AF m.fx.length cF, .slice AP pl.length cP, .slice AA al.length cA, .int .i64 m.dep, .int .i64 m.most, .int .i64 m.err] _ rfl).alloc _, Whole.made (w.alloc (.cells #[.slice AL m.L.length cL, .slice AG gl.length cG, .slice AF m.fx.length cF, .slice AP pl.length cP, .slice AA al.length cA, .int .i64 m.dep, .int .i64 m.most, .int .i64 m.err] rfT)) rfT #[.slice none 0 0, .slice none 0 0, .slice none 0 0, .slice none 0 0, .slice none 0 0, .int .i64 0, .int .i64 0, .int .i64 0] _ (by simp)⟩)
  have HR := Lib.hid ((h.boxed 2).below BX.out.b)
  have HN := Lib.hid hN
  have HT := Lib.hid (show ∀ b, (fun b => T b ∨ (w.heap.size ≤ b ∧ b < w.heap.size + 2)) b → b < ((w.alloc (.cells #[.slice AL m.L.length cL, .slice AG gl.length cG, .slice AF m.fx.length cF, .slice AP pl.length cP, .slice AA al.length cA, .int .i64 m.dep, .int .i64 m.most, .int .i64 m.err] rfT)).alloc (.cells #[.slice none 0 0, .slice none 0 0, .slice none 0 0, .slice none 0 0, .slice none 0 0, .int .i64 0, .int .i64 0, .int .i64 0] rfT)).heap.size from fun b hb => by
    have h1 := BX.out.x1.lt
    rcases hb with hb | hb
    · have := hT b hb
      omega
    · omega)
  have S8 : (Tryd.prog.info? rfT).map (·.size) = some 8 := by kernel_rfl
  clear h hT hN b1
  have PX := Lib.hid (refput_any ⟨5, 15, 15, 0, -4⟩ (fun b => T b ∨ (w.heap.size ≤ b ∧ b < w.heap.size + 2)) N m AL cL AG cG AF cF AP cP AA cA gl pl al ((w.alloc (.cells #[.slice AL m.L.length cL, .slice AG gl.length cG, .slice AF m.fx.length cF, .slice AP pl.length cP, .slice AA al.length cA, .int .i64 m.dep, .int .i64 m.most, .int .i64 m.err] rfT)).alloc (.cells #[.slice none 0 0, .slice none 0 0, .slice none 0 0, .slice none 0 0, .slice none 0 0, .int .i64 0, .int .i64 0, .int .i64 0] rfT)) HR.out HT.out HN.out)
  generalize hm1 : putE m ⟨5, 15, 15, 0, -4⟩ = m1 at PX
  have M1 := Lib.hid hm1
  clear hm1
  obtain ⟨a0, a1, a2, a3, a4, a5, a6, a7⟩ := cells8 BX.out.x0
  go_enter Tryd.func52, Tryd.ntmps52
  go_wp2_with fail
  generalize ((w.alloc (.cells #[.slice AL m.L.length cL, .slice AG gl.length cG, .slice AF m.fx.length cF, .slice AP pl.length cP, .slice AA al.length cA, .int .i64 m.dep, .int .i64 m.most, .int .i64 m.err] rfT)).alloc (.cells #[.slice none 0 0, .slice none 0 0, .slice none 0 0, .slice none 0 0, .slice none 0 0, .int .i64 0, .int .i64 0, .int .i64 0] rfT)) = V at *
  refine PX.out.mono ?_
  rintro e y1 ⟨AL1, cL1, AG1, cG1, AF1, cF1, AP1, cP1, AA1, cA1, gl1, pl1, al1, rfl, hr1, hb1⟩
  have BX := Lib.hid (BX.out.below hb1)
  have HR := Lib.hid hr1
  have HT := Lib.hid (show ∀ b, (fun b => T b ∨ (w.heap.size ≤ b ∧ b < w.heap.size + 2)) b → b < y1.heap.size from fun b hb2 => Nat.lt_of_lt_of_le (HT.out b hb2) hb1.size)
  have H1 := Lib.hid (show (#[.slice AL1 m1.L.length cL1, .slice AG1 gl1.length cG1, .slice AF1 m1.fx.length cF1, .slice AP1 pl1.length cP1, .slice AA1 al1.length cA1, .int .i64 m1.dep, .int .i64 m1.most, .int .i64 m1.err] : Array Value).all (·.oneCell') = true from by simp [Value.oneCell'])
  clear hr1 hb1 PX a0 a1 a2 a3 a4 a5 a6 a7
  simp only []
  go_at_K
  repeat (first | (go_big_may; first | (refine wpList_store_row rfl rfT (.tmp 2) (.tmp 7) rfl (w.heap.size) #[.slice AL1 m1.L.length cL1, .slice AG1 gl1.length cG1, .slice AF1 m1.fx.length cF1, .slice AP1 pl1.length cP1, .slice AA1 al1.length cA1, .int .i64 m1.dep, .int .i64 m1.most, .int .i64 m1.err] rfl rfl rfT #[.slice AL m.L.length cL, .slice AG gl.length cG, .slice AF m.fx.length cF, .slice AP pl.length cP, .slice AA al.length cA, .int .i64 m.dep, .int .i64 m.most, .int .i64 m.err] BX.out.x0 S8 rfl H1.out ?_; generalize hZ1 : (y1).setRow (w.heap.size) #[.slice AL1 m1.L.length cL1, .slice AG1 gl1.length cG1, .slice AF1 m1.fx.length cF1, .slice AP1 pl1.length cP1, .slice AA1 al1.length cA1, .int .i64 m1.dep, .int .i64 m1.most, .int .i64 m1.err] = Z1; have HZ1 := Lib.hid hZ1; clear hZ1; have BX1 := Lib.hid (show Bx2 w Z1 rfT rfT #[.slice AL1 m1.L.length cL1, .slice AG1 gl1.length cG1, .slice AF1 m1.fx.length cF1, .slice AP1 pl1.length cP1, .slice AA1 al1.length cA1, .int .i64 m1.dep, .int .i64 m1.most, .int .i64 m1.err] _ from HZ1.out ▸ BX.out.row0 #[.slice AL1 m1.L.length cL1, .slice AG1 gl1.length cG1, .slice AF1 m1.fx.length cF1, .slice AP1 pl1.length cP1, .slice AA1 al1.length cA1, .int .i64 m1.dep, .int .i64 m1.most, .int .i64 m1.err]); have HR1 := Lib.hid (show RfR Z1 (fun b => T b ∨ (w.heap.size ≤ b ∧ b < w.heap.size + 2)) N m1 AL1 cL1 AG1 cG1 AF1 cF1 AP1 cP1 AA1 cA1 gl1 pl1 al1 from HZ1.out ▸ (HR.out.later (BX.out.kept0 #[.slice AL1 m1.L.length cL1, .slice AG1 gl1.length cG1, .slice AF1 m1.fx.length cF1, .slice AP1 pl1.length cP1, .slice AA1 al1.length cA1, .int .i64 m1.dep, .int .i64 m1.most, .int .i64 m1.err]) (fun b hb => .inr hb))); have SZ1 := Lib.hid (show y1.heap.size ≤ Z1.heap.size from HZ1.out ▸ (BX.out.kept0 #[.slice AL1 m1.L.length cL1, .slice AG1 gl1.length cG1, .slice AF1 m1.fx.length cF1, .slice AP1 pl1.length cP1, .slice AA1 al1.length cA1, .int .i64 m1.dep, .int .i64 m1.most, .int .i64 m1.err]).size); obtain ⟨a0, a1, a2, a3, a4, a5, a6, a7⟩ := cells8 BX1.out.x0)) | go_values | go_skip | go_guarded | go_step | go_upon)
  have BX := BX1
  have HR := HR1
  have HT := Lib.hid (show ∀ b, (fun b => T b ∨ (w.heap.size ≤ b ∧ b < w.heap.size + 2)) b → b < Z1.heap.size from fun b hb2 => Nat.lt_of_lt_of_le (HT.out b hb2) SZ1.out)
  clear BX1 HR1 SZ1 HZ1
  have PX := Lib.hid (refput_any ⟨19, a, 15, 0, 0⟩ (fun b => T b ∨ (w.heap.size ≤ b ∧ b < w.heap.size + 2)) N m1 AL1 cL1 AG1 cG1 AF1 cF1 AP1 cP1 AA1 cA1 gl1 pl1 al1 Z1 HR.out HT.out HN.out)
  generalize hm2 : putE m1 ⟨19, a, 15, 0, 0⟩ = m2 at PX
  have M2 := Lib.hid hm2
  clear hm2
  refine PX.out.mono ?_
  rintro e y2 ⟨AL2, cL2, AG2, cG2, AF2, cF2, AP2, cP2, AA2, cA2, gl2, pl2, al2, rfl, hr1, hb1⟩
  have BX := Lib.hid (BX.out.below hb1)
  have HR := Lib.hid hr1
  have HT := Lib.hid (show ∀ b, (fun b => T b ∨ (w.heap.size ≤ b ∧ b < w.heap.size + 2)) b → b < y2.heap.size from fun b hb2 => Nat.lt_of_lt_of_le (HT.out b hb2) hb1.size)
  have H2 := Lib.hid (show (#[.slice AL2 m2.L.length cL2, .slice AG2 gl2.length cG2, .slice AF2 m2.fx.length cF2, .slice AP2 pl2.length cP2, .slice AA2 al2.length cA2, .int .i64 m2.dep, .int .i64 m2.most, .int .i64 m2.err] : Array Value).all (·.oneCell') = true from by simp [Value.oneCell'])
  clear hr1 hb1 PX a0 a1 a2 a3 a4 a5 a6 a7
  simp only []
  go_at_K
  have q1 := HR.out.ok.d0
  have q2 := HR.out.ok.dm
  have q3 := HR.out.nm
  have hN1 : N ≤ 100000 := HN.out
  by_cases hx : m2.most < m2.dep + 1
  · have H5 := Lib.hid (show (#[.slice AL2 m2.L.length cL2, .slice AG2 gl2.length cG2, .slice AF2 m2.fx.length cF2, .slice AP2 pl2.length cP2, .slice AA2 al2.length cA2, .int .i64 (m2.dep + 1), .int .i64 (m2.dep + 1), .int .i64 m2.err] : Array Value).all (·.oneCell') = true from by simp [Value.oneCell'])
    have EQ := Lib.hid (show pushE m a = ⟨m2.L, m2.fx, m2.dep + 1, m2.dep + 1, m2.err⟩ from by
      unfold pushE
      rw [M1.out, M2.out]
      unfold dropE
      congr 1 <;> omega)
    repeat (first | (go_big_may; first | (refine wpList_store_row rfl rfT (.tmp 2) (.tmp 11) rfl (w.heap.size) #[.slice AL2 m2.L.length cL2, .slice AG2 gl2.length cG2, .slice AF2 m2.fx.length cF2, .slice AP2 pl2.length cP2, .slice AA2 al2.length cA2, .int .i64 m2.dep, .int .i64 m2.most, .int .i64 m2.err] rfl rfl rfT #[.slice AL1 m1.L.length cL1, .slice AG1 gl1.length cG1, .slice AF1 m1.fx.length cF1, .slice AP1 pl1.length cP1, .slice AA1 al1.length cA1, .int .i64 m1.dep, .int .i64 m1.most, .int .i64 m1.err] BX.out.x0 S8 rfl H2.out ?_; generalize hZ2 : (y2).setRow (w.heap.size) #[.slice AL2 m2.L.length cL2, .slice AG2 gl2.length cG2, .slice AF2 m2.fx.length cF2, .slice AP2 pl2.length cP2, .slice AA2 al2.length cA2, .int .i64 m2.dep, .int .i64 m2.most, .int .i64 m2.err] = Z2; have HZ2 := Lib.hid hZ2; clear hZ2; have BX1 := Lib.hid (show Bx2 w Z2 rfT rfT #[.slice AL2 m2.L.length cL2, .slice AG2 gl2.length cG2, .slice AF2 m2.fx.length cF2, .slice AP2 pl2.length cP2, .slice AA2 al2.length cA2, .int .i64 m2.dep, .int .i64 m2.most, .int .i64 m2.err] _ from HZ2.out ▸ BX.out.row0 #[.slice AL2 m2.L.length cL2, .slice AG2 gl2.length cG2, .slice AF2 m2.fx.length cF2, .slice AP2 pl2.length cP2, .slice AA2 al2.length cA2, .int .i64 m2.dep, .int .i64 m2.most, .int .i64 m2.err]); have HR1 := Lib.hid (show RfR Z2 (fun b => T b ∨ (w.heap.size ≤ b ∧ b < w.heap.size + 2)) N m2 AL2 cL2 AG2 cG2 AF2 cF2 AP2 cP2 AA2 cA2 gl2 pl2 al2 from HZ2.out ▸ (HR.out.later (BX.out.kept0 #[.slice AL2 m2.L.length cL2, .slice AG2 gl2.length cG2, .slice AF2 m2.fx.length cF2, .slice AP2 pl2.length cP2, .slice AA2 al2.length cA2, .int .i64 m2.dep, .int .i64 m2.most, .int .i64 m2.err]) (fun b hb => .inr hb))); have SZ1 := Lib.hid (show y2.heap.size ≤ Z2.heap.size from HZ2.out ▸ (BX.out.kept0 #[.slice AL2 m2.L.length cL2, .slice AG2 gl2.length cG2, .slice AF2 m2.fx.length cF2, .slice AP2 pl2.length cP2, .slice AA2 al2.length cA2, .int .i64 m2.dep, .int .i64 m2.most, .int .i64 m2.err]).size); obtain ⟨a0, a1, a2, a3, a4, a5, a6, a7⟩ := cells8 BX1.out.x0; have zf : Z2.frozen? ⟨w.heap.size, 5, none⟩ = false := BX1.out.x0.free 5; have BS0 := Lib.hid (show Bx2 w (Z2.setCell ⟨w.heap.size, 5, none⟩ (.int .i64 (m2.dep + 1))) rfT rfT #[.slice AL2 m2.L.length cL2, .slice AG2 gl2.length cG2, .slice AF2 m2.fx.length cF2, .slice AP2 pl2.length cP2, .slice AA2 al2.length cA2, .int .i64 (m2.dep + 1), .int .i64 m2.most, .int .i64 m2.err] _ from (BX1.out.set0 5 (.int .i64 (m2.dep + 1)))); have s05 : (Z2.setCell ⟨w.heap.size, 5, none⟩ (.int .i64 (m2.dep + 1))).cell? ⟨w.heap.size, 5, none⟩ = some (.int .i64 (m2.dep + 1)) := BS0.out.x0.cell 5; have s06 : (Z2.setCell ⟨w.heap.size, 5, none⟩ (.int .i64 (m2.dep + 1))).cell? ⟨w.heap.size, 6, none⟩ = some (.int .i64 m2.most) := BS0.out.x0.cell 6; have sf0 : (Z2.setCell ⟨w.heap.size, 5, none⟩ (.int .i64 (m2.dep + 1))).frozen? ⟨w.heap.size, 6, none⟩ = false := BS0.out.x0.free 6; have BS1 := Lib.hid (show Bx2 w ((Z2.setCell ⟨w.heap.size, 5, none⟩ (.int .i64 (m2.dep + 1))).setCell ⟨w.heap.size, 6, none⟩ (.int .i64 (m2.dep + 1))) rfT rfT #[.slice AL2 m2.L.length cL2, .slice AG2 gl2.length cG2, .slice AF2 m2.fx.length cF2, .slice AP2 pl2.length cP2, .slice AA2 al2.length cA2, .int .i64 (m2.dep + 1), .int .i64 (m2.dep + 1), .int .i64 m2.err] _ from ((BX1.out.set0 5 (.int .i64 (m2.dep + 1))).set0 6 (.int .i64 (m2.dep + 1)))); obtain ⟨s10, s11, s12, s13, s14, s15, s16, s17⟩ := cells8 BS1.out.x0) | (refine wpList_store_row rfl rfT (.tmp 4) (.tmp 22) rfl (w.heap.size + 1) #[.slice AL2 m2.L.length cL2, .slice AG2 gl2.length cG2, .slice AF2 m2.fx.length cF2, .slice AP2 pl2.length cP2, .slice AA2 al2.length cA2, .int .i64 (m2.dep + 1), .int .i64 (m2.dep + 1), .int .i64 m2.err] rfl rfl rfT #[.slice none 0 0, .slice none 0 0, .slice none 0 0, .slice none 0 0, .slice none 0 0, .int .i64 0, .int .i64 0, .int .i64 0] BS1.out.x1 S8 rfl H5.out ?_; generalize hZZ : (((Z2.setCell ⟨w.heap.size, 5, none⟩ (.int .i64 (m2.dep + 1))).setCell ⟨w.heap.size, 6, none⟩ (.int .i64 (m2.dep + 1)))).setRow (w.heap.size + 1) #[.slice AL2 m2.L.length cL2, .slice AG2 gl2.length cG2, .slice AF2 m2.fx.length cF2, .slice AP2 pl2.length cP2, .slice AA2 al2.length cA2, .int .i64 (m2.dep + 1), .int .i64 (m2.dep + 1), .int .i64 m2.err] = ZZ; have HZZ := Lib.hid hZZ; clear hZZ)) | go_values | go_skip | go_guarded | go_step | go_upon)
    have R5 := Lib.hid (show RfR ((Z2.setCell ⟨w.heap.size, 5, none⟩ (.int .i64 (m2.dep + 1))).setCell ⟨w.heap.size, 6, none⟩ (.int .i64 (m2.dep + 1))) (fun b => T b ∨ (w.heap.size ≤ b ∧ b < w.heap.size + 2)) (N + 1) ⟨m2.L, m2.fx, m2.dep + 1, m2.dep + 1, m2.err⟩ AL2 cL2 AG2 cG2 AF2 cF2 AP2 cP2 AA2 cA2 gl2 pl2 al2 from by
      have h0 := ((HR1.out.later (KeptS.set (S := fun b => w.heap.size ≤ b ∧ b < w.heap.size + 2) (w := Z2) (g := w.heap.size) (j := 5) (u := .int .i64 (m2.dep + 1)) ⟨Nat.le_refl _, by omega⟩) (fun b hb => .inr hb)).later (KeptS.set (S := fun b => w.heap.size ≤ b ∧ b < w.heap.size + 2) (w := (Z2.setCell ⟨w.heap.size, 5, none⟩ (.int .i64 (m2.dep + 1)))) (g := w.heap.size) (j := 6) (u := .int .i64 (m2.dep + 1)) ⟨Nat.le_refl _, by omega⟩) (fun b hb => .inr hb))
      exact ⟨h0.fL, h0.fG, h0.fF, h0.fP, h0.fA, h0.lg, Nat.le_succ_of_le h0.lp, Nat.le_succ_of_le h0.la, Nat.le_succ_of_le h0.lf, ⟨h0.ok.good, h0.ok.len, by show 0 ≤ m2.dep + 1; omega, by show m2.dep + 1 ≤ m2.dep + 1; omega⟩, by show m2.dep + 1 ≤ ((N + 1 : Nat) : Int); omega⟩)
    have RZ := Lib.hid (HZZ.out ▸ (R5.out.later (BS1.out.kept1 #[.slice AL2 m2.L.length cL2, .slice AG2 gl2.length cG2, .slice AF2 m2.fx.length cF2, .slice AP2 pl2.length cP2, .slice AA2 al2.length cA2, .int .i64 (m2.dep + 1), .int .i64 (m2.dep + 1), .int .i64 m2.err]) (fun b hb => .inr hb)))
    have BZ := Lib.hid (HZZ.out ▸ BS1.out.row1 #[.slice AL2 m2.L.length cL2, .slice AG2 gl2.length cG2, .slice AF2 m2.fx.length cF2, .slice AP2 pl2.length cP2, .slice AA2 al2.length cA2, .int .i64 (m2.dep + 1), .int .i64 (m2.dep + 1), .int .i64 m2.err])
    rw [EQ.out]
    obtain ⟨z0, z1, z2, z3, z4, z5, z6, z7⟩ := cells8 BZ.out.x1
    refine bodyPost_ret (v := .agg #[.slice AL2 m2.L.length cL2, .slice AG2 gl2.length cG2, .slice AF2 m2.fx.length cF2, .slice AP2 pl2.length cP2, .slice AA2 al2.length cA2, .int .i64 (m2.dep + 1), .int .i64 (m2.dep + 1), .int .i64 m2.err]) ?_ rfl ⟨AL2, cL2, AG2, cG2, AF2, cF2, AP2, cP2, AA2, cA2, gl2, pl2, al2, rfl, RZ.out.less (fun b hb => .inl hb), BZ.out.b⟩
    simp [results, Tryd.results52, go_sem, z0, z1, z2, z3, z4, z5, z6, z7]
  · have H5 := Lib.hid (show (#[.slice AL2 m2.L.length cL2, .slice AG2 gl2.length cG2, .slice AF2 m2.fx.length cF2, .slice AP2 pl2.length cP2, .slice AA2 al2.length cA2, .int .i64 (m2.dep + 1), .int .i64 m2.most, .int .i64 m2.err] : Array Value).all (·.oneCell') = true from by simp [Value.oneCell'])
    have EQ := Lib.hid (show pushE m a = ⟨m2.L, m2.fx, m2.dep + 1, m2.most, m2.err⟩ from by
      unfold pushE
      rw [M1.out, M2.out]
      unfold dropE
      congr 1 <;> omega)
    repeat (first | (go_big_may; first | (refine wpList_store_row rfl rfT (.tmp 2) (.tmp 11) rfl (w.heap.size) #[.slice AL2 m2.L.length cL2, .slice AG2 gl2.length cG2, .slice AF2 m2.fx.length cF2, .slice AP2 pl2.length cP2, .slice AA2 al2.length cA2, .int .i64 m2.dep, .int .i64 m2.most, .int .i64 m2.err] rfl rfl rfT #[.slice AL1 m1.L.length cL1, .slice AG1 gl1.length cG1, .slice AF1 m1.fx.length cF1, .slice AP1 pl1.length cP1, .slice AA1 al1.length cA1, .int .i64 m1.dep, .int .i64 m1.most, .int .i64 m1.err] BX.out.x0 S8 rfl H2.out ?_; generalize hZ2 : (y2).setRow (w.heap.size) #[.slice AL2 m2.L.length cL2, .slice AG2 gl2.length cG2, .slice AF2 m2.fx.length cF2, .slice AP2 pl2.length cP2, .slice AA2 al2.length cA2, .int .i64 m2.dep, .int .i64 m2.most, .int .i64 m2.err] = Z2; have HZ2 := Lib.hid hZ2; clear hZ2; have BX1 := Lib.hid (show Bx2 w Z2 rfT rfT #[.slice AL2 m2.L.length cL2, .slice AG2 gl2.length cG2, .slice AF2 m2.fx.length cF2, .slice AP2 pl2.length cP2, .slice AA2 al2.length cA2, .int .i64 m2.dep, .int .i64 m2.most, .int .i64 m2.err] _ from HZ2.out ▸ BX.out.row0 #[.slice AL2 m2.L.length cL2, .slice AG2 gl2.length cG2, .slice AF2 m2.fx.length cF2, .slice AP2 pl2.length cP2, .slice AA2 al2.length cA2, .int .i64 m2.dep, .int .i64 m2.most, .int .i64 m2.err]); have HR1 := Lib.hid (show RfR Z2 (fun b => T b ∨ (w.heap.size ≤ b ∧ b < w.heap.size + 2)) N m2 AL2 cL2 AG2 cG2 AF2 cF2 AP2 cP2 AA2 cA2 gl2 pl2 al2 from HZ2.out ▸ (HR.out.later (BX.out.kept0 #[.slice AL2 m2.L.length cL2, .slice AG2 gl2.length cG2, .slice AF2 m2.fx.length cF2, .slice AP2 pl2.length cP2, .slice AA2 al2.length cA2, .int .i64 m2.dep, .int .i64 m2.most, .int .i64 m2.err]) (fun b hb => .inr hb))); have SZ1 := Lib.hid (show y2.heap.size ≤ Z2.heap.size from HZ2.out ▸ (BX.out.kept0 #[.slice AL2 m2.L.length cL2, .slice AG2 gl2.length cG2, .slice AF2 m2.fx.length cF2, .slice AP2 pl2.length cP2, .slice AA2 al2.length cA2, .int .i64 m2.dep, .int .i64 m2.most, .int .i64 m2.err]).size); obtain ⟨a0, a1, a2, a3, a4, a5, a6, a7⟩ := cells8 BX1.out.x0; have zf : Z2.frozen? ⟨w.heap.size, 5, none⟩ = false := BX1.out.x0.free 5; have BS0 := Lib.hid (show Bx2 w (Z2.setCell ⟨w.heap.size, 5, none⟩ (.int .i64 (m2.dep + 1))) rfT rfT #[.slice AL2 m2.L.length cL2, .slice AG2 gl2.length cG2, .slice AF2 m2.fx.length cF2, .slice AP2 pl2.length cP2, .slice AA2 al2.length cA2, .int .i64 (m2.dep + 1), .int .i64 m2.most, .int .i64 m2.err] _ from (BX1.out.set0 5 (.int .i64 (m2.dep + 1)))); have s05 : (Z2.setCell ⟨w.heap.size, 5, none⟩ (.int .i64 (m2.dep + 1))).cell? ⟨w.heap.size, 5, none⟩ = some (.int .i64 (m2.dep + 1)) := BS0.out.x0.cell 5; have s06 : (Z2.setCell ⟨w.heap.size, 5, none⟩ (.int .i64 (m2.dep + 1))).cell? ⟨w.heap.size, 6, none⟩ = some (.int .i64 m2.most) := BS0.out.x0.cell 6; have sf0 : (Z2.setCell ⟨w.heap.size, 5, none⟩ (.int .i64 (m2.dep + 1))).frozen? ⟨w.heap.size, 6, none⟩ = false := BS0.out.x0.free 6; have BS1 := Lib.hid (show Bx2 w ((Z2.setCell ⟨w.heap.size, 5, none⟩ (.int .i64 (m2.dep + 1))).setCell ⟨w.heap.size, 6, none⟩ (.int .i64 m2.most)) rfT rfT #[.slice AL2 m2.L.length cL2, .slice AG2 gl2.length cG2, .slice AF2 m2.fx.length cF2, .slice AP2 pl2.length cP2, .slice AA2 al2.length cA2, .int .i64 (m2.dep + 1), .int .i64 m2.most, .int .i64 m2.err] _ from ((BX1.out.set0 5 (.int .i64 (m2.dep + 1))).set0 6 (.int .i64 m2.most))); obtain ⟨s10, s11, s12, s13, s14, s15, s16, s17⟩ := cells8 BS1.out.x0) | (refine wpList_store_row rfl rfT (.tmp 4) (.tmp 22) rfl (w.heap.size + 1) #[.slice AL2 m2.L.length cL2, .slice AG2 gl2.length cG2, .slice AF2 m2.fx.length cF2, .slice AP2 pl2.length cP2, .slice AA2 al2.length cA2, .int .i64 (m2.dep + 1), .int .i64 m2.most, .int .i64 m2.err] rfl rfl rfT #[.slice none 0 0, .slice none 0 0, .slice none 0 0, .slice none 0 0, .slice none 0 0, .int .i64 0, .int .i64 0, .int .i64 0] BS1.out.x1 S8 rfl H5.out ?_; generalize hZZ : (((Z2.setCell ⟨w.heap.size, 5, none⟩ (.int .i64 (m2.dep + 1))).setCell ⟨w.heap.size, 6, none⟩ (.int .i64 m2.most))).setRow (w.heap.size + 1) #[.slice AL2 m2.L.length cL2, .slice AG2 gl2.length cG2, .slice AF2 m2.fx.length cF2, .slice AP2 pl2.length cP2, .slice AA2 al2.length cA2, .int .i64 (m2.dep + 1), .int .i64 m2.most, .int .i64 m2.err] = ZZ; have HZZ := Lib.hid hZZ; clear hZZ)) | go_values | go_skip | go_guarded | go_step | go_upon)
    have R5 := Lib.hid (show RfR ((Z2.setCell ⟨w.heap.size, 5, none⟩ (.int .i64 (m2.dep + 1))).setCell ⟨w.heap.size, 6, none⟩ (.int .i64 m2.most)) (fun b => T b ∨ (w.heap.size ≤ b ∧ b < w.heap.size + 2)) (N + 1) ⟨m2.L, m2.fx, m2.dep + 1, m2.most, m2.err⟩ AL2 cL2 AG2 cG2 AF2 cF2 AP2 cP2 AA2 cA2 gl2 pl2 al2 from by
      have h0 := ((HR1.out.later (KeptS.set (S := fun b => w.heap.size ≤ b ∧ b < w.heap.size + 2) (w := Z2) (g := w.heap.size) (j := 5) (u := .int .i64 (m2.dep + 1)) ⟨Nat.le_refl _, by omega⟩) (fun b hb => .inr hb)).later (KeptS.set (S := fun b => w.heap.size ≤ b ∧ b < w.heap.size + 2) (w := (Z2.setCell ⟨w.heap.size, 5, none⟩ (.int .i64 (m2.dep + 1)))) (g := w.heap.size) (j := 6) (u := .int .i64 m2.most) ⟨Nat.le_refl _, by omega⟩) (fun b hb => .inr hb))
      exact ⟨h0.fL, h0.fG, h0.fF, h0.fP, h0.fA, h0.lg, Nat.le_succ_of_le h0.lp, Nat.le_succ_of_le h0.la, Nat.le_succ_of_le h0.lf, ⟨h0.ok.good, h0.ok.len, by show 0 ≤ m2.dep + 1; omega, by show m2.dep + 1 ≤ m2.most; omega⟩, by show m2.most ≤ ((N + 1 : Nat) : Int); omega⟩)
    have RZ := Lib.hid (HZZ.out ▸ (R5.out.later (BS1.out.kept1 #[.slice AL2 m2.L.length cL2, .slice AG2 gl2.length cG2, .slice AF2 m2.fx.length cF2, .slice AP2 pl2.length cP2, .slice AA2 al2.length cA2, .int .i64 (m2.dep + 1), .int .i64 m2.most, .int .i64 m2.err]) (fun b hb => .inr hb)))
    have BZ := Lib.hid (HZZ.out ▸ BS1.out.row1 #[.slice AL2 m2.L.length cL2, .slice AG2 gl2.length cG2, .slice AF2 m2.fx.length cF2, .slice AP2 pl2.length cP2, .slice AA2 al2.length cA2, .int .i64 (m2.dep + 1), .int .i64 m2.most, .int .i64 m2.err])
    rw [EQ.out]
    obtain ⟨z0, z1, z2, z3, z4, z5, z6, z7⟩ := cells8 BZ.out.x1
    refine bodyPost_ret (v := .agg #[.slice AL2 m2.L.length cL2, .slice AG2 gl2.length cG2, .slice AF2 m2.fx.length cF2, .slice AP2 pl2.length cP2, .slice AA2 al2.length cA2, .int .i64 (m2.dep + 1), .int .i64 m2.most, .int .i64 m2.err]) ?_ rfl ⟨AL2, cL2, AG2, cG2, AF2, cF2, AP2, cP2, AA2, cA2, gl2, pl2, al2, rfl, RZ.out.less (fun b hb => .inl hb), BZ.out.b⟩
    simp [results, Tryd.results52, go_sem, z0, z1, z2, z3, z4, z5, z6, z7]

set_option maxHeartbeats 16000000 in
set_option maxRecDepth 100000 in
theorem refpop_any (a : Int) (T : Nat → Prop) (N : Nat) (m : Em) (AL : Option Addr) (cL : Nat) (AG : Option Addr) (cG : Nat) (AF : Option Addr) (cF : Nat) (AP : Option Addr) (cP : Nat) (AA : Option Addr) (cA : Nat) (gl pl al : List Int) (w : World) (h : RfR w T N m AL cL AG cG AF cF AP cP AA cA gl pl al) (hT : ∀ b, T b → b < w.heap.size) (hN : N ≤ 100000) :
    Calls Tryd.prog 54 #[.agg #[.slice AL m.L.length cL, .slice AG gl.length cG, .slice AF m.fx.length cF, .slice AP pl.length cP, .slice AA al.length cA, .int .i64 m.dep, .int .i64 m.most, .int .i64 m.err], .int .i64 a] w (RfP T (N + 1) w (popE m a)) := by
  have b1 := (Below.refl w.heap.size w).alloc (Nat.le_refl _) (.cells #[.slice AL m.L.length cL, .slice AG gl.length cG, .slice AF m.fx.length cF, .slice AP pl.length cP, .slice AA al.length cA, .int .i64 m.dep, .int .i64 m.most, .int .i64 m.err] rfT)
  have BX := Lib.hid (show Bx2 w ((w.alloc (.cells #[.slice AL m.L.length cL, .slice AG gl.length cG, .slice AF m.fx.length cF, .slice AP pl.length cP, .slice AA al.length cA, .int .i64 m.dep, .int .i64 m.most, .int .i64 m.err] rfT)).alloc (.cells #[.slice none 0 0, .slice none 0 0, .slice none 0 0, .slice none 0 0, .slice none 0 0, .int .i64 0, .int .i64 0, .int .i64 0] rfT)) rfT rfT #[.slice AL m.L.length cL, .slice AG gl.length cG, .slice AF m.fx.length cF, .slice AP pl.length cP, .slice AA al.length cA, .int .i64 m.dep, .int .i64 m.most, .int .i64 m.err] #[.slice none 0 0, .slice none 0 0, .slice none 0 0, .slice none 0 0, .slice none 0 0, .int .i64 0, .int .i64 0, .int .i64 0] from ⟨b1.alloc b1.size (.cells #[.slice none 0 0, .slice none 0 0, .slice none 0 0, .slice none 0 0, .slice none 0 0, .int .i64 0, .int .i64 0, .int .i64 0] rfT), (Whole.made w rfT #[.slice AL m.L.length cL, .slice AG gl.length cG, .slice AF m.fx.length cF, .slice AP pl.length cP, .slice AA al.length cA, .int .i64 m.dep, .int .i64 m.most, .int .i64 m.err] _ rfl).alloc _, Whole.made (w.alloc (.cells #[.slice AL m.L.length cL, .slice AG gl.length cG, .slice AF m.fx.length cF, .slice AP pl.length cP, .slice AA al.length cA, .int .i64 m.dep, .int .i64 m.most, .int .i64 m.err] rfT)) rfT #[.slice none 0 0, .slice none 0 0, .slice none 0 0, .slice none 0 0, .slice none 0 0, .int .i64 0, .int .i64 0, .int .i64 0] _ (by simp)⟩)
  have HR := Lib.hid ((h.boxed 2).below BX.out.b)
  have HN := Lib.hid hN
  have HT := Lib.hid (show ∀ b, (fun b => T b ∨ (w.heap.size ≤ b ∧ b < w.heap.size + 2)) b → b < ((w.alloc (.cells #[.slice AL m.L.length cL, .slice AG gl.length cG, .slice AF m.fx.length cF, .slice AP pl.length cP, .slice AA al.length cA, .int .i64 m.dep, .int .i64 m.most, .int .i64 m.err] rfT)).alloc (.cells #[.slice none 0 0, .slice none 0 0, .slice none 0 0, .slice none 0 0, .slice none 0 0, .int .i64 0, .int .i64 0, .int .i64 0] rfT)).heap.size from fun b hb => by
    have h1 := BX.out.x1.lt
    rcases hb with hb | hb
    · have := hT b hb
      omega
    · omega)
  have S8 : (Tryd.prog.info? rfT).map (·.size) = some 8 := by kernel_rfl
  clear h hT hN b1
  have PX := Lib.hid (refput_any ⟨18, a, 15, 0, 0⟩ (fun b => T b ∨ (w.heap.size ≤ b ∧ b < w.heap.size + 2)) N m AL cL AG cG AF cF AP cP AA cA gl pl al ((w.alloc (.cells #[.slice AL m.L.length cL, .slice AG gl.length cG, .slice AF m.fx.length cF, .slice AP pl.length cP, .slice AA al.length cA, .int .i64 m.dep, .int .i64 m.most, .int .i64 m.err] rfT)).alloc (.cells #[.slice none 0 0, .slice none 0 0, .slice none 0 0, .slice none 0 0, .slice none 0 0, .int .i64 0, .int .i64 0, .int .i64 0] rfT)) HR.out HT.out HN.out)
  generalize hm1 : putE m ⟨18, a, 15, 0, 0⟩ = m1 at PX
  have M1 := Lib.hid hm1
  clear hm1
  obtain ⟨a0, a1, a2, a3, a4, a5, a6, a7⟩ := cells8 BX.out.x0
  go_enter Tryd.func54, Tryd.ntmps54
  go_wp2_with fail
  generalize ((w.alloc (.cells #[.slice AL m.L.length cL, .slice AG gl.length cG, .slice AF m.fx.length cF, .slice AP pl.length cP, .slice AA al.length cA, .int .i64 m.dep, .int .i64 m.most, .int .i64 m.err] rfT)).alloc (.cells #[.slice none 0 0, .slice none 0 0, .slice none 0 0, .slice none 0 0, .slice none 0 0, .int .i64 0, .int .i64 0, .int .i64 0] rfT)) = V at *
  refine PX.out.mono ?_
  rintro e y1 ⟨AL1, cL1, AG1, cG1, AF1, cF1, AP1, cP1, AA1, cA1, gl1, pl1, al1, rfl, hr1, hb1⟩
  have BX := Lib.hid (BX.out.below hb1)
  have HR := Lib.hid hr1
  have HT := Lib.hid (show ∀ b, (fun b => T b ∨ (w.heap.size ≤ b ∧ b < w.heap.size + 2)) b → b < y1.heap.size from fun b hb2 => Nat.lt_of_lt_of_le (HT.out b hb2) hb1.size)
  have H1 := Lib.hid (show (#[.slice AL1 m1.L.length cL1, .slice AG1 gl1.length cG1, .slice AF1 m1.fx.length cF1, .slice AP1 pl1.length cP1, .slice AA1 al1.length cA1, .int .i64 m1.dep, .int .i64 m1.most, .int .i64 m1.err] : Array Value).all (·.oneCell') = true from by simp [Value.oneCell'])
  clear hr1 hb1 PX a0 a1 a2 a3 a4 a5 a6 a7
  simp only []
  go_at_K
  repeat (first | (go_big_may; first | (refine wpList_store_row rfl rfT (.tmp 2) (.tmp 8) rfl (w.heap.size) #[.slice AL1 m1.L.length cL1, .slice AG1 gl1.length cG1, .slice AF1 m1.fx.length cF1, .slice AP1 pl1.length cP1, .slice AA1 al1.length cA1, .int .i64 m1.dep, .int .i64 m1.most, .int .i64 m1.err] rfl rfl rfT #[.slice AL m.L.length cL, .slice AG gl.length cG, .slice AF m.fx.length cF, .slice AP pl.length cP, .slice AA al.length cA, .int .i64 m.dep, .int .i64 m.most, .int .i64 m.err] BX.out.x0 S8 rfl H1.out ?_; generalize hZ1 : (y1).setRow (w.heap.size) #[.slice AL1 m1.L.length cL1, .slice AG1 gl1.length cG1, .slice AF1 m1.fx.length cF1, .slice AP1 pl1.length cP1, .slice AA1 al1.length cA1, .int .i64 m1.dep, .int .i64 m1.most, .int .i64 m1.err] = Z1; have HZ1 := Lib.hid hZ1; clear hZ1; have BX1 := Lib.hid (show Bx2 w Z1 rfT rfT #[.slice AL1 m1.L.length cL1, .slice AG1 gl1.length cG1, .slice AF1 m1.fx.length cF1, .slice AP1 pl1.length cP1, .slice AA1 al1.length cA1, .int .i64 m1.dep, .int .i64 m1.most, .int .i64 m1.err] _ from HZ1.out ▸ BX.out.row0 #[.slice AL1 m1.L.length cL1, .slice AG1 gl1.length cG1, .slice AF1 m1.fx.length cF1, .slice AP1 pl1.length cP1, .slice AA1 al1.length cA1, .int .i64 m1.dep, .int .i64 m1.most, .int .i64 m1.err]); have HR1 := Lib.hid (show RfR Z1 (fun b => T b ∨ (w.heap.size ≤ b ∧ b < w.heap.size + 2)) N m1 AL1 cL1 AG1 cG1 AF1 cF1 AP1 cP1 AA1 cA1 gl1 pl1 al1 from HZ1.out ▸ (HR.out.later (BX.out.kept0 #[.slice AL1 m1.L.length cL1, .slice AG1 gl1.length cG1, .slice AF1 m1.fx.length cF1, .slice AP1 pl1.length cP1, .slice AA1 al1.length cA1, .int .i64 m1.dep, .int .i64 m1.most, .int .i64 m1.err]) (fun b hb => .inr hb))); have SZ1 := Lib.hid (show y1.heap.size ≤ Z1.heap.size from HZ1.out ▸ (BX.out.kept0 #[.slice AL1 m1.L.length cL1, .slice AG1 gl1.length cG1, .slice AF1 m1.fx.length cF1, .slice AP1 pl1.length cP1, .slice AA1 al1.length cA1, .int .i64 m1.dep, .int .i64 m1.most, .int .i64 m1.err]).size); obtain ⟨a0, a1, a2, a3, a4, a5, a6, a7⟩ := cells8 BX1.out.x0)) | go_values | go_skip | go_guarded | go_step | go_upon)
  have BX := BX1
  have HR := HR1
  have HT := Lib.hid (show ∀ b, (fun b => T b ∨ (w.heap.size ≤ b ∧ b < w.heap.size + 2)) b → b < Z1.heap.size from fun b hb2 => Nat.lt_of_lt_of_le (HT.out b hb2) SZ1.out)
  clear BX1 HR1 SZ1 HZ1
  have PX := Lib.hid (refput_any ⟨5, 15, 15, 0, 4⟩ (fun b => T b ∨ (w.heap.size ≤ b ∧ b < w.heap.size + 2)) N m1 AL1 cL1 AG1 cG1 AF1 cF1 AP1 cP1 AA1 cA1 gl1 pl1 al1 Z1 HR.out HT.out HN.out)
  generalize hm2 : putE m1 ⟨5, 15, 15, 0, 4⟩ = m2 at PX
  have M2 := Lib.hid hm2
  clear hm2
  refine PX.out.mono ?_
  rintro e y2 ⟨AL2, cL2, AG2, cG2, AF2, cF2, AP2, cP2, AA2, cA2, gl2, pl2, al2, rfl, hr1, hb1⟩
  have BX := Lib.hid (BX.out.below hb1)
  have HR := Lib.hid hr1
  have HT := Lib.hid (show ∀ b, (fun b => T b ∨ (w.heap.size ≤ b ∧ b < w.heap.size + 2)) b → b < y2.heap.size from fun b hb2 => Nat.lt_of_lt_of_le (HT.out b hb2) hb1.size)
  have H2 := Lib.hid (show (#[.slice AL2 m2.L.length cL2, .slice AG2 gl2.length cG2, .slice AF2 m2.fx.length cF2, .slice AP2 pl2.length cP2, .slice AA2 al2.length cA2, .int .i64 m2.dep, .int .i64 m2.most, .int .i64 m2.err] : Array Value).all (·.oneCell') = true from by simp [Value.oneCell'])
  clear hr1 hb1 PX a0 a1 a2 a3 a4 a5 a6 a7
  simp only []
  go_at_K
  have q1 := HR.out.ok.d0
  have q2 := HR.out.ok.dm
  have q3 := HR.out.nm
  have hN1 : N ≤ 100000 := HN.out
  by_cases hx : 0 < m2.dep - 1
  · have H5 := Lib.hid (show (#[.slice AL2 m2.L.length cL2, .slice AG2 gl2.length cG2, .slice AF2 m2.fx.length cF2, .slice AP2 pl2.length cP2, .slice AA2 al2.length cA2, .int .i64 (m2.dep - 1), .int .i64 m2.most, .int .i64 m2.err] : Array Value).all (·.oneCell') = true from by simp [Value.oneCell'])
    have EQ := Lib.hid (show popE m a = ⟨m2.L, m2.fx, m2.dep - 1, m2.most, m2.err⟩ from by
      unfold popE
      rw [M1.out, M2.out]
      unfold dropE
      congr 1 <;> omega)
    repeat (first | (go_big_may; first | (refine wpList_store_row rfl rfT (.tmp 2) (.tmp 11) rfl (w.heap.size) #[.slice AL2 m2.L.length cL2, .slice AG2 gl2.length cG2, .slice AF2 m2.fx.length cF2, .slice AP2 pl2.length cP2, .slice AA2 al2.length cA2, .int .i64 m2.dep, .int .i64 m2.most, .int .i64 m2.err] rfl rfl rfT #[.slice AL1 m1.L.length cL1, .slice AG1 gl1.length cG1, .slice AF1 m1.fx.length cF1, .slice AP1 pl1.length cP1, .slice AA1 al1.length cA1, .int .i64 m1.dep, .int .i64 m1.most, .int .i64 m1.err] BX.out.x0 S8 rfl H2.out ?_; generalize hZ2 : (y2).setRow (w.heap.size) #[.slice AL2 m2.L.length cL2, .slice AG2 gl2.length cG2, .slice AF2 m2.fx.length cF2, .slice AP2 pl2.length cP2, .slice AA2 al2.length cA2, .int .i64 m2.dep, .int .i64 m2.most, .int .i64 m2.err] = Z2; have HZ2 := Lib.hid hZ2; clear hZ2; have BX1 := Lib.hid (show Bx2 w Z2 rfT rfT #[.slice AL2 m2.L.length cL2, .slice AG2 gl2.length cG2, .slice AF2 m2.fx.length cF2, .slice AP2 pl2.length cP2, .slice AA2 al2.length cA2, .int .i64 m2.dep, .int .i64 m2.most, .int .i64 m2.err] _ from HZ2.out ▸ BX.out.row0 #[.slice AL2 m2.L.length cL2, .slice AG2 gl2.length cG2, .slice AF2 m2.fx.length cF2, .slice AP2 pl2.length cP2, .slice AA2 al2.length cA2, .int .i64 m2.dep, .int .i64 m2.most, .int .i64 m2.err]); have HR1 := Lib.hid (show RfR Z2 (fun b => T b ∨ (w.heap.size ≤ b ∧ b < w.heap.size + 2)) N m2 AL2 cL2 AG2 cG2 AF2 cF2 AP2 cP2 AA2 cA2 gl2 pl2 al2 from HZ2.out ▸ (HR.out.later (BX.out.kept0 #[.slice AL2 m2.L.length cL2, .slice AG2 gl2.length cG2, .slice AF2 m2.fx.length cF2, .slice AP2 pl2.length cP2, .slice AA2 al2.length cA2, .int .i64 m2.dep, .int .i64 m2.most, .int .i64 m2.err]) (fun b hb => .inr hb))); have SZ1 := Lib.hid (show y2.heap.size ≤ Z2.heap.size from HZ2.out ▸ (BX.out.kept0 #[.slice AL2 m2.L.length cL2, .slice AG2 gl2.length cG2, .slice AF2 m2.fx.length cF2, .slice AP2 pl2.length cP2, .slice AA2 al2.length cA2, .int .i64 m2.dep, .int .i64 m2.most, .int .i64 m2.err]).size); obtain ⟨a0, a1, a2, a3, a4, a5, a6, a7⟩ := cells8 BX1.out.x0; have zf : Z2.frozen? ⟨w.heap.size, 5, none⟩ = false := BX1.out.x0.free 5; have BS0 := Lib.hid (show Bx2 w (Z2.setCell ⟨w.heap.size, 5, none⟩ (.int .i64 (m2.dep - 1))) rfT rfT #[.slice AL2 m2.L.length cL2, .slice AG2 gl2.length cG2, .slice AF2 m2.fx.length cF2, .slice AP2 pl2.length cP2, .slice AA2 al2.length cA2, .int .i64 (m2.dep - 1), .int .i64 m2.most, .int .i64 m2.err] _ from (BX1.out.set0 5 (.int .i64 (m2.dep - 1)))); obtain ⟨s00, s01, s02, s03, s04, s05, s06, s07⟩ := cells8 BS0.out.x0) | (refine wpList_store_row rfl rfT (.tmp 4) (.tmp 17) rfl (w.heap.size + 1) #[.slice AL2 m2.L.length cL2, .slice AG2 gl2.length cG2, .slice AF2 m2.fx.length cF2, .slice AP2 pl2.length cP2, .slice AA2 al2.length cA2, .int .i64 (m2.dep - 1), .int .i64 m2.most, .int .i64 m2.err] rfl rfl rfT #[.slice none 0 0, .slice none 0 0, .slice none 0 0, .slice none 0 0, .slice none 0 0, .int .i64 0, .int .i64 0, .int .i64 0] BS0.out.x1 S8 rfl H5.out ?_; generalize hZZ : ((Z2.setCell ⟨w.heap.size, 5, none⟩ (.int .i64 (m2.dep - 1)))).setRow (w.heap.size + 1) #[.slice AL2 m2.L.length cL2, .slice AG2 gl2.length cG2, .slice AF2 m2.fx.length cF2, .slice AP2 pl2.length cP2, .slice AA2 al2.length cA2, .int .i64 (m2.dep - 1), .int .i64 m2.most, .int .i64 m2.err] = ZZ; have HZZ := Lib.hid hZZ; clear hZZ)) | go_values | go_skip | go_guarded | go_step | go_upon)
    have R5 := Lib.hid (show RfR (Z2.setCell ⟨w.heap.size, 5, none⟩ (.int .i64 (m2.dep - 1))) (fun b => T b ∨ (w.heap.size ≤ b ∧ b < w.heap.size + 2)) (N + 1) ⟨m2.L, m2.fx, m2.dep - 1, m2.most, m2.err⟩ AL2 cL2 AG2 cG2 AF2 cF2 AP2 cP2 AA2 cA2 gl2 pl2 al2 from by
      have h0 := (HR1.out.later (KeptS.set (S := fun b => w.heap.size ≤ b ∧ b < w.heap.size + 2) (w := Z2) (g := w.heap.size) (j := 5) (u := .int .i64 (m2.dep - 1)) ⟨Nat.le_refl _, by omega⟩) (fun b hb => .inr hb))
      exact ⟨h0.fL, h0.fG, h0.fF, h0.fP, h0.fA, h0.lg, Nat.le_succ_of_le h0.lp, Nat.le_succ_of_le h0.la, Nat.le_succ_of_le h0.lf, ⟨h0.ok.good, h0.ok.len, by show 0 ≤ m2.dep - 1; omega, by show m2.dep - 1 ≤ m2.most; omega⟩, by show m2.most ≤ ((N + 1 : Nat) : Int); omega⟩)
    have RZ := Lib.hid (HZZ.out ▸ (R5.out.later (BS0.out.kept1 #[.slice AL2 m2.L.length cL2, .slice AG2 gl2.length cG2, .slice AF2 m2.fx.length cF2, .slice AP2 pl2.length cP2, .slice AA2 al2.length cA2, .int .i64 (m2.dep - 1), .int .i64 m2.most, .int .i64 m2.err]) (fun b hb => .inr hb)))
    have BZ := Lib.hid (HZZ.out ▸ BS0.out.row1 #[.slice AL2 m2.L.length cL2, .slice AG2 gl2.length cG2, .slice AF2 m2.fx.length cF2, .slice AP2 pl2.length cP2, .slice AA2 al2.length cA2, .int .i64 (m2.dep - 1), .int .i64 m2.most, .int .i64 m2.err])
    rw [EQ.out]
    obtain ⟨z0, z1, z2, z3, z4, z5, z6, z7⟩ := cells8 BZ.out.x1
    refine bodyPost_ret (v := .agg #[.slice AL2 m2.L.length cL2, .slice AG2 gl2.length cG2, .slice AF2 m2.fx.length cF2, .slice AP2 pl2.length cP2, .slice AA2 al2.length cA2, .int .i64 (m2.dep - 1), .int .i64 m2.most, .int .i64 m2.err]) ?_ rfl ⟨AL2, cL2, AG2, cG2, AF2, cF2, AP2, cP2, AA2, cA2, gl2, pl2, al2, rfl, RZ.out.less (fun b hb => .inl hb), BZ.out.b⟩
    simp [results, Tryd.results54, go_sem, z0, z1, z2, z3, z4, z5, z6, z7]
  · have H5 := Lib.hid (show (#[.slice AL2 m2.L.length cL2, .slice AG2 gl2.length cG2, .slice AF2 m2.fx.length cF2, .slice AP2 pl2.length cP2, .slice AA2 al2.length cA2, .int .i64 0, .int .i64 m2.most, .int .i64 m2.err] : Array Value).all (·.oneCell') = true from by simp [Value.oneCell'])
    have EQ := Lib.hid (show popE m a = ⟨m2.L, m2.fx, 0, m2.most, m2.err⟩ from by
      unfold popE
      rw [M1.out, M2.out]
      unfold dropE
      congr 1 <;> omega)
    repeat (first | (go_big_may; first | (refine wpList_store_row rfl rfT (.tmp 2) (.tmp 11) rfl (w.heap.size) #[.slice AL2 m2.L.length cL2, .slice AG2 gl2.length cG2, .slice AF2 m2.fx.length cF2, .slice AP2 pl2.length cP2, .slice AA2 al2.length cA2, .int .i64 m2.dep, .int .i64 m2.most, .int .i64 m2.err] rfl rfl rfT #[.slice AL1 m1.L.length cL1, .slice AG1 gl1.length cG1, .slice AF1 m1.fx.length cF1, .slice AP1 pl1.length cP1, .slice AA1 al1.length cA1, .int .i64 m1.dep, .int .i64 m1.most, .int .i64 m1.err] BX.out.x0 S8 rfl H2.out ?_; generalize hZ2 : (y2).setRow (w.heap.size) #[.slice AL2 m2.L.length cL2, .slice AG2 gl2.length cG2, .slice AF2 m2.fx.length cF2, .slice AP2 pl2.length cP2, .slice AA2 al2.length cA2, .int .i64 m2.dep, .int .i64 m2.most, .int .i64 m2.err] = Z2; have HZ2 := Lib.hid hZ2; clear hZ2; have BX1 := Lib.hid (show Bx2 w Z2 rfT rfT #[.slice AL2 m2.L.length cL2, .slice AG2 gl2.length cG2, .slice AF2 m2.fx.length cF2, .slice AP2 pl2.length cP2, .slice AA2 al2.length cA2, .int .i64 m2.dep, .int .i64 m2.most, .int .i64 m2.err] _ from HZ2.out ▸ BX.out.row0 #[.slice AL2 m2.L.length cL2, .slice AG2 gl2.length cG2, .slice AF2 m2.fx.length cF2, .slice AP2 pl2.length cP2, .slice AA2 al2.length cA2, .int .i64 m2.dep, .int .i64 m2.most, .int .i64 m2.err]); have HR1 := Lib.hid (show RfR Z2 (fun b => T b ∨ (w.heap.size ≤ b ∧ b < w.heap.size + 2)) N m2 AL2 cL2 AG2 cG2 AF2 cF2 AP2 cP2 AA2 cA2 gl2 pl2 al2 from HZ2.out ▸ (HR.out.later (BX.out.kept0 #[.slice AL2 m2.L.length cL2, .slice AG2 gl2.length cG2, .slice AF2 m2.fx.length cF2, .slice AP2 pl2.length cP2, .slice AA2 al2.length cA2, .int .i64 m2.dep, .int .i64 m2.most, .int .i64 m2.err]) (fun b hb => .inr hb))); have SZ1 := Lib.hid (show y2.heap.size ≤ Z2.heap.size from HZ2.out ▸ (BX.out.kept0 #[.slice AL2 m2.L.length cL2, .slice AG2 gl2.length cG2, .slice AF2 m2.fx.length cF2, .slice AP2 pl2.length cP2, .slice AA2 al2.length cA2, .int .i64 m2.dep, .int .i64 m2.most, .int .i64 m2.err]).size); obtain ⟨a0, a1, a2, a3, a4, a5, a6, a7⟩ := cells8 BX1.out.x0; have zf : Z2.frozen? ⟨w.heap.size, 5, none⟩ = false := BX1.out.x0.free 5; have BS0 := Lib.hid (show Bx2 w (Z2.setCell ⟨w.heap.size, 5, none⟩ (.int .i64 0)) rfT rfT #[.slice AL2 m2.L.length cL2, .slice AG2 gl2.length cG2, .slice AF2 m2.fx.length cF2, .slice AP2 pl2.length cP2, .slice AA2 al2.length cA2, .int .i64 0, .int .i64 m2.most, .int .i64 m2.err] _ from (BX1.out.set0 5 (.int .i64 0))); obtain ⟨s00, s01, s02, s03, s04, s05, s06, s07⟩ := cells8 BS0.out.x0) | (refine wpList_store_row rfl rfT (.tmp 4) (.tmp 17) rfl (w.heap.size + 1) #[.slice AL2 m2.L.length cL2, .slice AG2 gl2.length cG2, .slice AF2 m2.fx.length cF2, .slice AP2 pl2.length cP2, .slice AA2 al2.length cA2, .int .i64 0, .int .i64 m2.most, .int .i64 m2.err] rfl rfl rfT #[.slice none 0 0, .slice none 0 0, .slice none 0 0, .slice none 0 0, .slice none 0 0, .int .i64 0, .int .i64 0, .int .i64 0] BS0.out.x1 S8 rfl H5.out ?_; generalize hZZ : ((Z2.setCell ⟨w.heap.size, 5, none⟩ (.int .i64 0))).setRow (w.heap.size + 1) #[.slice AL2 m2.L.length cL2, .slice AG2 gl2.length cG2, .slice AF2 m2.fx.length cF2, .slice AP2 pl2.length cP2, .slice AA2 al2.length cA2, .int .i64 0, .int .i64 m2.most, .int .i64 m2.err] = ZZ; have HZZ := Lib.hid hZZ; clear hZZ)) | go_values | go_skip | go_guarded | go_step | go_upon)
    have R5 := Lib.hid (show RfR (Z2.setCell ⟨w.heap.size, 5, none⟩ (.int .i64 0)) (fun b => T b ∨ (w.heap.size ≤ b ∧ b < w.heap.size + 2)) (N + 1) ⟨m2.L, m2.fx, 0, m2.most, m2.err⟩ AL2 cL2 AG2 cG2 AF2 cF2 AP2 cP2 AA2 cA2 gl2 pl2 al2 from by
      have h0 := (HR1.out.later (KeptS.set (S := fun b => w.heap.size ≤ b ∧ b < w.heap.size + 2) (w := Z2) (g := w.heap.size) (j := 5) (u := .int .i64 0) ⟨Nat.le_refl _, by omega⟩) (fun b hb => .inr hb))
      exact ⟨h0.fL, h0.fG, h0.fF, h0.fP, h0.fA, h0.lg, Nat.le_succ_of_le h0.lp, Nat.le_succ_of_le h0.la, Nat.le_succ_of_le h0.lf, ⟨h0.ok.good, h0.ok.len, by show 0 ≤ 0; omega, by show 0 ≤ m2.most; omega⟩, by show m2.most ≤ ((N + 1 : Nat) : Int); omega⟩)
    have RZ := Lib.hid (HZZ.out ▸ (R5.out.later (BS0.out.kept1 #[.slice AL2 m2.L.length cL2, .slice AG2 gl2.length cG2, .slice AF2 m2.fx.length cF2, .slice AP2 pl2.length cP2, .slice AA2 al2.length cA2, .int .i64 0, .int .i64 m2.most, .int .i64 m2.err]) (fun b hb => .inr hb)))
    have BZ := Lib.hid (HZZ.out ▸ BS0.out.row1 #[.slice AL2 m2.L.length cL2, .slice AG2 gl2.length cG2, .slice AF2 m2.fx.length cF2, .slice AP2 pl2.length cP2, .slice AA2 al2.length cA2, .int .i64 0, .int .i64 m2.most, .int .i64 m2.err])
    rw [EQ.out]
    obtain ⟨z0, z1, z2, z3, z4, z5, z6, z7⟩ := cells8 BZ.out.x1
    refine bodyPost_ret (v := .agg #[.slice AL2 m2.L.length cL2, .slice AG2 gl2.length cG2, .slice AF2 m2.fx.length cF2, .slice AP2 pl2.length cP2, .slice AA2 al2.length cA2, .int .i64 0, .int .i64 m2.most, .int .i64 m2.err]) ?_ rfl ⟨AL2, cL2, AG2, cG2, AF2, cF2, AP2, cP2, AA2, cA2, gl2, pl2, al2, rfl, RZ.out.less (fun b hb => .inl hb), BZ.out.b⟩
    simp [results, Tryd.results54, go_sem, z0, z1, z2, z3, z4, z5, z6, z7]
end Go.Proofs.YtcijjmmckofckaaDoor
