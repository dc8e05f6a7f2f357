/- Emit: the law's others: Pad, Guard, Unguard, Set. -/
import Derived.Test.YtcijjmmckofckaaDoorEmtW
namespace Go.Proofs.YtcijjmmckofckaaDoor
open Go.ChangeShapes Go.WideShapes Go.ChangeAt Go.RowKit
set_option linter.unusedVariables false
set_option linter.unusedSimpArgs false

theorem Lx3.below {w W W' : World} {t0 t1 t2 : TypeId} {d0 d1 d2 : Array Value} (h : Lx3 w W t0 t1 t2 d0 d1 d2) (hb : Below W.heap.size W W') : Lx3 w W' t0 t1 t2 d0 d1 d2 := h.later (S := fun _ => False) (KeptS.ofBelow hb) (fun _ h => h.elim)

set_option maxHeartbeats 16000000 in
set_option maxRecDepth 100000 in
theorem ot_pad (oi : Ins) (on oa ob oc : Int) (hi : I64I oi) (hon : I64 on) (hoc : I64 oc) (ha1 : -1000 ≤ oa) (ha2 : oa ≤ 1000) (hb1 : -1000000 ≤ ob) (hb2 : ob ≤ 1000000) (B g : Nat) (T : Nat → Prop) (N : Nat) (m : Em) (AL : Option Addr) (cL : Nat) (AG : Option Addr) (cG : Nat) (AF : Option Addr) (cF : Nat) (AP : Option Addr) (cP : Nat) (AA : Option Addr) (cA : Nat) (gl pl al : List Int) (w : World) (hC : CdAt w B g T N m) (hR : RfR w T N m AL cL AG cG AF cF AP cP AA cA gl pl al) (hN : N + 2 ≤ 100000)  :
    Calls Tryd.prog 22 #[.pointer (some ⟨g, 0, none⟩), .agg #[.slice AL m.L.length cL, .slice AG gl.length cG, .slice AF m.fx.length cF, .slice AP pl.length cP, .slice AA al.length cA, .int .i64 m.dep, .int .i64 m.most, .int .i64 m.err], .agg #[.int .i64 10, .int .i64 oi.op, .int .i64 oi.a, .int .i64 oi.b, .int .i64 oi.c, .int .i64 oi.n, .int .i64 on, .int .i64 oa, .int .i64 ob, .int .i64 oc]] w (DoP B g T (N + 2) w m) := by
  have b1 := (Below.refl w.heap.size w).alloc (Nat.le_refl _) (.cells #[.slice AL m.L.length cL, .slice AG gl.length cG, .slice AF m.fx.length cF, .slice AP pl.length cP, .slice AA al.length cA, .int .i64 m.dep, .int .i64 m.most, .int .i64 m.err] rfT)
  have b2 := b1.alloc b1.size (.cells #[.int .i64 10, .int .i64 oi.op, .int .i64 oi.a, .int .i64 oi.b, .int .i64 oi.c, .int .i64 oi.n, .int .i64 on, .int .i64 oa, .int .i64 ob, .int .i64 oc] opT)
  have b3 := b2.alloc b2.size (.cells #[.slice none 0 0, .slice none 0 0, .slice none 0 0, .slice none 0 0, .slice none 0 0, .int .i64 0, .int .i64 0, .int .i64 0] rfT)
  have LX := Lib.hid (show Lx3 w (((w.alloc (.cells #[.slice AL m.L.length cL, .slice AG gl.length cG, .slice AF m.fx.length cF, .slice AP pl.length cP, .slice AA al.length cA, .int .i64 m.dep, .int .i64 m.most, .int .i64 m.err] rfT)).alloc (.cells #[.int .i64 10, .int .i64 oi.op, .int .i64 oi.a, .int .i64 oi.b, .int .i64 oi.c, .int .i64 oi.n, .int .i64 on, .int .i64 oa, .int .i64 ob, .int .i64 oc] opT)).alloc (.cells #[.slice none 0 0, .slice none 0 0, .slice none 0 0, .slice none 0 0, .slice none 0 0, .int .i64 0, .int .i64 0, .int .i64 0] rfT)) rfT opT rfT #[.slice AL m.L.length cL, .slice AG gl.length cG, .slice AF m.fx.length cF, .slice AP pl.length cP, .slice AA al.length cA, .int .i64 m.dep, .int .i64 m.most, .int .i64 m.err] #[.int .i64 10, .int .i64 oi.op, .int .i64 oi.a, .int .i64 oi.b, .int .i64 oi.c, .int .i64 oi.n, .int .i64 on, .int .i64 oa, .int .i64 ob, .int .i64 oc] #[.slice none 0 0, .slice none 0 0, .slice none 0 0, .slice none 0 0, .slice none 0 0, .int .i64 0, .int .i64 0, .int .i64 0] from ⟨((Whole.made w rfT #[.slice AL m.L.length cL, .slice AG gl.length cG, .slice AF m.fx.length cF, .slice AP pl.length cP, .slice AA al.length cA, .int .i64 m.dep, .int .i64 m.most, .int .i64 m.err] _ rfl).alloc _).alloc _, (Whole.made (w.alloc (.cells #[.slice AL m.L.length cL, .slice AG gl.length cG, .slice AF m.fx.length cF, .slice AP pl.length cP, .slice AA al.length cA, .int .i64 m.dep, .int .i64 m.most, .int .i64 m.err] rfT)) opT #[.int .i64 10, .int .i64 oi.op, .int .i64 oi.a, .int .i64 oi.b, .int .i64 oi.c, .int .i64 oi.n, .int .i64 on, .int .i64 oa, .int .i64 ob, .int .i64 oc] _ (by simp)).alloc _, Whole.made ((w.alloc (.cells #[.slice AL m.L.length cL, .slice AG gl.length cG, .slice AF m.fx.length cF, .slice AP pl.length cP, .slice AA al.length cA, .int .i64 m.dep, .int .i64 m.most, .int .i64 m.err] rfT)).alloc (.cells #[.int .i64 10, .int .i64 oi.op, .int .i64 oi.a, .int .i64 oi.b, .int .i64 oi.c, .int .i64 oi.n, .int .i64 on, .int .i64 oa, .int .i64 ob, .int .i64 oc] opT)) rfT #[.slice none 0 0, .slice none 0 0, .slice none 0 0, .slice none 0 0, .slice none 0 0, .int .i64 0, .int .i64 0, .int .i64 0] _ (by simp)⟩)
  have HR := Lib.hid ((hR.boxed 3).below b3)
  have HC := Lib.hid (hC.below b3)
  have BV := Lib.hid b3
  have HN := Lib.hid hN
  have TW := Lib.hid (show ∀ b, T b → b < w.heap.size from by
    obtain ⟨_, _, _, _, _, _, _, _, h0⟩ := hC
    exact fun b hb => (h0.frm b hb).2)
  have BG := Lib.hid (show B ≤ g ∧ g < w.heap.size from by
    obtain ⟨_, _, _, _, _, _, _, _, h0⟩ := hC
    exact h0.frm g h0.tg)
  have S8 : (Tryd.prog.info? rfT).map (·.size) = some 8 := by kernel_rfl
  clear hC hR b1 b2 b3
  obtain ⟨o0, o1, o2, o3, o4, o5, o6, o7, o8, o9⟩ := cells10 LX.out.x1
  have PC := Lib.hid (pad_any B g T N m.L.length m (((w.alloc (.cells #[.slice AL m.L.length cL, .slice AG gl.length cG, .slice AF m.fx.length cF, .slice AP pl.length cP, .slice AA al.length cA, .int .i64 m.dep, .int .i64 m.most, .int .i64 m.err] rfT)).alloc (.cells #[.int .i64 10, .int .i64 oi.op, .int .i64 oi.a, .int .i64 oi.b, .int .i64 oi.c, .int .i64 oi.n, .int .i64 on, .int .i64 oa, .int .i64 ob, .int .i64 oc] opT)).alloc (.cells #[.slice none 0 0, .slice none 0 0, .slice none 0 0, .slice none 0 0, .slice none 0 0, .int .i64 0, .int .i64 0, .int .i64 0] rfT)) HC.out (by have := HN.out; omega))
  obtain ⟨i0, hi0, hz0, hz1, hz2⟩ := info_parts itInfo
  have PB := Lib.hid (show pl.length + 2 ≤ 100000 from by have := HR.out.lp; omega)
  clear hi hon hoc
  go_enter Tryd.func22, Tryd.ntmps22
  go_wp2_with fail
  generalize (((w.alloc (.cells #[.slice AL m.L.length cL, .slice AG gl.length cG, .slice AF m.fx.length cF, .slice AP pl.length cP, .slice AA al.length cA, .int .i64 m.dep, .int .i64 m.most, .int .i64 m.err] rfT)).alloc (.cells #[.int .i64 10, .int .i64 oi.op, .int .i64 oi.a, .int .i64 oi.b, .int .i64 oi.c, .int .i64 oi.n, .int .i64 on, .int .i64 oa, .int .i64 ob, .int .i64 oc] opT)).alloc (.cells #[.slice none 0 0, .slice none 0 0, .slice none 0 0, .slice none 0 0, .slice none 0 0, .int .i64 0, .int .i64 0, .int .i64 0] rfT)) = V at *
  refine PC.out.mono ?_
  rintro e w1 ⟨⟨r, rfl⟩, T1, hc, hk, ht⟩
  have KP := Lib.hid ((show KeptS T w V from KeptS.ofBelow BV.out).trans hk (fun b hb => .inl hb))
  have O1 := Lib.hid (show ∀ b, T1 b → T b ∨ w.heap.size ≤ b from fun b hb => by
    rcases ht b hb with h | h
    · exact .inl h
    · exact .inr (Nat.le_trans BV.out.size h))
  have NB := Lib.hid (show ∀ b, (w.heap.size ≤ b ∧ b < w.heap.size + 3) → ¬ T1 b from fun b hb h => by
    have h3 := LX.out.x2.lt
    rcases ht b h with h | h
    · have := TW.out b h
      omega
    · omega)
  have LX := Lib.hid (LX.out.later hk (fun b hb h => by have := TW.out b hb; omega))
  have C1 := Lib.hid hc
  have HR := Lib.hid (HR.out.kept (T' := (fun b => T1 b ∨ (w.heap.size ≤ b ∧ b < w.heap.size + 3))) (hk.mono (fun b hb => .inl hb)) (fun b hb => by
    rcases hb with hb | hb
    · rcases ht b hb with h | h
      · exact .inl (.inl h)
      · exact .inr h
    · exact .inl (.inr hb)))
  have HT := Lib.hid (show ∀ b, (fun b => T1 b ∨ (w.heap.size ≤ b ∧ b < w.heap.size + 3)) b → b < w1.heap.size from fun b hb => by
    have h3 := LX.out.x2.lt
    rcases hb with hb | hb
    · obtain ⟨_, _, _, _, _, _, _, _, h0⟩ := hc
      exact (h0.frm b hb).2
    · omega)
  clear hc hk ht PC o0 o1 o2 o3 o4 o5 o6 o7 o8 o9 HC
  obtain ⟨o0, o1, o2, o3, o4, o5, o6, o7, o8, o9⟩ := cells10 LX.out.x1
  obtain ⟨a0, a1, a2, a3, a4, a5, a6, a7⟩ := cells8 LX.out.x0
  have OE := Lib.hid (row_built (e := itT) (sz := 1) w1 #[] 0 0 rfl (Nat.le_refl _) (Nat.zero_le _) w1.heap.size (Nat.le_refl _) _ rfl [] rfl)
  have BA := Lib.hid ((Below.refl w1.heap.size w1).alloc (Nat.le_refl _) (.cells #[] itT))
  have b3 : (w1.alloc (.cells #[] itT)).cell? ⟨w.heap.size, 3, none⟩ = some (.slice AP pl.length cP) := (LX.out.later (S := fun _ => False) (KeptS.ofBelow BA.out) (fun _ h => h.elim)).x0.cell 3
  simp only []
  go_at_K
  repeat (first | (go_big_may; first | (at_builtin; refine wp_app_any _ rfl _ _ 26 rfl w1.heap.size itT i0 _ 1 8 Tryd.underlying26 hi0 hz0 hz1 hz2 rfl (by decide) (.slice (some ⟨w1.heap.size, 0, none⟩) 0 0) 0 [] rfl OE.out (.slice AP pl.length cP) (pl.length) (pl.flatMap itC) rfl (HR.out.fP.below BA.out).1 (one_flat it_one _) (by have := PB.out; unfold maxLen; omega) (by have := PB.out; omega) BA.out.size ?_; intro v6 w6 ho6 hg6 hat6; rw [Nat.zero_add, List.nil_append] at ho6; obtain ⟨A6, c6, rfl⟩ := row_form ho6; have B6 := Lib.hid (show Below w1.heap.size w1 w6 from BA.out.grown hg6 BA.out.size (fun b hb => (World.ownsRow.lt OE.out b hb).1)); have O6 := Lib.hid ho6; clear ho6 hg6 hat6; have B7 := Lib.hid (B6.out.alloc B6.out.size (.cells #[.int .i64 (-1)] itT)); have O7 := Lib.hid (World.ownsRow.alloc O6.out (.cells #[.int .i64 (-1)] itT)); have NC := Lib.hid (cell_one_new w6 (.int .i64 (-1)) itT)) | (at_builtin; refine wpList_append_own_at _ rfl _ _ 26 rfl w1.heap.size itT i0 _ 1 8 Tryd.underlying26 hi0 hz0 hz1 hz2 rfl (by decide) (.slice A6 pl.length c6) pl.length (pl.flatMap itC) rfl O7.out ⟨w6.heap.size, 0, none⟩ 1 1 [.int .i64 (-1)] rfl rfl NC.out (it_one (-1)) (by have := PB.out; unfold maxLen; omega) (by have := PB.out; omega) B7.out.size ?_; intro v8 w8 ho8 hg8 hnl hat; obtain ⟨A8, c8, rfl⟩ := row_form ho8; have B8 := Lib.hid (show Below w1.heap.size w1 w8 from B7.out.grown hg8 B7.out.size (fun b hb => (World.ownsRow.lt O7.out b hb).1)); have O8 := Lib.hid ho8; clear ho8 hg8 hnl hat; have LX8 := Lib.hid (LX.out.later (S := fun _ => False) (KeptS.ofBelow ((B8.out : Below w1.heap.size w1 w8))) (fun _ h => h.elim)); have s3 : w8.cell? ⟨w.heap.size, 3, none⟩ = some (.slice AP pl.length cP) := LX8.out.x0.cell 3; have sf : w8.frozen? ⟨w.heap.size, 3, none⟩ = false := LX8.out.x0.free 3; have LX9 := Lib.hid (show Lx3 w (w8.setCell ⟨w.heap.size, 3, none⟩ (.slice A8 (pl.length + 1) c8)) rfT opT rfT #[.slice AL m.L.length cL, .slice AG gl.length cG, .slice AF m.fx.length cF, .slice A8 (pl.length + 1) c8, .slice AA al.length cA, .int .i64 m.dep, .int .i64 m.most, .int .i64 m.err] _ _ from LX8.out.set0 3 (.slice A8 (pl.length + 1) c8)); obtain ⟨e0, e1, e2, e3, e4, e5, e6, e7⟩ := cells8 LX9.out.x0; have H1 := Lib.hid (show (#[.slice AL m.L.length cL, .slice AG gl.length cG, .slice AF m.fx.length cF, .slice A8 (pl.length + 1) c8, .slice AA al.length cA, .int .i64 m.dep, .int .i64 m.most, .int .i64 m.err] : Array Value).all (·.oneCell') = true from by simp [Value.oneCell'])) | (refine wpList_store_row rfl rfT (.tmp 6) (.tmp 152) rfl (w.heap.size + 1 + 1) #[.slice AL m.L.length cL, .slice AG gl.length cG, .slice AF m.fx.length cF, .slice A8 (pl.length + 1) c8, .slice AA al.length cA, .int .i64 m.dep, .int .i64 m.most, .int .i64 m.err] rfl rfl rfT #[.slice none 0 0, .slice none 0 0, .slice none 0 0, .slice none 0 0, .slice none 0 0, .int .i64 0, .int .i64 0, .int .i64 0] LX9.out.x2 S8 rfl H1.out ?_; generalize hZZ : ((w8.setCell ⟨w.heap.size, 3, none⟩ (.slice A8 (pl.length + 1) c8))).setRow (w.heap.size + 1 + 1) #[.slice AL m.L.length cL, .slice AG gl.length cG, .slice AF m.fx.length cF, .slice A8 (pl.length + 1) c8, .slice AA al.length cA, .int .i64 m.dep, .int .i64 m.most, .int .i64 m.err] = ZZ; have HZZ := Lib.hid hZZ; clear hZZ)) | go_values | go_skip | go_guarded | go_step | go_upon)
  have KB := KeptS.ofBelow (S := fun b => w.heap.size ≤ b ∧ b < w.heap.size + 3) B8.out
  have K9 : KeptS (fun b => w.heap.size ≤ b ∧ b < w.heap.size + 3) w8 (w8.setCell ⟨w.heap.size, 3, none⟩ (.slice A8 (pl.length + 1) c8)) := KeptS.set ⟨Nat.le_refl _, by omega⟩
  have KZ := LX9.out.kept2 #[.slice AL m.L.length cL, .slice AG gl.length cG, .slice AF m.fx.length cF, .slice A8 (pl.length + 1) c8, .slice AA al.length cA, .int .i64 m.dep, .int .i64 m.most, .int .i64 m.err]
  have LZ := LX9.out.row2 #[.slice AL m.L.length cL, .slice AG gl.length cG, .slice AF m.fx.length cF, .slice A8 (pl.length + 1) c8, .slice AA al.length cA, .int .i64 m.dep, .int .i64 m.most, .int .i64 m.err]
  rw [HZZ.out] at KZ LZ
  have KW := K9.trans KZ (fun _ h => .inl h)
  have KK := KB.trans KW (fun _ h => .inl h)
  have hbx := LX.out.x2.lt
  have CZ := Lib.hid (C1.out.later KK (fun b hb => NB.out b hb) (fun b hb => by have := BG.out; omega))
  have RZ := Lib.hid (show RfR ZZ (fun b => T1 b ∨ (w.heap.size ≤ b ∧ b < w.heap.size + 3)) (N + 2) m AL cL AG cG AF cF A8 c8 AA cA gl (pl ++ [-1]) al from by
    have h0 := HR.out.later KK (fun b hb => .inr hb)
    refine ⟨h0.fL, h0.fG, h0.fF, ⟨?_, fun b hb ht => ?_⟩, h0.fA, h0.lg, by rw [List.length_append, List.length_singleton]; have := h0.lp; omega, Nat.le_trans h0.la (by omega), Nat.le_trans h0.lf (by omega), h0.ok, Int.le_trans h0.nm (by omega)⟩
    · rw [List.length_append, List.flatMap_append, List.flatMap_singleton]
      exact row_more (KW.row O8.out (fun b hb e => by have := (row_block O8.out hb).1; omega)) (Nat.zero_le _)
    · have h1 := (row_block O8.out (own_len (n' := pl.length + 1) hb)).1
      have h2 := HT.out b ht
      omega)
  have KF := Lib.hid (KP.out.trans KK (fun b hb => .inr hb.1))
  obtain ⟨z0, z1, z2, z3, z4, z5, z6, z7⟩ := cells8 LZ.x2
  clear KZ LZ K9 KK KB KW
  refine bodyPost_ret (v := .agg #[.slice AL m.L.length cL, .slice AG gl.length cG, .slice AF m.fx.length cF, .slice A8 (pl.length + 1) c8, .slice AA al.length cA, .int .i64 m.dep, .int .i64 m.most, .int .i64 m.err]) ?_ rfl ⟨T1, AL, cL, AG, cG, AF, cF, A8, c8, AA, cA, gl, pl ++ [-1], al, ?_, CZ.out.more (show N + 1 ≤ N + 2 by omega) (Nat.le_refl _), RZ.out.less (fun b hb => .inl hb), KF.out, O1.out⟩
  · simp [results, Tryd.results22, go_sem, z0, z1, z2, z3, z4, z5, z6, z7]
  · simp only [List.length_append, List.length_singleton]

set_option maxHeartbeats 16000000 in
set_option maxRecDepth 100000 in
theorem ot_unguard0 (oi : Ins) (on oa ob oc : Int) (hi : I64I oi) (hon : I64 on) (hoc : I64 oc) (ha1 : -1000 ≤ oa) (ha2 : oa ≤ 1000) (hb1 : -1000000 ≤ ob) (hb2 : ob ≤ 1000000) (B g : Nat) (T : Nat → Prop) (N : Nat) (m : Em) (AL : Option Addr) (cL : Nat) (AG : Option Addr) (cG : Nat) (AF : Option Addr) (cF : Nat) (AP : Option Addr) (cP : Nat) (AA : Option Addr) (cA : Nat) (gl pl al : List Int) (w : World) (hC : CdAt w B g T N m) (hR : RfR w T N m AL cL AG cG AF cF AP cP AA cA gl pl al) (hN : N + 2 ≤ 100000) (hl : al.length = 0) :
    Calls Tryd.prog 22 #[.pointer (some ⟨g, 0, none⟩), .agg #[.slice AL m.L.length cL, .slice AG gl.length cG, .slice AF m.fx.length cF, .slice AP pl.length cP, .slice AA al.length cA, .int .i64 m.dep, .int .i64 m.most, .int .i64 m.err], .agg #[.int .i64 12, .int .i64 oi.op, .int .i64 oi.a, .int .i64 oi.b, .int .i64 oi.c, .int .i64 oi.n, .int .i64 on, .int .i64 oa, .int .i64 ob, .int .i64 oc]] w (DoP B g T (N + 2) w m) := by
  have b1 := (Below.refl w.heap.size w).alloc (Nat.le_refl _) (.cells #[.slice AL m.L.length cL, .slice AG gl.length cG, .slice AF m.fx.length cF, .slice AP pl.length cP, .slice AA al.length cA, .int .i64 m.dep, .int .i64 m.most, .int .i64 m.err] rfT)
  have b2 := b1.alloc b1.size (.cells #[.int .i64 12, .int .i64 oi.op, .int .i64 oi.a, .int .i64 oi.b, .int .i64 oi.c, .int .i64 oi.n, .int .i64 on, .int .i64 oa, .int .i64 ob, .int .i64 oc] opT)
  have b3 := b2.alloc b2.size (.cells #[.slice none 0 0, .slice none 0 0, .slice none 0 0, .slice none 0 0, .slice none 0 0, .int .i64 0, .int .i64 0, .int .i64 0] rfT)
  have LX := Lib.hid (show Lx3 w (((w.alloc (.cells #[.slice AL m.L.length cL, .slice AG gl.length cG, .slice AF m.fx.length cF, .slice AP pl.length cP, .slice AA al.length cA, .int .i64 m.dep, .int .i64 m.most, .int .i64 m.err] rfT)).alloc (.cells #[.int .i64 12, .int .i64 oi.op, .int .i64 oi.a, .int .i64 oi.b, .int .i64 oi.c, .int .i64 oi.n, .int .i64 on, .int .i64 oa, .int .i64 ob, .int .i64 oc] opT)).alloc (.cells #[.slice none 0 0, .slice none 0 0, .slice none 0 0, .slice none 0 0, .slice none 0 0, .int .i64 0, .int .i64 0, .int .i64 0] rfT)) rfT opT rfT #[.slice AL m.L.length cL, .slice AG gl.length cG, .slice AF m.fx.length cF, .slice AP pl.length cP, .slice AA al.length cA, .int .i64 m.dep, .int .i64 m.most, .int .i64 m.err] #[.int .i64 12, .int .i64 oi.op, .int .i64 oi.a, .int .i64 oi.b, .int .i64 oi.c, .int .i64 oi.n, .int .i64 on, .int .i64 oa, .int .i64 ob, .int .i64 oc] #[.slice none 0 0, .slice none 0 0, .slice none 0 0, .slice none 0 0, .slice none 0 0, .int .i64 0, .int .i64 0, .int .i64 0] from ⟨((Whole.made w rfT #[.slice AL m.L.length cL, .slice AG gl.length cG, .slice AF m.fx.length cF, .slice AP pl.length cP, .slice AA al.length cA, .int .i64 m.dep, .int .i64 m.most, .int .i64 m.err] _ rfl).alloc _).alloc _, (Whole.made (w.alloc (.cells #[.slice AL m.L.length cL, .slice AG gl.length cG, .slice AF m.fx.length cF, .slice AP pl.length cP, .slice AA al.length cA, .int .i64 m.dep, .int .i64 m.most, .int .i64 m.err] rfT)) opT #[.int .i64 12, .int .i64 oi.op, .int .i64 oi.a, .int .i64 oi.b, .int .i64 oi.c, .int .i64 oi.n, .int .i64 on, .int .i64 oa, .int .i64 ob, .int .i64 oc] _ (by simp)).alloc _, Whole.made ((w.alloc (.cells #[.slice AL m.L.length cL, .slice AG gl.length cG, .slice AF m.fx.length cF, .slice AP pl.length cP, .slice AA al.length cA, .int .i64 m.dep, .int .i64 m.most, .int .i64 m.err] rfT)).alloc (.cells #[.int .i64 12, .int .i64 oi.op, .int .i64 oi.a, .int .i64 oi.b, .int .i64 oi.c, .int .i64 oi.n, .int .i64 on, .int .i64 oa, .int .i64 ob, .int .i64 oc] opT)) rfT #[.slice none 0 0, .slice none 0 0, .slice none 0 0, .slice none 0 0, .slice none 0 0, .int .i64 0, .int .i64 0, .int .i64 0] _ (by simp)⟩)
  have HR := Lib.hid ((hR.boxed 3).below b3)
  have HC := Lib.hid (hC.below b3)
  have BV := Lib.hid b3
  have HN := Lib.hid hN
  have TW := Lib.hid (show ∀ b, T b → b < w.heap.size from by
    obtain ⟨_, _, _, _, _, _, _, _, h0⟩ := hC
    exact fun b hb => (h0.frm b hb).2)
  have BG := Lib.hid (show B ≤ g ∧ g < w.heap.size from by
    obtain ⟨_, _, _, _, _, _, _, _, h0⟩ := hC
    exact h0.frm g h0.tg)
  have S8 : (Tryd.prog.info? rfT).map (·.size) = some 8 := by kernel_rfl
  clear hC hR b1 b2 b3
  obtain ⟨o0, o1, o2, o3, o4, o5, o6, o7, o8, o9⟩ := cells10 LX.out.x1
  have PC := Lib.hid (unguard_any B g T N m.L.length m (((w.alloc (.cells #[.slice AL m.L.length cL, .slice AG gl.length cG, .slice AF m.fx.length cF, .slice AP pl.length cP, .slice AA al.length cA, .int .i64 m.dep, .int .i64 m.most, .int .i64 m.err] rfT)).alloc (.cells #[.int .i64 12, .int .i64 oi.op, .int .i64 oi.a, .int .i64 oi.b, .int .i64 oi.c, .int .i64 oi.n, .int .i64 on, .int .i64 oa, .int .i64 ob, .int .i64 oc] opT)).alloc (.cells #[.slice none 0 0, .slice none 0 0, .slice none 0 0, .slice none 0 0, .slice none 0 0, .int .i64 0, .int .i64 0, .int .i64 0] rfT)) HC.out (by have := HN.out; omega))
  have hO := HR.out.fA.1
  have hcap : al.length ≤ cA := by
    rcases hO.2 with ⟨h1, h2⟩ | ⟨_, _, _, h1, _, _, h2, _⟩
    · rw [h2]; exact Nat.zero_le _
    · injection h1 with _ _ h1
      omega
  have hk1 : al.length ≤ N := HR.out.la
  have TL := Lib.hid (show (al.take 0).length = 0 by rw [List.length_take]; omega)
  have HAL := Lib.hid hl
  have hsl := islice_any AA 0 al.length cA (row_addr hO) (by omega)
  have hN2 : N + 2 ≤ 100000 := HN.out
  clear hi hon hoc hO
  rw [hl] at LX HR HC BV PC o0 o1 o2 o3 o4 o5 o6 o7 o8 o9 hcap hsl hk1 ⊢
  clear hl
  go_enter Tryd.func22, Tryd.ntmps22
  go_wp2_with fail
  generalize (((w.alloc (.cells #[.slice AL m.L.length cL, .slice AG gl.length cG, .slice AF m.fx.length cF, .slice AP pl.length cP, .slice AA 0 cA, .int .i64 m.dep, .int .i64 m.most, .int .i64 m.err] rfT)).alloc (.cells #[.int .i64 12, .int .i64 oi.op, .int .i64 oi.a, .int .i64 oi.b, .int .i64 oi.c, .int .i64 oi.n, .int .i64 on, .int .i64 oa, .int .i64 ob, .int .i64 oc] opT)).alloc (.cells #[.slice none 0 0, .slice none 0 0, .slice none 0 0, .slice none 0 0, .slice none 0 0, .int .i64 0, .int .i64 0, .int .i64 0] rfT)) = V at *
  refine PC.out.mono ?_
  rintro e w1 ⟨rfl, T1, hc, hk, ht⟩
  have KP := Lib.hid ((show KeptS T w V from KeptS.ofBelow BV.out).trans hk (fun b hb => .inl hb))
  have O1 := Lib.hid (show ∀ b, T1 b → T b ∨ w.heap.size ≤ b from fun b hb => by
    rcases ht b hb with h | h
    · exact .inl h
    · exact .inr (Nat.le_trans BV.out.size h))
  have NB := Lib.hid (show ∀ b, (w.heap.size ≤ b ∧ b < w.heap.size + 3) → ¬ T1 b from fun b hb h => by
    have h3 := LX.out.x2.lt
    rcases ht b h with h | h
    · have := TW.out b h
      omega
    · omega)
  have LX := Lib.hid (LX.out.later hk (fun b hb h => by have := TW.out b hb; omega))
  have C1 := Lib.hid hc
  have HR := Lib.hid (HR.out.kept (T' := (fun b => T1 b ∨ (w.heap.size ≤ b ∧ b < w.heap.size + 3))) (hk.mono (fun b hb => .inl hb)) (fun b hb => by
    rcases hb with hb | hb
    · rcases ht b hb with h | h
      · exact .inl (.inl h)
      · exact .inr h
    · exact .inl (.inr hb)))
  have HT := Lib.hid (show ∀ b, (fun b => T1 b ∨ (w.heap.size ≤ b ∧ b < w.heap.size + 3)) b → b < w1.heap.size from fun b hb => by
    have h3 := LX.out.x2.lt
    rcases hb with hb | hb
    · obtain ⟨_, _, _, _, _, _, _, _, h0⟩ := hc
      exact (h0.frm b hb).2
    · omega)
  clear hc hk ht PC o0 o1 o2 o3 o4 o5 o6 o7 o8 o9 HC
  obtain ⟨o0, o1, o2, o3, o4, o5, o6, o7, o8, o9⟩ := cells10 LX.out.x1
  obtain ⟨a0, a1, a2, a3, a4, a5, a6, a7⟩ := cells8 LX.out.x0
  simp only []
  go_at_K
  have zf : w1.frozen? ⟨w.heap.size, 4, none⟩ = false := LX.out.x0.free 4
  have LX9 := Lib.hid (show Lx3 w (w1.setCell ⟨w.heap.size, 4, none⟩ (.slice AA 0 cA)) rfT opT rfT #[.slice AL m.L.length cL, .slice AG gl.length cG, .slice AF m.fx.length cF, .slice AP pl.length cP, .slice AA 0 cA, .int .i64 m.dep, .int .i64 m.most, .int .i64 m.err] _ _ from LX.out.set0 4 (.slice AA 0 cA))
  obtain ⟨e0, e1, e2, e3, e4, e5, e6, e7⟩ := cells8 LX9.out.x0
  have H1 := Lib.hid (show (#[.slice AL m.L.length cL, .slice AG gl.length cG, .slice AF m.fx.length cF, .slice AP pl.length cP, .slice AA 0 cA, .int .i64 m.dep, .int .i64 m.most, .int .i64 m.err] : Array Value).all (·.oneCell') = true from by simp [Value.oneCell'])
  repeat (first | (go_big_may; first | (refine wpList_store_row rfl rfT (.tmp 6) (.tmp 152) rfl (w.heap.size + 1 + 1) #[.slice AL m.L.length cL, .slice AG gl.length cG, .slice AF m.fx.length cF, .slice AP pl.length cP, .slice AA 0 cA, .int .i64 m.dep, .int .i64 m.most, .int .i64 m.err] rfl rfl rfT #[.slice none 0 0, .slice none 0 0, .slice none 0 0, .slice none 0 0, .slice none 0 0, .int .i64 0, .int .i64 0, .int .i64 0] LX9.out.x2 S8 rfl H1.out ?_; generalize hZZ : ((w1.setCell ⟨w.heap.size, 4, none⟩ (.slice AA 0 cA))).setRow (w.heap.size + 1 + 1) #[.slice AL m.L.length cL, .slice AG gl.length cG, .slice AF m.fx.length cF, .slice AP pl.length cP, .slice AA 0 cA, .int .i64 m.dep, .int .i64 m.most, .int .i64 m.err] = ZZ; have HZZ := Lib.hid hZZ; clear hZZ)) | go_values | go_skip | go_guarded | go_step | go_upon)
  have K9 : KeptS (fun b => w.heap.size ≤ b ∧ b < w.heap.size + 3) w1 (w1.setCell ⟨w.heap.size, 4, none⟩ (.slice AA 0 cA)) := KeptS.set ⟨Nat.le_refl _, by omega⟩
  have KZ := LX9.out.kept2 #[.slice AL m.L.length cL, .slice AG gl.length cG, .slice AF m.fx.length cF, .slice AP pl.length cP, .slice AA 0 cA, .int .i64 m.dep, .int .i64 m.most, .int .i64 m.err]
  have LZ := LX9.out.row2 #[.slice AL m.L.length cL, .slice AG gl.length cG, .slice AF m.fx.length cF, .slice AP pl.length cP, .slice AA 0 cA, .int .i64 m.dep, .int .i64 m.most, .int .i64 m.err]
  rw [HZZ.out] at KZ LZ
  have KK := K9.trans KZ (fun _ h => .inl h)
  have CZ := Lib.hid (C1.out.later KK (fun b hb => NB.out b hb) (fun b hb => by have := BG.out; omega))
  have RZ := Lib.hid (show RfR ZZ (fun b => T1 b ∨ (w.heap.size ≤ b ∧ b < w.heap.size + 3)) (N + 2) m AL cL AG cG AF cF AP cP AA cA gl pl al from by
    have h0 := HR.out.later KK (fun b hb => .inr hb)
    exact ⟨h0.fL, h0.fG, h0.fF, h0.fP, by have := h0.fA; exact this, h0.lg, Nat.le_trans h0.lp (by omega), by have := h0.la; omega, Nat.le_trans h0.lf (by omega), h0.ok, Int.le_trans h0.nm (by omega)⟩)
  have KF := Lib.hid (KP.out.trans KK (fun b hb => .inr hb.1))
  obtain ⟨z0, z1, z2, z3, z4, z5, z6, z7⟩ := cells8 LZ.x2
  clear KZ LZ K9 KK
  refine bodyPost_ret (v := .agg #[.slice AL m.L.length cL, .slice AG gl.length cG, .slice AF m.fx.length cF, .slice AP pl.length cP, .slice AA 0 cA, .int .i64 m.dep, .int .i64 m.most, .int .i64 m.err]) ?_ rfl ⟨T1, AL, cL, AG, cG, AF, cF, AP, cP, AA, cA, gl, pl, al, by rw [HAL.out], CZ.out.more (show N ≤ N + 2 by omega) (Nat.le_refl _), RZ.out.less (fun b hb => .inl hb), KF.out, O1.out⟩
  simp [results, Tryd.results22, go_sem, z0, z1, z2, z3, z4, z5, z6, z7]

set_option maxHeartbeats 16000000 in
set_option maxRecDepth 100000 in
theorem ot_unguard1 (oi : Ins) (on oa ob oc : Int) (hi : I64I oi) (hon : I64 on) (hoc : I64 oc) (ha1 : -1000 ≤ oa) (ha2 : oa ≤ 1000) (hb1 : -1000000 ≤ ob) (hb2 : ob ≤ 1000000) (B g : Nat) (T : Nat → Prop) (N : Nat) (m : Em) (AL : Option Addr) (cL : Nat) (AG : Option Addr) (cG : Nat) (AF : Option Addr) (cF : Nat) (AP : Option Addr) (cP : Nat) (AA : Option Addr) (cA : Nat) (gl pl al : List Int) (w : World) (hC : CdAt w B g T N m) (hR : RfR w T N m AL cL AG cG AF cF AP cP AA cA gl pl al) (hN : N + 2 ≤ 100000) (hl : al.length = 1) :
    Calls Tryd.prog 22 #[.pointer (some ⟨g, 0, none⟩), .agg #[.slice AL m.L.length cL, .slice AG gl.length cG, .slice AF m.fx.length cF, .slice AP pl.length cP, .slice AA al.length cA, .int .i64 m.dep, .int .i64 m.most, .int .i64 m.err], .agg #[.int .i64 12, .int .i64 oi.op, .int .i64 oi.a, .int .i64 oi.b, .int .i64 oi.c, .int .i64 oi.n, .int .i64 on, .int .i64 oa, .int .i64 ob, .int .i64 oc]] w (DoP B g T (N + 2) w m) := by
  have b1 := (Below.refl w.heap.size w).alloc (Nat.le_refl _) (.cells #[.slice AL m.L.length cL, .slice AG gl.length cG, .slice AF m.fx.length cF, .slice AP pl.length cP, .slice AA al.length cA, .int .i64 m.dep, .int .i64 m.most, .int .i64 m.err] rfT)
  have b2 := b1.alloc b1.size (.cells #[.int .i64 12, .int .i64 oi.op, .int .i64 oi.a, .int .i64 oi.b, .int .i64 oi.c, .int .i64 oi.n, .int .i64 on, .int .i64 oa, .int .i64 ob, .int .i64 oc] opT)
  have b3 := b2.alloc b2.size (.cells #[.slice none 0 0, .slice none 0 0, .slice none 0 0, .slice none 0 0, .slice none 0 0, .int .i64 0, .int .i64 0, .int .i64 0] rfT)
  have LX := Lib.hid (show Lx3 w (((w.alloc (.cells #[.slice AL m.L.length cL, .slice AG gl.length cG, .slice AF m.fx.length cF, .slice AP pl.length cP, .slice AA al.length cA, .int .i64 m.dep, .int .i64 m.most, .int .i64 m.err] rfT)).alloc (.cells #[.int .i64 12, .int .i64 oi.op, .int .i64 oi.a, .int .i64 oi.b, .int .i64 oi.c, .int .i64 oi.n, .int .i64 on, .int .i64 oa, .int .i64 ob, .int .i64 oc] opT)).alloc (.cells #[.slice none 0 0, .slice none 0 0, .slice none 0 0, .slice none 0 0, .slice none 0 0, .int .i64 0, .int .i64 0, .int .i64 0] rfT)) rfT opT rfT #[.slice AL m.L.length cL, .slice AG gl.length cG, .slice AF m.fx.length cF, .slice AP pl.length cP, .slice AA al.length cA, .int .i64 m.dep, .int .i64 m.most, .int .i64 m.err] #[.int .i64 12, .int .i64 oi.op, .int .i64 oi.a, .int .i64 oi.b, .int .i64 oi.c, .int .i64 oi.n, .int .i64 on, .int .i64 oa, .int .i64 ob, .int .i64 oc] #[.slice none 0 0, .slice none 0 0, .slice none 0 0, .slice none 0 0, .slice none 0 0, .int .i64 0, .int .i64 0, .int .i64 0] from ⟨((Whole.made w rfT #[.slice AL m.L.length cL, .slice AG gl.length cG, .slice AF m.fx.length cF, .slice AP pl.length cP, .slice AA al.length cA, .int .i64 m.dep, .int .i64 m.most, .int .i64 m.err] _ rfl).alloc _).alloc _, (Whole.made (w.alloc (.cells #[.slice AL m.L.length cL, .slice AG gl.length cG, .slice AF m.fx.length cF, .slice AP pl.length cP, .slice AA al.length cA, .int .i64 m.dep, .int .i64 m.most, .int .i64 m.err] rfT)) opT #[.int .i64 12, .int .i64 oi.op, .int .i64 oi.a, .int .i64 oi.b, .int .i64 oi.c, .int .i64 oi.n, .int .i64 on, .int .i64 oa, .int .i64 ob, .int .i64 oc] _ (by simp)).alloc _, Whole.made ((w.alloc (.cells #[.slice AL m.L.length cL, .slice AG gl.length cG, .slice AF m.fx.length cF, .slice AP pl.length cP, .slice AA al.length cA, .int .i64 m.dep, .int .i64 m.most, .int .i64 m.err] rfT)).alloc (.cells #[.int .i64 12, .int .i64 oi.op, .int .i64 oi.a, .int .i64 oi.b, .int .i64 oi.c, .int .i64 oi.n, .int .i64 on, .int .i64 oa, .int .i64 ob, .int .i64 oc] opT)) rfT #[.slice none 0 0, .slice none 0 0, .slice none 0 0, .slice none 0 0, .slice none 0 0, .int .i64 0, .int .i64 0, .int .i64 0] _ (by simp)⟩)
  have HR := Lib.hid ((hR.boxed 3).below b3)
  have HC := Lib.hid (hC.below b3)
  have BV := Lib.hid b3
  have HN := Lib.hid hN
  have TW := Lib.hid (show ∀ b, T b → b < w.heap.size from by
    obtain ⟨_, _, _, _, _, _, _, _, h0⟩ := hC
    exact fun b hb => (h0.frm b hb).2)
  have BG := Lib.hid (show B ≤ g ∧ g < w.heap.size from by
    obtain ⟨_, _, _, _, _, _, _, _, h0⟩ := hC
    exact h0.frm g h0.tg)
  have S8 : (Tryd.prog.info? rfT).map (·.size) = some 8 := by kernel_rfl
  clear hC hR b1 b2 b3
  obtain ⟨o0, o1, o2, o3, o4, o5, o6, o7, o8, o9⟩ := cells10 LX.out.x1
  have PC := Lib.hid (unguard_any B g T N m.L.length m (((w.alloc (.cells #[.slice AL m.L.length cL, .slice AG gl.length cG, .slice AF m.fx.length cF, .slice AP pl.length cP, .slice AA al.length cA, .int .i64 m.dep, .int .i64 m.most, .int .i64 m.err] rfT)).alloc (.cells #[.int .i64 12, .int .i64 oi.op, .int .i64 oi.a, .int .i64 oi.b, .int .i64 oi.c, .int .i64 oi.n, .int .i64 on, .int .i64 oa, .int .i64 ob, .int .i64 oc] opT)).alloc (.cells #[.slice none 0 0, .slice none 0 0, .slice none 0 0, .slice none 0 0, .slice none 0 0, .int .i64 0, .int .i64 0, .int .i64 0] rfT)) HC.out (by have := HN.out; omega))
  have hO := HR.out.fA.1
  have hcap : al.length ≤ cA := by
    rcases hO.2 with ⟨h1, h2⟩ | ⟨_, _, _, h1, _, _, h2, _⟩
    · rw [h2]; exact Nat.zero_le _
    · injection h1 with _ _ h1
      omega
  have hk1 : al.length ≤ N := HR.out.la
  have TL := Lib.hid (show (al.take 0).length = 0 by rw [List.length_take]; omega)
  have HAL := Lib.hid hl
  have hsl := islice_any AA 0 al.length cA (row_addr hO) (by omega)
  have hN2 : N + 2 ≤ 100000 := HN.out
  clear hi hon hoc hO
  rw [hl] at LX HR HC BV PC o0 o1 o2 o3 o4 o5 o6 o7 o8 o9 hcap hsl hk1 ⊢
  clear hl
  go_enter Tryd.func22, Tryd.ntmps22
  go_wp2_with fail
  generalize (((w.alloc (.cells #[.slice AL m.L.length cL, .slice AG gl.length cG, .slice AF m.fx.length cF, .slice AP pl.length cP, .slice AA 1 cA, .int .i64 m.dep, .int .i64 m.most, .int .i64 m.err] rfT)).alloc (.cells #[.int .i64 12, .int .i64 oi.op, .int .i64 oi.a, .int .i64 oi.b, .int .i64 oi.c, .int .i64 oi.n, .int .i64 on, .int .i64 oa, .int .i64 ob, .int .i64 oc] opT)).alloc (.cells #[.slice none 0 0, .slice none 0 0, .slice none 0 0, .slice none 0 0, .slice none 0 0, .int .i64 0, .int .i64 0, .int .i64 0] rfT)) = V at *
  refine PC.out.mono ?_
  rintro e w1 ⟨rfl, T1, hc, hk, ht⟩
  have KP := Lib.hid ((show KeptS T w V from KeptS.ofBelow BV.out).trans hk (fun b hb => .inl hb))
  have O1 := Lib.hid (show ∀ b, T1 b → T b ∨ w.heap.size ≤ b from fun b hb => by
    rcases ht b hb with h | h
    · exact .inl h
    · exact .inr (Nat.le_trans BV.out.size h))
  have NB := Lib.hid (show ∀ b, (w.heap.size ≤ b ∧ b < w.heap.size + 3) → ¬ T1 b from fun b hb h => by
    have h3 := LX.out.x2.lt
    rcases ht b h with h | h
    · have := TW.out b h
      omega
    · omega)
  have LX := Lib.hid (LX.out.later hk (fun b hb h => by have := TW.out b hb; omega))
  have C1 := Lib.hid hc
  have HR := Lib.hid (HR.out.kept (T' := (fun b => T1 b ∨ (w.heap.size ≤ b ∧ b < w.heap.size + 3))) (hk.mono (fun b hb => .inl hb)) (fun b hb => by
    rcases hb with hb | hb
    · rcases ht b hb with h | h
      · exact .inl (.inl h)
      · exact .inr h
    · exact .inl (.inr hb)))
  have HT := Lib.hid (show ∀ b, (fun b => T1 b ∨ (w.heap.size ≤ b ∧ b < w.heap.size + 3)) b → b < w1.heap.size from fun b hb => by
    have h3 := LX.out.x2.lt
    rcases hb with hb | hb
    · obtain ⟨_, _, _, _, _, _, _, _, h0⟩ := hc
      exact (h0.frm b hb).2
    · omega)
  clear hc hk ht PC o0 o1 o2 o3 o4 o5 o6 o7 o8 o9 HC
  obtain ⟨o0, o1, o2, o3, o4, o5, o6, o7, o8, o9⟩ := cells10 LX.out.x1
  obtain ⟨a0, a1, a2, a3, a4, a5, a6, a7⟩ := cells8 LX.out.x0
  simp only []
  go_at_K
  have zf : w1.frozen? ⟨w.heap.size, 4, none⟩ = false := LX.out.x0.free 4
  have LX9 := Lib.hid (show Lx3 w (w1.setCell ⟨w.heap.size, 4, none⟩ (.slice AA 0 cA)) rfT opT rfT #[.slice AL m.L.length cL, .slice AG gl.length cG, .slice AF m.fx.length cF, .slice AP pl.length cP, .slice AA 0 cA, .int .i64 m.dep, .int .i64 m.most, .int .i64 m.err] _ _ from LX.out.set0 4 (.slice AA 0 cA))
  obtain ⟨e0, e1, e2, e3, e4, e5, e6, e7⟩ := cells8 LX9.out.x0
  have H1 := Lib.hid (show (#[.slice AL m.L.length cL, .slice AG gl.length cG, .slice AF m.fx.length cF, .slice AP pl.length cP, .slice AA 0 cA, .int .i64 m.dep, .int .i64 m.most, .int .i64 m.err] : Array Value).all (·.oneCell') = true from by simp [Value.oneCell'])
  repeat (first | (go_big_may; first | (refine wpList_store_row rfl rfT (.tmp 6) (.tmp 152) rfl (w.heap.size + 1 + 1) #[.slice AL m.L.length cL, .slice AG gl.length cG, .slice AF m.fx.length cF, .slice AP pl.length cP, .slice AA 0 cA, .int .i64 m.dep, .int .i64 m.most, .int .i64 m.err] rfl rfl rfT #[.slice none 0 0, .slice none 0 0, .slice none 0 0, .slice none 0 0, .slice none 0 0, .int .i64 0, .int .i64 0, .int .i64 0] LX9.out.x2 S8 rfl H1.out ?_; generalize hZZ : ((w1.setCell ⟨w.heap.size, 4, none⟩ (.slice AA 0 cA))).setRow (w.heap.size + 1 + 1) #[.slice AL m.L.length cL, .slice AG gl.length cG, .slice AF m.fx.length cF, .slice AP pl.length cP, .slice AA 0 cA, .int .i64 m.dep, .int .i64 m.most, .int .i64 m.err] = ZZ; have HZZ := Lib.hid hZZ; clear hZZ)) | go_values | go_skip | go_guarded | go_step | go_upon)
  have K9 : KeptS (fun b => w.heap.size ≤ b ∧ b < w.heap.size + 3) w1 (w1.setCell ⟨w.heap.size, 4, none⟩ (.slice AA 0 cA)) := KeptS.set ⟨Nat.le_refl _, by omega⟩
  have KZ := LX9.out.kept2 #[.slice AL m.L.length cL, .slice AG gl.length cG, .slice AF m.fx.length cF, .slice AP pl.length cP, .slice AA 0 cA, .int .i64 m.dep, .int .i64 m.most, .int .i64 m.err]
  have LZ := LX9.out.row2 #[.slice AL m.L.length cL, .slice AG gl.length cG, .slice AF m.fx.length cF, .slice AP pl.length cP, .slice AA 0 cA, .int .i64 m.dep, .int .i64 m.most, .int .i64 m.err]
  rw [HZZ.out] at KZ LZ
  have KK := K9.trans KZ (fun _ h => .inl h)
  have CZ := Lib.hid (C1.out.later KK (fun b hb => NB.out b hb) (fun b hb => by have := BG.out; omega))
  have RZ := Lib.hid (show RfR ZZ (fun b => T1 b ∨ (w.heap.size ≤ b ∧ b < w.heap.size + 3)) (N + 2) m AL cL AG cG AF cF AP cP AA cA gl pl (al.take 0) from by
    have h0 := HR.out.later KK (fun b hb => .inr hb)
    exact ⟨h0.fL, h0.fG, h0.fF, h0.fP, ⟨by
      rw [TL.out]
      obtain ⟨_, g5, rfl, _, _, _⟩ := row_cell (f := itC) (fun _ => rfl) (0 : Int) h0.fA.1 rfl (show 0 < List.length al by rw [HAL.out]; omega)
      exact row_front (f := itC) (k := 1) (l := al) (m := 0) (fun _ => rfl) h0.fA.1 (by rw [HAL.out]; omega), fun b hb ht => h0.fA.2 b (own_len hb) ht⟩, h0.lg, Nat.le_trans h0.lp (by omega), by rw [TL.out]; have := h0.la; have := HAL.out; omega, Nat.le_trans h0.lf (by omega), h0.ok, Int.le_trans h0.nm (by omega)⟩)
  have KF := Lib.hid (KP.out.trans KK (fun b hb => .inr hb.1))
  obtain ⟨z0, z1, z2, z3, z4, z5, z6, z7⟩ := cells8 LZ.x2
  clear KZ LZ K9 KK
  refine bodyPost_ret (v := .agg #[.slice AL m.L.length cL, .slice AG gl.length cG, .slice AF m.fx.length cF, .slice AP pl.length cP, .slice AA 0 cA, .int .i64 m.dep, .int .i64 m.most, .int .i64 m.err]) ?_ rfl ⟨T1, AL, cL, AG, cG, AF, cF, AP, cP, AA, cA, gl, pl, al.take 0, by rw [TL.out], CZ.out.more (show N ≤ N + 2 by omega) (Nat.le_refl _), RZ.out.less (fun b hb => .inl hb), KF.out, O1.out⟩
  simp [results, Tryd.results22, go_sem, z0, z1, z2, z3, z4, z5, z6, z7]

set_option maxHeartbeats 16000000 in
set_option maxRecDepth 100000 in
theorem ot_unguard2 (oi : Ins) (on oa ob oc : Int) (hi : I64I oi) (hon : I64 on) (hoc : I64 oc) (ha1 : -1000 ≤ oa) (ha2 : oa ≤ 1000) (hb1 : -1000000 ≤ ob) (hb2 : ob ≤ 1000000) (B g : Nat) (T : Nat → Prop) (N : Nat) (m : Em) (AL : Option Addr) (cL : Nat) (AG : Option Addr) (cG : Nat) (AF : Option Addr) (cF : Nat) (AP : Option Addr) (cP : Nat) (AA : Option Addr) (cA : Nat) (gl pl al : List Int) (w : World) (hC : CdAt w B g T N m) (hR : RfR w T N m AL cL AG cG AF cF AP cP AA cA gl pl al) (hN : N + 2 ≤ 100000) (k : Nat) (hl : al.length = (k + 2)) :
    Calls Tryd.prog 22 #[.pointer (some ⟨g, 0, none⟩), .agg #[.slice AL m.L.length cL, .slice AG gl.length cG, .slice AF m.fx.length cF, .slice AP pl.length cP, .slice AA al.length cA, .int .i64 m.dep, .int .i64 m.most, .int .i64 m.err], .agg #[.int .i64 12, .int .i64 oi.op, .int .i64 oi.a, .int .i64 oi.b, .int .i64 oi.c, .int .i64 oi.n, .int .i64 on, .int .i64 oa, .int .i64 ob, .int .i64 oc]] w (DoP B g T (N + 2) w m) := by
  have b1 := (Below.refl w.heap.size w).alloc (Nat.le_refl _) (.cells #[.slice AL m.L.length cL, .slice AG gl.length cG, .slice AF m.fx.length cF, .slice AP pl.length cP, .slice AA al.length cA, .int .i64 m.dep, .int .i64 m.most, .int .i64 m.err] rfT)
  have b2 := b1.alloc b1.size (.cells #[.int .i64 12, .int .i64 oi.op, .int .i64 oi.a, .int .i64 oi.b, .int .i64 oi.c, .int .i64 oi.n, .int .i64 on, .int .i64 oa, .int .i64 ob, .int .i64 oc] opT)
  have b3 := b2.alloc b2.size (.cells #[.slice none 0 0, .slice none 0 0, .slice none 0 0, .slice none 0 0, .slice none 0 0, .int .i64 0, .int .i64 0, .int .i64 0] rfT)
  have LX := Lib.hid (show Lx3 w (((w.alloc (.cells #[.slice AL m.L.length cL, .slice AG gl.length cG, .slice AF m.fx.length cF, .slice AP pl.length cP, .slice AA al.length cA, .int .i64 m.dep, .int .i64 m.most, .int .i64 m.err] rfT)).alloc (.cells #[.int .i64 12, .int .i64 oi.op, .int .i64 oi.a, .int .i64 oi.b, .int .i64 oi.c, .int .i64 oi.n, .int .i64 on, .int .i64 oa, .int .i64 ob, .int .i64 oc] opT)).alloc (.cells #[.slice none 0 0, .slice none 0 0, .slice none 0 0, .slice none 0 0, .slice none 0 0, .int .i64 0, .int .i64 0, .int .i64 0] rfT)) rfT opT rfT #[.slice AL m.L.length cL, .slice AG gl.length cG, .slice AF m.fx.length cF, .slice AP pl.length cP, .slice AA al.length cA, .int .i64 m.dep, .int .i64 m.most, .int .i64 m.err] #[.int .i64 12, .int .i64 oi.op, .int .i64 oi.a, .int .i64 oi.b, .int .i64 oi.c, .int .i64 oi.n, .int .i64 on, .int .i64 oa, .int .i64 ob, .int .i64 oc] #[.slice none 0 0, .slice none 0 0, .slice none 0 0, .slice none 0 0, .slice none 0 0, .int .i64 0, .int .i64 0, .int .i64 0] from ⟨((Whole.made w rfT #[.slice AL m.L.length cL, .slice AG gl.length cG, .slice AF m.fx.length cF, .slice AP pl.length cP, .slice AA al.length cA, .int .i64 m.dep, .int .i64 m.most, .int .i64 m.err] _ rfl).alloc _).alloc _, (Whole.made (w.alloc (.cells #[.slice AL m.L.length cL, .slice AG gl.length cG, .slice AF m.fx.length cF, .slice AP pl.length cP, .slice AA al.length cA, .int .i64 m.dep, .int .i64 m.most, .int .i64 m.err] rfT)) opT #[.int .i64 12, .int .i64 oi.op, .int .i64 oi.a, .int .i64 oi.b, .int .i64 oi.c, .int .i64 oi.n, .int .i64 on, .int .i64 oa, .int .i64 ob, .int .i64 oc] _ (by simp)).alloc _, Whole.made ((w.alloc (.cells #[.slice AL m.L.length cL, .slice AG gl.length cG, .slice AF m.fx.length cF, .slice AP pl.length cP, .slice AA al.length cA, .int .i64 m.dep, .int .i64 m.most, .int .i64 m.err] rfT)).alloc (.cells #[.int .i64 12, .int .i64 oi.op, .int .i64 oi.a, .int .i64 oi.b, .int .i64 oi.c, .int .i64 oi.n, .int .i64 on, .int .i64 oa, .int .i64 ob, .int .i64 oc] opT)) rfT #[.slice none 0 0, .slice none 0 0, .slice none 0 0, .slice none 0 0, .slice none 0 0, .int .i64 0, .int .i64 0, .int .i64 0] _ (by simp)⟩)
  have HR := Lib.hid ((hR.boxed 3).below b3)
  have HC := Lib.hid (hC.below b3)
  have BV := Lib.hid b3
  have HN := Lib.hid hN
  have TW := Lib.hid (show ∀ b, T b → b < w.heap.size from by
    obtain ⟨_, _, _, _, _, _, _, _, h0⟩ := hC
    exact fun b hb => (h0.frm b hb).2)
  have BG := Lib.hid (show B ≤ g ∧ g < w.heap.size from by
    obtain ⟨_, _, _, _, _, _, _, _, h0⟩ := hC
    exact h0.frm g h0.tg)
  have S8 : (Tryd.prog.info? rfT).map (·.size) = some 8 := by kernel_rfl
  clear hC hR b1 b2 b3
  obtain ⟨o0, o1, o2, o3, o4, o5, o6, o7, o8, o9⟩ := cells10 LX.out.x1
  have PC := Lib.hid (unguard_any B g T N m.L.length m (((w.alloc (.cells #[.slice AL m.L.length cL, .slice AG gl.length cG, .slice AF m.fx.length cF, .slice AP pl.length cP, .slice AA al.length cA, .int .i64 m.dep, .int .i64 m.most, .int .i64 m.err] rfT)).alloc (.cells #[.int .i64 12, .int .i64 oi.op, .int .i64 oi.a, .int .i64 oi.b, .int .i64 oi.c, .int .i64 oi.n, .int .i64 on, .int .i64 oa, .int .i64 ob, .int .i64 oc] opT)).alloc (.cells #[.slice none 0 0, .slice none 0 0, .slice none 0 0, .slice none 0 0, .slice none 0 0, .int .i64 0, .int .i64 0, .int .i64 0] rfT)) HC.out (by have := HN.out; omega))
  have hO := HR.out.fA.1
  have hcap : al.length ≤ cA := by
    rcases hO.2 with ⟨h1, h2⟩ | ⟨_, _, _, h1, _, _, h2, _⟩
    · rw [h2]; exact Nat.zero_le _
    · injection h1 with _ _ h1
      omega
  have hk1 : al.length ≤ N := HR.out.la
  have TL := Lib.hid (show (al.take (k + 1)).length = (k + 1) by rw [List.length_take]; omega)
  have HAL := Lib.hid hl
  have hsl := islice_any AA (k + 1) al.length cA (row_addr hO) (by omega)
  have hN2 : N + 2 ≤ 100000 := HN.out
  clear hi hon hoc hO
  rw [hl] at LX HR HC BV PC o0 o1 o2 o3 o4 o5 o6 o7 o8 o9 hcap hsl hk1 ⊢
  clear hl
  go_enter Tryd.func22, Tryd.ntmps22
  go_wp2_with fail
  generalize (((w.alloc (.cells #[.slice AL m.L.length cL, .slice AG gl.length cG, .slice AF m.fx.length cF, .slice AP pl.length cP, .slice AA (k + 2) cA, .int .i64 m.dep, .int .i64 m.most, .int .i64 m.err] rfT)).alloc (.cells #[.int .i64 12, .int .i64 oi.op, .int .i64 oi.a, .int .i64 oi.b, .int .i64 oi.c, .int .i64 oi.n, .int .i64 on, .int .i64 oa, .int .i64 ob, .int .i64 oc] opT)).alloc (.cells #[.slice none 0 0, .slice none 0 0, .slice none 0 0, .slice none 0 0, .slice none 0 0, .int .i64 0, .int .i64 0, .int .i64 0] rfT)) = V at *
  refine PC.out.mono ?_
  rintro e w1 ⟨rfl, T1, hc, hk, ht⟩
  have KP := Lib.hid ((show KeptS T w V from KeptS.ofBelow BV.out).trans hk (fun b hb => .inl hb))
  have O1 := Lib.hid (show ∀ b, T1 b → T b ∨ w.heap.size ≤ b from fun b hb => by
    rcases ht b hb with h | h
    · exact .inl h
    · exact .inr (Nat.le_trans BV.out.size h))
  have NB := Lib.hid (show ∀ b, (w.heap.size ≤ b ∧ b < w.heap.size + 3) → ¬ T1 b from fun b hb h => by
    have h3 := LX.out.x2.lt
    rcases ht b h with h | h
    · have := TW.out b h
      omega
    · omega)
  have LX := Lib.hid (LX.out.later hk (fun b hb h => by have := TW.out b hb; omega))
  have C1 := Lib.hid hc
  have HR := Lib.hid (HR.out.kept (T' := (fun b => T1 b ∨ (w.heap.size ≤ b ∧ b < w.heap.size + 3))) (hk.mono (fun b hb => .inl hb)) (fun b hb => by
    rcases hb with hb | hb
    · rcases ht b hb with h | h
      · exact .inl (.inl h)
      · exact .inr h
    · exact .inl (.inr hb)))
  have HT := Lib.hid (show ∀ b, (fun b => T1 b ∨ (w.heap.size ≤ b ∧ b < w.heap.size + 3)) b → b < w1.heap.size from fun b hb => by
    have h3 := LX.out.x2.lt
    rcases hb with hb | hb
    · obtain ⟨_, _, _, _, _, _, _, _, h0⟩ := hc
      exact (h0.frm b hb).2
    · omega)
  clear hc hk ht PC o0 o1 o2 o3 o4 o5 o6 o7 o8 o9 HC
  obtain ⟨o0, o1, o2, o3, o4, o5, o6, o7, o8, o9⟩ := cells10 LX.out.x1
  obtain ⟨a0, a1, a2, a3, a4, a5, a6, a7⟩ := cells8 LX.out.x0
  simp only []
  go_at_K
  have zf : w1.frozen? ⟨w.heap.size, 4, none⟩ = false := LX.out.x0.free 4
  have LX9 := Lib.hid (show Lx3 w (w1.setCell ⟨w.heap.size, 4, none⟩ (.slice AA (k + 1) cA)) rfT opT rfT #[.slice AL m.L.length cL, .slice AG gl.length cG, .slice AF m.fx.length cF, .slice AP pl.length cP, .slice AA (k + 1) cA, .int .i64 m.dep, .int .i64 m.most, .int .i64 m.err] _ _ from LX.out.set0 4 (.slice AA (k + 1) cA))
  obtain ⟨e0, e1, e2, e3, e4, e5, e6, e7⟩ := cells8 LX9.out.x0
  have H1 := Lib.hid (show (#[.slice AL m.L.length cL, .slice AG gl.length cG, .slice AF m.fx.length cF, .slice AP pl.length cP, .slice AA (k + 1) cA, .int .i64 m.dep, .int .i64 m.most, .int .i64 m.err] : Array Value).all (·.oneCell') = true from by simp [Value.oneCell'])
  repeat (first | (go_big_may; first | (refine wpList_store_row rfl rfT (.tmp 6) (.tmp 152) rfl (w.heap.size + 1 + 1) #[.slice AL m.L.length cL, .slice AG gl.length cG, .slice AF m.fx.length cF, .slice AP pl.length cP, .slice AA (k + 1) cA, .int .i64 m.dep, .int .i64 m.most, .int .i64 m.err] rfl rfl rfT #[.slice none 0 0, .slice none 0 0, .slice none 0 0, .slice none 0 0, .slice none 0 0, .int .i64 0, .int .i64 0, .int .i64 0] LX9.out.x2 S8 rfl H1.out ?_; generalize hZZ : ((w1.setCell ⟨w.heap.size, 4, none⟩ (.slice AA (k + 1) cA))).setRow (w.heap.size + 1 + 1) #[.slice AL m.L.length cL, .slice AG gl.length cG, .slice AF m.fx.length cF, .slice AP pl.length cP, .slice AA (k + 1) cA, .int .i64 m.dep, .int .i64 m.most, .int .i64 m.err] = ZZ; have HZZ := Lib.hid hZZ; clear hZZ)) | go_values | go_skip | go_guarded | go_step | go_upon)
  have K9 : KeptS (fun b => w.heap.size ≤ b ∧ b < w.heap.size + 3) w1 (w1.setCell ⟨w.heap.size, 4, none⟩ (.slice AA (k + 1) cA)) := KeptS.set ⟨Nat.le_refl _, by omega⟩
  have KZ := LX9.out.kept2 #[.slice AL m.L.length cL, .slice AG gl.length cG, .slice AF m.fx.length cF, .slice AP pl.length cP, .slice AA (k + 1) cA, .int .i64 m.dep, .int .i64 m.most, .int .i64 m.err]
  have LZ := LX9.out.row2 #[.slice AL m.L.length cL, .slice AG gl.length cG, .slice AF m.fx.length cF, .slice AP pl.length cP, .slice AA (k + 1) cA, .int .i64 m.dep, .int .i64 m.most, .int .i64 m.err]
  rw [HZZ.out] at KZ LZ
  have KK := K9.trans KZ (fun _ h => .inl h)
  have CZ := Lib.hid (C1.out.later KK (fun b hb => NB.out b hb) (fun b hb => by have := BG.out; omega))
  have RZ := Lib.hid (show RfR ZZ (fun b => T1 b ∨ (w.heap.size ≤ b ∧ b < w.heap.size + 3)) (N + 2) m AL cL AG cG AF cF AP cP AA cA gl pl (al.take (k + 1)) from by
    have h0 := HR.out.later KK (fun b hb => .inr hb)
    exact ⟨h0.fL, h0.fG, h0.fF, h0.fP, ⟨by
      rw [TL.out]
      obtain ⟨_, g5, rfl, _, _, _⟩ := row_cell (f := itC) (fun _ => rfl) (0 : Int) h0.fA.1 rfl (show 0 < List.length al by rw [HAL.out]; omega)
      exact row_front (f := itC) (k := 1) (l := al) (m := (k + 1)) (fun _ => rfl) h0.fA.1 (by rw [HAL.out]; omega), fun b hb ht => h0.fA.2 b (own_len hb) ht⟩, h0.lg, Nat.le_trans h0.lp (by omega), by rw [TL.out]; have := h0.la; have := HAL.out; omega, Nat.le_trans h0.lf (by omega), h0.ok, Int.le_trans h0.nm (by omega)⟩)
  have KF := Lib.hid (KP.out.trans KK (fun b hb => .inr hb.1))
  obtain ⟨z0, z1, z2, z3, z4, z5, z6, z7⟩ := cells8 LZ.x2
  clear KZ LZ K9 KK
  refine bodyPost_ret (v := .agg #[.slice AL m.L.length cL, .slice AG gl.length cG, .slice AF m.fx.length cF, .slice AP pl.length cP, .slice AA (k + 1) cA, .int .i64 m.dep, .int .i64 m.most, .int .i64 m.err]) ?_ rfl ⟨T1, AL, cL, AG, cG, AF, cF, AP, cP, AA, cA, gl, pl, al.take (k + 1), by rw [TL.out], CZ.out.more (show N ≤ N + 2 by omega) (Nat.le_refl _), RZ.out.less (fun b hb => .inl hb), KF.out, O1.out⟩
  simp [results, Tryd.results22, go_sem, z0, z1, z2, z3, z4, z5, z6, z7]

set_option maxHeartbeats 16000000 in
set_option maxRecDepth 100000 in
theorem ot_set_in (oi : Ins) (on ob oc : Int) (t : Nat) (hi : I64I oi) (hon : I64 on) (hoc : I64 oc) (ha1 : -1000 ≤ (t : Int)) (ha2 : (t : Int) ≤ 1000) (hb1 : -1000000 ≤ ob) (hb2 : ob ≤ 1000000) (B g : Nat) (T : Nat → Prop) (N : Nat) (m : Em) (AL : Option Addr) (cL : Nat) (AG : Option Addr) (cG : Nat) (AF : Option Addr) (cF : Nat) (AP : Option Addr) (cP : Nat) (AA : Option Addr) (cA : Nat) (gl pl al : List Int) (w : World) (hC : CdAt w B g T N m) (hR : RfR w T N m AL cL AG cG AF cF AP cP AA cA gl pl al) (hN : N + 2 ≤ 100000) (hx : t < pl.length) :
    Calls Tryd.prog 22 #[.pointer (some ⟨g, 0, none⟩), .agg #[.slice AL m.L.length cL, .slice AG gl.length cG, .slice AF m.fx.length cF, .slice AP pl.length cP, .slice AA al.length cA, .int .i64 m.dep, .int .i64 m.most, .int .i64 m.err], .agg #[.int .i64 13, .int .i64 oi.op, .int .i64 oi.a, .int .i64 oi.b, .int .i64 oi.c, .int .i64 oi.n, .int .i64 on, .int .i64 t, .int .i64 ob, .int .i64 oc]] w (DoP B g T (N + 2) w m) := by
  have b1 := (Below.refl w.heap.size w).alloc (Nat.le_refl _) (.cells #[.slice AL m.L.length cL, .slice AG gl.length cG, .slice AF m.fx.length cF, .slice AP pl.length cP, .slice AA al.length cA, .int .i64 m.dep, .int .i64 m.most, .int .i64 m.err] rfT)
  have b2 := b1.alloc b1.size (.cells #[.int .i64 13, .int .i64 oi.op, .int .i64 oi.a, .int .i64 oi.b, .int .i64 oi.c, .int .i64 oi.n, .int .i64 on, .int .i64 t, .int .i64 ob, .int .i64 oc] opT)
  have b3 := b2.alloc b2.size (.cells #[.slice none 0 0, .slice none 0 0, .slice none 0 0, .slice none 0 0, .slice none 0 0, .int .i64 0, .int .i64 0, .int .i64 0] rfT)
  have LX := Lib.hid (show Lx3 w (((w.alloc (.cells #[.slice AL m.L.length cL, .slice AG gl.length cG, .slice AF m.fx.length cF, .slice AP pl.length cP, .slice AA al.length cA, .int .i64 m.dep, .int .i64 m.most, .int .i64 m.err] rfT)).alloc (.cells #[.int .i64 13, .int .i64 oi.op, .int .i64 oi.a, .int .i64 oi.b, .int .i64 oi.c, .int .i64 oi.n, .int .i64 on, .int .i64 t, .int .i64 ob, .int .i64 oc] opT)).alloc (.cells #[.slice none 0 0, .slice none 0 0, .slice none 0 0, .slice none 0 0, .slice none 0 0, .int .i64 0, .int .i64 0, .int .i64 0] rfT)) rfT opT rfT #[.slice AL m.L.length cL, .slice AG gl.length cG, .slice AF m.fx.length cF, .slice AP pl.length cP, .slice AA al.length cA, .int .i64 m.dep, .int .i64 m.most, .int .i64 m.err] #[.int .i64 13, .int .i64 oi.op, .int .i64 oi.a, .int .i64 oi.b, .int .i64 oi.c, .int .i64 oi.n, .int .i64 on, .int .i64 t, .int .i64 ob, .int .i64 oc] #[.slice none 0 0, .slice none 0 0, .slice none 0 0, .slice none 0 0, .slice none 0 0, .int .i64 0, .int .i64 0, .int .i64 0] from ⟨((Whole.made w rfT #[.slice AL m.L.length cL, .slice AG gl.length cG, .slice AF m.fx.length cF, .slice AP pl.length cP, .slice AA al.length cA, .int .i64 m.dep, .int .i64 m.most, .int .i64 m.err] _ rfl).alloc _).alloc _, (Whole.made (w.alloc (.cells #[.slice AL m.L.length cL, .slice AG gl.length cG, .slice AF m.fx.length cF, .slice AP pl.length cP, .slice AA al.length cA, .int .i64 m.dep, .int .i64 m.most, .int .i64 m.err] rfT)) opT #[.int .i64 13, .int .i64 oi.op, .int .i64 oi.a, .int .i64 oi.b, .int .i64 oi.c, .int .i64 oi.n, .int .i64 on, .int .i64 t, .int .i64 ob, .int .i64 oc] _ (by simp)).alloc _, Whole.made ((w.alloc (.cells #[.slice AL m.L.length cL, .slice AG gl.length cG, .slice AF m.fx.length cF, .slice AP pl.length cP, .slice AA al.length cA, .int .i64 m.dep, .int .i64 m.most, .int .i64 m.err] rfT)).alloc (.cells #[.int .i64 13, .int .i64 oi.op, .int .i64 oi.a, .int .i64 oi.b, .int .i64 oi.c, .int .i64 oi.n, .int .i64 on, .int .i64 t, .int .i64 ob, .int .i64 oc] opT)) rfT #[.slice none 0 0, .slice none 0 0, .slice none 0 0, .slice none 0 0, .slice none 0 0, .int .i64 0, .int .i64 0, .int .i64 0] _ (by simp)⟩)
  have HR := Lib.hid ((hR.boxed 3).below b3)
  have HC := Lib.hid (hC.below b3)
  have BV := Lib.hid b3
  have HN := Lib.hid hN
  have TW := Lib.hid (show ∀ b, T b → b < w.heap.size from by
    obtain ⟨_, _, _, _, _, _, _, _, h0⟩ := hC
    exact fun b hb => (h0.frm b hb).2)
  have BG := Lib.hid (show B ≤ g ∧ g < w.heap.size from by
    obtain ⟨_, _, _, _, _, _, _, _, h0⟩ := hC
    exact h0.frm g h0.tg)
  have S8 : (Tryd.prog.info? rfT).map (·.size) = some 8 := by kernel_rfl
  clear hC hR b1 b2 b3
  obtain ⟨o0, o1, o2, o3, o4, o5, o6, o7, o8, o9⟩ := cells10 LX.out.x1
  have PC := Lib.hid (set_any t B g T N m.L.length m (((w.alloc (.cells #[.slice AL m.L.length cL, .slice AG gl.length cG, .slice AF m.fx.length cF, .slice AP pl.length cP, .slice AA al.length cA, .int .i64 m.dep, .int .i64 m.most, .int .i64 m.err] rfT)).alloc (.cells #[.int .i64 13, .int .i64 oi.op, .int .i64 oi.a, .int .i64 oi.b, .int .i64 oi.c, .int .i64 oi.n, .int .i64 on, .int .i64 t, .int .i64 ob, .int .i64 oc] opT)).alloc (.cells #[.slice none 0 0, .slice none 0 0, .slice none 0 0, .slice none 0 0, .slice none 0 0, .int .i64 0, .int .i64 0, .int .i64 0] rfT)) HC.out (by have := HN.out; omega))
  obtain ⟨i0, hi0, hz0, hz1, hz2⟩ := info_parts itInfo
  have PB := Lib.hid (show pl.length + 2 ≤ 100000 from by have := HR.out.lp; omega)
  have HPOS := Lib.hid (show 0 < pl.length by omega)
  have HLT := Lib.hid hx
  have dge : decide ((0 : Int) ≤ t) = true := decide_eq_true (by omega)
  have dlt : decide ((t : Int) < pl.length) = true := decide_eq_true (by omega)
  have htl : (t : Int) < pl.length := by omega
  have hl16 : m.L.length ≤ 16384 := HR.out.ok.len
  clear hx
  clear hi hon hoc
  go_enter Tryd.func22, Tryd.ntmps22
  go_wp2_with fail
  generalize (((w.alloc (.cells #[.slice AL m.L.length cL, .slice AG gl.length cG, .slice AF m.fx.length cF, .slice AP pl.length cP, .slice AA al.length cA, .int .i64 m.dep, .int .i64 m.most, .int .i64 m.err] rfT)).alloc (.cells #[.int .i64 13, .int .i64 oi.op, .int .i64 oi.a, .int .i64 oi.b, .int .i64 oi.c, .int .i64 oi.n, .int .i64 on, .int .i64 t, .int .i64 ob, .int .i64 oc] opT)).alloc (.cells #[.slice none 0 0, .slice none 0 0, .slice none 0 0, .slice none 0 0, .slice none 0 0, .int .i64 0, .int .i64 0, .int .i64 0] rfT)) = V at *
  refine PC.out.mono ?_
  rintro e w1 ⟨rfl, T1, hc, hk, ht⟩
  have KP := Lib.hid ((show KeptS T w V from KeptS.ofBelow BV.out).trans hk (fun b hb => .inl hb))
  have O1 := Lib.hid (show ∀ b, T1 b → T b ∨ w.heap.size ≤ b from fun b hb => by
    rcases ht b hb with h | h
    · exact .inl h
    · exact .inr (Nat.le_trans BV.out.size h))
  have NB := Lib.hid (show ∀ b, (w.heap.size ≤ b ∧ b < w.heap.size + 3) → ¬ T1 b from fun b hb h => by
    have h3 := LX.out.x2.lt
    rcases ht b h with h | h
    · have := TW.out b h
      omega
    · omega)
  have LX := Lib.hid (LX.out.later hk (fun b hb h => by have := TW.out b hb; omega))
  have C1 := Lib.hid hc
  have HR := Lib.hid (HR.out.kept (T' := (fun b => T1 b ∨ (w.heap.size ≤ b ∧ b < w.heap.size + 3))) (hk.mono (fun b hb => .inl hb)) (fun b hb => by
    rcases hb with hb | hb
    · rcases ht b hb with h | h
      · exact .inl (.inl h)
      · exact .inr h
    · exact .inl (.inr hb)))
  have HT := Lib.hid (show ∀ b, (fun b => T1 b ∨ (w.heap.size ≤ b ∧ b < w.heap.size + 3)) b → b < w1.heap.size from fun b hb => by
    have h3 := LX.out.x2.lt
    rcases hb with hb | hb
    · obtain ⟨_, _, _, _, _, _, _, _, h0⟩ := hc
      exact (h0.frm b hb).2
    · omega)
  clear hc hk ht PC o0 o1 o2 o3 o4 o5 o6 o7 o8 o9 HC
  obtain ⟨o0, o1, o2, o3, o4, o5, o6, o7, o8, o9⟩ := cells10 LX.out.x1
  obtain ⟨a0, a1, a2, a3, a4, a5, a6, a7⟩ := cells8 LX.out.x0
  have OE := Lib.hid (row_built (e := itT) (sz := 1) w1 #[] 0 0 rfl (Nat.le_refl _) (Nat.zero_le _) w1.heap.size (Nat.le_refl _) _ rfl [] rfl)
  have BA := Lib.hid ((Below.refl w1.heap.size w1).alloc (Nat.le_refl _) (.cells #[] itT))
  have b3 : (w1.alloc (.cells #[] itT)).cell? ⟨w.heap.size, 3, none⟩ = some (.slice AP pl.length cP) := (LX.out.later (S := fun _ => False) (KeptS.ofBelow BA.out) (fun _ h => h.elim)).x0.cell 3
  simp only []
  go_at_K
  repeat (first | (go_big_may; first | (at_builtin; refine wp_app_any _ rfl _ _ 26 rfl w1.heap.size itT i0 _ 1 8 Tryd.underlying26 hi0 hz0 hz1 hz2 rfl (by decide) (.slice (some ⟨w1.heap.size, 0, none⟩) 0 0) 0 [] rfl OE.out (.slice AP pl.length cP) (pl.length) (pl.flatMap itC) rfl (HR.out.fP.below BA.out).1 (one_flat it_one _) (by have := PB.out; unfold maxLen; omega) (by have := PB.out; omega) BA.out.size ?_; intro v6 w6 ho6 hg6 hat6; rw [Nat.zero_add, List.nil_append] at ho6; obtain ⟨g8, c6, hv6⟩ := rown_some17 ho6 HPOS.out; subst hv6; have B6 := Lib.hid (show Below w1.heap.size w1 w6 from BA.out.grown hg6 BA.out.size (fun b hb => (World.ownsRow.lt OE.out b hb).1)); have O6 := Lib.hid ho6; clear ho6 hg6 hat6; obtain ⟨_, g9, e9, hB9, _, hc9⟩ := row_cell (f := itC) (fun _ => rfl) (0 : Int) O6.out rfl HLT.out; have e9 : g8 = g9 := (by injection e9 with e9; injection e9); subst e9; have p7 : w6.cell? ⟨g8, t, none⟩ = some (.int .i64 (pl.getD t 0)) := (by have := (hc9 0 (by decide)).1; rwa [Nat.mul_one, Nat.add_zero] at this); have pf : w6.frozen? ⟨g8, t, none⟩ = false := (by have := (hc9 0 (by decide)).2; rwa [Nat.mul_one, Nat.add_zero] at this); have G8 := Lib.hid hB9; clear hc9 hB9; have LX6 := Lib.hid (LX.out.later (S := fun _ => False) (KeptS.ofBelow B6.out) (fun _ h => h.elim)); have u0 : w6.cell? ⟨w.heap.size, 0, none⟩ = some (.slice AL m.L.length cL) := LX6.out.x0.cell 0; have u7 : w6.cell? ⟨w.heap.size + 1, 7, none⟩ = some (.int .i64 t) := LX6.out.x1.cell 7; have B7 := Lib.hid (show Below w1.heap.size w1 (w6.setCell ⟨g8, t, none⟩ (.int .i64 m.L.length)) from B6.out.setCell (p := ⟨g8, t, none⟩) G8.out _); have LX7 := Lib.hid (LX.out.later (S := fun _ => False) (KeptS.ofBelow B7.out) (fun _ h => h.elim)); have s3 : (w6.setCell ⟨g8, t, none⟩ (.int .i64 m.L.length)).cell? ⟨w.heap.size, 3, none⟩ = some (.slice AP pl.length cP) := LX7.out.x0.cell 3; have sf : (w6.setCell ⟨g8, t, none⟩ (.int .i64 m.L.length)).frozen? ⟨w.heap.size, 3, none⟩ = false := LX7.out.x0.free 3; have LX9 := Lib.hid (show Lx3 w ((w6.setCell ⟨g8, t, none⟩ (.int .i64 m.L.length)).setCell ⟨w.heap.size, 3, none⟩ (.slice (some ⟨g8, 0, none⟩) pl.length c6)) rfT opT rfT #[.slice AL m.L.length cL, .slice AG gl.length cG, .slice AF m.fx.length cF, .slice (some ⟨g8, 0, none⟩) pl.length c6, .slice AA al.length cA, .int .i64 m.dep, .int .i64 m.most, .int .i64 m.err] _ _ from LX7.out.set0 3 (.slice (some ⟨g8, 0, none⟩) pl.length c6)); obtain ⟨e0, e1, e2, e3, e4, e5, e6, e7⟩ := cells8 LX9.out.x0; have H1 := Lib.hid (show (#[.slice AL m.L.length cL, .slice AG gl.length cG, .slice AF m.fx.length cF, .slice (some ⟨g8, 0, none⟩) pl.length c6, .slice AA al.length cA, .int .i64 m.dep, .int .i64 m.most, .int .i64 m.err] : Array Value).all (·.oneCell') = true from by simp [Value.oneCell'])) | (refine wpList_store_row rfl rfT (.tmp 6) (.tmp 152) rfl (w.heap.size + 1 + 1) #[.slice AL m.L.length cL, .slice AG gl.length cG, .slice AF m.fx.length cF, .slice (some ⟨g8, 0, none⟩) pl.length c6, .slice AA al.length cA, .int .i64 m.dep, .int .i64 m.most, .int .i64 m.err] rfl rfl rfT #[.slice none 0 0, .slice none 0 0, .slice none 0 0, .slice none 0 0, .slice none 0 0, .int .i64 0, .int .i64 0, .int .i64 0] LX9.out.x2 S8 rfl H1.out ?_; generalize hZZ : (((w6.setCell ⟨g8, t, none⟩ (.int .i64 m.L.length)).setCell ⟨w.heap.size, 3, none⟩ (.slice (some ⟨g8, 0, none⟩) pl.length c6))).setRow (w.heap.size + 1 + 1) #[.slice AL m.L.length cL, .slice AG gl.length cG, .slice AF m.fx.length cF, .slice (some ⟨g8, 0, none⟩) pl.length c6, .slice AA al.length cA, .int .i64 m.dep, .int .i64 m.most, .int .i64 m.err] = ZZ; have HZZ := Lib.hid hZZ; clear hZZ)) | go_values | go_skip | go_guarded | go_step | go_upon)
  have KB := KeptS.ofBelow (S := fun b => w.heap.size ≤ b ∧ b < w.heap.size + 3) B7.out
  have K9 : KeptS (fun b => w.heap.size ≤ b ∧ b < w.heap.size + 3) (w6.setCell ⟨g8, t, none⟩ (.int .i64 m.L.length)) ((w6.setCell ⟨g8, t, none⟩ (.int .i64 m.L.length)).setCell ⟨w.heap.size, 3, none⟩ (.slice (some ⟨g8, 0, none⟩) pl.length c6)) := KeptS.set ⟨Nat.le_refl _, by omega⟩
  have KZ := LX9.out.kept2 #[.slice AL m.L.length cL, .slice AG gl.length cG, .slice AF m.fx.length cF, .slice (some ⟨g8, 0, none⟩) pl.length c6, .slice AA al.length cA, .int .i64 m.dep, .int .i64 m.most, .int .i64 m.err]
  have LZ := LX9.out.row2 #[.slice AL m.L.length cL, .slice AG gl.length cG, .slice AF m.fx.length cF, .slice (some ⟨g8, 0, none⟩) pl.length c6, .slice AA al.length cA, .int .i64 m.dep, .int .i64 m.most, .int .i64 m.err]
  rw [HZZ.out] at KZ LZ
  have KW := K9.trans KZ (fun _ h => .inl h)
  have KK := KB.trans KW (fun _ h => .inl h)
  have hbx := LX.out.x2.lt
  have hset := row_set O6.out (j := t) (.int .i64 m.L.length)
  have hfl := flat_set itC 1 (fun _ => rfl) (0 : Int) (m.L.length : Int) 0 (.int .i64 m.L.length) pl t HLT.out (by decide) rfl
  rw [Nat.mul_one, Nat.add_zero] at hfl
  rw [hfl] at hset
  have CZ := Lib.hid (C1.out.later KK (fun b hb => NB.out b hb) (fun b hb => by have := BG.out; omega))
  have RZ := Lib.hid (show RfR ZZ (fun b => T1 b ∨ (w.heap.size ≤ b ∧ b < w.heap.size + 3)) (N + 2) m AL cL AG cG AF cF (some ⟨g8, 0, none⟩) c6 AA cA gl (pl.set t m.L.length) al from by
    have h0 := HR.out.later KK (fun b hb => .inr hb)
    refine ⟨h0.fL, h0.fG, h0.fF, ⟨?_, fun b hb ht => ?_⟩, h0.fA, h0.lg, by rw [List.length_set]; have := h0.lp; omega, Nat.le_trans h0.la (by omega), Nat.le_trans h0.lf (by omega), h0.ok, Int.le_trans h0.nm (by omega)⟩
    · rw [List.length_set]
      exact row_more (KW.row hset (fun b hb e => by have h1 : g8 = b := Option.some.inj hb; have := G8.out; omega)) (Nat.zero_le _)
    · have h1 : g8 = b := Option.some.inj hb
      have h2 := HT.out b ht
      have := G8.out
      omega)
  have KF := Lib.hid (KP.out.trans KK (fun b hb => .inr hb.1))
  obtain ⟨z0, z1, z2, z3, z4, z5, z6, z7⟩ := cells8 LZ.x2
  clear KZ LZ K9 KK KB KW
  refine bodyPost_ret (v := .agg #[.slice AL m.L.length cL, .slice AG gl.length cG, .slice AF m.fx.length cF, .slice (some ⟨g8, 0, none⟩) pl.length c6, .slice AA al.length cA, .int .i64 m.dep, .int .i64 m.most, .int .i64 m.err]) ?_ rfl ⟨T1, AL, cL, AG, cG, AF, cF, some ⟨g8, 0, none⟩, c6, AA, cA, gl, pl.set t m.L.length, al, ?_, CZ.out.more (show N ≤ N + 2 by omega) (Nat.le_refl _), RZ.out.less (fun b hb => .inl hb), KF.out, O1.out⟩
  · simp [results, Tryd.results22, go_sem, z0, z1, z2, z3, z4, z5, z6, z7]
  · simp only [List.length_set]

set_option maxHeartbeats 16000000 in
set_option maxRecDepth 100000 in
theorem ot_set_lo (oi : Ins) (on oa ob oc : Int) (hi : I64I oi) (hon : I64 on) (hoc : I64 oc) (ha1 : -1000 ≤ oa) (ha2 : oa ≤ 1000) (hb1 : -1000000 ≤ ob) (hb2 : ob ≤ 1000000) (B g : Nat) (T : Nat → Prop) (N : Nat) (m : Em) (AL : Option Addr) (cL : Nat) (AG : Option Addr) (cG : Nat) (AF : Option Addr) (cF : Nat) (AP : Option Addr) (cP : Nat) (AA : Option Addr) (cA : Nat) (gl pl al : List Int) (w : World) (hC : CdAt w B g T N m) (hR : RfR w T N m AL cL AG cG AF cF AP cP AA cA gl pl al) (hN : N + 2 ≤ 100000) (hx : oa < 0) :
    Calls Tryd.prog 22 #[.pointer (some ⟨g, 0, none⟩), .agg #[.slice AL m.L.length cL, .slice AG gl.length cG, .slice AF m.fx.length cF, .slice AP pl.length cP, .slice AA al.length cA, .int .i64 m.dep, .int .i64 m.most, .int .i64 m.err], .agg #[.int .i64 13, .int .i64 oi.op, .int .i64 oi.a, .int .i64 oi.b, .int .i64 oi.c, .int .i64 oi.n, .int .i64 on, .int .i64 oa, .int .i64 ob, .int .i64 oc]] w (DoP B g T (N + 2) w m) := by
  have b1 := (Below.refl w.heap.size w).alloc (Nat.le_refl _) (.cells #[.slice AL m.L.length cL, .slice AG gl.length cG, .slice AF m.fx.length cF, .slice AP pl.length cP, .slice AA al.length cA, .int .i64 m.dep, .int .i64 m.most, .int .i64 m.err] rfT)
  have b2 := b1.alloc b1.size (.cells #[.int .i64 13, .int .i64 oi.op, .int .i64 oi.a, .int .i64 oi.b, .int .i64 oi.c, .int .i64 oi.n, .int .i64 on, .int .i64 oa, .int .i64 ob, .int .i64 oc] opT)
  have b3 := b2.alloc b2.size (.cells #[.slice none 0 0, .slice none 0 0, .slice none 0 0, .slice none 0 0, .slice none 0 0, .int .i64 0, .int .i64 0, .int .i64 0] rfT)
  have LX := Lib.hid (show Lx3 w (((w.alloc (.cells #[.slice AL m.L.length cL, .slice AG gl.length cG, .slice AF m.fx.length cF, .slice AP pl.length cP, .slice AA al.length cA, .int .i64 m.dep, .int .i64 m.most, .int .i64 m.err] rfT)).alloc (.cells #[.int .i64 13, .int .i64 oi.op, .int .i64 oi.a, .int .i64 oi.b, .int .i64 oi.c, .int .i64 oi.n, .int .i64 on, .int .i64 oa, .int .i64 ob, .int .i64 oc] opT)).alloc (.cells #[.slice none 0 0, .slice none 0 0, .slice none 0 0, .slice none 0 0, .slice none 0 0, .int .i64 0, .int .i64 0, .int .i64 0] rfT)) rfT opT rfT #[.slice AL m.L.length cL, .slice AG gl.length cG, .slice AF m.fx.length cF, .slice AP pl.length cP, .slice AA al.length cA, .int .i64 m.dep, .int .i64 m.most, .int .i64 m.err] #[.int .i64 13, .int .i64 oi.op, .int .i64 oi.a, .int .i64 oi.b, .int .i64 oi.c, .int .i64 oi.n, .int .i64 on, .int .i64 oa, .int .i64 ob, .int .i64 oc] #[.slice none 0 0, .slice none 0 0, .slice none 0 0, .slice none 0 0, .slice none 0 0, .int .i64 0, .int .i64 0, .int .i64 0] from ⟨((Whole.made w rfT #[.slice AL m.L.length cL, .slice AG gl.length cG, .slice AF m.fx.length cF, .slice AP pl.length cP, .slice AA al.length cA, .int .i64 m.dep, .int .i64 m.most, .int .i64 m.err] _ rfl).alloc _).alloc _, (Whole.made (w.alloc (.cells #[.slice AL m.L.length cL, .slice AG gl.length cG, .slice AF m.fx.length cF, .slice AP pl.length cP, .slice AA al.length cA, .int .i64 m.dep, .int .i64 m.most, .int .i64 m.err] rfT)) opT #[.int .i64 13, .int .i64 oi.op, .int .i64 oi.a, .int .i64 oi.b, .int .i64 oi.c, .int .i64 oi.n, .int .i64 on, .int .i64 oa, .int .i64 ob, .int .i64 oc] _ (by simp)).alloc _, Whole.made ((w.alloc (.cells #[.slice AL m.L.length cL, .slice AG gl.length cG, .slice AF m.fx.length cF, .slice AP pl.length cP, .slice AA al.length cA, .int .i64 m.dep, .int .i64 m.most, .int .i64 m.err] rfT)).alloc (.cells #[.int .i64 13, .int .i64 oi.op, .int .i64 oi.a, .int .i64 oi.b, .int .i64 oi.c, .int .i64 oi.n, .int .i64 on, .int .i64 oa, .int .i64 ob, .int .i64 oc] opT)) rfT #[.slice none 0 0, .slice none 0 0, .slice none 0 0, .slice none 0 0, .slice none 0 0, .int .i64 0, .int .i64 0, .int .i64 0] _ (by simp)⟩)
  have HR := Lib.hid ((hR.boxed 3).below b3)
  have HC := Lib.hid (hC.below b3)
  have BV := Lib.hid b3
  have HN := Lib.hid hN
  have TW := Lib.hid (show ∀ b, T b → b < w.heap.size from by
    obtain ⟨_, _, _, _, _, _, _, _, h0⟩ := hC
    exact fun b hb => (h0.frm b hb).2)
  have BG := Lib.hid (show B ≤ g ∧ g < w.heap.size from by
    obtain ⟨_, _, _, _, _, _, _, _, h0⟩ := hC
    exact h0.frm g h0.tg)
  have S8 : (Tryd.prog.info? rfT).map (·.size) = some 8 := by kernel_rfl
  clear hC hR b1 b2 b3
  obtain ⟨o0, o1, o2, o3, o4, o5, o6, o7, o8, o9⟩ := cells10 LX.out.x1
  have PC := Lib.hid (set_any oa B g T N m.L.length m (((w.alloc (.cells #[.slice AL m.L.length cL, .slice AG gl.length cG, .slice AF m.fx.length cF, .slice AP pl.length cP, .slice AA al.length cA, .int .i64 m.dep, .int .i64 m.most, .int .i64 m.err] rfT)).alloc (.cells #[.int .i64 13, .int .i64 oi.op, .int .i64 oi.a, .int .i64 oi.b, .int .i64 oi.c, .int .i64 oi.n, .int .i64 on, .int .i64 oa, .int .i64 ob, .int .i64 oc] opT)).alloc (.cells #[.slice none 0 0, .slice none 0 0, .slice none 0 0, .slice none 0 0, .slice none 0 0, .int .i64 0, .int .i64 0, .int .i64 0] rfT)) HC.out (by have := HN.out; omega))
  have dge : decide ((0 : Int) ≤ oa) = false := decide_eq_false (by omega)
  clear hi hon hoc
  go_enter Tryd.func22, Tryd.ntmps22
  go_wp2_with fail
  generalize (((w.alloc (.cells #[.slice AL m.L.length cL, .slice AG gl.length cG, .slice AF m.fx.length cF, .slice AP pl.length cP, .slice AA al.length cA, .int .i64 m.dep, .int .i64 m.most, .int .i64 m.err] rfT)).alloc (.cells #[.int .i64 13, .int .i64 oi.op, .int .i64 oi.a, .int .i64 oi.b, .int .i64 oi.c, .int .i64 oi.n, .int .i64 on, .int .i64 oa, .int .i64 ob, .int .i64 oc] opT)).alloc (.cells #[.slice none 0 0, .slice none 0 0, .slice none 0 0, .slice none 0 0, .slice none 0 0, .int .i64 0, .int .i64 0, .int .i64 0] rfT)) = V at *
  refine PC.out.mono ?_
  rintro e w1 ⟨rfl, T1, hc, hk, ht⟩
  have KP := Lib.hid ((show KeptS T w V from KeptS.ofBelow BV.out).trans hk (fun b hb => .inl hb))
  have O1 := Lib.hid (show ∀ b, T1 b → T b ∨ w.heap.size ≤ b from fun b hb => by
    rcases ht b hb with h | h
    · exact .inl h
    · exact .inr (Nat.le_trans BV.out.size h))
  have NB := Lib.hid (show ∀ b, (w.heap.size ≤ b ∧ b < w.heap.size + 3) → ¬ T1 b from fun b hb h => by
    have h3 := LX.out.x2.lt
    rcases ht b h with h | h
    · have := TW.out b h
      omega
    · omega)
  have LX := Lib.hid (LX.out.later hk (fun b hb h => by have := TW.out b hb; omega))
  have C1 := Lib.hid hc
  have HR := Lib.hid (HR.out.kept (T' := (fun b => T1 b ∨ (w.heap.size ≤ b ∧ b < w.heap.size + 3))) (hk.mono (fun b hb => .inl hb)) (fun b hb => by
    rcases hb with hb | hb
    · rcases ht b hb with h | h
      · exact .inl (.inl h)
      · exact .inr h
    · exact .inl (.inr hb)))
  have HT := Lib.hid (show ∀ b, (fun b => T1 b ∨ (w.heap.size ≤ b ∧ b < w.heap.size + 3)) b → b < w1.heap.size from fun b hb => by
    have h3 := LX.out.x2.lt
    rcases hb with hb | hb
    · obtain ⟨_, _, _, _, _, _, _, _, h0⟩ := hc
      exact (h0.frm b hb).2
    · omega)
  clear hc hk ht PC o0 o1 o2 o3 o4 o5 o6 o7 o8 o9 HC
  obtain ⟨o0, o1, o2, o3, o4, o5, o6, o7, o8, o9⟩ := cells10 LX.out.x1
  obtain ⟨a0, a1, a2, a3, a4, a5, a6, a7⟩ := cells8 LX.out.x0
  simp only []
  go_at_K
  have H1 := Lib.hid (show (#[.slice AL m.L.length cL, .slice AG gl.length cG, .slice AF m.fx.length cF, .slice AP pl.length cP, .slice AA al.length cA, .int .i64 m.dep, .int .i64 m.most, .int .i64 m.err] : Array Value).all (·.oneCell') = true from by simp [Value.oneCell'])
  have RE := HR
  repeat (first | (go_big_may; first | (refine wpList_store_row rfl rfT (.tmp 6) (.tmp 152) rfl (w.heap.size + 1 + 1) #[.slice AL m.L.length cL, .slice AG gl.length cG, .slice AF m.fx.length cF, .slice AP pl.length cP, .slice AA al.length cA, .int .i64 m.dep, .int .i64 m.most, .int .i64 m.err] rfl rfl rfT #[.slice none 0 0, .slice none 0 0, .slice none 0 0, .slice none 0 0, .slice none 0 0, .int .i64 0, .int .i64 0, .int .i64 0] LX.out.x2 S8 rfl H1.out ?_; generalize hZZ : (w1).setRow (w.heap.size + 1 + 1) #[.slice AL m.L.length cL, .slice AG gl.length cG, .slice AF m.fx.length cF, .slice AP pl.length cP, .slice AA al.length cA, .int .i64 m.dep, .int .i64 m.most, .int .i64 m.err] = ZZ; have HZZ := Lib.hid hZZ; clear hZZ)) | go_values | go_skip | go_guarded | go_step | go_upon)
  have KZ := LX.out.kept2 #[.slice AL m.L.length cL, .slice AG gl.length cG, .slice AF m.fx.length cF, .slice AP pl.length cP, .slice AA al.length cA, .int .i64 m.dep, .int .i64 m.most, .int .i64 m.err]
  have LZ := LX.out.row2 #[.slice AL m.L.length cL, .slice AG gl.length cG, .slice AF m.fx.length cF, .slice AP pl.length cP, .slice AA al.length cA, .int .i64 m.dep, .int .i64 m.most, .int .i64 m.err]
  rw [HZZ.out] at KZ LZ
  have CZ := Lib.hid (C1.out.later KZ (fun b hb => NB.out b hb) (fun b hb => by have := BG.out; omega))
  have RZ := Lib.hid (RE.out.later KZ (fun b hb => .inr hb))
  have KF := Lib.hid (KP.out.trans KZ (fun b hb => .inr hb.1))
  obtain ⟨z0, z1, z2, z3, z4, z5, z6, z7⟩ := cells8 LZ.x2
  clear KZ LZ
  refine bodyPost_ret (v := .agg #[.slice AL m.L.length cL, .slice AG gl.length cG, .slice AF m.fx.length cF, .slice AP pl.length cP, .slice AA al.length cA, .int .i64 m.dep, .int .i64 m.most, .int .i64 m.err]) ?_ rfl ⟨T1, AL, cL, AG, cG, AF, cF, AP, cP, AA, cA, gl, pl, al, rfl, CZ.out.more (show N ≤ N + 2 by omega) (Nat.le_refl _), (RZ.out.less (fun b hb => .inl hb)).more (show N ≤ N + 2 by omega), KF.out, O1.out⟩
  simp [results, Tryd.results22, go_sem, z0, z1, z2, z3, z4, z5, z6, z7]

set_option maxHeartbeats 16000000 in
set_option maxRecDepth 100000 in
theorem ot_set_hi (oi : Ins) (on oa ob oc : Int) (hi : I64I oi) (hon : I64 on) (hoc : I64 oc) (ha1 : -1000 ≤ oa) (ha2 : oa ≤ 1000) (hb1 : -1000000 ≤ ob) (hb2 : ob ≤ 1000000) (B g : Nat) (T : Nat → Prop) (N : Nat) (m : Em) (AL : Option Addr) (cL : Nat) (AG : Option Addr) (cG : Nat) (AF : Option Addr) (cF : Nat) (AP : Option Addr) (cP : Nat) (AA : Option Addr) (cA : Nat) (gl pl al : List Int) (w : World) (hC : CdAt w B g T N m) (hR : RfR w T N m AL cL AG cG AF cF AP cP AA cA gl pl al) (hN : N + 2 ≤ 100000) (hx : 0 ≤ oa) (hy : (pl.length : Int) ≤ oa) :
    Calls Tryd.prog 22 #[.pointer (some ⟨g, 0, none⟩), .agg #[.slice AL m.L.length cL, .slice AG gl.length cG, .slice AF m.fx.length cF, .slice AP pl.length cP, .slice AA al.length cA, .int .i64 m.dep, .int .i64 m.most, .int .i64 m.err], .agg #[.int .i64 13, .int .i64 oi.op, .int .i64 oi.a, .int .i64 oi.b, .int .i64 oi.c, .int .i64 oi.n, .int .i64 on, .int .i64 oa, .int .i64 ob, .int .i64 oc]] w (DoP B g T (N + 2) w m) := by
  have b1 := (Below.refl w.heap.size w).alloc (Nat.le_refl _) (.cells #[.slice AL m.L.length cL, .slice AG gl.length cG, .slice AF m.fx.length cF, .slice AP pl.length cP, .slice AA al.length cA, .int .i64 m.dep, .int .i64 m.most, .int .i64 m.err] rfT)
  have b2 := b1.alloc b1.size (.cells #[.int .i64 13, .int .i64 oi.op, .int .i64 oi.a, .int .i64 oi.b, .int .i64 oi.c, .int .i64 oi.n, .int .i64 on, .int .i64 oa, .int .i64 ob, .int .i64 oc] opT)
  have b3 := b2.alloc b2.size (.cells #[.slice none 0 0, .slice none 0 0, .slice none 0 0, .slice none 0 0, .slice none 0 0, .int .i64 0, .int .i64 0, .int .i64 0] rfT)
  have LX := Lib.hid (show Lx3 w (((w.alloc (.cells #[.slice AL m.L.length cL, .slice AG gl.length cG, .slice AF m.fx.length cF, .slice AP pl.length cP, .slice AA al.length cA, .int .i64 m.dep, .int .i64 m.most, .int .i64 m.err] rfT)).alloc (.cells #[.int .i64 13, .int .i64 oi.op, .int .i64 oi.a, .int .i64 oi.b, .int .i64 oi.c, .int .i64 oi.n, .int .i64 on, .int .i64 oa, .int .i64 ob, .int .i64 oc] opT)).alloc (.cells #[.slice none 0 0, .slice none 0 0, .slice none 0 0, .slice none 0 0, .slice none 0 0, .int .i64 0, .int .i64 0, .int .i64 0] rfT)) rfT opT rfT #[.slice AL m.L.length cL, .slice AG gl.length cG, .slice AF m.fx.length cF, .slice AP pl.length cP, .slice AA al.length cA, .int .i64 m.dep, .int .i64 m.most, .int .i64 m.err] #[.int .i64 13, .int .i64 oi.op, .int .i64 oi.a, .int .i64 oi.b, .int .i64 oi.c, .int .i64 oi.n, .int .i64 on, .int .i64 oa, .int .i64 ob, .int .i64 oc] #[.slice none 0 0, .slice none 0 0, .slice none 0 0, .slice none 0 0, .slice none 0 0, .int .i64 0, .int .i64 0, .int .i64 0] from ⟨((Whole.made w rfT #[.slice AL m.L.length cL, .slice AG gl.length cG, .slice AF m.fx.length cF, .slice AP pl.length cP, .slice AA al.length cA, .int .i64 m.dep, .int .i64 m.most, .int .i64 m.err] _ rfl).alloc _).alloc _, (Whole.made (w.alloc (.cells #[.slice AL m.L.length cL, .slice AG gl.length cG, .slice AF m.fx.length cF, .slice AP pl.length cP, .slice AA al.length cA, .int .i64 m.dep, .int .i64 m.most, .int .i64 m.err] rfT)) opT #[.int .i64 13, .int .i64 oi.op, .int .i64 oi.a, .int .i64 oi.b, .int .i64 oi.c, .int .i64 oi.n, .int .i64 on, .int .i64 oa, .int .i64 ob, .int .i64 oc] _ (by simp)).alloc _, Whole.made ((w.alloc (.cells #[.slice AL m.L.length cL, .slice AG gl.length cG, .slice AF m.fx.length cF, .slice AP pl.length cP, .slice AA al.length cA, .int .i64 m.dep, .int .i64 m.most, .int .i64 m.err] rfT)).alloc (.cells #[.int .i64 13, .int .i64 oi.op, .int .i64 oi.a, .int .i64 oi.b, .int .i64 oi.c, .int .i64 oi.n, .int .i64 on, .int .i64 oa, .int .i64 ob, .int .i64 oc] opT)) rfT #[.slice none 0 0, .slice none 0 0, .slice none 0 0, .slice none 0 0, .slice none 0 0, .int .i64 0, .int .i64 0, .int .i64 0] _ (by simp)⟩)
  have HR := Lib.hid ((hR.boxed 3).below b3)
  have HC := Lib.hid (hC.below b3)
  have BV := Lib.hid b3
  have HN := Lib.hid hN
  have TW := Lib.hid (show ∀ b, T b → b < w.heap.size from by
    obtain ⟨_, _, _, _, _, _, _, _, h0⟩ := hC
    exact fun b hb => (h0.frm b hb).2)
  have BG := Lib.hid (show B ≤ g ∧ g < w.heap.size from by
    obtain ⟨_, _, _, _, _, _, _, _, h0⟩ := hC
    exact h0.frm g h0.tg)
  have S8 : (Tryd.prog.info? rfT).map (·.size) = some 8 := by kernel_rfl
  clear hC hR b1 b2 b3
  obtain ⟨o0, o1, o2, o3, o4, o5, o6, o7, o8, o9⟩ := cells10 LX.out.x1
  have PC := Lib.hid (set_any oa B g T N m.L.length m (((w.alloc (.cells #[.slice AL m.L.length cL, .slice AG gl.length cG, .slice AF m.fx.length cF, .slice AP pl.length cP, .slice AA al.length cA, .int .i64 m.dep, .int .i64 m.most, .int .i64 m.err] rfT)).alloc (.cells #[.int .i64 13, .int .i64 oi.op, .int .i64 oi.a, .int .i64 oi.b, .int .i64 oi.c, .int .i64 oi.n, .int .i64 on, .int .i64 oa, .int .i64 ob, .int .i64 oc] opT)).alloc (.cells #[.slice none 0 0, .slice none 0 0, .slice none 0 0, .slice none 0 0, .slice none 0 0, .int .i64 0, .int .i64 0, .int .i64 0] rfT)) HC.out (by have := HN.out; omega))
  have dge : decide ((0 : Int) ≤ oa) = true := decide_eq_true (by omega)
  have dlt : decide (oa < (pl.length : Int)) = false := decide_eq_false (by omega)
  clear hi hon hoc
  go_enter Tryd.func22, Tryd.ntmps22
  go_wp2_with fail
  generalize (((w.alloc (.cells #[.slice AL m.L.length cL, .slice AG gl.length cG, .slice AF m.fx.length cF, .slice AP pl.length cP, .slice AA al.length cA, .int .i64 m.dep, .int .i64 m.most, .int .i64 m.err] rfT)).alloc (.cells #[.int .i64 13, .int .i64 oi.op, .int .i64 oi.a, .int .i64 oi.b, .int .i64 oi.c, .int .i64 oi.n, .int .i64 on, .int .i64 oa, .int .i64 ob, .int .i64 oc] opT)).alloc (.cells #[.slice none 0 0, .slice none 0 0, .slice none 0 0, .slice none 0 0, .slice none 0 0, .int .i64 0, .int .i64 0, .int .i64 0] rfT)) = V at *
  refine PC.out.mono ?_
  rintro e w1 ⟨rfl, T1, hc, hk, ht⟩
  have KP := Lib.hid ((show KeptS T w V from KeptS.ofBelow BV.out).trans hk (fun b hb => .inl hb))
  have O1 := Lib.hid (show ∀ b, T1 b → T b ∨ w.heap.size ≤ b from fun b hb => by
    rcases ht b hb with h | h
    · exact .inl h
    · exact .inr (Nat.le_trans BV.out.size h))
  have NB := Lib.hid (show ∀ b, (w.heap.size ≤ b ∧ b < w.heap.size + 3) → ¬ T1 b from fun b hb h => by
    have h3 := LX.out.x2.lt
    rcases ht b h with h | h
    · have := TW.out b h
      omega
    · omega)
  have LX := Lib.hid (LX.out.later hk (fun b hb h => by have := TW.out b hb; omega))
  have C1 := Lib.hid hc
  have HR := Lib.hid (HR.out.kept (T' := (fun b => T1 b ∨ (w.heap.size ≤ b ∧ b < w.heap.size + 3))) (hk.mono (fun b hb => .inl hb)) (fun b hb => by
    rcases hb with hb | hb
    · rcases ht b hb with h | h
      · exact .inl (.inl h)
      · exact .inr h
    · exact .inl (.inr hb)))
  have HT := Lib.hid (show ∀ b, (fun b => T1 b ∨ (w.heap.size ≤ b ∧ b < w.heap.size + 3)) b → b < w1.heap.size from fun b hb => by
    have h3 := LX.out.x2.lt
    rcases hb with hb | hb
    · obtain ⟨_, _, _, _, _, _, _, _, h0⟩ := hc
      exact (h0.frm b hb).2
    · omega)
  clear hc hk ht PC o0 o1 o2 o3 o4 o5 o6 o7 o8 o9 HC
  obtain ⟨o0, o1, o2, o3, o4, o5, o6, o7, o8, o9⟩ := cells10 LX.out.x1
  obtain ⟨a0, a1, a2, a3, a4, a5, a6, a7⟩ := cells8 LX.out.x0
  simp only []
  go_at_K
  have H1 := Lib.hid (show (#[.slice AL m.L.length cL, .slice AG gl.length cG, .slice AF m.fx.length cF, .slice AP pl.length cP, .slice AA al.length cA, .int .i64 m.dep, .int .i64 m.most, .int .i64 m.err] : Array Value).all (·.oneCell') = true from by simp [Value.oneCell'])
  have RE := HR
  repeat (first | (go_big_may; first | (refine wpList_store_row rfl rfT (.tmp 6) (.tmp 152) rfl (w.heap.size + 1 + 1) #[.slice AL m.L.length cL, .slice AG gl.length cG, .slice AF m.fx.length cF, .slice AP pl.length cP, .slice AA al.length cA, .int .i64 m.dep, .int .i64 m.most, .int .i64 m.err] rfl rfl rfT #[.slice none 0 0, .slice none 0 0, .slice none 0 0, .slice none 0 0, .slice none 0 0, .int .i64 0, .int .i64 0, .int .i64 0] LX.out.x2 S8 rfl H1.out ?_; generalize hZZ : (w1).setRow (w.heap.size + 1 + 1) #[.slice AL m.L.length cL, .slice AG gl.length cG, .slice AF m.fx.length cF, .slice AP pl.length cP, .slice AA al.length cA, .int .i64 m.dep, .int .i64 m.most, .int .i64 m.err] = ZZ; have HZZ := Lib.hid hZZ; clear hZZ)) | go_values | go_skip | go_guarded | go_step | go_upon)
  have KZ := LX.out.kept2 #[.slice AL m.L.length cL, .slice AG gl.length cG, .slice AF m.fx.length cF, .slice AP pl.length cP, .slice AA al.length cA, .int .i64 m.dep, .int .i64 m.most, .int .i64 m.err]
  have LZ := LX.out.row2 #[.slice AL m.L.length cL, .slice AG gl.length cG, .slice AF m.fx.length cF, .slice AP pl.length cP, .slice AA al.length cA, .int .i64 m.dep, .int .i64 m.most, .int .i64 m.err]
  rw [HZZ.out] at KZ LZ
  have CZ := Lib.hid (C1.out.later KZ (fun b hb => NB.out b hb) (fun b hb => by have := BG.out; omega))
  have RZ := Lib.hid (RE.out.later KZ (fun b hb => .inr hb))
  have KF := Lib.hid (KP.out.trans KZ (fun b hb => .inr hb.1))
  obtain ⟨z0, z1, z2, z3, z4, z5, z6, z7⟩ := cells8 LZ.x2
  clear KZ LZ
  refine bodyPost_ret (v := .agg #[.slice AL m.L.length cL, .slice AG gl.length cG, .slice AF m.fx.length cF, .slice AP pl.length cP, .slice AA al.length cA, .int .i64 m.dep, .int .i64 m.most, .int .i64 m.err]) ?_ rfl ⟨T1, AL, cL, AG, cG, AF, cF, AP, cP, AA, cA, gl, pl, al, rfl, CZ.out.more (show N ≤ N + 2 by omega) (Nat.le_refl _), (RZ.out.less (fun b hb => .inl hb)).more (show N ≤ N + 2 by omega), KF.out, O1.out⟩
  simp [results, Tryd.results22, go_sem, z0, z1, z2, z3, z4, z5, z6, z7]

set_option maxHeartbeats 16000000 in
set_option maxRecDepth 100000 in
theorem ot_guard_lo (oi : Ins) (on oa ob oc : Int) (hi : I64I oi) (hon : I64 on) (hoc : I64 oc) (ha1 : -1000 ≤ oa) (ha2 : oa ≤ 1000) (hb1 : -1000000 ≤ ob) (hb2 : ob ≤ 1000000) (B g : Nat) (T : Nat → Prop) (N : Nat) (m : Em) (AL : Option Addr) (cL : Nat) (AG : Option Addr) (cG : Nat) (AF : Option Addr) (cF : Nat) (AP : Option Addr) (cP : Nat) (AA : Option Addr) (cA : Nat) (gl pl al : List Int) (w : World) (hC : CdAt w B g T N m) (hR : RfR w T N m AL cL AG cG AF cF AP cP AA cA gl pl al) (hN : N + 2 ≤ 100000) (hx : oa < 0) :
    Calls Tryd.prog 22 #[.pointer (some ⟨g, 0, none⟩), .agg #[.slice AL m.L.length cL, .slice AG gl.length cG, .slice AF m.fx.length cF, .slice AP pl.length cP, .slice AA al.length cA, .int .i64 m.dep, .int .i64 m.most, .int .i64 m.err], .agg #[.int .i64 11, .int .i64 oi.op, .int .i64 oi.a, .int .i64 oi.b, .int .i64 oi.c, .int .i64 oi.n, .int .i64 on, .int .i64 oa, .int .i64 ob, .int .i64 oc]] w (DoP B g T (N + 2) w m) := by
  have b1 := (Below.refl w.heap.size w).alloc (Nat.le_refl _) (.cells #[.slice AL m.L.length cL, .slice AG gl.length cG, .slice AF m.fx.length cF, .slice AP pl.length cP, .slice AA al.length cA, .int .i64 m.dep, .int .i64 m.most, .int .i64 m.err] rfT)
  have b2 := b1.alloc b1.size (.cells #[.int .i64 11, .int .i64 oi.op, .int .i64 oi.a, .int .i64 oi.b, .int .i64 oi.c, .int .i64 oi.n, .int .i64 on, .int .i64 oa, .int .i64 ob, .int .i64 oc] opT)
  have b3 := b2.alloc b2.size (.cells #[.slice none 0 0, .slice none 0 0, .slice none 0 0, .slice none 0 0, .slice none 0 0, .int .i64 0, .int .i64 0, .int .i64 0] rfT)
  have LX := Lib.hid (show Lx3 w (((w.alloc (.cells #[.slice AL m.L.length cL, .slice AG gl.length cG, .slice AF m.fx.length cF, .slice AP pl.length cP, .slice AA al.length cA, .int .i64 m.dep, .int .i64 m.most, .int .i64 m.err] rfT)).alloc (.cells #[.int .i64 11, .int .i64 oi.op, .int .i64 oi.a, .int .i64 oi.b, .int .i64 oi.c, .int .i64 oi.n, .int .i64 on, .int .i64 oa, .int .i64 ob, .int .i64 oc] opT)).alloc (.cells #[.slice none 0 0, .slice none 0 0, .slice none 0 0, .slice none 0 0, .slice none 0 0, .int .i64 0, .int .i64 0, .int .i64 0] rfT)) rfT opT rfT #[.slice AL m.L.length cL, .slice AG gl.length cG, .slice AF m.fx.length cF, .slice AP pl.length cP, .slice AA al.length cA, .int .i64 m.dep, .int .i64 m.most, .int .i64 m.err] #[.int .i64 11, .int .i64 oi.op, .int .i64 oi.a, .int .i64 oi.b, .int .i64 oi.c, .int .i64 oi.n, .int .i64 on, .int .i64 oa, .int .i64 ob, .int .i64 oc] #[.slice none 0 0, .slice none 0 0, .slice none 0 0, .slice none 0 0, .slice none 0 0, .int .i64 0, .int .i64 0, .int .i64 0] from ⟨((Whole.made w rfT #[.slice AL m.L.length cL, .slice AG gl.length cG, .slice AF m.fx.length cF, .slice AP pl.length cP, .slice AA al.length cA, .int .i64 m.dep, .int .i64 m.most, .int .i64 m.err] _ rfl).alloc _).alloc _, (Whole.made (w.alloc (.cells #[.slice AL m.L.length cL, .slice AG gl.length cG, .slice AF m.fx.length cF, .slice AP pl.length cP, .slice AA al.length cA, .int .i64 m.dep, .int .i64 m.most, .int .i64 m.err] rfT)) opT #[.int .i64 11, .int .i64 oi.op, .int .i64 oi.a, .int .i64 oi.b, .int .i64 oi.c, .int .i64 oi.n, .int .i64 on, .int .i64 oa, .int .i64 ob, .int .i64 oc] _ (by simp)).alloc _, Whole.made ((w.alloc (.cells #[.slice AL m.L.length cL, .slice AG gl.length cG, .slice AF m.fx.length cF, .slice AP pl.length cP, .slice AA al.length cA, .int .i64 m.dep, .int .i64 m.most, .int .i64 m.err] rfT)).alloc (.cells #[.int .i64 11, .int .i64 oi.op, .int .i64 oi.a, .int .i64 oi.b, .int .i64 oi.c, .int .i64 oi.n, .int .i64 on, .int .i64 oa, .int .i64 ob, .int .i64 oc] opT)) rfT #[.slice none 0 0, .slice none 0 0, .slice none 0 0, .slice none 0 0, .slice none 0 0, .int .i64 0, .int .i64 0, .int .i64 0] _ (by simp)⟩)
  have HR := Lib.hid ((hR.boxed 3).below b3)
  have HC := Lib.hid (hC.below b3)
  have BV := Lib.hid b3
  have HN := Lib.hid hN
  have TW := Lib.hid (show ∀ b, T b → b < w.heap.size from by
    obtain ⟨_, _, _, _, _, _, _, _, h0⟩ := hC
    exact fun b hb => (h0.frm b hb).2)
  have BG := Lib.hid (show B ≤ g ∧ g < w.heap.size from by
    obtain ⟨_, _, _, _, _, _, _, _, h0⟩ := hC
    exact h0.frm g h0.tg)
  have S8 : (Tryd.prog.info? rfT).map (·.size) = some 8 := by kernel_rfl
  clear hC hR b1 b2 b3
  obtain ⟨o0, o1, o2, o3, o4, o5, o6, o7, o8, o9⟩ := cells10 LX.out.x1
  have dge : decide ((0 : Int) ≤ oa) = false := decide_eq_false (by omega)
  obtain ⟨a0, a1, a2, a3, a4, a5, a6, a7⟩ := cells8 LX.out.x0
  have C1 := HC
  have RE := HR
  have NB := Lib.hid (show ∀ b, (w.heap.size ≤ b ∧ b < w.heap.size + 3) → ¬ T b from fun b hb h => by have := TW.out b h; omega)
  have KP := Lib.hid (show KeptS T w (((w.alloc (.cells #[.slice AL m.L.length cL, .slice AG gl.length cG, .slice AF m.fx.length cF, .slice AP pl.length cP, .slice AA al.length cA, .int .i64 m.dep, .int .i64 m.most, .int .i64 m.err] rfT)).alloc (.cells #[.int .i64 11, .int .i64 oi.op, .int .i64 oi.a, .int .i64 oi.b, .int .i64 oi.c, .int .i64 oi.n, .int .i64 on, .int .i64 oa, .int .i64 ob, .int .i64 oc] opT)).alloc (.cells #[.slice none 0 0, .slice none 0 0, .slice none 0 0, .slice none 0 0, .slice none 0 0, .int .i64 0, .int .i64 0, .int .i64 0] rfT)) from KeptS.ofBelow BV.out)
  have O1 := Lib.hid (show ∀ b, T b → T b ∨ w.heap.size ≤ b from fun b h => .inl h)
  have H1 := Lib.hid (show (#[.slice AL m.L.length cL, .slice AG gl.length cG, .slice AF m.fx.length cF, .slice AP pl.length cP, .slice AA al.length cA, .int .i64 m.dep, .int .i64 m.most, .int .i64 m.err] : Array Value).all (·.oneCell') = true from by simp [Value.oneCell'])
  clear hi hon hoc
  go_enter Tryd.func22, Tryd.ntmps22
  repeat (first | (go_big_may; first | (refine wpList_store_row rfl rfT (.tmp 6) (.tmp 152) rfl (w.heap.size + 1 + 1) #[.slice AL m.L.length cL, .slice AG gl.length cG, .slice AF m.fx.length cF, .slice AP pl.length cP, .slice AA al.length cA, .int .i64 m.dep, .int .i64 m.most, .int .i64 m.err] rfl rfl rfT #[.slice none 0 0, .slice none 0 0, .slice none 0 0, .slice none 0 0, .slice none 0 0, .int .i64 0, .int .i64 0, .int .i64 0] LX.out.x2 S8 rfl H1.out ?_; generalize hZZ : ((((w.alloc (.cells #[.slice AL m.L.length cL, .slice AG gl.length cG, .slice AF m.fx.length cF, .slice AP pl.length cP, .slice AA al.length cA, .int .i64 m.dep, .int .i64 m.most, .int .i64 m.err] rfT)).alloc (.cells #[.int .i64 11, .int .i64 oi.op, .int .i64 oi.a, .int .i64 oi.b, .int .i64 oi.c, .int .i64 oi.n, .int .i64 on, .int .i64 oa, .int .i64 ob, .int .i64 oc] opT)).alloc (.cells #[.slice none 0 0, .slice none 0 0, .slice none 0 0, .slice none 0 0, .slice none 0 0, .int .i64 0, .int .i64 0, .int .i64 0] rfT))).setRow (w.heap.size + 1 + 1) #[.slice AL m.L.length cL, .slice AG gl.length cG, .slice AF m.fx.length cF, .slice AP pl.length cP, .slice AA al.length cA, .int .i64 m.dep, .int .i64 m.most, .int .i64 m.err] = ZZ; have HZZ := Lib.hid hZZ; clear hZZ)) | go_values | go_skip | go_guarded | go_step | go_upon)
  have KZ := LX.out.kept2 #[.slice AL m.L.length cL, .slice AG gl.length cG, .slice AF m.fx.length cF, .slice AP pl.length cP, .slice AA al.length cA, .int .i64 m.dep, .int .i64 m.most, .int .i64 m.err]
  have LZ := LX.out.row2 #[.slice AL m.L.length cL, .slice AG gl.length cG, .slice AF m.fx.length cF, .slice AP pl.length cP, .slice AA al.length cA, .int .i64 m.dep, .int .i64 m.most, .int .i64 m.err]
  rw [HZZ.out] at KZ LZ
  have CZ := Lib.hid (C1.out.later KZ (fun b hb => NB.out b hb) (fun b hb => by have := BG.out; omega))
  have RZ := Lib.hid (RE.out.later KZ (fun b hb => .inr hb))
  have KF := Lib.hid (KP.out.trans KZ (fun b hb => .inr hb.1))
  obtain ⟨z0, z1, z2, z3, z4, z5, z6, z7⟩ := cells8 LZ.x2
  clear KZ LZ
  refine bodyPost_ret (v := .agg #[.slice AL m.L.length cL, .slice AG gl.length cG, .slice AF m.fx.length cF, .slice AP pl.length cP, .slice AA al.length cA, .int .i64 m.dep, .int .i64 m.most, .int .i64 m.err]) ?_ rfl ⟨T, AL, cL, AG, cG, AF, cF, AP, cP, AA, cA, gl, pl, al, rfl, CZ.out.more (show N ≤ N + 2 by omega) (Nat.le_refl _), (RZ.out.less (fun b hb => .inl hb)).more (show N ≤ N + 2 by omega), KF.out, O1.out⟩
  simp [results, Tryd.results22, go_sem, z0, z1, z2, z3, z4, z5, z6, z7]

set_option maxHeartbeats 16000000 in
set_option maxRecDepth 100000 in
theorem ot_guard_hi (oi : Ins) (on oa ob oc : Int) (hi : I64I oi) (hon : I64 on) (hoc : I64 oc) (ha1 : -1000 ≤ oa) (ha2 : oa ≤ 1000) (hb1 : -1000000 ≤ ob) (hb2 : ob ≤ 1000000) (B g : Nat) (T : Nat → Prop) (N : Nat) (m : Em) (AL : Option Addr) (cL : Nat) (AG : Option Addr) (cG : Nat) (AF : Option Addr) (cF : Nat) (AP : Option Addr) (cP : Nat) (AA : Option Addr) (cA : Nat) (gl pl al : List Int) (w : World) (hC : CdAt w B g T N m) (hR : RfR w T N m AL cL AG cG AF cF AP cP AA cA gl pl al) (hN : N + 2 ≤ 100000) (hx : 0 ≤ oa) (hy : (pl.length : Int) ≤ oa) :
    Calls Tryd.prog 22 #[.pointer (some ⟨g, 0, none⟩), .agg #[.slice AL m.L.length cL, .slice AG gl.length cG, .slice AF m.fx.length cF, .slice AP pl.length cP, .slice AA al.length cA, .int .i64 m.dep, .int .i64 m.most, .int .i64 m.err], .agg #[.int .i64 11, .int .i64 oi.op, .int .i64 oi.a, .int .i64 oi.b, .int .i64 oi.c, .int .i64 oi.n, .int .i64 on, .int .i64 oa, .int .i64 ob, .int .i64 oc]] w (DoP B g T (N + 2) w m) := by
  have b1 := (Below.refl w.heap.size w).alloc (Nat.le_refl _) (.cells #[.slice AL m.L.length cL, .slice AG gl.length cG, .slice AF m.fx.length cF, .slice AP pl.length cP, .slice AA al.length cA, .int .i64 m.dep, .int .i64 m.most, .int .i64 m.err] rfT)
  have b2 := b1.alloc b1.size (.cells #[.int .i64 11, .int .i64 oi.op, .int .i64 oi.a, .int .i64 oi.b, .int .i64 oi.c, .int .i64 oi.n, .int .i64 on, .int .i64 oa, .int .i64 ob, .int .i64 oc] opT)
  have b3 := b2.alloc b2.size (.cells #[.slice none 0 0, .slice none 0 0, .slice none 0 0, .slice none 0 0, .slice none 0 0, .int .i64 0, .int .i64 0, .int .i64 0] rfT)
  have LX := Lib.hid (show Lx3 w (((w.alloc (.cells #[.slice AL m.L.length cL, .slice AG gl.length cG, .slice AF m.fx.length cF, .slice AP pl.length cP, .slice AA al.length cA, .int .i64 m.dep, .int .i64 m.most, .int .i64 m.err] rfT)).alloc (.cells #[.int .i64 11, .int .i64 oi.op, .int .i64 oi.a, .int .i64 oi.b, .int .i64 oi.c, .int .i64 oi.n, .int .i64 on, .int .i64 oa, .int .i64 ob, .int .i64 oc] opT)).alloc (.cells #[.slice none 0 0, .slice none 0 0, .slice none 0 0, .slice none 0 0, .slice none 0 0, .int .i64 0, .int .i64 0, .int .i64 0] rfT)) rfT opT rfT #[.slice AL m.L.length cL, .slice AG gl.length cG, .slice AF m.fx.length cF, .slice AP pl.length cP, .slice AA al.length cA, .int .i64 m.dep, .int .i64 m.most, .int .i64 m.err] #[.int .i64 11, .int .i64 oi.op, .int .i64 oi.a, .int .i64 oi.b, .int .i64 oi.c, .int .i64 oi.n, .int .i64 on, .int .i64 oa, .int .i64 ob, .int .i64 oc] #[.slice none 0 0, .slice none 0 0, .slice none 0 0, .slice none 0 0, .slice none 0 0, .int .i64 0, .int .i64 0, .int .i64 0] from ⟨((Whole.made w rfT #[.slice AL m.L.length cL, .slice AG gl.length cG, .slice AF m.fx.length cF, .slice AP pl.length cP, .slice AA al.length cA, .int .i64 m.dep, .int .i64 m.most, .int .i64 m.err] _ rfl).alloc _).alloc _, (Whole.made (w.alloc (.cells #[.slice AL m.L.length cL, .slice AG gl.length cG, .slice AF m.fx.length cF, .slice AP pl.length cP, .slice AA al.length cA, .int .i64 m.dep, .int .i64 m.most, .int .i64 m.err] rfT)) opT #[.int .i64 11, .int .i64 oi.op, .int .i64 oi.a, .int .i64 oi.b, .int .i64 oi.c, .int .i64 oi.n, .int .i64 on, .int .i64 oa, .int .i64 ob, .int .i64 oc] _ (by simp)).alloc _, Whole.made ((w.alloc (.cells #[.slice AL m.L.length cL, .slice AG gl.length cG, .slice AF m.fx.length cF, .slice AP pl.length cP, .slice AA al.length cA, .int .i64 m.dep, .int .i64 m.most, .int .i64 m.err] rfT)).alloc (.cells #[.int .i64 11, .int .i64 oi.op, .int .i64 oi.a, .int .i64 oi.b, .int .i64 oi.c, .int .i64 oi.n, .int .i64 on, .int .i64 oa, .int .i64 ob, .int .i64 oc] opT)) rfT #[.slice none 0 0, .slice none 0 0, .slice none 0 0, .slice none 0 0, .slice none 0 0, .int .i64 0, .int .i64 0, .int .i64 0] _ (by simp)⟩)
  have HR := Lib.hid ((hR.boxed 3).below b3)
  have HC := Lib.hid (hC.below b3)
  have BV := Lib.hid b3
  have HN := Lib.hid hN
  have TW := Lib.hid (show ∀ b, T b → b < w.heap.size from by
    obtain ⟨_, _, _, _, _, _, _, _, h0⟩ := hC
    exact fun b hb => (h0.frm b hb).2)
  have BG := Lib.hid (show B ≤ g ∧ g < w.heap.size from by
    obtain ⟨_, _, _, _, _, _, _, _, h0⟩ := hC
    exact h0.frm g h0.tg)
  have S8 : (Tryd.prog.info? rfT).map (·.size) = some 8 := by kernel_rfl
  clear hC hR b1 b2 b3
  obtain ⟨o0, o1, o2, o3, o4, o5, o6, o7, o8, o9⟩ := cells10 LX.out.x1
  have dge : decide ((0 : Int) ≤ oa) = true := decide_eq_true (by omega)
  have dlt : decide (oa < (pl.length : Int)) = false := decide_eq_false (by omega)
  obtain ⟨a0, a1, a2, a3, a4, a5, a6, a7⟩ := cells8 LX.out.x0
  have C1 := HC
  have RE := HR
  have NB := Lib.hid (show ∀ b, (w.heap.size ≤ b ∧ b < w.heap.size + 3) → ¬ T b from fun b hb h => by have := TW.out b h; omega)
  have KP := Lib.hid (show KeptS T w (((w.alloc (.cells #[.slice AL m.L.length cL, .slice AG gl.length cG, .slice AF m.fx.length cF, .slice AP pl.length cP, .slice AA al.length cA, .int .i64 m.dep, .int .i64 m.most, .int .i64 m.err] rfT)).alloc (.cells #[.int .i64 11, .int .i64 oi.op, .int .i64 oi.a, .int .i64 oi.b, .int .i64 oi.c, .int .i64 oi.n, .int .i64 on, .int .i64 oa, .int .i64 ob, .int .i64 oc] opT)).alloc (.cells #[.slice none 0 0, .slice none 0 0, .slice none 0 0, .slice none 0 0, .slice none 0 0, .int .i64 0, .int .i64 0, .int .i64 0] rfT)) from KeptS.ofBelow BV.out)
  have O1 := Lib.hid (show ∀ b, T b → T b ∨ w.heap.size ≤ b from fun b h => .inl h)
  have H1 := Lib.hid (show (#[.slice AL m.L.length cL, .slice AG gl.length cG, .slice AF m.fx.length cF, .slice AP pl.length cP, .slice AA al.length cA, .int .i64 m.dep, .int .i64 m.most, .int .i64 m.err] : Array Value).all (·.oneCell') = true from by simp [Value.oneCell'])
  clear hi hon hoc
  go_enter Tryd.func22, Tryd.ntmps22
  repeat (first | (go_big_may; first | (refine wpList_store_row rfl rfT (.tmp 6) (.tmp 152) rfl (w.heap.size + 1 + 1) #[.slice AL m.L.length cL, .slice AG gl.length cG, .slice AF m.fx.length cF, .slice AP pl.length cP, .slice AA al.length cA, .int .i64 m.dep, .int .i64 m.most, .int .i64 m.err] rfl rfl rfT #[.slice none 0 0, .slice none 0 0, .slice none 0 0, .slice none 0 0, .slice none 0 0, .int .i64 0, .int .i64 0, .int .i64 0] LX.out.x2 S8 rfl H1.out ?_; generalize hZZ : ((((w.alloc (.cells #[.slice AL m.L.length cL, .slice AG gl.length cG, .slice AF m.fx.length cF, .slice AP pl.length cP, .slice AA al.length cA, .int .i64 m.dep, .int .i64 m.most, .int .i64 m.err] rfT)).alloc (.cells #[.int .i64 11, .int .i64 oi.op, .int .i64 oi.a, .int .i64 oi.b, .int .i64 oi.c, .int .i64 oi.n, .int .i64 on, .int .i64 oa, .int .i64 ob, .int .i64 oc] opT)).alloc (.cells #[.slice none 0 0, .slice none 0 0, .slice none 0 0, .slice none 0 0, .slice none 0 0, .int .i64 0, .int .i64 0, .int .i64 0] rfT))).setRow (w.heap.size + 1 + 1) #[.slice AL m.L.length cL, .slice AG gl.length cG, .slice AF m.fx.length cF, .slice AP pl.length cP, .slice AA al.length cA, .int .i64 m.dep, .int .i64 m.most, .int .i64 m.err] = ZZ; have HZZ := Lib.hid hZZ; clear hZZ)) | go_values | go_skip | go_guarded | go_step | go_upon)
  have KZ := LX.out.kept2 #[.slice AL m.L.length cL, .slice AG gl.length cG, .slice AF m.fx.length cF, .slice AP pl.length cP, .slice AA al.length cA, .int .i64 m.dep, .int .i64 m.most, .int .i64 m.err]
  have LZ := LX.out.row2 #[.slice AL m.L.length cL, .slice AG gl.length cG, .slice AF m.fx.length cF, .slice AP pl.length cP, .slice AA al.length cA, .int .i64 m.dep, .int .i64 m.most, .int .i64 m.err]
  rw [HZZ.out] at KZ LZ
  have CZ := Lib.hid (C1.out.later KZ (fun b hb => NB.out b hb) (fun b hb => by have := BG.out; omega))
  have RZ := Lib.hid (RE.out.later KZ (fun b hb => .inr hb))
  have KF := Lib.hid (KP.out.trans KZ (fun b hb => .inr hb.1))
  obtain ⟨z0, z1, z2, z3, z4, z5, z6, z7⟩ := cells8 LZ.x2
  clear KZ LZ
  refine bodyPost_ret (v := .agg #[.slice AL m.L.length cL, .slice AG gl.length cG, .slice AF m.fx.length cF, .slice AP pl.length cP, .slice AA al.length cA, .int .i64 m.dep, .int .i64 m.most, .int .i64 m.err]) ?_ rfl ⟨T, AL, cL, AG, cG, AF, cF, AP, cP, AA, cA, gl, pl, al, rfl, CZ.out.more (show N ≤ N + 2 by omega) (Nat.le_refl _), (RZ.out.less (fun b hb => .inl hb)).more (show N ≤ N + 2 by omega), KF.out, O1.out⟩
  simp [results, Tryd.results22, go_sem, z0, z1, z2, z3, z4, z5, z6, z7]

set_option maxHeartbeats 16000000 in
set_option maxRecDepth 100000 in
theorem ot_guard_in (oi : Ins) (on oa ob oc : Int) (hi : I64I oi) (hon : I64 on) (hoc : I64 oc) (ha1 : -1000 ≤ oa) (ha2 : oa ≤ 1000) (hb1 : -1000000 ≤ ob) (hb2 : ob ≤ 1000000) (B g : Nat) (T : Nat → Prop) (N : Nat) (m : Em) (AL : Option Addr) (cL : Nat) (AG : Option Addr) (cG : Nat) (AF : Option Addr) (cF : Nat) (AP : Option Addr) (cP : Nat) (AA : Option Addr) (cA : Nat) (gl pl al : List Int) (w : World) (hC : CdAt w B g T N m) (hR : RfR w T N m AL cL AG cG AF cF AP cP AA cA gl pl al) (hN : N + 2 ≤ 100000) (hx : 0 ≤ oa) (hy : oa < (pl.length : Int)) :
    Calls Tryd.prog 22 #[.pointer (some ⟨g, 0, none⟩), .agg #[.slice AL m.L.length cL, .slice AG gl.length cG, .slice AF m.fx.length cF, .slice AP pl.length cP, .slice AA al.length cA, .int .i64 m.dep, .int .i64 m.most, .int .i64 m.err], .agg #[.int .i64 11, .int .i64 oi.op, .int .i64 oi.a, .int .i64 oi.b, .int .i64 oi.c, .int .i64 oi.n, .int .i64 on, .int .i64 oa, .int .i64 ob, .int .i64 oc]] w (DoP B g T (N + 2) w m) := by
  have b1 := (Below.refl w.heap.size w).alloc (Nat.le_refl _) (.cells #[.slice AL m.L.length cL, .slice AG gl.length cG, .slice AF m.fx.length cF, .slice AP pl.length cP, .slice AA al.length cA, .int .i64 m.dep, .int .i64 m.most, .int .i64 m.err] rfT)
  have b2 := b1.alloc b1.size (.cells #[.int .i64 11, .int .i64 oi.op, .int .i64 oi.a, .int .i64 oi.b, .int .i64 oi.c, .int .i64 oi.n, .int .i64 on, .int .i64 oa, .int .i64 ob, .int .i64 oc] opT)
  have b3 := b2.alloc b2.size (.cells #[.slice none 0 0, .slice none 0 0, .slice none 0 0, .slice none 0 0, .slice none 0 0, .int .i64 0, .int .i64 0, .int .i64 0] rfT)
  have LX := Lib.hid (show Lx3 w (((w.alloc (.cells #[.slice AL m.L.length cL, .slice AG gl.length cG, .slice AF m.fx.length cF, .slice AP pl.length cP, .slice AA al.length cA, .int .i64 m.dep, .int .i64 m.most, .int .i64 m.err] rfT)).alloc (.cells #[.int .i64 11, .int .i64 oi.op, .int .i64 oi.a, .int .i64 oi.b, .int .i64 oi.c, .int .i64 oi.n, .int .i64 on, .int .i64 oa, .int .i64 ob, .int .i64 oc] opT)).alloc (.cells #[.slice none 0 0, .slice none 0 0, .slice none 0 0, .slice none 0 0, .slice none 0 0, .int .i64 0, .int .i64 0, .int .i64 0] rfT)) rfT opT rfT #[.slice AL m.L.length cL, .slice AG gl.length cG, .slice AF m.fx.length cF, .slice AP pl.length cP, .slice AA al.length cA, .int .i64 m.dep, .int .i64 m.most, .int .i64 m.err] #[.int .i64 11, .int .i64 oi.op, .int .i64 oi.a, .int .i64 oi.b, .int .i64 oi.c, .int .i64 oi.n, .int .i64 on, .int .i64 oa, .int .i64 ob, .int .i64 oc] #[.slice none 0 0, .slice none 0 0, .slice none 0 0, .slice none 0 0, .slice none 0 0, .int .i64 0, .int .i64 0, .int .i64 0] from ⟨((Whole.made w rfT #[.slice AL m.L.length cL, .slice AG gl.length cG, .slice AF m.fx.length cF, .slice AP pl.length cP, .slice AA al.length cA, .int .i64 m.dep, .int .i64 m.most, .int .i64 m.err] _ rfl).alloc _).alloc _, (Whole.made (w.alloc (.cells #[.slice AL m.L.length cL, .slice AG gl.length cG, .slice AF m.fx.length cF, .slice AP pl.length cP, .slice AA al.length cA, .int .i64 m.dep, .int .i64 m.most, .int .i64 m.err] rfT)) opT #[.int .i64 11, .int .i64 oi.op, .int .i64 oi.a, .int .i64 oi.b, .int .i64 oi.c, .int .i64 oi.n, .int .i64 on, .int .i64 oa, .int .i64 ob, .int .i64 oc] _ (by simp)).alloc _, Whole.made ((w.alloc (.cells #[.slice AL m.L.length cL, .slice AG gl.length cG, .slice AF m.fx.length cF, .slice AP pl.length cP, .slice AA al.length cA, .int .i64 m.dep, .int .i64 m.most, .int .i64 m.err] rfT)).alloc (.cells #[.int .i64 11, .int .i64 oi.op, .int .i64 oi.a, .int .i64 oi.b, .int .i64 oi.c, .int .i64 oi.n, .int .i64 on, .int .i64 oa, .int .i64 ob, .int .i64 oc] opT)) rfT #[.slice none 0 0, .slice none 0 0, .slice none 0 0, .slice none 0 0, .slice none 0 0, .int .i64 0, .int .i64 0, .int .i64 0] _ (by simp)⟩)
  have HR := Lib.hid ((hR.boxed 3).below b3)
  have HC := Lib.hid (hC.below b3)
  have BV := Lib.hid b3
  have HN := Lib.hid hN
  have TW := Lib.hid (show ∀ b, T b → b < w.heap.size from by
    obtain ⟨_, _, _, _, _, _, _, _, h0⟩ := hC
    exact fun b hb => (h0.frm b hb).2)
  have BG := Lib.hid (show B ≤ g ∧ g < w.heap.size from by
    obtain ⟨_, _, _, _, _, _, _, _, h0⟩ := hC
    exact h0.frm g h0.tg)
  have S8 : (Tryd.prog.info? rfT).map (·.size) = some 8 := by kernel_rfl
  clear hC hR b1 b2 b3
  obtain ⟨o0, o1, o2, o3, o4, o5, o6, o7, o8, o9⟩ := cells10 LX.out.x1
  have PC := Lib.hid (eguard_any oa B g T N m.L.length m (((w.alloc (.cells #[.slice AL m.L.length cL, .slice AG gl.length cG, .slice AF m.fx.length cF, .slice AP pl.length cP, .slice AA al.length cA, .int .i64 m.dep, .int .i64 m.most, .int .i64 m.err] rfT)).alloc (.cells #[.int .i64 11, .int .i64 oi.op, .int .i64 oi.a, .int .i64 oi.b, .int .i64 oi.c, .int .i64 oi.n, .int .i64 on, .int .i64 oa, .int .i64 ob, .int .i64 oc] opT)).alloc (.cells #[.slice none 0 0, .slice none 0 0, .slice none 0 0, .slice none 0 0, .slice none 0 0, .int .i64 0, .int .i64 0, .int .i64 0] rfT)) HC.out (by have := HN.out; omega) (by have := HN.out; omega))
  have PB := Lib.hid (show al.length + 2 ≤ 100000 from by have := HR.out.la; omega)
  have dge : decide ((0 : Int) ≤ oa) = true := decide_eq_true hx
  have dlt : decide (oa < (pl.length : Int)) = true := decide_eq_true hy
  obtain ⟨a0, a1, a2, a3, a4, a5, a6, a7⟩ := cells8 LX.out.x0
  clear hi hon hoc
  go_enter Tryd.func22, Tryd.ntmps22
  go_wp2_with fail
  clear a0 a1 a2 a3 a4 a5 a6 a7
  generalize (((w.alloc (.cells #[.slice AL m.L.length cL, .slice AG gl.length cG, .slice AF m.fx.length cF, .slice AP pl.length cP, .slice AA al.length cA, .int .i64 m.dep, .int .i64 m.most, .int .i64 m.err] rfT)).alloc (.cells #[.int .i64 11, .int .i64 oi.op, .int .i64 oi.a, .int .i64 oi.b, .int .i64 oi.c, .int .i64 oi.n, .int .i64 on, .int .i64 oa, .int .i64 ob, .int .i64 oc] opT)).alloc (.cells #[.slice none 0 0, .slice none 0 0, .slice none 0 0, .slice none 0 0, .slice none 0 0, .int .i64 0, .int .i64 0, .int .i64 0] rfT)) = V at *
  refine PC.out.mono ?_
  rintro e w1 ⟨rfl, T1, hc, hk, ht⟩
  have KP := Lib.hid ((show KeptS T w V from KeptS.ofBelow BV.out).trans hk (fun b hb => .inl hb))
  have O1 := Lib.hid (show ∀ b, T1 b → T b ∨ w.heap.size ≤ b from fun b hb => by
    rcases ht b hb with h | h
    · exact .inl h
    · exact .inr (Nat.le_trans BV.out.size h))
  have NB := Lib.hid (show ∀ b, (w.heap.size ≤ b ∧ b < w.heap.size + 3) → ¬ T1 b from fun b hb h => by
    have h3 := LX.out.x2.lt
    rcases ht b h with h | h
    · have := TW.out b h
      omega
    · omega)
  have LX := Lib.hid (LX.out.later hk (fun b hb h => by have := TW.out b hb; omega))
  have C1 := Lib.hid hc
  have HR := Lib.hid (HR.out.kept (T' := (fun b => T1 b ∨ (w.heap.size ≤ b ∧ b < w.heap.size + 3))) (hk.mono (fun b hb => .inl hb)) (fun b hb => by
    rcases hb with hb | hb
    · rcases ht b hb with h | h
      · exact .inl (.inl h)
      · exact .inr h
    · exact .inl (.inr hb)))
  have HT := Lib.hid (show ∀ b, (fun b => T1 b ∨ (w.heap.size ≤ b ∧ b < w.heap.size + 3)) b → b < w1.heap.size from fun b hb => by
    have h3 := LX.out.x2.lt
    rcases hb with hb | hb
    · obtain ⟨_, _, _, _, _, _, _, _, h0⟩ := hc
      exact (h0.frm b hb).2
    · omega)
  clear hc hk ht PC o0 o1 o2 o3 o4 o5 o6 o7 o8 o9 HC
  obtain ⟨o0, o1, o2, o3, o4, o5, o6, o7, o8, o9⟩ := cells10 LX.out.x1
  obtain ⟨a0, a1, a2, a3, a4, a5, a6, a7⟩ := cells8 LX.out.x0
  simp only []
  go_at_K
  go_wp2_with fail
  clear a0 a1 a2 a3 a4 a5 a6 a7 o0 o1 o2 o3 o4 o5 o6 o7 o8 o9
  have LX := Lib.hid (LX.out.below (Below.refl _ _).drew)
  have HR := Lib.hid (HR.out.below (Below.refl _ _).drew)
  have C1 := Lib.hid (C1.out.below (Below.refl _ _).drew)
  have KP := Lib.hid (KP.out.trans (S' := fun _ => False) (KeptS.ofBelow (Below.refl _ _).drew) (fun _ h => h.elim))
  have HT := Lib.hid (show ∀ b, (fun b => T1 b ∨ (w.heap.size ≤ b ∧ b < w.heap.size + 3)) b → b < w1.drew.heap.size from HT.out)
  obtain ⟨y, hy⟩ : ∃ y, y = w1.drew := ⟨_, rfl⟩
  rw [← hy] at LX HR C1 KP HT
  have BY := Lib.hid (Below.refl y.heap.size y)
  have L0 : w1.drew.cell? ⟨w.heap.size, 4, none⟩ = some (.slice AA al.length cA) ∧ w1.drew.cell? ⟨w.heap.size + 1, 7, none⟩ = some (.int .i64 oa) := by rw [← hy]; exact ⟨(LX.out.below BY.out).x0.cell 4, (LX.out.below BY.out).x1.cell 7⟩
  obtain ⟨i0, hi0, hz0, hz1, hz2⟩ := info_parts itInfo
  refine wp_region_noPanic ?_
  refine region_T (S := fun y => y.cell? ⟨w.heap.size, 4, none⟩ = some (.slice AA al.length cA) ∧ y.cell? ⟨w.heap.size + 1, 7, none⟩ = some (.int .i64 oa)) 9 (by kernel_rfl) L0 (fun hHeld => ?_)
  rw [← hy] at hHeld ⊢
  clear L0 hy
  refine anyT_take (i := 1) (oi := _) (v := .pointer (some ⟨w.heap.size, 4, none⟩)) rfl (by kernel_rfl) (by kernel_rfl) (by kernel_rfl) (by kernel_rfl) (fun _ _ _ h => h) (Or.inl ⟨by rfl, fun w hSw => by (try dsimp only at hSw); go_simp⟩) (by assumption) ?_
  try simp only [Act.put, List.setIfInBounds_toArray, List.set_cons_zero, List.set_cons_succ]
  refine anyT_take (i := 2) (oi := _) (v := .slice AA al.length cA) rfl (by kernel_rfl) (by kernel_rfl) (by kernel_rfl) (by kernel_rfl) (fun _ _ _ h => h) (Or.inl ⟨by rfl, fun w hSw => by (try dsimp only at hSw); go_simp⟩) (by assumption) ?_
  try simp only [Act.put, List.setIfInBounds_toArray, List.set_cons_zero, List.set_cons_succ]
  refine anyT_take (i := 4) (oi := _) (v := .pointer (some ⟨w.heap.size + 1, 7, none⟩)) rfl (by kernel_rfl) (by kernel_rfl) (by kernel_rfl) (by kernel_rfl) (fun _ _ _ h => h) (Or.inl ⟨by rfl, fun w hSw => by (try dsimp only at hSw); go_simp⟩) (by assumption) ?_
  try simp only [Act.put, List.setIfInBounds_toArray, List.set_cons_zero, List.set_cons_succ]
  refine anyT_take (i := 5) (oi := _) (v := .int .i64 oa) rfl (by kernel_rfl) (by kernel_rfl) (by kernel_rfl) (by kernel_rfl) (fun _ _ _ h => h) (Or.inl ⟨by rfl, fun w hSw => by (try dsimp only at hSw); go_simp⟩) (by assumption) ?_
  try simp only [Act.put, List.setIfInBounds_toArray, List.set_cons_zero, List.set_cons_succ]
  have HRA := Lib.hid HR.out.fA
  refine anyT_ready (rs := [0, 6]) (by kernel_rfl) (by simp) (ReadyT.cons (o := _) rfl (fun K hK => ?_) (ReadyT.cons (o := _) rfl (fun K hK => ?_) ReadyT.nil))
  · go_simp
    have SE := Lib.hid (show y.heap.size = y.heap.size from rfl)
    have BY := Lib.hid (show Below y.heap.size y (y.alloc (.cells #[] itT)) from BY.out.alloc BY.out.size (.cells #[] itT))
    have OE := Lib.hid (show (y.alloc (.cells #[] itT)).ownsRow y.heap.size itT 1 (.slice (some ⟨y.heap.size, 0, none⟩) 0 0) 0 [] from row_built (e := itT) (sz := 1) y #[] 0 0 rfl (Nat.le_refl _) (Nat.zero_le _) y.heap.size (by rw [SE.out]; omega) _ (by rw [SE.out]) [] rfl)
    refine hK.out _ _ ⟨(LX.out.below BY.out).x0.cell 4, (LX.out.below BY.out).x1.cell 7⟩ (fun hHeld => ?_)
    clear hK K
    try simp only [Act.put, List.setIfInBounds_toArray, List.set_cons_zero, List.set_cons_succ]
    refine anyT_ready (rs := [3, 6]) (by kernel_rfl) (by simp) (ReadyT.cons (o := _) rfl (fun K hK => ?_) (ReadyT.cons (o := _) rfl (fun K hK => ?_) ReadyT.nil))
    · refine step_app_any rfl (.tmp 86) (.tmp 88) 26 rfl y.heap.size itT i0 _ 1 8 Tryd.underlying26 hi0 hz0 hz1 hz2 rfl (by decide) (.slice (some ⟨y.heap.size, 0, none⟩) 0 0) 0 [] rfl OE.out (.slice AA al.length cA) (al.length) (al.flatMap itC) rfl (HRA.out.below BY.out).1 (one_flat it_one _) (by have := PB.out; unfold maxLen; omega) (by have := PB.out; omega) BY.out.size ?_
      intro v6 w6 ho6 hg6 hat6
      rw [Nat.zero_add, List.nil_append] at ho6
      have hform := row_form ho6
      obtain ⟨A6, c6, rfl⟩ := hform
      have BY := Lib.hid (show Below y.heap.size y w6 from BY.out.grown hg6 BY.out.size (fun b hb => (World.ownsRow.lt OE.out b hb).1))
      have O6 := Lib.hid ho6
      clear ho6 hg6 hat6 OE
      refine hK.out _ _ ⟨(LX.out.below BY.out).x0.cell 4, (LX.out.below BY.out).x1.cell 7⟩ (fun hHeld => ?_)
      clear hK K
      try simp only [Act.put, List.setIfInBounds_toArray, List.set_cons_zero, List.set_cons_succ]
      refine anyT_ready (rs := [6]) (by kernel_rfl) (by simp) (ReadyT.cons (o := _) rfl (fun K hK => ?_) ReadyT.nil)
      go_simp
      have BY := Lib.hid (show Below y.heap.size y (w6.alloc (.cells #[.int .i64 oa] itT)) from BY.out.alloc BY.out.size (.cells #[.int .i64 oa] itT))
      have XW := Lib.hid (Whole.made w6 itT #[.int .i64 oa] (w6.heap.size) (rfl))
      have O6 := Lib.hid (World.ownsRow.alloc O6.out (.cells #[.int .i64 oa] itT))
      refine hK.out _ _ ⟨(LX.out.below BY.out).x0.cell 4, (LX.out.below BY.out).x1.cell 7⟩ (fun hHeld => ?_)
      clear hK K
      try simp only [Act.put, List.setIfInBounds_toArray, List.set_cons_zero, List.set_cons_succ]
      refine anyT_ready (rs := [7]) (by kernel_rfl) (by simp) (ReadyT.cons (o := _) rfl (fun K hK => ?_) ReadyT.nil)
      have NC := Lib.hid (show ∀ (j : Nat) u, ([.int .i64 oa] : List Value)[j]? = some u → (w6.alloc (.cells #[.int .i64 oa] itT)).cell? ((⟨w6.heap.size, 0, none⟩ : Addr).add j) = some u from fun j u hj => by
        rw [Go.WideShapes.add_plain, Nat.zero_add]
        exact (XW.out.cell j).trans (by simpa using hj))
      refine step_app rfl (.tmp 89) (.tmp 92) 26 rfl y.heap.size itT i0 _ 1 8 Tryd.underlying26 hi0 hz0 hz1 hz2 rfl (by decide) (.slice A6 (al.length) c6) (al.length) (al.flatMap itC) rfl O6.out ⟨w6.heap.size, 0, none⟩ 1 1 [.int .i64 oa] rfl rfl NC.out (it_one oa) (by have := PB.out; unfold maxLen; omega) (by have := PB.out; omega) BY.out.size ?_
      intro v8 w8 ho8 hg8 hat8
      have hform := row_form ho8
      obtain ⟨A8, c8, rfl⟩ := hform
      have BY := Lib.hid (show Below y.heap.size y w8 from BY.out.grown hg8 BY.out.size (fun b hb => (World.ownsRow.lt O6.out b hb).1))
      have O8 := Lib.hid ho8
      clear ho8 hg8 hat8 O6 XW NC
      refine hK.out _ _ ⟨(LX.out.below BY.out).x0.cell 4, (LX.out.below BY.out).x1.cell 7⟩ (fun hHeld => ?_)
      clear hK K
      try simp only [Act.put, List.setIfInBounds_toArray, List.set_cons_zero, List.set_cons_succ]
      refine anyT_take (i := 8) (oi := _) (v := .pointer (some ⟨w.heap.size, 4, none⟩)) rfl (by kernel_rfl) (by kernel_rfl) (by kernel_rfl) (by kernel_rfl) (fun _ _ _ h => h) (Or.inl ⟨by rfl, fun w hSw => by (try dsimp only at hSw); go_simp⟩) (by assumption) ?_
      try simp only [Act.put, List.setIfInBounds_toArray, List.set_cons_zero, List.set_cons_succ]
      refine anyT_ready (rs := [9]) (by kernel_rfl) (by simp) (ReadyT.last (o := _) rfl (fun K hK => ?_))
      have t0 : w8.cell? ⟨w.heap.size, 4, none⟩ = some (.slice AA al.length cA) := (LX.out.below BY.out).x0.cell 4
      have tf : w8.frozen? ⟨w.heap.size, 4, none⟩ = false := (LX.out.below BY.out).x0.free 4
      go_simp
      clear t0 tf
      refine hK.out _ _ trivial (fun _ => ?_)
      clear hK K
      try simp only [Act.put, List.setIfInBounds_toArray, List.set_cons_zero, List.set_cons_succ]
      refine anyT_done (by kernel_rfl) ?_ _
      refine NoPanic.normal ?_
      have L9 := Lib.hid (show Lx3 w (w8.setCell ⟨w.heap.size, 4, none⟩ (.slice A8 (al.length + 1) c8)) rfT opT rfT #[.slice AL m.L.length cL, .slice AG gl.length cG, .slice AF m.fx.length cF, .slice AP pl.length cP, .slice A8 (al.length + 1) c8, .int .i64 m.dep, .int .i64 m.most, .int .i64 m.err] _ _ from (LX.out.below BY.out).set0 4 (.slice A8 (al.length + 1) c8))
      have K9 := (KeptS.ofBelow (S := fun b => w.heap.size ≤ b ∧ b < w.heap.size + 3) BY.out).trans (show KeptS (fun b => w.heap.size ≤ b ∧ b < w.heap.size + 3) w8 (w8.setCell ⟨w.heap.size, 4, none⟩ (.slice A8 (al.length + 1) c8)) from KeptS.set ⟨Nat.le_refl _, by omega⟩) (fun _ h => .inl h)
      have K8 : KeptS (fun b => b = w.heap.size) w8 (w8.setCell ⟨w.heap.size, 4, none⟩ (.slice A8 (al.length + 1) c8)) := KeptS.set rfl
      have hbx := LX.out.x2.lt
      have RE := Lib.hid (show RfR (w8.setCell ⟨w.heap.size, 4, none⟩ (.slice A8 (al.length + 1) c8)) (fun b => T1 b ∨ (w.heap.size ≤ b ∧ b < w.heap.size + 3)) (N + 1) m AL cL AG cG AF cF AP cP A8 c8 gl pl (al ++ [oa]) from by
        have h0 := HR.out.later K9 (fun b hb => .inr hb)
        refine ⟨h0.fL, h0.fG, h0.fF, h0.fP, ⟨?_, fun b hb ht => ?_⟩, h0.lg, Nat.le_trans h0.lp (by omega), by rw [List.length_append, List.length_singleton]; have := h0.la; omega, Nat.le_trans h0.lf (by omega), h0.ok, Int.le_trans h0.nm (by omega)⟩
        · rw [List.length_append, List.flatMap_append, List.flatMap_singleton]
          exact row_more (K8.row O8.out (fun b hb e => by have := (row_block O8.out hb).1; omega)) (Nat.zero_le _)
        · have h1 := (row_block O8.out (own_len (n' := al.length + 1) hb)).1
          have h2 := HT.out b ht
          omega)
      have C1 := Lib.hid (C1.out.later K9 (fun b hb => NB.out b hb) (fun b hb => by have := BG.out; omega))
      have KP := Lib.hid (KP.out.trans K9 (fun b hb => .inr hb.1))
      clear K9 K8 hbx LX HR BY O8 HT hHeld HRA
      generalize (w8.setCell ⟨w.heap.size, 4, none⟩ (.slice A8 (al.length + 1) c8)) = y0 at *
      have LX := L9
      obtain ⟨a0, a1, a2, a3, a4, a5, a6, a7⟩ := cells8 LX.out.x0
      have H1 := Lib.hid (show (#[.slice AL m.L.length cL, .slice AG gl.length cG, .slice AF m.fx.length cF, .slice AP pl.length cP, .slice A8 (al.length + 1) c8, .int .i64 m.dep, .int .i64 m.most, .int .i64 m.err] : Array Value).all (·.oneCell') = true from by simp [Value.oneCell'])
      repeat (first | (go_big_may; first | (refine wpList_store_row rfl rfT (.tmp 6) (.tmp 152) rfl (w.heap.size + 1 + 1) #[.slice AL m.L.length cL, .slice AG gl.length cG, .slice AF m.fx.length cF, .slice AP pl.length cP, .slice A8 (al.length + 1) c8, .int .i64 m.dep, .int .i64 m.most, .int .i64 m.err] rfl rfl rfT #[.slice none 0 0, .slice none 0 0, .slice none 0 0, .slice none 0 0, .slice none 0 0, .int .i64 0, .int .i64 0, .int .i64 0] LX.out.x2 S8 rfl H1.out ?_; generalize hZZ : (y0).setRow (w.heap.size + 1 + 1) #[.slice AL m.L.length cL, .slice AG gl.length cG, .slice AF m.fx.length cF, .slice AP pl.length cP, .slice A8 (al.length + 1) c8, .int .i64 m.dep, .int .i64 m.most, .int .i64 m.err] = ZZ; have HZZ := Lib.hid hZZ; clear hZZ)) | go_values | go_skip | go_guarded | go_step | go_upon)
      have KZ := LX.out.kept2 #[.slice AL m.L.length cL, .slice AG gl.length cG, .slice AF m.fx.length cF, .slice AP pl.length cP, .slice A8 (al.length + 1) c8, .int .i64 m.dep, .int .i64 m.most, .int .i64 m.err]
      have LZ := LX.out.row2 #[.slice AL m.L.length cL, .slice AG gl.length cG, .slice AF m.fx.length cF, .slice AP pl.length cP, .slice A8 (al.length + 1) c8, .int .i64 m.dep, .int .i64 m.most, .int .i64 m.err]
      rw [HZZ.out] at KZ LZ
      have CZ := Lib.hid (C1.out.later KZ (fun b hb => NB.out b hb) (fun b hb => by have := BG.out; omega))
      have RZ := Lib.hid (RE.out.later KZ (fun b hb => .inr hb))
      have KF := Lib.hid (KP.out.trans KZ (fun b hb => .inr hb.1))
      obtain ⟨z0, z1, z2, z3, z4, z5, z6, z7⟩ := cells8 LZ.x2
      clear KZ LZ
      refine bodyPost_ret (v := .agg #[.slice AL m.L.length cL, .slice AG gl.length cG, .slice AF m.fx.length cF, .slice AP pl.length cP, .slice A8 (al.length + 1) c8, .int .i64 m.dep, .int .i64 m.most, .int .i64 m.err]) ?_ rfl ⟨T1, AL, cL, AG, cG, AF, cF, AP, cP, A8, c8, gl, pl, al ++ [oa], by simp only [List.length_append, List.length_singleton], CZ.out.more (show N + 1 ≤ N + 2 by omega) (Nat.le_refl _), (RZ.out.less (fun b hb => .inl hb)).more (show N + 1 ≤ N + 2 by omega), KF.out, O1.out⟩
      simp [results, Tryd.results22, go_sem, z0, z1, z2, z3, z4, z5, z6, z7]
    · go_simp
      have BY := Lib.hid (show Below y.heap.size y ((y.alloc (.cells #[] itT)).alloc (.cells #[.int .i64 oa] itT)) from BY.out.alloc BY.out.size (.cells #[.int .i64 oa] itT))
      have XW := Lib.hid (Whole.made (y.alloc (.cells #[] itT)) itT #[.int .i64 oa] (y.heap.size + 1) (by simp))
      have OE := Lib.hid (World.ownsRow.alloc OE.out (.cells #[.int .i64 oa] itT))
      refine hK.out _ _ ⟨(LX.out.below BY.out).x0.cell 4, (LX.out.below BY.out).x1.cell 7⟩ (fun hHeld => ?_)
      clear hK K
      try simp only [Act.put, List.setIfInBounds_toArray, List.set_cons_zero, List.set_cons_succ]
      refine anyT_ready (rs := [3]) (by kernel_rfl) (by simp) (ReadyT.cons (o := _) rfl (fun K hK => ?_) ReadyT.nil)
      refine step_app_any rfl (.tmp 86) (.tmp 88) 26 rfl y.heap.size itT i0 _ 1 8 Tryd.underlying26 hi0 hz0 hz1 hz2 rfl (by decide) (.slice (some ⟨y.heap.size, 0, none⟩) 0 0) 0 [] rfl OE.out (.slice AA al.length cA) (al.length) (al.flatMap itC) rfl (HRA.out.below BY.out).1 (one_flat it_one _) (by have := PB.out; unfold maxLen; omega) (by have := PB.out; omega) BY.out.size ?_
      intro v6 w6 ho6 hg6 hat6
      rw [Nat.zero_add, List.nil_append] at ho6
      have hform := row_form ho6
      obtain ⟨A6, c6, rfl⟩ := hform
      have XW := Lib.hid (show Whole w6 (y.heap.size + 1) itT #[.int .i64 oa] from (hg6.block (y.heap.size + 1) XW.out.lt (fun e => absurd (Option.some.inj e : y.heap.size + 1 = y.heap.size) (by omega))).trans XW.out)
      have BY := Lib.hid (show Below y.heap.size y w6 from BY.out.grown hg6 BY.out.size (fun b hb => (World.ownsRow.lt OE.out b hb).1))
      have O6 := Lib.hid ho6
      clear ho6 hg6 hat6 OE
      refine hK.out _ _ ⟨(LX.out.below BY.out).x0.cell 4, (LX.out.below BY.out).x1.cell 7⟩ (fun hHeld => ?_)
      clear hK K
      try simp only [Act.put, List.setIfInBounds_toArray, List.set_cons_zero, List.set_cons_succ]
      refine anyT_ready (rs := [7]) (by kernel_rfl) (by simp) (ReadyT.cons (o := _) rfl (fun K hK => ?_) ReadyT.nil)
      have NC := Lib.hid (show ∀ (j : Nat) u, ([.int .i64 oa] : List Value)[j]? = some u → w6.cell? ((⟨y.heap.size + 1, 0, none⟩ : Addr).add j) = some u from fun j u hj => by
        rw [Go.WideShapes.add_plain, Nat.zero_add]
        exact (XW.out.cell j).trans (by simpa using hj))
      refine step_app rfl (.tmp 89) (.tmp 92) 26 rfl y.heap.size itT i0 _ 1 8 Tryd.underlying26 hi0 hz0 hz1 hz2 rfl (by decide) (.slice A6 (al.length) c6) (al.length) (al.flatMap itC) rfl O6.out ⟨y.heap.size + 1, 0, none⟩ 1 1 [.int .i64 oa] rfl rfl NC.out (it_one oa) (by have := PB.out; unfold maxLen; omega) (by have := PB.out; omega) BY.out.size ?_
      intro v8 w8 ho8 hg8 hat8
      have hform := row_form ho8
      obtain ⟨A8, c8, rfl⟩ := hform
      have BY := Lib.hid (show Below y.heap.size y w8 from BY.out.grown hg8 BY.out.size (fun b hb => (World.ownsRow.lt O6.out b hb).1))
      have O8 := Lib.hid ho8
      clear ho8 hg8 hat8 O6 XW NC
      refine hK.out _ _ ⟨(LX.out.below BY.out).x0.cell 4, (LX.out.below BY.out).x1.cell 7⟩ (fun hHeld => ?_)
      clear hK K
      try simp only [Act.put, List.setIfInBounds_toArray, List.set_cons_zero, List.set_cons_succ]
      refine anyT_take (i := 8) (oi := _) (v := .pointer (some ⟨w.heap.size, 4, none⟩)) rfl (by kernel_rfl) (by kernel_rfl) (by kernel_rfl) (by kernel_rfl) (fun _ _ _ h => h) (Or.inl ⟨by rfl, fun w hSw => by (try dsimp only at hSw); go_simp⟩) (by assumption) ?_
      try simp only [Act.put, List.setIfInBounds_toArray, List.set_cons_zero, List.set_cons_succ]
      refine anyT_ready (rs := [9]) (by kernel_rfl) (by simp) (ReadyT.last (o := _) rfl (fun K hK => ?_))
      have t0 : w8.cell? ⟨w.heap.size, 4, none⟩ = some (.slice AA al.length cA) := (LX.out.below BY.out).x0.cell 4
      have tf : w8.frozen? ⟨w.heap.size, 4, none⟩ = false := (LX.out.below BY.out).x0.free 4
      go_simp
      clear t0 tf
      refine hK.out _ _ trivial (fun _ => ?_)
      clear hK K
      try simp only [Act.put, List.setIfInBounds_toArray, List.set_cons_zero, List.set_cons_succ]
      refine anyT_done (by kernel_rfl) ?_ _
      refine NoPanic.normal ?_
      have L9 := Lib.hid (show Lx3 w (w8.setCell ⟨w.heap.size, 4, none⟩ (.slice A8 (al.length + 1) c8)) rfT opT rfT #[.slice AL m.L.length cL, .slice AG gl.length cG, .slice AF m.fx.length cF, .slice AP pl.length cP, .slice A8 (al.length + 1) c8, .int .i64 m.dep, .int .i64 m.most, .int .i64 m.err] _ _ from (LX.out.below BY.out).set0 4 (.slice A8 (al.length + 1) c8))
      have K9 := (KeptS.ofBelow (S := fun b => w.heap.size ≤ b ∧ b < w.heap.size + 3) BY.out).trans (show KeptS (fun b => w.heap.size ≤ b ∧ b < w.heap.size + 3) w8 (w8.setCell ⟨w.heap.size, 4, none⟩ (.slice A8 (al.length + 1) c8)) from KeptS.set ⟨Nat.le_refl _, by omega⟩) (fun _ h => .inl h)
      have K8 : KeptS (fun b => b = w.heap.size) w8 (w8.setCell ⟨w.heap.size, 4, none⟩ (.slice A8 (al.length + 1) c8)) := KeptS.set rfl
      have hbx := LX.out.x2.lt
      have RE := Lib.hid (show RfR (w8.setCell ⟨w.heap.size, 4, none⟩ (.slice A8 (al.length + 1) c8)) (fun b => T1 b ∨ (w.heap.size ≤ b ∧ b < w.heap.size + 3)) (N + 1) m AL cL AG cG AF cF AP cP A8 c8 gl pl (al ++ [oa]) from by
        have h0 := HR.out.later K9 (fun b hb => .inr hb)
        refine ⟨h0.fL, h0.fG, h0.fF, h0.fP, ⟨?_, fun b hb ht => ?_⟩, h0.lg, Nat.le_trans h0.lp (by omega), by rw [List.length_append, List.length_singleton]; have := h0.la; omega, Nat.le_trans h0.lf (by omega), h0.ok, Int.le_trans h0.nm (by omega)⟩
        · rw [List.length_append, List.flatMap_append, List.flatMap_singleton]
          exact row_more (K8.row O8.out (fun b hb e => by have := (row_block O8.out hb).1; omega)) (Nat.zero_le _)
        · have h1 := (row_block O8.out (own_len (n' := al.length + 1) hb)).1
          have h2 := HT.out b ht
          omega)
      have C1 := Lib.hid (C1.out.later K9 (fun b hb => NB.out b hb) (fun b hb => by have := BG.out; omega))
      have KP := Lib.hid (KP.out.trans K9 (fun b hb => .inr hb.1))
      clear K9 K8 hbx LX HR BY O8 HT hHeld HRA
      generalize (w8.setCell ⟨w.heap.size, 4, none⟩ (.slice A8 (al.length + 1) c8)) = y0 at *
      have LX := L9
      obtain ⟨a0, a1, a2, a3, a4, a5, a6, a7⟩ := cells8 LX.out.x0
      have H1 := Lib.hid (show (#[.slice AL m.L.length cL, .slice AG gl.length cG, .slice AF m.fx.length cF, .slice AP pl.length cP, .slice A8 (al.length + 1) c8, .int .i64 m.dep, .int .i64 m.most, .int .i64 m.err] : Array Value).all (·.oneCell') = true from by simp [Value.oneCell'])
      repeat (first | (go_big_may; first | (refine wpList_store_row rfl rfT (.tmp 6) (.tmp 152) rfl (w.heap.size + 1 + 1) #[.slice AL m.L.length cL, .slice AG gl.length cG, .slice AF m.fx.length cF, .slice AP pl.length cP, .slice A8 (al.length + 1) c8, .int .i64 m.dep, .int .i64 m.most, .int .i64 m.err] rfl rfl rfT #[.slice none 0 0, .slice none 0 0, .slice none 0 0, .slice none 0 0, .slice none 0 0, .int .i64 0, .int .i64 0, .int .i64 0] LX.out.x2 S8 rfl H1.out ?_; generalize hZZ : (y0).setRow (w.heap.size + 1 + 1) #[.slice AL m.L.length cL, .slice AG gl.length cG, .slice AF m.fx.length cF, .slice AP pl.length cP, .slice A8 (al.length + 1) c8, .int .i64 m.dep, .int .i64 m.most, .int .i64 m.err] = ZZ; have HZZ := Lib.hid hZZ; clear hZZ)) | go_values | go_skip | go_guarded | go_step | go_upon)
      have KZ := LX.out.kept2 #[.slice AL m.L.length cL, .slice AG gl.length cG, .slice AF m.fx.length cF, .slice AP pl.length cP, .slice A8 (al.length + 1) c8, .int .i64 m.dep, .int .i64 m.most, .int .i64 m.err]
      have LZ := LX.out.row2 #[.slice AL m.L.length cL, .slice AG gl.length cG, .slice AF m.fx.length cF, .slice AP pl.length cP, .slice A8 (al.length + 1) c8, .int .i64 m.dep, .int .i64 m.most, .int .i64 m.err]
      rw [HZZ.out] at KZ LZ
      have CZ := Lib.hid (C1.out.later KZ (fun b hb => NB.out b hb) (fun b hb => by have := BG.out; omega))
      have RZ := Lib.hid (RE.out.later KZ (fun b hb => .inr hb))
      have KF := Lib.hid (KP.out.trans KZ (fun b hb => .inr hb.1))
      obtain ⟨z0, z1, z2, z3, z4, z5, z6, z7⟩ := cells8 LZ.x2
      clear KZ LZ
      refine bodyPost_ret (v := .agg #[.slice AL m.L.length cL, .slice AG gl.length cG, .slice AF m.fx.length cF, .slice AP pl.length cP, .slice A8 (al.length + 1) c8, .int .i64 m.dep, .int .i64 m.most, .int .i64 m.err]) ?_ rfl ⟨T1, AL, cL, AG, cG, AF, cF, AP, cP, A8, c8, gl, pl, al ++ [oa], by simp only [List.length_append, List.length_singleton], CZ.out.more (show N + 1 ≤ N + 2 by omega) (Nat.le_refl _), (RZ.out.less (fun b hb => .inl hb)).more (show N + 1 ≤ N + 2 by omega), KF.out, O1.out⟩
      simp [results, Tryd.results22, go_sem, z0, z1, z2, z3, z4, z5, z6, z7]
  · go_simp
    have BY := Lib.hid (show Below y.heap.size y (y.alloc (.cells #[.int .i64 oa] itT)) from BY.out.alloc BY.out.size (.cells #[.int .i64 oa] itT))
    have XW := Lib.hid (Whole.made y itT #[.int .i64 oa] (y.heap.size) (rfl))
    refine hK.out _ _ ⟨(LX.out.below BY.out).x0.cell 4, (LX.out.below BY.out).x1.cell 7⟩ (fun hHeld => ?_)
    clear hK K
    try simp only [Act.put, List.setIfInBounds_toArray, List.set_cons_zero, List.set_cons_succ]
    refine anyT_ready (rs := [0]) (by kernel_rfl) (by simp) (ReadyT.cons (o := _) rfl (fun K hK => ?_) ReadyT.nil)
    go_simp
    have SE := Lib.hid (show (y.alloc (.cells #[.int .i64 oa] itT)).heap.size = y.heap.size + 1 from by simp)
    have BY := Lib.hid (show Below y.heap.size y ((y.alloc (.cells #[.int .i64 oa] itT)).alloc (.cells #[] itT)) from BY.out.alloc BY.out.size (.cells #[] itT))
    have OE := Lib.hid (show ((y.alloc (.cells #[.int .i64 oa] itT)).alloc (.cells #[] itT)).ownsRow y.heap.size itT 1 (.slice (some ⟨y.heap.size + 1, 0, none⟩) 0 0) 0 [] from row_built (e := itT) (sz := 1) (y.alloc (.cells #[.int .i64 oa] itT)) #[] 0 0 rfl (Nat.le_refl _) (Nat.zero_le _) y.heap.size (by rw [SE.out]; omega) _ (by rw [SE.out]) [] rfl)
    have XW := Lib.hid (show Whole ((y.alloc (.cells #[.int .i64 oa] itT)).alloc (.cells #[] itT)) (y.heap.size) itT #[.int .i64 oa] from XW.out.alloc _)
    refine hK.out _ _ ⟨(LX.out.below BY.out).x0.cell 4, (LX.out.below BY.out).x1.cell 7⟩ (fun hHeld => ?_)
    clear hK K
    try simp only [Act.put, List.setIfInBounds_toArray, List.set_cons_zero, List.set_cons_succ]
    refine anyT_ready (rs := [3]) (by kernel_rfl) (by simp) (ReadyT.cons (o := _) rfl (fun K hK => ?_) ReadyT.nil)
    refine step_app_any rfl (.tmp 86) (.tmp 88) 26 rfl y.heap.size itT i0 _ 1 8 Tryd.underlying26 hi0 hz0 hz1 hz2 rfl (by decide) (.slice (some ⟨y.heap.size + 1, 0, none⟩) 0 0) 0 [] rfl OE.out (.slice AA al.length cA) (al.length) (al.flatMap itC) rfl (HRA.out.below BY.out).1 (one_flat it_one _) (by have := PB.out; unfold maxLen; omega) (by have := PB.out; omega) BY.out.size ?_
    intro v6 w6 ho6 hg6 hat6
    rw [Nat.zero_add, List.nil_append] at ho6
    have hform := row_form ho6
    obtain ⟨A6, c6, rfl⟩ := hform
    have XW := Lib.hid (show Whole w6 (y.heap.size) itT #[.int .i64 oa] from (hg6.block (y.heap.size) XW.out.lt (fun e => absurd (Option.some.inj e : y.heap.size = y.heap.size + 1) (by omega))).trans XW.out)
    have BY := Lib.hid (show Below y.heap.size y w6 from BY.out.grown hg6 BY.out.size (fun b hb => (World.ownsRow.lt OE.out b hb).1))
    have O6 := Lib.hid ho6
    clear ho6 hg6 hat6 OE
    refine hK.out _ _ ⟨(LX.out.below BY.out).x0.cell 4, (LX.out.below BY.out).x1.cell 7⟩ (fun hHeld => ?_)
    clear hK K
    try simp only [Act.put, List.setIfInBounds_toArray, List.set_cons_zero, List.set_cons_succ]
    refine anyT_ready (rs := [7]) (by kernel_rfl) (by simp) (ReadyT.cons (o := _) rfl (fun K hK => ?_) ReadyT.nil)
    have NC := Lib.hid (show ∀ (j : Nat) u, ([.int .i64 oa] : List Value)[j]? = some u → w6.cell? ((⟨y.heap.size, 0, none⟩ : Addr).add j) = some u from fun j u hj => by
      rw [Go.WideShapes.add_plain, Nat.zero_add]
      exact (XW.out.cell j).trans (by simpa using hj))
    refine step_app rfl (.tmp 89) (.tmp 92) 26 rfl y.heap.size itT i0 _ 1 8 Tryd.underlying26 hi0 hz0 hz1 hz2 rfl (by decide) (.slice A6 (al.length) c6) (al.length) (al.flatMap itC) rfl O6.out ⟨y.heap.size, 0, none⟩ 1 1 [.int .i64 oa] rfl rfl NC.out (it_one oa) (by have := PB.out; unfold maxLen; omega) (by have := PB.out; omega) BY.out.size ?_
    intro v8 w8 ho8 hg8 hat8
    have hform := row_form ho8
    obtain ⟨A8, c8, rfl⟩ := hform
    have BY := Lib.hid (show Below y.heap.size y w8 from BY.out.grown hg8 BY.out.size (fun b hb => (World.ownsRow.lt O6.out b hb).1))
    have O8 := Lib.hid ho8
    clear ho8 hg8 hat8 O6 XW NC
    refine hK.out _ _ ⟨(LX.out.below BY.out).x0.cell 4, (LX.out.below BY.out).x1.cell 7⟩ (fun hHeld => ?_)
    clear hK K
    try simp only [Act.put, List.setIfInBounds_toArray, List.set_cons_zero, List.set_cons_succ]
    refine anyT_take (i := 8) (oi := _) (v := .pointer (some ⟨w.heap.size, 4, none⟩)) rfl (by kernel_rfl) (by kernel_rfl) (by kernel_rfl) (by kernel_rfl) (fun _ _ _ h => h) (Or.inl ⟨by rfl, fun w hSw => by (try dsimp only at hSw); go_simp⟩) (by assumption) ?_
    try simp only [Act.put, List.setIfInBounds_toArray, List.set_cons_zero, List.set_cons_succ]
    refine anyT_ready (rs := [9]) (by kernel_rfl) (by simp) (ReadyT.last (o := _) rfl (fun K hK => ?_))
    have t0 : w8.cell? ⟨w.heap.size, 4, none⟩ = some (.slice AA al.length cA) := (LX.out.below BY.out).x0.cell 4
    have tf : w8.frozen? ⟨w.heap.size, 4, none⟩ = false := (LX.out.below BY.out).x0.free 4
    go_simp
    clear t0 tf
    refine hK.out _ _ trivial (fun _ => ?_)
    clear hK K
    try simp only [Act.put, List.setIfInBounds_toArray, List.set_cons_zero, List.set_cons_succ]
    refine anyT_done (by kernel_rfl) ?_ _
    refine NoPanic.normal ?_
    have L9 := Lib.hid (show Lx3 w (w8.setCell ⟨w.heap.size, 4, none⟩ (.slice A8 (al.length + 1) c8)) rfT opT rfT #[.slice AL m.L.length cL, .slice AG gl.length cG, .slice AF m.fx.length cF, .slice AP pl.length cP, .slice A8 (al.length + 1) c8, .int .i64 m.dep, .int .i64 m.most, .int .i64 m.err] _ _ from (LX.out.below BY.out).set0 4 (.slice A8 (al.length + 1) c8))
    have K9 := (KeptS.ofBelow (S := fun b => w.heap.size ≤ b ∧ b < w.heap.size + 3) BY.out).trans (show KeptS (fun b => w.heap.size ≤ b ∧ b < w.heap.size + 3) w8 (w8.setCell ⟨w.heap.size, 4, none⟩ (.slice A8 (al.length + 1) c8)) from KeptS.set ⟨Nat.le_refl _, by omega⟩) (fun _ h => .inl h)
    have K8 : KeptS (fun b => b = w.heap.size) w8 (w8.setCell ⟨w.heap.size, 4, none⟩ (.slice A8 (al.length + 1) c8)) := KeptS.set rfl
    have hbx := LX.out.x2.lt
    have RE := Lib.hid (show RfR (w8.setCell ⟨w.heap.size, 4, none⟩ (.slice A8 (al.length + 1) c8)) (fun b => T1 b ∨ (w.heap.size ≤ b ∧ b < w.heap.size + 3)) (N + 1) m AL cL AG cG AF cF AP cP A8 c8 gl pl (al ++ [oa]) from by
      have h0 := HR.out.later K9 (fun b hb => .inr hb)
      refine ⟨h0.fL, h0.fG, h0.fF, h0.fP, ⟨?_, fun b hb ht => ?_⟩, h0.lg, Nat.le_trans h0.lp (by omega), by rw [List.length_append, List.length_singleton]; have := h0.la; omega, Nat.le_trans h0.lf (by omega), h0.ok, Int.le_trans h0.nm (by omega)⟩
      · rw [List.length_append, List.flatMap_append, List.flatMap_singleton]
        exact row_more (K8.row O8.out (fun b hb e => by have := (row_block O8.out hb).1; omega)) (Nat.zero_le _)
      · have h1 := (row_block O8.out (own_len (n' := al.length + 1) hb)).1
        have h2 := HT.out b ht
        omega)
    have C1 := Lib.hid (C1.out.later K9 (fun b hb => NB.out b hb) (fun b hb => by have := BG.out; omega))
    have KP := Lib.hid (KP.out.trans K9 (fun b hb => .inr hb.1))
    clear K9 K8 hbx LX HR BY O8 HT hHeld HRA
    generalize (w8.setCell ⟨w.heap.size, 4, none⟩ (.slice A8 (al.length + 1) c8)) = y0 at *
    have LX := L9
    obtain ⟨a0, a1, a2, a3, a4, a5, a6, a7⟩ := cells8 LX.out.x0
    have H1 := Lib.hid (show (#[.slice AL m.L.length cL, .slice AG gl.length cG, .slice AF m.fx.length cF, .slice AP pl.length cP, .slice A8 (al.length + 1) c8, .int .i64 m.dep, .int .i64 m.most, .int .i64 m.err] : Array Value).all (·.oneCell') = true from by simp [Value.oneCell'])
    repeat (first | (go_big_may; first | (refine wpList_store_row rfl rfT (.tmp 6) (.tmp 152) rfl (w.heap.size + 1 + 1) #[.slice AL m.L.length cL, .slice AG gl.length cG, .slice AF m.fx.length cF, .slice AP pl.length cP, .slice A8 (al.length + 1) c8, .int .i64 m.dep, .int .i64 m.most, .int .i64 m.err] rfl rfl rfT #[.slice none 0 0, .slice none 0 0, .slice none 0 0, .slice none 0 0, .slice none 0 0, .int .i64 0, .int .i64 0, .int .i64 0] LX.out.x2 S8 rfl H1.out ?_; generalize hZZ : (y0).setRow (w.heap.size + 1 + 1) #[.slice AL m.L.length cL, .slice AG gl.length cG, .slice AF m.fx.length cF, .slice AP pl.length cP, .slice A8 (al.length + 1) c8, .int .i64 m.dep, .int .i64 m.most, .int .i64 m.err] = ZZ; have HZZ := Lib.hid hZZ; clear hZZ)) | go_values | go_skip | go_guarded | go_step | go_upon)
    have KZ := LX.out.kept2 #[.slice AL m.L.length cL, .slice AG gl.length cG, .slice AF m.fx.length cF, .slice AP pl.length cP, .slice A8 (al.length + 1) c8, .int .i64 m.dep, .int .i64 m.most, .int .i64 m.err]
    have LZ := LX.out.row2 #[.slice AL m.L.length cL, .slice AG gl.length cG, .slice AF m.fx.length cF, .slice AP pl.length cP, .slice A8 (al.length + 1) c8, .int .i64 m.dep, .int .i64 m.most, .int .i64 m.err]
    rw [HZZ.out] at KZ LZ
    have CZ := Lib.hid (C1.out.later KZ (fun b hb => NB.out b hb) (fun b hb => by have := BG.out; omega))
    have RZ := Lib.hid (RE.out.later KZ (fun b hb => .inr hb))
    have KF := Lib.hid (KP.out.trans KZ (fun b hb => .inr hb.1))
    obtain ⟨z0, z1, z2, z3, z4, z5, z6, z7⟩ := cells8 LZ.x2
    clear KZ LZ
    refine bodyPost_ret (v := .agg #[.slice AL m.L.length cL, .slice AG gl.length cG, .slice AF m.fx.length cF, .slice AP pl.length cP, .slice A8 (al.length + 1) c8, .int .i64 m.dep, .int .i64 m.most, .int .i64 m.err]) ?_ rfl ⟨T1, AL, cL, AG, cG, AF, cF, AP, cP, A8, c8, gl, pl, al ++ [oa], by simp only [List.length_append, List.length_singleton], CZ.out.more (show N + 1 ≤ N + 2 by omega) (Nat.le_refl _), (RZ.out.less (fun b hb => .inl hb)).more (show N + 1 ≤ N + 2 by omega), KF.out, O1.out⟩
    simp [results, Tryd.results22, go_sem, z0, z1, z2, z3, z4, z5, z6, z7]

/-- What a call that writes none makes of it. -/
def otM (k : Int) (on oa ob oc : Int) (m : Em) : Em :=
  if k = 3 then patchE m oa (m.L.length - oa - 1) else if k = 5 then patchE m oa ob else if k = 9 then dropE m (if on < 0 then 0 else if on ≤ 100 then on else 100) else if k = 15 then failE m (wrap64 (1 + bits .and .i64 oc 7)) else m

theorem others_any (k : Int) (oi : Ins) (on oa ob oc : Int) (hi : I64I oi) (hon : I64 on) (hoc : I64 oc) (ha1 : -1000 ≤ oa) (ha2 : oa ≤ 1000) (hb1 : -1000000 ≤ ob) (hb2 : ob ≤ 1000000) (B g : Nat) (T : Nat → Prop) (N : Nat) (m : Em) (AL : Option Addr) (cL : Nat) (AG : Option Addr) (cG : Nat) (AF : Option Addr) (cF : Nat) (AP : Option Addr) (cP : Nat) (AA : Option Addr) (cA : Nat) (gl pl al : List Int) (w : World) (hC : CdAt w B g T N m) (hR : RfR w T N m AL cL AG cG AF cF AP cP AA cA gl pl al) (hN : N + 2 ≤ 100000) :
    Calls Tryd.prog 22 #[.pointer (some ⟨g, 0, none⟩), .agg #[.slice AL m.L.length cL, .slice AG gl.length cG, .slice AF m.fx.length cF, .slice AP pl.length cP, .slice AA al.length cA, .int .i64 m.dep, .int .i64 m.most, .int .i64 m.err], .agg #[.int .i64 k, .int .i64 oi.op, .int .i64 oi.a, .int .i64 oi.b, .int .i64 oi.c, .int .i64 oi.n, .int .i64 on, .int .i64 oa, .int .i64 ob, .int .i64 oc]] w (DoP B g T (N + 2) w (otM k on oa ob oc m)) := by
  unfold otM
  by_cases h3 : k = 3
  · subst h3; rw [if_pos rfl]; exact ot_land oi on oa ob oc hi hon hoc ha1 ha2 hb1 hb2 B g T N m AL cL AG cG AF cF AP cP AA cA gl pl al w hC hR hN
  rw [if_neg h3]
  by_cases h5 : k = 5
  · subst h5; rw [if_pos rfl]; exact ot_patch oi on oa ob oc hi hon hoc ha1 ha2 hb1 hb2 B g T N m AL cL AG cG AF cF AP cP AA cA gl pl al w hC hR hN
  rw [if_neg h5]
  by_cases h9 : k = 9
  · subst h9; rw [if_pos rfl]
    by_cases c1 : on < 0
    · rw [if_pos c1]
      by_cases c2 : 0 < m.dep
      · exact ot_drop00 oi on oa ob oc hi hon hoc ha1 ha2 hb1 hb2 B g T N m AL cL AG cG AF cF AP cP AA cA gl pl al w hC hR hN c1 c2
      · exact ot_drop01 oi on oa ob oc hi hon hoc ha1 ha2 hb1 hb2 B g T N m AL cL AG cG AF cF AP cP AA cA gl pl al w hC hR hN c1 (by omega)
    rw [if_neg c1]
    by_cases c3 : on ≤ 100
    · rw [if_pos c3]
      by_cases c2 : on < m.dep
      · exact ot_drop10 oi on oa ob oc hi hon hoc ha1 ha2 hb1 hb2 B g T N m AL cL AG cG AF cF AP cP AA cA gl pl al w hC hR hN ⟨by omega, c3⟩ c2
      · exact ot_drop11 oi on oa ob oc hi hon hoc ha1 ha2 hb1 hb2 B g T N m AL cL AG cG AF cF AP cP AA cA gl pl al w hC hR hN ⟨by omega, c3⟩ (by omega)
    rw [if_neg c3]
    by_cases c2 : 100 < m.dep
    · exact ot_drop20 oi on oa ob oc hi hon hoc ha1 ha2 hb1 hb2 B g T N m AL cL AG cG AF cF AP cP AA cA gl pl al w hC hR hN (by omega) c2
    · exact ot_drop21 oi on oa ob oc hi hon hoc ha1 ha2 hb1 hb2 B g T N m AL cL AG cG AF cF AP cP AA cA gl pl al w hC hR hN (by omega) (by omega)
  rw [if_neg h9]
  by_cases h15 : k = 15
  · subst h15; rw [if_pos rfl]; exact ot_fail oi on oa ob oc hi hon hoc ha1 ha2 hb1 hb2 B g T N m AL cL AG cG AF cF AP cP AA cA gl pl al w hC hR hN
  rw [if_neg h15]
  by_cases h10 : k = 10
  · subst h10; exact ot_pad oi on oa ob oc hi hon hoc ha1 ha2 hb1 hb2 B g T N m AL cL AG cG AF cF AP cP AA cA gl pl al w hC hR hN
  by_cases h11 : k = 11
  · subst h11
    by_cases c1 : oa < 0
    · exact ot_guard_lo oi on oa ob oc hi hon hoc ha1 ha2 hb1 hb2 B g T N m AL cL AG cG AF cF AP cP AA cA gl pl al w hC hR hN c1
    by_cases c2 : oa < (pl.length : Int)
    · exact ot_guard_in oi on oa ob oc hi hon hoc ha1 ha2 hb1 hb2 B g T N m AL cL AG cG AF cF AP cP AA cA gl pl al w hC hR hN (by omega) c2
    · exact ot_guard_hi oi on oa ob oc hi hon hoc ha1 ha2 hb1 hb2 B g T N m AL cL AG cG AF cF AP cP AA cA gl pl al w hC hR hN (by omega) (by omega)
  by_cases h12 : k = 12
  · subst h12
    by_cases c1 : al.length = 0
    · exact ot_unguard0 oi on oa ob oc hi hon hoc ha1 ha2 hb1 hb2 B g T N m AL cL AG cG AF cF AP cP AA cA gl pl al w hC hR hN c1
    by_cases c2 : al.length = 1
    · exact ot_unguard1 oi on oa ob oc hi hon hoc ha1 ha2 hb1 hb2 B g T N m AL cL AG cG AF cF AP cP AA cA gl pl al w hC hR hN c2
    exact ot_unguard2 oi on oa ob oc hi hon hoc ha1 ha2 hb1 hb2 B g T N m AL cL AG cG AF cF AP cP AA cA gl pl al w hC hR hN (al.length - 2) (by omega)
  by_cases h13 : k = 13
  · subst h13
    by_cases c1 : oa < 0
    · exact ot_set_lo oi on oa ob oc hi hon hoc ha1 ha2 hb1 hb2 B g T N m AL cL AG cG AF cF AP cP AA cA gl pl al w hC hR hN c1
    by_cases c2 : oa < (pl.length : Int)
    · obtain ⟨t, rfl⟩ := Int.eq_ofNat_of_zero_le (show 0 ≤ oa by omega)
      exact ot_set_in oi on ob oc t hi hon hoc ha1 ha2 hb1 hb2 B g T N m AL cL AG cG AF cF AP cP AA cA gl pl al w hC hR hN (by omega)
    · exact ot_set_hi oi on oa ob oc hi hon hoc ha1 ha2 hb1 hb2 B g T N m AL cL AG cG AF cF AP cP AA cA gl pl al w hC hR hN (by omega) (by omega)
  exact ot_none k ⟨h3, h5, h9, h10, h11, h12, h13, h15⟩ oi on oa ob oc hi hon hoc ha1 ha2 hb1 hb2 B g T N m AL cL AG cG AF cF AP cP AA cA gl pl al w hC hR hN
end Go.Proofs.YtcijjmmckofckaaDoor
