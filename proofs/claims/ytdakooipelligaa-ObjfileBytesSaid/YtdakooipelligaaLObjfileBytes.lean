/- pascalinelaw15.ObjfileBytes returns true for every object: Encode gives the bytes that the document's answer has, and Decode of them gives the object again, or the object may not be and Encode gives no bytes and the error that the document's answer has (objects of more than 80 imports, 200 words, 100 fixups or 100 segments, or with a module's name of more than 200 bytes, are let go, as the statement says); the page's example holds; its argument reads behind the call as before. Condition: none. -/
import Derived.Test.YtdakooipelligaaRows
import Derived.Test.YtdakooipelligaaLift
import Derived.Test.YtdakooipelligaaObjH
import Derived.Test.YtdakooipelligaaObjM
import Derived.Test.YtdakooipelligaaObjK
import Derived.SizedLaws
namespace Go.Proofs.Ytdakooipelligaa.lawObjfileBytes
open Go.ChangeShapes Go.WideShapes Go.ChangeAt Go.RowKit
set_option linter.unusedVariables false
theorem flat_bytes {α : Type} {f : α → List Int} (h : ∀ x, Byt (f x)) (l : List α) : Byt (l.flatMap f) := fun z hz => by
  obtain ⟨x, _, hx⟩ := List.mem_flatMap.1 hz
  exact h x z hx

theorem objB_ok {o : Oj} (h : checkO o = 0) (ok : OjOk o) (n2 : o.code.length ≤ 200) (n3 : o.fxs.length ≤ 100) (n4 : o.sgs.length ≤ 100) : Byt (objB o) ∧ (objB o).length ≤ 90000 := by
  have f := checkO_fit h ok
  refine ⟨byt_app (bytesOf_bytes _) (byt_app (byt_app (cntB_bytes _) (strI_bytes _)) (byt_app (bytesOf_bytes _) (byt_app (imsB_bytes _) (byt_app (byt_app (cntI_bytes _) (flat_bytes bytesOf_bytes _)) (byt_app (byt_app (cntI_bytes _) (flat_bytes (fun x => byt_app (byt_app (byt_app (cntI_bytes _) (cntI_bytes _)) (cntI_bytes _)) (cntI_bytes _)) _)) (byt_app (byt_app (cntI_bytes _) (flat_bytes (fun x => byt_app (cntI_bytes _) (cntI_bytes _)) _)) (byt_app (cntI_bytes _) (byt_app (cntI_bytes _) (cntI_bytes _))))))))), ?_⟩
  have h1 := imsB_len (fit_sm15 f.ims) (by have := f.in64; omega)
  have h2 : (cntB o.md.size).length ≤ 10 := cntB_len10 (by have := f.md.2.2; omega)
  have h3 := strI_len o.md
  have h4 : o.md.size ≤ 32 := f.md.2.2
  have a1 := cntI_len (n := o.code.length) (by omega)
  have a2 := cntI_len (n := o.fxs.length) (by omega)
  have a3 := cntI_len (n := o.sgs.length) (by omega)
  have a4 := cntI_len (n := o.data) (by have := f.dt.2; omega)
  have a5 := cntI_len (n := o.excs) (by have := f.ex.2; omega)
  have a6 := cntI_len (n := o.body) (by have := f.bd.2; omega)
  have b1 := flat_len_le (f := bytesOf) (k := 4) (l := o.code) (fun z _ => Nat.le_refl 4)
  have b2 := flat_len_le (f := fxB) (k := 40) (l := o.fxs) (fun x hx => fxB_len (f.fx x hx))
  have b3 := flat_len_le (f := sgB) (k := 20) (l := o.sgs) (fun x hx => sgB_len (f.sg x hx))
  have h6 : ∀ n, (bytesOf n).length = 4 := fun _ => rfl
  unfold objB codeB fxsB sgsB
  simp only [List.length_append, h6]
  omega

set_option maxHeartbeats 32000000 in
set_option maxRecDepth 100000 in
theorem walk (W : World) (md : ByteArray) (key : Int) (Ai : Option Addr) (im : List Im) (ci : Nat) (Ac : Option Addr) (cd : List Int) (cc : Nat) (Af : Option Addr) (fx : List Fx) (cf : Nat) (As : Option Addr) (sg : List Sg) (cs : Nat) (dt ex bd : Int) (hF : OjIn W md key Ai im ci Ac cd cc Af fx cf As sg cs) :
    Calls Try.prog 4 #[.agg #[.string md, .int .u32 key, .slice Ai im.length ci, .slice Ac cd.length cc, .slice Af fx.length cf, .slice As sg.length cs, .int .i64 dt, .int .i64 ex, .int .i64 bd]] W fun e w' => e = .returned (.bool true) ∧ Below W.heap.size W w' := by
  have B0 := Lib.hid ((Below.refl W.heap.size W).alloc (Nat.le_refl _) (.cells #[.string md, .int .u32 key, .slice Ai im.length ci, .slice Ac cd.length cc, .slice Af fx.length cf, .slice As sg.length cs, .int .i64 dt, .int .i64 ex, .int .i64 bd] oT))
  have X0 := Lib.hid (Whole.made W oT #[.string md, .int .u32 key, .slice Ai im.length ci, .slice Ac cd.length cc, .slice Af fx.length cf, .slice As sg.length cs, .int .i64 dt, .int .i64 ex, .int .i64 bd] _ rfl)
  have HV := Lib.hid hF.v
  have HN := Lib.hid hF.n
  have OKF := Lib.hid (show OjOk ⟨md, key, im, cd, fx, sg, dt, ex, bd⟩ from ⟨hF.key, fun x hx => (hF.imo x hx).2, hF.cdo⟩)
  have AW := Lib.hid (awake15_any (W.alloc (.cells #[.string md, .int .u32 key, .slice Ai im.length ci, .slice Ac cd.length cc, .slice Af fx.length cf, .slice As sg.length cs, .int .i64 dt, .int .i64 ex, .int .i64 bd] oT)))
  have SL := Lib.hid (fun w => small15_any md key Ai im ci Ac cd cc Af fx cf As sg cs dt ex bd w HN.out)
  clear hF
  by_cases hs : smO md im cd fx sg
  case neg =>
    rw [decide_eq_false hs] at SL
    clear hs
    go_enter Try.func4, Try.ntmps4
    go_wp2_with fail
    refine AW.out.mono ?_
    rintro e w1 ⟨rfl, hb1⟩
    have B1 := Lib.hid (B0.out.trans (hb1.mono B0.out.size))
    have X1 := Lib.hid (X0.out.below hb1 X0.out.lt)
    have q0 : w1.cell? ⟨W.heap.size, 0, none⟩ = some (.string md) := X1.out.cell 0
    have q1 : w1.cell? ⟨W.heap.size, 1, none⟩ = some (.int .u32 key) := X1.out.cell 1
    have q2 : w1.cell? ⟨W.heap.size, 2, none⟩ = some (.slice Ai im.length ci) := X1.out.cell 2
    have q3 : w1.cell? ⟨W.heap.size, 3, none⟩ = some (.slice Ac cd.length cc) := X1.out.cell 3
    have q4 : w1.cell? ⟨W.heap.size, 4, none⟩ = some (.slice Af fx.length cf) := X1.out.cell 4
    have q5 : w1.cell? ⟨W.heap.size, 5, none⟩ = some (.slice As sg.length cs) := X1.out.cell 5
    have q6 : w1.cell? ⟨W.heap.size, 6, none⟩ = some (.int .i64 dt) := X1.out.cell 6
    have q7 : w1.cell? ⟨W.heap.size, 7, none⟩ = some (.int .i64 ex) := X1.out.cell 7
    have q8 : w1.cell? ⟨W.heap.size, 8, none⟩ = some (.int .i64 bd) := X1.out.cell 8
    clear hb1 AW
    go_wp2_with fail
    refine (SL.out _).mono ?_
    rintro e w2 ⟨rfl, hb2⟩
    have B2 := Lib.hid (B1.out.trans (hb2.mono B1.out.size))
    clear hb2 SL
    go_wp2_with fail
    go_ret
    exact ⟨rfl, B2.out⟩
  have n1 : im.length ≤ 80 := hs.2.1
  have n2 : cd.length ≤ 200 := hs.2.2.1
  have n3 : fx.length ≤ 100 := hs.2.2.2.1
  have n4 : sg.length ≤ 100 := hs.2.2.2.2
  rw [decide_eq_true hs] at SL
  clear hs
  go_enter Try.func4, Try.ntmps4
  go_wp2_with fail
  refine AW.out.mono ?_
  rintro e w1 ⟨rfl, hb1⟩
  have B1 := Lib.hid (B0.out.trans (hb1.mono B0.out.size))
  have X1 := Lib.hid (X0.out.below hb1 X0.out.lt)
  have q0 : w1.cell? ⟨W.heap.size, 0, none⟩ = some (.string md) := X1.out.cell 0
  have q1 : w1.cell? ⟨W.heap.size, 1, none⟩ = some (.int .u32 key) := X1.out.cell 1
  have q2 : w1.cell? ⟨W.heap.size, 2, none⟩ = some (.slice Ai im.length ci) := X1.out.cell 2
  have q3 : w1.cell? ⟨W.heap.size, 3, none⟩ = some (.slice Ac cd.length cc) := X1.out.cell 3
  have q4 : w1.cell? ⟨W.heap.size, 4, none⟩ = some (.slice Af fx.length cf) := X1.out.cell 4
  have q5 : w1.cell? ⟨W.heap.size, 5, none⟩ = some (.slice As sg.length cs) := X1.out.cell 5
  have q6 : w1.cell? ⟨W.heap.size, 6, none⟩ = some (.int .i64 dt) := X1.out.cell 6
  have q7 : w1.cell? ⟨W.heap.size, 7, none⟩ = some (.int .i64 ex) := X1.out.cell 7
  have q8 : w1.cell? ⟨W.heap.size, 8, none⟩ = some (.int .i64 bd) := X1.out.cell 8
  clear hb1 AW B0 X0
  go_wp2_with fail
  clear q0 q1 q2 q3 q4 q5 q6 q7 q8
  refine (SL.out _).mono ?_
  rintro e w2 ⟨rfl, hb2⟩
  have B2 := Lib.hid (B1.out.trans (hb2.mono B1.out.size))
  have X2 := Lib.hid (X1.out.below hb2 X1.out.lt)
  clear hb2 SL B1 X1
  have CR := Lib.hid (fun y (hb : Below W.heap.size W y) => orefcheck_any md key Ai im ci Ac cd cc Af fx cf As sg cs dt ex bd _ y (HV.out.below hb) HN.out)
  by_cases hc : checkO ⟨md, key, im, cd, fx, sg, dt, ex, bd⟩ = 0
  case neg =>
    have EB := Lib.hid (oencode_bad md key Ai im ci Ac cd cc Af fx cf As sg cs dt ex bd _ w2 (HV.out.below B2.out) HN.out hc)
    generalize checkO ⟨md, key, im, cd, fx, sg, dt, ex, bd⟩ = cp at *
    have d0 : (cp != 0) = true := by simp [hc]
    have d1 : (cp == cp) = true := by simp
    have q0 : w2.cell? ⟨W.heap.size, 0, none⟩ = some (.string md) := X2.out.cell 0
    have q1 : w2.cell? ⟨W.heap.size, 1, none⟩ = some (.int .u32 key) := X2.out.cell 1
    have q2 : w2.cell? ⟨W.heap.size, 2, none⟩ = some (.slice Ai im.length ci) := X2.out.cell 2
    have q3 : w2.cell? ⟨W.heap.size, 3, none⟩ = some (.slice Ac cd.length cc) := X2.out.cell 3
    have q4 : w2.cell? ⟨W.heap.size, 4, none⟩ = some (.slice Af fx.length cf) := X2.out.cell 4
    have q5 : w2.cell? ⟨W.heap.size, 5, none⟩ = some (.slice As sg.length cs) := X2.out.cell 5
    have q6 : w2.cell? ⟨W.heap.size, 6, none⟩ = some (.int .i64 dt) := X2.out.cell 6
    have q7 : w2.cell? ⟨W.heap.size, 7, none⟩ = some (.int .i64 ex) := X2.out.cell 7
    have q8 : w2.cell? ⟨W.heap.size, 8, none⟩ = some (.int .i64 bd) := X2.out.cell 8
    clear hc
    go_wp2_with fail
    clear q0 q1 q2 q3 q4 q5 q6 q7 q8
    refine EB.out.mono ?_
    rintro e w3 ⟨rfl, hb3⟩
    have B3 := Lib.hid (B2.out.trans (hb3.mono B2.out.size))
    have X3 := Lib.hid (X2.out.below hb3 X2.out.lt)
    have q0 : w3.cell? ⟨W.heap.size, 0, none⟩ = some (.string md) := X3.out.cell 0
    have q1 : w3.cell? ⟨W.heap.size, 1, none⟩ = some (.int .u32 key) := X3.out.cell 1
    have q2 : w3.cell? ⟨W.heap.size, 2, none⟩ = some (.slice Ai im.length ci) := X3.out.cell 2
    have q3 : w3.cell? ⟨W.heap.size, 3, none⟩ = some (.slice Ac cd.length cc) := X3.out.cell 3
    have q4 : w3.cell? ⟨W.heap.size, 4, none⟩ = some (.slice Af fx.length cf) := X3.out.cell 4
    have q5 : w3.cell? ⟨W.heap.size, 5, none⟩ = some (.slice As sg.length cs) := X3.out.cell 5
    have q6 : w3.cell? ⟨W.heap.size, 6, none⟩ = some (.int .i64 dt) := X3.out.cell 6
    have q7 : w3.cell? ⟨W.heap.size, 7, none⟩ = some (.int .i64 ex) := X3.out.cell 7
    have q8 : w3.cell? ⟨W.heap.size, 8, none⟩ = some (.int .i64 bd) := X3.out.cell 8
    clear hb3 B2 X2 EB
    go_wp2_with fail
    clear q0 q1 q2 q3 q4 q5 q6 q7 q8
    refine (ref15_any md key Ai im ci Ac cd cc Af fx cf As sg cs dt ex bd w3).mono ?_
    rintro e w4 ⟨rfl, hb4⟩
    have B4 := Lib.hid (B3.out.trans (hb4.mono B3.out.size))
    have C4 := Lib.hid (CR.out w4 B4.out)
    clear hb4 B3 X3 CR
    go_wp2_with fail
    refine C4.out.mono ?_
    rintro e w5 ⟨rfl, hb5⟩
    have B5 := Lib.hid (B4.out.trans (hb5.mono B4.out.size))
    clear hb5 C4 B4
    go_wp2_with fail
    go_ret
    exact ⟨rfl, B5.out⟩
  have FOK := Lib.hid (objB_ok hc OKF.out n2 n3 n4)
  have hlen : (objB ⟨md, key, im, cd, fx, sg, dt, ex, bd⟩).length ≤ 90000 := FOK.out.2
  have EO := Lib.hid (oencode_ok md key Ai im ci Ac cd cc Af fx cf As sg cs dt ex bd _ w2 (HV.out.below B2.out) HN.out OKF.out hc n2 n3 n4)
  have DC := Lib.hid (fun A c y (h : Nums .u8 y A (objB ⟨md, key, im, cd, fx, sg, dt, ex, bd⟩).length (objB ⟨md, key, im, cd, fx, sg, dt, ex, bd⟩)) => odecode_any md key im cd fx sg dt ex bd A c y hc OKF.out h FOK.out.1 (by omega))
  have RB := Lib.hid (fun y (hb : Below W.heap.size W y) => refbytes15_any md key Ai im ci Ac cd cc Af fx cf As sg cs dt ex bd y (HV.out.below hb).toV OKF.out hc n2 n3 n4)
  rw [hc] at CR
  have UD := Lib.hid (show ∀ y e y', OdPost y md key im cd fx sg dt ex bd e y' → ∃ A2 c2 A3 c3 A4 c4 A5 c5, e = .returned (.tuple #[.agg #[.string md, .int .u32 key, .slice A2 im.length c2, .slice A3 cd.length c3, .slice A4 fx.length c4, .slice A5 sg.length c5, .int .i64 dt, .int .i64 ex, .int .i64 bd], .int .i64 0]) ∧ Below y.heap.size y y' ∧ OjV y'.heap.size y' A2 im c2 A3 cd A4 fx c4 A5 sg c5 from fun _ _ _ h => h)
  generalize objB ⟨md, key, im, cd, fx, sg, dt, ex, bd⟩ = FB at *
  have q0 : w2.cell? ⟨W.heap.size, 0, none⟩ = some (.string md) := X2.out.cell 0
  have q1 : w2.cell? ⟨W.heap.size, 1, none⟩ = some (.int .u32 key) := X2.out.cell 1
  have q2 : w2.cell? ⟨W.heap.size, 2, none⟩ = some (.slice Ai im.length ci) := X2.out.cell 2
  have q3 : w2.cell? ⟨W.heap.size, 3, none⟩ = some (.slice Ac cd.length cc) := X2.out.cell 3
  have q4 : w2.cell? ⟨W.heap.size, 4, none⟩ = some (.slice Af fx.length cf) := X2.out.cell 4
  have q5 : w2.cell? ⟨W.heap.size, 5, none⟩ = some (.slice As sg.length cs) := X2.out.cell 5
  have q6 : w2.cell? ⟨W.heap.size, 6, none⟩ = some (.int .i64 dt) := X2.out.cell 6
  have q7 : w2.cell? ⟨W.heap.size, 7, none⟩ = some (.int .i64 ex) := X2.out.cell 7
  have q8 : w2.cell? ⟨W.heap.size, 8, none⟩ = some (.int .i64 bd) := X2.out.cell 8
  clear hc OKF FOK
  go_wp2_with fail
  clear q0 q1 q2 q3 q4 q5 q6 q7 q8
  refine EO.out.mono ?_
  rintro e w3 ⟨A9, c9, rfl, hb3, hn3⟩
  have B3 := Lib.hid (B2.out.trans (hb3.mono B2.out.size))
  have X3 := Lib.hid (X2.out.below hb3 X2.out.lt)
  have N3 := Lib.hid hn3
  have q0 : w3.cell? ⟨W.heap.size, 0, none⟩ = some (.string md) := X3.out.cell 0
  have q1 : w3.cell? ⟨W.heap.size, 1, none⟩ = some (.int .u32 key) := X3.out.cell 1
  have q2 : w3.cell? ⟨W.heap.size, 2, none⟩ = some (.slice Ai im.length ci) := X3.out.cell 2
  have q3 : w3.cell? ⟨W.heap.size, 3, none⟩ = some (.slice Ac cd.length cc) := X3.out.cell 3
  have q4 : w3.cell? ⟨W.heap.size, 4, none⟩ = some (.slice Af fx.length cf) := X3.out.cell 4
  have q5 : w3.cell? ⟨W.heap.size, 5, none⟩ = some (.slice As sg.length cs) := X3.out.cell 5
  have q6 : w3.cell? ⟨W.heap.size, 6, none⟩ = some (.int .i64 dt) := X3.out.cell 6
  have q7 : w3.cell? ⟨W.heap.size, 7, none⟩ = some (.int .i64 ex) := X3.out.cell 7
  have q8 : w3.cell? ⟨W.heap.size, 8, none⟩ = some (.int .i64 bd) := X3.out.cell 8
  clear hb3 hn3 B2 X2 EO
  go_wp2_with fail
  clear q0 q1 q2 q3 q4 q5 q6 q7 q8
  refine (ref15_any md key Ai im ci Ac cd cc Af fx cf As sg cs dt ex bd w3).mono ?_
  rintro e w4 ⟨rfl, hb4⟩
  have B4 := Lib.hid (B3.out.trans (hb4.mono B3.out.size))
  have X4 := Lib.hid (X3.out.below hb4 X3.out.lt)
  have N4 := Lib.hid (N3.out.below hb4)
  have C4 := Lib.hid (CR.out w4 B4.out)
  clear hb4 B3 X3 CR N3
  go_wp2_with fail
  refine C4.out.mono ?_
  rintro e w5 ⟨rfl, hb5⟩
  have B5 := Lib.hid (B4.out.trans (hb5.mono B4.out.size))
  have X5 := Lib.hid (X4.out.below hb5 X4.out.lt)
  have N5 := Lib.hid (N4.out.below hb5)
  have D5 := Lib.hid (DC.out A9 c9 w5 N5.out)
  clear hb5 C4 B4 X4 N4 DC
  go_wp2_with fail
  refine D5.out.mono ?_
  intro e w6 hd6
  obtain ⟨A2, c2, A3, c3, A4, c4, A5, c5, rfl, hb6, hv6⟩ := UD.out _ _ _ hd6
  have b7 := (Below.refl w6.heap.size w6).alloc (Nat.le_refl _) (.cells #[.string md, .int .u32 key, .slice A2 im.length c2, .slice A3 cd.length c3, .slice A4 fx.length c4, .slice A5 sg.length c5, .int .i64 dt, .int .i64 ex, .int .i64 bd] oT)
  have B7 := Lib.hid ((B5.out.trans (hb6.mono B5.out.size)).alloc (Nat.le_trans B5.out.size hb6.size) (.cells #[.string md, .int .u32 key, .slice A2 im.length c2, .slice A3 cd.length c3, .slice A4 fx.length c4, .slice A5 sg.length c5, .int .i64 dt, .int .i64 ex, .int .i64 bd] oT))
  have X7 := Lib.hid ((X5.out.below hb6 X5.out.lt).below b7 (Nat.lt_of_lt_of_le X5.out.lt hb6.size))
  have N7 := Lib.hid ((N5.out.below hb6).below b7)
  have Z7 := Lib.hid (Whole.made w6 oT #[.string md, .int .u32 key, .slice A2 im.length c2, .slice A3 cd.length c3, .slice A4 fx.length c4, .slice A5 sg.length c5, .int .i64 dt, .int .i64 ex, .int .i64 bd] _ rfl)
  have V7 := Lib.hid (hv6.below b7)
  clear hd6 hb6 hv6 b7 D5 UD B5 X5 N5
  go_wp2_with fail
  generalize w6.heap.size = p at *
  generalize hV : w6.alloc (.cells #[.string md, .int .u32 key, .slice A2 im.length c2, .slice A3 cd.length c3, .slice A4 fx.length c4, .slice A5 sg.length c5, .int .i64 dt, .int .i64 ex, .int .i64 bd] oT) = V at *
  clear hV
  have C := Lib.hid (fun y (hy : Below V.heap.size V y) => show (fun y => Below V.heap.size V y ∧ y.cell? ⟨W.heap.size, 0, none⟩ = some (.string md) ∧ y.cell? ⟨W.heap.size, 1, none⟩ = some (.int .u32 key) ∧ y.cell? ⟨W.heap.size, 2, none⟩ = some (.slice Ai im.length ci) ∧ y.cell? ⟨W.heap.size, 3, none⟩ = some (.slice Ac cd.length cc) ∧ y.cell? ⟨W.heap.size, 4, none⟩ = some (.slice Af fx.length cf) ∧ y.cell? ⟨W.heap.size, 5, none⟩ = some (.slice As sg.length cs) ∧ y.cell? ⟨W.heap.size, 6, none⟩ = some (.int .i64 dt) ∧ y.cell? ⟨W.heap.size, 7, none⟩ = some (.int .i64 ex) ∧ y.cell? ⟨W.heap.size, 8, none⟩ = some (.int .i64 bd) ∧ y.cell? ⟨p, 0, none⟩ = some (.string md) ∧ y.cell? ⟨p, 1, none⟩ = some (.int .u32 key) ∧ y.cell? ⟨p, 2, none⟩ = some (.slice A2 im.length c2) ∧ y.cell? ⟨p, 3, none⟩ = some (.slice A3 cd.length c3) ∧ y.cell? ⟨p, 4, none⟩ = some (.slice A4 fx.length c4) ∧ y.cell? ⟨p, 5, none⟩ = some (.slice A5 sg.length c5) ∧ y.cell? ⟨p, 6, none⟩ = some (.int .i64 dt) ∧ y.cell? ⟨p, 7, none⟩ = some (.int .i64 ex) ∧ y.cell? ⟨p, 8, none⟩ = some (.int .i64 bd)) y from ⟨hy, (X7.out.below hy X7.out.lt).cell 0, (X7.out.below hy X7.out.lt).cell 1, (X7.out.below hy X7.out.lt).cell 2, (X7.out.below hy X7.out.lt).cell 3, (X7.out.below hy X7.out.lt).cell 4, (X7.out.below hy X7.out.lt).cell 5, (X7.out.below hy X7.out.lt).cell 6, (X7.out.below hy X7.out.lt).cell 7, (X7.out.below hy X7.out.lt).cell 8, (Z7.out.below hy Z7.out.lt).cell 0, (Z7.out.below hy Z7.out.lt).cell 1, (Z7.out.below hy Z7.out.lt).cell 2, (Z7.out.below hy Z7.out.lt).cell 3, (Z7.out.below hy Z7.out.lt).cell 4, (Z7.out.below hy Z7.out.lt).cell 5, (Z7.out.below hy Z7.out.lt).cell 6, (Z7.out.below hy Z7.out.lt).cell 7, (Z7.out.below hy Z7.out.lt).cell 8⟩)
  have L0 := C.out V.drew (Below.refl _ _).drew
  have BV := Lib.hid (fun y (hy : Below V.heap.size V y) => B7.out.trans (hy.mono B7.out.size))
  have RF := Lib.hid (show ∀ y, (fun y => Below V.heap.size V y ∧ y.cell? ⟨W.heap.size, 0, none⟩ = some (.string md) ∧ y.cell? ⟨W.heap.size, 1, none⟩ = some (.int .u32 key) ∧ y.cell? ⟨W.heap.size, 2, none⟩ = some (.slice Ai im.length ci) ∧ y.cell? ⟨W.heap.size, 3, none⟩ = some (.slice Ac cd.length cc) ∧ y.cell? ⟨W.heap.size, 4, none⟩ = some (.slice Af fx.length cf) ∧ y.cell? ⟨W.heap.size, 5, none⟩ = some (.slice As sg.length cs) ∧ y.cell? ⟨W.heap.size, 6, none⟩ = some (.int .i64 dt) ∧ y.cell? ⟨W.heap.size, 7, none⟩ = some (.int .i64 ex) ∧ y.cell? ⟨W.heap.size, 8, none⟩ = some (.int .i64 bd) ∧ y.cell? ⟨p, 0, none⟩ = some (.string md) ∧ y.cell? ⟨p, 1, none⟩ = some (.int .u32 key) ∧ y.cell? ⟨p, 2, none⟩ = some (.slice A2 im.length c2) ∧ y.cell? ⟨p, 3, none⟩ = some (.slice A3 cd.length c3) ∧ y.cell? ⟨p, 4, none⟩ = some (.slice A4 fx.length c4) ∧ y.cell? ⟨p, 5, none⟩ = some (.slice A5 sg.length c5) ∧ y.cell? ⟨p, 6, none⟩ = some (.int .i64 dt) ∧ y.cell? ⟨p, 7, none⟩ = some (.int .i64 ex) ∧ y.cell? ⟨p, 8, none⟩ = some (.int .i64 bd)) y → Calls Try.prog 9 #[.agg #[.string md, .int .u32 key, .slice Ai im.length ci, .slice Ac cd.length cc, .slice Af fx.length cf, .slice As sg.length cs, .int .i64 dt, .int .i64 ex, .int .i64 bd]] y (fun e y' => e = .returned (.agg #[.string md, .int .u32 key, .slice Ai im.length ci, .slice Ac cd.length cc, .slice Af fx.length cf, .slice As sg.length cs, .int .i64 dt, .int .i64 ex, .int .i64 bd]) ∧ (fun y => Below V.heap.size V y ∧ y.cell? ⟨W.heap.size, 0, none⟩ = some (.string md) ∧ y.cell? ⟨W.heap.size, 1, none⟩ = some (.int .u32 key) ∧ y.cell? ⟨W.heap.size, 2, none⟩ = some (.slice Ai im.length ci) ∧ y.cell? ⟨W.heap.size, 3, none⟩ = some (.slice Ac cd.length cc) ∧ y.cell? ⟨W.heap.size, 4, none⟩ = some (.slice Af fx.length cf) ∧ y.cell? ⟨W.heap.size, 5, none⟩ = some (.slice As sg.length cs) ∧ y.cell? ⟨W.heap.size, 6, none⟩ = some (.int .i64 dt) ∧ y.cell? ⟨W.heap.size, 7, none⟩ = some (.int .i64 ex) ∧ y.cell? ⟨W.heap.size, 8, none⟩ = some (.int .i64 bd) ∧ y.cell? ⟨p, 0, none⟩ = some (.string md) ∧ y.cell? ⟨p, 1, none⟩ = some (.int .u32 key) ∧ y.cell? ⟨p, 2, none⟩ = some (.slice A2 im.length c2) ∧ y.cell? ⟨p, 3, none⟩ = some (.slice A3 cd.length c3) ∧ y.cell? ⟨p, 4, none⟩ = some (.slice A4 fx.length c4) ∧ y.cell? ⟨p, 5, none⟩ = some (.slice A5 sg.length c5) ∧ y.cell? ⟨p, 6, none⟩ = some (.int .i64 dt) ∧ y.cell? ⟨p, 7, none⟩ = some (.int .i64 ex) ∧ y.cell? ⟨p, 8, none⟩ = some (.int .i64 bd)) y') from fun y hy => (ref15_any md key Ai im ci Ac cd cc Af fx cf As sg cs dt ex bd y).mono (fun e y' h => ⟨h.1, C.out y' (hy.1.trans (h.2.mono hy.1.size))⟩))
  have RY := Lib.hid (show ∀ y, (fun y => Below V.heap.size V y ∧ y.cell? ⟨W.heap.size, 0, none⟩ = some (.string md) ∧ y.cell? ⟨W.heap.size, 1, none⟩ = some (.int .u32 key) ∧ y.cell? ⟨W.heap.size, 2, none⟩ = some (.slice Ai im.length ci) ∧ y.cell? ⟨W.heap.size, 3, none⟩ = some (.slice Ac cd.length cc) ∧ y.cell? ⟨W.heap.size, 4, none⟩ = some (.slice Af fx.length cf) ∧ y.cell? ⟨W.heap.size, 5, none⟩ = some (.slice As sg.length cs) ∧ y.cell? ⟨W.heap.size, 6, none⟩ = some (.int .i64 dt) ∧ y.cell? ⟨W.heap.size, 7, none⟩ = some (.int .i64 ex) ∧ y.cell? ⟨W.heap.size, 8, none⟩ = some (.int .i64 bd) ∧ y.cell? ⟨p, 0, none⟩ = some (.string md) ∧ y.cell? ⟨p, 1, none⟩ = some (.int .u32 key) ∧ y.cell? ⟨p, 2, none⟩ = some (.slice A2 im.length c2) ∧ y.cell? ⟨p, 3, none⟩ = some (.slice A3 cd.length c3) ∧ y.cell? ⟨p, 4, none⟩ = some (.slice A4 fx.length c4) ∧ y.cell? ⟨p, 5, none⟩ = some (.slice A5 sg.length c5) ∧ y.cell? ⟨p, 6, none⟩ = some (.int .i64 dt) ∧ y.cell? ⟨p, 7, none⟩ = some (.int .i64 ex) ∧ y.cell? ⟨p, 8, none⟩ = some (.int .i64 bd)) y → Calls Try.prog 13 #[.agg #[.string md, .int .u32 key, .slice Ai im.length ci, .slice Ac cd.length cc, .slice Af fx.length cf, .slice As sg.length cs, .int .i64 dt, .int .i64 ex, .int .i64 bd]] y (fun e y' => ∃ A c, e = .returned (.slice A FB.length c) ∧ Nums .u8 y' A FB.length FB ∧ (fun y => Below V.heap.size V y ∧ y.cell? ⟨W.heap.size, 0, none⟩ = some (.string md) ∧ y.cell? ⟨W.heap.size, 1, none⟩ = some (.int .u32 key) ∧ y.cell? ⟨W.heap.size, 2, none⟩ = some (.slice Ai im.length ci) ∧ y.cell? ⟨W.heap.size, 3, none⟩ = some (.slice Ac cd.length cc) ∧ y.cell? ⟨W.heap.size, 4, none⟩ = some (.slice Af fx.length cf) ∧ y.cell? ⟨W.heap.size, 5, none⟩ = some (.slice As sg.length cs) ∧ y.cell? ⟨W.heap.size, 6, none⟩ = some (.int .i64 dt) ∧ y.cell? ⟨W.heap.size, 7, none⟩ = some (.int .i64 ex) ∧ y.cell? ⟨W.heap.size, 8, none⟩ = some (.int .i64 bd) ∧ y.cell? ⟨p, 0, none⟩ = some (.string md) ∧ y.cell? ⟨p, 1, none⟩ = some (.int .u32 key) ∧ y.cell? ⟨p, 2, none⟩ = some (.slice A2 im.length c2) ∧ y.cell? ⟨p, 3, none⟩ = some (.slice A3 cd.length c3) ∧ y.cell? ⟨p, 4, none⟩ = some (.slice A4 fx.length c4) ∧ y.cell? ⟨p, 5, none⟩ = some (.slice A5 sg.length c5) ∧ y.cell? ⟨p, 6, none⟩ = some (.int .i64 dt) ∧ y.cell? ⟨p, 7, none⟩ = some (.int .i64 ex) ∧ y.cell? ⟨p, 8, none⟩ = some (.int .i64 bd)) y') from fun y hy => (RB.out y (BV.out y hy.1)).mono (fun e y' h => by
    obtain ⟨A, c, h1, h2, h3⟩ := h
    exact ⟨A, c, h1, h3, C.out y' (hy.1.trans (h2.mono hy.1.size))⟩))
  have SY := Lib.hid (show ∀ A c y, (fun y => Below V.heap.size V y ∧ y.cell? ⟨W.heap.size, 0, none⟩ = some (.string md) ∧ y.cell? ⟨W.heap.size, 1, none⟩ = some (.int .u32 key) ∧ y.cell? ⟨W.heap.size, 2, none⟩ = some (.slice Ai im.length ci) ∧ y.cell? ⟨W.heap.size, 3, none⟩ = some (.slice Ac cd.length cc) ∧ y.cell? ⟨W.heap.size, 4, none⟩ = some (.slice Af fx.length cf) ∧ y.cell? ⟨W.heap.size, 5, none⟩ = some (.slice As sg.length cs) ∧ y.cell? ⟨W.heap.size, 6, none⟩ = some (.int .i64 dt) ∧ y.cell? ⟨W.heap.size, 7, none⟩ = some (.int .i64 ex) ∧ y.cell? ⟨W.heap.size, 8, none⟩ = some (.int .i64 bd) ∧ y.cell? ⟨p, 0, none⟩ = some (.string md) ∧ y.cell? ⟨p, 1, none⟩ = some (.int .u32 key) ∧ y.cell? ⟨p, 2, none⟩ = some (.slice A2 im.length c2) ∧ y.cell? ⟨p, 3, none⟩ = some (.slice A3 cd.length c3) ∧ y.cell? ⟨p, 4, none⟩ = some (.slice A4 fx.length c4) ∧ y.cell? ⟨p, 5, none⟩ = some (.slice A5 sg.length c5) ∧ y.cell? ⟨p, 6, none⟩ = some (.int .i64 dt) ∧ y.cell? ⟨p, 7, none⟩ = some (.int .i64 ex) ∧ y.cell? ⟨p, 8, none⟩ = some (.int .i64 bd)) y → Nums .u8 y A FB.length FB → Calls Try.prog 12 #[.slice A9 FB.length c9, .slice A FB.length c] y (fun e y' => e = .returned (.bool true) ∧ (fun y => Below V.heap.size V y ∧ y.cell? ⟨W.heap.size, 0, none⟩ = some (.string md) ∧ y.cell? ⟨W.heap.size, 1, none⟩ = some (.int .u32 key) ∧ y.cell? ⟨W.heap.size, 2, none⟩ = some (.slice Ai im.length ci) ∧ y.cell? ⟨W.heap.size, 3, none⟩ = some (.slice Ac cd.length cc) ∧ y.cell? ⟨W.heap.size, 4, none⟩ = some (.slice Af fx.length cf) ∧ y.cell? ⟨W.heap.size, 5, none⟩ = some (.slice As sg.length cs) ∧ y.cell? ⟨W.heap.size, 6, none⟩ = some (.int .i64 dt) ∧ y.cell? ⟨W.heap.size, 7, none⟩ = some (.int .i64 ex) ∧ y.cell? ⟨W.heap.size, 8, none⟩ = some (.int .i64 bd) ∧ y.cell? ⟨p, 0, none⟩ = some (.string md) ∧ y.cell? ⟨p, 1, none⟩ = some (.int .u32 key) ∧ y.cell? ⟨p, 2, none⟩ = some (.slice A2 im.length c2) ∧ y.cell? ⟨p, 3, none⟩ = some (.slice A3 cd.length c3) ∧ y.cell? ⟨p, 4, none⟩ = some (.slice A4 fx.length c4) ∧ y.cell? ⟨p, 5, none⟩ = some (.slice A5 sg.length c5) ∧ y.cell? ⟨p, 6, none⟩ = some (.int .i64 dt) ∧ y.cell? ⟨p, 7, none⟩ = some (.int .i64 ex) ∧ y.cell? ⟨p, 8, none⟩ = some (.int .i64 bd)) y') from fun A c y hy hn => (same_any A9 A FB.length FB.length c9 c FB FB y (by omega) (N7.out.below hy.1) hn).mono (fun e y' h => ⟨by rw [h.1, decide_eq_true rfl], C.out y' (hy.1.trans (h.2.mono hy.1.size))⟩))
  have IY := Lib.hid (show ∀ y, (fun y => Below V.heap.size V y ∧ y.cell? ⟨W.heap.size, 0, none⟩ = some (.string md) ∧ y.cell? ⟨W.heap.size, 1, none⟩ = some (.int .u32 key) ∧ y.cell? ⟨W.heap.size, 2, none⟩ = some (.slice Ai im.length ci) ∧ y.cell? ⟨W.heap.size, 3, none⟩ = some (.slice Ac cd.length cc) ∧ y.cell? ⟨W.heap.size, 4, none⟩ = some (.slice Af fx.length cf) ∧ y.cell? ⟨W.heap.size, 5, none⟩ = some (.slice As sg.length cs) ∧ y.cell? ⟨W.heap.size, 6, none⟩ = some (.int .i64 dt) ∧ y.cell? ⟨W.heap.size, 7, none⟩ = some (.int .i64 ex) ∧ y.cell? ⟨W.heap.size, 8, none⟩ = some (.int .i64 bd) ∧ y.cell? ⟨p, 0, none⟩ = some (.string md) ∧ y.cell? ⟨p, 1, none⟩ = some (.int .u32 key) ∧ y.cell? ⟨p, 2, none⟩ = some (.slice A2 im.length c2) ∧ y.cell? ⟨p, 3, none⟩ = some (.slice A3 cd.length c3) ∧ y.cell? ⟨p, 4, none⟩ = some (.slice A4 fx.length c4) ∧ y.cell? ⟨p, 5, none⟩ = some (.slice A5 sg.length c5) ∧ y.cell? ⟨p, 6, none⟩ = some (.int .i64 dt) ∧ y.cell? ⟨p, 7, none⟩ = some (.int .i64 ex) ∧ y.cell? ⟨p, 8, none⟩ = some (.int .i64 bd)) y → Calls Try.prog 14 #[.agg #[.string md, .int .u32 key, .slice A2 im.length c2, .slice A3 cd.length c3, .slice A4 fx.length c4, .slice A5 sg.length c5, .int .i64 dt, .int .i64 ex, .int .i64 bd], .agg #[.string md, .int .u32 key, .slice Ai im.length ci, .slice Ac cd.length cc, .slice Af fx.length cf, .slice As sg.length cs, .int .i64 dt, .int .i64 ex, .int .i64 bd]] y (fun e y' => e = .returned (.bool true) ∧ (fun y => Below V.heap.size V y ∧ y.cell? ⟨W.heap.size, 0, none⟩ = some (.string md) ∧ y.cell? ⟨W.heap.size, 1, none⟩ = some (.int .u32 key) ∧ y.cell? ⟨W.heap.size, 2, none⟩ = some (.slice Ai im.length ci) ∧ y.cell? ⟨W.heap.size, 3, none⟩ = some (.slice Ac cd.length cc) ∧ y.cell? ⟨W.heap.size, 4, none⟩ = some (.slice Af fx.length cf) ∧ y.cell? ⟨W.heap.size, 5, none⟩ = some (.slice As sg.length cs) ∧ y.cell? ⟨W.heap.size, 6, none⟩ = some (.int .i64 dt) ∧ y.cell? ⟨W.heap.size, 7, none⟩ = some (.int .i64 ex) ∧ y.cell? ⟨W.heap.size, 8, none⟩ = some (.int .i64 bd) ∧ y.cell? ⟨p, 0, none⟩ = some (.string md) ∧ y.cell? ⟨p, 1, none⟩ = some (.int .u32 key) ∧ y.cell? ⟨p, 2, none⟩ = some (.slice A2 im.length c2) ∧ y.cell? ⟨p, 3, none⟩ = some (.slice A3 cd.length c3) ∧ y.cell? ⟨p, 4, none⟩ = some (.slice A4 fx.length c4) ∧ y.cell? ⟨p, 5, none⟩ = some (.slice A5 sg.length c5) ∧ y.cell? ⟨p, 6, none⟩ = some (.int .i64 dt) ∧ y.cell? ⟨p, 7, none⟩ = some (.int .i64 ex) ∧ y.cell? ⟨p, 8, none⟩ = some (.int .i64 bd)) y') from fun y hy => (is15_any md key A2 im c2 A3 cd c3 A4 fx c4 A5 sg c5 dt ex bd Ai ci Ac cc Af cf As cs _ _ y (V7.out.below hy.1) (HV.out.below (BV.out y hy.1)) (by omega) (by omega) (by omega) (by omega)).mono (fun e y' h => ⟨h.1, C.out y' (hy.1.trans (h.2.mono hy.1.size))⟩))
  clear HV X7 Z7 V7 N7 HN RB
  go_region_held3 (fun y => Below V.heap.size V y ∧ y.cell? ⟨W.heap.size, 0, none⟩ = some (.string md) ∧ y.cell? ⟨W.heap.size, 1, none⟩ = some (.int .u32 key) ∧ y.cell? ⟨W.heap.size, 2, none⟩ = some (.slice Ai im.length ci) ∧ y.cell? ⟨W.heap.size, 3, none⟩ = some (.slice Ac cd.length cc) ∧ y.cell? ⟨W.heap.size, 4, none⟩ = some (.slice Af fx.length cf) ∧ y.cell? ⟨W.heap.size, 5, none⟩ = some (.slice As sg.length cs) ∧ y.cell? ⟨W.heap.size, 6, none⟩ = some (.int .i64 dt) ∧ y.cell? ⟨W.heap.size, 7, none⟩ = some (.int .i64 ex) ∧ y.cell? ⟨W.heap.size, 8, none⟩ = some (.int .i64 bd) ∧ y.cell? ⟨p, 0, none⟩ = some (.string md) ∧ y.cell? ⟨p, 1, none⟩ = some (.int .u32 key) ∧ y.cell? ⟨p, 2, none⟩ = some (.slice A2 im.length c2) ∧ y.cell? ⟨p, 3, none⟩ = some (.slice A3 cd.length c3) ∧ y.cell? ⟨p, 4, none⟩ = some (.slice A4 fx.length c4) ∧ y.cell? ⟨p, 5, none⟩ = some (.slice A5 sg.length c5) ∧ y.cell? ⟨p, 6, none⟩ = some (.int .i64 dt) ∧ y.cell? ⟨p, 7, none⟩ = some (.int .i64 ex) ∧ y.cell? ⟨p, 8, none⟩ = some (.int .i64 bd))
    (first
      | with_reducible assumption
      | with_reducible exact L0
      | fail)
    (first
      | (go_at_call 9; refine (RF.out _ (by assumption)).mono ?_; rintro e y0 ⟨rfl, hs0⟩)
      | (go_at_call 13; refine (RY.out _ (by assumption)).mono ?_; rintro e y1 ⟨A8, c8, rfl, hn8, hs1⟩; have N8 := Lib.hid hn8; clear hn8)
      | (go_at_call 12; refine (SY.out _ _ _ (by assumption) N8.out).mono ?_; rintro e y2 ⟨rfl, hs2⟩)
      | (go_at_call 14; refine (IY.out _ (by assumption)).mono ?_; rintro e y3 ⟨rfl, hs3⟩))
  all_goals
    rename_i hH
    have BH := Lib.hid (BV.out _ hH.1)
    clear hH L0 C RF RY SY IY
    go_wp2_with fail
    go_ret
    exact ⟨rfl, BH.out⟩

set_option maxRecDepth 100000 in
theorem lifted (os : Os) (started : os.Started) (H : Type) (enc : TypeId × Value → H) :
    ReturnsInHanded {} Try.checked os 4 .any (Rows.objfileBytesSpec.pre6 enc Try.prog Try.f4 Rows.objfileBytesRow.domain false) (Rows.objfileBytesSpec.post enc Try.prog Try.f4 false true false false) := by
  refine returnsInHanded_of_change_sized (C := Try.checked) Try.own started (by kernel_rfl) Try.func4
    (ChangeSpec.witness6 (enc := enc) (C := Try.checked) false ⟨#[], #[.agg #[.string ⟨#[]⟩, .int .u32 0, .slice none 0 0, .slice none 0 0, .slice none 0 0, .slice none 0 0, .int .i64 0, .int .i64 0, .int .i64 0]], []⟩ 8 (by kernel_rfl) (by kernel_rfl) (by kernel_rfl) (by kernel_rfl)) ?_
  intro W base args ds gs before hval0 hW hcnd hsz _
  have hval : ∀ (j : Nat) t v, Try.f4.params[j]? = some t → args[j]? = some v → Value.okWide Try.prog W .any base t v := hval0
  have hW' := hW
  obtain ⟨p, q, hA0, hV, rfl, hfz, hnd⟩ := hW
  have hA : DataW.TrodAll enc Try.prog W 0 (fun _ => true) true Try.f4.params.toList args.toList ds p := hA0
  rw [Try.params4] at hA hval
  obtain ⟨v0, vs0, d0, ds0, p0, q0, hargs, rfl, rfl, h0, r0⟩ := trodAll_cons hA
  obtain ⟨rfl, rfl, rfl⟩ := trodAll_nil r0
  obtain rfl : args = #[v0] := by cases args; simp_all
  clear hA0 hval0
  obtain ⟨md0, key0, Ai0, im0, ci0, Ac0, cd0, cc0, Af0, fx0, cf0, As0, sg0, cs0, dt0, ex0, bd0, rfl, hF0⟩ := open_object (hval 0 28 v0 rfl rfl) h0 (fun k hk => Nat.le_trans (of_decide_eq_true (List.all_eq_true.1 hsz _ (DataW.weights_mem_each (j := 0) (t := 28) rfl rfl _ hk))) (by decide))
  refine (walk W md0 key0 Ai0 im0 ci0 Ac0 cd0 cc0 Af0 fx0 cf0 As0 sg0 cs0 dt0 ex0 bd0 hF0).mono fun e W' ⟨he, hg⟩ => ?_
  subst he
  exact ⟨_, rfl, law_post Try.laidOut Try.mapsRowed Try.slicesFull (by kernel_rfl) rfl (by kernel_rfl) Try.underlying4 rfl hW' hg⟩

theorem over : Rows.objfileBytesRow.holds Try.pinned (OpenSpec.ofChange Rows.objfileBytesSpec) :=
  OpenClaim.holds_of_wide 4 Try.f4 rfl rfl rfl rfl rfl rfl rfl ⟨rfl, rfl, rfl, rfl, rfl⟩ rfl rfl rfl rfl rfl (by kernel_rfl) Try.func4 (by kernel_rfl)
    (of_decide_eq_true (by kernel_rfl)) (by unfold Func.isWrapper; first | (rw [if_pos (by decide +kernel)]; kernel_rfl) | (rw [if_neg (by decide +kernel)]; exact ⟨rfl, rfl⟩))
    (fun os started H enc _ => lifted os started H enc)

theorem proved : Rows.ObjfileBytesSaid :=
  over
end Go.Proofs.Ytdakooipelligaa.lawObjfileBytes
