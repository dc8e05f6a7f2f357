/- pascalinelaw14.SymfileMakes returns true for any two files: what Make returns has the module, the imports and the exports it was given and the key that they have, and which files are the same is what the document's answer says (files of more than 80 imports or 60 exports, with a name of more than 200 bytes or an export of more than 40 parameters are let go, as the statement says); the page's example holds; its arguments read behind the call as before. Condition: none. -/
import Derived.Test.YthmjniedfiabhaaRows
import Derived.Test.YthmjniedfiabhaaLift
import Derived.Test.YthmjniedfiabhaaSymN
import Derived.SizedLaws
namespace Go.Proofs.Ythmjniedfiabhaa.lawSymfileMakes
open Go.ChangeShapes Go.WideShapes Go.ChangeAt Go.RowKit
set_option linter.unusedVariables false
theorem sm_ex {es : List Exx} {md : ByteArray} {im : List Im} (h : smF md im es) (hk : ∀ e ∈ es, e.1.nm.size ≤ 140737488355328 ∧ e.1.ps.length * 16 ≤ 140737488355328 ∧ ExOk e.1) : FlSm md es :=
  ⟨h.1.2.2, h.1.2.1, fun x hx => ⟨(h.2 x hx).1, by have := (h.2 x hx).2; omega, (hk x hx).2.2⟩⟩

/-- A file with the key of its module and exports is not refused for its key. -/
theorem made_key (md : ByteArray) (im : List Im) (l : List Ex) (h60 : l.length ≤ 60) : checkP ⟨md, keyP md l, im, l⟩ ≠ 142 := by
  have hno : ∀ (seen : List ByteArray) (l : List Im), impsE seen l ≠ 142 := by
    intro seen l
    induction l generalizing seen with
    | nil => exact (by decide : (0 : Int) ≠ 142)
    | cons x l ih =>
      unfold impsE
      split
      · decide
      · split
        · decide
        · exact ih _
  have hmay : ∀ x : Ex, mayP x ≠ 142 := by
    intro x
    unfold mayP
    split
    · decide
    · split <;> decide
  have hne : ∀ (seen : List ByteArray) (l : List Ex), expsE seen l ≠ 142 := by
    intro seen l
    induction l generalizing seen with
    | nil => exact (by decide : (0 : Int) ≠ 142)
    | cons x l ih =>
      unfold expsE
      split
      · exact hmay x
      · split
        · decide
        · exact ih _
  unfold checkP
  split
  · decide
  · split
    · show importsE md im ≠ 142
      unfold importsE
      split
      · decide
      · exact hno _ _
    · split
      · decide
      · split
        · exact hne _ _
        · rw [if_neg (fun h => h rfl)]
          decide

set_option maxHeartbeats 32000000 in
set_option maxRecDepth 100000 in
theorem walk (W : World) (md : ByteArray) (key : Int) (Ai : Option Addr) (im : List Im) (ci : Nat) (Ae : Option Addr) (es : List Exx) (ce : Nat) (hF : FlIn W md key Ai im ci Ae es ce) (md' : ByteArray) (key' : Int) (Ai' : Option Addr) (im' : List Im) (ci' : Nat) (Ae' : Option Addr) (es' : List Exx) (ce' : Nat) (hF' : FlIn W md' key' Ai' im' ci' Ae' es' ce') :
    Calls Try.prog 5 #[.agg #[.string md, .int .u32 key, .slice Ai im.length ci, .slice Ae es.length ce], .agg #[.string md', .int .u32 key', .slice Ai' im'.length ci', .slice Ae' es'.length ce']] W fun e w' => e = .returned (.bool true) ∧ Below W.heap.size W w' := by
  have B0 := Lib.hid (show Below W.heap.size W ((W.alloc (.cells #[.string md, .int .u32 key, .slice Ai im.length ci, .slice Ae es.length ce] flT)).alloc (.cells #[.string md', .int .u32 key', .slice Ai' im'.length ci', .slice Ae' es'.length ce'] flT)) from ((Below.refl W.heap.size W).alloc (Nat.le_refl _) _).alloc (by simp) _)
  have X0 := Lib.hid ((Whole.made W flT #[.string md, .int .u32 key, .slice Ai im.length ci, .slice Ae es.length ce] _ rfl).alloc (.cells #[.string md', .int .u32 key', .slice Ai' im'.length ci', .slice Ae' es'.length ce'] flT))
  have Y0 := Lib.hid (Whole.made (W.alloc (.cells #[.string md, .int .u32 key, .slice Ai im.length ci, .slice Ae es.length ce] flT)) flT #[.string md', .int .u32 key', .slice Ai' im'.length ci', .slice Ae' es'.length ce'] (W.heap.size + 1) (by simp))
  have AW := Lib.hid (awake14_any ((W.alloc (.cells #[.string md, .int .u32 key, .slice Ai im.length ci, .slice Ae es.length ce] flT)).alloc (.cells #[.string md', .int .u32 key', .slice Ai' im'.length ci', .slice Ae' es'.length ce'] flT)))
  have HI := Lib.hid hF.ims
  have HE := Lib.hid hF.exs
  have hin := hF.imn
  have hen := hF.exn
  have hmd := hF.md
  have HIO := Lib.hid (fun x hx => (hF.imo x hx).1)
  have HEO := Lib.hid (fun e he => hF.exo e he)
  have SL := Lib.hid (fun w (hb : Below W.heap.size W w) => small14_any md key Ai im ci Ae es ce W.heap.size w (HE.out.below hb).toR (by omega) (by omega) hmd (fun e he => ⟨(HEO.out e he).1, (HEO.out e he).2.1⟩))
  have HI' := Lib.hid hF'.ims
  have HE' := Lib.hid hF'.exs
  have hin' := hF'.imn
  have hen' := hF'.exn
  have hmd' := hF'.md
  have HIO' := Lib.hid (fun x hx => (hF'.imo x hx).1)
  have HEO' := Lib.hid (fun e he => hF'.exo e he)
  have SL' := Lib.hid (fun w (hb : Below W.heap.size W w) => small14_any md' key' Ai' im' ci' Ae' es' ce' W.heap.size w (HE'.out.below hb).toR (by omega) (by omega) hmd' (fun e he => ⟨(HEO'.out e he).1, (HEO'.out e he).2.1⟩))
  by_cases hs : smF md im es
  case neg =>
    rw [decide_eq_false hs] at SL
    clear hs hF hF'
    go_enter Try.func5, Try.ntmps5
    go_wp2_with fail
    refine AW.out.mono ?_
    rintro e w1 ⟨rfl, hb1⟩
    have B1 := Lib.hid (B0.out.trans (hb1.mono B0.out.size))
    have X1 := Lib.hid (X0.out.below hb1 X0.out.lt)
    have Y1 := Lib.hid (Y0.out.below hb1 Y0.out.lt)
    have S1 := Lib.hid (SL.out w1 B1.out)
    have q0 : w1.cell? ⟨W.heap.size, 0, none⟩ = some (.string md) := X1.out.cell 0
    have q1 : w1.cell? ⟨W.heap.size, 1, none⟩ = some (.int .u32 key) := X1.out.cell 1
    have q2 : w1.cell? ⟨W.heap.size, 2, none⟩ = some (.slice Ai im.length ci) := X1.out.cell 2
    have q3 : w1.cell? ⟨W.heap.size, 3, none⟩ = some (.slice Ae es.length ce) := X1.out.cell 3
    clear hb1 AW B0 X0 Y0
    go_wp2_with fail
    clear q0 q1 q2 q3
    refine S1.out.mono ?_
    rintro e w2 ⟨rfl, hb2⟩
    have B2 := Lib.hid (B1.out.trans (hb2.mono B1.out.size))
    have X2 := Lib.hid (X1.out.below hb2 X1.out.lt)
    have Y2 := Lib.hid (Y1.out.below hb2 Y1.out.lt)
    clear hb2 S1 B1 X1 Y1
    go_wp2_with fail
    go_ret
    exact ⟨rfl, B2.out⟩
  have SM := Lib.hid (sm_ex hs HEO.out)
  rw [decide_eq_true hs] at SL
  clear hs
  by_cases hs' : smF md' im' es'
  case neg =>
    rw [decide_eq_false hs'] at SL'
    clear hs' hF hF'
    go_enter Try.func5, Try.ntmps5
    go_wp2_with fail
    refine AW.out.mono ?_
    rintro e w1 ⟨rfl, hb1⟩
    have B1 := Lib.hid (B0.out.trans (hb1.mono B0.out.size))
    have X1 := Lib.hid (X0.out.below hb1 X0.out.lt)
    have Y1 := Lib.hid (Y0.out.below hb1 Y0.out.lt)
    have S1 := Lib.hid (SL.out w1 B1.out)
    have q0 : w1.cell? ⟨W.heap.size, 0, none⟩ = some (.string md) := X1.out.cell 0
    have q1 : w1.cell? ⟨W.heap.size, 1, none⟩ = some (.int .u32 key) := X1.out.cell 1
    have q2 : w1.cell? ⟨W.heap.size, 2, none⟩ = some (.slice Ai im.length ci) := X1.out.cell 2
    have q3 : w1.cell? ⟨W.heap.size, 3, none⟩ = some (.slice Ae es.length ce) := X1.out.cell 3
    clear hb1 AW B0 X0 Y0
    go_wp2_with fail
    clear q0 q1 q2 q3
    refine S1.out.mono ?_
    rintro e w2 ⟨rfl, hb2⟩
    have B2 := Lib.hid (B1.out.trans (hb2.mono B1.out.size))
    have X2 := Lib.hid (X1.out.below hb2 X1.out.lt)
    have Y2 := Lib.hid (Y1.out.below hb2 Y1.out.lt)
    clear hb2 S1 B1 X1 Y1
    have S2 := Lib.hid (SL'.out w2 B2.out)
    have r0 : w2.cell? ⟨W.heap.size + 1, 0, none⟩ = some (.string md') := Y2.out.cell 0
    have r1 : w2.cell? ⟨W.heap.size + 1, 1, none⟩ = some (.int .u32 key') := Y2.out.cell 1
    have r2 : w2.cell? ⟨W.heap.size + 1, 2, none⟩ = some (.slice Ai' im'.length ci') := Y2.out.cell 2
    have r3 : w2.cell? ⟨W.heap.size + 1, 3, none⟩ = some (.slice Ae' es'.length ce') := Y2.out.cell 3
    go_wp2_with fail
    clear r0 r1 r2 r3
    refine S2.out.mono ?_
    rintro e w3 ⟨rfl, hb3⟩
    have B3 := Lib.hid (B2.out.trans (hb3.mono B2.out.size))
    have X3 := Lib.hid (X2.out.below hb3 X2.out.lt)
    have Y3 := Lib.hid (Y2.out.below hb3 Y2.out.lt)
    clear hb3 S2 B2 X2 Y2
    go_wp2_with fail
    go_ret
    exact ⟨rfl, B3.out⟩
  have SM' := Lib.hid (sm_ex hs' HEO'.out)
  rw [decide_eq_true hs'] at SL'
  clear hs' hF hF'
  go_enter Try.func5, Try.ntmps5
  go_wp2_with fail
  refine AW.out.mono ?_
  rintro e w1 ⟨rfl, hb1⟩
  have B1 := Lib.hid (B0.out.trans (hb1.mono B0.out.size))
  have X1 := Lib.hid (X0.out.below hb1 X0.out.lt)
  have Y1 := Lib.hid (Y0.out.below hb1 Y0.out.lt)
  have S1 := Lib.hid (SL.out w1 B1.out)
  have q0 : w1.cell? ⟨W.heap.size, 0, none⟩ = some (.string md) := X1.out.cell 0
  have q1 : w1.cell? ⟨W.heap.size, 1, none⟩ = some (.int .u32 key) := X1.out.cell 1
  have q2 : w1.cell? ⟨W.heap.size, 2, none⟩ = some (.slice Ai im.length ci) := X1.out.cell 2
  have q3 : w1.cell? ⟨W.heap.size, 3, none⟩ = some (.slice Ae es.length ce) := X1.out.cell 3
  clear hb1 AW B0 X0 Y0
  go_wp2_with fail
  clear q0 q1 q2 q3
  refine S1.out.mono ?_
  rintro e w2 ⟨rfl, hb2⟩
  have B2 := Lib.hid (B1.out.trans (hb2.mono B1.out.size))
  have X2 := Lib.hid (X1.out.below hb2 X1.out.lt)
  have Y2 := Lib.hid (Y1.out.below hb2 Y1.out.lt)
  clear hb2 S1 B1 X1 Y1
  have S2 := Lib.hid (SL'.out w2 B2.out)
  have r0 : w2.cell? ⟨W.heap.size + 1, 0, none⟩ = some (.string md') := Y2.out.cell 0
  have r1 : w2.cell? ⟨W.heap.size + 1, 1, none⟩ = some (.int .u32 key') := Y2.out.cell 1
  have r2 : w2.cell? ⟨W.heap.size + 1, 2, none⟩ = some (.slice Ai' im'.length ci') := Y2.out.cell 2
  have r3 : w2.cell? ⟨W.heap.size + 1, 3, none⟩ = some (.slice Ae' es'.length ce') := Y2.out.cell 3
  go_wp2_with fail
  clear r0 r1 r2 r3
  refine S2.out.mono ?_
  rintro e w3 ⟨rfl, hb3⟩
  have B3 := Lib.hid (B2.out.trans (hb3.mono B2.out.size))
  have X3 := Lib.hid (X2.out.below hb3 X2.out.lt)
  have Y3 := Lib.hid (Y2.out.below hb3 Y2.out.lt)
  clear hb3 S2 B2 X2 Y2
  have MK := Lib.hid (make_any md Ai im ci Ae es ce W.heap.size w3 (HI.out.below B3.out) (HE.out.below B3.out).toR.toV SM.out hin HIO.out)
  have q0 : w3.cell? ⟨W.heap.size, 0, none⟩ = some (.string md) := X3.out.cell 0
  have q1 : w3.cell? ⟨W.heap.size, 1, none⟩ = some (.int .u32 key) := X3.out.cell 1
  have q2 : w3.cell? ⟨W.heap.size, 2, none⟩ = some (.slice Ai im.length ci) := X3.out.cell 2
  have q3 : w3.cell? ⟨W.heap.size, 3, none⟩ = some (.slice Ae es.length ce) := X3.out.cell 3
  go_wp2_with fail
  clear q0 q1 q2 q3
  refine MK.out.mono ?_
  rintro e w4 ⟨vi, ve, l, rfl, hb4, hi4, he4, hm4⟩
  have HM := Lib.hid hm4
  have hl : l.length = es.length := by have := congrArg List.length hm4; rwa [List.length_map, List.length_map] at this
  have NK := Lib.hid (made_key md im (es.map (·.1)) (by rw [List.length_map]; exact SM.out.n))
  have SL2 := Lib.hid (show FlSm md l from ⟨SM.out.md, by rw [hl]; exact SM.out.n, sm_map hm4 SM.out.ex⟩)
  have HPL := Lib.hid (show ∀ x ∈ l, x.1.ps.length * 16 ≤ 140737488355328 from fun x hx => by have := (SL2.out.ex x hx).2.1; omega)
  obtain ⟨A5, c5, rfl⟩ := row_form hi4
  obtain ⟨A6, c6, rfl⟩ := row_form he4.row
  generalize keyP md (es.map (·.1)) = mk at *
  have b5 := (Below.refl w4.heap.size w4).alloc (Nat.le_refl _) (.cells #[.string md, .int .u32 mk, .slice A5 im.length c5, .slice A6 l.length c6] flT)
  have Z5 := Lib.hid (Whole.made w4 flT #[.string md, .int .u32 mk, .slice A5 im.length c5, .slice A6 l.length c6] _ rfl)
  have B5 := Lib.hid ((B3.out.trans (hb4.mono B3.out.size)).alloc (Nat.le_trans B3.out.size hb4.size) (.cells #[.string md, .int .u32 mk, .slice A5 im.length c5, .slice A6 l.length c6] flT))
  have X5 := Lib.hid ((X3.out.below hb4 X3.out.lt).below b5 (Nat.lt_of_lt_of_le X3.out.lt hb4.size))
  have Y5 := Lib.hid ((Y3.out.below hb4 Y3.out.lt).below b5 (Nat.lt_of_lt_of_le Y3.out.lt hb4.size))
  have I5 := Lib.hid ((ImV.own hi4).below b5)
  have E5 := Lib.hid (he4.below b5)
  have z0 : (w4.alloc (.cells #[.string md, .int .u32 mk, .slice A5 im.length c5, .slice A6 l.length c6] flT)).cell? ⟨w4.heap.size, 0, none⟩ = some (.string md) := Z5.out.cell 0
  have z1 : (w4.alloc (.cells #[.string md, .int .u32 mk, .slice A5 im.length c5, .slice A6 l.length c6] flT)).cell? ⟨w4.heap.size, 1, none⟩ = some (.int .u32 mk) := Z5.out.cell 1
  have z2 : (w4.alloc (.cells #[.string md, .int .u32 mk, .slice A5 im.length c5, .slice A6 l.length c6] flT)).cell? ⟨w4.heap.size, 2, none⟩ = some (.slice A5 im.length c5) := Z5.out.cell 2
  have z3 : (w4.alloc (.cells #[.string md, .int .u32 mk, .slice A5 im.length c5, .slice A6 l.length c6] flT)).cell? ⟨w4.heap.size, 3, none⟩ = some (.slice A6 l.length c6) := Z5.out.cell 3
  have hll : l.length ≤ 60 := SL2.out.n
  clear hb4 hi4 he4 hm4 MK B3 X3 Y3 b5 hl
  go_wp2_with fail
  clear z0 z1 z2 z3
  generalize w4.heap.size = p at *
  generalize hV : w4.alloc (.cells #[.string md, .int .u32 mk, .slice A5 im.length c5, .slice A6 l.length c6] flT) = V5 at *
  clear hV
  refine (ref14_any md mk A5 im c5 A6 l c6 V5).mono ?_
  rintro e w6 ⟨rfl, hb6⟩
  have CH := Lib.hid (refcheck_any md mk A5 im c5 A6 l c6 _ _ w6 (I5.out.below hb6) (E5.out.below hb6).toR SL2.out (by omega) HIO.out)
  rw [HM.out] at CH
  have B6 := Lib.hid (B5.out.trans (hb6.mono B5.out.size))
  have X6 := Lib.hid (X5.out.below hb6 X5.out.lt)
  have Y6 := Lib.hid (Y5.out.below hb6 Y5.out.lt)
  have Z6 := Lib.hid (Z5.out.below hb6 Z5.out.lt)
  have I6 := Lib.hid (I5.out.below hb6)
  have E6 := Lib.hid (E5.out.below hb6)
  generalize checkP ⟨md, mk, im, es.map (·.1)⟩ = cp at *
  clear hb6 B5 X5 Y5 Z5 I5 E5
  go_wp2_with fail
  refine CH.out.mono ?_
  rintro e w7 ⟨rfl, hb7⟩
  have B7 := Lib.hid (B6.out.trans (hb7.mono B6.out.size))
  have X7 := Lib.hid (X6.out.below hb7 X6.out.lt)
  have Y7 := Lib.hid (Y6.out.below hb7 Y6.out.lt)
  have Z7 := Lib.hid (Z6.out.below hb7 Z6.out.lt)
  have I7 := Lib.hid (I6.out.below hb7)
  have E7 := Lib.hid (E6.out.below hb7)
  have dk : (cp != 142) = true := by have := NK.out; simp [this]
  clear hb7 B6 X6 Y6 Z6 I6 E6 CH NK
  go_wp2_with fail
  generalize w7 = V at *
  have C := Lib.hid (fun y (hy : Below V.heap.size V y) => show (fun y => Below V.heap.size V y ∧ y.cell? ⟨W.heap.size, 0, none⟩ = some (.string md) ∧ y.cell? ⟨W.heap.size, 1, none⟩ = some (.int .u32 key) ∧ y.cell? ⟨W.heap.size, 2, none⟩ = some (.slice Ai im.length ci) ∧ y.cell? ⟨W.heap.size, 3, none⟩ = some (.slice Ae es.length ce) ∧ y.cell? ⟨W.heap.size + 1, 0, none⟩ = some (.string md') ∧ y.cell? ⟨W.heap.size + 1, 1, none⟩ = some (.int .u32 key') ∧ y.cell? ⟨W.heap.size + 1, 2, none⟩ = some (.slice Ai' im'.length ci') ∧ y.cell? ⟨W.heap.size + 1, 3, none⟩ = some (.slice Ae' es'.length ce') ∧ y.cell? ⟨p, 0, none⟩ = some (.string md) ∧ y.cell? ⟨p, 1, none⟩ = some (.int .u32 mk) ∧ y.cell? ⟨p, 2, none⟩ = some (.slice A5 im.length c5) ∧ y.cell? ⟨p, 3, none⟩ = some (.slice A6 l.length c6)) y from ⟨hy, (X7.out.below hy X7.out.lt).cell 0, (X7.out.below hy X7.out.lt).cell 1, (X7.out.below hy X7.out.lt).cell 2, (X7.out.below hy X7.out.lt).cell 3, (Y7.out.below hy Y7.out.lt).cell 0, (Y7.out.below hy Y7.out.lt).cell 1, (Y7.out.below hy Y7.out.lt).cell 2, (Y7.out.below hy Y7.out.lt).cell 3, (Z7.out.below hy Z7.out.lt).cell 0, (Z7.out.below hy Z7.out.lt).cell 1, (Z7.out.below hy Z7.out.lt).cell 2, (Z7.out.below hy Z7.out.lt).cell 3⟩)
  have L0 := C.out V.drew (Below.refl _ _).drew
  have BV := Lib.hid (fun y (hy : Below V.heap.size V y) => show Below W.heap.size W y from B7.out.trans (hy.mono B7.out.size))
  have PA := Lib.hid (show ∀ x ∈ es, x.1.ps.length * 16 ≤ 140737488355328 from fun x hx => (HEO.out x hx).2.1)
  have PB := Lib.hid (show ∀ x ∈ es', x.1.ps.length * 16 ≤ 140737488355328 from fun x hx => (HEO'.out x hx).2.1)
  have T1 := Lib.hid (show sameFl ⟨md, mk, im, l.map (·.1)⟩ ⟨md, mk, im, es.map (·.1)⟩ = true from sameFl_yes (by rw [HM.out]))
  have T2 := Lib.hid (show sameFl ⟨md, key, im, es.map (·.1)⟩ ⟨md, key, im, es.map (·.1)⟩ = true from sameFl_yes rfl)
  have I1 := Lib.hid (show ∀ y, (fun y => Below V.heap.size V y ∧ y.cell? ⟨W.heap.size, 0, none⟩ = some (.string md) ∧ y.cell? ⟨W.heap.size, 1, none⟩ = some (.int .u32 key) ∧ y.cell? ⟨W.heap.size, 2, none⟩ = some (.slice Ai im.length ci) ∧ y.cell? ⟨W.heap.size, 3, none⟩ = some (.slice Ae es.length ce) ∧ y.cell? ⟨W.heap.size + 1, 0, none⟩ = some (.string md') ∧ y.cell? ⟨W.heap.size + 1, 1, none⟩ = some (.int .u32 key') ∧ y.cell? ⟨W.heap.size + 1, 2, none⟩ = some (.slice Ai' im'.length ci') ∧ y.cell? ⟨W.heap.size + 1, 3, none⟩ = some (.slice Ae' es'.length ce') ∧ y.cell? ⟨p, 0, none⟩ = some (.string md) ∧ y.cell? ⟨p, 1, none⟩ = some (.int .u32 mk) ∧ y.cell? ⟨p, 2, none⟩ = some (.slice A5 im.length c5) ∧ y.cell? ⟨p, 3, none⟩ = some (.slice A6 l.length c6)) y → Calls Try.prog 22 #[.agg #[.string md, .int .u32 mk, .slice A5 im.length c5, .slice A6 l.length c6], .agg #[.string md, .int .u32 mk, .slice Ai im.length ci, .slice Ae es.length ce]] y (fun e y' => e = .returned (.bool true) ∧ (fun y => Below V.heap.size V y ∧ y.cell? ⟨W.heap.size, 0, none⟩ = some (.string md) ∧ y.cell? ⟨W.heap.size, 1, none⟩ = some (.int .u32 key) ∧ y.cell? ⟨W.heap.size, 2, none⟩ = some (.slice Ai im.length ci) ∧ y.cell? ⟨W.heap.size, 3, none⟩ = some (.slice Ae es.length ce) ∧ y.cell? ⟨W.heap.size + 1, 0, none⟩ = some (.string md') ∧ y.cell? ⟨W.heap.size + 1, 1, none⟩ = some (.int .u32 key') ∧ y.cell? ⟨W.heap.size + 1, 2, none⟩ = some (.slice Ai' im'.length ci') ∧ y.cell? ⟨W.heap.size + 1, 3, none⟩ = some (.slice Ae' es'.length ce') ∧ y.cell? ⟨p, 0, none⟩ = some (.string md) ∧ y.cell? ⟨p, 1, none⟩ = some (.int .u32 mk) ∧ y.cell? ⟨p, 2, none⟩ = some (.slice A5 im.length c5) ∧ y.cell? ⟨p, 3, none⟩ = some (.slice A6 l.length c6)) y') from fun y hy => (is14_any md mk A5 im c5 A6 l c6 md mk Ai im ci Ae es ce _ _ _ _ y (I7.out.below hy.1) (HI.out.below (BV.out y hy.1)) (E7.out.below hy.1).toR (HE.out.below (BV.out y hy.1)).toR (by omega) (by omega) (by omega) hen HPL.out PA.out).mono (fun e y' h => ⟨by rw [h.1, T1.out], C.out y' (hy.1.trans (h.2.mono hy.1.size))⟩))
  have S1' := Lib.hid (show ∀ y, (fun y => Below V.heap.size V y ∧ y.cell? ⟨W.heap.size, 0, none⟩ = some (.string md) ∧ y.cell? ⟨W.heap.size, 1, none⟩ = some (.int .u32 key) ∧ y.cell? ⟨W.heap.size, 2, none⟩ = some (.slice Ai im.length ci) ∧ y.cell? ⟨W.heap.size, 3, none⟩ = some (.slice Ae es.length ce) ∧ y.cell? ⟨W.heap.size + 1, 0, none⟩ = some (.string md') ∧ y.cell? ⟨W.heap.size + 1, 1, none⟩ = some (.int .u32 key') ∧ y.cell? ⟨W.heap.size + 1, 2, none⟩ = some (.slice Ai' im'.length ci') ∧ y.cell? ⟨W.heap.size + 1, 3, none⟩ = some (.slice Ae' es'.length ce') ∧ y.cell? ⟨p, 0, none⟩ = some (.string md) ∧ y.cell? ⟨p, 1, none⟩ = some (.int .u32 mk) ∧ y.cell? ⟨p, 2, none⟩ = some (.slice A5 im.length c5) ∧ y.cell? ⟨p, 3, none⟩ = some (.slice A6 l.length c6)) y → Calls Try.prog 23 #[.agg #[.string md, .int .u32 key, .slice Ai im.length ci, .slice Ae es.length ce], .agg #[.string md', .int .u32 key', .slice Ai' im'.length ci', .slice Ae' es'.length ce']] y (fun e y' => e = .returned (.bool (sameFl ⟨md, key, im, es.map (·.1)⟩ ⟨md', key', im', es'.map (·.1)⟩)) ∧ (fun y => Below V.heap.size V y ∧ y.cell? ⟨W.heap.size, 0, none⟩ = some (.string md) ∧ y.cell? ⟨W.heap.size, 1, none⟩ = some (.int .u32 key) ∧ y.cell? ⟨W.heap.size, 2, none⟩ = some (.slice Ai im.length ci) ∧ y.cell? ⟨W.heap.size, 3, none⟩ = some (.slice Ae es.length ce) ∧ y.cell? ⟨W.heap.size + 1, 0, none⟩ = some (.string md') ∧ y.cell? ⟨W.heap.size + 1, 1, none⟩ = some (.int .u32 key') ∧ y.cell? ⟨W.heap.size + 1, 2, none⟩ = some (.slice Ai' im'.length ci') ∧ y.cell? ⟨W.heap.size + 1, 3, none⟩ = some (.slice Ae' es'.length ce') ∧ y.cell? ⟨p, 0, none⟩ = some (.string md) ∧ y.cell? ⟨p, 1, none⟩ = some (.int .u32 mk) ∧ y.cell? ⟨p, 2, none⟩ = some (.slice A5 im.length c5) ∧ y.cell? ⟨p, 3, none⟩ = some (.slice A6 l.length c6)) y') from fun y hy => (same14_any md key Ai im ci Ae es ce md' key' Ai' im' ci' Ae' es' ce' _ _ _ _ y (HI.out.below (BV.out y hy.1)) (HI'.out.below (BV.out y hy.1)) (HE.out.below (BV.out y hy.1)).toR (HE'.out.below (BV.out y hy.1)).toR (by omega) (by omega) hen hen' PA.out PB.out).mono (fun e y' h => ⟨h.1, C.out y' (hy.1.trans (h.2.mono hy.1.size))⟩))
  have R1' := Lib.hid (show ∀ y, (fun y => Below V.heap.size V y ∧ y.cell? ⟨W.heap.size, 0, none⟩ = some (.string md) ∧ y.cell? ⟨W.heap.size, 1, none⟩ = some (.int .u32 key) ∧ y.cell? ⟨W.heap.size, 2, none⟩ = some (.slice Ai im.length ci) ∧ y.cell? ⟨W.heap.size, 3, none⟩ = some (.slice Ae es.length ce) ∧ y.cell? ⟨W.heap.size + 1, 0, none⟩ = some (.string md') ∧ y.cell? ⟨W.heap.size + 1, 1, none⟩ = some (.int .u32 key') ∧ y.cell? ⟨W.heap.size + 1, 2, none⟩ = some (.slice Ai' im'.length ci') ∧ y.cell? ⟨W.heap.size + 1, 3, none⟩ = some (.slice Ae' es'.length ce') ∧ y.cell? ⟨p, 0, none⟩ = some (.string md) ∧ y.cell? ⟨p, 1, none⟩ = some (.int .u32 mk) ∧ y.cell? ⟨p, 2, none⟩ = some (.slice A5 im.length c5) ∧ y.cell? ⟨p, 3, none⟩ = some (.slice A6 l.length c6)) y → Calls Try.prog 15 #[.agg #[.string md', .int .u32 key', .slice Ai' im'.length ci', .slice Ae' es'.length ce']] y (fun e y' => e = .returned (.agg #[.string md', .int .u32 key', .slice Ai' im'.length ci', .slice Ae' es'.length ce']) ∧ (fun y => Below V.heap.size V y ∧ y.cell? ⟨W.heap.size, 0, none⟩ = some (.string md) ∧ y.cell? ⟨W.heap.size, 1, none⟩ = some (.int .u32 key) ∧ y.cell? ⟨W.heap.size, 2, none⟩ = some (.slice Ai im.length ci) ∧ y.cell? ⟨W.heap.size, 3, none⟩ = some (.slice Ae es.length ce) ∧ y.cell? ⟨W.heap.size + 1, 0, none⟩ = some (.string md') ∧ y.cell? ⟨W.heap.size + 1, 1, none⟩ = some (.int .u32 key') ∧ y.cell? ⟨W.heap.size + 1, 2, none⟩ = some (.slice Ai' im'.length ci') ∧ y.cell? ⟨W.heap.size + 1, 3, none⟩ = some (.slice Ae' es'.length ce') ∧ y.cell? ⟨p, 0, none⟩ = some (.string md) ∧ y.cell? ⟨p, 1, none⟩ = some (.int .u32 mk) ∧ y.cell? ⟨p, 2, none⟩ = some (.slice A5 im.length c5) ∧ y.cell? ⟨p, 3, none⟩ = some (.slice A6 l.length c6)) y') from fun y hy => (ref14_any md' key' Ai' im' ci' Ae' es' ce' y).mono (fun e y' h => ⟨h.1, C.out y' (hy.1.trans (h.2.mono hy.1.size))⟩))
  have I2' := Lib.hid (show ∀ y, (fun y => Below V.heap.size V y ∧ y.cell? ⟨W.heap.size, 0, none⟩ = some (.string md) ∧ y.cell? ⟨W.heap.size, 1, none⟩ = some (.int .u32 key) ∧ y.cell? ⟨W.heap.size, 2, none⟩ = some (.slice Ai im.length ci) ∧ y.cell? ⟨W.heap.size, 3, none⟩ = some (.slice Ae es.length ce) ∧ y.cell? ⟨W.heap.size + 1, 0, none⟩ = some (.string md') ∧ y.cell? ⟨W.heap.size + 1, 1, none⟩ = some (.int .u32 key') ∧ y.cell? ⟨W.heap.size + 1, 2, none⟩ = some (.slice Ai' im'.length ci') ∧ y.cell? ⟨W.heap.size + 1, 3, none⟩ = some (.slice Ae' es'.length ce') ∧ y.cell? ⟨p, 0, none⟩ = some (.string md) ∧ y.cell? ⟨p, 1, none⟩ = some (.int .u32 mk) ∧ y.cell? ⟨p, 2, none⟩ = some (.slice A5 im.length c5) ∧ y.cell? ⟨p, 3, none⟩ = some (.slice A6 l.length c6)) y → Calls Try.prog 22 #[.agg #[.string md, .int .u32 key, .slice Ai im.length ci, .slice Ae es.length ce], .agg #[.string md', .int .u32 key', .slice Ai' im'.length ci', .slice Ae' es'.length ce']] y (fun e y' => e = .returned (.bool (sameFl ⟨md, key, im, es.map (·.1)⟩ ⟨md', key', im', es'.map (·.1)⟩)) ∧ (fun y => Below V.heap.size V y ∧ y.cell? ⟨W.heap.size, 0, none⟩ = some (.string md) ∧ y.cell? ⟨W.heap.size, 1, none⟩ = some (.int .u32 key) ∧ y.cell? ⟨W.heap.size, 2, none⟩ = some (.slice Ai im.length ci) ∧ y.cell? ⟨W.heap.size, 3, none⟩ = some (.slice Ae es.length ce) ∧ y.cell? ⟨W.heap.size + 1, 0, none⟩ = some (.string md') ∧ y.cell? ⟨W.heap.size + 1, 1, none⟩ = some (.int .u32 key') ∧ y.cell? ⟨W.heap.size + 1, 2, none⟩ = some (.slice Ai' im'.length ci') ∧ y.cell? ⟨W.heap.size + 1, 3, none⟩ = some (.slice Ae' es'.length ce') ∧ y.cell? ⟨p, 0, none⟩ = some (.string md) ∧ y.cell? ⟨p, 1, none⟩ = some (.int .u32 mk) ∧ y.cell? ⟨p, 2, none⟩ = some (.slice A5 im.length c5) ∧ y.cell? ⟨p, 3, none⟩ = some (.slice A6 l.length c6)) y') from fun y hy => (is14_any md key Ai im ci Ae es ce md' key' Ai' im' ci' Ae' es' ce' _ _ _ _ y (HI.out.below (BV.out y hy.1)) (HI'.out.below (BV.out y hy.1)) (HE.out.below (BV.out y hy.1)).toR (HE'.out.below (BV.out y hy.1)).toR (by omega) (by omega) hen hen' PA.out PB.out).mono (fun e y' h => ⟨h.1, C.out y' (hy.1.trans (h.2.mono hy.1.size))⟩))
  have S2' := Lib.hid (show ∀ y, (fun y => Below V.heap.size V y ∧ y.cell? ⟨W.heap.size, 0, none⟩ = some (.string md) ∧ y.cell? ⟨W.heap.size, 1, none⟩ = some (.int .u32 key) ∧ y.cell? ⟨W.heap.size, 2, none⟩ = some (.slice Ai im.length ci) ∧ y.cell? ⟨W.heap.size, 3, none⟩ = some (.slice Ae es.length ce) ∧ y.cell? ⟨W.heap.size + 1, 0, none⟩ = some (.string md') ∧ y.cell? ⟨W.heap.size + 1, 1, none⟩ = some (.int .u32 key') ∧ y.cell? ⟨W.heap.size + 1, 2, none⟩ = some (.slice Ai' im'.length ci') ∧ y.cell? ⟨W.heap.size + 1, 3, none⟩ = some (.slice Ae' es'.length ce') ∧ y.cell? ⟨p, 0, none⟩ = some (.string md) ∧ y.cell? ⟨p, 1, none⟩ = some (.int .u32 mk) ∧ y.cell? ⟨p, 2, none⟩ = some (.slice A5 im.length c5) ∧ y.cell? ⟨p, 3, none⟩ = some (.slice A6 l.length c6)) y → Calls Try.prog 23 #[.agg #[.string md, .int .u32 key, .slice Ai im.length ci, .slice Ae es.length ce], .agg #[.string md, .int .u32 key, .slice Ai im.length ci, .slice Ae es.length ce]] y (fun e y' => e = .returned (.bool true) ∧ (fun y => Below V.heap.size V y ∧ y.cell? ⟨W.heap.size, 0, none⟩ = some (.string md) ∧ y.cell? ⟨W.heap.size, 1, none⟩ = some (.int .u32 key) ∧ y.cell? ⟨W.heap.size, 2, none⟩ = some (.slice Ai im.length ci) ∧ y.cell? ⟨W.heap.size, 3, none⟩ = some (.slice Ae es.length ce) ∧ y.cell? ⟨W.heap.size + 1, 0, none⟩ = some (.string md') ∧ y.cell? ⟨W.heap.size + 1, 1, none⟩ = some (.int .u32 key') ∧ y.cell? ⟨W.heap.size + 1, 2, none⟩ = some (.slice Ai' im'.length ci') ∧ y.cell? ⟨W.heap.size + 1, 3, none⟩ = some (.slice Ae' es'.length ce') ∧ y.cell? ⟨p, 0, none⟩ = some (.string md) ∧ y.cell? ⟨p, 1, none⟩ = some (.int .u32 mk) ∧ y.cell? ⟨p, 2, none⟩ = some (.slice A5 im.length c5) ∧ y.cell? ⟨p, 3, none⟩ = some (.slice A6 l.length c6)) y') from fun y hy => (same14_any md key Ai im ci Ae es ce md key Ai im ci Ae es ce _ _ _ _ y (HI.out.below (BV.out y hy.1)) (HI.out.below (BV.out y hy.1)) (HE.out.below (BV.out y hy.1)).toR (HE.out.below (BV.out y hy.1)).toR (by omega) (by omega) hen hen PA.out PA.out).mono (fun e y' h => ⟨by rw [h.1, T2.out], C.out y' (hy.1.trans (h.2.mono hy.1.size))⟩))
  generalize sameFl ⟨md, key, im, es.map (·.1)⟩ ⟨md', key', im', es'.map (·.1)⟩ = sf at *
  have df : (sf == sf) = true := by simp
  clear HI HE HI' HE' X7 Y7 Z7 I7 E7 T1 T2 HM PA PB SM SM' SL2 HPL HIO HIO' HEO HEO'
  go_region_held3 (fun y => Below V.heap.size V y ∧ y.cell? ⟨W.heap.size, 0, none⟩ = some (.string md) ∧ y.cell? ⟨W.heap.size, 1, none⟩ = some (.int .u32 key) ∧ y.cell? ⟨W.heap.size, 2, none⟩ = some (.slice Ai im.length ci) ∧ y.cell? ⟨W.heap.size, 3, none⟩ = some (.slice Ae es.length ce) ∧ y.cell? ⟨W.heap.size + 1, 0, none⟩ = some (.string md') ∧ y.cell? ⟨W.heap.size + 1, 1, none⟩ = some (.int .u32 key') ∧ y.cell? ⟨W.heap.size + 1, 2, none⟩ = some (.slice Ai' im'.length ci') ∧ y.cell? ⟨W.heap.size + 1, 3, none⟩ = some (.slice Ae' es'.length ce') ∧ y.cell? ⟨p, 0, none⟩ = some (.string md) ∧ y.cell? ⟨p, 1, none⟩ = some (.int .u32 mk) ∧ y.cell? ⟨p, 2, none⟩ = some (.slice A5 im.length c5) ∧ y.cell? ⟨p, 3, none⟩ = some (.slice A6 l.length c6))
    (first
      | with_reducible assumption
      | with_reducible exact L0
      | fail)
    (first
      | (go_at_call 22; with_reducible refine (I1.out _ (by assumption)).mono ?_; rintro e y0 ⟨rfl, hs0⟩)
      | (go_at_call 23; with_reducible refine (S1'.out _ (by assumption)).mono ?_; rintro e y1 ⟨rfl, hs1⟩)
      | (go_at_call 15; with_reducible refine (R1'.out _ (by assumption)).mono ?_; rintro e y2 ⟨rfl, hs2⟩)
      | (go_at_call 22; with_reducible refine (I2'.out _ (by assumption)).mono ?_; rintro e y3 ⟨rfl, hs3⟩)
      | (go_at_call 23; with_reducible refine (S2'.out _ (by assumption)).mono ?_; rintro e y4 ⟨rfl, hs4⟩))
  all_goals
    rename_i hH
    have BH := Lib.hid (BV.out _ hH.1)
    clear hH L0 C I1 S1' R1' I2' S2'
    go_wp2_with fail
    go_ret
    exact ⟨rfl, BH.out⟩

set_option maxRecDepth 100000 in
theorem lifted (os : Os) (started : os.Started) (H : Type) (enc : TypeId × Value → H) :
    ReturnsInHanded {} Try.checked os 5 .any (Rows.symfileMakesSpec.pre6 enc Try.prog Try.f5 Rows.symfileMakesRow.domain false) (Rows.symfileMakesSpec.post enc Try.prog Try.f5 false true false false) := by
  refine returnsInHanded_of_change_sized (C := Try.checked) Try.own started (by kernel_rfl) Try.func5
    (ChangeSpec.witness6 (enc := enc) (C := Try.checked) false ⟨#[], #[.agg #[.string ⟨#[]⟩, .int .u32 0, .slice none 0 0, .slice none 0 0], .agg #[.string ⟨#[]⟩, .int .u32 0, .slice none 0 0, .slice none 0 0]], []⟩ 8 (by kernel_rfl) (by kernel_rfl) (by kernel_rfl) (by kernel_rfl)) ?_
  intro W base args ds gs before hval0 hW hcnd hsz _
  have hval : ∀ (j : Nat) t v, Try.f5.params[j]? = some t → args[j]? = some v → Value.okWide Try.prog W .any base t v := hval0
  have hW' := hW
  obtain ⟨p, q, hA0, hV, rfl, hfz, hnd⟩ := hW
  have hA : DataW.TrodAll enc Try.prog W 0 (fun _ => true) true Try.f5.params.toList args.toList ds p := hA0
  rw [Try.params5] at hA hval
  obtain ⟨v0, vs0, d0, ds0, p0, q0, hargs, rfl, rfl, h0, r0⟩ := trodAll_cons hA
  obtain ⟨v1, vs1, d1, ds1, p1, q1, rfl, rfl, rfl, h1, r1⟩ := trodAll_cons r0
  obtain ⟨rfl, rfl, rfl⟩ := trodAll_nil r1
  obtain rfl : args = #[v0, v1] := by cases args; simp_all
  clear hA0 hval0
  obtain ⟨md0, key0, Ai0, im0, ci0, Ae0, es0, ce0, rfl, hF0⟩ := open_file (hval 0 26 v0 rfl rfl) h0 (fun k hk => Nat.le_trans (of_decide_eq_true (List.all_eq_true.1 hsz _ (DataW.weights_mem_each (j := 0) (t := 26) rfl rfl _ hk))) (by decide))
  obtain ⟨md1, key1, Ai1, im1, ci1, Ae1, es1, ce1, rfl, hF1⟩ := open_file (hval 1 26 v1 rfl rfl) h1 (fun k hk => Nat.le_trans (of_decide_eq_true (List.all_eq_true.1 hsz _ (DataW.weights_mem_each (j := 1) (t := 26) rfl rfl _ hk))) (by decide))
  refine (walk W md0 key0 Ai0 im0 ci0 Ae0 es0 ce0 hF0 md1 key1 Ai1 im1 ci1 Ae1 es1 ce1 hF1).mono fun e W' ⟨he, hg⟩ => ?_
  subst he
  exact ⟨_, rfl, law_post Try.laidOut Try.mapsRowed Try.slicesFull (by kernel_rfl) rfl (by kernel_rfl) Try.underlying4 rfl hW' hg⟩

theorem over : Rows.symfileMakesRow.holds Try.pinned (OpenSpec.ofChange Rows.symfileMakesSpec) :=
  OpenClaim.holds_of_wide 5 Try.f5 rfl rfl rfl rfl rfl rfl rfl ⟨rfl, rfl, rfl, rfl, rfl⟩ rfl rfl rfl rfl rfl (by kernel_rfl) Try.func5 (by kernel_rfl)
    (of_decide_eq_true (by kernel_rfl)) (by unfold Func.isWrapper; first | (rw [if_pos (by decide +kernel)]; kernel_rfl) | (rw [if_neg (by decide +kernel)]; exact ⟨rfl, rfl⟩))
    (fun os started H enc _ => lifted os started H enc)

theorem proved : Rows.SymfileMakesSaid :=
  over
end Go.Proofs.Ythmjniedfiabhaa.lawSymfileMakes
