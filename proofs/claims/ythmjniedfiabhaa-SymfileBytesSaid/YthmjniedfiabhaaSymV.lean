/- Symfile: Decode of a file's bytes. -/
import Derived.Test.YthmjniedfiabhaaSymS
import Derived.Test.YthmjniedfiabhaaSymT
import Derived.Test.YthmjniedfiabhaaSymL
namespace Go.Proofs.Ythmjniedfiabhaa
open Go.ChangeShapes Go.WideShapes Go.ChangeAt Go.RowKit
set_option linter.unusedVariables false
set_option linter.unusedSimpArgs false

/-- What is read of a file's bytes, step by step. -/
theorem dec_steps {f : Fl} (h : checkP f = 0) (ok : FlOk f) : ∃ r1 r2 r3 r4, wordP (fileB f) 0 = (1347639553, r1, 0) ∧ textP r1 0 32 = (f.md, r2, 0) ∧ wordP r2 0 = (f.key, r3, 0) ∧ rdAllI (r3, 0) = (f.ims, (r4, 0)) ∧ rdAll (r4, 0) = (f.exs, ([], 0)) := by
  obtain ⟨h1, h2, h3, h4, h5⟩ := checkP_fit h ok
  refine ⟨(cntB f.md.size ++ strI f.md) ++ (bytesOf f.key ++ (imsB f.ims ++ listB f.exs)), bytesOf f.key ++ (imsB f.ims ++ listB f.exs), imsB f.ims ++ listB f.exs, listB f.exs, ?_, ?_, ?_, ?_, ?_⟩
  · exact word_again (by decide) _
  · exact txt_again f.md 32 _ h1.2.2 (by decide)
  · exact word_again ok.1 _
  · exact rdAllI_again h3 h2 _
  · have := rdAll_again h5 h4 []
    rwa [List.append_nil] at this

theorem RdOk.ims {st : RSt} (h : RdOk st) : RdOk (rdAllI st).2 := rdIms_ok _ _ _ (h.groups 64)

/-- In the middle of a file that is read: the Reader at g, the result's box, the file's box p. -/
structure DcF (w0 w : World) (g D p : Nat) (zs : List Int) (cs : Array Value) : Prop where
  B : Below w0.heap.size w0 w
  R : RdAt w g D zs 0
  Q : Whole w w0.heap.size flT #[.string ⟨#[]⟩, .int .u32 0, .slice none 0 0, .slice none 0 0]
  P : Whole w p flT cs
  lg : w0.heap.size < g
  lD : w0.heap.size < D
  gp : g < p
  Dp : D < p

section
variable {w0 w w' : World} {g D p : Nat} {zs zs' : List Int} {cs : Array Value}

theorem DcF.call (h : DcF w0 w g D p zs cs) (hr : RdAt w' g D zs' 0) (hk : KeptS (RdS g) w w') : DcF w0 w' g D p zs' cs :=
  ⟨KeptS.below h.B hk h.B.size (fun i hi => by have hi : i = g := hi; have := h.lg; omega), hr, hk.whole h.Q (fun hs => by have hs : w0.heap.size = g := hs; have := h.lg; omega), hk.whole h.P (fun hs => by have hs : p = g := hs; have := h.gp; omega), h.lg, h.lD, h.gp, h.Dp⟩

theorem DcF.put (h : DcF w0 w g D p zs cs) (i : Nat) (u : Value) : DcF w0 (w.setCell ⟨p, i, none⟩ u) g D p zs (cs.setIfInBounds i u) :=
  ⟨h.B.setCell (show w0.heap.size ≤ p by have := h.lg; have := h.gp; omega) _, rdAt_store h.R (by have := h.gp; omega) (by have := h.Dp; omega), h.Q.far (show w0.heap.size ≠ p by have := h.lg; have := h.gp; omega) _, h.P.store i u, h.lg, h.lD, h.gp, h.Dp⟩

theorem DcF.below (h : DcF w0 w g D p zs cs) (hb : Below w.heap.size w w') : DcF w0 w' g D p zs cs :=
  ⟨h.B.trans (hb.mono h.B.size), h.R.below hb, h.Q.below hb h.Q.lt, h.P.below hb h.P.lt, h.lg, h.lD, h.gp, h.Dp⟩
end

/-- What Decode leaves. -/
def DecPost (w : World) (md : ByteArray) (key : Int) (im : List Im) (exs : List Ex) (e : Ending) (w' : World) : Prop :=
  ∃ A5 c5 A6 l c6, e = .returned (.tuple #[.agg #[.string md, .int .u32 key, .slice A5 im.length c5, .slice A6 (List.length l) c6], .int .i64 0]) ∧ Below w.heap.size w w' ∧ ImV w'.heap.size w' (.slice A5 im.length c5) im ∧ ExpR 0 w' (.slice A6 (List.length l) c6) l ∧ l.map (·.1) = exs

set_option maxHeartbeats 16000000 in
set_option maxRecDepth 100000 in
theorem decode_any (md : ByteArray) (key : Int) (im : List Im) (exs : List Ex) (A : Option Addr) (c : Nat) (w : World) (hc : checkP ⟨md, key, im, exs⟩ = 0) (ok : FlOk ⟨md, key, im, exs⟩) (hz : Nums .u8 w A (fileB ⟨md, key, im, exs⟩).length (fileB ⟨md, key, im, exs⟩)) (hb : Byt (fileB ⟨md, key, im, exs⟩)) (hl : (fileB ⟨md, key, im, exs⟩).length ≤ 100000) (smd : md.size ≤ 200) (sn : exs.length ≤ 60) (sx : ∀ x ∈ exs, ExSm x) :
    Calls Try.prog 19 #[.slice A (fileB ⟨md, key, im, exs⟩).length c] w fun e w' => DecPost w md key im exs e w' := by
  have UL := Lib.hid (show ∀ e w', DecPost w md key im exs e w' = (∃ A5 c5 A6 l c6, e = .returned (.tuple #[.agg #[.string md, .int .u32 key, .slice A5 im.length c5, .slice A6 (List.length l) c6], .int .i64 0]) ∧ Below w.heap.size w w' ∧ ImV w'.heap.size w' (.slice A5 im.length c5) im ∧ ExpR 0 w' (.slice A6 (List.length l) c6) l ∧ l.map (·.1) = exs) from fun _ _ => rfl)
  obtain ⟨r1, r2, r3, r4, s1, s2, s3, s4, s5⟩ := dec_steps hc ok
  have hfit := checkP_fit hc ok
  have HIM := Lib.hid (show im.length ≤ 64 from hfit.2.1)
  have HIF := Lib.hid (show ∀ x ∈ im, ImFit x from hfit.2.2.1)
  have k1 : RdOk (fileB ⟨md, key, im, exs⟩, 0) := ⟨hb, hl, fun h => absurd rfl h⟩
  have k2 := k1.word
  simp only at s1 s2 s3
  rw [show wordP (fileB ⟨md, key, im, exs⟩, (0 : Int)).1 (fileB ⟨md, key, im, exs⟩, (0 : Int)).2 = _ from s1] at k2
  have k3 := RdOk.text k2 32
  rw [show textP (r1, (0 : Int)).1 (r1, (0 : Int)).2 32 = _ from s2] at k3
  have k4 := RdOk.word k3
  rw [show wordP (r2, (0 : Int)).1 (r2, (0 : Int)).2 = _ from s3] at k4
  have k5 := RdOk.ims k4
  rw [s4] at k5
  have CW1 := Lib.hid (fun g D W (h : RdAt W g D (fileB ⟨md, key, im, exs⟩) 0) => rword_any g D (fileB ⟨md, key, im, exs⟩, 0) W h k1)
  have CT := Lib.hid (fun g D W (h : RdAt W g D r1 0) => rtext_any 32 g D r1 0 W h (by have := k2.len; simp only at this; omega) k2.byt (by decide))
  have CW2 := Lib.hid (fun g D W (h : RdAt W g D r2 0) => rword_any g D (r2, 0) W h k3)
  have CI := Lib.hid (fun g D W (h : RdAt W g D r3 0) => iread_any g D (r3, 0) W h k4)
  have CE := Lib.hid (fun g D W (h : RdAt W g D r4 0) => read13_any g D (r4, 0) W h k5)
  simp only [s1] at CW1
  simp only [s2] at CT
  simp only [s3] at CW2
  simp only [RdIms, s4] at CI
  simp only [RdList, s5] at CE
  have CH := Lib.hid (fun A5 c5 A6 (l : List Exx) c6 W (h1 : ImV W.heap.size W (.slice A5 im.length c5) im) (h2 : ExpR 0 W (.slice A6 l.length c6) l) (hm : l.map (·.1) = exs) => check_any md key A5 im c5 A6 l c6 W.heap.size 0 W h1 h2 ⟨smd, by rw [← hm, List.length_map] at sn; exact sn, fun x hx => sx x.1 (by rw [← hm]; exact List.mem_map.2 ⟨x, hx, rfl⟩)⟩ (by have := HIM.out; omega) (fun x hx => by have := (HIF.out x hx).1; omega))
  have CK := Lib.hid (show ∀ l : List Exx, l.map (·.1) = exs → checkP ⟨md, key, im, l.map (·.1)⟩ = 0 from fun l hm => by rw [hm]; exact hc)
  have B0 := Lib.hid ((Below.refl w.heap.size w).alloc (Nat.le_refl _) (.cells #[.string ⟨#[]⟩, .int .u32 0, .slice none 0 0, .slice none 0 0] flT))
  have Q0 := Lib.hid (Whole.made w flT #[.string ⟨#[]⟩, .int .u32 0, .slice none 0 0, .slice none 0 0] _ rfl)
  have RD := Lib.hid (read_any A (fileB ⟨md, key, im, exs⟩).length c (fileB ⟨md, key, im, exs⟩) (w.alloc (.cells #[.string ⟨#[]⟩, .int .u32 0, .slice none 0 0, .slice none 0 0] flT)) (hz.below B0.out) (by omega))
  generalize fileB ⟨md, key, im, exs⟩ = FB at *
  clear hc ok hz hb s1 s2 s3 s4 s5 k1 k2 k3 k4 k5 sx sn smd hfit
  go_enter Try.func19, Try.ntmps19
  go_wp2_with fail
  refine RD.out.mono ?_
  rintro e w1 ⟨g, D, rfl, hg, hD, hb1, hr1⟩
  have LG := Lib.hid (show w.heap.size < g from Nat.lt_of_lt_of_le Q0.out.lt hg)
  have LD := Lib.hid (show w.heap.size < D from Nat.lt_of_lt_of_le Q0.out.lt hD)
  have Q1 := Lib.hid (Q0.out.below hb1 Q0.out.lt)
  have B1 := Lib.hid (B0.out.trans (hb1.mono B0.out.size))
  have W1 := Lib.hid (CW1.out g D w1 hr1)
  clear hg hD hb1 hr1 Q0 B0 RD CW1
  go_wp2_with fail
  refine W1.out.mono ?_
  rintro e w2 ⟨rfl, hr2, hk2⟩
  have GP := Lib.hid hr2.lt
  have F0 := Lib.hid (show DcF w (w2.alloc (.cells #[.string ⟨#[]⟩, .int .u32 0, .slice none 0 0, .slice none 0 0] flT)) g D w2.heap.size r1 #[.string ⟨#[]⟩, .int .u32 0, .slice none 0 0, .slice none 0 0] from
    have b := (Below.refl w2.heap.size w2).alloc (Nat.le_refl _) (.cells #[.string ⟨#[]⟩, .int .u32 0, .slice none 0 0, .slice none 0 0] flT)
    have q := hk2.whole Q1.out (fun hs => by have hs : w.heap.size = g := hs; have := LG.out; omega)
    have bb := KeptS.below B1.out hk2 B1.out.size (fun i hi => by have hi : i = g := hi; have := LG.out; omega)
    ⟨bb.trans (b.mono bb.size), hr2.below b, q.alloc _, Whole.made w2 flT _ _ rfl, LG.out, LD.out, GP.out.1, GP.out.2⟩)
  have T1 := Lib.hid (CT.out g D _ F0.out.R)
  have dm : ((1347639553 : Int) != 1347639553) = false := by decide
  clear hr2 hk2 Q1 B1 W1 CT
  go_wp2_with fail
  generalize hV : w2.alloc (.cells #[.string ⟨#[]⟩, .int .u32 0, .slice none 0 0, .slice none 0 0] flT) = V at *
  clear hV
  generalize w2.heap.size = p at *
  refine T1.out.mono ?_
  rintro e w3 ⟨rfl, hr, hk⟩
  have F1 := Lib.hid (F0.out.call hr hk)
  have F2 := Lib.hid (show DcF w (w3.setCell ⟨p, 0, none⟩ (.string md)) g D p r2 #[.string md, .int .u32 0, .slice none 0 0, .slice none 0 0] from F1.out.put 0 (.string md))
  have x0 : w3.cell? ⟨p, 0, none⟩ = some (.string ⟨#[]⟩) := F1.out.P.cell 0
  have f0 : w3.frozen? ⟨p, 0, none⟩ = false := F1.out.P.free 0
  have W2 := Lib.hid (CW2.out g D _ F2.out.R)
  clear hr hk F0 F1 T1 CW2
  go_wp2_with fail
  clear x0 f0
  generalize w3.setCell ⟨p, 0, none⟩ (.string md) = V3 at *
  refine W2.out.mono ?_
  rintro e w4 ⟨rfl, hr, hk⟩
  have F3 := Lib.hid (F2.out.call hr hk)
  have F4 := Lib.hid (show DcF w (w4.setCell ⟨p, 1, none⟩ (.int .u32 key)) g D p r3 #[.string md, .int .u32 key, .slice none 0 0, .slice none 0 0] from F3.out.put 1 (.int .u32 key))
  have x1 : w4.cell? ⟨p, 1, none⟩ = some (.int .u32 0) := F3.out.P.cell 1
  have f1 : w4.frozen? ⟨p, 1, none⟩ = false := F3.out.P.free 1
  have I1 := Lib.hid (CI.out g D _ F4.out.R)
  clear hr hk F2 F3 W2 CI
  go_wp2_with fail
  clear x1 f1
  generalize w4.setCell ⟨p, 1, none⟩ (.int .u32 key) = V4 at *
  refine I1.out.mono ?_
  rintro e w5 ⟨v5, rfl, ho5, hr, hk⟩
  have LP := Lib.hid (show p < V4.heap.size from F4.out.P.lt)
  obtain ⟨A5, c5, rfl⟩ := row_form ho5
  have F5 := Lib.hid (F4.out.call hr hk)
  have F6 := Lib.hid (show DcF w (w5.setCell ⟨p, 2, none⟩ (.slice A5 im.length c5)) g D p r4 #[.string md, .int .u32 key, .slice A5 im.length c5, .slice none 0 0] from F5.out.put 2 (.slice A5 im.length c5))
  have O6 := Lib.hid (row_far (j := 2) (u := .slice A5 im.length c5) (row_more ho5 (Nat.le_of_lt LP.out)) F5.out.P (by decide))
  have x2 : w5.cell? ⟨p, 2, none⟩ = some (.slice none 0 0) := F5.out.P.cell 2
  have f2 : w5.frozen? ⟨p, 2, none⟩ = false := F5.out.P.free 2
  have E1 := Lib.hid (CE.out g D _ F6.out.R)
  clear hr hk ho5 F4 F5 I1 CE LP
  go_wp2_with fail
  clear x2 f2
  generalize w5.setCell ⟨p, 2, none⟩ (.slice A5 im.length c5) = V5 at *
  refine E1.out.mono ?_
  rintro e w6 ⟨v6, l, rfl, hrow, hmap, hr, hk⟩
  obtain ⟨A6, c6, rfl⟩ := row_form hrow.row
  have HM := Lib.hid hmap
  have F7 := Lib.hid (F6.out.call hr hk)
  have F8 := Lib.hid (show DcF w (w6.setCell ⟨p, 3, none⟩ (.slice A6 l.length c6)) g D p [] #[.string md, .int .u32 key, .slice A5 im.length c5, .slice A6 l.length c6] from F7.out.put 3 (.slice A6 l.length c6))
  have O7 := Lib.hid (hk.row O6.out (fun b hb hs => by have := (World.ownsRow.lt O6.out b hb).1; have hs : b = g := hs; have := F6.out.gp; omega))
  have O8 := Lib.hid (row_far (j := 3) (u := .slice A6 l.length c6) O7.out F7.out.P (by decide))
  have R8 := Lib.hid (hrow.far (j := 3) (u := .slice A6 l.length c6) F7.out.P (by decide) (by decide) (Nat.zero_le _))
  have x3 : w6.cell? ⟨p, 3, none⟩ = some (.slice none 0 0) := F7.out.P.cell 3
  have f3 : w6.frozen? ⟨p, 3, none⟩ = false := F7.out.P.free 3
  have EN := Lib.hid (rend_any g D [] 0 _ F8.out.R (by decide))
  rw [if_pos rfl] at EN
  clear hr hk hrow hmap F6 F7 E1 O6 O7
  go_wp2_with fail
  clear x3 f3
  generalize w6.setCell ⟨p, 3, none⟩ (.slice A6 l.length c6) = V6 at *
  refine EN.out.mono ?_
  rintro e w7 ⟨rfl, rfl⟩
  have CC := Lib.hid (CH.out A5 c5 A6 l c6 V6 (ImV.own O8.out) R8.out.toR HM.out)
  rw [CK.out l HM.out] at CC
  have y0 : V6.cell? ⟨p, 0, none⟩ = some (.string md) := F8.out.P.cell 0
  have y1 : V6.cell? ⟨p, 1, none⟩ = some (.int .u32 key) := F8.out.P.cell 1
  have y2 : V6.cell? ⟨p, 2, none⟩ = some (.slice A5 im.length c5) := F8.out.P.cell 2
  have y3 : V6.cell? ⟨p, 3, none⟩ = some (.slice A6 l.length c6) := F8.out.P.cell 3
  clear EN CH CK
  go_wp2_with fail
  clear y0 y1 y2 y3
  refine CC.out.mono ?_
  rintro e w8 ⟨rfl, hb8⟩
  have F9 := Lib.hid (F8.out.below hb8)
  have O9 := Lib.hid (row_below O8.out hb8)
  have R9 := Lib.hid (R8.out.below hb8)
  have y0 : w8.cell? ⟨p, 0, none⟩ = some (.string md) := F9.out.P.cell 0
  have y1 : w8.cell? ⟨p, 1, none⟩ = some (.int .u32 key) := F9.out.P.cell 1
  have y2 : w8.cell? ⟨p, 2, none⟩ = some (.slice A5 im.length c5) := F9.out.P.cell 2
  have y3 : w8.cell? ⟨p, 3, none⟩ = some (.slice A6 l.length c6) := F9.out.P.cell 3
  clear hb8 F8 O8 R8 CC
  have HZ4 : (Try.prog.info? flT).map (·.size) = some 4 := by kernel_rfl
  have SR := Lib.hid (F9.out.Q.setRow #[.string md, .int .u32 key, .slice A5 im.length c5, .slice A6 l.length c6])
  have BZ := Lib.hid (show Below w.heap.size w (w8.setRow w.heap.size #[.string md, .int .u32 key, .slice A5 im.length c5, .slice A6 l.length c6]) from F9.out.B.grown SR.out.2 F9.out.B.size (fun k hk => by injection hk with hk; omega))
  have OZ := Lib.hid (ImV.own (World.ownsRow.kept O9.out SR.out.2 (.inr (row_ne O9.out F9.out.Q (fun c fz e => by injection e with _ e _; exact absurd e (by decide))))))
  have EZ := Lib.hid (show RowE (w8.setRow w.heap.size #[.string md, .int .u32 key, .slice A5 im.length c5, .slice A6 l.length c6]) 0 V5.heap.size (.slice A6 l.length c6) l from ⟨World.ownsRow.kept R9.out.row SR.out.2 (.inr (row_ne R9.out.row F9.out.Q (fun c fz e => by injection e with _ e _; exact absurd e (by decide)))), fun x hx => (R9.out.par x hx).keep (Nat.le_refl _) SR.out.2.size (fun b hb ht => SR.out.2.block b hb (fun e => by
    injection e with e
    subst e
    rcases ht with ht | ⟨cs, fz, e⟩
    · omega
    · have hR : w8.heap[w.heap.size]? = some (.cells _ flT (0, 0)) := F9.out.Q
      rw [hR] at e
      injection e with e
      injection e with _ e _
      exact absurd e (by decide)))⟩)
  have ZW := Lib.hid SR.out.1
  have QW := Lib.hid F9.out.Q
  generalize hZZ : w8.setRow w.heap.size #[.string md, .int .u32 key, .slice A5 im.length c5, .slice A6 l.length c6] = ZZ at *
  have HZZ := Lib.hid hZZ
  clear hZZ SR F9 O9 R9
  go_wp2_with (refine wpList_store_row rfl flT (.tmp 2) (.tmp 38) rfl w.heap.size #[.string md, .int .u32 key, .slice A5 im.length c5, .slice A6 l.length c6] rfl rfl flT #[.string ⟨#[]⟩, .int .u32 0, .slice none 0 0, .slice none 0 0] QW.out HZ4 rfl (show (#[.string md, .int .u32 key, .slice A5 im.length c5, .slice A6 l.length c6] : Array Value).all (·.oneCell') = true from by simp [Value.oneCell']) ?_; rw [HZZ.out])
  have z0 : ZZ.cell? ⟨w.heap.size, 0, none⟩ = some (.string md) := ZW.out.cell 0
  have z1 : ZZ.cell? ⟨w.heap.size, 1, none⟩ = some (.int .u32 key) := ZW.out.cell 1
  have z2 : ZZ.cell? ⟨w.heap.size, 2, none⟩ = some (.slice A5 im.length c5) := ZW.out.cell 2
  have z3 : ZZ.cell? ⟨w.heap.size, 3, none⟩ = some (.slice A6 l.length c6) := ZW.out.cell 3
  refine bodyPost_ret (v := .tuple #[.agg #[.string md, .int .u32 key, .slice A5 im.length c5, .slice A6 l.length c6], .int .i64 0]) ?_ rfl ?_
  · simp [results, Try.results19, go_sem, z0, z1, z2, z3]
  · rw [UL.out]
    exact ⟨A5, c5, A6, l, c6, rfl, BZ.out, OZ.out, EZ.out.toR, HM.out⟩
end Go.Proofs.Ythmjniedfiabhaa
