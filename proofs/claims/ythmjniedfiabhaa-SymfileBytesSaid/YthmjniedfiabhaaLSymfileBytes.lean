/- pascalinelaw14.SymfileBytes returns true for every file: Encode gives the bytes that the document's answer has, and Decode of them gives the file again, or the file may not be and Encode gives the error that the document's answer has (files of more than 80 imports or 60 exports, with a name of more than 200 bytes or an export of more than 40 parameters are let go, as the statement says); the page's example holds; its argument reads behind the call as before. Condition: none. -/
import Derived.Test.YthmjniedfiabhaaRows
import Derived.Test.YthmjniedfiabhaaLift
import Derived.Test.YthmjniedfiabhaaSymN
import Derived.Test.YthmjniedfiabhaaSymV
import Derived.Test.YthmjniedfiabhaaSymS
import Derived.SizedLaws
namespace Go.Proofs.Ythmjniedfiabhaa.lawSymfileBytes
open Go.ChangeShapes Go.WideShapes Go.ChangeAt Go.RowKit
set_option linter.unusedVariables false
theorem sm_ex {es : List Exx} {md : ByteArray} {im : List Im} (h : smF md im es) (hk : ∀ e ∈ es, e.1.nm.size ≤ 140737488355328 ∧ e.1.ps.length * 16 ≤ 140737488355328 ∧ ExOk e.1) : FlSm md es :=
  ⟨h.1.2.2, h.1.2.1, fun x hx => ⟨(h.2 x hx).1, by have := (h.2 x hx).2; omega, (hk x hx).2.2⟩⟩

theorem fileB_ok {md : ByteArray} {key : Int} {im : List Im} {es : List Exx} (sm : FlSm md es) (hf : ∀ x ∈ im, ImFit x) (h64 : im.length ≤ 64) : Byt (fileB ⟨md, key, im, es.map (·.1)⟩) ∧ (fileB ⟨md, key, im, es.map (·.1)⟩).length ≤ 90000 := by
  refine ⟨byt_app (bytesOf_bytes _) (byt_app (byt_app (cntB_bytes _) (strI_bytes _)) (byt_app (bytesOf_bytes _) (byt_app (imsB_bytes _) (listB_bytes _)))), ?_⟩
  have h1 := imsB_len (fit_sm hf) (by omega)
  have h2 := listB_len sm.ex sm.n
  have h3 : (cntB md.size).length ≤ 10 := cntB_len10 (by have := sm.md; omega)
  have h4 := strI_len md
  have h5 := sm.md
  unfold fileB
  show (bytesOf 1347639553 ++ ((cntB md.size ++ strI md) ++ (bytesOf key ++ (imsB im ++ listB (es.map (·.1)))))).length ≤ 90000
  simp only [List.length_append]
  have h6 : ∀ n, (bytesOf n).length = 4 := fun _ => rfl
  rw [h6, h6]
  omega

set_option maxHeartbeats 32000000 in
set_option maxRecDepth 100000 in
theorem walk (W : World) (md : ByteArray) (key : Int) (Ai : Option Addr) (im : List Im) (ci : Nat) (Ae : Option Addr) (es : List Exx) (ce : Nat) (hF : FlIn W md key Ai im ci Ae es ce) :
    Calls Try.prog 4 #[.agg #[.string md, .int .u32 key, .slice Ai im.length ci, .slice Ae es.length ce]] W fun e w' => e = .returned (.bool true) ∧ Below W.heap.size W w' := by
  have B0 := Lib.hid ((Below.refl W.heap.size W).alloc (Nat.le_refl _) (.cells #[.string md, .int .u32 key, .slice Ai im.length ci, .slice Ae es.length ce] flT))
  have X0 := Lib.hid (Whole.made W flT #[.string md, .int .u32 key, .slice Ai im.length ci, .slice Ae es.length ce] _ rfl)
  have HI := Lib.hid hF.ims
  have HE := Lib.hid hF.exs
  have hin := hF.imn
  have hen := hF.exn
  have hmd := hF.md
  have HKY := Lib.hid hF.key
  have HIO := Lib.hid (fun x hx => (hF.imo x hx).1)
  have HEO := Lib.hid (fun e he => hF.exo e he)
  have OKF := Lib.hid (show FlOk ⟨md, key, im, es.map (·.1)⟩ from ⟨hF.key, fun x hx => (hF.imo x hx).2, fun x hx => by
    obtain ⟨y, hy, e⟩ := List.mem_map.1 hx
    rw [← e]
    exact (hF.exo y hy).2.2⟩)
  have AW := Lib.hid (awake14_any (W.alloc (.cells #[.string md, .int .u32 key, .slice Ai im.length ci, .slice Ae es.length ce] flT)))
  have SL := Lib.hid (fun w (hb : Below W.heap.size W w) => small14_any md key Ai im ci Ae es ce W.heap.size w (HE.out.below hb).toR (by omega) (by omega) hmd (fun e he => ⟨(HEO.out e he).1, (HEO.out e he).2.1⟩))
  have SX := Lib.hid (fun (h : smF md im es) => sm_ex h HEO.out)
  clear hF
  by_cases hs : smF md im es
  case neg =>
    rw [decide_eq_false hs] at SL
    clear hs SX
    go_enter Try.func4, Try.ntmps4
    go_wp2_with fail
    refine AW.out.mono ?_
    rintro e w1 ⟨rfl, hb1⟩
    have B1 := Lib.hid (B0.out.trans (hb1.mono B0.out.size))
    have X1 := Lib.hid (X0.out.below hb1 X0.out.lt)
    have S1 := Lib.hid (SL.out w1 B1.out)
    have q0 : w1.cell? ⟨W.heap.size, 0, none⟩ = some (.string md) := X1.out.cell 0
    have q1 : w1.cell? ⟨W.heap.size, 1, none⟩ = some (.int .u32 key) := X1.out.cell 1
    have q2 : w1.cell? ⟨W.heap.size, 2, none⟩ = some (.slice Ai im.length ci) := X1.out.cell 2
    have q3 : w1.cell? ⟨W.heap.size, 3, none⟩ = some (.slice Ae es.length ce) := X1.out.cell 3
    clear hb1 AW SL
    go_wp2_with fail
    refine S1.out.mono ?_
    rintro e w2 ⟨rfl, hb2⟩
    have B2 := Lib.hid (B1.out.trans (hb2.mono B1.out.size))
    clear hb2 S1
    go_wp2_with fail
    go_ret
    exact ⟨rfl, B2.out⟩
  have SM := Lib.hid (SX.out hs)
  rw [decide_eq_true hs] at SL
  clear hs SX
  go_enter Try.func4, Try.ntmps4
  go_wp2_with fail
  refine AW.out.mono ?_
  rintro e w1 ⟨rfl, hb1⟩
  have B1 := Lib.hid (B0.out.trans (hb1.mono B0.out.size))
  have X1 := Lib.hid (X0.out.below hb1 X0.out.lt)
  have S1 := Lib.hid (SL.out w1 B1.out)
  have q0 : w1.cell? ⟨W.heap.size, 0, none⟩ = some (.string md) := X1.out.cell 0
  have q1 : w1.cell? ⟨W.heap.size, 1, none⟩ = some (.int .u32 key) := X1.out.cell 1
  have q2 : w1.cell? ⟨W.heap.size, 2, none⟩ = some (.slice Ai im.length ci) := X1.out.cell 2
  have q3 : w1.cell? ⟨W.heap.size, 3, none⟩ = some (.slice Ae es.length ce) := X1.out.cell 3
  clear hb1 AW SL B0 X0
  go_wp2_with fail
  clear q0 q1 q2 q3
  refine S1.out.mono ?_
  rintro e w2 ⟨rfl, hb2⟩
  have B2 := Lib.hid (B1.out.trans (hb2.mono B1.out.size))
  have X2 := Lib.hid (X1.out.below hb2 X1.out.lt)
  clear hb2 S1 B1 X1
  have CR := Lib.hid (fun y (hb : Below W.heap.size W y) => refcheck_any md key Ai im ci Ae es ce _ _ y (HI.out.below hb) (HE.out.below hb).toR SM.out (by omega) HIO.out)
  by_cases hc : checkP ⟨md, key, im, es.map (·.1)⟩ = 0
  case neg =>
    have EB := Lib.hid (encode_bad md key Ai im ci Ae es ce _ w2 (HI.out.below B2.out) (HE.out.below B2.out).toR.toV SM.out (by omega) HIO.out hc)
    generalize checkP ⟨md, key, im, es.map (·.1)⟩ = cp at *
    have d0 : (cp != 0) = true := by simp [hc]
    have d1 : (cp == cp) = true := by simp
    have q0 : w2.cell? ⟨W.heap.size, 0, none⟩ = some (.string md) := X2.out.cell 0
    have q1 : w2.cell? ⟨W.heap.size, 1, none⟩ = some (.int .u32 key) := X2.out.cell 1
    have q2 : w2.cell? ⟨W.heap.size, 2, none⟩ = some (.slice Ai im.length ci) := X2.out.cell 2
    have q3 : w2.cell? ⟨W.heap.size, 3, none⟩ = some (.slice Ae es.length ce) := X2.out.cell 3
    clear hc
    go_wp2_with fail
    clear q0 q1 q2 q3
    refine EB.out.mono ?_
    rintro e w3 ⟨rfl, hb3⟩
    have B3 := Lib.hid (B2.out.trans (hb3.mono B2.out.size))
    have X3 := Lib.hid (X2.out.below hb3 X2.out.lt)
    have q0 : w3.cell? ⟨W.heap.size, 0, none⟩ = some (.string md) := X3.out.cell 0
    have q1 : w3.cell? ⟨W.heap.size, 1, none⟩ = some (.int .u32 key) := X3.out.cell 1
    have q2 : w3.cell? ⟨W.heap.size, 2, none⟩ = some (.slice Ai im.length ci) := X3.out.cell 2
    have q3 : w3.cell? ⟨W.heap.size, 3, none⟩ = some (.slice Ae es.length ce) := X3.out.cell 3
    clear hb3 B2 X2 EB
    go_wp2_with fail
    clear q0 q1 q2 q3
    refine (ref14_any md key Ai im ci Ae es ce w3).mono ?_
    rintro e w4 ⟨rfl, hb4⟩
    have B4 := Lib.hid (B3.out.trans (hb4.mono B3.out.size))
    have C4 := Lib.hid (CR.out w4 B4.out)
    clear hb4 B3 X3 CR
    go_wp2_with fail
    refine C4.out.mono ?_
    rintro e w5 ⟨rfl, hb5⟩
    have B5 := Lib.hid (B4.out.trans (hb5.mono B4.out.size))
    clear hb5 C4 B4
    go_wp2_with fail
    go_ret
    exact ⟨rfl, B5.out⟩
  have hfit := checkP_fit hc OKF.out
  have HIM := Lib.hid (show im.length ≤ 64 from hfit.2.1)
  have HIF := Lib.hid (show ∀ x ∈ im, ImFit x from hfit.2.2.1)
  have FOK := Lib.hid (fileB_ok (key := key) SM.out HIF.out HIM.out)
  have hlen : (fileB ⟨md, key, im, es.map (·.1)⟩).length ≤ 90000 := FOK.out.2
  have EO := Lib.hid (encode_ok md key Ai im ci Ae es ce _ w2 (HI.out.below B2.out) (HE.out.below B2.out).toR.toV SM.out (by omega) HIO.out HKY.out hc HIF.out HIM.out)
  have DC := Lib.hid (fun A c y (h : Nums .u8 y A (fileB ⟨md, key, im, es.map (·.1)⟩).length (fileB ⟨md, key, im, es.map (·.1)⟩)) => decode_any md key im (es.map (·.1)) A c y hc OKF.out h FOK.out.1 (by omega) SM.out.md (by rw [List.length_map]; exact SM.out.n) (fun x hx => by
    obtain ⟨z, hz, e⟩ := List.mem_map.1 hx
    rw [← e]
    exact SM.out.ex z hz))
  have RB := Lib.hid (fun y (hb : Below W.heap.size W y) => refbytes14_any md key Ai im ci Ae es ce y (HI.out.below hb).toV (HE.out.below hb).toR.toV SM.out HKY.out HIF.out HIM.out)
  rw [hc] at CR
  have UD := Lib.hid (show ∀ y e y', DecPost y md key im (es.map (·.1)) e y' → ∃ A5 c5 A6 l c6, e = .returned (.tuple #[.agg #[.string md, .int .u32 key, .slice A5 im.length c5, .slice A6 (List.length l) c6], .int .i64 0]) ∧ Below y.heap.size y y' ∧ ImV y'.heap.size y' (.slice A5 im.length c5) im ∧ ExpR 0 y' (.slice A6 (List.length l) c6) l ∧ l.map (·.1) = es.map (·.1) from fun _ _ _ h => h)
  generalize fileB ⟨md, key, im, es.map (·.1)⟩ = FB at *
  have q0 : w2.cell? ⟨W.heap.size, 0, none⟩ = some (.string md) := X2.out.cell 0
  have q1 : w2.cell? ⟨W.heap.size, 1, none⟩ = some (.int .u32 key) := X2.out.cell 1
  have q2 : w2.cell? ⟨W.heap.size, 2, none⟩ = some (.slice Ai im.length ci) := X2.out.cell 2
  have q3 : w2.cell? ⟨W.heap.size, 3, none⟩ = some (.slice Ae es.length ce) := X2.out.cell 3
  clear hc hfit OKF FOK
  go_wp2_with fail
  clear q0 q1 q2 q3
  refine EO.out.mono ?_
  rintro e w3 ⟨A3, c3, rfl, hb3, hn3⟩
  have B3 := Lib.hid (B2.out.trans (hb3.mono B2.out.size))
  have X3 := Lib.hid (X2.out.below hb3 X2.out.lt)
  have N3 := Lib.hid hn3
  have q0 : w3.cell? ⟨W.heap.size, 0, none⟩ = some (.string md) := X3.out.cell 0
  have q1 : w3.cell? ⟨W.heap.size, 1, none⟩ = some (.int .u32 key) := X3.out.cell 1
  have q2 : w3.cell? ⟨W.heap.size, 2, none⟩ = some (.slice Ai im.length ci) := X3.out.cell 2
  have q3 : w3.cell? ⟨W.heap.size, 3, none⟩ = some (.slice Ae es.length ce) := X3.out.cell 3
  clear hb3 hn3 B2 X2 EO
  go_wp2_with fail
  clear q0 q1 q2 q3
  refine (ref14_any md key Ai im ci Ae es ce w3).mono ?_
  rintro e w4 ⟨rfl, hb4⟩
  have B4 := Lib.hid (B3.out.trans (hb4.mono B3.out.size))
  have X4 := Lib.hid (X3.out.below hb4 X3.out.lt)
  have N4 := Lib.hid (N3.out.below hb4)
  have C4 := Lib.hid (CR.out w4 B4.out)
  clear hb4 B3 X3 CR N3
  go_wp2_with fail
  refine C4.out.mono ?_
  rintro e w5 ⟨rfl, hb5⟩
  have B5 := Lib.hid (B4.out.trans (hb5.mono B4.out.size))
  have X5 := Lib.hid (X4.out.below hb5 X4.out.lt)
  have N5 := Lib.hid (N4.out.below hb5)
  have D5 := Lib.hid (DC.out A3 c3 w5 N5.out)
  clear hb5 C4 B4 X4 N4 DC
  go_wp2_with fail
  refine D5.out.mono ?_
  intro e w6 hd6
  obtain ⟨A5, c5, A6, l, c6, rfl, hb6, hi6, he6, hm6⟩ := UD.out _ _ _ hd6
  have HM := Lib.hid hm6
  have hl : l.length = es.length := by have := congrArg List.length hm6; rwa [List.length_map, List.length_map] at this
  have hll : l.length ≤ 60 := by rw [hl]; exact SM.out.n
  have HPL := Lib.hid (show ∀ x ∈ l, x.1.ps.length * 16 ≤ 140737488355328 from fun x hx => by have := (sm_map hm6 SM.out.ex x hx).2.1; omega)
  have b7 := (Below.refl w6.heap.size w6).alloc (Nat.le_refl _) (.cells #[.string md, .int .u32 key, .slice A5 im.length c5, .slice A6 l.length c6] flT)
  have B7 := Lib.hid ((B5.out.trans (hb6.mono B5.out.size)).alloc (Nat.le_trans B5.out.size hb6.size) (.cells #[.string md, .int .u32 key, .slice A5 im.length c5, .slice A6 l.length c6] flT))
  have X7 := Lib.hid ((X5.out.below hb6 X5.out.lt).below b7 (Nat.lt_of_lt_of_le X5.out.lt hb6.size))
  have N7 := Lib.hid ((N5.out.below hb6).below b7)
  have Z7 := Lib.hid (Whole.made w6 flT #[.string md, .int .u32 key, .slice A5 im.length c5, .slice A6 l.length c6] _ rfl)
  have I7 := Lib.hid (hi6.below b7)
  have E7 := Lib.hid (he6.below b7)
  clear hd6 hb6 hi6 he6 hm6 hl b7 D5 UD B5 X5 N5
  go_wp2_with fail
  generalize w6.heap.size = p at *
  generalize hV : w6.alloc (.cells #[.string md, .int .u32 key, .slice A5 im.length c5, .slice A6 l.length c6] flT) = V at *
  clear hV
  have C := Lib.hid (fun y (hy : Below V.heap.size V y) => show (fun y => Below V.heap.size V y ∧ y.cell? ⟨W.heap.size, 0, none⟩ = some (.string md) ∧ y.cell? ⟨W.heap.size, 1, none⟩ = some (.int .u32 key) ∧ y.cell? ⟨W.heap.size, 2, none⟩ = some (.slice Ai im.length ci) ∧ y.cell? ⟨W.heap.size, 3, none⟩ = some (.slice Ae es.length ce) ∧ y.cell? ⟨p, 0, none⟩ = some (.string md) ∧ y.cell? ⟨p, 1, none⟩ = some (.int .u32 key) ∧ y.cell? ⟨p, 2, none⟩ = some (.slice A5 im.length c5) ∧ y.cell? ⟨p, 3, none⟩ = some (.slice A6 l.length c6)) y from ⟨hy, (X7.out.below hy X7.out.lt).cell 0, (X7.out.below hy X7.out.lt).cell 1, (X7.out.below hy X7.out.lt).cell 2, (X7.out.below hy X7.out.lt).cell 3, (Z7.out.below hy Z7.out.lt).cell 0, (Z7.out.below hy Z7.out.lt).cell 1, (Z7.out.below hy Z7.out.lt).cell 2, (Z7.out.below hy Z7.out.lt).cell 3⟩)
  have L0 := C.out V.drew (Below.refl _ _).drew
  have BV := Lib.hid (fun y (hy : Below V.heap.size V y) => B7.out.trans (hy.mono B7.out.size))
  have PA := Lib.hid (show ∀ x ∈ es, x.1.ps.length * 16 ≤ 140737488355328 from fun x hx => (HEO.out x hx).2.1)
  have T1 := Lib.hid (show sameFl ⟨md, key, im, l.map (·.1)⟩ ⟨md, key, im, es.map (·.1)⟩ = true from sameFl_yes (by rw [HM.out]))
  have T2 := Lib.hid (show sameFl ⟨md, key, im, es.map (·.1)⟩ ⟨md, key, im, l.map (·.1)⟩ = true from sameFl_yes (by rw [HM.out]))
  have RF := Lib.hid (show ∀ y, (fun y => Below V.heap.size V y ∧ y.cell? ⟨W.heap.size, 0, none⟩ = some (.string md) ∧ y.cell? ⟨W.heap.size, 1, none⟩ = some (.int .u32 key) ∧ y.cell? ⟨W.heap.size, 2, none⟩ = some (.slice Ai im.length ci) ∧ y.cell? ⟨W.heap.size, 3, none⟩ = some (.slice Ae es.length ce) ∧ y.cell? ⟨p, 0, none⟩ = some (.string md) ∧ y.cell? ⟨p, 1, none⟩ = some (.int .u32 key) ∧ y.cell? ⟨p, 2, none⟩ = some (.slice A5 im.length c5) ∧ y.cell? ⟨p, 3, none⟩ = some (.slice A6 l.length c6)) y → Calls Try.prog 15 #[.agg #[.string md, .int .u32 key, .slice Ai im.length ci, .slice Ae es.length ce]] y (fun e y' => e = .returned (.agg #[.string md, .int .u32 key, .slice Ai im.length ci, .slice Ae es.length ce]) ∧ (fun y => Below V.heap.size V y ∧ y.cell? ⟨W.heap.size, 0, none⟩ = some (.string md) ∧ y.cell? ⟨W.heap.size, 1, none⟩ = some (.int .u32 key) ∧ y.cell? ⟨W.heap.size, 2, none⟩ = some (.slice Ai im.length ci) ∧ y.cell? ⟨W.heap.size, 3, none⟩ = some (.slice Ae es.length ce) ∧ y.cell? ⟨p, 0, none⟩ = some (.string md) ∧ y.cell? ⟨p, 1, none⟩ = some (.int .u32 key) ∧ y.cell? ⟨p, 2, none⟩ = some (.slice A5 im.length c5) ∧ y.cell? ⟨p, 3, none⟩ = some (.slice A6 l.length c6)) y') from fun y hy => (ref14_any md key Ai im ci Ae es ce y).mono (fun e y' h => ⟨h.1, C.out y' (hy.1.trans (h.2.mono hy.1.size))⟩))
  have RY := Lib.hid (show ∀ y, (fun y => Below V.heap.size V y ∧ y.cell? ⟨W.heap.size, 0, none⟩ = some (.string md) ∧ y.cell? ⟨W.heap.size, 1, none⟩ = some (.int .u32 key) ∧ y.cell? ⟨W.heap.size, 2, none⟩ = some (.slice Ai im.length ci) ∧ y.cell? ⟨W.heap.size, 3, none⟩ = some (.slice Ae es.length ce) ∧ y.cell? ⟨p, 0, none⟩ = some (.string md) ∧ y.cell? ⟨p, 1, none⟩ = some (.int .u32 key) ∧ y.cell? ⟨p, 2, none⟩ = some (.slice A5 im.length c5) ∧ y.cell? ⟨p, 3, none⟩ = some (.slice A6 l.length c6)) y → Calls Try.prog 21 #[.agg #[.string md, .int .u32 key, .slice Ai im.length ci, .slice Ae es.length ce]] y (fun e y' => ∃ A c, e = .returned (.slice A FB.length c) ∧ Nums .u8 y' A FB.length FB ∧ (fun y => Below V.heap.size V y ∧ y.cell? ⟨W.heap.size, 0, none⟩ = some (.string md) ∧ y.cell? ⟨W.heap.size, 1, none⟩ = some (.int .u32 key) ∧ y.cell? ⟨W.heap.size, 2, none⟩ = some (.slice Ai im.length ci) ∧ y.cell? ⟨W.heap.size, 3, none⟩ = some (.slice Ae es.length ce) ∧ y.cell? ⟨p, 0, none⟩ = some (.string md) ∧ y.cell? ⟨p, 1, none⟩ = some (.int .u32 key) ∧ y.cell? ⟨p, 2, none⟩ = some (.slice A5 im.length c5) ∧ y.cell? ⟨p, 3, none⟩ = some (.slice A6 l.length c6)) y') from fun y hy => (RB.out y (BV.out y hy.1)).mono (fun e y' h => by
    obtain ⟨A, c, h1, h2, h3⟩ := h
    exact ⟨A, c, h1, h3, C.out y' (hy.1.trans (h2.mono hy.1.size))⟩))
  have SY := Lib.hid (show ∀ A c y, (fun y => Below V.heap.size V y ∧ y.cell? ⟨W.heap.size, 0, none⟩ = some (.string md) ∧ y.cell? ⟨W.heap.size, 1, none⟩ = some (.int .u32 key) ∧ y.cell? ⟨W.heap.size, 2, none⟩ = some (.slice Ai im.length ci) ∧ y.cell? ⟨W.heap.size, 3, none⟩ = some (.slice Ae es.length ce) ∧ y.cell? ⟨p, 0, none⟩ = some (.string md) ∧ y.cell? ⟨p, 1, none⟩ = some (.int .u32 key) ∧ y.cell? ⟨p, 2, none⟩ = some (.slice A5 im.length c5) ∧ y.cell? ⟨p, 3, none⟩ = some (.slice A6 l.length c6)) y → Nums .u8 y A FB.length FB → Calls Try.prog 20 #[.slice A3 FB.length c3, .slice A FB.length c] y (fun e y' => e = .returned (.bool true) ∧ (fun y => Below V.heap.size V y ∧ y.cell? ⟨W.heap.size, 0, none⟩ = some (.string md) ∧ y.cell? ⟨W.heap.size, 1, none⟩ = some (.int .u32 key) ∧ y.cell? ⟨W.heap.size, 2, none⟩ = some (.slice Ai im.length ci) ∧ y.cell? ⟨W.heap.size, 3, none⟩ = some (.slice Ae es.length ce) ∧ y.cell? ⟨p, 0, none⟩ = some (.string md) ∧ y.cell? ⟨p, 1, none⟩ = some (.int .u32 key) ∧ y.cell? ⟨p, 2, none⟩ = some (.slice A5 im.length c5) ∧ y.cell? ⟨p, 3, none⟩ = some (.slice A6 l.length c6)) y') from fun A c y hy hn => (same_any A3 A FB.length FB.length c3 c FB FB y (by omega) (N7.out.below hy.1) hn).mono (fun e y' h => ⟨by rw [h.1, decide_eq_true rfl], C.out y' (hy.1.trans (h.2.mono hy.1.size))⟩))
  have IY := Lib.hid (show ∀ y, (fun y => Below V.heap.size V y ∧ y.cell? ⟨W.heap.size, 0, none⟩ = some (.string md) ∧ y.cell? ⟨W.heap.size, 1, none⟩ = some (.int .u32 key) ∧ y.cell? ⟨W.heap.size, 2, none⟩ = some (.slice Ai im.length ci) ∧ y.cell? ⟨W.heap.size, 3, none⟩ = some (.slice Ae es.length ce) ∧ y.cell? ⟨p, 0, none⟩ = some (.string md) ∧ y.cell? ⟨p, 1, none⟩ = some (.int .u32 key) ∧ y.cell? ⟨p, 2, none⟩ = some (.slice A5 im.length c5) ∧ y.cell? ⟨p, 3, none⟩ = some (.slice A6 l.length c6)) y → Calls Try.prog 22 #[.agg #[.string md, .int .u32 key, .slice A5 im.length c5, .slice A6 l.length c6], .agg #[.string md, .int .u32 key, .slice Ai im.length ci, .slice Ae es.length ce]] y (fun e y' => e = .returned (.bool true) ∧ (fun y => Below V.heap.size V y ∧ y.cell? ⟨W.heap.size, 0, none⟩ = some (.string md) ∧ y.cell? ⟨W.heap.size, 1, none⟩ = some (.int .u32 key) ∧ y.cell? ⟨W.heap.size, 2, none⟩ = some (.slice Ai im.length ci) ∧ y.cell? ⟨W.heap.size, 3, none⟩ = some (.slice Ae es.length ce) ∧ y.cell? ⟨p, 0, none⟩ = some (.string md) ∧ y.cell? ⟨p, 1, none⟩ = some (.int .u32 key) ∧ y.cell? ⟨p, 2, none⟩ = some (.slice A5 im.length c5) ∧ y.cell? ⟨p, 3, none⟩ = some (.slice A6 l.length c6)) y') from fun y hy => (is14_any md key A5 im c5 A6 l c6 md key Ai im ci Ae es ce _ _ _ _ y (I7.out.below hy.1) (HI.out.below (BV.out y hy.1)) (E7.out.below hy.1) (HE.out.below (BV.out y hy.1)).toR (by omega) (by omega) (by omega) hen HPL.out PA.out).mono (fun e y' h => ⟨by rw [h.1, T1.out], C.out y' (hy.1.trans (h.2.mono hy.1.size))⟩))
  have ZY := Lib.hid (show ∀ y, (fun y => Below V.heap.size V y ∧ y.cell? ⟨W.heap.size, 0, none⟩ = some (.string md) ∧ y.cell? ⟨W.heap.size, 1, none⟩ = some (.int .u32 key) ∧ y.cell? ⟨W.heap.size, 2, none⟩ = some (.slice Ai im.length ci) ∧ y.cell? ⟨W.heap.size, 3, none⟩ = some (.slice Ae es.length ce) ∧ y.cell? ⟨p, 0, none⟩ = some (.string md) ∧ y.cell? ⟨p, 1, none⟩ = some (.int .u32 key) ∧ y.cell? ⟨p, 2, none⟩ = some (.slice A5 im.length c5) ∧ y.cell? ⟨p, 3, none⟩ = some (.slice A6 l.length c6)) y → Calls Try.prog 23 #[.agg #[.string md, .int .u32 key, .slice Ai im.length ci, .slice Ae es.length ce], .agg #[.string md, .int .u32 key, .slice A5 im.length c5, .slice A6 l.length c6]] y (fun e y' => e = .returned (.bool true) ∧ (fun y => Below V.heap.size V y ∧ y.cell? ⟨W.heap.size, 0, none⟩ = some (.string md) ∧ y.cell? ⟨W.heap.size, 1, none⟩ = some (.int .u32 key) ∧ y.cell? ⟨W.heap.size, 2, none⟩ = some (.slice Ai im.length ci) ∧ y.cell? ⟨W.heap.size, 3, none⟩ = some (.slice Ae es.length ce) ∧ y.cell? ⟨p, 0, none⟩ = some (.string md) ∧ y.cell? ⟨p, 1, none⟩ = some (.int .u32 key) ∧ y.cell? ⟨p, 2, none⟩ = some (.slice A5 im.length c5) ∧ y.cell? ⟨p, 3, none⟩ = some (.slice A6 l.length c6)) y') from fun y hy => (same14_any md key Ai im ci Ae es ce md key A5 im c5 A6 l c6 _ _ _ _ y (HI.out.below (BV.out y hy.1)) (I7.out.below hy.1) (HE.out.below (BV.out y hy.1)).toR (E7.out.below hy.1) (by omega) (by omega) hen (by omega) PA.out HPL.out).mono (fun e y' h => ⟨by rw [h.1, T2.out], C.out y' (hy.1.trans (h.2.mono hy.1.size))⟩))
  clear HI HE X7 Z7 I7 E7 N7 T1 T2 HM PA HPL SM HIO HEO RB
  go_region_held3 (fun y => Below V.heap.size V y ∧ y.cell? ⟨W.heap.size, 0, none⟩ = some (.string md) ∧ y.cell? ⟨W.heap.size, 1, none⟩ = some (.int .u32 key) ∧ y.cell? ⟨W.heap.size, 2, none⟩ = some (.slice Ai im.length ci) ∧ y.cell? ⟨W.heap.size, 3, none⟩ = some (.slice Ae es.length ce) ∧ y.cell? ⟨p, 0, none⟩ = some (.string md) ∧ y.cell? ⟨p, 1, none⟩ = some (.int .u32 key) ∧ y.cell? ⟨p, 2, none⟩ = some (.slice A5 im.length c5) ∧ y.cell? ⟨p, 3, none⟩ = some (.slice A6 l.length c6))
    (first
      | with_reducible assumption
      | with_reducible exact L0
      | fail)
    (first
      | (go_at_call 15; refine (RF.out _ (by assumption)).mono ?_; rintro e y0 ⟨rfl, hs0⟩)
      | (go_at_call 21; refine (RY.out _ (by assumption)).mono ?_; rintro e y1 ⟨A8, c8, rfl, hn8, hs1⟩; have N8 := Lib.hid hn8; clear hn8)
      | (go_at_call 20; refine (SY.out _ _ _ (by assumption) N8.out).mono ?_; rintro e y2 ⟨rfl, hs2⟩)
      | (go_at_call 22; refine (IY.out _ (by assumption)).mono ?_; rintro e y3 ⟨rfl, hs3⟩)
      | (go_at_call 23; refine (ZY.out _ (by assumption)).mono ?_; rintro e y4 ⟨rfl, hs4⟩))
  all_goals
    rename_i hH
    have BH := Lib.hid (BV.out _ hH.1)
    clear hH L0 C RF RY SY IY ZY
    go_wp2_with fail
    go_ret
    exact ⟨rfl, BH.out⟩

set_option maxRecDepth 100000 in
theorem lifted (os : Os) (started : os.Started) (H : Type) (enc : TypeId × Value → H) :
    ReturnsInHanded {} Try.checked os 4 .any (Rows.symfileBytesSpec.pre6 enc Try.prog Try.f4 Rows.symfileBytesRow.domain false) (Rows.symfileBytesSpec.post enc Try.prog Try.f4 false true false false) := by
  refine returnsInHanded_of_change_sized (C := Try.checked) Try.own started (by kernel_rfl) Try.func4
    (ChangeSpec.witness6 (enc := enc) (C := Try.checked) false ⟨#[], #[.agg #[.string ⟨#[]⟩, .int .u32 0, .slice none 0 0, .slice none 0 0]], []⟩ 8 (by kernel_rfl) (by kernel_rfl) (by kernel_rfl) (by kernel_rfl)) ?_
  intro W base args ds gs before hval0 hW hcnd hsz _
  have hval : ∀ (j : Nat) t v, Try.f4.params[j]? = some t → args[j]? = some v → Value.okWide Try.prog W .any base t v := hval0
  have hW' := hW
  obtain ⟨p, q, hA0, hV, rfl, hfz, hnd⟩ := hW
  have hA : DataW.TrodAll enc Try.prog W 0 (fun _ => true) true Try.f4.params.toList args.toList ds p := hA0
  rw [Try.params4] at hA hval
  obtain ⟨v0, vs0, d0, ds0, p0, q0, hargs, rfl, rfl, h0, r0⟩ := trodAll_cons hA
  obtain ⟨rfl, rfl, rfl⟩ := trodAll_nil r0
  obtain rfl : args = #[v0] := by cases args; simp_all
  clear hA0 hval0
  obtain ⟨md0, key0, Ai0, im0, ci0, Ae0, es0, ce0, rfl, hF0⟩ := open_file (hval 0 26 v0 rfl rfl) h0 (fun k hk => Nat.le_trans (of_decide_eq_true (List.all_eq_true.1 hsz _ (DataW.weights_mem_each (j := 0) (t := 26) rfl rfl _ hk))) (by decide))
  refine (walk W md0 key0 Ai0 im0 ci0 Ae0 es0 ce0 hF0).mono fun e W' ⟨he, hg⟩ => ?_
  subst he
  exact ⟨_, rfl, law_post Try.laidOut Try.mapsRowed Try.slicesFull (by kernel_rfl) rfl (by kernel_rfl) Try.underlying4 rfl hW' hg⟩

theorem over : Rows.symfileBytesRow.holds Try.pinned (OpenSpec.ofChange Rows.symfileBytesSpec) :=
  OpenClaim.holds_of_wide 4 Try.f4 rfl rfl rfl rfl rfl rfl rfl ⟨rfl, rfl, rfl, rfl, rfl⟩ rfl rfl rfl rfl rfl (by kernel_rfl) Try.func4 (by kernel_rfl)
    (of_decide_eq_true (by kernel_rfl)) (by unfold Func.isWrapper; first | (rw [if_pos (by decide +kernel)]; kernel_rfl) | (rw [if_neg (by decide +kernel)]; exact ⟨rfl, rfl⟩))
    (fun os started H enc _ => lifted os started H enc)

theorem proved : Rows.SymfileBytesSaid :=
  over
end Go.Proofs.Ythmjniedfiabhaa.lawSymfileBytes
