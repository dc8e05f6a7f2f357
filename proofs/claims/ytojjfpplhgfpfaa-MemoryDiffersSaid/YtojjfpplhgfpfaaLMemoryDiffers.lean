/- MemoryDiffers: of two memories made by whatever stores, fills and clones over one layout, Differ tells the first word that differs, or that there is none; one and its clone do not differ. No condition beyond the row's own. -/
import Derived.Test.YtojjfpplhgfpfaaRows
import Derived.Test.YtojjfpplhgfpfaaLift
import Derived.Test.YtojjfpplhgfpfaaMemR
import Derived.Test.YtojjfpplhgfpfaaMemT
import Derived.Test.YtojjfpplhgfpfaaMemS
namespace Go.Proofs.Ytojjfpplhgfpfaa.lawMemoryDiffers
open Go.ChangeShapes Go.WideShapes Go.ChangeAt Go.RowKit
set_option linter.unusedVariables false
/-- A layout that is tried: its words. -/
theorem few_words {e0 e1 e2 e3 e4 : Int} {n2 : Nat} {f : Nat → OpR} (u0 : U32 e0) (u1 : U32 e1) (u2 : U32 e2) (u3 : U32 e3) (u4 : U32 e4) (hF : FewOk e0 e1 e2 e3 e4 n2 f) (hok : okEnds e0 e1 e2 e3 e4 = true) : ∃ n : Nat, e4 = 4 * n ∧ n ≤ 1024 ∧ e0 ≤ e4 ∧ e1 ≤ e4 := by
  have hk := hok
  unfold okEnds at hk
  simp only [Bool.and_eq_true] at hk
  obtain ⟨h0, h1, h2, h3, h4⟩ := hk
  have a1 := okEnd_yes h1
  have a2 := okEnd_yes h2
  have a3 := okEnd_yes h3
  have a4 := okEnd_yes h4
  have hs : ¬ 4096 < e4 := fun h => hF.1 ⟨hok, h⟩
  have := u4.1
  exact ⟨(e4 / 4).toNat, by omega, by omega, by omega, by omega⟩

theorem differs_self {n : Nat} {ws : List Int} {r : Int} {b : Bool} (h : DiffersAt n ws ws r b) : r = 0 ∧ b = false := by
  rcases h with ⟨j, _, _, h, _⟩ | ⟨_, h⟩
  · exact absurd rfl h
  · exact h

set_option maxHeartbeats 16000000 in
set_option maxRecDepth 100000 in
theorem walk (w : World) (e0 : Int) (v0 : (Lit.int .u32 e0).wf = true) (e1 : Int) (v1 : (Lit.int .u32 e1).wf = true) (e2 : Int) (v2 : (Lit.int .u32 e2).wf = true) (e3 : Int) (v3 : (Lit.int .u32 e3).wf = true) (e4 : Int) (v4 : (Lit.int .u32 e4).wf = true) (A : Option Addr) (n2 c : Nat) (f : Nat → OpR) (hO : OpsAt w A n2 f) (hm : n2 ≤ maxLen) (A' : Option Addr) (n3 c' : Nat) (f' : Nat → OpR) (hO' : OpsAt w A' n3 f') (hm' : n3 ≤ maxLen) :
    Calls Try.prog 5 #[.agg #[.int .u32 e0, .int .u32 e1, .int .u32 e2, .int .u32 e3, .int .u32 e4], .slice A n2 c, .slice A' n3 c'] w fun e w' => e = .returned (.bool true) ∧ Below w.heap.size w w' := by
  have OA := Lib.hid hO
  have OB := Lib.hid hO'
  have FW := Lib.hid (fun w h => few_any e0 e1 e2 e3 e4 A n2 c f w (u32_of_wf v0) (u32_of_wf v1) (u32_of_wf v2) (u32_of_wf v3) (u32_of_wf v4) h)
  have FV := Lib.hid (fun w h => few_any e0 e1 e2 e3 e4 A' n3 c' f' w (u32_of_wf v0) (u32_of_wf v1) (u32_of_wf v2) (u32_of_wf v3) (u32_of_wf v4) h)
  have GOOD := Lib.hid (fun n hl hn w hok h hF hn4 => played_ok e0 e1 e2 e3 e4 n A n2 c f w (u32_of_wf v0) (u32_of_wf v1) (u32_of_wf v2) (u32_of_wf v3) (u32_of_wf v4) hok hl hn h hF hn4)
  have GOOD2 := Lib.hid (fun n hl hn w hok h hF hn4 => played_ok e0 e1 e2 e3 e4 n A' n3 c' f' w (u32_of_wf v0) (u32_of_wf v1) (u32_of_wf v2) (u32_of_wf v3) (u32_of_wf v4) hok hl hn h hF hn4)
  have BAD := Lib.hid (fun w hok => played_bad e0 e1 e2 e3 e4 A n2 c w (u32_of_wf v0) (u32_of_wf v1) (u32_of_wf v2) (u32_of_wf v3) (u32_of_wf v4) hok)
  have BAD2 := Lib.hid (fun w hok => played_bad e0 e1 e2 e3 e4 A' n3 c' w (u32_of_wf v0) (u32_of_wf v1) (u32_of_wf v2) (u32_of_wf v3) (u32_of_wf v4) hok)
  have LW := Lib.hid (fun hF hok => few_words (n2 := n2) (f := f) (u32_of_wf v0) (u32_of_wf v1) (u32_of_wf v2) (u32_of_wf v3) (u32_of_wf v4) hF hok)
  clear hO hm hO' hm' v0 v1 v2 v3 v4
  unfold endsV at *
  go_enter Try.func5, Try.ntmps5
  go_wp2_with fail
  refine (awake3_any _).mono ?_
  rintro e w1 ⟨rfl, hb1⟩
  have Q1 := Lib.hid ((Whole.made w 24 #[.int .u32 e0, .int .u32 e1, .int .u32 e2, .int .u32 e3, .int .u32 e4] _ rfl).below hb1 (by simp))
  have B1 := Lib.hid (((Below.refl _ _).alloc (Nat.le_refl _) _).trans (hb1.mono (show w.heap.size ≤ _ by simp)))
  clear hb1
  have q0 : w1.cell? ⟨w.heap.size, 0, none⟩ = some (.int .u32 e0) := Q1.out.cell 0
  have q1 : w1.cell? ⟨w.heap.size, 1, none⟩ = some (.int .u32 e1) := Q1.out.cell 1
  have q2 : w1.cell? ⟨w.heap.size, 2, none⟩ = some (.int .u32 e2) := Q1.out.cell 2
  have q3 : w1.cell? ⟨w.heap.size, 3, none⟩ = some (.int .u32 e3) := Q1.out.cell 3
  have q4 : w1.cell? ⟨w.heap.size, 4, none⟩ = some (.int .u32 e4) := Q1.out.cell 4
  go_wp2_with fail
  clear q0 q1 q2 q3 q4
  refine (FW.out _ (OA.out.below B1.out)).mono ?_
  rintro e w2 ⟨b, rfl, hf, hb2⟩
  have Q2 := Lib.hid (Q1.out.below hb2 Q1.out.lt)
  have B2 := Lib.hid (B1.out.trans (hb2.mono B1.out.size))
  have HF := Lib.hid hf
  clear hb2 hf
  have q0 : w2.cell? ⟨w.heap.size, 0, none⟩ = some (.int .u32 e0) := Q2.out.cell 0
  have q1 : w2.cell? ⟨w.heap.size, 1, none⟩ = some (.int .u32 e1) := Q2.out.cell 1
  have q2 : w2.cell? ⟨w.heap.size, 2, none⟩ = some (.int .u32 e2) := Q2.out.cell 2
  have q3 : w2.cell? ⟨w.heap.size, 3, none⟩ = some (.int .u32 e3) := Q2.out.cell 3
  have q4 : w2.cell? ⟨w.heap.size, 4, none⟩ = some (.int .u32 e4) := Q2.out.cell 4
  cases b with
  | false =>
    go_wp2_with fail
    go_ret
    exact ⟨rfl, B2.out⟩
  | true =>
    have HF2 := Lib.hid (HF.out rfl)
    clear HF
    go_wp2_with fail
    clear q0 q1 q2 q3 q4
    refine (FV.out _ (OB.out.below B2.out)).mono ?_
    rintro e w3 ⟨b, rfl, hf, hb3⟩
    have Q3 := Lib.hid (Q2.out.below hb3 Q2.out.lt)
    have B3 := Lib.hid (B2.out.trans (hb3.mono B2.out.size))
    have HG := Lib.hid hf
    clear hb3 hf Q1 B1 Q2 B2
    have q0 : w3.cell? ⟨w.heap.size, 0, none⟩ = some (.int .u32 e0) := Q3.out.cell 0
    have q1 : w3.cell? ⟨w.heap.size, 1, none⟩ = some (.int .u32 e1) := Q3.out.cell 1
    have q2 : w3.cell? ⟨w.heap.size, 2, none⟩ = some (.int .u32 e2) := Q3.out.cell 2
    have q3 : w3.cell? ⟨w.heap.size, 3, none⟩ = some (.int .u32 e3) := Q3.out.cell 3
    have q4 : w3.cell? ⟨w.heap.size, 4, none⟩ = some (.int .u32 e4) := Q3.out.cell 4
    cases b with
    | false =>
      go_wp2_with fail
      go_ret
      exact ⟨rfl, B3.out⟩
    | true =>
      by_cases hk : okEnds e0 e1 e2 e3 e4 = true
      case neg =>
        have hk' : okEnds e0 e1 e2 e3 e4 = false := by simpa using hk
        have PL := Lib.hid (BAD.out w3 hk')
        have PM := Lib.hid (fun w => BAD2.out w hk')
        clear hk hk' GOOD GOOD2 BAD BAD2 LW HF2 HG
        go_wp2_with fail
        clear q0 q1 q2 q3 q4
        refine PL.out.mono ?_
        rintro e w4 ⟨rfl, hb4⟩
        have Q4 := Lib.hid ((Q3.out.below hb4 Q3.out.lt).alloc (.cells #[.int .u32 0, .int .u32 0, .int .u32 0, .int .u32 0, .int .u32 0, .slice none 0 0] 32))
        have B4 := Lib.hid ((B3.out.trans (hb4.mono B3.out.size)).alloc (Nat.le_trans B3.out.size hb4.size) (.cells #[.int .u32 0, .int .u32 0, .int .u32 0, .int .u32 0, .int .u32 0, .slice none 0 0] 32))
        clear hb4
        have q0 : (w4.alloc (.cells #[.int .u32 0, .int .u32 0, .int .u32 0, .int .u32 0, .int .u32 0, .slice none 0 0] 32)).cell? ⟨w.heap.size, 0, none⟩ = some (.int .u32 e0) := Q4.out.cell 0
        have q1 : (w4.alloc (.cells #[.int .u32 0, .int .u32 0, .int .u32 0, .int .u32 0, .int .u32 0, .slice none 0 0] 32)).cell? ⟨w.heap.size, 1, none⟩ = some (.int .u32 e1) := Q4.out.cell 1
        have q2 : (w4.alloc (.cells #[.int .u32 0, .int .u32 0, .int .u32 0, .int .u32 0, .int .u32 0, .slice none 0 0] 32)).cell? ⟨w.heap.size, 2, none⟩ = some (.int .u32 e2) := Q4.out.cell 2
        have q3 : (w4.alloc (.cells #[.int .u32 0, .int .u32 0, .int .u32 0, .int .u32 0, .int .u32 0, .slice none 0 0] 32)).cell? ⟨w.heap.size, 3, none⟩ = some (.int .u32 e3) := Q4.out.cell 3
        have q4 : (w4.alloc (.cells #[.int .u32 0, .int .u32 0, .int .u32 0, .int .u32 0, .int .u32 0, .slice none 0 0] 32)).cell? ⟨w.heap.size, 4, none⟩ = some (.int .u32 e4) := Q4.out.cell 4
        go_wp2_with fail
        clear q0 q1 q2 q3 q4
        generalize w4.alloc (.cells #[.int .u32 0, .int .u32 0, .int .u32 0, .int .u32 0, .int .u32 0, .slice none 0 0] 32) = w5 at *
        refine (PM.out _).mono ?_
        rintro e w6 ⟨rfl, hb6⟩
        have B6 := Lib.hid (B4.out.trans (hb6.mono B4.out.size))
        clear hb6
        go_wp2_with fail
        go_ret
        exact ⟨rfl, B6.out.alloc B6.out.size _⟩
      have HG2 := Lib.hid (HG.out rfl)
      obtain ⟨n, hl, hn, _, _⟩ := LW.out HF2.out hk
      have PL := Lib.hid (GOOD.out n hl (by omega) w3 hk (OA.out.below B3.out) HF2.out.2.2 HF2.out.2.1)
      have PM := Lib.hid (fun w h => GOOD2.out n hl (by omega) w hk h HG2.out.2.2 HG2.out.2.1)
      clear hl hk GOOD GOOD2 BAD BAD2 LW HF2 HG HG2 OA FW FV
      unfold PlayedPost memCells at PL PM
      go_wp2_with fail
      clear q0 q1 q2 q3 q4
      refine PL.out.mono ?_
      rintro e w4 ⟨p, h, h2, ws, rfl, hM, hW, hK, hln, hu, g1, g2, n1, n2, hb4⟩
      have Q4 := Lib.hid ((Q3.out.below hb4 Q3.out.lt).alloc (.cells #[.int .u32 e0, .int .u32 e1, .int .u32 e2, .int .u32 e3, .int .u32 e4, .slice (some ⟨h2, 0, none⟩) n n] 32))
      have B4 := Lib.hid ((B3.out.trans (hb4.mono B3.out.size)).alloc (Nat.le_trans B3.out.size hb4.size) (.cells #[.int .u32 e0, .int .u32 e1, .int .u32 e2, .int .u32 e3, .int .u32 e4, .slice (some ⟨h2, 0, none⟩) n n] 32))
      have M4 := Lib.hid (hM.alloc (.cells #[.int .u32 e0, .int .u32 e1, .int .u32 e2, .int .u32 e3, .int .u32 e4, .slice (some ⟨h2, 0, none⟩) n n] 32))
      have W4 := Lib.hid (hW.alloc (.cells #[.int .u32 e0, .int .u32 e1, .int .u32 e2, .int .u32 e3, .int .u32 e4, .slice (some ⟨h2, 0, none⟩) n n] 32))
      have K4 := Lib.hid (hK.alloc (.cells #[.int .u32 e0, .int .u32 e1, .int .u32 e2, .int .u32 e3, .int .u32 e4, .slice (some ⟨h2, 0, none⟩) n n] 32))
      have V4 := Lib.hid (Whole.made w4 32 #[.int .u32 e0, .int .u32 e1, .int .u32 e2, .int .u32 e3, .int .u32 e4, .slice (some ⟨h2, 0, none⟩) n n] _ rfl)
      have UW := Lib.hid hu
      have LN := Lib.hid hln
      clear hb4 hM hW hK hu g1 g2 n1 n2 hln Q3 B3 PL
      have q0 : (w4.alloc (.cells #[.int .u32 e0, .int .u32 e1, .int .u32 e2, .int .u32 e3, .int .u32 e4, .slice (some ⟨h2, 0, none⟩) n n] 32)).cell? ⟨w.heap.size, 0, none⟩ = some (.int .u32 e0) := Q4.out.cell 0
      have q1 : (w4.alloc (.cells #[.int .u32 e0, .int .u32 e1, .int .u32 e2, .int .u32 e3, .int .u32 e4, .slice (some ⟨h2, 0, none⟩) n n] 32)).cell? ⟨w.heap.size, 1, none⟩ = some (.int .u32 e1) := Q4.out.cell 1
      have q2 : (w4.alloc (.cells #[.int .u32 e0, .int .u32 e1, .int .u32 e2, .int .u32 e3, .int .u32 e4, .slice (some ⟨h2, 0, none⟩) n n] 32)).cell? ⟨w.heap.size, 2, none⟩ = some (.int .u32 e2) := Q4.out.cell 2
      have q3 : (w4.alloc (.cells #[.int .u32 e0, .int .u32 e1, .int .u32 e2, .int .u32 e3, .int .u32 e4, .slice (some ⟨h2, 0, none⟩) n n] 32)).cell? ⟨w.heap.size, 3, none⟩ = some (.int .u32 e3) := Q4.out.cell 3
      have q4 : (w4.alloc (.cells #[.int .u32 e0, .int .u32 e1, .int .u32 e2, .int .u32 e3, .int .u32 e4, .slice (some ⟨h2, 0, none⟩) n n] 32)).cell? ⟨w.heap.size, 4, none⟩ = some (.int .u32 e4) := Q4.out.cell 4
      go_wp2_with fail
      clear q0 q1 q2 q3 q4
      generalize w4.alloc (.cells #[.int .u32 e0, .int .u32 e1, .int .u32 e2, .int .u32 e3, .int .u32 e4, .slice (some ⟨h2, 0, none⟩) n n] 32) = w5 at *
      generalize w4.heap.size = g8 at *
      refine (PM.out _ (OB.out.below B4.out)).mono ?_
      rintro e w6 ⟨p2, k, k2, vs, rfl, hM, hW, hK, hln, hu, g1, g2, n1, n2, hb6⟩
      have B6 := Lib.hid ((B4.out.trans (hb6.mono B4.out.size)).alloc (Nat.le_trans B4.out.size hb6.size) (.cells #[.int .u32 e0, .int .u32 e1, .int .u32 e2, .int .u32 e3, .int .u32 e4, .slice (some ⟨k2, 0, none⟩) n n] 32))
      have M6 := Lib.hid ((M4.out.below hb6 M4.out.lt).alloc (.cells #[.int .u32 e0, .int .u32 e1, .int .u32 e2, .int .u32 e3, .int .u32 e4, .slice (some ⟨k2, 0, none⟩) n n] 32))
      have W6 := Lib.hid ((W4.out.below hb6 W4.out.lt).alloc (.cells #[.int .u32 e0, .int .u32 e1, .int .u32 e2, .int .u32 e3, .int .u32 e4, .slice (some ⟨k2, 0, none⟩) n n] 32))
      have K6 := Lib.hid ((K4.out.below hb6 K4.out.lt).alloc (.cells #[.int .u32 e0, .int .u32 e1, .int .u32 e2, .int .u32 e3, .int .u32 e4, .slice (some ⟨k2, 0, none⟩) n n] 32))
      have V6 := Lib.hid ((V4.out.below hb6 V4.out.lt).alloc (.cells #[.int .u32 e0, .int .u32 e1, .int .u32 e2, .int .u32 e3, .int .u32 e4, .slice (some ⟨k2, 0, none⟩) n n] 32))
      have N6 := Lib.hid (hM.alloc (.cells #[.int .u32 e0, .int .u32 e1, .int .u32 e2, .int .u32 e3, .int .u32 e4, .slice (some ⟨k2, 0, none⟩) n n] 32))
      have X6 := Lib.hid (hW.alloc (.cells #[.int .u32 e0, .int .u32 e1, .int .u32 e2, .int .u32 e3, .int .u32 e4, .slice (some ⟨k2, 0, none⟩) n n] 32))
      have Y6 := Lib.hid (hK.alloc (.cells #[.int .u32 e0, .int .u32 e1, .int .u32 e2, .int .u32 e3, .int .u32 e4, .slice (some ⟨k2, 0, none⟩) n n] 32))
      have Z6 := Lib.hid (Whole.made w6 32 #[.int .u32 e0, .int .u32 e1, .int .u32 e2, .int .u32 e3, .int .u32 e4, .slice (some ⟨k2, 0, none⟩) n n] _ rfl)
      have UV := Lib.hid hu
      have DI := Lib.hid (fun w a b c d => differ_any p h p2 k n e0 e1 e2 e3 e4 ws vs w a b c d LN.out hln (by omega) UW.out UV.out)
      have DJ := Lib.hid (fun q h' w a b c d => differ_any p h q h' n e0 e1 e2 e3 e4 ws ws w a b c d LN.out LN.out (by omega) UW.out UW.out)
      have CL := Lib.hid (fun w hm hw => clone_any p h n e0 e1 e2 e3 e4 ws w hm hw LN.out (by omega))
      have LM := Lib.hid hln
      clear hb6 hM hW hK hu hln g1 g2 n1 n2 Q4 B4 M4 W4 K4 V4 PM OB
      unfold DifferPost at DI DJ
      unfold MadePost at CL
      unfold memCells at DI DJ CL
      go_wp2_with fail
      generalize w6.alloc (.cells #[.int .u32 e0, .int .u32 e1, .int .u32 e2, .int .u32 e3, .int .u32 e4, .slice (some ⟨k2, 0, none⟩) n n] 32) = w7 at *
      generalize w6.heap.size = g11 at *
      refine (DI.out _ M6.out N6.out W6.out X6.out).mono ?_
      rintro e w8 ⟨r, bb, rfl, hD, hb8⟩
      have M8 := Lib.hid (M6.out.below hb8 M6.out.lt)
      have W8 := Lib.hid (W6.out.below hb8 W6.out.lt)
      have K8 := Lib.hid (K6.out.below hb8 K6.out.lt)
      have V8 := Lib.hid (V6.out.below hb8 V6.out.lt)
      have Y8 := Lib.hid (Y6.out.below hb8 Y6.out.lt)
      have Z8 := Lib.hid (Z6.out.below hb8 Z6.out.lt)
      have B8 := Lib.hid (B6.out.trans (hb8.mono B6.out.size))
      have HD := Lib.hid hD
      clear hb8 hD M6 W6 K6 V6 N6 X6 Y6 Z6 B6 DI
      go_wp2_with fail
      refine (CL.out _ M8.out W8.out).mono ?_
      rintro e w9 ⟨p', h', rfl, hM, hW, gh', gp', hne, hb9⟩
      have M9 := Lib.hid (M8.out.below hb9 M8.out.lt)
      have W9 := Lib.hid (W8.out.below hb9 W8.out.lt)
      have K9 := Lib.hid (K8.out.below hb9 K8.out.lt)
      have V9 := Lib.hid (V8.out.below hb9 V8.out.lt)
      have Y9 := Lib.hid (Y8.out.below hb9 Y8.out.lt)
      have Z9 := Lib.hid (Z8.out.below hb9 Z8.out.lt)
      have B9 := Lib.hid (B8.out.trans (hb9.mono B8.out.size))
      have C9 := Lib.hid hM
      have D9 := Lib.hid hW
      clear hb9 hM hW gh' gp' hne M8 W8 K8 V8 Y8 Z8 B8 CL
      go_wp2_with fail
      refine (DJ.out _ _ _ M9.out C9.out W9.out D9.out).mono ?_
      rintro e wa ⟨r', b', rfl, hD, hba⟩
      obtain ⟨rfl, rfl⟩ := differs_self hD
      have Ka := Lib.hid (K9.out.below hba K9.out.lt)
      have Va := Lib.hid (V9.out.below hba V9.out.lt)
      have Ya := Lib.hid (Y9.out.below hba Y9.out.lt)
      have Za := Lib.hid (Z9.out.below hba Z9.out.lt)
      have Ba := Lib.hid (B9.out.trans (hba.mono B9.out.size))
      clear hba hD M9 W9 K9 V9 Y9 Z9 B9 C9 D9 DJ
      go_wp2_with fail
      rcases HD.out with ⟨j0, hj0, heq, hne, rfl, rfl⟩ | ⟨heq, rfl, rfl⟩
      · have HE := Lib.hid heq
        have HN := Lib.hid hne
        clear heq hne HD
        go_loopw [18] (fun i wr => ∃ j : Nat, j ≤ j0 ∧ i = .int .i64 j ∧ Hid (Whole wr h2 22 (words ws)) ∧ Hid (Whole wr k2 22 (words vs)) ∧ Hid (Whole wr g8 32 #[.int .u32 e0, .int .u32 e1, .int .u32 e2, .int .u32 e3, .int .u32 e4, .slice (some ⟨h2, 0, none⟩) n n]) ∧ Hid (Whole wr g11 32 #[.int .u32 e0, .int .u32 e1, .int .u32 e2, .int .u32 e3, .int .u32 e4, .slice (some ⟨k2, 0, none⟩) n n]) ∧ Hid (Below w.heap.size w wr)) (fun i _ => n - (intOf i).toNat)
        case atStart => exact ⟨0, Nat.zero_le _, rfl, Ka.out, Ya.out, Va.out, Za.out, Ba.out⟩
        case round =>
          obtain ⟨j, hj, rfl, HK, HY, HV, HZ, HB⟩ := hrel
          have hjn : j < n := by omega
          have a5 : wr.cell? ⟨g8, 5, none⟩ = some (.slice (some ⟨h2, 0, none⟩) n n) := HV.out.cell 5
          have b5 : wr.cell? ⟨g11, 5, none⟩ = some (.slice (some ⟨k2, 0, none⟩) n n) := HZ.out.cell 5
          have c0 := HK.out.word (k := j) (by have := LN.out; omega)
          have d0 := HY.out.word (k := j) (by have := LM.out; omega)
          obtain ⟨x0, x1⟩ := wordOfs UW.out j
          obtain ⟨y0, y1⟩ := wordOfs UV.out j
          by_cases hlt : j < j0
          · rw [← HE.out j hlt] at d0 y0 y1
            generalize ws.getD j 0 = x at *
            go_wp2_with fail
            go_quiet (fail)
            have HK2 := Lib.hid (HK.out.drawn nq)
            have HY2 := Lib.hid (HY.out.drawn nq)
            have HV2 := Lib.hid (HV.out.drawn nq)
            have HZ2 := Lib.hid (HZ.out.drawn nq)
            have HB2 := Lib.hid (below_drawn HB.out nq)
            go_wp2_with fail
            go_roundw
            case rel => exact ⟨j + 1, by omega, by go_num, HK2, HY2, HV2, HZ2, HB2⟩
            case measure => simp [intOf]; omega
          · obtain rfl : j = j0 := by omega
            have hne : (ws.getD j 0 != vs.getD j 0) = true := by simpa using HN.out
            clear HN
            generalize ws.getD j 0 = x at *
            generalize vs.getD j 0 = y at *
            go_wp2_with fail
            go_quiet (fail)
            go_wp2_with fail
            go_ret
            exact ⟨by simp, below_drawn HB.out _⟩
      · have HE := Lib.hid heq
        clear heq HD
        go_loopw [18] (fun i wr => ∃ j : Nat, j ≤ n ∧ i = .int .i64 j ∧ Hid (Whole wr h2 22 (words ws)) ∧ Hid (Whole wr k2 22 (words vs)) ∧ Hid (Whole wr g8 32 #[.int .u32 e0, .int .u32 e1, .int .u32 e2, .int .u32 e3, .int .u32 e4, .slice (some ⟨h2, 0, none⟩) n n]) ∧ Hid (Whole wr g11 32 #[.int .u32 e0, .int .u32 e1, .int .u32 e2, .int .u32 e3, .int .u32 e4, .slice (some ⟨k2, 0, none⟩) n n]) ∧ Hid (Below w.heap.size w wr)) (fun i _ => n - (intOf i).toNat)
        case atStart => exact ⟨0, Nat.zero_le _, rfl, Ka.out, Ya.out, Va.out, Za.out, Ba.out⟩
        case round =>
          obtain ⟨j, hj, rfl, HK, HY, HV, HZ, HB⟩ := hrel
          have a5 : wr.cell? ⟨g8, 5, none⟩ = some (.slice (some ⟨h2, 0, none⟩) n n) := HV.out.cell 5
          by_cases hjn : j < n
          · have b5 : wr.cell? ⟨g11, 5, none⟩ = some (.slice (some ⟨k2, 0, none⟩) n n) := HZ.out.cell 5
            have c0 := HK.out.word (k := j) (by have := LN.out; omega)
            have d0 := HY.out.word (k := j) (by have := LM.out; omega)
            obtain ⟨x0, x1⟩ := wordOfs UW.out j
            obtain ⟨y0, y1⟩ := wordOfs UV.out j
            rw [← HE.out j hjn] at d0 y0 y1
            generalize ws.getD j 0 = x at *
            go_wp2_with fail
            go_quiet (fail)
            have HK2 := Lib.hid (HK.out.drawn nq)
            have HY2 := Lib.hid (HY.out.drawn nq)
            have HV2 := Lib.hid (HV.out.drawn nq)
            have HZ2 := Lib.hid (HZ.out.drawn nq)
            have HB2 := Lib.hid (below_drawn HB.out nq)
            go_wp2_with fail
            go_roundw
            case rel => exact ⟨j + 1, by omega, by go_num, HK2, HY2, HV2, HZ2, HB2⟩
            case measure => simp [intOf]; omega
          · obtain rfl : j = n := by omega
            go_wp2_with fail
            go_ret
            exact ⟨rfl, HB.out⟩

set_option maxRecDepth 100000 in
theorem lifted (os : Os) (started : os.Started) (H : Type) (enc : TypeId × Value → H) :
    ReturnsInHanded {} Try.checked os 5 .any (Rows.memoryDiffersSpec.pre6 enc Try.prog Try.f5 Rows.memoryDiffersRow.domain false) (Rows.memoryDiffersSpec.post enc Try.prog Try.f5 false true false false) := by
  refine returnsInHanded_of_change (C := Try.checked) Try.own started (by kernel_rfl) Try.func5
    (ChangeSpec.witness6 (enc := enc) (C := Try.checked) false ⟨#[], #[.agg #[.int .u32 0, .int .u32 0, .int .u32 0, .int .u32 0, .int .u32 0], .slice none 0 0, .slice none 0 0], []⟩ 8 (by kernel_rfl) (by kernel_rfl) (by kernel_rfl) (by kernel_rfl)) ?_
  intro W base args ds gs before hval0 hW hcnd _
  have hval : ∀ (j : Nat) t v, Try.f5.params[j]? = some t → args[j]? = some v → Value.okWide Try.prog W .any base t v := hval0
  have hW' := hW
  obtain ⟨p, q, hA0, hV, rfl, hfz, hnd⟩ := hW
  have hA : DataW.TrodAll enc Try.prog W 0 (fun _ => true) true Try.f5.params.toList args.toList ds p := hA0
  rw [Try.params5] at hA hval
  obtain ⟨v0, vs0, d0, ds0, p0, q0, hargs, rfl, rfl, h0, r0⟩ := trodAll_cons hA
  obtain ⟨v1, vs1, d1, ds1, p1, q1, rfl, rfl, rfl, h1, r1⟩ := trodAll_cons r0
  obtain ⟨v2, vs2, d2, ds2, p2, q2, rfl, rfl, rfl, h2, r2⟩ := trodAll_cons r1
  obtain ⟨rfl, rfl, rfl⟩ := trodAll_nil r2
  obtain rfl : args = #[v0, v1, v2] := by cases args; simp_all
  clear hA0 hval0
  obtain ⟨zs0, rfl, hl0, w0⟩ := open_ints_struct (k := .u32) Try.underlying24 (by kernel_rfl) (by kernel_rfl) (by kernel_rfl) (hval 0 24 v0 rfl rfl) h0
  obtain ⟨x00, x01, x02, x03, x04, rfl⟩ := list_five' hl0
  obtain ⟨A1, n1, c1, f1, rfl, hO1, hm1⟩ := open_ops Try.underlying25 Try.underlying51 (by kernel_rfl) rfl rfl rfl rfl (by kernel_rfl) (by kernel_rfl) (by kernel_rfl) (by kernel_rfl) (by kernel_rfl) (by kernel_rfl) (by kernel_rfl) (by kernel_rfl) Try.underlying22 (by kernel_rfl) (hval 1 25 v1 rfl rfl) h1
  obtain ⟨A2, n2, c2, f2, rfl, hO2, hm2⟩ := open_ops Try.underlying25 Try.underlying51 (by kernel_rfl) rfl rfl rfl rfl (by kernel_rfl) (by kernel_rfl) (by kernel_rfl) (by kernel_rfl) (by kernel_rfl) (by kernel_rfl) (by kernel_rfl) (by kernel_rfl) Try.underlying22 (by kernel_rfl) (hval 2 25 v2 rfl rfl) h2
  refine (walk W x00 (w0 x00 (by simp)) x01 (w0 x01 (by simp)) x02 (w0 x02 (by simp)) x03 (w0 x03 (by simp)) x04 (w0 x04 (by simp)) A1 n1 c1 f1 hO1 hm1 A2 n2 c2 f2 hO2 hm2).mono fun e W' ⟨he, hg⟩ => ?_
  subst he
  exact ⟨_, rfl, law_post Try.laidOut Try.mapsRowed Try.slicesFull (by kernel_rfl) rfl (by kernel_rfl) Try.underlying4 rfl hW' hg⟩

theorem over : Rows.memoryDiffersRow.holds Try.pinned (OpenSpec.ofChange Rows.memoryDiffersSpec) :=
  OpenClaim.holds_of_wide 5 Try.f5 rfl rfl rfl rfl rfl rfl rfl ⟨rfl, rfl, rfl, rfl, rfl⟩ rfl rfl rfl rfl rfl (by kernel_rfl) Try.func5 (by kernel_rfl)
    (of_decide_eq_true (by kernel_rfl)) (by unfold Func.isWrapper; first | (rw [if_pos (by decide +kernel)]; kernel_rfl) | (rw [if_neg (by decide +kernel)]; exact ⟨rfl, rfl⟩))
    (fun os started H enc _ => lifted os started H enc)

theorem proved : Rows.MemoryDiffersSaid :=
  over
end Go.Proofs.Ytojjfpplhgfpfaa.lawMemoryDiffers
