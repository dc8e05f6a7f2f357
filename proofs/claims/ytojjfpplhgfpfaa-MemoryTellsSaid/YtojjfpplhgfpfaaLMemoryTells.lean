/- MemoryTells: of any memory made by stores, fills and clones, Load, Fetch, Part and Used tell at any address and of any part what the document's answers tell. No condition beyond the row's own. -/
import Derived.Test.YtojjfpplhgfpfaaRows
import Derived.Test.YtojjfpplhgfpfaaLift
import Derived.Test.YtojjfpplhgfpfaaMemR
import Derived.Test.YtojjfpplhgfpfaaMemT
import Derived.Test.YtojjfpplhgfpfaaMemQ
namespace Go.Proofs.Ytojjfpplhgfpfaa.lawMemoryTells
open Go.ChangeShapes Go.WideShapes Go.ChangeAt Go.RowKit
set_option linter.unusedVariables false
/-- A layout that is tried: its words. -/
theorem few_words {e0 e1 e2 e3 e4 : Int} {n2 : Nat} {f : Nat → OpR} (u0 : U32 e0) (u1 : U32 e1) (u2 : U32 e2) (u3 : U32 e3) (u4 : U32 e4) (hF : FewOk e0 e1 e2 e3 e4 n2 f) (hok : okEnds e0 e1 e2 e3 e4 = true) : ∃ n : Nat, e4 = 4 * n ∧ n ≤ 1024 ∧ e0 ≤ e4 ∧ e1 ≤ e4 := by
  have hk := hok
  unfold okEnds at hk
  simp only [Bool.and_eq_true] at hk
  obtain ⟨h0, h1, h2, h3, h4⟩ := hk
  have a1 := okEnd_yes h1
  have a2 := okEnd_yes h2
  have a3 := okEnd_yes h3
  have a4 := okEnd_yes h4
  have hs : ¬ 4096 < e4 := fun h => hF.1 ⟨hok, h⟩
  have := u4.1
  exact ⟨(e4 / 4).toNat, by omega, by omega, by omega, by omega⟩

/-- The parts' ends, in words. -/
theorem few_parts {e0 e1 e2 e3 e4 : Int} (u0 : U32 e0) (u1 : U32 e1) (u2 : U32 e2) (u3 : U32 e3) (u4 : U32 e4) (hok : okEnds e0 e1 e2 e3 e4 = true) : ∃ a0 a1 a2 a3 : Nat, e0 = 4 * (a0 : Int) ∧ e1 = 4 * (a1 : Int) ∧ e2 = 4 * (a2 : Int) ∧ e3 = 4 * (a3 : Int) ∧ a0 ≤ a1 ∧ a1 ≤ a2 ∧ a2 ≤ a3 ∧ 4 * (a3 : Int) ≤ e4 := by
  unfold okEnds at hok
  simp only [Bool.and_eq_true] at hok
  obtain ⟨h0, h1, h2, h3, h4⟩ := hok
  have b0 := okEnd_yes h0
  have b1 := okEnd_yes h1
  have b2 := okEnd_yes h2
  have b3 := okEnd_yes h3
  have b4 := okEnd_yes h4
  exact ⟨(e0 / 4).toNat, (e1 / 4).toNat, (e2 / 4).toNat, (e3 / 4).toNat, by omega, by omega, by omega, by omega, by omega, by omega, by omega, by omega⟩

theorem keepM {x y : World} {g5 g8 p h h2 : Nat} {u0 v0 v1 v2 v3 v4 v5 : Value} {ms us : Array Value} (H : x.cell? ⟨g5, 0, none⟩ = some u0 ∧ x.cell? ⟨g8, 0, none⟩ = some v0 ∧ x.cell? ⟨g8, 1, none⟩ = some v1 ∧ x.cell? ⟨g8, 2, none⟩ = some v2 ∧ x.cell? ⟨g8, 3, none⟩ = some v3 ∧ x.cell? ⟨g8, 4, none⟩ = some v4 ∧ x.cell? ⟨g8, 5, none⟩ = some v5 ∧ Hid (Whole x p 68 ms) ∧ Hid (Whole x h 22 us) ∧ Hid (Whole x h2 22 us)) (hb : Below x.heap.size x y) :
    y.cell? ⟨g5, 0, none⟩ = some u0 ∧ y.cell? ⟨g8, 0, none⟩ = some v0 ∧ y.cell? ⟨g8, 1, none⟩ = some v1 ∧ y.cell? ⟨g8, 2, none⟩ = some v2 ∧ y.cell? ⟨g8, 3, none⟩ = some v3 ∧ y.cell? ⟨g8, 4, none⟩ = some v4 ∧ y.cell? ⟨g8, 5, none⟩ = some v5 ∧ Hid (Whole y p 68 ms) ∧ Hid (Whole y h 22 us) ∧ Hid (Whole y h2 22 us) := by
  obtain ⟨c, c0, c1, c2, c3, c4, c5, m, a, b⟩ := H
  have l5 : g5 < x.heap.size := block_lt c
  have l8 : g8 < x.heap.size := block_lt c0
  exact ⟨(hb.cell (p := ⟨g5, 0, none⟩) l5).trans c, (hb.cell (p := ⟨g8, 0, none⟩) l8).trans c0, (hb.cell (p := ⟨g8, 1, none⟩) l8).trans c1, (hb.cell (p := ⟨g8, 2, none⟩) l8).trans c2, (hb.cell (p := ⟨g8, 3, none⟩) l8).trans c3, (hb.cell (p := ⟨g8, 4, none⟩) l8).trans c4, (hb.cell (p := ⟨g8, 5, none⟩) l8).trans c5, m.out.below hb m.out.lt, a.out.below hb a.out.lt, b.out.below hb b.out.lt⟩

theorem keepM_m {x : World} {g5 g8 p h h2 : Nat} {u0 v0 v1 v2 v3 v4 v5 : Value} {ms us : Array Value} (H : x.cell? ⟨g5, 0, none⟩ = some u0 ∧ x.cell? ⟨g8, 0, none⟩ = some v0 ∧ x.cell? ⟨g8, 1, none⟩ = some v1 ∧ x.cell? ⟨g8, 2, none⟩ = some v2 ∧ x.cell? ⟨g8, 3, none⟩ = some v3 ∧ x.cell? ⟨g8, 4, none⟩ = some v4 ∧ x.cell? ⟨g8, 5, none⟩ = some v5 ∧ Hid (Whole x p 68 ms) ∧ Hid (Whole x h 22 us) ∧ Hid (Whole x h2 22 us)) : Whole x p 68 ms ∧ Whole x h 22 us ∧ Whole x h2 22 us := ⟨H.2.2.2.2.2.2.2.1.out, H.2.2.2.2.2.2.2.2.1.out, H.2.2.2.2.2.2.2.2.2.out⟩

set_option maxHeartbeats 16000000 in
set_option maxRecDepth 100000 in
theorem walk (w : World) (e0 : Int) (v0 : (Lit.int .u32 e0).wf = true) (e1 : Int) (v1 : (Lit.int .u32 e1).wf = true) (e2 : Int) (v2 : (Lit.int .u32 e2).wf = true) (e3 : Int) (v3 : (Lit.int .u32 e3).wf = true) (e4 : Int) (v4 : (Lit.int .u32 e4).wf = true) (A : Option Addr) (n2 c : Nat) (f : Nat → OpR) (hO : OpsAt w A n2 f) (hm : n2 ≤ maxLen) (x : Int) (wx : (Lit.int .u32 x).wf = true) (y : Int) (wy : (Lit.int .u32 y).wf = true) :
    Calls Try.prog 4 #[.agg #[.int .u32 e0, .int .u32 e1, .int .u32 e2, .int .u32 e3, .int .u32 e4], .slice A n2 c, .agg #[.int .u32 x, .int .u32 y]] w fun e w' => e = .returned (.bool true) ∧ Below w.heap.size w w' := by
  have ux := u32_of_wf wx
  have uy := u32_of_wf wy
  have OA := Lib.hid hO
  have FW := Lib.hid (fun w h => few_any e0 e1 e2 e3 e4 A n2 c f w (u32_of_wf v0) (u32_of_wf v1) (u32_of_wf v2) (u32_of_wf v3) (u32_of_wf v4) h)
  have GOOD := Lib.hid (fun n hl hn w hok h hF hn4 => played_ok e0 e1 e2 e3 e4 n A n2 c f w (u32_of_wf v0) (u32_of_wf v1) (u32_of_wf v2) (u32_of_wf v3) (u32_of_wf v4) hok hl hn h hF hn4)
  have BAD := Lib.hid (fun w hok => played_bad e0 e1 e2 e3 e4 A n2 c w (u32_of_wf v0) (u32_of_wf v1) (u32_of_wf v2) (u32_of_wf v3) (u32_of_wf v4) hok)
  have LW := Lib.hid (fun hF hok => few_words (n2 := n2) (f := f) (u32_of_wf v0) (u32_of_wf v1) (u32_of_wf v2) (u32_of_wf v3) (u32_of_wf v4) hF hok)
  have LP := Lib.hid (fun hok => few_parts (u32_of_wf v0) (u32_of_wf v1) (u32_of_wf v2) (u32_of_wf v3) (u32_of_wf v4) hok)
  clear hO hm v0 v1 v2 v3 v4 wx wy
  unfold endsV at *
  go_enter Try.func4, Try.ntmps4
  go_wp2_with fail
  have Q0 := Lib.hid ((Whole.made w 24 #[.int .u32 e0, .int .u32 e1, .int .u32 e2, .int .u32 e3, .int .u32 e4] _ rfl).alloc (.cells #[.int .u32 x, .int .u32 y] 35))
  have P0 := Lib.hid (Whole.made (w.alloc (.cells #[.int .u32 e0, .int .u32 e1, .int .u32 e2, .int .u32 e3, .int .u32 e4] 24)) 35 #[.int .u32 x, .int .u32 y] (w.heap.size + 1) (by simp))
  have B0 := Lib.hid (((Below.refl w.heap.size w).alloc (Nat.le_refl _) (.cells #[.int .u32 e0, .int .u32 e1, .int .u32 e2, .int .u32 e3, .int .u32 e4] 24)).alloc (by simp) (.cells #[.int .u32 x, .int .u32 y] 35))
  refine (awake3_any _).mono ?_
  rintro e w1 ⟨rfl, hb1⟩
  have Q1 := Lib.hid (Q0.out.below hb1 Q0.out.lt)
  have P1 := Lib.hid (P0.out.below hb1 P0.out.lt)
  have B1 := Lib.hid (B0.out.trans (hb1.mono B0.out.size))
  clear hb1 Q0 P0 B0
  have q0 : w1.cell? ⟨w.heap.size, 0, none⟩ = some (.int .u32 e0) := Q1.out.cell 0
  have q1 : w1.cell? ⟨w.heap.size, 1, none⟩ = some (.int .u32 e1) := Q1.out.cell 1
  have q2 : w1.cell? ⟨w.heap.size, 2, none⟩ = some (.int .u32 e2) := Q1.out.cell 2
  have q3 : w1.cell? ⟨w.heap.size, 3, none⟩ = some (.int .u32 e3) := Q1.out.cell 3
  have q4 : w1.cell? ⟨w.heap.size, 4, none⟩ = some (.int .u32 e4) := Q1.out.cell 4
  go_wp2_with fail
  clear q0 q1 q2 q3 q4
  refine (FW.out _ (OA.out.below B1.out)).mono ?_
  rintro e w2 ⟨b, rfl, hf, hb2⟩
  have Q2 := Lib.hid (Q1.out.below hb2 Q1.out.lt)
  have P2 := Lib.hid (P1.out.below hb2 P1.out.lt)
  have B2 := Lib.hid (B1.out.trans (hb2.mono B1.out.size))
  have HF := Lib.hid hf
  clear hb2 hf
  have q0 : w2.cell? ⟨w.heap.size, 0, none⟩ = some (.int .u32 e0) := Q2.out.cell 0
  have q1 : w2.cell? ⟨w.heap.size, 1, none⟩ = some (.int .u32 e1) := Q2.out.cell 1
  have q2 : w2.cell? ⟨w.heap.size, 2, none⟩ = some (.int .u32 e2) := Q2.out.cell 2
  have q3 : w2.cell? ⟨w.heap.size, 3, none⟩ = some (.int .u32 e3) := Q2.out.cell 3
  have q4 : w2.cell? ⟨w.heap.size, 4, none⟩ = some (.int .u32 e4) := Q2.out.cell 4
  cases b with
  | false =>
    go_wp2_with fail
    go_ret
    exact ⟨rfl, B2.out⟩
  | true =>
    by_cases hk : okEnds e0 e1 e2 e3 e4 = true
    case neg =>
      have PL := Lib.hid (BAD.out w2 (by simpa using hk))
      clear hk GOOD BAD LW HF LP
      go_wp2_with fail
      clear q0 q1 q2 q3 q4
      refine PL.out.mono ?_
      rintro e w3 ⟨rfl, hb3⟩
      have B3 := Lib.hid (B2.out.trans (hb3.mono B2.out.size))
      clear hb3
      go_wp2_with fail
      go_ret
      exact ⟨rfl, B3.out.alloc B3.out.size _⟩
    obtain ⟨n, hl, hn, le0, _⟩ := LW.out (HF.out rfl) hk
    obtain ⟨a0, a1, a2, a3, p0, p1, p2, p3, m0, m1, m2, m3⟩ := LP.out hk
    have PL := Lib.hid (GOOD.out n hl (by omega) w2 hk (OA.out.below B2.out) (HF.out rfl).2.2 (HF.out rfl).2.1)
    have HL := Lib.hid hl
    have HP := Lib.hid (And.intro p0 (And.intro p1 (And.intro p2 p3)))
    have HM := Lib.hid (And.intro m0 (And.intro m1 (And.intro m2 (show a3 ≤ n by omega))))
    have HE := Lib.hid le0
    clear hl hk GOOD BAD LW HF LP p0 p1 p2 p3 m0 m1 m2 m3 le0
    unfold PlayedPost memCells at PL
    go_wp2_with fail
    clear q0 q1 q2 q3 q4
    refine PL.out.mono ?_
    rintro e w3 ⟨p, h, h2, ws, rfl, hM, hW, hK, hln, hu, g1, g2, n1, nn, hb3⟩
    have M4 := Lib.hid (hM.alloc (.cells #[.int .u32 e0, .int .u32 e1, .int .u32 e2, .int .u32 e3, .int .u32 e4, .slice (some ⟨h2, 0, none⟩) n n] 32))
    have W4 := Lib.hid (hW.alloc (.cells #[.int .u32 e0, .int .u32 e1, .int .u32 e2, .int .u32 e3, .int .u32 e4, .slice (some ⟨h2, 0, none⟩) n n] 32))
    have K4 := Lib.hid (hK.alloc (.cells #[.int .u32 e0, .int .u32 e1, .int .u32 e2, .int .u32 e3, .int .u32 e4, .slice (some ⟨h2, 0, none⟩) n n] 32))
    have V4 := Lib.hid (Whole.made w3 32 #[.int .u32 e0, .int .u32 e1, .int .u32 e2, .int .u32 e3, .int .u32 e4, .slice (some ⟨h2, 0, none⟩) n n] _ rfl)
    have P4 := Lib.hid ((P2.out.below hb3 P2.out.lt).alloc (.cells #[.int .u32 e0, .int .u32 e1, .int .u32 e2, .int .u32 e3, .int .u32 e4, .slice (some ⟨h2, 0, none⟩) n n] 32))
    have B4 := Lib.hid ((B2.out.trans (hb3.mono B2.out.size)).alloc (Nat.le_trans B2.out.size hb3.size) (.cells #[.int .u32 e0, .int .u32 e1, .int .u32 e2, .int .u32 e3, .int .u32 e4, .slice (some ⟨h2, 0, none⟩) n n] 32))
    have LD := Lib.hid (fun w hc hs hw => load_any p h n x e4 ws w ux hc hs hw hln (by have := HL.out; omega) hu)
    have RL := Lib.hid (fun w hw => refload_any h2 n e0 e1 e2 e3 e4 x ws w ux hw hln (by omega) HL.out hu)
    have FE := Lib.hid (fun w hc hs hw => fetch_any p h n x e0 ws w ux hc hs hw hln (by have := HL.out; have := HE.out; omega) hu)
    have RF := Lib.hid (fun w hw => reffetch_any h2 n e0 e1 e2 e3 e4 x ws w ux hw hln (by omega) HL.out hu HE.out)
    have PT := Lib.hid (fun w hm => part_any p h n e0 e1 e2 e3 e4 x w hm)
    have RP := Lib.hid (fun w => refpart_any h2 n e0 e1 e2 e3 e4 x w)
    have US := Lib.hid (fun w hm hw => used_any p h n a0 a1 a2 a3 y e0 e1 e2 e3 e4 ws w uy hm hw hln (by omega) hu HP.out.1 HP.out.2.1 HP.out.2.2.1 HP.out.2.2.2 HL.out HM.out.1 HM.out.2.1 HM.out.2.2.1 HM.out.2.2.2)
    have RU := Lib.hid (fun w hw => refused_any h2 n y e0 e1 e2 e3 e4 ws w hw hln (by omega) hu)
    obtain ⟨x0, x1⟩ := ux
    obtain ⟨y0, y1⟩ := uy
    unfold memCells at RL RF PT RP US RU
    clear hM hW hK hu hln hb3 Q2 P2 B2 n1 nn g1 g2 HL HP HM HE OA FW Q1 P1 B1
    generalize readVal x e4 ws = rv at *
    generalize checkRes x e4 = cr at *
    generalize readVal x e0 ws = fv at *
    generalize checkRes x e0 = fr at *
    generalize partOf e0 e1 e2 e3 e4 x = pt at *
    generalize cntP ws (fun i => decide (partOf e0 e1 e2 e3 e4 (4 * (i : Int)) = y)) n = cu at *
    have z0 : (w3.alloc (.cells #[.int .u32 e0, .int .u32 e1, .int .u32 e2, .int .u32 e3, .int .u32 e4, .slice (some ⟨h2, 0, none⟩) n n] 32)).cell? ⟨w.heap.size + 1, 0, none⟩ = some (.int .u32 x) := P4.out.cell 0
    go_wp2_with fail
    clear z0
    generalize w3.alloc (.cells #[.int .u32 e0, .int .u32 e1, .int .u32 e2, .int .u32 e3, .int .u32 e4, .slice (some ⟨h2, 0, none⟩) n n] 32) = w4 at *
    generalize w3.heap.size = g8 at *
    have m4 := M4.out.cell 4
    refine (LD.out _ m4 (M4.out.cell 5) W4.out).mono ?_
    rintro e w' ⟨rfl, rfl⟩
    clear m4
    have z0 : w4.cell? ⟨w.heap.size + 1, 0, none⟩ = some (.int .u32 x) := P4.out.cell 0
    have t0 : w4.cell? ⟨g8, 0, none⟩ = some (.int .u32 e0) := V4.out.cell 0
    have t1 : w4.cell? ⟨g8, 1, none⟩ = some (.int .u32 e1) := V4.out.cell 1
    have t2 : w4.cell? ⟨g8, 2, none⟩ = some (.int .u32 e2) := V4.out.cell 2
    have t3 : w4.cell? ⟨g8, 3, none⟩ = some (.int .u32 e3) := V4.out.cell 3
    have t4 : w4.cell? ⟨g8, 4, none⟩ = some (.int .u32 e4) := V4.out.cell 4
    have t5 : w4.cell? ⟨g8, 5, none⟩ = some (.slice (some ⟨h2, 0, none⟩) n n) := V4.out.cell 5
    go_wp2_with fail
    clear z0 t0 t1 t2 t3 t4 t5
    refine (RL.out _ K4.out).mono ?_
    rintro e w5 ⟨rfl, hb5⟩
    have M5 := Lib.hid (M4.out.below hb5 M4.out.lt)
    have W5 := Lib.hid (W4.out.below hb5 W4.out.lt)
    have K5 := Lib.hid (K4.out.below hb5 K4.out.lt)
    have V5 := Lib.hid (V4.out.below hb5 V4.out.lt)
    have P5 := Lib.hid (P4.out.below hb5 P4.out.lt)
    have B5 := Lib.hid (below_step B4.out hb5)
    clear hb5 M4 W4 K4 V4 P4 B4
    have z0 : w5.cell? ⟨w.heap.size + 1, 0, none⟩ = some (.int .u32 x) := P5.out.cell 0
    go_wp2_with fail
    refine (FE.out _ (M5.out.cell 0) (M5.out.cell 5) W5.out).mono ?_
    rintro e w' ⟨rfl, rfl⟩
    have t0 : w5.cell? ⟨g8, 0, none⟩ = some (.int .u32 e0) := V5.out.cell 0
    have t1 : w5.cell? ⟨g8, 1, none⟩ = some (.int .u32 e1) := V5.out.cell 1
    have t2 : w5.cell? ⟨g8, 2, none⟩ = some (.int .u32 e2) := V5.out.cell 2
    have t3 : w5.cell? ⟨g8, 3, none⟩ = some (.int .u32 e3) := V5.out.cell 3
    have t4 : w5.cell? ⟨g8, 4, none⟩ = some (.int .u32 e4) := V5.out.cell 4
    have t5 : w5.cell? ⟨g8, 5, none⟩ = some (.slice (some ⟨h2, 0, none⟩) n n) := V5.out.cell 5
    go_wp2_with fail
    clear z0 t0 t1 t2 t3 t4 t5
    refine (RF.out _ K5.out).mono ?_
    rintro e w6 ⟨rfl, hb6⟩
    have M6 := Lib.hid (M5.out.below hb6 M5.out.lt)
    have W6 := Lib.hid (W5.out.below hb6 W5.out.lt)
    have K6 := Lib.hid (K5.out.below hb6 K5.out.lt)
    have V6 := Lib.hid (V5.out.below hb6 V5.out.lt)
    have P6 := Lib.hid (P5.out.below hb6 P5.out.lt)
    have B6 := Lib.hid (below_step B5.out hb6)
    have B6d := Lib.hid (below_step B5.out hb6).drew
    clear hb6 M5 W5 K5 V5 P5 B5
    have z1 : w6.cell? ⟨w.heap.size + 1, 1, none⟩ = some (.int .u32 y) := P6.out.cell 1
    go_wp2_with fail
    clear z1
    have LS : w6.cell? ⟨w.heap.size + 1, 0, none⟩ = some (.int .u32 x) ∧ w6.cell? ⟨g8, 0, none⟩ = some (.int .u32 e0) ∧ w6.cell? ⟨g8, 1, none⟩ = some (.int .u32 e1) ∧ w6.cell? ⟨g8, 2, none⟩ = some (.int .u32 e2) ∧ w6.cell? ⟨g8, 3, none⟩ = some (.int .u32 e3) ∧ w6.cell? ⟨g8, 4, none⟩ = some (.int .u32 e4) ∧ w6.cell? ⟨g8, 5, none⟩ = some (.slice (some ⟨h2, 0, none⟩) n n) ∧ Hid (Whole w6 p 68 (memCells e0 e1 e2 e3 e4 h n)) ∧ Hid (Whole w6 h 22 (words ws)) ∧ Hid (Whole w6 h2 22 (words ws)) := ⟨P6.out.cell 0, V6.out.cell 0, V6.out.cell 1, V6.out.cell 2, V6.out.cell 3, V6.out.cell 4, V6.out.cell 5, M6, W6, K6⟩
    go_region_held3 (fun y => y.cell? ⟨w.heap.size + 1, 0, none⟩ = some (.int .u32 x) ∧ y.cell? ⟨g8, 0, none⟩ = some (.int .u32 e0) ∧ y.cell? ⟨g8, 1, none⟩ = some (.int .u32 e1) ∧ y.cell? ⟨g8, 2, none⟩ = some (.int .u32 e2) ∧ y.cell? ⟨g8, 3, none⟩ = some (.int .u32 e3) ∧ y.cell? ⟨g8, 4, none⟩ = some (.int .u32 e4) ∧ y.cell? ⟨g8, 5, none⟩ = some (.slice (some ⟨h2, 0, none⟩) n n) ∧ Hid (Whole y p 68 (memCells e0 e1 e2 e3 e4 h n)) ∧ Hid (Whole y h 22 (words ws)) ∧ Hid (Whole y h2 22 (words ws)))
      (first
        | with_reducible assumption
        | with_reducible exact keepM (by assumption) (Below.refl _ _).drew
        | with_reducible exact keepM (by assumption) hbm
        | with_reducible exact keepM (by assumption) hbu
        | with_reducible exact keepM (by assumption) hbr)
      (first
        | (go_at_call 14; refine (PT.out _ (by exact (keepM_m (by assumption)).1)).mono ?_; rintro e w' ⟨rfl, rfl⟩)
        | (go_at_call 15; refine (RP.out _).mono ?_; rintro e ya ⟨rfl, hbm⟩; have BA := Lib.hid (below_step B6d.out hbm))
        | (go_at_call 16; refine (US.out _ (by exact (keepM_m (by assumption)).1) (by exact (keepM_m (by assumption)).2.1)).mono ?_; rintro e yb ⟨rfl, hbu⟩; (first | (with_reducible have BU := Lib.hid (below_step BA.out hbu)) | (with_reducible have BU := Lib.hid (below_step BR.out hbu))))
        | (go_at_call 17; refine (RU.out _ (by exact (keepM_m (by assumption)).2.2)).mono ?_; rintro e yc ⟨rfl, hbr⟩; (first | (with_reducible have BR := Lib.hid (below_step BA.out hbr)) | (with_reducible have BR := Lib.hid (below_step BU.out hbr)))))
    all_goals
      go_wp2_with fail
      go_ret
      refine ⟨rfl, ?_⟩
      first | exact BR.out | exact BU.out

set_option maxRecDepth 100000 in
theorem lifted (os : Os) (started : os.Started) (H : Type) (enc : TypeId × Value → H) :
    ReturnsInHanded {} Try.checked os 4 .any (Rows.memoryTellsSpec.pre6 enc Try.prog Try.f4 Rows.memoryTellsRow.domain false) (Rows.memoryTellsSpec.post enc Try.prog Try.f4 false true false false) := by
  refine returnsInHanded_of_change (C := Try.checked) Try.own started (by kernel_rfl) Try.func4
    (ChangeSpec.witness6 (enc := enc) (C := Try.checked) false ⟨#[], #[.agg #[.int .u32 0, .int .u32 0, .int .u32 0, .int .u32 0, .int .u32 0], .slice none 0 0, .agg #[.int .u32 0, .int .u32 0]], []⟩ 8 (by kernel_rfl) (by kernel_rfl) (by kernel_rfl) (by kernel_rfl)) ?_
  intro W base args ds gs before hval0 hW hcnd _
  have hval : ∀ (j : Nat) t v, Try.f4.params[j]? = some t → args[j]? = some v → Value.okWide Try.prog W .any base t v := hval0
  have hW' := hW
  obtain ⟨p, q, hA0, hV, rfl, hfz, hnd⟩ := hW
  have hA : DataW.TrodAll enc Try.prog W 0 (fun _ => true) true Try.f4.params.toList args.toList ds p := hA0
  rw [Try.params4] at hA hval
  obtain ⟨v0, vs0, d0, ds0, p0, q0, hargs, rfl, rfl, h0, r0⟩ := trodAll_cons hA
  obtain ⟨v1, vs1, d1, ds1, p1, q1, rfl, rfl, rfl, h1, r1⟩ := trodAll_cons r0
  obtain ⟨v2, vs2, d2, ds2, p2, q2, rfl, rfl, rfl, h2, r2⟩ := trodAll_cons r1
  obtain ⟨rfl, rfl, rfl⟩ := trodAll_nil r2
  obtain rfl : args = #[v0, v1, v2] := by cases args; simp_all
  clear hA0 hval0
  obtain ⟨zs0, rfl, hl0, w0⟩ := open_ints_struct (k := .u32) Try.underlying24 (by kernel_rfl) (by kernel_rfl) (by kernel_rfl) (hval 0 24 v0 rfl rfl) h0
  obtain ⟨x00, x01, x02, x03, x04, rfl⟩ := list_five' hl0
  obtain ⟨A1, n1, c1, f1, rfl, hO1, hm1⟩ := open_ops Try.underlying25 Try.underlying51 (by kernel_rfl) rfl rfl rfl rfl (by kernel_rfl) (by kernel_rfl) (by kernel_rfl) (by kernel_rfl) (by kernel_rfl) (by kernel_rfl) (by kernel_rfl) (by kernel_rfl) Try.underlying22 (by kernel_rfl) (hval 1 25 v1 rfl rfl) h1
  obtain ⟨zs2, rfl, hl2, w2⟩ := open_ints_arr (k := .u32) Try.underlying35 Try.underlying22 (by kernel_rfl) (by kernel_rfl) (hval 2 35 v2 rfl rfl) h2
  obtain ⟨x20, x21, rfl⟩ := list_two hl2
  refine (walk W x00 (w0 x00 (by simp)) x01 (w0 x01 (by simp)) x02 (w0 x02 (by simp)) x03 (w0 x03 (by simp)) x04 (w0 x04 (by simp)) A1 n1 c1 f1 hO1 hm1 x20 (w2 x20 (by simp)) x21 (w2 x21 (by simp))).mono fun e W' ⟨he, hg⟩ => ?_
  subst he
  exact ⟨_, rfl, law_post Try.laidOut Try.mapsRowed Try.slicesFull (by kernel_rfl) rfl (by kernel_rfl) Try.underlying4 rfl hW' hg⟩

theorem over : Rows.memoryTellsRow.holds Try.pinned (OpenSpec.ofChange Rows.memoryTellsSpec) :=
  OpenClaim.holds_of_wide 4 Try.f4 rfl rfl rfl rfl rfl rfl rfl ⟨rfl, rfl, rfl, rfl, rfl⟩ rfl rfl rfl rfl rfl (by kernel_rfl) Try.func4 (by kernel_rfl)
    (of_decide_eq_true (by kernel_rfl)) (by unfold Func.isWrapper; first | (rw [if_pos (by decide +kernel)]; kernel_rfl) | (rw [if_neg (by decide +kernel)]; exact ⟨rfl, rfl⟩))
    (fun os started H enc _ => lifted os started H enc)

theorem proved : Rows.MemoryTellsSaid :=
  over
end Go.Proofs.Ytojjfpplhgfpfaa.lawMemoryTells
