/- InstrBack: any instruction that Encode of package instr takes is read by Decode from its word, and any word that Decode takes is written again by Encode. Condition: the row's own: the package's table of shapes holds what its initialiser lays (tied to the program's text). -/
import Derived.Test.YtkeknjloocnlpaaDoorRows
import Derived.Test.YtkeknjloocnlpaaDoorLift
import Derived.Test.YtkeknjloocnlpaaDoorInstrF
import Derived.Test.YtkeknjloocnlpaaDoorInstrJ
import Derived.Test.YtkeknjloocnlpaaDoorInstrM
import Derived.Test.YtkeknjloocnlpaaDoorBlocks
import Derived.Test.YtkeknjloocnlpaaDoorTie
import Derived.Test.YtkeknjloocnlpaaDoorCards
import Derived.SevenTiedAt
namespace Go.Proofs.YtkeknjloocnlpaaDoor.lawInstrBack
open Go.ChangeShapes Go.WideShapes Go.ChangeAt Go.RowKit
set_option linter.unusedVariables false

/-- What the first half meets: the word, from which the instruction is read; or an error. -/
theorem first_half (op a b c n : Int) : (∃ y, encR op a b c n = .tuple #[.int .u32 y, .int .i64 0] ∧ ∀ w, ShapesIn w → Calls Tryd.prog 13 #[.int .u32 y] w fun e w' => e = .returned (.tuple #[.agg #[.int .i64 op, .int .i64 a, .int .i64 b, .int .i64 c, .int .i64 n], .int .i64 0]) ∧ Below w.heap.size w w') ∨
    ∃ k, encR op a b c n = .tuple #[.int .u32 0, .int .i64 k] ∧ k ≠ 0 := by
  by_cases hc : checkOf op a b c n = 0
  · obtain ⟨hs, hg⟩ := good_of_check hc
    obtain ⟨v0, v1, _⟩ := word_range hs hg
    refine .inl ⟨wordOf op a b c n, by unfold encR encOf; rw [hc, if_pos rfl], fun w h => ?_⟩
    have hd := decode_any (wordOf op a b c n) w h v0 v1
    rw [dec_of_word hs hg] at hd
    exact hd
  · exact .inr ⟨checkOf op a b c n, by unfold encR encOf; rw [if_neg hc], hc⟩

/-- What the second half meets: an instruction, whose word it is; or an error. -/
theorem second_half (x : Int) (x0 : 0 ≤ x) (x1 : x ≤ 4294967295) : (∃ o a b c n, decV x = .tuple #[.agg #[.int .i64 o, .int .i64 a, .int .i64 b, .int .i64 c, .int .i64 n], .int .i64 0] ∧
      ∀ w, ShapesIn w → Calls Tryd.prog 9 #[.agg #[.int .i64 o, .int .i64 a, .int .i64 b, .int .i64 c, .int .i64 n]] w fun e w' => e = .returned (.tuple #[.int .u32 x, .int .i64 0]) ∧ Below w.heap.size w w') ∨
    decV x = .tuple #[.agg #[.int .i64 0, .int .i64 0, .int .i64 0, .int .i64 0, .int .i64 0], .int .i64 21] := by
  by_cases h : shapeOf (x / 16777216) = -1
  · exact .inr (decV_none h)
  · by_cases hw : wordOf (x / 16777216) (decA x) (decB x) (decC x) (decN x) = x
    · refine .inl ⟨_, _, _, _, _, decV_yes h hw, fun w hs => ?_⟩
      obtain ⟨ia, ib, ic, id⟩ := dec_i64 x0 x1 h
      have he := encode_any (x / 16777216) (decA x) (decB x) (decC x) (decN x) w hs ia ib ic id
      rw [enc_of_dec x0 x1 h hw] at he
      exact he
    · exact .inr (decV_no hw)


set_option maxHeartbeats 8000000 in
set_option maxRecDepth 100000 in
theorem walk (w : World) (hS : ShapesIn w) (op : Int) (wo : (Lit.int .i64 op).wf = true) (a : Int) (wa : (Lit.int .i64 a).wf = true) (b : Int) (wb : (Lit.int .i64 b).wf = true) (c : Int) (wc : (Lit.int .i64 c).wf = true) (n : Int) (wn : (Lit.int .i64 n).wf = true) (x : Int) (wx : (Lit.int .u32 x).wf = true) :
    Calls Tryd.prog 7 #[instrV op a b c n, .int .u32 x] w fun e w' => e = .returned (.bool true) ∧ Below w.heap.size w w' := by
  obtain ⟨x0, x1⟩ := bounds_u32 wx
  have HS := Lib.hid hS
  have hE := fun w h => encode_any op a b c n w h (i64_of_wf wa) (i64_of_wf wb) (i64_of_wf wc) (i64_of_wf wn)
  have hD := fun w hs => decode_any x w hs x0 x1
  clear hS wo wa wb wc wn wx
  unfold instrV at *
  rcases first_half op a b c n with ⟨y, hy, hF⟩ | ⟨k, hy, hk⟩
  · rw [hy] at hE
    have E := Lib.hid hE
    have F := Lib.hid hF
    clear hE hy hF
    rcases second_half x x0 x1 with ⟨o, d, f, g, m, hx, hG⟩ | hx
    · rw [hx] at hD
      have D := Lib.hid hD
      have G := Lib.hid hG
      clear hD hx hG
      go_enter Tryd.func7, Tryd.ntmps7
      go_wp2_with fail
      refine (awake02_any _ (HS.out.alloc _)).mono ?_
      rintro e w1 ⟨rfl, hb1⟩
      have Q1 := Lib.hid ((Whole.made w 23 #[.int .i64 op, .int .i64 a, .int .i64 b, .int .i64 c, .int .i64 n] _ rfl).below hb1 (by simp))
      have HS1 := Lib.hid ((HS.out.alloc _).below hb1 (Nat.le_refl _))
      have B1 := Lib.hid (((Below.refl _ _).alloc (Nat.le_refl _) _).trans (hb1.mono (show w.heap.size ≤ _ by simp)))
      have hz1 := Q1.out.lt
      clear hb1
      have q0 : w1.cell? ⟨w.heap.size, 0, none⟩ = some (.int .i64 op) := Q1.out.cell 0
      have q1 : w1.cell? ⟨w.heap.size, 1, none⟩ = some (.int .i64 a) := Q1.out.cell 1
      have q2 : w1.cell? ⟨w.heap.size, 2, none⟩ = some (.int .i64 b) := Q1.out.cell 2
      have q3 : w1.cell? ⟨w.heap.size, 3, none⟩ = some (.int .i64 c) := Q1.out.cell 3
      have q4 : w1.cell? ⟨w.heap.size, 4, none⟩ = some (.int .i64 n) := Q1.out.cell 4
      go_wp2_with fail
      refine (E.out _ HS1.out).mono ?_
      rintro e w2 ⟨rfl, hb2⟩
      clear q0 q1 q2 q3 q4
      have Q2 := Lib.hid (Q1.out.below hb2 hz1)
      have HS2 := Lib.hid (HS1.out.below hb2 (Nat.le_refl _))
      have B2 := Lib.hid (B1.out.trans (hb2.mono (Nat.le_of_lt hz1)))
      have hz2 := Q2.out.lt
      clear hb2
      go_wp2_with fail
      refine (F.out _ HS2.out).mono ?_
      rintro e w3 ⟨rfl, hb3⟩
      have Q3 := Lib.hid (Q2.out.below hb3 hz2)
      have HS3 := Lib.hid (HS2.out.below hb3 (Nat.le_refl _))
      have B3 := Lib.hid (B2.out.trans (hb3.mono (Nat.le_of_lt hz2)))
      have hz3 := Q3.out.lt
      clear hb3
      have q0 : w3.cell? ⟨w.heap.size, 0, none⟩ = some (.int .i64 op) := Q3.out.cell 0
      have q1 : w3.cell? ⟨w.heap.size, 1, none⟩ = some (.int .i64 a) := Q3.out.cell 1
      have q2 : w3.cell? ⟨w.heap.size, 2, none⟩ = some (.int .i64 b) := Q3.out.cell 2
      have q3 : w3.cell? ⟨w.heap.size, 3, none⟩ = some (.int .i64 c) := Q3.out.cell 3
      have q4 : w3.cell? ⟨w.heap.size, 4, none⟩ = some (.int .i64 n) := Q3.out.cell 4
      go_wp2_with fail
      refine (D.out _ (HS3.out.alloc _)).mono ?_
      rintro e w4 ⟨rfl, hb4⟩
      clear q0 q1 q2 q3 q4
      have HS4 := Lib.hid ((HS3.out.alloc _).below hb4 (Nat.le_refl _))
      have B4 := Lib.hid ((B3.out.alloc (Nat.le_of_lt hz3) _).trans (hb4.mono (show w.heap.size ≤ _ by simp; omega)))
      have hz4 := B4.out.size
      clear hb4
      go_wp2_with fail
      refine (G.out _ (HS4.out.alloc _)).mono ?_
      rintro e w5 ⟨rfl, hb5⟩
      have B5 := Lib.hid ((B4.out.alloc hz4 _).trans (hb5.mono (show w.heap.size ≤ _ by simp; omega)))
      clear hb5
      go_wp2_with fail
      go_ret
      exact ⟨rfl, B5.out⟩
    · rw [hx] at hD
      have D := Lib.hid hD
      clear hD hx
      go_enter Tryd.func7, Tryd.ntmps7
      go_wp2_with fail
      refine (awake02_any _ (HS.out.alloc _)).mono ?_
      rintro e w1 ⟨rfl, hb1⟩
      have Q1 := Lib.hid ((Whole.made w 23 #[.int .i64 op, .int .i64 a, .int .i64 b, .int .i64 c, .int .i64 n] _ rfl).below hb1 (by simp))
      have HS1 := Lib.hid ((HS.out.alloc _).below hb1 (Nat.le_refl _))
      have B1 := Lib.hid (((Below.refl _ _).alloc (Nat.le_refl _) _).trans (hb1.mono (show w.heap.size ≤ _ by simp)))
      have hz1 := Q1.out.lt
      clear hb1
      have q0 : w1.cell? ⟨w.heap.size, 0, none⟩ = some (.int .i64 op) := Q1.out.cell 0
      have q1 : w1.cell? ⟨w.heap.size, 1, none⟩ = some (.int .i64 a) := Q1.out.cell 1
      have q2 : w1.cell? ⟨w.heap.size, 2, none⟩ = some (.int .i64 b) := Q1.out.cell 2
      have q3 : w1.cell? ⟨w.heap.size, 3, none⟩ = some (.int .i64 c) := Q1.out.cell 3
      have q4 : w1.cell? ⟨w.heap.size, 4, none⟩ = some (.int .i64 n) := Q1.out.cell 4
      go_wp2_with fail
      refine (E.out _ HS1.out).mono ?_
      rintro e w2 ⟨rfl, hb2⟩
      clear q0 q1 q2 q3 q4
      have Q2 := Lib.hid (Q1.out.below hb2 hz1)
      have HS2 := Lib.hid (HS1.out.below hb2 (Nat.le_refl _))
      have B2 := Lib.hid (B1.out.trans (hb2.mono (Nat.le_of_lt hz1)))
      have hz2 := Q2.out.lt
      clear hb2
      go_wp2_with fail
      refine (F.out _ HS2.out).mono ?_
      rintro e w3 ⟨rfl, hb3⟩
      have Q3 := Lib.hid (Q2.out.below hb3 hz2)
      have HS3 := Lib.hid (HS2.out.below hb3 (Nat.le_refl _))
      have B3 := Lib.hid (B2.out.trans (hb3.mono (Nat.le_of_lt hz2)))
      have hz3 := Q3.out.lt
      clear hb3
      have q0 : w3.cell? ⟨w.heap.size, 0, none⟩ = some (.int .i64 op) := Q3.out.cell 0
      have q1 : w3.cell? ⟨w.heap.size, 1, none⟩ = some (.int .i64 a) := Q3.out.cell 1
      have q2 : w3.cell? ⟨w.heap.size, 2, none⟩ = some (.int .i64 b) := Q3.out.cell 2
      have q3 : w3.cell? ⟨w.heap.size, 3, none⟩ = some (.int .i64 c) := Q3.out.cell 3
      have q4 : w3.cell? ⟨w.heap.size, 4, none⟩ = some (.int .i64 n) := Q3.out.cell 4
      go_wp2_with fail
      refine (D.out _ (HS3.out.alloc _)).mono ?_
      rintro e w4 ⟨rfl, hb4⟩
      clear q0 q1 q2 q3 q4
      have HS4 := Lib.hid ((HS3.out.alloc _).below hb4 (Nat.le_refl _))
      have B4 := Lib.hid ((B3.out.alloc (Nat.le_of_lt hz3) _).trans (hb4.mono (show w.heap.size ≤ _ by simp; omega)))
      have hz4 := B4.out.size
      clear hb4
      go_wp2_with fail
      go_ret
      exact ⟨rfl, B4.out.alloc hz4 _⟩
  · rw [hy] at hE
    have E := Lib.hid hE
    have hk0 : (k == 0) = false := by simpa using hk
    clear hE hy hk
    rcases second_half x x0 x1 with ⟨o, d, f, g, m, hx, hG⟩ | hx
    · rw [hx] at hD
      have D := Lib.hid hD
      have G := Lib.hid hG
      clear hD hx hG
      go_enter Tryd.func7, Tryd.ntmps7
      go_wp2_with fail
      refine (awake02_any _ (HS.out.alloc _)).mono ?_
      rintro e w1 ⟨rfl, hb1⟩
      have Q1 := Lib.hid ((Whole.made w 23 #[.int .i64 op, .int .i64 a, .int .i64 b, .int .i64 c, .int .i64 n] _ rfl).below hb1 (by simp))
      have HS1 := Lib.hid ((HS.out.alloc _).below hb1 (Nat.le_refl _))
      have B1 := Lib.hid (((Below.refl _ _).alloc (Nat.le_refl _) _).trans (hb1.mono (show w.heap.size ≤ _ by simp)))
      have hz1 := Q1.out.lt
      clear hb1
      have q0 : w1.cell? ⟨w.heap.size, 0, none⟩ = some (.int .i64 op) := Q1.out.cell 0
      have q1 : w1.cell? ⟨w.heap.size, 1, none⟩ = some (.int .i64 a) := Q1.out.cell 1
      have q2 : w1.cell? ⟨w.heap.size, 2, none⟩ = some (.int .i64 b) := Q1.out.cell 2
      have q3 : w1.cell? ⟨w.heap.size, 3, none⟩ = some (.int .i64 c) := Q1.out.cell 3
      have q4 : w1.cell? ⟨w.heap.size, 4, none⟩ = some (.int .i64 n) := Q1.out.cell 4
      go_wp2_with fail
      refine (E.out _ HS1.out).mono ?_
      rintro e w2 ⟨rfl, hb2⟩
      clear q0 q1 q2 q3 q4
      have Q2 := Lib.hid (Q1.out.below hb2 hz1)
      have HS2 := Lib.hid (HS1.out.below hb2 (Nat.le_refl _))
      have B2 := Lib.hid (B1.out.trans (hb2.mono (Nat.le_of_lt hz1)))
      have hz2 := Q2.out.lt
      clear hb2
      go_wp2_with fail
      refine (D.out _ HS2.out).mono ?_
      rintro e w4 ⟨rfl, hb4⟩
      have HS4 := Lib.hid (HS2.out.below hb4 (Nat.le_refl _))
      have B4 := Lib.hid (B2.out.trans (hb4.mono (Nat.le_of_lt hz2)))
      have hz4 := B4.out.size
      clear hb4
      go_wp2_with fail
      refine (G.out _ (HS4.out.alloc _)).mono ?_
      rintro e w5 ⟨rfl, hb5⟩
      have B5 := Lib.hid ((B4.out.alloc hz4 _).trans (hb5.mono (show w.heap.size ≤ _ by simp; omega)))
      clear hb5
      go_wp2_with fail
      go_ret
      exact ⟨rfl, B5.out⟩
    · rw [hx] at hD
      have D := Lib.hid hD
      clear hD hx
      go_enter Tryd.func7, Tryd.ntmps7
      go_wp2_with fail
      refine (awake02_any _ (HS.out.alloc _)).mono ?_
      rintro e w1 ⟨rfl, hb1⟩
      have Q1 := Lib.hid ((Whole.made w 23 #[.int .i64 op, .int .i64 a, .int .i64 b, .int .i64 c, .int .i64 n] _ rfl).below hb1 (by simp))
      have HS1 := Lib.hid ((HS.out.alloc _).below hb1 (Nat.le_refl _))
      have B1 := Lib.hid (((Below.refl _ _).alloc (Nat.le_refl _) _).trans (hb1.mono (show w.heap.size ≤ _ by simp)))
      have hz1 := Q1.out.lt
      clear hb1
      have q0 : w1.cell? ⟨w.heap.size, 0, none⟩ = some (.int .i64 op) := Q1.out.cell 0
      have q1 : w1.cell? ⟨w.heap.size, 1, none⟩ = some (.int .i64 a) := Q1.out.cell 1
      have q2 : w1.cell? ⟨w.heap.size, 2, none⟩ = some (.int .i64 b) := Q1.out.cell 2
      have q3 : w1.cell? ⟨w.heap.size, 3, none⟩ = some (.int .i64 c) := Q1.out.cell 3
      have q4 : w1.cell? ⟨w.heap.size, 4, none⟩ = some (.int .i64 n) := Q1.out.cell 4
      go_wp2_with fail
      refine (E.out _ HS1.out).mono ?_
      rintro e w2 ⟨rfl, hb2⟩
      clear q0 q1 q2 q3 q4
      have Q2 := Lib.hid (Q1.out.below hb2 hz1)
      have HS2 := Lib.hid (HS1.out.below hb2 (Nat.le_refl _))
      have B2 := Lib.hid (B1.out.trans (hb2.mono (Nat.le_of_lt hz1)))
      have hz2 := Q2.out.lt
      clear hb2
      go_wp2_with fail
      refine (D.out _ HS2.out).mono ?_
      rintro e w4 ⟨rfl, hb4⟩
      have HS4 := Lib.hid (HS2.out.below hb4 (Nat.le_refl _))
      have B4 := Lib.hid (B2.out.trans (hb4.mono (Nat.le_of_lt hz2)))
      have hz4 := B4.out.size
      clear hb4
      go_wp2_with fail
      go_ret
      exact ⟨rfl, B4.out.alloc hz4 _⟩

set_option maxRecDepth 100000 in
theorem door_met (os : Os) (args : Array Value) : laidMetH Tryd.prog Rows.instrBackRow.laid ((World.doorLaid Tryd.prog 400 os).forCall (fun _ _ => 0) ⟨#[], args, []⟩).memory :=
  laidMetH_of_parts3 (fuel := 8) (laidMet_of_run' 8 (by kernel_rfl) (by kernel_rfl)) (by kernel_rfl) (by kernel_rfl)

set_option maxRecDepth 100000 in
theorem lifted (os : Os) (started : os.Started) (H : Type) (enc : TypeId × Value → H) :
    ReturnsInHanded {} Tryd.checked os 7 .any (fun w args => (Rows.instrBackSpec.pre enc Tryd.prog Tryd.f7 [] false w args ∧ laidMetH Tryd.prog Rows.instrBackRow.laid w) ∧ sizedMet enc Tryd.prog Tryd.f7 (OpenSpec.ofChange Rows.instrBackSpec) false w args) (Rows.instrBackSpec.post enc Tryd.prog Tryd.f7 false true false false) := by
  refine returnsInHanded_of_change_and (C := Tryd.checked) (X := fun w _ => laidMetH Tryd.prog Rows.instrBackRow.laid w) (fun _ _ _ hh h => h.of_heap hh) Tryd.own started (by kernel_rfl) Tryd.func7
    (ChangeSpec.witness_shaped (enc := enc) (C := Tryd.checked) (os := os) (X := fun w _ => laidMetH Tryd.prog Rows.instrBackRow.laid w) false (World.doorLaid Tryd.prog 400 os) #[.agg #[.int .i64 0, .int .i64 0, .int .i64 0, .int .i64 0, .int .i64 0], .int .u32 0] 8 rfl (World.shaped_of_RefB (by kernel_rfl) (by kernel_rfl)) (by kernel_rfl) (by kernel_rfl) (by kernel_rfl) (door_met os _)) ?_
  intro W base args ds gs before hval0 hW _ _ hL _
  have hval : ∀ (j : Nat) t v, Tryd.f7.params[j]? = some t → args[j]? = some v → Value.okWide Tryd.prog W .any base t v := hval0
  have hW' := hW
  obtain ⟨p, q, hA0, hV, rfl, hfz, hnd⟩ := hW
  have hA : DataW.TrodAll enc Tryd.prog W 0 (fun _ => true) true Tryd.f7.params.toList args.toList ds p := hA0
  rw [Tryd.params7] at hA hval
  obtain ⟨v0, vs0, d0, ds0, p0, q0, hargs, rfl, rfl, h0, r0⟩ := trodAll_cons hA
  obtain ⟨v1, vs1, d1, ds1, p1, q1, rfl, rfl, rfl, h1, r1⟩ := trodAll_cons r0
  obtain ⟨rfl, rfl, rfl⟩ := trodAll_nil r1
  obtain rfl : args = #[v0, v1] := by cases args; simp_all
  clear hA0 hval0
  have hT0 := shapes_of_laid hL (by kernel_rfl) List.mem_cons_self
  obtain ⟨zs0, rfl, hl0, w0⟩ := open_ints_struct (k := .i64) Tryd.underlying23 (by kernel_rfl) (by kernel_rfl) (by kernel_rfl) (hval 0 23 v0 rfl rfl) h0
  obtain ⟨x00, x01, x02, x03, x04, rfl⟩ := list_five hl0
  obtain ⟨a1, rfl, rfl, rfl, w1⟩ := open_int Tryd.underlying25 (hval 1 25 v1 rfl rfl) h1
  refine (walk W hT0 x00 (w0 x00 (by simp)) x01 (w0 x01 (by simp)) x02 (w0 x02 (by simp)) x03 (w0 x03 (by simp)) x04 (w0 x04 (by simp)) a1 w1).mono fun e W' ⟨he, hg⟩ => ?_
  subst he
  exact ⟨_, rfl, law_post Tryd.laidOut Tryd.mapsRowed Tryd.slicesFull (by kernel_rfl) rfl (by kernel_rfl) Tryd.underlying4 rfl hW' hg⟩

theorem over : Rows.instrBackRow.holds Tryd.pinned (OpenSpec.ofChange Rows.instrBackSpec) :=
  OpenClaim.holds_of_wide 7 Tryd.f7 rfl rfl rfl rfl rfl rfl rfl ⟨rfl, rfl, rfl, rfl, rfl⟩ rfl rfl rfl rfl rfl (by kernel_rfl) Tryd.func7 (by kernel_rfl)
    (of_decide_eq_true (by kernel_rfl)) (by unfold Func.isWrapper; first | (rw [if_pos (by decide +kernel)]; kernel_rfl) | (rw [if_neg (by decide +kernel)]; exact ⟨rfl, rfl⟩))
    (fun os started H enc _ => lifted os started H enc)

theorem proved : Rows.InstrBackCardSaid :=
  Claim7.holds_tied_plain_at .later [] Rows.instrBackCard.laidKinds true Rows.instrBackCard.stood.harness false
    over (fun _ h => by cases h) (by kernel_rfl) (fun _ h => by cases h) instrBack_row_tie rfl ⟨rfl, rfl⟩ (by kernel_rfl) rfl
    (fun f fn hf hfn => by
      obtain rfl : f = 7 := Option.some.inj ((show Tryd.prog.funcNamed Rows.instrBackRow.func = some 7 by kernel_rfl).symm.trans hf) |>.symm
      obtain rfl : fn = Tryd.f7 := (Option.some.inj (Tryd.func7.symm.trans hfn)).symm
      exact ⟨by kernel_rfl, fun j t ht => by
        have hm : t ∈ Tryd.f7.params.toList := by simpa using Array.mem_of_getElem? ht
        have hall : (Tryd.f7.params.toList.all fun u => !Tryd.prog.wantsStandIn u) = true := by kernel_rfl
        exact (show Tryd.prog.wantsStandIn t = false by simpa using List.all_eq_true.1 hall t hm)⟩)
    (by kernel_rfl)
end Go.Proofs.YtkeknjloocnlpaaDoor.lawInstrBack
