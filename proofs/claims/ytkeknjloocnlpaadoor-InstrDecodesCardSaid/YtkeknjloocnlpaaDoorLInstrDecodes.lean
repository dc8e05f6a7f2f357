/- InstrDecodes: for any word, Decode of package instr answers what the document's answers do: the same instruction, or the same error's number. Condition: the row's own: the package's table of shapes holds what its initialiser lays (tied to the program's text). -/
import Derived.Test.YtkeknjloocnlpaaDoorRows
import Derived.Test.YtkeknjloocnlpaaDoorLift
import Derived.Test.YtkeknjloocnlpaaDoorInstrF
import Derived.Test.YtkeknjloocnlpaaDoorInstrJ
import Derived.Test.YtkeknjloocnlpaaDoorTie
import Derived.Test.YtkeknjloocnlpaaDoorCards
import Derived.SevenTiedAt
namespace Go.Proofs.YtkeknjloocnlpaaDoor.lawInstrDecodes
open Go.ChangeShapes Go.WideShapes Go.ChangeAt Go.RowKit
set_option linter.unusedVariables false

theorem keepD {w x y : World} {B p q : Nat} {o a b c n : Int}
    (hS : x.cell? ⟨p, 0, none⟩ = some (.int .i64 o) ∧ x.cell? ⟨p, 1, none⟩ = some (.int .i64 a) ∧ x.cell? ⟨p, 2, none⟩ = some (.int .i64 b) ∧ x.cell? ⟨p, 3, none⟩ = some (.int .i64 c) ∧ x.cell? ⟨p, 4, none⟩ = some (.int .i64 n) ∧ x.cell? ⟨q, 0, none⟩ = some (.int .i64 o) ∧ x.cell? ⟨q, 1, none⟩ = some (.int .i64 a) ∧ x.cell? ⟨q, 2, none⟩ = some (.int .i64 b) ∧ x.cell? ⟨q, 3, none⟩ = some (.int .i64 c) ∧ x.cell? ⟨q, 4, none⟩ = some (.int .i64 n) ∧ Below B w x) (hb : Below x.heap.size x y) (hB : B ≤ x.heap.size) :
    y.cell? ⟨p, 0, none⟩ = some (.int .i64 o) ∧ y.cell? ⟨p, 1, none⟩ = some (.int .i64 a) ∧ y.cell? ⟨p, 2, none⟩ = some (.int .i64 b) ∧ y.cell? ⟨p, 3, none⟩ = some (.int .i64 c) ∧ y.cell? ⟨p, 4, none⟩ = some (.int .i64 n) ∧ y.cell? ⟨q, 0, none⟩ = some (.int .i64 o) ∧ y.cell? ⟨q, 1, none⟩ = some (.int .i64 a) ∧ y.cell? ⟨q, 2, none⟩ = some (.int .i64 b) ∧ y.cell? ⟨q, 3, none⟩ = some (.int .i64 c) ∧ y.cell? ⟨q, 4, none⟩ = some (.int .i64 n) ∧ Below B w y := by
  obtain ⟨h0, h1, h2, h3, h4, g0, g1, g2, g3, g4, hw⟩ := hS
  have l0 : p < x.heap.size := block_lt h0
  have l1 : q < x.heap.size := block_lt g0
  refine ⟨?_, ?_, ?_, ?_, ?_, ?_, ?_, ?_, ?_, ?_, hw.trans (hb.mono hB)⟩
  · exact (hb.cell (p := ⟨p, 0, none⟩) l0).trans h0
  · exact (hb.cell (p := ⟨p, 1, none⟩) l0).trans h1
  · exact (hb.cell (p := ⟨p, 2, none⟩) l0).trans h2
  · exact (hb.cell (p := ⟨p, 3, none⟩) l0).trans h3
  · exact (hb.cell (p := ⟨p, 4, none⟩) l0).trans h4
  · exact (hb.cell (p := ⟨q, 0, none⟩) l1).trans g0
  · exact (hb.cell (p := ⟨q, 1, none⟩) l1).trans g1
  · exact (hb.cell (p := ⟨q, 2, none⟩) l1).trans g2
  · exact (hb.cell (p := ⟨q, 3, none⟩) l1).trans g3
  · exact (hb.cell (p := ⟨q, 4, none⟩) l1).trans g4

theorem decV_form (x : Int) : ∃ o a b c n e, decV x = .tuple #[.agg #[.int .i64 o, .int .i64 a, .int .i64 b, .int .i64 c, .int .i64 n], .int .i64 e] := by
  unfold decV
  split
  · exact ⟨_, _, _, _, _, _, rfl⟩
  · exact ⟨_, _, _, _, _, _, rfl⟩

set_option maxHeartbeats 4000000 in
set_option maxRecDepth 100000 in
theorem walk (w : World) (hS : ShapesIn w) (x : Int) (wx : (Lit.int .u32 x).wf = true) :
    Calls Tryd.prog 4 #[.int .u32 x] w fun e w' => e = .returned (.bool true) ∧ Below w.heap.size w w' := by
  obtain ⟨x0, x1⟩ := bounds_u32 wx
  have HS := Lib.hid hS
  have D := Lib.hid (fun w hs => decode_any x w hs x0 x1)
  have D2 := Lib.hid (fun w => refdecode_any x w x0 x1)
  obtain ⟨o, a, b, c, n, code, hV⟩ := decV_form x
  rw [hV] at D D2
  have R := Lib.hid (fun w => ref_any o a b c n w)
  unfold instrV at R
  clear hS hV wx
  go_enter Tryd.func4, Tryd.ntmps4
  go_wp2_with fail
  refine (awake02_any _ HS.out).mono ?_
  rintro e w1 ⟨rfl, hb1⟩
  have HS1 := Lib.hid (HS.out.below hb1 (Nat.le_refl _))
  have hz1 := hb1.size
  go_wp2_with fail
  refine (D.out _ HS1.out).mono ?_
  rintro e w2 ⟨rfl, hb2⟩
  have B2 := Lib.hid (hb1.trans (hb2.mono hz1))
  have hz2 := Nat.le_trans hz1 hb2.size
  clear hb1 hb2
  go_wp2_with fail
  refine (D2.out _).mono ?_
  rintro e w3 ⟨rfl, hb3⟩
  have P2 := Lib.hid ((Whole.made w2 23 #[.int .i64 o, .int .i64 a, .int .i64 b, .int .i64 c, .int .i64 n] _ rfl).below hb3 (by simp))
  have B3 := Lib.hid ((B2.out.alloc hz2 _).trans (hb3.mono (show w.heap.size ≤ _ by simp; omega)))
  have hz3 : w.heap.size ≤ w3.heap.size := B3.out.size
  clear hb3
  go_wp2_with fail
  have P3 := Lib.hid (P2.out.alloc (.cells #[.int .i64 o, .int .i64 a, .int .i64 b, .int .i64 c, .int .i64 n] 31))
  have Q3 := Lib.hid (Whole.made w3 31 #[.int .i64 o, .int .i64 a, .int .i64 b, .int .i64 c, .int .i64 n] _ rfl)
  have B4 := Lib.hid (B3.out.alloc hz3 (.cells #[.int .i64 o, .int .i64 a, .int .i64 b, .int .i64 c, .int .i64 n] 31))
  have hz4 : w.heap.size ≤ (w3.alloc (.cells #[.int .i64 o, .int .i64 a, .int .i64 b, .int .i64 c, .int .i64 n] 31)).heap.size := B4.out.size
  generalize w3.alloc (.cells #[.int .i64 o, .int .i64 a, .int .i64 b, .int .i64 c, .int .i64 n] 31) = z at *
  have K : z.cell? ⟨w2.heap.size, 0, none⟩ = some (.int .i64 o) ∧ z.cell? ⟨w2.heap.size, 1, none⟩ = some (.int .i64 a) ∧ z.cell? ⟨w2.heap.size, 2, none⟩ = some (.int .i64 b) ∧ z.cell? ⟨w2.heap.size, 3, none⟩ = some (.int .i64 c) ∧ z.cell? ⟨w2.heap.size, 4, none⟩ = some (.int .i64 n) ∧ z.cell? ⟨w3.heap.size, 0, none⟩ = some (.int .i64 o) ∧ z.cell? ⟨w3.heap.size, 1, none⟩ = some (.int .i64 a) ∧ z.cell? ⟨w3.heap.size, 2, none⟩ = some (.int .i64 b) ∧ z.cell? ⟨w3.heap.size, 3, none⟩ = some (.int .i64 c) ∧ z.cell? ⟨w3.heap.size, 4, none⟩ = some (.int .i64 n) ∧ Below w.heap.size w z :=
    ⟨P3.out.cell 0, P3.out.cell 1, P3.out.cell 2, P3.out.cell 3, P3.out.cell 4, Q3.out.cell 0, Q3.out.cell 1, Q3.out.cell 2, Q3.out.cell 3, Q3.out.cell 4, B4.out⟩
  go_region_held3 (fun y => y.cell? ⟨w2.heap.size, 0, none⟩ = some (.int .i64 o) ∧ y.cell? ⟨w2.heap.size, 1, none⟩ = some (.int .i64 a) ∧ y.cell? ⟨w2.heap.size, 2, none⟩ = some (.int .i64 b) ∧ y.cell? ⟨w2.heap.size, 3, none⟩ = some (.int .i64 c) ∧ y.cell? ⟨w2.heap.size, 4, none⟩ = some (.int .i64 n) ∧ y.cell? ⟨w3.heap.size, 0, none⟩ = some (.int .i64 o) ∧ y.cell? ⟨w3.heap.size, 1, none⟩ = some (.int .i64 a) ∧ y.cell? ⟨w3.heap.size, 2, none⟩ = some (.int .i64 b) ∧ y.cell? ⟨w3.heap.size, 3, none⟩ = some (.int .i64 c) ∧ y.cell? ⟨w3.heap.size, 4, none⟩ = some (.int .i64 n) ∧ Below w.heap.size w y)
    (first
      | assumption
      | exact keepD (by assumption) (Below.refl _ _).drew hz4
      | exact keepD (by assumption) hbm hz4)
    (first | (go_at_call 11; refine (R.out _).mono ?_; rintro e w' ⟨rfl, hbm⟩))
  all_goals
    obtain ⟨_, _, _, _, _, _, _, _, _, _, hfin⟩ := (show _ ∧ _ ∧ _ ∧ _ ∧ _ ∧ _ ∧ _ ∧ _ ∧ _ ∧ _ ∧ Below w.heap.size w w' from by assumption)
    go_wp2_with fail
    go_ret
    exact ⟨rfl, hfin⟩

set_option maxRecDepth 100000 in
theorem door_met (os : Os) (args : Array Value) : laidMetH Tryd.prog Rows.instrDecodesRow.laid ((World.doorLaid Tryd.prog 400 os).forCall (fun _ _ => 0) ⟨#[], args, []⟩).memory :=
  laidMetH_of_parts3 (fuel := 8) (laidMet_of_run' 8 (by kernel_rfl) (by kernel_rfl)) (by kernel_rfl) (by kernel_rfl)

set_option maxRecDepth 100000 in
theorem lifted (os : Os) (started : os.Started) (H : Type) (enc : TypeId × Value → H) :
    ReturnsInHanded {} Tryd.checked os 4 .any (fun w args => (Rows.instrDecodesSpec.pre enc Tryd.prog Tryd.f4 [] false w args ∧ laidMetH Tryd.prog Rows.instrDecodesRow.laid w) ∧ sizedMet enc Tryd.prog Tryd.f4 (OpenSpec.ofChange Rows.instrDecodesSpec) false w args) (Rows.instrDecodesSpec.post enc Tryd.prog Tryd.f4 false true false false) := by
  refine returnsInHanded_of_change_and (C := Tryd.checked) (X := fun w _ => laidMetH Tryd.prog Rows.instrDecodesRow.laid w) (fun _ _ _ hh h => h.of_heap hh) Tryd.own started (by kernel_rfl) Tryd.func4
    (ChangeSpec.witness_shaped (enc := enc) (C := Tryd.checked) (os := os) (X := fun w _ => laidMetH Tryd.prog Rows.instrDecodesRow.laid w) false (World.doorLaid Tryd.prog 400 os) #[.int .u32 0] 8 rfl (World.shaped_of_RefB (by kernel_rfl) (by kernel_rfl)) (by kernel_rfl) (by kernel_rfl) (by kernel_rfl) (door_met os _)) ?_
  intro W base args ds gs before hval0 hW _ _ hL _
  have hval : ∀ (j : Nat) t v, Tryd.f4.params[j]? = some t → args[j]? = some v → Value.okWide Tryd.prog W .any base t v := hval0
  have hW' := hW
  obtain ⟨p, q, hA0, hV, rfl, hfz, hnd⟩ := hW
  have hA : DataW.TrodAll enc Tryd.prog W 0 (fun _ => true) true Tryd.f4.params.toList args.toList ds p := hA0
  rw [Tryd.params4] at hA hval
  obtain ⟨v0, vs0, d0, ds0, p0, q0, hargs, rfl, rfl, h0, r0⟩ := trodAll_cons hA
  obtain ⟨rfl, rfl, rfl⟩ := trodAll_nil r0
  obtain rfl : args = #[v0] := by cases args; simp_all
  clear hA0 hval0
  have hT0 := shapes_of_laid hL (by kernel_rfl) List.mem_cons_self
  obtain ⟨a0, rfl, rfl, rfl, w0⟩ := open_int Tryd.underlying25 (hval 0 25 v0 rfl rfl) h0
  refine (walk W hT0 a0 w0).mono fun e W' ⟨he, hg⟩ => ?_
  subst he
  exact ⟨_, rfl, law_post Tryd.laidOut Tryd.mapsRowed Tryd.slicesFull (by kernel_rfl) rfl (by kernel_rfl) Tryd.underlying4 rfl hW' hg⟩

theorem over : Rows.instrDecodesRow.holds Tryd.pinned (OpenSpec.ofChange Rows.instrDecodesSpec) :=
  OpenClaim.holds_of_wide 4 Tryd.f4 rfl rfl rfl rfl rfl rfl rfl ⟨rfl, rfl, rfl, rfl, rfl⟩ rfl rfl rfl rfl rfl (by kernel_rfl) Tryd.func4 (by kernel_rfl)
    (of_decide_eq_true (by kernel_rfl)) (by unfold Func.isWrapper; first | (rw [if_pos (by decide +kernel)]; kernel_rfl) | (rw [if_neg (by decide +kernel)]; exact ⟨rfl, rfl⟩))
    (fun os started H enc _ => lifted os started H enc)

theorem proved : Rows.InstrDecodesCardSaid :=
  Claim7.holds_tied_plain_at .later [] Rows.instrDecodesCard.laidKinds true Rows.instrDecodesCard.stood.harness false
    over (fun _ h => by cases h) (by kernel_rfl) (fun _ h => by cases h) instrDecodes_row_tie rfl ⟨rfl, rfl⟩ (by kernel_rfl) rfl
    (fun f fn hf hfn => by
      obtain rfl : f = 4 := Option.some.inj ((show Tryd.prog.funcNamed Rows.instrDecodesRow.func = some 4 by kernel_rfl).symm.trans hf) |>.symm
      obtain rfl : fn = Tryd.f4 := (Option.some.inj (Tryd.func4.symm.trans hfn)).symm
      exact ⟨by kernel_rfl, fun j t ht => by
        have hm : t ∈ Tryd.f4.params.toList := by simpa using Array.mem_of_getElem? ht
        have hall : (Tryd.f4.params.toList.all fun u => !Tryd.prog.wantsStandIn u) = true := by kernel_rfl
        exact (show Tryd.prog.wantsStandIn t = false by simpa using List.all_eq_true.1 hall t hm)⟩)
    (by kernel_rfl)
end Go.Proofs.YtkeknjloocnlpaaDoor.lawInstrDecodes
