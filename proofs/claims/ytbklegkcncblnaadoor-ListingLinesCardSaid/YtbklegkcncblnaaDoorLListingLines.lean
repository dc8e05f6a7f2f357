/- ListingLines: for any address, any word and any instruction, Target of package listing tells the address that the document says, and whether there is one; Line answers the line that the document's answers give. Condition: the row's own: the tables of shapes and of names hold what their initialisers lay (tied to the program's text). -/
import Derived.Test.YtbklegkcncblnaaDoorRows
import Derived.Test.YtbklegkcncblnaaDoorLift
import Derived.Test.YtbklegkcncblnaaDoorLisD
import Derived.Test.YtbklegkcncblnaaDoorInstrF
import Derived.Test.YtbklegkcncblnaaDoorInstrN
import Derived.Test.YtbklegkcncblnaaDoorTie
import Derived.Test.YtbklegkcncblnaaDoorCards
import Derived.SevenTiedAt
namespace Go.Proofs.YtbklegkcncblnaaDoor.lawListingLines
open Go.ChangeShapes Go.WideShapes Go.ChangeAt Go.RowKit
set_option linter.unusedVariables false
set_option maxHeartbeats 4000000 in
set_option maxRecDepth 100000 in
theorem walk (w : World) (hS : ShapesIn w) (hN : NamesIn w) (at_ : Int) (wa : (Lit.int .u32 at_).wf = true) (x : Int) (wx : (Lit.int .u32 x).wf = true) (op : Int) (wo : (Lit.int .i64 op).wf = true) (a : Int) (wa1 : (Lit.int .i64 a).wf = true) (b : Int) (wb : (Lit.int .i64 b).wf = true) (c : Int) (wc : (Lit.int .i64 c).wf = true) (n : Int) (wn : (Lit.int .i64 n).wf = true) :
    Calls Tryd.prog 8 #[.int .u32 at_, .int .u32 x, instrV op a b c n] w fun e w' => e = .returned (.bool true) ∧ Below w.heap.size w w' := by
  have ba := bounds_u32 wa
  have bx := bounds_u32 wx
  have HS := Lib.hid hS
  have HN := Lib.hid hN
  have TG1 := Lib.hid (fun w h => target_yes at_ op a b c n w h)
  have TG0 := Lib.hid (fun w h => target_no at_ op a b c n w h)
  have LN := Lib.hid (fun w hs hn => line_any at_ x w hs hn ba bx.1 bx.2)
  have RL := Lib.hid (fun w => refline_any at_ x w ba bx.1 bx.2)
  have EQ : (at_ + 4 + 4 * (n % 4294967296)) % 4294967296 = leadTo at_ n := by unfold leadTo; omega
  have EQH := Lib.hid EQ
  have B0 := Lib.hid ((Below.refl w.heap.size w).alloc (Nat.le_refl _) (.cells #[.int .i64 op, .int .i64 a, .int .i64 b, .int .i64 c, .int .i64 n] 47))
  have Q0 := Lib.hid (Whole.made w 47 #[.int .i64 op, .int .i64 a, .int .i64 b, .int .i64 c, .int .i64 n] _ rfl)
  unfold instrV at *
  clear hS hN wa wx wo wa1 wb wc wn EQ ba bx
  generalize lineOf at_ x = ln at *
  go_enter Tryd.func8, Tryd.ntmps8
  go_wp2_with fail
  generalize w.alloc (.cells #[.int .i64 op, .int .i64 a, .int .i64 b, .int .i64 c, .int .i64 n] 47) = V at *
  refine (awake06_any _ (HS.out.below B0.out (Nat.le_refl _)) (HN.out.below B0.out (Nat.le_refl _))).mono ?_
  rintro e w1 ⟨rfl, hb1⟩
  have B1 := Lib.hid (B0.out.trans (hb1.mono B0.out.size))
  have Q1 := Lib.hid (Q0.out.below hb1 Q0.out.lt)
  have q0 : w1.cell? ⟨w.heap.size, 0, none⟩ = some (.int .i64 op) := Q1.out.cell 0
  have q1 : w1.cell? ⟨w.heap.size, 1, none⟩ = some (.int .i64 a) := Q1.out.cell 1
  have q2 : w1.cell? ⟨w.heap.size, 2, none⟩ = some (.int .i64 b) := Q1.out.cell 2
  have q3 : w1.cell? ⟨w.heap.size, 3, none⟩ = some (.int .i64 c) := Q1.out.cell 3
  have q4 : w1.cell? ⟨w.heap.size, 4, none⟩ = some (.int .i64 n) := Q1.out.cell 4
  clear hb1 B0 Q0
  go_wp2_with fail
  by_cases hop : 20 ≤ op ∧ op ≤ 23
  · refine (TG1.out _ hop).mono ?_
    rintro e w2 ⟨rfl, hb2⟩
    have B2 := Lib.hid (B1.out.trans (hb2.mono B1.out.size))
    have Q2 := Lib.hid (Q1.out.below hb2 Q1.out.lt)
    clear q0 q1 q2 q3 q4
    have q0 : w2.cell? ⟨w.heap.size, 0, none⟩ = some (.int .i64 op) := Q2.out.cell 0
    have q4 : w2.cell? ⟨w.heap.size, 4, none⟩ = some (.int .i64 n) := Q2.out.cell 4
    have d0 : decide (20 ≤ op) = true := decide_eq_true hop.1
    have d1 : decide (op ≤ 23) = true := decide_eq_true hop.2
    have dq : (leadTo at_ n != (at_ + 4 + 4 * (n % 4294967296)) % 4294967296) = false := by rw [EQH.out]; simp
    clear hb2 Q1 B1 TG0 TG1 hop
    generalize leadTo at_ n = ld at *
    go_wp2_with fail
    refine (LN.out _ (HS.out.below B2.out (Nat.le_refl _)) (HN.out.below B2.out (Nat.le_refl _))).mono ?_
    rintro e w3 ⟨rfl, hb3⟩
    have B3 := Lib.hid (B2.out.trans (hb3.mono B2.out.size))
    clear hb3
    go_wp2_with fail
    refine (RL.out _).mono ?_
    rintro e w4 ⟨rfl, hb4⟩
    have B4 := Lib.hid (B3.out.trans (hb4.mono B3.out.size))
    clear hb4
    go_wp2_with fail
    go_ret
    exact ⟨rfl, B4.out⟩
  · refine (TG0.out _ hop).mono ?_
    rintro e w2 ⟨rfl, hb2⟩
    have B2 := Lib.hid (B1.out.trans (hb2.mono B1.out.size))
    have Q2 := Lib.hid (Q1.out.below hb2 Q1.out.lt)
    clear q0 q1 q2 q3 q4
    have q0 : w2.cell? ⟨w.heap.size, 0, none⟩ = some (.int .i64 op) := Q2.out.cell 0
    have B3 := Lib.hid (fun w3 (hb3 : Below w2.heap.size w2 w3) => B2.out.trans (hb3.mono B2.out.size))
    by_cases h20 : 20 ≤ op
    · have d0 : decide (20 ≤ op) = true := decide_eq_true h20
      have d1 : decide (op ≤ 23) = false := decide_eq_false (by omega)
      clear hb2 Q1 B1 TG0 TG1 hop h20
      go_wp2_with fail
      refine (LN.out _ (HS.out.below B2.out (Nat.le_refl _)) (HN.out.below B2.out (Nat.le_refl _))).mono ?_
      rintro e w3 ⟨rfl, hb3⟩
      have B3 := Lib.hid (B2.out.trans (hb3.mono B2.out.size))
      clear hb3
      go_wp2_with fail
      refine (RL.out _).mono ?_
      rintro e w4 ⟨rfl, hb4⟩
      have B4 := Lib.hid (B3.out.trans (hb4.mono B3.out.size))
      clear hb4
      go_wp2_with fail
      go_ret
      exact ⟨rfl, B4.out⟩
    · have d0 : decide (20 ≤ op) = false := decide_eq_false h20
      clear hb2 Q1 B1 TG0 TG1 hop h20
      go_wp2_with fail
      refine (LN.out _ (HS.out.below B2.out (Nat.le_refl _)) (HN.out.below B2.out (Nat.le_refl _))).mono ?_
      rintro e w3 ⟨rfl, hb3⟩
      have B3 := Lib.hid (B2.out.trans (hb3.mono B2.out.size))
      clear hb3
      go_wp2_with fail
      refine (RL.out _).mono ?_
      rintro e w4 ⟨rfl, hb4⟩
      have B4 := Lib.hid (B3.out.trans (hb4.mono B3.out.size))
      clear hb4
      go_wp2_with fail
      go_ret
      exact ⟨rfl, B4.out⟩

set_option maxRecDepth 100000 in
theorem door_met (os : Os) (args : Array Value) : laidMetH Tryd.prog Rows.listingLinesRow.laid ((World.doorLaid Tryd.prog 400 os).forCall (fun _ _ => 0) ⟨#[], args, []⟩).memory :=
  laidMetH_of_parts3 (fuel := 8) (laidMet_of_run' 8 (by kernel_rfl) (by kernel_rfl)) (by kernel_rfl) (by kernel_rfl)

set_option maxRecDepth 100000 in
theorem lifted (os : Os) (started : os.Started) (H : Type) (enc : TypeId × Value → H) :
    ReturnsInHanded {} Tryd.checked os 8 .any (fun w args => (Rows.listingLinesSpec.pre enc Tryd.prog Tryd.f8 [] false w args ∧ laidMetH Tryd.prog Rows.listingLinesRow.laid w) ∧ sizedMet enc Tryd.prog Tryd.f8 (OpenSpec.ofChange Rows.listingLinesSpec) false w args) (Rows.listingLinesSpec.post enc Tryd.prog Tryd.f8 false true false false) := by
  refine returnsInHanded_of_change_and (C := Tryd.checked) (X := fun w _ => laidMetH Tryd.prog Rows.listingLinesRow.laid w) (fun _ _ _ hh h => h.of_heap hh) Tryd.own started (by kernel_rfl) Tryd.func8
    (ChangeSpec.witness_shaped (enc := enc) (C := Tryd.checked) (os := os) (X := fun w _ => laidMetH Tryd.prog Rows.listingLinesRow.laid w) false (World.doorLaid Tryd.prog 400 os) #[.int .u32 0, .int .u32 0, .agg #[.int .i64 0, .int .i64 0, .int .i64 0, .int .i64 0, .int .i64 0]] 8 rfl (World.shaped_of_RefB (by kernel_rfl) (by kernel_rfl)) (by kernel_rfl) (by kernel_rfl) (by kernel_rfl) (door_met os _)) ?_
  intro W base args ds gs before hval0 hW _ _ hL _
  have hval : ∀ (j : Nat) t v, Tryd.f8.params[j]? = some t → args[j]? = some v → Value.okWide Tryd.prog W .any base t v := hval0
  have hW' := hW
  obtain ⟨p, q, hA0, hV, rfl, hfz, hnd⟩ := hW
  have hA : DataW.TrodAll enc Tryd.prog W 0 (fun _ => true) true Tryd.f8.params.toList args.toList ds p := hA0
  rw [Tryd.params8] at hA hval
  obtain ⟨v0, vs0, d0, ds0, p0, q0, hargs, rfl, rfl, h0, r0⟩ := trodAll_cons hA
  obtain ⟨v1, vs1, d1, ds1, p1, q1, rfl, rfl, rfl, h1, r1⟩ := trodAll_cons r0
  obtain ⟨v2, vs2, d2, ds2, p2, q2, rfl, rfl, rfl, h2, r2⟩ := trodAll_cons r1
  obtain ⟨rfl, rfl, rfl⟩ := trodAll_nil r2
  obtain rfl : args = #[v0, v1, v2] := by cases args; simp_all
  clear hA0 hval0
  have hT0 := shapes_of_laid hL (by kernel_rfl) List.mem_cons_self
  have hT1 := names_of_laid hL (by kernel_rfl) (List.mem_cons_of_mem _ List.mem_cons_self)
  obtain ⟨a0, rfl, rfl, rfl, w0⟩ := open_int Tryd.underlying45 (hval 0 45 v0 rfl rfl) h0
  obtain ⟨a1, rfl, rfl, rfl, w1⟩ := open_int Tryd.underlying45 (hval 1 45 v1 rfl rfl) h1
  obtain ⟨zs2, rfl, hl2, w2⟩ := open_ints_struct (k := .i64) Tryd.underlying47 (by kernel_rfl) (by kernel_rfl) (by kernel_rfl) (hval 2 47 v2 rfl rfl) h2
  obtain ⟨x20, x21, x22, x23, x24, rfl⟩ := list_five hl2
  refine (walk W hT0 hT1 a0 w0 a1 w1 x20 (w2 x20 (by simp)) x21 (w2 x21 (by simp)) x22 (w2 x22 (by simp)) x23 (w2 x23 (by simp)) x24 (w2 x24 (by simp))).mono fun e W' ⟨he, hg⟩ => ?_
  subst he
  exact ⟨_, rfl, law_post Tryd.laidOut Tryd.mapsRowed Tryd.slicesFull (by kernel_rfl) rfl (by kernel_rfl) Tryd.underlying4 rfl hW' hg⟩

theorem over : Rows.listingLinesRow.holds Tryd.pinned (OpenSpec.ofChange Rows.listingLinesSpec) :=
  OpenClaim.holds_of_wide 8 Tryd.f8 rfl rfl rfl rfl rfl rfl rfl ⟨rfl, rfl, rfl, rfl, rfl⟩ rfl rfl rfl rfl rfl (by kernel_rfl) Tryd.func8 (by kernel_rfl)
    (of_decide_eq_true (by kernel_rfl)) (by unfold Func.isWrapper; first | (rw [if_pos (by decide +kernel)]; kernel_rfl) | (rw [if_neg (by decide +kernel)]; exact ⟨rfl, rfl⟩))
    (fun os started H enc _ => lifted os started H enc)

theorem proved : Rows.ListingLinesCardSaid :=
  Claim7.holds_tied_plain_at .later [] Rows.listingLinesCard.laidKinds true Rows.listingLinesCard.stood.harness false
    over (fun _ h => by cases h) (by kernel_rfl) (fun _ h => by cases h) listingLines_row_tie rfl ⟨rfl, rfl⟩ (by kernel_rfl) rfl
    (fun f fn hf hfn => by
      obtain rfl : f = 8 := Option.some.inj ((show Tryd.prog.funcNamed Rows.listingLinesRow.func = some 8 by kernel_rfl).symm.trans hf) |>.symm
      obtain rfl : fn = Tryd.f8 := (Option.some.inj (Tryd.func8.symm.trans hfn)).symm
      exact ⟨by kernel_rfl, fun j t ht => by
        have hm : t ∈ Tryd.f8.params.toList := by simpa using Array.mem_of_getElem? ht
        have hall : (Tryd.f8.params.toList.all fun u => !Tryd.prog.wantsStandIn u) = true := by kernel_rfl
        exact (show Tryd.prog.wantsStandIn t = false by simpa using List.all_eq_true.1 hall t hm)⟩)
    (by kernel_rfl)
end Go.Proofs.YtbklegkcncblnaaDoor.lawListingLines
