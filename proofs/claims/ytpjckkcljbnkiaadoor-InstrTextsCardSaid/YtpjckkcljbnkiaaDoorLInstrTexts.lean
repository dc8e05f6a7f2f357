/- InstrTexts: any instruction has the text and the error's number that the document's answers give; any texts of fields are, by Fill of package instr, the instruction that the document's answers make of them, or none; and what Fields writes of an instruction that may be, Fill reads as just that instruction. Condition: the row's own: the package's tables of shapes and of names hold what their initialisers lay (tied to the program's text). -/
import Derived.Test.YtpjckkcljbnkiaaDoorRows
import Derived.Test.YtpjckkcljbnkiaaDoorLift
import Derived.Test.YtpjckkcljbnkiaaDoorInstrEnd
import Derived.Test.YtpjckkcljbnkiaaDoorInstrF
import Derived.Test.YtpjckkcljbnkiaaDoorInstrN
import Derived.Test.YtpjckkcljbnkiaaDoorTie
import Derived.Test.YtpjckkcljbnkiaaDoorCards
import Derived.SevenTiedAt
namespace Go.Proofs.YtpjckkcljbnkiaaDoor.lawInstrTexts
open Go.ChangeShapes Go.WideShapes Go.ChangeAt Go.RowKit
set_option linter.unusedVariables false

set_option maxHeartbeats 2000000 in
set_option maxRecDepth 100000 in
theorem long (w : World) (hS : ShapesIn w) (op a b c n op2 : Int) (A : Option Addr) (n2 c2 : Nat) (hn20 : 20 < n2) :
    Calls Tryd.prog 3 #[instrV op a b c n, .int .i64 op2, .slice A n2 c2] w fun e w' => e = .returned (.bool true) ∧ Below w.heap.size w w' := by
  have HS := Lib.hid hS
  have dl : decide ((20 : Int) < (n2 : Int)) = true := by simp; omega
  clear hS
  unfold instrV at *
  go_enter Tryd.func3, Tryd.ntmps3
  go_wp2_with fail
  refine (awake02_any _ (HS.out.alloc _)).mono ?_
  rintro e w1 ⟨rfl, hb1⟩
  have B1 := Lib.hid (((Below.refl _ _).alloc (Nat.le_refl _) _).trans (hb1.mono (show w.heap.size ≤ _ by simp)))
  clear hb1
  go_wp2_with fail
  go_ret
  exact ⟨rfl, B1.out⟩

theorem walk (w : World) (hS : ShapesIn w) (hN : NamesIn w) (op : Int) (wo : (Lit.int .i64 op).wf = true) (a : Int) (wa : (Lit.int .i64 a).wf = true) (b : Int) (wb : (Lit.int .i64 b).wf = true) (c : Int) (wc : (Lit.int .i64 c).wf = true) (n : Int) (wn : (Lit.int .i64 n).wf = true) (op2 : Int) (wo2 : (Lit.int .i64 op2).wf = true) (A : Option Addr) (n2 c2 : Nat) (ss : List ByteArray) (hs : Strs w A n2 ss) (hm : n2 ≤ maxLen ∧ ∀ z ∈ ss, z.size ≤ maxLen) :
    Calls Tryd.prog 3 #[instrV op a b c n, .int .i64 op2, .slice A n2 c2] w fun e w' => e = .returned (.bool true) ∧ Below w.heap.size w w' := by
  by_cases h : 20 < n2
  · exact long w hS op a b c n op2 A n2 c2 h
  · have h20 : n2 ≤ 20 := by omega
    have ia := i64_of_wf wa
    have ib := i64_of_wf wb
    have ic := i64_of_wf wc
    have inn := i64_of_wf wn
    by_cases hk : checkOf op a b c n = 0
    · cases hok : fillOk op2 ss with
      | true => exact texts_gy w hS hN op a b c n ia ib ic inn op2 A n2 c2 ss hs hm.2 h20 hk hok
      | false => exact texts_gn w hS hN op a b c n ia ib ic inn op2 A n2 c2 ss hs hm.2 h20 hk hok
    · cases hok : fillOk op2 ss with
      | true => exact texts_by w hS hN op a b c n ia ib ic inn op2 A n2 c2 ss hs hm.2 h20 hk hok
      | false => exact texts_bn w hS hN op a b c n ia ib ic inn op2 A n2 c2 ss hs hm.2 h20 hk hok

set_option maxRecDepth 100000 in
theorem door_met (os : Os) (args : Array Value) : laidMetH Tryd.prog Rows.instrTextsRow.laid ((World.doorLaid Tryd.prog 400 os).forCall (fun _ _ => 0) ⟨#[], args, []⟩).memory :=
  laidMetH_of_parts3 (fuel := 8) (laidMet_of_run' 8 (by kernel_rfl) (by kernel_rfl)) (by kernel_rfl) (by kernel_rfl)

set_option maxRecDepth 100000 in
theorem lifted (os : Os) (started : os.Started) (H : Type) (enc : TypeId × Value → H) :
    ReturnsInHanded {} Tryd.checked os 3 .any (fun w args => (Rows.instrTextsSpec.pre enc Tryd.prog Tryd.f3 [] false w args ∧ laidMetH Tryd.prog Rows.instrTextsRow.laid w) ∧ sizedMet enc Tryd.prog Tryd.f3 (OpenSpec.ofChange Rows.instrTextsSpec) false w args) (Rows.instrTextsSpec.post enc Tryd.prog Tryd.f3 false true false false) := by
  refine returnsInHanded_of_change_and (C := Tryd.checked) (X := fun w _ => laidMetH Tryd.prog Rows.instrTextsRow.laid w) (fun _ _ _ hh h => h.of_heap hh) Tryd.own started (by kernel_rfl) Tryd.func3
    (ChangeSpec.witness_shaped (enc := enc) (C := Tryd.checked) (os := os) (X := fun w _ => laidMetH Tryd.prog Rows.instrTextsRow.laid w) false (World.doorLaid Tryd.prog 400 os) #[.agg #[.int .i64 0, .int .i64 0, .int .i64 0, .int .i64 0, .int .i64 0], .int .i64 0, .slice none 0 0] 8 rfl (World.shaped_of_RefB (by kernel_rfl) (by kernel_rfl)) (by kernel_rfl) (by kernel_rfl) (by kernel_rfl) (door_met os _)) ?_
  intro W base args ds gs before hval0 hW _ _ hL _
  have hval : ∀ (j : Nat) t v, Tryd.f3.params[j]? = some t → args[j]? = some v → Value.okWide Tryd.prog W .any base t v := hval0
  have hW' := hW
  obtain ⟨p, q, hA0, hV, rfl, hfz, hnd⟩ := hW
  have hA : DataW.TrodAll enc Tryd.prog W 0 (fun _ => true) true Tryd.f3.params.toList args.toList ds p := hA0
  rw [Tryd.params3] at hA hval
  obtain ⟨v0, vs0, d0, ds0, p0, q0, hargs, rfl, rfl, h0, r0⟩ := trodAll_cons hA
  obtain ⟨v1, vs1, d1, ds1, p1, q1, rfl, rfl, rfl, h1, r1⟩ := trodAll_cons r0
  obtain ⟨v2, vs2, d2, ds2, p2, q2, rfl, rfl, rfl, h2, r2⟩ := trodAll_cons r1
  obtain ⟨rfl, rfl, rfl⟩ := trodAll_nil r2
  obtain rfl : args = #[v0, v1, v2] := by cases args; simp_all
  clear hA0 hval0
  have hT0 := shapes_of_laid hL (by kernel_rfl) List.mem_cons_self
  have hT1 := names_of_laid hL (by kernel_rfl) (List.mem_cons_of_mem _ List.mem_cons_self)
  obtain ⟨zs0, rfl, hl0, w0⟩ := open_ints_struct (k := .i64) Tryd.underlying23 (by kernel_rfl) (by kernel_rfl) (by kernel_rfl) (hval 0 23 v0 rfl rfl) h0
  obtain ⟨x00, x01, x02, x03, x04, rfl⟩ := list_five hl0
  obtain ⟨a1, rfl, rfl, rfl, w1⟩ := open_int Tryd.underlying3 (hval 1 3 v1 rfl rfl) h1
  obtain ⟨A2, n2, c2, ss2, rfl, hs2, hm2⟩ := open_strs Tryd.underlying24 Tryd.underlying9 (by kernel_rfl) (hval 2 24 v2 rfl rfl) h2
  refine (walk W hT0 hT1 x00 (w0 x00 (by simp)) x01 (w0 x01 (by simp)) x02 (w0 x02 (by simp)) x03 (w0 x03 (by simp)) x04 (w0 x04 (by simp)) a1 w1 A2 n2 c2 ss2 hs2 hm2).mono fun e W' ⟨he, hg⟩ => ?_
  subst he
  exact ⟨_, rfl, law_post Tryd.laidOut Tryd.mapsRowed Tryd.slicesFull (by kernel_rfl) rfl (by kernel_rfl) Tryd.underlying4 rfl hW' hg⟩

theorem over : Rows.instrTextsRow.holds Tryd.pinned (OpenSpec.ofChange Rows.instrTextsSpec) :=
  OpenClaim.holds_of_wide 3 Tryd.f3 rfl rfl rfl rfl rfl rfl rfl ⟨rfl, rfl, rfl, rfl, rfl⟩ rfl rfl rfl rfl rfl (by kernel_rfl) Tryd.func3 (by kernel_rfl)
    (of_decide_eq_true (by kernel_rfl)) (by unfold Func.isWrapper; first | (rw [if_pos (by decide +kernel)]; kernel_rfl) | (rw [if_neg (by decide +kernel)]; exact ⟨rfl, rfl⟩))
    (fun os started H enc _ => lifted os started H enc)

theorem proved : Rows.InstrTextsCardSaid :=
  Claim7.holds_tied_plain_at .later [] Rows.instrTextsCard.laidKinds true Rows.instrTextsCard.stood.harness false
    over (fun _ h => by cases h) (by kernel_rfl) (fun _ h => by cases h) instrTexts_row_tie rfl ⟨rfl, rfl⟩ (by kernel_rfl) rfl
    (fun f fn hf hfn => by
      obtain rfl : f = 3 := Option.some.inj ((show Tryd.prog.funcNamed Rows.instrTextsRow.func = some 3 by kernel_rfl).symm.trans hf) |>.symm
      obtain rfl : fn = Tryd.f3 := (Option.some.inj (Tryd.func3.symm.trans hfn)).symm
      exact ⟨by kernel_rfl, fun j t ht => by
        have hm : t ∈ Tryd.f3.params.toList := by simpa using Array.mem_of_getElem? ht
        have hall : (Tryd.f3.params.toList.all fun u => !Tryd.prog.wantsStandIn u) = true := by kernel_rfl
        exact (show Tryd.prog.wantsStandIn t = false by simpa using List.all_eq_true.1 hall t hm)⟩)
    (by kernel_rfl)
end Go.Proofs.YtpjckkcljbnkiaaDoor.lawInstrTexts
