/- AsmMany: for any number of line feeds below 5000, Assemble of package asm answers ErrCode and line 4097 just where these are more than 4096 lines, and else no word and no error. Condition: the row's own: the tables of shapes and of names hold what their initialisers lay (tied to the program's text). -/
import Derived.Test.YtnmpamfgkidmiaaDoorRows
import Derived.Test.YtnmpamfgkidmiaaDoorLift
import Derived.Test.YtnmpamfgkidmiaaDoorAsmNY
import Derived.Test.YtnmpamfgkidmiaaDoorAsmLG
import Derived.Test.YtnmpamfgkidmiaaDoorShaped
import Derived.Test.YtnmpamfgkidmiaaDoorInstrN
import Derived.Test.YtnmpamfgkidmiaaDoorInstrB
import Derived.Test.YtnmpamfgkidmiaaDoorTie
import Derived.Test.YtnmpamfgkidmiaaDoorCards
import Derived.SevenTiedAt
import Derived.Lay
namespace Go.Proofs.YtnmpamfgkidmiaaDoor.lawAsmMany
open Go.ChangeShapes Go.WideShapes Go.ChangeAt Go.RowKit
set_option linter.unusedVariables false
theorem walk (w : World) (hS : ShapesIn w) (hN : NamesIn w) (hM : MaxIn w) (a : Int) (wa : (Lit.int .u16 a).wf = true) :
    Calls Tryd.prog 6 #[.int .u16 a] w fun e w' => e = .returned (.bool true) ∧ Below w.heap.size w w' :=
  asmmany_walk w (tab_of hS hN hM) a (bounds_u16 wa).1 (bounds_u16 wa).2

set_option maxRecDepth 100000 in
theorem door_met (os : Os) (args : Array Value) : laidMetH Tryd.prog Rows.asmManyRow.laid ((World.laidAll Tryd.prog os Rows.asmManyRow.laid).forCall (fun _ _ => 0) ⟨#[], args, []⟩).memory :=
  by rw [MakeChecks.laidMetH_plain _ _ _ (by kernel_rfl)]; exact laidMet_laidAll _ (by kernel_rfl) (by kernel_rfl)

set_option maxRecDepth 100000 in
theorem lifted (os : Os) (started : os.Started) (H : Type) (enc : TypeId × Value → H) :
    ReturnsInHanded {} Tryd.checked os 6 .any (fun w args => (Rows.asmManySpec.pre enc Tryd.prog Tryd.f6 [] false w args ∧ laidMetH Tryd.prog Rows.asmManyRow.laid w) ∧ sizedMet enc Tryd.prog Tryd.f6 (OpenSpec.ofChange Rows.asmManySpec) false w args) (Rows.asmManySpec.post enc Tryd.prog Tryd.f6 false true false false) := by
  refine law_shaped (C := Tryd.checked) (X := fun w _ => laidMetH Tryd.prog Rows.asmManyRow.laid w) (fun _ _ _ hh h => h.of_heap hh) Tryd.own started (by kernel_rfl) Tryd.func6
    (ChangeSpec.witness_shaped (enc := enc) (C := Tryd.checked) (os := os) (X := fun w _ => laidMetH Tryd.prog Rows.asmManyRow.laid w) false (World.laidAll Tryd.prog os Rows.asmManyRow.laid) #[.int .u16 0] 8 (World.laidAll_os _ _ _) (World.shaped_of_ZipB (by kernel_rfl) (by kernel_rfl)) (by kernel_rfl) (by kernel_rfl) (by kernel_rfl) (door_met os _)) ?_
  intro W base args ds gs before hval0 hW hL hsh
  have hval : ∀ (j : Nat) t v, Tryd.f6.params[j]? = some t → args[j]? = some v → Value.okWide Tryd.prog W .any base t v := hval0
  have hW' := hW
  obtain ⟨p, q, hA0, hV, rfl, hfz, hnd⟩ := hW
  have hA : DataW.TrodAll enc Tryd.prog W 0 (fun _ => true) true Tryd.f6.params.toList args.toList ds p := hA0
  rw [Tryd.params6] at hA hval
  obtain ⟨v0, vs0, d0, ds0, p0, q0, hargs, rfl, rfl, h0, r0⟩ := trodAll_cons hA
  obtain ⟨rfl, rfl, rfl⟩ := trodAll_nil r0
  obtain rfl : args = #[v0] := by cases args; simp_all
  clear hA0 hval0
  have hT0 := shapes_of_laid hL (by kernel_rfl) (List.mem_cons_of_mem _ List.mem_cons_self)
  have hT1 := names_of_laid hL (by kernel_rfl) (List.mem_cons_of_mem _ (List.mem_cons_of_mem _ List.mem_cons_self))
  have hMX : MaxIn W := cell_of_shapedOpen_int (P := Tryd.prog) (g := 0) (t := 3) (zero := #[.int .i64 0]) hsh (of_decide_eq_true (by kernel_rfl)) (by kernel_rfl) rfl (by kernel_rfl) (by kernel_rfl) Tryd.underlying3
  obtain ⟨a0, rfl, rfl, rfl, w0⟩ := open_int Tryd.underlying42 (hval 0 42 v0 rfl rfl) h0
  refine (walk W hT0 hT1 hMX a0 w0).mono fun e W' ⟨he, hg⟩ => ?_
  subst he
  exact ⟨_, rfl, law_post Tryd.laidOut Tryd.mapsRowed Tryd.slicesFull (by kernel_rfl) rfl (by kernel_rfl) Tryd.underlying4 rfl hW' hg⟩

theorem over : Rows.asmManyRow.holds Tryd.pinned (OpenSpec.ofChange Rows.asmManySpec) :=
  OpenClaim.holds_of_wide 6 Tryd.f6 rfl rfl rfl rfl rfl rfl rfl ⟨rfl, rfl, rfl, rfl, rfl⟩ rfl rfl rfl rfl rfl (by kernel_rfl) Tryd.func6 (by kernel_rfl)
    (of_decide_eq_true (by kernel_rfl)) (by unfold Func.isWrapper; first | (rw [if_pos (by decide +kernel)]; kernel_rfl) | (rw [if_neg (by decide +kernel)]; exact ⟨rfl, rfl⟩))
    (fun os started H enc _ => lifted os started H enc)

theorem proved : Rows.AsmManyCardSaid :=
  Claim7.holds_tied_plain_at .later [] Rows.asmManyCard.laidKinds true Rows.asmManyCard.stood.harness false
    over (fun _ h => by cases h) (by kernel_rfl) (fun _ h => by cases h) asmMany_row_tie rfl ⟨rfl, rfl⟩ (by kernel_rfl) rfl
    (fun f fn hf hfn => by
      obtain rfl : f = 6 := Option.some.inj ((show Tryd.prog.funcNamed Rows.asmManyRow.func = some 6 by kernel_rfl).symm.trans hf) |>.symm
      obtain rfl : fn = Tryd.f6 := (Option.some.inj (Tryd.func6.symm.trans hfn)).symm
      exact ⟨by kernel_rfl, fun j t ht => by
        have hm : t ∈ Tryd.f6.params.toList := by simpa using Array.mem_of_getElem? ht
        have hall : (Tryd.f6.params.toList.all fun u => !Tryd.prog.wantsStandIn u) = true := by kernel_rfl
        exact (show Tryd.prog.wantsStandIn t = false by simpa using List.all_eq_true.1 hall t hm)⟩)
    (by kernel_rfl)
end Go.Proofs.YtnmpamfgkidmiaaDoor.lawAsmMany
