/- ListingPrints: for any address and any list of up to 500 words, Print of package listing answers the text that the document's Print gives, the lines that Lines yields are that text line by line, and Read of it answers the words again, and the address (0 where there is no word). Condition: the row's own: the tables of shapes and of names hold what their initialisers lay (tied to the program's text). -/
import Derived.Test.YtoffagmoaedkbaaDoorRows
import Derived.Test.YtoffagmoaedkbaaDoorLift
import Derived.Test.YtoffagmoaedkbaaDoorLisKP
import Derived.Test.YtoffagmoaedkbaaDoorLisAD
import Derived.Test.YtoffagmoaedkbaaDoorShaped
import Derived.Test.YtoffagmoaedkbaaDoorInstrN
import Derived.Test.YtoffagmoaedkbaaDoorNil
import Derived.Test.YtoffagmoaedkbaaDoorTie
import Derived.Test.YtoffagmoaedkbaaDoorCards
import Derived.SevenTiedAt
namespace Go.Proofs.YtoffagmoaedkbaaDoor.lawListingPrints
open Go.ChangeShapes Go.WideShapes Go.ChangeAt Go.RowKit
set_option linter.unusedVariables false
theorem walk (w : World) (hS : ShapesIn w) (hN : NamesIn w) (hM : MaxIn w) (at_ : Int) (wa : (Lit.int .u32 at_).wf = true) (A : Option Addr) (n c : Nat) (zs : List Int) (hz : Nums .u32 w A n zs) (hm : n ≤ maxLen) (wz : ∀ z ∈ zs, (Lit.int .u32 z).wf = true) (hA : A = none → n = 0 ∧ c = 0) :
    Calls Tryd.prog 8 #[.int .u32 at_, .slice A n c] w fun e w' => e = .returned (.bool true) ∧ Below w.heap.size w w' :=
  prints_walk w hS hN hM at_ wa A n c zs hz hm wz hA

set_option maxRecDepth 100000 in
theorem door_met (os : Os) (args : Array Value) : laidMetH Tryd.prog Rows.listingPrintsRow.laid ((World.doorLaid Tryd.prog 400 os).forCall (fun _ _ => 0) ⟨#[], args, []⟩).memory :=
  laidMetH_of_parts3 (fuel := 8) (laidMet_of_run' 8 (by kernel_rfl) (by kernel_rfl)) (by kernel_rfl) (by kernel_rfl)

set_option maxRecDepth 100000 in
theorem lifted (os : Os) (started : os.Started) (H : Type) (enc : TypeId × Value → H) :
    ReturnsInHanded {} Tryd.checked os 8 .any (fun w args => (Rows.listingPrintsSpec.pre enc Tryd.prog Tryd.f8 [] false w args ∧ laidMetH Tryd.prog Rows.listingPrintsRow.laid w) ∧ sizedMet enc Tryd.prog Tryd.f8 (OpenSpec.ofChange Rows.listingPrintsSpec) false w args) (Rows.listingPrintsSpec.post enc Tryd.prog Tryd.f8 false true false false) := by
  refine law_shaped (C := Tryd.checked) (X := fun w _ => laidMetH Tryd.prog Rows.listingPrintsRow.laid w) (fun _ _ _ hh h => h.of_heap hh) Tryd.own started (by kernel_rfl) Tryd.func8
    (ChangeSpec.witness_shaped (enc := enc) (C := Tryd.checked) (os := os) (X := fun w _ => laidMetH Tryd.prog Rows.listingPrintsRow.laid w) false (World.doorLaid Tryd.prog 400 os) #[.int .u32 0, .slice none 0 0] 8 rfl (World.shaped_of_RefB (by kernel_rfl) (by kernel_rfl)) (by kernel_rfl) (by kernel_rfl) (by kernel_rfl) (door_met os _)) ?_
  intro W base args ds gs before hval0 hW hL hsh
  have hval : ∀ (j : Nat) t v, Tryd.f8.params[j]? = some t → args[j]? = some v → Value.okWide Tryd.prog W .any base t v := hval0
  have hW' := hW
  obtain ⟨p, q, hA0, hV, rfl, hfz, hnd⟩ := hW
  have hA : DataW.TrodAll enc Tryd.prog W 0 (fun _ => true) true Tryd.f8.params.toList args.toList ds p := hA0
  rw [Tryd.params8] at hA hval
  obtain ⟨v0, vs0, d0, ds0, p0, q0, hargs, rfl, rfl, h0, r0⟩ := trodAll_cons hA
  obtain ⟨v1, vs1, d1, ds1, p1, q1, rfl, rfl, rfl, h1, r1⟩ := trodAll_cons r0
  obtain ⟨rfl, rfl, rfl⟩ := trodAll_nil r1
  obtain rfl : args = #[v0, v1] := by cases args; simp_all
  clear hA0 hval0
  have hT0 := shapes_of_laid hL (by kernel_rfl) List.mem_cons_self
  have hT1 := names_of_laid hL (by kernel_rfl) (List.mem_cons_of_mem _ List.mem_cons_self)
  have hMX : MaxIn W := cell_of_shapedOpen_int (P := Tryd.prog) (g := 0) (t := 3) (zero := #[.int .i64 0]) hsh (of_decide_eq_true (by kernel_rfl)) (by kernel_rfl) rfl (by kernel_rfl) (by kernel_rfl) Tryd.underlying3
  obtain ⟨a0, rfl, rfl, rfl, w0⟩ := open_int Tryd.underlying45 (hval 0 45 v0 rfl rfl) h0
  obtain ⟨A1, n1, c1, zs1, rfl, hz1, hm1, w1, hN1⟩ := open_nums_nil Tryd.underlying23 Tryd.underlying45 (by kernel_rfl) (hval 1 23 v1 rfl rfl) h1
  refine (walk W hT0 hT1 hMX a0 w0 A1 n1 c1 zs1 hz1 hm1 w1 hN1).mono fun e W' ⟨he, hg⟩ => ?_
  subst he
  exact ⟨_, rfl, law_post Tryd.laidOut Tryd.mapsRowed Tryd.slicesFull (by kernel_rfl) rfl (by kernel_rfl) Tryd.underlying4 rfl hW' hg⟩

theorem over : Rows.listingPrintsRow.holds Tryd.pinned (OpenSpec.ofChange Rows.listingPrintsSpec) :=
  OpenClaim.holds_of_wide 8 Tryd.f8 rfl rfl rfl rfl rfl rfl rfl ⟨rfl, rfl, rfl, rfl, rfl⟩ rfl rfl rfl rfl rfl (by kernel_rfl) Tryd.func8 (by kernel_rfl)
    (of_decide_eq_true (by kernel_rfl)) (by unfold Func.isWrapper; first | (rw [if_pos (by decide +kernel)]; kernel_rfl) | (rw [if_neg (by decide +kernel)]; exact ⟨rfl, rfl⟩))
    (fun os started H enc _ => lifted os started H enc)

theorem proved : Rows.ListingPrintsCardSaid :=
  Claim7.holds_tied_plain_at .later [] Rows.listingPrintsCard.laidKinds true Rows.listingPrintsCard.stood.harness false
    over (fun _ h => by cases h) (by kernel_rfl) (fun _ h => by cases h) listingPrints_row_tie rfl ⟨rfl, rfl⟩ (by kernel_rfl) rfl
    (fun f fn hf hfn => by
      obtain rfl : f = 8 := Option.some.inj ((show Tryd.prog.funcNamed Rows.listingPrintsRow.func = some 8 by kernel_rfl).symm.trans hf) |>.symm
      obtain rfl : fn = Tryd.f8 := (Option.some.inj (Tryd.func8.symm.trans hfn)).symm
      exact ⟨by kernel_rfl, fun j t ht => by
        have hm : t ∈ Tryd.f8.params.toList := by simpa using Array.mem_of_getElem? ht
        have hall : (Tryd.f8.params.toList.all fun u => !Tryd.prog.wantsStandIn u) = true := by kernel_rfl
        exact (show Tryd.prog.wantsStandIn t = false by simpa using List.all_eq_true.1 hall t hm)⟩)
    (by kernel_rfl)
end Go.Proofs.YtoffagmoaedkbaaDoor.lawListingPrints
