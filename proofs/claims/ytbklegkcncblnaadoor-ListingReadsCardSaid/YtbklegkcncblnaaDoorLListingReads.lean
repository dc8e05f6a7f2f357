/- ListingReads: for any text of up to 10000 bytes, Read of package listing answers the address and the words that the document's reading gives, or the number of the first line that is wrong and its error. Condition: the row's own: the tables of shapes and of names hold what their initialisers lay (tied to the program's text). -/
import Derived.Test.YtbklegkcncblnaaDoorRows
import Derived.Test.YtbklegkcncblnaaDoorLift
import Derived.Test.YtbklegkcncblnaaDoorLisGI
import Derived.Test.YtbklegkcncblnaaDoorLisAD
import Derived.Test.YtbklegkcncblnaaDoorShaped
import Derived.Test.YtbklegkcncblnaaDoorInstrN
import Derived.Test.YtbklegkcncblnaaDoorTie
import Derived.Test.YtbklegkcncblnaaDoorCards
import Derived.SevenTiedAt
namespace Go.Proofs.YtbklegkcncblnaaDoor.lawListingReads
open Go.ChangeShapes Go.WideShapes Go.ChangeAt Go.RowKit
set_option linter.unusedVariables false
set_option maxHeartbeats 8000000 in
set_option maxRecDepth 100000 in
theorem walk (w : World) (hS : ShapesIn w) (hN : NamesIn w) (hM : MaxIn w) (s : ByteArray) (hm : s.size ≤ maxLen) :
    Calls Tryd.prog 10 #[.string s] w fun e w' => e = .returned (.bool true) ∧ Below w.heap.size w w' := by
  have HS := Lib.hid hS
  have HN := Lib.hid hN
  have HM := Lib.hid hM
  unfold maxLen at hm
  by_cases hs : s.size ≤ 10000
  case neg =>
    have d : decide ((10000 : Int) < s.size) = true := decide_eq_true (by omega)
    clear hS hN hM
    go_enter Tryd.func10, Tryd.ntmps10
    go_wp2_with fail
    refine (awake06_any _ HS.out HN.out).mono ?_
    rintro e w1 ⟨rfl, hb1⟩
    have B1 := Lib.hid hb1
    clear hb1
    go_wp2_with fail
    go_ret
    exact ⟨rfl, B1.out⟩
  have d : decide ((10000 : Int) < s.size) = false := decide_eq_false (by omega)
  have RD := Lib.hid (fun w h1 h2 h3 => read_any s w h1 h2 h3 (by omega))
  have RR := Lib.hid (fun w => refread_any s w (by omega))
  have LN := Lib.hid (readFrom_len (s.size + 1) s [] 0)
  clear hS hN hM
  generalize readFrom (s.size + 1) s [] 0 = R at *
  unfold ReadPost at RD RR
  generalize (if R.1.isSome = true then (0 : Int) else 22) = er at RD RR
  generalize hln : R.2 = ln at RD RR
  clear hln
  go_enter Tryd.func10, Tryd.ntmps10
  go_wp2_with fail
  refine (awake06_any _ HS.out HN.out).mono ?_
  rintro e w1 ⟨rfl, hb1⟩
  have B1 := Lib.hid hb1
  clear hb1
  go_wp2_with fail
  refine (RD.out _ (HS.out.below B1.out (Nat.le_refl _)) (HN.out.below B1.out (Nat.le_refl _)) (HM.out.below B1.out (Nat.le_refl _))).mono ?_
  rintro e w2 ⟨f, v, zs, rfl, hr, ho, hb2⟩
  have B2 := Lib.hid (B1.out.trans (hb2.mono B1.out.size))
  have O2 := Lib.hid ho
  have R2 := Lib.hid hr
  clear hb2 ho hr
  go_wp2_with fail
  refine (RR.out _).mono ?_
  rintro e w3 ⟨f', v', zs', rfl, hr, ho, hb3⟩
  obtain ⟨rfl, rfl⟩ := read_same R2.out hr
  have B3 := Lib.hid (B2.out.trans (hb3.mono B2.out.size))
  have O3 := Lib.hid (O2.out.below hb3)
  obtain ⟨A1, c1, rfl, hz1⟩ := O3.out.form
  obtain ⟨A2, c2, rfl, hz2⟩ := ho.form
  have LZ : zs.length ≤ 1000000 := by
    rcases R2.out with h | ⟨_, _, h⟩
    · have := LN.out _ _ h
      simp at this
      omega
    · rw [h]
      decide
  have WS := Lib.hid (words_same A1 A2 zs.length c1 c2 zs w3 hz1 hz2 LZ)
  clear hb3 ho hr hz1 hz2 O2 O3 R2 LN
  go_wp2_with fail
  refine WS.out.mono ?_
  rintro e w4 ⟨rfl, hb4⟩
  have B4 := Lib.hid (B3.out.trans (hb4.mono B3.out.size))
  clear hb4
  go_wp2_with fail
  go_ret
  exact ⟨rfl, B4.out⟩

set_option maxRecDepth 100000 in
theorem door_met (os : Os) (args : Array Value) : laidMetH Tryd.prog Rows.listingReadsRow.laid ((World.doorLaid Tryd.prog 400 os).forCall (fun _ _ => 0) ⟨#[], args, []⟩).memory :=
  laidMetH_of_parts3 (fuel := 8) (laidMet_of_run' 8 (by kernel_rfl) (by kernel_rfl)) (by kernel_rfl) (by kernel_rfl)

set_option maxRecDepth 100000 in
theorem lifted (os : Os) (started : os.Started) (H : Type) (enc : TypeId × Value → H) :
    ReturnsInHanded {} Tryd.checked os 10 .any (fun w args => (Rows.listingReadsSpec.pre enc Tryd.prog Tryd.f10 [] false w args ∧ laidMetH Tryd.prog Rows.listingReadsRow.laid w) ∧ sizedMet enc Tryd.prog Tryd.f10 (OpenSpec.ofChange Rows.listingReadsSpec) false w args) (Rows.listingReadsSpec.post enc Tryd.prog Tryd.f10 false true false false) := by
  refine law_shaped (C := Tryd.checked) (X := fun w _ => laidMetH Tryd.prog Rows.listingReadsRow.laid w) (fun _ _ _ hh h => h.of_heap hh) Tryd.own started (by kernel_rfl) Tryd.func10
    (ChangeSpec.witness_shaped (enc := enc) (C := Tryd.checked) (os := os) (X := fun w _ => laidMetH Tryd.prog Rows.listingReadsRow.laid w) false (World.doorLaid Tryd.prog 400 os) #[.string ⟨#[]⟩] 8 rfl (World.shaped_of_RefB (by kernel_rfl) (by kernel_rfl)) (by kernel_rfl) (by kernel_rfl) (by kernel_rfl) (door_met os _)) ?_
  intro W base args ds gs before hval0 hW hL hsh
  have hval : ∀ (j : Nat) t v, Tryd.f10.params[j]? = some t → args[j]? = some v → Value.okWide Tryd.prog W .any base t v := hval0
  have hW' := hW
  obtain ⟨p, q, hA0, hV, rfl, hfz, hnd⟩ := hW
  have hA : DataW.TrodAll enc Tryd.prog W 0 (fun _ => true) true Tryd.f10.params.toList args.toList ds p := hA0
  rw [Tryd.params10] at hA hval
  obtain ⟨v0, vs0, d0, ds0, p0, q0, hargs, rfl, rfl, h0, r0⟩ := trodAll_cons hA
  obtain ⟨rfl, rfl, rfl⟩ := trodAll_nil r0
  obtain rfl : args = #[v0] := by cases args; simp_all
  clear hA0 hval0
  have hT0 := shapes_of_laid hL (by kernel_rfl) List.mem_cons_self
  have hT1 := names_of_laid hL (by kernel_rfl) (List.mem_cons_of_mem _ List.mem_cons_self)
  have hMX : MaxIn W := cell_of_shapedOpen_int (P := Tryd.prog) (g := 0) (t := 3) (zero := #[.int .i64 0]) hsh (of_decide_eq_true (by kernel_rfl)) (by kernel_rfl) rfl (by kernel_rfl) (by kernel_rfl) Tryd.underlying3
  obtain ⟨s0, rfl, rfl, rfl, w0⟩ := Go.ChangeMaps.open_string Tryd.underlying9 (hval 0 9 v0 rfl rfl) h0
  refine (walk W hT0 hT1 hMX s0 w0).mono fun e W' ⟨he, hg⟩ => ?_
  subst he
  exact ⟨_, rfl, law_post Tryd.laidOut Tryd.mapsRowed Tryd.slicesFull (by kernel_rfl) rfl (by kernel_rfl) Tryd.underlying4 rfl hW' hg⟩

theorem over : Rows.listingReadsRow.holds Tryd.pinned (OpenSpec.ofChange Rows.listingReadsSpec) :=
  OpenClaim.holds_of_wide 10 Tryd.f10 rfl rfl rfl rfl rfl rfl rfl ⟨rfl, rfl, rfl, rfl, rfl⟩ rfl rfl rfl rfl rfl (by kernel_rfl) Tryd.func10 (by kernel_rfl)
    (of_decide_eq_true (by kernel_rfl)) (by unfold Func.isWrapper; first | (rw [if_pos (by decide +kernel)]; kernel_rfl) | (rw [if_neg (by decide +kernel)]; exact ⟨rfl, rfl⟩))
    (fun os started H enc _ => lifted os started H enc)

theorem proved : Rows.ListingReadsCardSaid :=
  Claim7.holds_tied_plain_at .later [] Rows.listingReadsCard.laidKinds true Rows.listingReadsCard.stood.harness false
    over (fun _ h => by cases h) (by kernel_rfl) (fun _ h => by cases h) listingReads_row_tie rfl ⟨rfl, rfl⟩ (by kernel_rfl) rfl
    (fun f fn hf hfn => by
      obtain rfl : f = 10 := Option.some.inj ((show Tryd.prog.funcNamed Rows.listingReadsRow.func = some 10 by kernel_rfl).symm.trans hf) |>.symm
      obtain rfl : fn = Tryd.f10 := (Option.some.inj (Tryd.func10.symm.trans hfn)).symm
      exact ⟨by kernel_rfl, fun j t ht => by
        have hm : t ∈ Tryd.f10.params.toList := by simpa using Array.mem_of_getElem? ht
        have hall : (Tryd.f10.params.toList.all fun u => !Tryd.prog.wantsStandIn u) = true := by kernel_rfl
        exact (show Tryd.prog.wantsStandIn t = false by simpa using List.all_eq_true.1 hall t hm)⟩)
    (by kernel_rfl)
end Go.Proofs.YtbklegkcncblnaaDoor.lawListingReads
