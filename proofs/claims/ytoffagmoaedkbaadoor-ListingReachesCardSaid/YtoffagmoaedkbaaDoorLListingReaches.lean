/- ListingReaches: for any list of up to 60 words and any list of up to 60 starts, Reached of package listing marks just those words that the document's rounds mark. Condition: the row's own: the tables of shapes and of names hold what their initialisers lay (tied to the program's text). -/
import Derived.Test.YtoffagmoaedkbaaDoorRows
import Derived.Test.YtoffagmoaedkbaaDoorLift
import Derived.Test.YtoffagmoaedkbaaDoorLisRW
import Derived.Test.YtoffagmoaedkbaaDoorLisAD
import Derived.Test.YtoffagmoaedkbaaDoorInstrN
import Derived.Test.YtoffagmoaedkbaaDoorNil
import Derived.Test.YtoffagmoaedkbaaDoorTie
import Derived.Test.YtoffagmoaedkbaaDoorCards
import Derived.SevenTiedAt
namespace Go.Proofs.YtoffagmoaedkbaaDoor.lawListingReaches
open Go.ChangeShapes Go.WideShapes Go.ChangeAt Go.RowKit
set_option linter.unusedVariables false
set_option maxHeartbeats 8000000 in
set_option maxRecDepth 100000 in
theorem walk (w : World) (hS : ShapesIn w) (hN : NamesIn w) (A : Option Addr) (n c : Nat) (zs : List Int) (hz : Nums .u32 w A n zs) (hm : n ≤ maxLen) (wz : ∀ z ∈ zs, (Lit.int .u32 z).wf = true) (A2 : Option Addr) (nf cf : Nat) (fr : List Int) (hf : Nums .i64 w A2 nf fr) (hmf : nf ≤ maxLen) (wf : ∀ z ∈ fr, (Lit.int .i64 z).wf = true) (hA2 : A2 = none → nf = 0 ∧ cf = 0) :
    Calls Tryd.prog 9 #[.slice A n c, .slice A2 nf cf] w fun e w' => e = .returned (.bool true) ∧ Below w.heap.size w w' := by
  have HS := Lib.hid hS
  have HN := Lib.hid hN
  unfold maxLen at hm hmf
  by_cases h1 : n ≤ 60
  case neg =>
    have d : decide ((60 : Int) < n) = true := decide_eq_true (by omega)
    clear hS hN hz hf wz wf hA2
    go_enter Tryd.func9, Tryd.ntmps9
    go_wp2_with fail
    refine (awake06_any _ HS.out HN.out).mono ?_
    rintro e w1 ⟨rfl, hb1⟩
    have B1 := Lib.hid hb1
    clear hb1
    go_wp2_with fail
    go_ret
    exact ⟨rfl, B1.out⟩
  have d : decide ((60 : Int) < n) = false := decide_eq_false (by omega)
  by_cases h2 : nf ≤ 60
  case neg =>
    have d' : decide ((60 : Int) < nf) = true := decide_eq_true (by omega)
    clear hS hN hz hf wz wf hA2
    go_enter Tryd.func9, Tryd.ntmps9
    go_wp2_with fail
    refine (awake06_any _ HS.out HN.out).mono ?_
    rintro e w1 ⟨rfl, hb1⟩
    have B1 := Lib.hid hb1
    clear hb1
    go_wp2_with fail
    go_ret
    exact ⟨rfl, B1.out⟩
  have d' : decide ((60 : Int) < nf) = false := decide_eq_false (by omega)
  have HU := Lib.hid (u32_of_wf wz)
  have HZ := Lib.hid hz
  have HF := Lib.hid hf
  have RG := Lib.hid (fun w' hs hz' hf' => reached_any A A2 n c nf cf zs fr w' hs hA2 hz' hf' h1 h2 HU.out)
  have RR := Lib.hid (fun w' hz' hf' => refreached_any A A2 n c nf cf zs fr w' hz' hf' h1 h2 HU.out)
  have SL := Lib.hid (reach_len (nxt zs) n fr)
  unfold RPost at RG RR
  clear hS hN hz hf wz wf hA2
  generalize sweeps (nxt zs) n n (fr.foldl markAt (List.replicate n false)) = S at *
  go_enter Tryd.func9, Tryd.ntmps9
  go_wp2_with fail
  refine (awake06_any _ HS.out HN.out).mono ?_
  rintro e w1 ⟨rfl, hb1⟩
  have B1 := Lib.hid hb1
  clear hb1
  go_wp2_with fail
  refine (RG.out _ (HS.out.below B1.out (Nat.le_refl _)) (HZ.out.below B1.out) (HF.out.below B1.out)).mono ?_
  rintro e w2 ⟨g1, rfl, hk1, hg1, hb2⟩
  have B2 := Lib.hid (B1.out.trans (hb2.mono B1.out.size))
  have K2 := Lib.hid hk1
  clear hb2 hk1 B1
  go_wp2_with fail
  refine (RR.out _ (HZ.out.below B2.out) (HF.out.below B2.out)).mono ?_
  rintro e w3 ⟨g2, rfl, hk2, hg2, hb3⟩
  have B3 := Lib.hid (B2.out.trans (hb3.mono B2.out.size))
  have K3 := Lib.hid (K2.out.below hb3 K2.out.lt)
  have L3 := Lib.hid hk2
  clear hb3 hk2 B2 K2 RG RR HS HN HZ HF HU hg1 hg2
  go_wp2_with fail
  go_loopw [7] (fun i wr => ∃ t q : Nat, t ≤ n ∧ i = .int .i64 t ∧ wr = w3.drewN q) (fun i _ => n - (intOf i).toNat)
  case atStart => exact ⟨0, 0, Nat.zero_le _, rfl, rfl⟩
  case round =>
    obtain ⟨t, q, ht, rfl, rfl⟩ := hrel
    by_cases hlt : t < n
    · have hI : (t : Int) < n := by omega
      have u0 : w3.cell? ⟨g1, t, none⟩ = some (.bool (S.getD t false)) := (K3.out.cell t).trans (marks_get (by rw [SL.out]; exact hlt))
      have v0 : w3.cell? ⟨g2, t, none⟩ = some (.bool (S.getD t false)) := (L3.out.cell t).trans (marks_get (by rw [SL.out]; exact hlt))
      generalize S.getD t false = b at *
      have hbb : (b != b) = false := by simp
      go_wp2_with fail
      go_quiet (fail)
      go_wp2_with fail
      go_roundw
      case rel => exact ⟨t + 1, _, by omega, by go_num, rfl⟩
      case measure => simp [intOf]; omega
    · have hI : ¬ (t : Int) < n := by omega
      go_wp2_with fail
      go_ret
      exact ⟨rfl, below_drawn B3.out q⟩

set_option maxRecDepth 100000 in
theorem door_met (os : Os) (args : Array Value) : laidMetH Tryd.prog Rows.listingReachesRow.laid ((World.doorLaid Tryd.prog 400 os).forCall (fun _ _ => 0) ⟨#[], args, []⟩).memory :=
  laidMetH_of_parts3 (fuel := 8) (laidMet_of_run' 8 (by kernel_rfl) (by kernel_rfl)) (by kernel_rfl) (by kernel_rfl)

set_option maxRecDepth 100000 in
theorem lifted (os : Os) (started : os.Started) (H : Type) (enc : TypeId × Value → H) :
    ReturnsInHanded {} Tryd.checked os 9 .any (fun w args => (Rows.listingReachesSpec.pre enc Tryd.prog Tryd.f9 [] false w args ∧ laidMetH Tryd.prog Rows.listingReachesRow.laid w) ∧ sizedMet enc Tryd.prog Tryd.f9 (OpenSpec.ofChange Rows.listingReachesSpec) false w args) (Rows.listingReachesSpec.post enc Tryd.prog Tryd.f9 false true false false) := by
  refine returnsInHanded_of_change_and (C := Tryd.checked) (X := fun w _ => laidMetH Tryd.prog Rows.listingReachesRow.laid w) (fun _ _ _ hh h => h.of_heap hh) Tryd.own started (by kernel_rfl) Tryd.func9
    (ChangeSpec.witness_shaped (enc := enc) (C := Tryd.checked) (os := os) (X := fun w _ => laidMetH Tryd.prog Rows.listingReachesRow.laid w) false (World.doorLaid Tryd.prog 400 os) #[.slice none 0 0, .slice none 0 0] 8 rfl (World.shaped_of_RefB (by kernel_rfl) (by kernel_rfl)) (by kernel_rfl) (by kernel_rfl) (by kernel_rfl) (door_met os _)) ?_
  intro W base args ds gs before hval0 hW _ _ hL _
  have hval : ∀ (j : Nat) t v, Tryd.f9.params[j]? = some t → args[j]? = some v → Value.okWide Tryd.prog W .any base t v := hval0
  have hW' := hW
  obtain ⟨p, q, hA0, hV, rfl, hfz, hnd⟩ := hW
  have hA : DataW.TrodAll enc Tryd.prog W 0 (fun _ => true) true Tryd.f9.params.toList args.toList ds p := hA0
  rw [Tryd.params9] at hA hval
  obtain ⟨v0, vs0, d0, ds0, p0, q0, hargs, rfl, rfl, h0, r0⟩ := trodAll_cons hA
  obtain ⟨v1, vs1, d1, ds1, p1, q1, rfl, rfl, rfl, h1, r1⟩ := trodAll_cons r0
  obtain ⟨rfl, rfl, rfl⟩ := trodAll_nil r1
  obtain rfl : args = #[v0, v1] := by cases args; simp_all
  clear hA0 hval0
  have hT0 := shapes_of_laid hL (by kernel_rfl) List.mem_cons_self
  have hT1 := names_of_laid hL (by kernel_rfl) (List.mem_cons_of_mem _ List.mem_cons_self)
  obtain ⟨A0, n0, c0, zs0, rfl, hz0, hm0, w0⟩ := open_nums Tryd.underlying23 Tryd.underlying45 (by kernel_rfl) (hval 0 23 v0 rfl rfl) h0
  obtain ⟨A1, n1, c1, zs1, rfl, hz1, hm1, w1, hN1⟩ := open_nums_nil Tryd.underlying54 Tryd.underlying3 (by kernel_rfl) (hval 1 54 v1 rfl rfl) h1
  refine (walk W hT0 hT1 A0 n0 c0 zs0 hz0 hm0 w0 A1 n1 c1 zs1 hz1 hm1 w1 hN1).mono fun e W' ⟨he, hg⟩ => ?_
  subst he
  exact ⟨_, rfl, law_post Tryd.laidOut Tryd.mapsRowed Tryd.slicesFull (by kernel_rfl) rfl (by kernel_rfl) Tryd.underlying4 rfl hW' hg⟩

theorem over : Rows.listingReachesRow.holds Tryd.pinned (OpenSpec.ofChange Rows.listingReachesSpec) :=
  OpenClaim.holds_of_wide 9 Tryd.f9 rfl rfl rfl rfl rfl rfl rfl ⟨rfl, rfl, rfl, rfl, rfl⟩ rfl rfl rfl rfl rfl (by kernel_rfl) Tryd.func9 (by kernel_rfl)
    (of_decide_eq_true (by kernel_rfl)) (by unfold Func.isWrapper; first | (rw [if_pos (by decide +kernel)]; kernel_rfl) | (rw [if_neg (by decide +kernel)]; exact ⟨rfl, rfl⟩))
    (fun os started H enc _ => lifted os started H enc)

theorem proved : Rows.ListingReachesCardSaid :=
  Claim7.holds_tied_plain_at .later [] Rows.listingReachesCard.laidKinds true Rows.listingReachesCard.stood.harness false
    over (fun _ h => by cases h) (by kernel_rfl) (fun _ h => by cases h) listingReaches_row_tie rfl ⟨rfl, rfl⟩ (by kernel_rfl) rfl
    (fun f fn hf hfn => by
      obtain rfl : f = 9 := Option.some.inj ((show Tryd.prog.funcNamed Rows.listingReachesRow.func = some 9 by kernel_rfl).symm.trans hf) |>.symm
      obtain rfl : fn = Tryd.f9 := (Option.some.inj (Tryd.func9.symm.trans hfn)).symm
      exact ⟨by kernel_rfl, fun j t ht => by
        have hm : t ∈ Tryd.f9.params.toList := by simpa using Array.mem_of_getElem? ht
        have hall : (Tryd.f9.params.toList.all fun u => !Tryd.prog.wantsStandIn u) = true := by kernel_rfl
        exact (show Tryd.prog.wantsStandIn t = false by simpa using List.all_eq_true.1 hall t hm)⟩)
    (by kernel_rfl)
end Go.Proofs.YtoffagmoaedkbaaDoor.lawListingReaches
