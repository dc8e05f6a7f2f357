/- InstrNames: for any operation and any name, Shape, Name and Op of package instr answer what the document's answers do, and Op leads back from Name. Condition: the row's own: the package's two tables hold what their initialisers lay (tied to the program's text). -/
import Derived.Test.YtkeknjloocnlpaaDoorRows
import Derived.Test.YtkeknjloocnlpaaDoorLift
import Derived.Test.YtkeknjloocnlpaaDoorInstrF
import Derived.Test.YtkeknjloocnlpaaDoorInstrN
import Derived.Test.YtkeknjloocnlpaaDoorTie
import Derived.Test.YtkeknjloocnlpaaDoorCards
import Derived.SevenTiedAt
namespace Go.Proofs.YtkeknjloocnlpaaDoor.lawInstrNames
open Go.ChangeShapes Go.WideShapes Go.ChangeAt Go.RowKit
set_option linter.unusedVariables false

theorem opFrom_spec (s : ByteArray) : ∀ (n k : Nat), opFrom s k n = 0 ∨ ∃ j : Nat, k ≤ j ∧ j < k + n ∧ nameOf j = s ∧ opFrom s k n = j
  | 0, k => .inl rfl
  | n + 1, k => by
    unfold opFrom
    by_cases he : nameOf k = s
    · rw [if_pos he]
      exact .inr ⟨k, Nat.le_refl _, by omega, he, rfl⟩
    · rw [if_neg he]
      rcases opFrom_spec s n (k + 1) with h | ⟨j, h1, h2, h3, h4⟩
      · exact .inl h
      · exact .inr ⟨j, by omega, by omega, h3, h4⟩

/-- What the law's loop has found below k. -/
def wantOf (s : ByteArray) (k : Nat) : Int := if opOf s < k then opOf s else 0

theorem wantOf_one (s : ByteArray) : wantOf s 1 = 0 := by
  unfold wantOf
  rcases opFrom_spec s 34 1 with h | ⟨j, h1, h2, h3, h4⟩
  · have : opOf s = 0 := h
    omega
  · have : opOf s = j := h4
    omega

theorem wantOf_all (s : ByteArray) : wantOf s 35 = opOf s := by
  unfold wantOf
  rcases opFrom_spec s 34 1 with h | ⟨j, h1, h2, h3, h4⟩
  · have : opOf s = 0 := h
    omega
  · have : opOf s = j := h4
    omega

theorem wantOf_hit {s : ByteArray} {k : Nat} (h1 : 1 ≤ k) (h2 : k ≤ 34) (h : nameOf k = s) : wantOf s (k + 1) = k := by
  unfold wantOf
  rw [opOf_at h1 h2 h]
  omega

theorem wantOf_miss {s : ByteArray} {k : Nat} (h1 : 1 ≤ k) (h : nameOf k ≠ s) : wantOf s (k + 1) = wantOf s k := by
  unfold wantOf
  rcases opFrom_spec s 34 1 with h' | ⟨j, g1, g2, g3, g4⟩
  · have : opOf s = 0 := h'
    omega
  · have : opOf s = j := g4
    have : j ≠ k := fun e => h (by rw [← e]; exact g3)
    omega

set_option maxHeartbeats 4000000 in
theorem walk (w : World) (hS : ShapesIn w) (hN : NamesIn w) (op : Int) (wo : (Lit.int .i64 op).wf = true) (s : ByteArray) (ws : s.size ≤ maxLen) :
    Calls Tryd.prog 5 #[.int .i64 op, .string s] w fun e w' => e = .returned (.bool true) ∧ Below w.heap.size w w' := by
  have HN := Lib.hid hN
  have HS := Lib.hid hS
  clear hS hN ws wo
  go_enter Tryd.func5, Tryd.ntmps5
  go_wp2_with fail
  refine (awake02_any _ HS.out).mono ?_
  rintro e w1 ⟨rfl, hb1⟩
  have HN1 := Lib.hid (HN.out.below hb1 (Nat.le_refl _))
  go_wp2_with fail
  refine (shape_any _ _).mono ?_
  rintro e w' ⟨rfl, rfl⟩
  go_wp2_with fail
  refine (refshape_any _ _).mono ?_
  rintro e w' ⟨rfl, rfl⟩
  go_wp2_with fail
  refine (name_any _ _ HN1.out).mono ?_
  rintro e w' ⟨rfl, rfl⟩
  go_wp2_with fail
  refine (refname_any _ _).mono ?_
  rintro e w2 ⟨rfl, hb2⟩
  have HN2 := Lib.hid (HN1.out.below hb2 (Nat.le_refl _))
  have B2 := hb1.trans (hb2.mono hb1.size)
  clear hb1 hb2 HN1
  go_wp2_with fail
  go_loopw [5, 6] (fun v i wr => ∃ k : Nat, 1 ≤ k ∧ k ≤ 35 ∧ i = .int .i64 k ∧ v = .int .i64 (wantOf s k) ∧ Hid (NamesIn wr) ∧ Below w.heap.size w wr) (fun _ i _ => 35 - (intOf i).toNat)
  case atStart => exact ⟨1, by omega, by omega, rfl, by rw [wantOf_one], HN2.out, B2⟩
  case round =>
    obtain ⟨k, hk1, hk2, rfl, rfl, HW, hbr⟩ := hrel
    by_cases hlt : k < 35
    · go_wp2_with fail
      refine (refname_any _ _).mono ?_
      rintro e w3 ⟨rfl, hb3⟩
      have HN3 := Lib.hid (HW.out.below hb3 (Nat.le_refl _))
      have B3 := hbr.trans (hb3.mono hbr.size)
      clear hb3 hbr
      by_cases he : nameOf k = s
      · have HH := Lib.hid (wantOf_hit hk1 (by omega) he)
        rw [he]
        clear he
        go_wp2
        go_roundw
        case rel => exact ⟨k + 1, by omega, by omega, by go_num, by rw [HH.out], HN3.out, B3⟩
        case measure => simp [intOf]; omega
      · have HH := Lib.hid (wantOf_miss hk1 he)
        have hne : ((nameOf (k : Int)).toList == s.toList) = false := bytes_ne he
        generalize nameOf (k : Int) = u at *
        clear he
        go_wp2
        go_roundw
        case rel => exact ⟨k + 1, by omega, by omega, by go_num, by rw [HH.out], HN3.out, B3⟩
        case measure => simp [intOf]; omega
    · obtain rfl : k = 35 := by omega
      rw [wantOf_all]
      go_wp2_with fail
      refine (op_any _ _ HW.out).mono ?_
      rintro e w' ⟨rfl, rfl⟩
      by_cases h1 : op < 1
      · have d1 : decide (op < 1) = true := by simpa using h1
        go_wp2
        go_ret
        exact ⟨rfl, hbr⟩
      · have d1 : decide (op < 1) = false := by simpa using h1
        by_cases h2 : 34 < op
        · have d2 : decide (34 < op) = true := by simpa using h2
          go_wp2
          go_ret
          exact ⟨rfl, hbr⟩
        · have d2 : decide (34 < op) = false := by simpa using h2
          obtain ⟨j, rfl⟩ := Int.eq_ofNat_of_zero_le (show 0 ≤ op by omega)
          have HO := Lib.hid (opOf_at (s := nameOf j) (j := j) (by omega) (by omega) rfl)
          go_wp2_with fail
          refine (name_any _ _ HW.out).mono ?_
          rintro e w' ⟨rfl, rfl⟩
          go_wp2_with fail
          refine (op_any _ _ HW.out).mono ?_
          rintro e w' ⟨rfl, rfl⟩
          rw [HO.out]
          go_wp2
          go_ret
          exact ⟨rfl, hbr⟩

set_option maxRecDepth 100000 in
theorem door_met (os : Os) (args : Array Value) : laidMetH Tryd.prog Rows.instrNamesRow.laid ((World.doorLaid Tryd.prog 400 os).forCall (fun _ _ => 0) ⟨#[], args, []⟩).memory :=
  laidMetH_of_parts3 (fuel := 8) (laidMet_of_run' 8 (by kernel_rfl) (by kernel_rfl)) (by kernel_rfl) (by kernel_rfl)

set_option maxRecDepth 100000 in
theorem lifted (os : Os) (started : os.Started) (H : Type) (enc : TypeId × Value → H) :
    ReturnsInHanded {} Tryd.checked os 5 .any (fun w args => (Rows.instrNamesSpec.pre enc Tryd.prog Tryd.f5 [] false w args ∧ laidMetH Tryd.prog Rows.instrNamesRow.laid w) ∧ sizedMet enc Tryd.prog Tryd.f5 (OpenSpec.ofChange Rows.instrNamesSpec) false w args) (Rows.instrNamesSpec.post enc Tryd.prog Tryd.f5 false true false false) := by
  refine returnsInHanded_of_change_and (C := Tryd.checked) (X := fun w _ => laidMetH Tryd.prog Rows.instrNamesRow.laid w) (fun _ _ _ hh h => h.of_heap hh) Tryd.own started (by kernel_rfl) Tryd.func5
    (ChangeSpec.witness_shaped (enc := enc) (C := Tryd.checked) (os := os) (X := fun w _ => laidMetH Tryd.prog Rows.instrNamesRow.laid w) false (World.doorLaid Tryd.prog 400 os) #[.int .i64 0, .string ⟨#[]⟩] 8 rfl (World.shaped_of_RefB (by kernel_rfl) (by kernel_rfl)) (by kernel_rfl) (by kernel_rfl) (by kernel_rfl) (door_met os _)) ?_
  intro W base args ds gs before hval0 hW _ _ hL _
  have hval : ∀ (j : Nat) t v, Tryd.f5.params[j]? = some t → args[j]? = some v → Value.okWide Tryd.prog W .any base t v := hval0
  have hW' := hW
  obtain ⟨p, q, hA0, hV, rfl, hfz, hnd⟩ := hW
  have hA : DataW.TrodAll enc Tryd.prog W 0 (fun _ => true) true Tryd.f5.params.toList args.toList ds p := hA0
  rw [Tryd.params5] at hA hval
  obtain ⟨v0, vs0, d0, ds0, p0, q0, hargs, rfl, rfl, h0, r0⟩ := trodAll_cons hA
  obtain ⟨v1, vs1, d1, ds1, p1, q1, rfl, rfl, rfl, h1, r1⟩ := trodAll_cons r0
  obtain ⟨rfl, rfl, rfl⟩ := trodAll_nil r1
  obtain rfl : args = #[v0, v1] := by cases args; simp_all
  clear hA0 hval0
  have hT0 := shapes_of_laid hL (by kernel_rfl) List.mem_cons_self
  have hT1 := names_of_laid hL (by kernel_rfl) (List.mem_cons_of_mem _ List.mem_cons_self)
  obtain ⟨a0, rfl, rfl, rfl, w0⟩ := open_int Tryd.underlying3 (hval 0 3 v0 rfl rfl) h0
  obtain ⟨s1, rfl, rfl, rfl, w1⟩ := Go.ChangeMaps.open_string Tryd.underlying9 (hval 1 9 v1 rfl rfl) h1
  refine (walk W hT0 hT1 a0 w0 s1 w1).mono fun e W' ⟨he, hg⟩ => ?_
  subst he
  exact ⟨_, rfl, law_post Tryd.laidOut Tryd.mapsRowed Tryd.slicesFull (by kernel_rfl) rfl (by kernel_rfl) Tryd.underlying4 rfl hW' hg⟩

theorem over : Rows.instrNamesRow.holds Tryd.pinned (OpenSpec.ofChange Rows.instrNamesSpec) :=
  OpenClaim.holds_of_wide 5 Tryd.f5 rfl rfl rfl rfl rfl rfl rfl ⟨rfl, rfl, rfl, rfl, rfl⟩ rfl rfl rfl rfl rfl (by kernel_rfl) Tryd.func5 (by kernel_rfl)
    (of_decide_eq_true (by kernel_rfl)) (by unfold Func.isWrapper; first | (rw [if_pos (by decide +kernel)]; kernel_rfl) | (rw [if_neg (by decide +kernel)]; exact ⟨rfl, rfl⟩))
    (fun os started H enc _ => lifted os started H enc)

theorem proved : Rows.InstrNamesCardSaid :=
  Claim7.holds_tied_plain_at .later [] Rows.instrNamesCard.laidKinds true Rows.instrNamesCard.stood.harness false
    over (fun _ h => by cases h) (by kernel_rfl) (fun _ h => by cases h) instrNames_row_tie rfl ⟨rfl, rfl⟩ (by kernel_rfl) rfl
    (fun f fn hf hfn => by
      obtain rfl : f = 5 := Option.some.inj ((show Tryd.prog.funcNamed Rows.instrNamesRow.func = some 5 by kernel_rfl).symm.trans hf) |>.symm
      obtain rfl : fn = Tryd.f5 := (Option.some.inj (Tryd.func5.symm.trans hfn)).symm
      exact ⟨by kernel_rfl, fun j t ht => by
        have hm : t ∈ Tryd.f5.params.toList := by simpa using Array.mem_of_getElem? ht
        have hall : (Tryd.f5.params.toList.all fun u => !Tryd.prog.wantsStandIn u) = true := by kernel_rfl
        exact (show Tryd.prog.wantsStandIn t = false by simpa using List.all_eq_true.1 hall t hm)⟩)
    (by kernel_rfl)
end Go.Proofs.YtkeknjloocnlpaaDoor.lawInstrNames
