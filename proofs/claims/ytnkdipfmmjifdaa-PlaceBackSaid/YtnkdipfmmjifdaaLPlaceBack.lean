/- PlaceBack: for any text of up to 1000 bytes, each place of it (and the one behind its last byte) is found again by Offset of package place at the line and the column that At answers, and that line is one of the text's. No condition. -/
import Derived.Test.YtnkdipfmmjifdaaRows
import Derived.Test.YtnkdipfmmjifdaaLift
import Derived.Test.YtnkdipfmmjifdaaPlcD
namespace Go.Proofs.Ytnkdipfmmjifdaa.lawPlaceBack
open Go.ChangeShapes Go.WideShapes Go.ChangeAt Go.RowKit
set_option linter.unusedVariables false
set_option maxHeartbeats 4000000 in
set_option maxRecDepth 100000 in
theorem walk (w : World) (s : ByteArray) (hm : s.size ≤ maxLen) :
    Calls Try.prog 5 #[.string s] w fun e w' => e = .returned (.bool true) ∧ Below w.heap.size w w' := by
  unfold maxLen at hm
  have AW := Lib.hid (fun w => awake07_any w)
  by_cases hs : s.size ≤ 1000
  case neg =>
    have d : decide ((1000 : Int) < s.size) = true := decide_eq_true (by omega)
    go_enter Try.func5, Try.ntmps5
    go_wp2_with fail
    refine (AW.out _).mono ?_
    rintro e w1 ⟨rfl, hb1⟩
    have B1 := Lib.hid hb1
    clear hb1
    go_wp2_with fail
    go_ret
    exact ⟨rfl, B1.out⟩
  have d : decide ((1000 : Int) < s.size) = false := decide_eq_false (by omega)
  have NW := Lib.hid (fun w => new_any s w (by omega))
  have LA := Lib.hid (fun b A cp w (h : Idx w b s A cp) => lines_any b s A cp w h (by omega))
  have AA := Lib.hid (fun b A cp (i : Nat) w (h : Idx w b s A cp) => at_any b s A cp i w h (by omega))
  have OA := Lib.hid (fun b A cp l c w (h : Idx w b s A cp) => offset_any b s A cp l c w h (by omega))
  unfold NewPost at NW
  go_enter Try.func5, Try.ntmps5
  go_wp2_with fail
  refine (AW.out _).mono ?_
  rintro e w1 ⟨rfl, hb1⟩
  have B1 := Lib.hid hb1
  clear hb1
  go_wp2_with fail
  refine (NW.out _).mono ?_
  rintro e w2 ⟨b, A, cp, rfl, hI, hb2⟩
  have B2 := Lib.hid (B1.out.trans (hb2.mono B1.out.size))
  have I2 := Lib.hid hI
  clear hb2 B1 hI
  go_wp2_with fail
  go_loopw [4] (fun i wr => ∃ t : Nat, t ≤ s.size + 1 ∧ i = .int .i64 t ∧ Idx wr b s A cp ∧ Below w.heap.size w wr) (fun i _ => s.size + 1 - (intOf i).toNat)
  case atStart => exact ⟨0, Nat.zero_le _, rfl, I2.out, B2.out⟩
  case round =>
    clear I2 B2
    obtain ⟨t, ht, rfl, hI, hB⟩ := hrel
    have I3 := Lib.hid hI
    have B3 := Lib.hid hB
    clear hI hB
    by_cases hlt : t ≤ s.size
    · have hT : (t : Int) ≤ s.size := by omega
      have hp : plc s (t : Int) = t := by unfold plc; omega
      have RA := Lib.hid (AA.out b A cp t _ I3.out)
      rw [hp] at RA
      have RO := Lib.hid (fun w' h => OA.out b A cp (lnOf s t : Nat) (clOf s t : Nat) w' h)
      have hof : offOf s (lnOf s t : Nat) (clOf s t : Nat) = t := by
        have h1 := cnt_le s hlt
        have h2 := lo_cnt s hlt
        have h3 := hi_cnt s hlt
        have h4 := offOf_in (s := s) (j := cnt s t) (col := (clOf s t : Nat)) h1 (by unfold clOf; omega) (by unfold clOf; omega)
        rw [show ((lnOf s t : Nat) : Int) = (cnt s t : Int) + 1 by unfold lnOf; omega, h4]
        unfold clOf
        omega
      rw [hof, if_neg (by omega)] at RO
      have hbd := lnOf_bd s hlt
      have hbl : lnOf s t ≤ (fd s).length + 1 := by have := cnt_le s hlt; unfold lnOf; omega
      have RL := Lib.hid (fun w' h => LA.out b A cp w' h)
      clear hp hof
      generalize lnOf s t = ln at *
      generalize clOf s t = cl at *
      generalize (fd s).length + 1 = m at *
      have dl : decide ((m : Int) < ln) = false := decide_eq_false (by omega)
      have d1 : decide ((ln : Int) < 1) = false := decide_eq_false (by omega)
      go_wp2_with fail
      refine RA.out.mono ?_
      rintro e w3 ⟨rfl, q, rfl⟩
      have B4 := Lib.hid (below_drawn B3.out q)
      have I4 := Lib.hid (I3.out.below (below_drawn (Below.refl _ _) q))
      clear B3 I3 RA
      generalize wr.drewN q = w4 at *
      go_wp2_with fail
      refine (RO.out _ I4.out).mono ?_
      rintro e w5 ⟨rfl, q', rfl⟩
      have B5 := Lib.hid (below_drawn B4.out q')
      have I5 := Lib.hid (I4.out.below (below_drawn (Below.refl _ _) q'))
      clear B4 I4 RO
      generalize w4.drewN q' = w5 at *
      go_wp2_with fail
      refine (RL.out _ I5.out).mono ?_
      rintro e w6 ⟨rfl, rfl⟩
      go_wp2_with fail
      go_roundw
      case rel => exact ⟨t + 1, by omega, by go_num, I5.out, B5.out⟩
      case measure => simp [intOf]; omega
    · have hT : ¬ (t : Int) ≤ s.size := by omega
      go_wp2_with fail
      go_ret
      exact ⟨rfl, B3.out⟩

set_option maxRecDepth 100000 in
theorem lifted (os : Os) (started : os.Started) (H : Type) (enc : TypeId × Value → H) :
    ReturnsInHanded {} Try.checked os 5 .any (Rows.placeBackSpec.pre6 enc Try.prog Try.f5 Rows.placeBackRow.domain false) (Rows.placeBackSpec.post enc Try.prog Try.f5 false true false false) := by
  refine returnsInHanded_of_change (C := Try.checked) Try.own started (by kernel_rfl) Try.func5
    (ChangeSpec.witness6 (enc := enc) (C := Try.checked) false ⟨#[], #[.string ⟨#[]⟩], []⟩ 8 (by kernel_rfl) (by kernel_rfl) (by kernel_rfl) (by kernel_rfl)) ?_
  intro W base args ds gs before hval0 hW hcnd _
  have hval : ∀ (j : Nat) t v, Try.f5.params[j]? = some t → args[j]? = some v → Value.okWide Try.prog W .any base t v := hval0
  have hW' := hW
  obtain ⟨p, q, hA0, hV, rfl, hfz, hnd⟩ := hW
  have hA : DataW.TrodAll enc Try.prog W 0 (fun _ => true) true Try.f5.params.toList args.toList ds p := hA0
  rw [Try.params5] at hA hval
  obtain ⟨v0, vs0, d0, ds0, p0, q0, hargs, rfl, rfl, h0, r0⟩ := trodAll_cons hA
  obtain ⟨rfl, rfl, rfl⟩ := trodAll_nil r0
  obtain rfl : args = #[v0] := by cases args; simp_all
  clear hA0 hval0
  obtain ⟨s0, rfl, rfl, rfl, w0⟩ := Go.ChangeMaps.open_string Try.underlying9 (hval 0 9 v0 rfl rfl) h0
  refine (walk W s0 w0).mono fun e W' ⟨he, hg⟩ => ?_
  subst he
  exact ⟨_, rfl, law_post Try.laidOut Try.mapsRowed Try.slicesFull (by kernel_rfl) rfl (by kernel_rfl) Try.underlying4 rfl hW' hg⟩

theorem over : Rows.placeBackRow.holds Try.pinned (OpenSpec.ofChange Rows.placeBackSpec) :=
  OpenClaim.holds_of_wide 5 Try.f5 rfl rfl rfl rfl rfl rfl rfl ⟨rfl, rfl, rfl, rfl, rfl⟩ rfl rfl rfl rfl rfl (by kernel_rfl) Try.func5 (by kernel_rfl)
    (of_decide_eq_true (by kernel_rfl)) (by unfold Func.isWrapper; first | (rw [if_pos (by decide +kernel)]; kernel_rfl) | (rw [if_neg (by decide +kernel)]; exact ⟨rfl, rfl⟩))
    (fun os started H enc _ => lifted os started H enc)

theorem proved : Rows.PlaceBackSaid :=
  over
end Go.Proofs.Ytnkdipfmmjifdaa.lawPlaceBack
