/- PlaceLines: for any text of up to 2000 bytes and any number n, Lines of package place answers how many lines the document's cut gives, Len how many bytes the text has, Line each of these lines, and nothing for a number of no line. No condition. -/
import Derived.Test.YtnkdipfmmjifdaaRows
import Derived.Test.YtnkdipfmmjifdaaLift
import Derived.Test.YtnkdipfmmjifdaaPlcD
import Derived.IntWalk
import Derived.Deep.RegionHeld3
namespace Go.Proofs.Ytnkdipfmmjifdaa.lawPlaceLines
open Go.ChangeShapes Go.WideShapes Go.ChangeAt Go.RowKit
set_option linter.unusedVariables false
theorem keepCell {w w' : World} {g o : Nat} {v : Value} (h : w.cell? ⟨g, o, none⟩ = some v) (hb : Below w.heap.size w w') : w'.cell? ⟨g, o, none⟩ = some v := (hb.cell (p := ⟨g, o, none⟩) (block_lt h)).trans h

set_option maxHeartbeats 4000000 in
set_option maxRecDepth 100000 in
theorem walk (w : World) (s : ByteArray) (hm : s.size ≤ maxLen) (n : Int) (wn : (Lit.int .i64 n).wf = true) :
    Calls Try.prog 3 #[.string s, .int .i64 n] w fun e w' => e = .returned (.bool true) ∧ Below w.heap.size w w' := by
  unfold maxLen at hm
  have AW := Lib.hid (fun w => awake07_any w)
  clear wn
  by_cases hs : s.size ≤ 2000
  case neg =>
    have d : decide ((2000 : Int) < s.size) = true := decide_eq_true (by omega)
    go_enter Try.func3, Try.ntmps3
    go_wp2_with fail
    refine (AW.out _).mono ?_
    rintro e w1 ⟨rfl, hb1⟩
    have B1 := Lib.hid hb1
    clear hb1
    go_wp2_with fail
    go_ret
    exact ⟨rfl, B1.out⟩
  have d : decide ((2000 : Int) < s.size) = false := decide_eq_false (by omega)
  have NW := Lib.hid (fun w => new_any s w (by omega))
  have RL := Lib.hid (fun w => reflines_any s w (by omega))
  have LA := Lib.hid (fun b A cp w (h : Idx w b s A cp) => lines_any b s A cp w h (by omega))
  have LE := Lib.hid (fun b A cp w (h : Idx w b s A cp) => len_any b s A cp w h (by omega))
  have LY := Lib.hid (fun b A cp j w (h : Idx w b s A cp) hj => line_yes b s A cp j w h (by omega) hj)
  have LN := Lib.hid (fun b A cp w (h : Idx w b s A cp) hn => line_no b s A cp n w h (by omega) hn)
  have HB := Lib.hid (hasB_iff s n)
  have LG := Lib.hid (fun j => @linesOf_get s j)
  have hfl := fd_len s
  unfold NewPost at NW
  generalize hmf : (fd s).length = m at LE LY HB LG hfl
  have HM := Lib.hid hmf
  rw [hmf] at RL LA
  clear hmf
  go_enter Try.func3, Try.ntmps3
  go_wp2_with fail
  refine (AW.out _).mono ?_
  rintro e w1 ⟨rfl, hb1⟩
  have B1 := Lib.hid hb1
  clear hb1
  go_wp2_with fail
  refine (NW.out _).mono ?_
  rintro e w2 ⟨b, A, cp, rfl, hI, hb2⟩
  have B2 := Lib.hid (B1.out.trans (hb2.mono B1.out.size))
  have I2 := Lib.hid hI
  clear hb2 B1 hI
  go_wp2_with fail
  refine (RL.out _).mono ?_
  rintro e w3 ⟨v, rfl, ho, hb3⟩
  have B3 := Lib.hid (B2.out.trans (hb3.mono B2.out.size))
  have I3 := Lib.hid (I2.out.below hb3)
  obtain ⟨A2, c2, rfl, hz⟩ := ho.form
  have Z3 := Lib.hid hz
  clear hb3 B2 I2 ho hz
  go_wp2_with fail
  refine (LA.out b A cp _ I3.out).mono ?_
  rintro e w4 ⟨rfl, rfl⟩
  go_wp2_with fail
  refine (LE.out b A cp _ I3.out).mono ?_
  rintro e w4 ⟨rfl, rfl⟩
  go_wp2_with fail
  go_loopw [7] (fun i wr => ∃ t : Nat, t ≤ m + 1 ∧ i = .int .i64 t ∧ Idx wr b s A cp ∧ Strs wr A2 (m + 1) (linesOf s) ∧ Below w.heap.size w wr) (fun i _ => m + 1 - (intOf i).toNat)
  case atStart => exact ⟨0, Nat.zero_le _, rfl, I3.out, Z3.out, B3.out⟩
  case round =>
    clear I3 B3 Z3
    obtain ⟨t, ht, rfl, hI, hZ, hB⟩ := hrel
    have I3 := Lib.hid hI
    have B3 := Lib.hid hB
    have Z3 := Lib.hid hZ
    clear hI hB hZ
    by_cases hlt : t < m + 1
    · have hT : (t : Int) < (m : Int) + 1 := by omega
      obtain ⟨g, off, hA2, _, hc⟩ := Z3.out.2 (by omega)
      subst hA2
      have u0 := hc t hlt
      rw [LG.out t (by omega)] at u0
      have LL := Lib.hid (fun w' h => LY.out b A cp t w' h (by omega))
      have I4 := Lib.hid (I3.out.below (Below.refl wr.heap.size wr).drew)
      clear hc
      generalize lineAt s t = x at *
      have sm : IntKind.i64.wrap ((t : Int) + 1) = (t : Int) + 1 := IntWalk.i64_in _ (by omega)
      have LS : wr.cell? ⟨g, off + t, none⟩ = some (.string x) := u0
      clear u0
      go_wp2_with fail
      go_region_held3 (fun y => y.cell? ⟨g, off + t, none⟩ = some (.string x))
        (first
          | with_reducible assumption
          | with_reducible exact keepCell (by assumption) (Below.refl _ _).drew
          | with_reducible exact keepCell (by assumption) hb1)
        ((go_at_call 12; refine (LL.out _ I4.out).mono ?_; rintro e y1 ⟨rfl, hb1⟩; have I5 := Lib.hid (I4.out.below hb1); have B5 := Lib.hid ((B3.out.drew).trans (hb1.mono B3.out.size)); have Z5 := Lib.hid (Z3.out.below ((Below.refl wr.heap.size wr).drew.trans hb1))))
      clear hb1 LS
      clear I3 B3 Z3 I4
      go_wp2_with fail
      go_roundw
      case rel => exact ⟨t + 1, by omega, by go_num, I5.out, Z5.out, B5.out⟩
      case measure => simp [intOf]; omega
    · have hT : ¬ (t : Int) < (m : Int) + 1 := by omega
      by_cases hn : 1 ≤ n ∧ n ≤ (m : Int) + 1
      · obtain ⟨h1, h2⟩ := hn
        have d1 : decide (1 ≤ n) = true := decide_eq_true h1
        have d2 : decide (n ≤ (m : Int) + 1) = true := decide_eq_true h2
        go_wp2_with fail
        go_ret
        exact ⟨rfl, B3.out⟩
      · have hb : hasB s n = false := by
          cases hb : hasB s n with
          | false => rfl
          | true => exact absurd (HB.out.1 hb) hn
        have NO := Lib.hid (LN.out b A cp wr I3.out hb)
        clear hb
        by_cases h1 : 1 ≤ n
        · have d1 : decide (1 ≤ n) = true := decide_eq_true h1
          have d2 : decide (n ≤ (m : Int) + 1) = false := decide_eq_false (by omega)
          clear hn
          go_wp2_with fail
          refine NO.out.mono ?_
          rintro e w5 ⟨rfl, hb5⟩
          have B5 := Lib.hid (B3.out.trans (hb5.mono B3.out.size))
          clear hb5
          go_wp2_with fail
          go_ret
          exact ⟨rfl, B5.out⟩
        · have d1 : decide (1 ≤ n) = false := decide_eq_false h1
          clear hn
          go_wp2_with fail
          refine NO.out.mono ?_
          rintro e w5 ⟨rfl, hb5⟩
          have B5 := Lib.hid (B3.out.trans (hb5.mono B3.out.size))
          clear hb5
          go_wp2_with fail
          go_ret
          exact ⟨rfl, B5.out⟩

set_option maxRecDepth 100000 in
theorem lifted (os : Os) (started : os.Started) (H : Type) (enc : TypeId × Value → H) :
    ReturnsInHanded {} Try.checked os 3 .any (Rows.placeLinesSpec.pre6 enc Try.prog Try.f3 Rows.placeLinesRow.domain false) (Rows.placeLinesSpec.post enc Try.prog Try.f3 false true false false) := by
  refine returnsInHanded_of_change (C := Try.checked) Try.own started (by kernel_rfl) Try.func3
    (ChangeSpec.witness6 (enc := enc) (C := Try.checked) false ⟨#[], #[.string ⟨#[]⟩, .int .i64 0], []⟩ 8 (by kernel_rfl) (by kernel_rfl) (by kernel_rfl) (by kernel_rfl)) ?_
  intro W base args ds gs before hval0 hW hcnd _
  have hval : ∀ (j : Nat) t v, Try.f3.params[j]? = some t → args[j]? = some v → Value.okWide Try.prog W .any base t v := hval0
  have hW' := hW
  obtain ⟨p, q, hA0, hV, rfl, hfz, hnd⟩ := hW
  have hA : DataW.TrodAll enc Try.prog W 0 (fun _ => true) true Try.f3.params.toList args.toList ds p := hA0
  rw [Try.params3] at hA hval
  obtain ⟨v0, vs0, d0, ds0, p0, q0, hargs, rfl, rfl, h0, r0⟩ := trodAll_cons hA
  obtain ⟨v1, vs1, d1, ds1, p1, q1, rfl, rfl, rfl, h1, r1⟩ := trodAll_cons r0
  obtain ⟨rfl, rfl, rfl⟩ := trodAll_nil r1
  obtain rfl : args = #[v0, v1] := by cases args; simp_all
  clear hA0 hval0
  obtain ⟨s0, rfl, rfl, rfl, w0⟩ := Go.ChangeMaps.open_string Try.underlying9 (hval 0 9 v0 rfl rfl) h0
  obtain ⟨a1, rfl, rfl, rfl, w1⟩ := open_int Try.underlying3 (hval 1 3 v1 rfl rfl) h1
  refine (walk W s0 w0 a1 w1).mono fun e W' ⟨he, hg⟩ => ?_
  subst he
  exact ⟨_, rfl, law_post Try.laidOut Try.mapsRowed Try.slicesFull (by kernel_rfl) rfl (by kernel_rfl) Try.underlying4 rfl hW' hg⟩

theorem over : Rows.placeLinesRow.holds Try.pinned (OpenSpec.ofChange Rows.placeLinesSpec) :=
  OpenClaim.holds_of_wide 3 Try.f3 rfl rfl rfl rfl rfl rfl rfl ⟨rfl, rfl, rfl, rfl, rfl⟩ rfl rfl rfl rfl rfl (by kernel_rfl) Try.func3 (by kernel_rfl)
    (of_decide_eq_true (by kernel_rfl)) (by unfold Func.isWrapper; first | (rw [if_pos (by decide +kernel)]; kernel_rfl) | (rw [if_neg (by decide +kernel)]; exact ⟨rfl, rfl⟩))
    (fun os started H enc _ => lifted os started H enc)

theorem proved : Rows.PlaceLinesSaid :=
  over
end Go.Proofs.Ytnkdipfmmjifdaa.lawPlaceLines
