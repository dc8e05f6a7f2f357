/- PlaceFinds: for any text of up to 200 bytes, any offset, any line and column, At of package place answers the line and the column that the document's At gives, and Offset the place that trying each place gives, or ErrPlace. No condition. -/
import Derived.Test.YtnkdipfmmjifdaaRows
import Derived.Test.YtnkdipfmmjifdaaLift
import Derived.Test.YtnkdipfmmjifdaaPlcD
import Derived.Test.YtnkdipfmmjifdaaArrI
namespace Go.Proofs.Ytnkdipfmmjifdaa.lawPlaceFinds
open Go.ChangeShapes Go.WideShapes Go.ChangeAt Go.RowKit
set_option linter.unusedVariables false
set_option maxHeartbeats 4000000 in
set_option maxRecDepth 100000 in
theorem walk (w : World) (s : ByteArray) (hm : s.size ≤ maxLen) (o : Int) (wo : (Lit.int .i64 o).wf = true) (l : Int) (wl : (Lit.int .i64 l).wf = true) (c : Int) (wc : (Lit.int .i64 c).wf = true) :
    Calls Try.prog 4 #[.string s, .int .i64 o, .agg #[.int .i64 l, .int .i64 c]] w fun e w' => e = .returned (.bool true) ∧ Below w.heap.size w w' := by
  unfold maxLen at hm
  have B0 := Lib.hid ((Below.refl w.heap.size w).alloc (Nat.le_refl _) (.cells #[.int .i64 l, .int .i64 c] 30))
  have Q0 := Lib.hid (Whole.made w 30 #[.int .i64 l, .int .i64 c] _ rfl)
  have AW := Lib.hid (fun w => awake07_any w)
  clear wo wl wc
  by_cases hs : s.size ≤ 200
  case neg =>
    have d : decide ((200 : Int) < s.size) = true := decide_eq_true (by omega)
    go_enter Try.func4, Try.ntmps4
    go_wp2_with fail
    refine (AW.out _).mono ?_
    rintro e w1 ⟨rfl, hb1⟩
    have B1 := Lib.hid (B0.out.trans (hb1.mono B0.out.size))
    clear hb1
    go_wp2_with fail
    go_ret
    exact ⟨rfl, B1.out⟩
  have d : decide ((200 : Int) < s.size) = false := decide_eq_false (by omega)
  have NW := Lib.hid (fun w => new_any s w (by omega))
  have AA := Lib.hid (fun b A cp w (h : Idx w b s A cp) => at_any b s A cp o w h (by omega))
  have RA := Lib.hid (fun w => refat_any s o w (by omega))
  have OA := Lib.hid (fun b A cp w (h : Idx w b s A cp) => offset_any b s A cp l c w h (by omega))
  have RO := Lib.hid (fun w => refoffset_any s l c w (by omega))
  unfold NewPost at NW
  generalize lnOf s (plc s o) = ln at *
  generalize clOf s (plc s o) = cl at *
  generalize offOf s l c = r at *
  go_enter Try.func4, Try.ntmps4
  go_wp2_with fail
  generalize w.alloc (.cells #[.int .i64 l, .int .i64 c] 30) = V at *
  refine (AW.out _).mono ?_
  rintro e w1 ⟨rfl, hb1⟩
  have B1 := Lib.hid (B0.out.trans (hb1.mono B0.out.size))
  have Q1 := Lib.hid (Q0.out.below hb1 Q0.out.lt)
  clear hb1 B0 Q0
  go_wp2_with fail
  refine (NW.out _).mono ?_
  rintro e w2 ⟨b, A, cp, rfl, hI, hb2⟩
  have B2 := Lib.hid (B1.out.trans (hb2.mono B1.out.size))
  have Q2 := Lib.hid (Q1.out.below hb2 Q1.out.lt)
  have I2 := Lib.hid hI
  clear hb2 B1 Q1 hI
  go_wp2_with fail
  refine (AA.out b A cp _ I2.out).mono ?_
  rintro e w3 ⟨rfl, q, rfl⟩
  have B3 := Lib.hid (below_drawn B2.out q)
  have Q3 := Lib.hid (Q2.out.drawn q)
  have I3 := Lib.hid (I2.out.below (below_drawn (Below.refl _ _) q))
  clear B2 Q2 I2
  generalize w2.drewN q = w3 at *
  go_wp2_with fail
  refine (RA.out _).mono ?_
  rintro e w4 ⟨rfl, rfl⟩
  have q0 : w3.cell? ⟨w.heap.size, 0, none⟩ = some (.int .i64 l) := Q3.out.cell 0
  have q1 : w3.cell? ⟨w.heap.size, 1, none⟩ = some (.int .i64 c) := Q3.out.cell 1
  go_wp2_with fail
  refine (OA.out b A cp _ I3.out).mono ?_
  rintro e w5 ⟨rfl, q', rfl⟩
  have B5 := Lib.hid (below_drawn B3.out q')
  clear B3 Q3 I3
  have p0 : (w3.drewN q').cell? ⟨w.heap.size, 0, none⟩ = some (.int .i64 l) := q0
  have p1 : (w3.drewN q').cell? ⟨w.heap.size, 1, none⟩ = some (.int .i64 c) := q1
  clear q0 q1
  generalize w3.drewN q' = w5 at *
  by_cases hr : r < 0
  · rw [if_pos hr]
    have dr : decide (r < 0) = true := decide_eq_true hr
    go_wp2_with fail
    refine (RO.out _).mono ?_
    rintro e w6 ⟨rfl, rfl⟩
    go_wp2_with fail
    go_ret
    exact ⟨rfl, B5.out⟩
  · rw [if_neg hr]
    have dr : decide (r < 0) = false := decide_eq_false hr
    go_wp2_with fail
    refine (RO.out _).mono ?_
    rintro e w6 ⟨rfl, rfl⟩
    go_wp2_with fail
    go_ret
    exact ⟨by simp, B5.out⟩

set_option maxRecDepth 100000 in
theorem lifted (os : Os) (started : os.Started) (H : Type) (enc : TypeId × Value → H) :
    ReturnsInHanded {} Try.checked os 4 .any (Rows.placeFindsSpec.pre6 enc Try.prog Try.f4 Rows.placeFindsRow.domain false) (Rows.placeFindsSpec.post enc Try.prog Try.f4 false true false false) := by
  refine returnsInHanded_of_change (C := Try.checked) Try.own started (by kernel_rfl) Try.func4
    (ChangeSpec.witness6 (enc := enc) (C := Try.checked) false ⟨#[], #[.string ⟨#[]⟩, .int .i64 0, .agg #[.int .i64 0, .int .i64 0]], []⟩ 8 (by kernel_rfl) (by kernel_rfl) (by kernel_rfl) (by kernel_rfl)) ?_
  intro W base args ds gs before hval0 hW hcnd _
  have hval : ∀ (j : Nat) t v, Try.f4.params[j]? = some t → args[j]? = some v → Value.okWide Try.prog W .any base t v := hval0
  have hW' := hW
  obtain ⟨p, q, hA0, hV, rfl, hfz, hnd⟩ := hW
  have hA : DataW.TrodAll enc Try.prog W 0 (fun _ => true) true Try.f4.params.toList args.toList ds p := hA0
  rw [Try.params4] at hA hval
  obtain ⟨v0, vs0, d0, ds0, p0, q0, hargs, rfl, rfl, h0, r0⟩ := trodAll_cons hA
  obtain ⟨v1, vs1, d1, ds1, p1, q1, rfl, rfl, rfl, h1, r1⟩ := trodAll_cons r0
  obtain ⟨v2, vs2, d2, ds2, p2, q2, rfl, rfl, rfl, h2, r2⟩ := trodAll_cons r1
  obtain ⟨rfl, rfl, rfl⟩ := trodAll_nil r2
  obtain rfl : args = #[v0, v1, v2] := by cases args; simp_all
  clear hA0 hval0
  obtain ⟨s0, rfl, rfl, rfl, w0⟩ := Go.ChangeMaps.open_string Try.underlying9 (hval 0 9 v0 rfl rfl) h0
  obtain ⟨a1, rfl, rfl, rfl, w1⟩ := open_int Try.underlying3 (hval 1 3 v1 rfl rfl) h1
  obtain ⟨zs2, rfl, hl2, w2⟩ := open_arr_ints (k := .i64) Try.underlying30 Try.underlying3 (by kernel_rfl) (by kernel_rfl) (hval 2 30 v2 rfl rfl) h2
  obtain ⟨x20, x21, rfl⟩ := two_ints hl2
  refine (walk W s0 w0 a1 w1 x20 (w2 x20 (by simp)) x21 (w2 x21 (by simp))).mono fun e W' ⟨he, hg⟩ => ?_
  subst he
  exact ⟨_, rfl, law_post Try.laidOut Try.mapsRowed Try.slicesFull (by kernel_rfl) rfl (by kernel_rfl) Try.underlying4 rfl hW' hg⟩

theorem over : Rows.placeFindsRow.holds Try.pinned (OpenSpec.ofChange Rows.placeFindsSpec) :=
  OpenClaim.holds_of_wide 4 Try.f4 rfl rfl rfl rfl rfl rfl rfl ⟨rfl, rfl, rfl, rfl, rfl⟩ rfl rfl rfl rfl rfl (by kernel_rfl) Try.func4 (by kernel_rfl)
    (of_decide_eq_true (by kernel_rfl)) (by unfold Func.isWrapper; first | (rw [if_pos (by decide +kernel)]; kernel_rfl) | (rw [if_neg (by decide +kernel)]; exact ⟨rfl, rfl⟩))
    (fun os started H enc _ => lifted os started H enc)

theorem proved : Rows.PlaceFindsSaid :=
  over
end Go.Proofs.Ytnkdipfmmjifdaa.lawPlaceFinds
