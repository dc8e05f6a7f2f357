/- WordFits: for any word, any number and any count of bits, Sext, Fits and Within of package word are the answers'. No condition. -/
import Derived.Test.YtiapjdfbnfnnmaaRows
import Derived.Test.YtiapjdfbnfnnmaaLift
import Derived.Test.YtiapjdfbnfnnmaaWordB
import Derived.Test.YtiapjdfbnfnnmaaWordC
namespace Go.Proofs.Ytiapjdfbnfnnmaa.lawWordFits
open Go.ChangeShapes Go.WideShapes Go.ChangeAt Go.RowKit
set_option linter.unusedVariables false
set_option maxHeartbeats 2000000 in
theorem walk (w : World) (x : Int) (wx : (Lit.int .u32 x).wf = true) (n : Int) (wn : (Lit.int .i64 n).wf = true) (bits : Int) (wb : (Lit.int .i64 bits).wf = true) :
    Calls Try.prog 6 #[.int .u32 x, .int .i64 n, .int .i64 bits] w fun e w' => e = .returned (.bool true) ∧ Below w.heap.size w w' := by
  obtain ⟨x0, x1⟩ := bounds_u32 wx
  obtain ⟨n0, n1⟩ := bounds_i64 wn
  obtain ⟨b0, b1⟩ := bounds_i64 wb
  clear wx wn wb
  by_cases h1 : bits < 1
  · by_cases h2 : bits < 0
    · go_enter Try.func6, Try.ntmps6
      go_wp2_with fail
      refine (awake_any _).mono ?_
      rintro e w1 ⟨rfl, hb1⟩
      go_wp2_with (first
        | (go_at_call 19; refine (sext_low _ _ _ h1).mono ?_; rintro e w' ⟨rfl, rfl⟩)
        | (go_at_call 20; refine (refsext_low _ _ _ h1).mono ?_; rintro e w' ⟨rfl, rfl⟩)
        | (go_at_call 21; refine (fits_low _ _ _ h1).mono ?_; rintro e w' ⟨rfl, rfl⟩)
        | (go_at_call 22; refine (reffits_low _ _ _ h1).mono ?_; rintro e w' ⟨rfl, rfl⟩)
        | (go_at_call 23; refine (within_low _ _ _ h2).mono ?_; rintro e w' ⟨rfl, rfl⟩)
        | (go_at_call 24; refine (refwithin_low _ _ _ h2).mono ?_; rintro e w' ⟨rfl, rfl⟩))
      go_ret
      exact ⟨rfl, hb1⟩
    · have h3 : 0 ≤ bits := by omega
      go_enter Try.func6, Try.ntmps6
      go_wp2_with fail
      refine (awake_any _).mono ?_
      rintro e w1 ⟨rfl, hb1⟩
      go_wp2_with (first
        | (go_at_call 19; refine (sext_low _ _ _ h1).mono ?_; rintro e w' ⟨rfl, rfl⟩)
        | (go_at_call 20; refine (refsext_low _ _ _ h1).mono ?_; rintro e w' ⟨rfl, rfl⟩)
        | (go_at_call 21; refine (fits_low _ _ _ h1).mono ?_; rintro e w' ⟨rfl, rfl⟩)
        | (go_at_call 22; refine (reffits_low _ _ _ h1).mono ?_; rintro e w' ⟨rfl, rfl⟩)
        | (go_at_call 23; refine (within_any _ _ _ n0 n1 h3 b1).mono ?_; rintro e w' ⟨rfl, rfl⟩)
        | (go_at_call 24; refine (refwithin_any _ _ _ n0 n1 h3 b1).mono ?_; rintro e w' ⟨rfl, rfl⟩))
      go_ret
      exact ⟨rfl, hb1⟩
  · have h2 : 1 ≤ bits := by omega
    have h3 : 0 ≤ bits := by omega
    clear h1
    go_enter Try.func6, Try.ntmps6
    go_wp2_with fail
    refine (awake_any _).mono ?_
    rintro e w1 ⟨rfl, hb1⟩
    go_wp2_with (first
      | (go_at_call 19; refine (sext_any _ _ _ x0 x1 h2 b1).mono ?_; rintro e w' ⟨rfl, rfl⟩)
      | (go_at_call 20; refine (refsext_any _ _ _ x0 x1 h2 b1).mono ?_; rintro e w' ⟨rfl, rfl⟩)
      | (go_at_call 21; refine (fits_any _ _ _ n0 n1 h2 b1).mono ?_; rintro e w' ⟨rfl, rfl⟩)
      | (go_at_call 22; refine (reffits_any _ _ _ n0 n1 h2 b1).mono ?_; rintro e w' ⟨rfl, rfl⟩)
      | (go_at_call 23; refine (within_any _ _ _ n0 n1 h3 b1).mono ?_; rintro e w' ⟨rfl, rfl⟩)
      | (go_at_call 24; refine (refwithin_any _ _ _ n0 n1 h3 b1).mono ?_; rintro e w' ⟨rfl, rfl⟩))
    go_ret
    exact ⟨rfl, hb1⟩

set_option maxRecDepth 100000 in
theorem lifted (os : Os) (started : os.Started) (H : Type) (enc : TypeId × Value → H) :
    ReturnsInHanded {} Try.checked os 6 .any (Rows.wordFitsSpec.pre6 enc Try.prog Try.f6 Rows.wordFitsRow.domain false) (Rows.wordFitsSpec.post enc Try.prog Try.f6 false true false false) := by
  refine returnsInHanded_of_change (C := Try.checked) Try.own started (by kernel_rfl) Try.func6
    (ChangeSpec.witness6 (enc := enc) (C := Try.checked) false ⟨#[], #[.int .u32 0, .int .i64 0, .int .i64 0], []⟩ 8 (by kernel_rfl) (by kernel_rfl) (by kernel_rfl) (by kernel_rfl)) ?_
  intro W base args ds gs before hval0 hW hcnd _
  have hval : ∀ (j : Nat) t v, Try.f6.params[j]? = some t → args[j]? = some v → Value.okWide Try.prog W .any base t v := hval0
  have hW' := hW
  obtain ⟨p, q, hA0, hV, rfl, hfz, hnd⟩ := hW
  have hA : DataW.TrodAll enc Try.prog W 0 (fun _ => true) true Try.f6.params.toList args.toList ds p := hA0
  rw [Try.params6] at hA hval
  obtain ⟨v0, vs0, d0, ds0, p0, q0, hargs, rfl, rfl, h0, r0⟩ := trodAll_cons hA
  obtain ⟨v1, vs1, d1, ds1, p1, q1, rfl, rfl, rfl, h1, r1⟩ := trodAll_cons r0
  obtain ⟨v2, vs2, d2, ds2, p2, q2, rfl, rfl, rfl, h2, r2⟩ := trodAll_cons r1
  obtain ⟨rfl, rfl, rfl⟩ := trodAll_nil r2
  obtain rfl : args = #[v0, v1, v2] := by cases args; simp_all
  clear hA0 hval0
  obtain ⟨a0, rfl, rfl, rfl, w0⟩ := open_int Try.underlying31 (hval 0 31 v0 rfl rfl) h0
  obtain ⟨a1, rfl, rfl, rfl, w1⟩ := open_int Try.underlying3 (hval 1 3 v1 rfl rfl) h1
  obtain ⟨a2, rfl, rfl, rfl, w2⟩ := open_int Try.underlying3 (hval 2 3 v2 rfl rfl) h2
  refine (walk W a0 w0 a1 w1 a2 w2).mono fun e W' ⟨he, hg⟩ => ?_
  subst he
  exact ⟨_, rfl, law_post Try.laidOut Try.mapsRowed Try.slicesFull (by kernel_rfl) rfl (by kernel_rfl) Try.underlying4 rfl hW' hg⟩

theorem over : Rows.wordFitsRow.holds Try.pinned (OpenSpec.ofChange Rows.wordFitsSpec) :=
  OpenClaim.holds_of_wide 6 Try.f6 rfl rfl rfl rfl rfl rfl rfl ⟨rfl, rfl, rfl, rfl, rfl⟩ rfl rfl rfl rfl rfl (by kernel_rfl) Try.func6 (by kernel_rfl)
    (of_decide_eq_true (by kernel_rfl)) (by unfold Func.isWrapper; first | (rw [if_pos (by decide +kernel)]; kernel_rfl) | (rw [if_neg (by decide +kernel)]; exact ⟨rfl, rfl⟩))
    (fun os started H enc _ => lifted os started H enc)

theorem proved : Rows.WordFitsSaid :=
  over
end Go.Proofs.Ytiapjdfbnfnnmaa.lawWordFits
