/- WordParses: for any text, Parse and ParseHex of package word are the answers' number and word, or none. No condition. -/
import Derived.Test.YtiapjdfbnfnnmabRows
import Derived.Test.YtiapjdfbnfnnmabLift
import Derived.Test.YtiapjdfbnfnnmabWordH
namespace Go.Proofs.Ytiapjdfbnfnnmab.lawWordParses
open Go.ChangeShapes Go.WideShapes Go.ChangeAt Go.RowKit
set_option linter.unusedVariables false
set_option maxHeartbeats 2000000 in
theorem walk (w : World) (s : ByteArray) (hm : s.size ≤ maxLen) :
    Calls Try.prog 3 #[.string s] w fun e w' => e = .returned (.bool true) ∧ Below w.heap.size w w' := by
  have hP : parseRes (bys s) = .tuple #[.int .i32 (parseOf (bys s)), .bool true] ∨ parseRes (bys s) = .tuple #[.int .i32 0, .bool false] := by
    cases h : parseOk (bys s) with
    | true => exact .inl (parseRes_yes h)
    | false => exact .inr (parseRes_no h)
  have hX : hexRes (bys s) = .tuple #[.int .u32 (hexSum (bys s)), .bool true] ∨ hexRes (bys s) = .tuple #[.int .u32 0, .bool false] := by
    cases h : hexAll (bys s) with
    | true => exact .inl (hexRes_yes h)
    | false => exact .inr (hexRes_no h)
  by_cases h8 : s.size = 8
  · rcases hP with hP | hP
    · have HP := Lib.hid hP
      clear hP
      rcases hX with hX | hX
      · have HX := Lib.hid hX
        clear hX
        go_enter Try.func3, Try.ntmps3
        go_wp2_with fail
        refine (awake_any _).mono ?_
        rintro e w1 ⟨rfl, hb1⟩
        go_wp2_with fail
        refine (parse_any s _ hm).mono ?_
        rintro e w2 ⟨rfl, hb2⟩
        rw [HP.out]
        have hB2 := hb1.trans (hb2.mono hb1.size)
        go_wp2_with fail
        refine (parsehex_any s _ h8).mono ?_
        rintro e w' ⟨rfl, rfl⟩
        rw [HX.out]
        go_wp2_with fail
        refine (refparse_any s _ hm).mono ?_
        rintro e w3 ⟨rfl, hb3⟩
        rw [HP.out]
        have hB3 := hB2.trans (hb3.mono hB2.size)
        go_wp2_with fail
        refine (refparsehex_any s _ h8).mono ?_
        rintro e w4 ⟨rfl, hb4⟩
        rw [HX.out]
        have hB4 := hB3.trans (hb4.mono hB3.size)
        go_wp2
        go_ret
        exact ⟨rfl, hB4⟩
      · have HX := Lib.hid hX
        clear hX
        go_enter Try.func3, Try.ntmps3
        go_wp2_with fail
        refine (awake_any _).mono ?_
        rintro e w1 ⟨rfl, hb1⟩
        go_wp2_with fail
        refine (parse_any s _ hm).mono ?_
        rintro e w2 ⟨rfl, hb2⟩
        rw [HP.out]
        have hB2 := hb1.trans (hb2.mono hb1.size)
        go_wp2_with fail
        refine (parsehex_any s _ h8).mono ?_
        rintro e w' ⟨rfl, rfl⟩
        rw [HX.out]
        go_wp2_with fail
        refine (refparse_any s _ hm).mono ?_
        rintro e w3 ⟨rfl, hb3⟩
        rw [HP.out]
        have hB3 := hB2.trans (hb3.mono hB2.size)
        go_wp2_with fail
        refine (refparsehex_any s _ h8).mono ?_
        rintro e w4 ⟨rfl, hb4⟩
        rw [HX.out]
        have hB4 := hB3.trans (hb4.mono hB3.size)
        go_wp2
        go_ret
        exact ⟨rfl, hB4⟩
    · have HP := Lib.hid hP
      clear hP
      rcases hX with hX | hX
      · have HX := Lib.hid hX
        clear hX
        go_enter Try.func3, Try.ntmps3
        go_wp2_with fail
        refine (awake_any _).mono ?_
        rintro e w1 ⟨rfl, hb1⟩
        go_wp2_with fail
        refine (parse_any s _ hm).mono ?_
        rintro e w2 ⟨rfl, hb2⟩
        rw [HP.out]
        have hB2 := hb1.trans (hb2.mono hb1.size)
        go_wp2_with fail
        refine (parsehex_any s _ h8).mono ?_
        rintro e w' ⟨rfl, rfl⟩
        rw [HX.out]
        go_wp2_with fail
        refine (refparse_any s _ hm).mono ?_
        rintro e w3 ⟨rfl, hb3⟩
        rw [HP.out]
        have hB3 := hB2.trans (hb3.mono hB2.size)
        go_wp2_with fail
        refine (refparsehex_any s _ h8).mono ?_
        rintro e w4 ⟨rfl, hb4⟩
        rw [HX.out]
        have hB4 := hB3.trans (hb4.mono hB3.size)
        go_wp2
        go_ret
        exact ⟨rfl, hB4⟩
      · have HX := Lib.hid hX
        clear hX
        go_enter Try.func3, Try.ntmps3
        go_wp2_with fail
        refine (awake_any _).mono ?_
        rintro e w1 ⟨rfl, hb1⟩
        go_wp2_with fail
        refine (parse_any s _ hm).mono ?_
        rintro e w2 ⟨rfl, hb2⟩
        rw [HP.out]
        have hB2 := hb1.trans (hb2.mono hb1.size)
        go_wp2_with fail
        refine (parsehex_any s _ h8).mono ?_
        rintro e w' ⟨rfl, rfl⟩
        rw [HX.out]
        go_wp2_with fail
        refine (refparse_any s _ hm).mono ?_
        rintro e w3 ⟨rfl, hb3⟩
        rw [HP.out]
        have hB3 := hB2.trans (hb3.mono hB2.size)
        go_wp2_with fail
        refine (refparsehex_any s _ h8).mono ?_
        rintro e w4 ⟨rfl, hb4⟩
        rw [HX.out]
        have hB4 := hB3.trans (hb4.mono hB3.size)
        go_wp2
        go_ret
        exact ⟨rfl, hB4⟩
  · clear hX
    rcases hP with hP | hP
    · have HP := Lib.hid hP
      clear hP
      go_enter Try.func3, Try.ntmps3
      go_wp2_with fail
      refine (awake_any _).mono ?_
      rintro e w1 ⟨rfl, hb1⟩
      go_wp2_with fail
      refine (parse_any s _ hm).mono ?_
      rintro e w2 ⟨rfl, hb2⟩
      rw [HP.out]
      have hB2 := hb1.trans (hb2.mono hb1.size)
      go_wp2_with fail
      refine (parsehex_short s _ h8 hm).mono ?_
      rintro e w' ⟨rfl, rfl⟩
      go_wp2_with fail
      refine (refparse_any s _ hm).mono ?_
      rintro e w3 ⟨rfl, hb3⟩
      rw [HP.out]
      have hB3 := hB2.trans (hb3.mono hB2.size)
      go_wp2_with fail
      refine (refparsehex_short s _ h8 hm).mono ?_
      rintro e w' ⟨rfl, rfl⟩
      go_wp2
      go_ret
      exact ⟨rfl, hB3⟩
    · have HP := Lib.hid hP
      clear hP
      go_enter Try.func3, Try.ntmps3
      go_wp2_with fail
      refine (awake_any _).mono ?_
      rintro e w1 ⟨rfl, hb1⟩
      go_wp2_with fail
      refine (parse_any s _ hm).mono ?_
      rintro e w2 ⟨rfl, hb2⟩
      rw [HP.out]
      have hB2 := hb1.trans (hb2.mono hb1.size)
      go_wp2_with fail
      refine (parsehex_short s _ h8 hm).mono ?_
      rintro e w' ⟨rfl, rfl⟩
      go_wp2_with fail
      refine (refparse_any s _ hm).mono ?_
      rintro e w3 ⟨rfl, hb3⟩
      rw [HP.out]
      have hB3 := hB2.trans (hb3.mono hB2.size)
      go_wp2_with fail
      refine (refparsehex_short s _ h8 hm).mono ?_
      rintro e w' ⟨rfl, rfl⟩
      go_wp2
      go_ret
      exact ⟨rfl, hB3⟩

set_option maxRecDepth 100000 in
theorem lifted (os : Os) (started : os.Started) (H : Type) (enc : TypeId × Value → H) :
    ReturnsInHanded {} Try.checked os 3 .any (Rows.wordParsesSpec.pre6 enc Try.prog Try.f3 Rows.wordParsesRow.domain false) (Rows.wordParsesSpec.post enc Try.prog Try.f3 false true false false) := by
  refine returnsInHanded_of_change (C := Try.checked) Try.own started (by kernel_rfl) Try.func3
    (ChangeSpec.witness6 (enc := enc) (C := Try.checked) false ⟨#[], #[.string ⟨#[]⟩], []⟩ 8 (by kernel_rfl) (by kernel_rfl) (by kernel_rfl) (by kernel_rfl)) ?_
  intro W base args ds gs before hval0 hW hcnd _
  have hval : ∀ (j : Nat) t v, Try.f3.params[j]? = some t → args[j]? = some v → Value.okWide Try.prog W .any base t v := hval0
  have hW' := hW
  obtain ⟨p, q, hA0, hV, rfl, hfz, hnd⟩ := hW
  have hA : DataW.TrodAll enc Try.prog W 0 (fun _ => true) true Try.f3.params.toList args.toList ds p := hA0
  rw [Try.params3] at hA hval
  obtain ⟨v0, vs0, d0, ds0, p0, q0, hargs, rfl, rfl, h0, r0⟩ := trodAll_cons hA
  obtain ⟨rfl, rfl, rfl⟩ := trodAll_nil r0
  obtain rfl : args = #[v0] := by cases args; simp_all
  clear hA0 hval0
  obtain ⟨s0, rfl, rfl, rfl, w0⟩ := Go.ChangeMaps.open_string Try.underlying9 (hval 0 9 v0 rfl rfl) h0
  refine (walk W s0 w0).mono fun e W' ⟨he, hg⟩ => ?_
  subst he
  exact ⟨_, rfl, law_post Try.laidOut Try.mapsRowed Try.slicesFull (by kernel_rfl) rfl (by kernel_rfl) Try.underlying4 rfl hW' hg⟩

theorem over : Rows.wordParsesRow.holds Try.pinned (OpenSpec.ofChange Rows.wordParsesSpec) :=
  OpenClaim.holds_of_wide 3 Try.f3 rfl rfl rfl rfl rfl rfl rfl ⟨rfl, rfl, rfl, rfl, rfl⟩ rfl rfl rfl rfl rfl (by kernel_rfl) Try.func3 (by kernel_rfl)
    (of_decide_eq_true (by kernel_rfl)) (by unfold Func.isWrapper; first | (rw [if_pos (by decide +kernel)]; kernel_rfl) | (rw [if_neg (by decide +kernel)]; exact ⟨rfl, rfl⟩))
    (fun os started H enc _ => lifted os started H enc)

theorem proved : Rows.WordParsesSaid :=
  over
end Go.Proofs.Ytiapjdfbnfnnmab.lawWordParses
