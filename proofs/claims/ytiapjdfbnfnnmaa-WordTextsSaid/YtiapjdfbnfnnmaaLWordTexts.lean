/- WordTexts: for any number and any word, Text and Hex of package word are the answers' texts, Parse reads the number from its text just where it is one of 32 bits, and ParseHex reads the word. No condition. -/
import Derived.Test.YtiapjdfbnfnnmaaRows
import Derived.Test.YtiapjdfbnfnnmaaLift
import Derived.Test.YtiapjdfbnfnnmaaWordI
namespace Go.Proofs.Ytiapjdfbnfnnmaa.lawWordTexts
open Go.ChangeShapes Go.WideShapes Go.ChangeAt Go.RowKit
set_option linter.unusedVariables false
set_option maxHeartbeats 2000000 in
theorem walk (w : World) (n : Int) (wn : (Lit.int .i64 n).wf = true) (x : Int) (wx : (Lit.int .u32 x).wf = true) :
    Calls Try.prog 8 #[.int .i64 n, .int .u32 x] w fun e w' => e = .returned (.bool true) ∧ Below w.heap.size w w' := by
  obtain ⟨n0, n1⟩ := bounds_i64 wn
  obtain ⟨x0, x1⟩ := bounds_u32 wx
  clear wn wx
  have HL := Lib.hid (show (strOfNums (textNums n)).size ≤ maxLen by
    rw [strOfNums_size]
    have := decF_length 20 n.natAbs (by omega)
    unfold textNums maxLen
    split <;> (try simp only [List.length_cons]) <;> omega)
  rcases (show n < -2147483648 ∨ 2147483647 < n ∨ (-2147483648 ≤ n ∧ n ≤ 2147483647) by omega) with hr1 | hr1 | ⟨hr0, hr1⟩
  · have hr : n < -2147483648 ∨ 2147483647 < n := .inl hr1
    have hd1 : decide (n < -2147483648) = true := decide_eq_true hr1
    go_enter Try.func8, Try.ntmps8
    go_wp2_with fail
    refine (awake_any _).mono ?_
    rintro e w1 ⟨rfl, hb1⟩
    go_wp2_with fail
    refine (text_any n _ n0 n1).mono ?_
    rintro e w2 ⟨rfl, hb2⟩
    have hB2 := hb1.trans (hb2.mono hb1.size)
    go_wp2_with fail
    refine (hex_any x _ x0 x1).mono ?_
    rintro e w3 ⟨rfl, hb3⟩
    have hB3 := hB2.trans (hb3.mono hB2.size)
    go_wp2_with fail
    refine (parsehex_any (strOfNums (hexNums x)) _ (strOfNums_size _)).mono ?_
    rintro e w' ⟨rfl, rfl⟩
    rw [hexRes_hex x x0 x1]
    go_wp2_with fail
    refine (parse_any (strOfNums (textNums n)) _ HL.out).mono ?_
    rintro e w4 ⟨rfl, hb4⟩
    rw [parseRes_out n n0 n1 hr]
    have hB4 := hB3.trans (hb4.mono hB3.size)
    go_wp2_with fail
    refine (reftext_any n _ n0 n1).mono ?_
    rintro e w5 ⟨rfl, hb5⟩
    have hB5 := hB4.trans (hb5.mono hB4.size)
    go_wp2_with (go_at_call 35; refine (refhex_any x _ x0 x1).mono ?_; rintro e w' ⟨rfl, rfl⟩)
    go_ret
    exact ⟨rfl, hB5⟩
  · have hr : n < -2147483648 ∨ 2147483647 < n := .inr hr1
    have hd1 : decide (n < -2147483648) = false := decide_eq_false (by omega)
    have hd2 : decide ((2147483647 : Int) < n) = true := decide_eq_true hr1
    go_enter Try.func8, Try.ntmps8
    go_wp2_with fail
    refine (awake_any _).mono ?_
    rintro e w1 ⟨rfl, hb1⟩
    go_wp2_with fail
    refine (text_any n _ n0 n1).mono ?_
    rintro e w2 ⟨rfl, hb2⟩
    have hB2 := hb1.trans (hb2.mono hb1.size)
    go_wp2_with fail
    refine (hex_any x _ x0 x1).mono ?_
    rintro e w3 ⟨rfl, hb3⟩
    have hB3 := hB2.trans (hb3.mono hB2.size)
    go_wp2_with fail
    refine (parsehex_any (strOfNums (hexNums x)) _ (strOfNums_size _)).mono ?_
    rintro e w' ⟨rfl, rfl⟩
    rw [hexRes_hex x x0 x1]
    go_wp2_with fail
    refine (parse_any (strOfNums (textNums n)) _ HL.out).mono ?_
    rintro e w4 ⟨rfl, hb4⟩
    rw [parseRes_out n n0 n1 hr]
    have hB4 := hB3.trans (hb4.mono hB3.size)
    go_wp2_with fail
    refine (reftext_any n _ n0 n1).mono ?_
    rintro e w5 ⟨rfl, hb5⟩
    have hB5 := hB4.trans (hb5.mono hB4.size)
    go_wp2_with (go_at_call 35; refine (refhex_any x _ x0 x1).mono ?_; rintro e w' ⟨rfl, rfl⟩)
    go_ret
    exact ⟨rfl, hB5⟩
  · have hd1 : decide (n < -2147483648) = false := decide_eq_false (by omega)
    have hd2 : decide ((2147483647 : Int) < n) = false := decide_eq_false (by omega)
    go_enter Try.func8, Try.ntmps8
    go_wp2_with fail
    refine (awake_any _).mono ?_
    rintro e w1 ⟨rfl, hb1⟩
    go_wp2_with fail
    refine (text_any n _ n0 n1).mono ?_
    rintro e w2 ⟨rfl, hb2⟩
    have hB2 := hb1.trans (hb2.mono hb1.size)
    go_wp2_with fail
    refine (hex_any x _ x0 x1).mono ?_
    rintro e w3 ⟨rfl, hb3⟩
    have hB3 := hB2.trans (hb3.mono hB2.size)
    go_wp2_with fail
    refine (parsehex_any (strOfNums (hexNums x)) _ (strOfNums_size _)).mono ?_
    rintro e w' ⟨rfl, rfl⟩
    rw [hexRes_hex x x0 x1]
    go_wp2_with fail
    refine (parse_any (strOfNums (textNums n)) _ HL.out).mono ?_
    rintro e w4 ⟨rfl, hb4⟩
    rw [parseRes_in n hr0 hr1]
    have hB4 := hB3.trans (hb4.mono hB3.size)
    go_wp2_with fail
    refine (reftext_any n _ n0 n1).mono ?_
    rintro e w5 ⟨rfl, hb5⟩
    have hB5 := hB4.trans (hb5.mono hB4.size)
    go_wp2_with (go_at_call 35; refine (refhex_any x _ x0 x1).mono ?_; rintro e w' ⟨rfl, rfl⟩)
    go_ret
    exact ⟨rfl, hB5⟩

set_option maxRecDepth 100000 in
theorem lifted (os : Os) (started : os.Started) (H : Type) (enc : TypeId × Value → H) :
    ReturnsInHanded {} Try.checked os 8 .any (Rows.wordTextsSpec.pre6 enc Try.prog Try.f8 Rows.wordTextsRow.domain false) (Rows.wordTextsSpec.post enc Try.prog Try.f8 false true false false) := by
  refine returnsInHanded_of_change (C := Try.checked) Try.own started (by kernel_rfl) Try.func8
    (ChangeSpec.witness6 (enc := enc) (C := Try.checked) false ⟨#[], #[.int .i64 0, .int .u32 0], []⟩ 8 (by kernel_rfl) (by kernel_rfl) (by kernel_rfl) (by kernel_rfl)) ?_
  intro W base args ds gs before hval0 hW hcnd _
  have hval : ∀ (j : Nat) t v, Try.f8.params[j]? = some t → args[j]? = some v → Value.okWide Try.prog W .any base t v := hval0
  have hW' := hW
  obtain ⟨p, q, hA0, hV, rfl, hfz, hnd⟩ := hW
  have hA : DataW.TrodAll enc Try.prog W 0 (fun _ => true) true Try.f8.params.toList args.toList ds p := hA0
  rw [Try.params8] at hA hval
  obtain ⟨v0, vs0, d0, ds0, p0, q0, hargs, rfl, rfl, h0, r0⟩ := trodAll_cons hA
  obtain ⟨v1, vs1, d1, ds1, p1, q1, rfl, rfl, rfl, h1, r1⟩ := trodAll_cons r0
  obtain ⟨rfl, rfl, rfl⟩ := trodAll_nil r1
  obtain rfl : args = #[v0, v1] := by cases args; simp_all
  clear hA0 hval0
  obtain ⟨a0, rfl, rfl, rfl, w0⟩ := open_int Try.underlying3 (hval 0 3 v0 rfl rfl) h0
  obtain ⟨a1, rfl, rfl, rfl, w1⟩ := open_int Try.underlying31 (hval 1 31 v1 rfl rfl) h1
  refine (walk W a0 w0 a1 w1).mono fun e W' ⟨he, hg⟩ => ?_
  subst he
  exact ⟨_, rfl, law_post Try.laidOut Try.mapsRowed Try.slicesFull (by kernel_rfl) rfl (by kernel_rfl) Try.underlying4 rfl hW' hg⟩

theorem over : Rows.wordTextsRow.holds Try.pinned (OpenSpec.ofChange Rows.wordTextsSpec) :=
  OpenClaim.holds_of_wide 8 Try.f8 rfl rfl rfl rfl rfl rfl rfl ⟨rfl, rfl, rfl, rfl, rfl⟩ rfl rfl rfl rfl rfl (by kernel_rfl) Try.func8 (by kernel_rfl)
    (of_decide_eq_true (by kernel_rfl)) (by unfold Func.isWrapper; first | (rw [if_pos (by decide +kernel)]; kernel_rfl) | (rw [if_neg (by decide +kernel)]; exact ⟨rfl, rfl⟩))
    (fun os started H enc _ => lifted os started H enc)

theorem proved : Rows.WordTextsSaid :=
  over
end Go.Proofs.Ytiapjdfbnfnnmaa.lawWordTexts
