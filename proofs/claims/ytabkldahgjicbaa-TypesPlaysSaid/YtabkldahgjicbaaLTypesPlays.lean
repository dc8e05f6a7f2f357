/- pascalinelaw09.TypesPlays returns true for every script: whatever arrays, records, fields and pointers are made, the program's table and the document's answer are the same types, with the same numbers and errors; its argument reads behind the call as before. Condition: none. -/
import Derived.Test.YtabkldahgjicbaaRows
import Derived.Test.YtabkldahgjicbaaLift
import Derived.Test.YtabkldahgjicbaaTypY
import Derived.Test.YtabkldahgjicbaaTypS
import Derived.SizedLaws
namespace Go.Proofs.Ytabkldahgjicbaa.lawTypesPlays
open Go.ChangeShapes Go.WideShapes Go.ChangeAt Go.RowKit
set_option linter.unusedVariables false
set_option maxHeartbeats 8000000 in
set_option maxRecDepth 100000 in
theorem walk (W : World) (A : Option Addr) (n c : Nat) (f : Nat → OpT) (hO : OpTs W A n f) (hm : n ≤ maxLen) (hz : ∀ j, j < n → (f j).name.size ≤ 140737488355328) :
    Calls Try.prog 3 #[.slice A n c] W fun e w' => e = .returned (.bool true) ∧ Below W.heap.size W w' := by
  have AW := Lib.hid (awake09_any W)
  have PL := Lib.hid (fun w1 (hb : Below W.heap.size W w1) => played_any A n c f W.heap.size w1 hb.size (fun W' h => hO.below (hb.trans h)) hm hz)
  unfold PlayedPost at PL
  clear hO hm hz
  go_enter Try.func3, Try.ntmps3
  go_wp2_with fail
  refine AW.out.mono ?_
  rintro e w1 ⟨rfl, hb1⟩
  have B1 := Lib.hid hb1
  clear hb1 AW
  go_wp2_with fail
  refine (PL.out _ B1.out).mono ?_
  rintro e w2 ⟨p, u, rfl, k, v, L, M, _, _, _, hT, hR, hb2⟩
  have B2 := Lib.hid (B1.out.trans hb2)
  obtain ⟨Au, cu, rfl⟩ := row_form hR.rows
  clear hT hR hb2 PL
  go_wp2_with fail
  go_ret
  exact ⟨rfl, B2.out⟩

set_option maxRecDepth 100000 in
theorem lifted (os : Os) (started : os.Started) (H : Type) (enc : TypeId × Value → H) :
    ReturnsInHanded {} Try.checked os 3 .any (Rows.typesPlaysSpec.pre6 enc Try.prog Try.f3 Rows.typesPlaysRow.domain false) (Rows.typesPlaysSpec.post enc Try.prog Try.f3 false true false false) := by
  refine returnsInHanded_of_change_sized (C := Try.checked) Try.own started (by kernel_rfl) Try.func3
    (ChangeSpec.witness6 (enc := enc) (C := Try.checked) false ⟨#[], #[.slice none 0 0], []⟩ 8 (by kernel_rfl) (by kernel_rfl) (by kernel_rfl) (by kernel_rfl)) ?_
  intro W base args ds gs before hval0 hW hcnd hsz _
  have hval : ∀ (j : Nat) t v, Try.f3.params[j]? = some t → args[j]? = some v → Value.okWide Try.prog W .any base t v := hval0
  have hW' := hW
  obtain ⟨p, q, hA0, hV, rfl, hfz, hnd⟩ := hW
  have hA : DataW.TrodAll enc Try.prog W 0 (fun _ => true) true Try.f3.params.toList args.toList ds p := hA0
  rw [Try.params3] at hA hval
  obtain ⟨v0, vs0, d0, ds0, p0, q0, hargs, rfl, rfl, h0, r0⟩ := trodAll_cons hA
  obtain ⟨rfl, rfl, rfl⟩ := trodAll_nil r0
  obtain rfl : args = #[v0] := by cases args; simp_all
  clear hA0 hval0
  obtain ⟨A0, n0, c0, f0, rfl, hO0, hm0, hw0⟩ := open_opTs Try.underlying22 Try.underlying30 (by kernel_rfl) rfl rfl rfl rfl (by kernel_rfl) (by kernel_rfl) (by kernel_rfl) (by kernel_rfl) (by kernel_rfl) (by kernel_rfl) (by kernel_rfl) (by kernel_rfl) (hval 0 22 v0 rfl rfl) h0
  have hz0 : ∀ j, j < n0 → (f0 j).name.size ≤ 140737488355328 := fun j hj => Nat.le_trans (of_decide_eq_true (List.all_eq_true.1 hsz _ (DataW.weights_mem_each (j := 0) (t := 22) rfl rfl _ (hw0 j hj)))) (by decide)
  refine (walk W A0 n0 c0 f0 hO0 hm0 hz0).mono fun e W' ⟨he, hg⟩ => ?_
  subst he
  exact ⟨_, rfl, law_post Try.laidOut Try.mapsRowed Try.slicesFull (by kernel_rfl) rfl (by kernel_rfl) Try.underlying4 rfl hW' hg⟩

theorem over : Rows.typesPlaysRow.holds Try.pinned (OpenSpec.ofChange Rows.typesPlaysSpec) :=
  OpenClaim.holds_of_wide 3 Try.f3 rfl rfl rfl rfl rfl rfl rfl ⟨rfl, rfl, rfl, rfl, rfl⟩ rfl rfl rfl rfl rfl (by kernel_rfl) Try.func3 (by kernel_rfl)
    (of_decide_eq_true (by kernel_rfl)) (by unfold Func.isWrapper; first | (rw [if_pos (by decide +kernel)]; kernel_rfl) | (rw [if_neg (by decide +kernel)]; exact ⟨rfl, rfl⟩))
    (fun os started H enc _ => lifted os started H enc)

theorem proved : Rows.TypesPlaysSaid :=
  over
end Go.Proofs.Ytabkldahgjicbaa.lawTypesPlays
