/- pascalinelaw09.TypesTells returns true for every script and every one operation: of the types that the script made, what Find, Get, Simple, Takes, Equals and Ordered answer at the operation's numbers and name is what the document's answer says, with the same errors; its arguments read behind the call as before. Condition: none. -/
import Derived.Test.YtabkldahgjicbaaRows
import Derived.Test.YtabkldahgjicbaaLift
import Derived.Test.YtabkldahgjicbaaTypQ
import Derived.Test.YtabkldahgjicbaaTypS
import Derived.SizedLaws
namespace Go.Proofs.Ytabkldahgjicbaa.lawTypesTells
open Go.ChangeShapes Go.WideShapes Go.ChangeAt Go.RowKit
set_option linter.unusedVariables false
set_option maxHeartbeats 32000000 in
set_option maxRecDepth 100000 in
theorem walk (W : World) (A : Option Addr) (n c : Nat) (f : Nat → OpT) (hO : OpTs W A n f) (hm : n ≤ maxLen) (hz : ∀ j, j < n → (f j).name.size ≤ 140737488355328) (o : OpT) (hi : OpTIn o) (hzo : o.name.size ≤ 140737488355328) :
    Calls Try.prog 4 #[.slice A n c, .agg #[.int .i64 o.kind, .int .i64 o.a, .int .i64 o.b, .string o.name]] W fun e w' => e = .returned (.bool true) ∧ Below W.heap.size W w' := tells_walk W A n c f hO hm hz o

set_option maxRecDepth 100000 in
theorem lifted (os : Os) (started : os.Started) (H : Type) (enc : TypeId × Value → H) :
    ReturnsInHanded {} Try.checked os 4 .any (Rows.typesTellsSpec.pre6 enc Try.prog Try.f4 Rows.typesTellsRow.domain false) (Rows.typesTellsSpec.post enc Try.prog Try.f4 false true false false) := by
  refine returnsInHanded_of_change_sized (C := Try.checked) Try.own started (by kernel_rfl) Try.func4
    (ChangeSpec.witness6 (enc := enc) (C := Try.checked) false ⟨#[], #[.slice none 0 0, .agg #[.int .i64 0, .int .i64 0, .int .i64 0, .string ⟨#[]⟩]], []⟩ 8 (by kernel_rfl) (by kernel_rfl) (by kernel_rfl) (by kernel_rfl)) ?_
  intro W base args ds gs before hval0 hW hcnd hsz _
  have hval : ∀ (j : Nat) t v, Try.f4.params[j]? = some t → args[j]? = some v → Value.okWide Try.prog W .any base t v := hval0
  have hW' := hW
  obtain ⟨p, q, hA0, hV, rfl, hfz, hnd⟩ := hW
  have hA : DataW.TrodAll enc Try.prog W 0 (fun _ => true) true Try.f4.params.toList args.toList ds p := hA0
  rw [Try.params4] at hA hval
  obtain ⟨v0, vs0, d0, ds0, p0, q0, hargs, rfl, rfl, h0, r0⟩ := trodAll_cons hA
  obtain ⟨v1, vs1, d1, ds1, p1, q1, rfl, rfl, rfl, h1, r1⟩ := trodAll_cons r0
  obtain ⟨rfl, rfl, rfl⟩ := trodAll_nil r1
  obtain rfl : args = #[v0, v1] := by cases args; simp_all
  clear hA0 hval0
  obtain ⟨A0, n0, c0, f0, rfl, hO0, hm0, hw0⟩ := open_opTs Try.underlying22 Try.underlying30 (by kernel_rfl) rfl rfl rfl rfl (by kernel_rfl) (by kernel_rfl) (by kernel_rfl) (by kernel_rfl) (by kernel_rfl) (by kernel_rfl) (by kernel_rfl) (by kernel_rfl) (hval 0 22 v0 rfl rfl) h0
  have hz0 : ∀ j, j < n0 → (f0 j).name.size ≤ 140737488355328 := fun j hj => Nat.le_trans (of_decide_eq_true (List.all_eq_true.1 hsz _ (DataW.weights_mem_each (j := 0) (t := 22) rfl rfl _ (hw0 j hj)))) (by decide)
  obtain ⟨o1, rfl, hi1, hw1⟩ := open_opT Try.underlying30 (by kernel_rfl) rfl rfl rfl rfl (by kernel_rfl) (by kernel_rfl) (by kernel_rfl) (by kernel_rfl) (by kernel_rfl) (by kernel_rfl) (by kernel_rfl) (by kernel_rfl) (hval 1 30 v1 rfl rfl) h1
  have hz1 : o1.name.size ≤ 140737488355328 := Nat.le_trans (of_decide_eq_true (List.all_eq_true.1 hsz _ (DataW.weights_mem_each (j := 1) (t := 30) rfl rfl _ hw1))) (by decide)
  refine (walk W A0 n0 c0 f0 hO0 hm0 hz0 o1 hi1 hz1).mono fun e W' ⟨he, hg⟩ => ?_
  subst he
  exact ⟨_, rfl, law_post Try.laidOut Try.mapsRowed Try.slicesFull (by kernel_rfl) rfl (by kernel_rfl) Try.underlying4 rfl hW' hg⟩

theorem over : Rows.typesTellsRow.holds Try.pinned (OpenSpec.ofChange Rows.typesTellsSpec) :=
  OpenClaim.holds_of_wide 4 Try.f4 rfl rfl rfl rfl rfl rfl rfl ⟨rfl, rfl, rfl, rfl, rfl⟩ rfl rfl rfl rfl rfl (by kernel_rfl) Try.func4 (by kernel_rfl)
    (of_decide_eq_true (by kernel_rfl)) (by unfold Func.isWrapper; first | (rw [if_pos (by decide +kernel)]; kernel_rfl) | (rw [if_neg (by decide +kernel)]; exact ⟨rfl, rfl⟩))
    (fun os started H enc _ => lifted os started H enc)

theorem proved : Rows.TypesTellsSaid :=
  over
end Go.Proofs.Ytabkldahgjicbaa.lawTypesTells
