/- pascalinelaw16.RangesFound returns true for all segments: what was marked, at words that rise, is what Find finds, at each such word, at the word ahead of the next one, and ahead of the first one (lists of more than 100 segments, or with a number beyond 1,000,000, or whose starts don't rise, are let go, as the statement says); the page's example holds; its argument reads behind the call as before. Condition: none. -/
import Derived.Test.YtmahnhghfanhpaaRows
import Derived.Test.YtmahnhghfanhpaaLift
import Derived.Test.YtmahnhghfanhpaaRngM
import Derived.SizedLaws
namespace Go.Proofs.Ytmahnhghfanhpaa.lawRangesFound
open Go.ChangeShapes Go.WideShapes Go.ChangeAt Go.RowKit
set_option linter.unusedVariables false
set_option maxHeartbeats 32000000 in
set_option maxRecDepth 100000 in
theorem walk (W : World) (A : Option Addr) (l : List Sg) (c : Nat) (hO : LstV sgCells W.heap.size W (.slice A l.length c) l) (hm : l.length * 16 ≤ 140737488355328) :
    Calls Try.prog 6 #[.slice A l.length c] W fun e w' => e = .returned (.bool true) ∧ Below W.heap.size W w' := found_walk W A l c hO hm

set_option maxRecDepth 100000 in
theorem lifted (os : Os) (started : os.Started) (H : Type) (enc : TypeId × Value → H) :
    ReturnsInHanded {} Try.checked os 6 .any (Rows.rangesFoundSpec.pre6 enc Try.prog Try.f6 Rows.rangesFoundRow.domain false) (Rows.rangesFoundSpec.post enc Try.prog Try.f6 false true false false) := by
  refine returnsInHanded_of_change_sized (C := Try.checked) Try.own started (by kernel_rfl) Try.func6
    (ChangeSpec.witness6 (enc := enc) (C := Try.checked) false ⟨#[], #[.slice none 0 0], []⟩ 8 (by kernel_rfl) (by kernel_rfl) (by kernel_rfl) (by kernel_rfl)) ?_
  intro W base args ds gs before hval0 hW hcnd hsz _
  have hval : ∀ (j : Nat) t v, Try.f6.params[j]? = some t → args[j]? = some v → Value.okWide Try.prog W .any base t v := hval0
  have hW' := hW
  obtain ⟨p, q, hA0, hV, rfl, hfz, hnd⟩ := hW
  have hA : DataW.TrodAll enc Try.prog W 0 (fun _ => true) true Try.f6.params.toList args.toList ds p := hA0
  rw [Try.params6] at hA hval
  obtain ⟨v0, vs0, d0, ds0, p0, q0, hargs, rfl, rfl, h0, r0⟩ := trodAll_cons hA
  obtain ⟨rfl, rfl, rfl⟩ := trodAll_nil r0
  obtain rfl : args = #[v0] := by cases args; simp_all
  clear hA0 hval0
  obtain ⟨A0, l0, c0, rfl, hO0, hm0⟩ := open_segs (hval 0 22 v0 rfl rfl) h0 (fun k hk => Nat.le_trans (of_decide_eq_true (List.all_eq_true.1 hsz _ (DataW.weights_mem_each (j := 0) (t := 22) rfl rfl _ hk))) (by decide))
  refine (walk W A0 l0 c0 hO0 hm0).mono fun e W' ⟨he, hg⟩ => ?_
  subst he
  exact ⟨_, rfl, law_post Try.laidOut Try.mapsRowed Try.slicesFull (by kernel_rfl) rfl (by kernel_rfl) Try.underlying4 rfl hW' hg⟩

theorem over : Rows.rangesFoundRow.holds Try.pinned (OpenSpec.ofChange Rows.rangesFoundSpec) :=
  OpenClaim.holds_of_wide 6 Try.f6 rfl rfl rfl rfl rfl rfl rfl ⟨rfl, rfl, rfl, rfl, rfl⟩ rfl rfl rfl rfl rfl (by kernel_rfl) Try.func6 (by kernel_rfl)
    (of_decide_eq_true (by kernel_rfl)) (by unfold Func.isWrapper; first | (rw [if_pos (by decide +kernel)]; kernel_rfl) | (rw [if_neg (by decide +kernel)]; exact ⟨rfl, rfl⟩))
    (fun os started H enc _ => lifted os started H enc)

theorem proved : Rows.RangesFoundSaid :=
  over
end Go.Proofs.Ytmahnhghfanhpaa.lawRangesFound
