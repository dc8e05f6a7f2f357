/- pascalinelaw16.RangesJoin returns true for all segments, every number of words and every size: segments that are moved, joined, and how many words they cover, are what the document's answer says (lists of more than 100 segments, or with a number beyond 1,000,000, and moves or sizes beyond it, are let go, as the statement says); the page's example holds; its arguments read behind the call as before. Condition: none. -/
import Derived.Test.YtmahnhghfanhpaaRows
import Derived.Test.YtmahnhghfanhpaaLift
import Derived.Test.YtmahnhghfanhpaaRngN
import Derived.Test.YtmahnhghfanhpaaArrI
import Derived.SizedLaws
namespace Go.Proofs.Ytmahnhghfanhpaa.lawRangesJoin
open Go.ChangeShapes Go.WideShapes Go.ChangeAt Go.RowKit
set_option linter.unusedVariables false
set_option maxHeartbeats 32000000 in
set_option maxRecDepth 100000 in
theorem walk (W : World) (A1 : Option Addr) (l1 : List Sg) (c1 : Nat) (hO1 : LstV sgCells W.heap.size W (.slice A1 l1.length c1) l1) (hm1 : l1.length * 16 ≤ 140737488355328) (A2 : Option Addr) (l2 : List Sg) (c2 : Nat) (hO2 : LstV sgCells W.heap.size W (.slice A2 l2.length c2) l2) (hm2 : l2.length * 16 ≤ 140737488355328) (y : Int) (hy : (Lit.int .i64 y).wf = true) (z : Int) (hz : (Lit.int .i64 z).wf = true) :
    Calls Try.prog 5 #[.slice A1 l1.length c1, .slice A2 l2.length c2, .agg #[.int .i64 y, .int .i64 z]] W fun e w' => e = .returned (.bool true) ∧ Below W.heap.size W w' := joins_walk W A1 l1 c1 hO1 hm1 A2 l2 c2 hO2 hm2 y z

set_option maxRecDepth 100000 in
theorem lifted (os : Os) (started : os.Started) (H : Type) (enc : TypeId × Value → H) :
    ReturnsInHanded {} Try.checked os 5 .any (Rows.rangesJoinSpec.pre6 enc Try.prog Try.f5 Rows.rangesJoinRow.domain false) (Rows.rangesJoinSpec.post enc Try.prog Try.f5 false true false false) := by
  refine returnsInHanded_of_change_sized (C := Try.checked) Try.own started (by kernel_rfl) Try.func5
    (ChangeSpec.witness6 (enc := enc) (C := Try.checked) false ⟨#[], #[.slice none 0 0, .slice none 0 0, .agg #[.int .i64 0, .int .i64 0]], []⟩ 8 (by kernel_rfl) (by kernel_rfl) (by kernel_rfl) (by kernel_rfl)) ?_
  intro W base args ds gs before hval0 hW hcnd hsz _
  have hval : ∀ (j : Nat) t v, Try.f5.params[j]? = some t → args[j]? = some v → Value.okWide Try.prog W .any base t v := hval0
  have hW' := hW
  obtain ⟨p, q, hA0, hV, rfl, hfz, hnd⟩ := hW
  have hA : DataW.TrodAll enc Try.prog W 0 (fun _ => true) true Try.f5.params.toList args.toList ds p := hA0
  rw [Try.params5] at hA hval
  obtain ⟨v0, vs0, d0, ds0, p0, q0, hargs, rfl, rfl, h0, r0⟩ := trodAll_cons hA
  obtain ⟨v1, vs1, d1, ds1, p1, q1, rfl, rfl, rfl, h1, r1⟩ := trodAll_cons r0
  obtain ⟨v2, vs2, d2, ds2, p2, q2, rfl, rfl, rfl, h2, r2⟩ := trodAll_cons r1
  obtain ⟨rfl, rfl, rfl⟩ := trodAll_nil r2
  obtain rfl : args = #[v0, v1, v2] := by cases args; simp_all
  clear hA0 hval0
  obtain ⟨A0, l0, c0, rfl, hO0, hm0⟩ := open_segs (hval 0 22 v0 rfl rfl) h0 (fun k hk => Nat.le_trans (of_decide_eq_true (List.all_eq_true.1 hsz _ (DataW.weights_mem_each (j := 0) (t := 22) rfl rfl _ hk))) (by decide))
  obtain ⟨A1, l1, c1, rfl, hO1, hm1⟩ := open_segs (hval 1 22 v1 rfl rfl) h1 (fun k hk => Nat.le_trans (of_decide_eq_true (List.all_eq_true.1 hsz _ (DataW.weights_mem_each (j := 1) (t := 22) rfl rfl _ hk))) (by decide))
  obtain ⟨zs2, rfl, hl2, w2⟩ := open_arr_ints (k := .i64) Try.underlying36 Try.underlying3 (by kernel_rfl) (by kernel_rfl) (hval 2 36 v2 rfl rfl) h2
  obtain ⟨x20, x21, rfl⟩ := two_ints hl2
  refine (walk W A0 l0 c0 hO0 hm0 A1 l1 c1 hO1 hm1 x20 (w2 x20 (by simp)) x21 (w2 x21 (by simp))).mono fun e W' ⟨he, hg⟩ => ?_
  subst he
  exact ⟨_, rfl, law_post Try.laidOut Try.mapsRowed Try.slicesFull (by kernel_rfl) rfl (by kernel_rfl) Try.underlying4 rfl hW' hg⟩

theorem over : Rows.rangesJoinRow.holds Try.pinned (OpenSpec.ofChange Rows.rangesJoinSpec) :=
  OpenClaim.holds_of_wide 5 Try.f5 rfl rfl rfl rfl rfl rfl rfl ⟨rfl, rfl, rfl, rfl, rfl⟩ rfl rfl rfl rfl rfl (by kernel_rfl) Try.func5 (by kernel_rfl)
    (of_decide_eq_true (by kernel_rfl)) (by unfold Func.isWrapper; first | (rw [if_pos (by decide +kernel)]; kernel_rfl) | (rw [if_neg (by decide +kernel)]; exact ⟨rfl, rfl⟩))
    (fun os started H enc _ => lifted os started H enc)

theorem proved : Rows.RangesJoinSaid :=
  over
end Go.Proofs.Ytmahnhghfanhpaa.lawRangesJoin
