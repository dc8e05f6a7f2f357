/- pascalinelaw11.ScopeFinds returns true for every script, every name and every module's number: in the scopes that the script made, Find and Member answer the object that the document's answer has, with the same error; its arguments read behind the call as before. Condition: none. -/
import Derived.Test.YtpfoebnlngfebaaRows
import Derived.Test.YtpfoebnlngfebaaLift
import Derived.Test.YtpfoebnlngfebaaScpZ2
import Derived.Test.YtpfoebnlngfebaaScpX
import Derived.SizedLaws
namespace Go.Proofs.Ytpfoebnlngfebaa.lawScopeFinds
open Go.ChangeShapes Go.WideShapes Go.ChangeAt Go.RowKit
set_option linter.unusedVariables false
set_option maxHeartbeats 32000000 in
set_option maxRecDepth 100000 in
theorem walk (W : World) (A : Option Addr) (n c : Nat) (f : Nat → OpP) (hO : OpPs W W.heap.size A n f) (hm : n ≤ maxLen) (nm : ByteArray) (hnm : nm.size ≤ maxLen) (mo : Int) (hmo : (Lit.int .i64 mo).wf = true) :
    Calls Try.prog 4 #[.slice A n c, .string nm, .int .i64 mo] W fun e w' => e = .returned (.bool true) ∧ Below W.heap.size W w' := finds_walk W A n c f hO hm nm mo

set_option maxRecDepth 100000 in
theorem lifted (os : Os) (started : os.Started) (H : Type) (enc : TypeId × Value → H) :
    ReturnsInHanded {} Try.checked os 4 .any (Rows.scopeFindsSpec.pre6 enc Try.prog Try.f4 Rows.scopeFindsRow.domain false) (Rows.scopeFindsSpec.post enc Try.prog Try.f4 false true false false) := by
  refine returnsInHanded_of_change_sized (C := Try.checked) Try.own started (by kernel_rfl) Try.func4
    (ChangeSpec.witness6 (enc := enc) (C := Try.checked) false ⟨#[], #[.slice none 0 0, .string ⟨#[]⟩, .int .i64 0], []⟩ 8 (by kernel_rfl) (by kernel_rfl) (by kernel_rfl) (by kernel_rfl)) ?_
  intro W base args ds gs before hval0 hW hcnd hsz _
  have hval : ∀ (j : Nat) t v, Try.f4.params[j]? = some t → args[j]? = some v → Value.okWide Try.prog W .any base t v := hval0
  have hW' := hW
  obtain ⟨p, q, hA0, hV, rfl, hfz, hnd⟩ := hW
  have hA : DataW.TrodAll enc Try.prog W 0 (fun _ => true) true Try.f4.params.toList args.toList ds p := hA0
  rw [Try.params4] at hA hval
  obtain ⟨v0, vs0, d0, ds0, p0, q0, hargs, rfl, rfl, h0, r0⟩ := trodAll_cons hA
  obtain ⟨v1, vs1, d1, ds1, p1, q1, rfl, rfl, rfl, h1, r1⟩ := trodAll_cons r0
  obtain ⟨v2, vs2, d2, ds2, p2, q2, rfl, rfl, rfl, h2, r2⟩ := trodAll_cons r1
  obtain ⟨rfl, rfl, rfl⟩ := trodAll_nil r2
  obtain rfl : args = #[v0, v1, v2] := by cases args; simp_all
  clear hA0 hval0
  obtain ⟨A0, n0, c0, f0, rfl, hO0, hm0⟩ := open_opPs (hval 0 22 v0 rfl rfl) h0 (fun k hk => Nat.le_trans (of_decide_eq_true (List.all_eq_true.1 hsz _ (DataW.weights_mem_each (j := 0) (t := 22) rfl rfl _ hk))) (by decide))
  obtain ⟨s1, rfl, rfl, rfl, w1⟩ := Go.ChangeMaps.open_string Try.underlying9 (hval 1 9 v1 rfl rfl) h1
  obtain ⟨a2, rfl, rfl, rfl, w2⟩ := open_int Try.underlying3 (hval 2 3 v2 rfl rfl) h2
  refine (walk W A0 n0 c0 f0 hO0 hm0 s1 w1 a2 w2).mono fun e W' ⟨he, hg⟩ => ?_
  subst he
  exact ⟨_, rfl, law_post Try.laidOut Try.mapsRowed Try.slicesFull (by kernel_rfl) rfl (by kernel_rfl) Try.underlying4 rfl hW' hg⟩

theorem over : Rows.scopeFindsRow.holds Try.pinned (OpenSpec.ofChange Rows.scopeFindsSpec) :=
  OpenClaim.holds_of_wide 4 Try.f4 rfl rfl rfl rfl rfl rfl rfl ⟨rfl, rfl, rfl, rfl, rfl⟩ rfl rfl rfl rfl rfl (by kernel_rfl) Try.func4 (by kernel_rfl)
    (of_decide_eq_true (by kernel_rfl)) (by unfold Func.isWrapper; first | (rw [if_pos (by decide +kernel)]; kernel_rfl) | (rw [if_neg (by decide +kernel)]; exact ⟨rfl, rfl⟩))
    (fun os started H enc _ => lifted os started H enc)

theorem proved : Rows.ScopeFindsSaid :=
  over
end Go.Proofs.Ytpfoebnlngfebaa.lawScopeFinds
