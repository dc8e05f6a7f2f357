/- pascalinelaw11.ScopeNested returns true for every script, every object and every number: behind the script so many more scopes can be opened as there is room for; an object that is declared within them is what its name names, till they are closed; then the name names what it named before, or nothing; its arguments read behind the call as before. Condition: none. -/
import Derived.Test.YtpfoebnlngfebaaRows
import Derived.Test.YtpfoebnlngfebaaLift
import Derived.Test.YtpfoebnlngfebaaScpN1
import Derived.Test.YtpfoebnlngfebaaScpX
import Derived.SizedLaws
namespace Go.Proofs.Ytpfoebnlngfebaa.lawScopeNested
open Go.ChangeShapes Go.WideShapes Go.ChangeAt Go.RowKit
set_option linter.unusedVariables false
set_option maxHeartbeats 32000000 in
set_option maxRecDepth 100000 in
theorem walk (W : World) (A : Option Addr) (n c : Nat) (f : Nat → OpP) (hO : OpPs W W.heap.size A n f) (hm : n ≤ maxLen) (x : Ob) (Ax : Option Addr) (cx : Nat) (hpx : ParV W.heap.size W (.slice Ax x.ps.length cx) x.ps) (hkx : ObOk x) (mo : Int) (hmo : (Lit.int .u8 mo).wf = true) :
    Calls Try.prog 5 #[.slice A n c, .agg #[.string x.nm, .int .i64 x.kd, .int .i64 x.ty, .int .i64 x.lv, .int .i32 x.nn, .int .i64 x.md, .bool x.ou, .slice Ax x.ps.length cx], .int .u8 mo] W fun e w' => e = .returned (.bool true) ∧ Below W.heap.size W w' := by
  have h1 := bounds_u8 hmo
  obtain ⟨t, rfl⟩ : ∃ t : Nat, mo = (t : Int) := ⟨mo.toNat, by omega⟩
  exact nested_walk W A n c f hO hm x Ax cx hpx hkx t (by omega)

set_option maxRecDepth 100000 in
theorem lifted (os : Os) (started : os.Started) (H : Type) (enc : TypeId × Value → H) :
    ReturnsInHanded {} Try.checked os 5 .any (Rows.scopeNestedSpec.pre6 enc Try.prog Try.f5 Rows.scopeNestedRow.domain false) (Rows.scopeNestedSpec.post enc Try.prog Try.f5 false true false false) := by
  refine returnsInHanded_of_change_sized (C := Try.checked) Try.own started (by kernel_rfl) Try.func5
    (ChangeSpec.witness6 (enc := enc) (C := Try.checked) false ⟨#[], #[.slice none 0 0, .agg #[.string ⟨#[]⟩, .int .i64 0, .int .i64 0, .int .i64 0, .int .i32 0, .int .i64 0, .bool false, .slice none 0 0], .int .u8 0], []⟩ 8 (by kernel_rfl) (by kernel_rfl) (by kernel_rfl) (by kernel_rfl)) ?_
  intro W base args ds gs before hval0 hW hcnd hsz _
  have hval : ∀ (j : Nat) t v, Try.f5.params[j]? = some t → args[j]? = some v → Value.okWide Try.prog W .any base t v := hval0
  have hW' := hW
  obtain ⟨p, q, hA0, hV, rfl, hfz, hnd⟩ := hW
  have hA : DataW.TrodAll enc Try.prog W 0 (fun _ => true) true Try.f5.params.toList args.toList ds p := hA0
  rw [Try.params5] at hA hval
  obtain ⟨v0, vs0, d0, ds0, p0, q0, hargs, rfl, rfl, h0, r0⟩ := trodAll_cons hA
  obtain ⟨v1, vs1, d1, ds1, p1, q1, rfl, rfl, rfl, h1, r1⟩ := trodAll_cons r0
  obtain ⟨v2, vs2, d2, ds2, p2, q2, rfl, rfl, rfl, h2, r2⟩ := trodAll_cons r1
  obtain ⟨rfl, rfl, rfl⟩ := trodAll_nil r2
  obtain rfl : args = #[v0, v1, v2] := by cases args; simp_all
  clear hA0 hval0
  obtain ⟨A0, n0, c0, f0, rfl, hO0, hm0⟩ := open_opPs (hval 0 22 v0 rfl rfl) h0 (fun k hk => Nat.le_trans (of_decide_eq_true (List.all_eq_true.1 hsz _ (DataW.weights_mem_each (j := 0) (t := 22) rfl rfl _ hk))) (by decide))
  obtain ⟨x1, A1, c1, rfl, hp1, hk1⟩ := open_obP (hval 1 38 v1 rfl rfl) h1 (fun k hk => Nat.le_trans (of_decide_eq_true (List.all_eq_true.1 hsz _ (DataW.weights_mem_each (j := 1) (t := 38) rfl rfl _ hk))) (by decide))
  obtain ⟨a2, rfl, rfl, rfl, w2⟩ := open_int Try.underlying5 (hval 2 5 v2 rfl rfl) h2
  refine (walk W A0 n0 c0 f0 hO0 hm0 x1 A1 c1 hp1 hk1 a2 w2).mono fun e W' ⟨he, hg⟩ => ?_
  subst he
  exact ⟨_, rfl, law_post Try.laidOut Try.mapsRowed Try.slicesFull (by kernel_rfl) rfl (by kernel_rfl) Try.underlying4 rfl hW' hg⟩

theorem over : Rows.scopeNestedRow.holds Try.pinned (OpenSpec.ofChange Rows.scopeNestedSpec) :=
  OpenClaim.holds_of_wide 5 Try.f5 rfl rfl rfl rfl rfl rfl rfl ⟨rfl, rfl, rfl, rfl, rfl⟩ rfl rfl rfl rfl rfl (by kernel_rfl) Try.func5 (by kernel_rfl)
    (of_decide_eq_true (by kernel_rfl)) (by unfold Func.isWrapper; first | (rw [if_pos (by decide +kernel)]; kernel_rfl) | (rw [if_neg (by decide +kernel)]; exact ⟨rfl, rfl⟩))
    (fun os started H enc _ => lifted os started H enc)

theorem proved : Rows.ScopeNestedSaid :=
  over
end Go.Proofs.Ytpfoebnlngfebaa.lawScopeNested
