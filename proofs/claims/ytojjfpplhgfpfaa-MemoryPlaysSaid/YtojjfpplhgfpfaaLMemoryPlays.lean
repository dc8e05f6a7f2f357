/- MemoryPlays: whatever layout is asked for and whatever stores, fills and clones are called, package memory does what the document's answers do: the same errors, the same words. No condition beyond the row's own. -/
import Derived.Test.YtojjfpplhgfpfaaRows
import Derived.Test.YtojjfpplhgfpfaaLift
import Derived.Test.YtojjfpplhgfpfaaMemR
import Derived.Test.YtojjfpplhgfpfaaMemT
namespace Go.Proofs.Ytojjfpplhgfpfaa.lawMemoryPlays
open Go.ChangeShapes Go.WideShapes Go.ChangeAt Go.RowKit
set_option linter.unusedVariables false
/-- A layout that is tried: its words. -/
theorem few_words {e0 e1 e2 e3 e4 : Int} {n2 : Nat} {f : Nat → OpR} (u0 : U32 e0) (u1 : U32 e1) (u2 : U32 e2) (u3 : U32 e3) (u4 : U32 e4) (hF : FewOk e0 e1 e2 e3 e4 n2 f) (hok : okEnds e0 e1 e2 e3 e4 = true) : ∃ n : Nat, e4 = 4 * n ∧ n ≤ 1024 ∧ e0 ≤ e4 ∧ e1 ≤ e4 := by
  have hk := hok
  unfold okEnds at hk
  simp only [Bool.and_eq_true] at hk
  obtain ⟨h0, h1, h2, h3, h4⟩ := hk
  have a1 := okEnd_yes h1
  have a2 := okEnd_yes h2
  have a3 := okEnd_yes h3
  have a4 := okEnd_yes h4
  have hs : ¬ 4096 < e4 := fun h => hF.1 ⟨hok, h⟩
  have := u4.1
  exact ⟨(e4 / 4).toNat, by omega, by omega, by omega, by omega⟩

set_option maxHeartbeats 8000000 in
set_option maxRecDepth 100000 in
theorem walk (w : World) (e0 : Int) (v0 : (Lit.int .u32 e0).wf = true) (e1 : Int) (v1 : (Lit.int .u32 e1).wf = true) (e2 : Int) (v2 : (Lit.int .u32 e2).wf = true) (e3 : Int) (v3 : (Lit.int .u32 e3).wf = true) (e4 : Int) (v4 : (Lit.int .u32 e4).wf = true) (A : Option Addr) (n2 c : Nat) (f : Nat → OpR) (hO : OpsAt w A n2 f) (hm : n2 ≤ maxLen) :
    Calls Try.prog 3 #[.agg #[.int .u32 e0, .int .u32 e1, .int .u32 e2, .int .u32 e3, .int .u32 e4], .slice A n2 c] w fun e w' => e = .returned (.bool true) ∧ Below w.heap.size w w' := by
  have OA := Lib.hid hO
  have FW := Lib.hid (fun w h => few_any e0 e1 e2 e3 e4 A n2 c f w (u32_of_wf v0) (u32_of_wf v1) (u32_of_wf v2) (u32_of_wf v3) (u32_of_wf v4) h)
  have GOOD := Lib.hid (fun n hl hn w hok h hF hn4 => played_ok e0 e1 e2 e3 e4 n A n2 c f w (u32_of_wf v0) (u32_of_wf v1) (u32_of_wf v2) (u32_of_wf v3) (u32_of_wf v4) hok hl hn h hF hn4)
  have BAD := Lib.hid (fun w hok => played_bad e0 e1 e2 e3 e4 A n2 c w (u32_of_wf v0) (u32_of_wf v1) (u32_of_wf v2) (u32_of_wf v3) (u32_of_wf v4) hok)
  have LW := Lib.hid (fun hF hok => few_words (n2 := n2) (f := f) (u32_of_wf v0) (u32_of_wf v1) (u32_of_wf v2) (u32_of_wf v3) (u32_of_wf v4) hF hok)
  clear hO hm v0 v1 v2 v3 v4
  unfold endsV at *
  go_enter Try.func3, Try.ntmps3
  go_wp2_with fail
  refine (awake3_any _).mono ?_
  rintro e w1 ⟨rfl, hb1⟩
  have Q1 := Lib.hid ((Whole.made w 24 #[.int .u32 e0, .int .u32 e1, .int .u32 e2, .int .u32 e3, .int .u32 e4] _ rfl).below hb1 (by simp))
  have B1 := Lib.hid (((Below.refl _ _).alloc (Nat.le_refl _) _).trans (hb1.mono (show w.heap.size ≤ _ by simp)))
  clear hb1
  have q0 : w1.cell? ⟨w.heap.size, 0, none⟩ = some (.int .u32 e0) := Q1.out.cell 0
  have q1 : w1.cell? ⟨w.heap.size, 1, none⟩ = some (.int .u32 e1) := Q1.out.cell 1
  have q2 : w1.cell? ⟨w.heap.size, 2, none⟩ = some (.int .u32 e2) := Q1.out.cell 2
  have q3 : w1.cell? ⟨w.heap.size, 3, none⟩ = some (.int .u32 e3) := Q1.out.cell 3
  have q4 : w1.cell? ⟨w.heap.size, 4, none⟩ = some (.int .u32 e4) := Q1.out.cell 4
  go_wp2_with fail
  clear q0 q1 q2 q3 q4
  refine (FW.out _ (OA.out.below B1.out)).mono ?_
  rintro e w2 ⟨b, rfl, hf, hb2⟩
  have Q2 := Lib.hid (Q1.out.below hb2 Q1.out.lt)
  have B2 := Lib.hid (B1.out.trans (hb2.mono B1.out.size))
  have HF := Lib.hid hf
  clear hb2 hf
  have q0 : w2.cell? ⟨w.heap.size, 0, none⟩ = some (.int .u32 e0) := Q2.out.cell 0
  have q1 : w2.cell? ⟨w.heap.size, 1, none⟩ = some (.int .u32 e1) := Q2.out.cell 1
  have q2 : w2.cell? ⟨w.heap.size, 2, none⟩ = some (.int .u32 e2) := Q2.out.cell 2
  have q3 : w2.cell? ⟨w.heap.size, 3, none⟩ = some (.int .u32 e3) := Q2.out.cell 3
  have q4 : w2.cell? ⟨w.heap.size, 4, none⟩ = some (.int .u32 e4) := Q2.out.cell 4
  cases b with
  | false =>
    go_wp2_with fail
    go_ret
    exact ⟨rfl, B2.out⟩
  | true =>
    by_cases hk : okEnds e0 e1 e2 e3 e4 = true
    · obtain ⟨n, hl, hn, _, _⟩ := LW.out (HF.out rfl) hk
      have PL := Lib.hid (GOOD.out n hl (by omega) w2 hk (OA.out.below B2.out) (HF.out rfl).2.2 (HF.out rfl).2.1)
      clear hl hk GOOD BAD LW HF
      unfold PlayedPost memCells at PL
      go_wp2_with fail
      clear q0 q1 q2 q3 q4
      refine PL.out.mono ?_
      rintro e w3 ⟨p, h, h2, ws, rfl, hM, hW, hK, hln, hu, g1, g2, n1, n2, hb3⟩
      have B3 := Lib.hid (B2.out.trans (hb3.mono B2.out.size))
      clear hb3 hM hW hK hln hu
      go_wp2_with fail
      go_ret
      exact ⟨rfl, B3.out.alloc B3.out.size _⟩
    · have PL := Lib.hid (BAD.out w2 (by simpa using hk))
      clear hk GOOD BAD LW HF
      go_wp2_with fail
      clear q0 q1 q2 q3 q4
      refine PL.out.mono ?_
      rintro e w3 ⟨rfl, hb3⟩
      have B3 := Lib.hid (B2.out.trans (hb3.mono B2.out.size))
      clear hb3
      go_wp2_with fail
      go_ret
      exact ⟨rfl, B3.out.alloc B3.out.size _⟩

set_option maxRecDepth 100000 in
theorem lifted (os : Os) (started : os.Started) (H : Type) (enc : TypeId × Value → H) :
    ReturnsInHanded {} Try.checked os 3 .any (Rows.memoryPlaysSpec.pre6 enc Try.prog Try.f3 Rows.memoryPlaysRow.domain false) (Rows.memoryPlaysSpec.post enc Try.prog Try.f3 false true false false) := by
  refine returnsInHanded_of_change (C := Try.checked) Try.own started (by kernel_rfl) Try.func3
    (ChangeSpec.witness6 (enc := enc) (C := Try.checked) false ⟨#[], #[.agg #[.int .u32 0, .int .u32 0, .int .u32 0, .int .u32 0, .int .u32 0], .slice none 0 0], []⟩ 8 (by kernel_rfl) (by kernel_rfl) (by kernel_rfl) (by kernel_rfl)) ?_
  intro W base args ds gs before hval0 hW hcnd _
  have hval : ∀ (j : Nat) t v, Try.f3.params[j]? = some t → args[j]? = some v → Value.okWide Try.prog W .any base t v := hval0
  have hW' := hW
  obtain ⟨p, q, hA0, hV, rfl, hfz, hnd⟩ := hW
  have hA : DataW.TrodAll enc Try.prog W 0 (fun _ => true) true Try.f3.params.toList args.toList ds p := hA0
  rw [Try.params3] at hA hval
  obtain ⟨v0, vs0, d0, ds0, p0, q0, hargs, rfl, rfl, h0, r0⟩ := trodAll_cons hA
  obtain ⟨v1, vs1, d1, ds1, p1, q1, rfl, rfl, rfl, h1, r1⟩ := trodAll_cons r0
  obtain ⟨rfl, rfl, rfl⟩ := trodAll_nil r1
  obtain rfl : args = #[v0, v1] := by cases args; simp_all
  clear hA0 hval0
  obtain ⟨zs0, rfl, hl0, w0⟩ := open_ints_struct (k := .u32) Try.underlying24 (by kernel_rfl) (by kernel_rfl) (by kernel_rfl) (hval 0 24 v0 rfl rfl) h0
  obtain ⟨x00, x01, x02, x03, x04, rfl⟩ := list_five' hl0
  obtain ⟨A1, n1, c1, f1, rfl, hO1, hm1⟩ := open_ops Try.underlying25 Try.underlying51 (by kernel_rfl) rfl rfl rfl rfl (by kernel_rfl) (by kernel_rfl) (by kernel_rfl) (by kernel_rfl) (by kernel_rfl) (by kernel_rfl) (by kernel_rfl) (by kernel_rfl) Try.underlying22 (by kernel_rfl) (hval 1 25 v1 rfl rfl) h1
  refine (walk W x00 (w0 x00 (by simp)) x01 (w0 x01 (by simp)) x02 (w0 x02 (by simp)) x03 (w0 x03 (by simp)) x04 (w0 x04 (by simp)) A1 n1 c1 f1 hO1 hm1).mono fun e W' ⟨he, hg⟩ => ?_
  subst he
  exact ⟨_, rfl, law_post Try.laidOut Try.mapsRowed Try.slicesFull (by kernel_rfl) rfl (by kernel_rfl) Try.underlying4 rfl hW' hg⟩

theorem over : Rows.memoryPlaysRow.holds Try.pinned (OpenSpec.ofChange Rows.memoryPlaysSpec) :=
  OpenClaim.holds_of_wide 3 Try.f3 rfl rfl rfl rfl rfl rfl rfl ⟨rfl, rfl, rfl, rfl, rfl⟩ rfl rfl rfl rfl rfl (by kernel_rfl) Try.func3 (by kernel_rfl)
    (of_decide_eq_true (by kernel_rfl)) (by unfold Func.isWrapper; first | (rw [if_pos (by decide +kernel)]; kernel_rfl) | (rw [if_neg (by decide +kernel)]; exact ⟨rfl, rfl⟩))
    (fun os started H enc _ => lifted os started H enc)

theorem proved : Rows.MemoryPlaysSaid :=
  over
end Go.Proofs.Ytojjfpplhgfpfaa.lawMemoryPlays
