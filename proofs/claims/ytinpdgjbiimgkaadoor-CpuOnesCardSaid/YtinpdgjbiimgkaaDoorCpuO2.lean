/- CpuOn in one. -/
import Derived.Test.YtinpdgjbiimgkaaDoorCpuTS
import Derived.Test.YtinpdgjbiimgkaaDoorMemFT
import Derived.Test.YtinpdgjbiimgkaaDoorInstrE

/- The laws of package cpu: a case with another entry; a word laid in both memories. -/
namespace Go.Proofs.YtinpdgjbiimgkaaDoor
open Go.ChangeShapes Go.WideShapes Go.ChangeAt Go.RowKit
set_option linter.unusedVariables false

theorem list_five {α : Type} {zs : List α} (h : zs.length = 5) : ∃ a b c d e, zs = [a, b, c, d, e] := by
  match zs, h with
  | [a, b, c, d, e], _ => exact ⟨a, b, c, d, e, rfl⟩

set_option maxRecDepth 100000 in
theorem case_use_at {w : World} {CA : Array Value} {e0 e1 e2 e3 e4 s0 s1 s2 s3 r0 r1 r2 r3 r4 r5 r6 r7 r8 r9 r10 r11 r12 r13 r14 r15 : Int} {Aw : Option Addr} {nw cw : Nat} {zw : List Int} {Ai : Option Addr} {ni ci : Nat} {inp : List Int} (K : CaseIn w CA [e0, e1, e2, e3, e4] [s0, s1, s2, s3] [r0, r1, r2, r3, r4, r5, r6, r7, r8, r9, r10, r11, r12, r13, r14, r15] Aw nw cw zw Ai ni ci inp) :
    CaseUse w CA e0 e1 e2 e3 e4 s0 s1 s2 s3 [r0, r1, r2, r3, r4, r5, r6, r7, r8, r9, r10, r11, r12, r13, r14, r15] (e4 / 4).toNat nw zw Ai ni ci inp := by
  have hc : CA = #[.int .u32 e0, .int .u32 e1, .int .u32 e2, .int .u32 e3, .int .u32 e4, .int .u32 s0, .int .u32 s1, .int .u32 s2, .int .u32 s3, .slice Aw nw cw, .int .u32 r0, .int .u32 r1, .int .u32 r2, .int .u32 r3, .int .u32 r4, .int .u32 r5, .int .u32 r6, .int .u32 r7, .int .u32 r8, .int .u32 r9, .int .u32 r10, .int .u32 r11, .int .u32 r12, .int .u32 r13, .int .u32 r14, .int .u32 r15, .slice Ai ni ci] := Array.ext' K.cells
  have u0 := u32wf (K.ew e0 (by simp))
  have u1 := u32wf (K.ew e1 (by simp))
  have u2 := u32wf (K.ew e2 (by simp))
  have u3 := u32wf (K.ew e3 (by simp))
  have u4 := u32wf (K.ew e4 (by simp))
  have hm4 : Few4 e0 e1 e2 e3 e4 nw ni → e4 = 4 * ((e4 / 4).toNat : Int) ∧ (e4 / 4).toNat ≤ 1024 := fun h => by
    have := ends_sum h.1
    have := h.2.1
    omega
  have hzl : zw.length = nw := K.wn.1
  refine { size := by rw [hc]; rfl, c0 := by rw [hc]; rfl, c1 := by rw [hc]; rfl, c5 := by rw [hc]; rfl, c6 := by rw [hc]; rfl, c7 := by rw [hc]; rfl, c8 := by rw [hc]; rfl, u0 := u0, u1 := u1, u4 := u4, v0 := u32wf (K.sw s0 (by simp)), few := fun W => ?_, begun := fun W hb hF => ?_, fine := ?_, m4 := hm4, iw := K.iw, il := K.inn.1, one := ?_ }
  · rw [hc]
    exact few4_any e0 e1 e2 e3 e4 s0 s1 s2 s3 r0 r1 r2 r3 r4 r5 r6 r7 r8 r9 r10 r11 r12 r13 r14 r15 Aw Ai nw cw ni ci W u0 u1 u2 u3 u4
  · have h4 := hm4 hF
    exact begun_any e0 e1 e2 e3 e4 s0 s1 s2 s3 r0 r1 r2 r3 r4 r5 r6 r7 r8 r9 r10 r11 r12 r13 r14 r15 CA Aw Ai nw cw ni ci (e4 / 4).toNat (min nw (e4 / 4).toNat) zw inp W u0 u1 u2 u3 u4 hF.1 (by omega) h4.2 hF.2.2.1 K.wc hF.2.2.2 (by omega) (by omega) (by omega) K.wz K.iz (K.wn.below hb) (K.inn.below hb) (by rw [hc]; rfl) (by rw [hc]; rfl) (by rw [hc]; rfl) (by rw [hc]; rfl) (by rw [hc]; rfl) (by rw [hc]; rfl) (by rw [hc]; rfl) (by rw [hc]; rfl) (by rw [hc]; rfl) (by rw [hc]; rfl) (by rw [hc]; rfl) (by rw [hc]; rfl) (by rw [hc]; rfl) (by rw [hc]; rfl)
  · refine ⟨rfl, fun z hz => u32wf (K.rw z hz), u32wf (K.sw s0 (by simp)), by unfold U32; exact ⟨Int.le_refl _, by show (0:Int) ≤ 4294967295; omega⟩, by unfold U32; exact ⟨Int.le_refl _, by show (0:Int) ≤ 4294967295; omega⟩, u32wf (K.sw s1 (by simp)), u32wf (K.sw s2 (by simp)), u32wf (K.sw s3 (by simp)), caseWs_len hzl, caseWs_u32 (fun z hz => u32wf (K.ww z hz)), ⟨Int.le_refl _, by show (0:Int) ≤ _; omega⟩⟩
  · rw [hc, Array.all_eq_true_iff_forall_mem]
    intro v hv
    simp at hv
    rcases hv with rfl | rfl | rfl | rfl | rfl | rfl | rfl | rfl | rfl | rfl | rfl | rfl | rfl | rfl | rfl | rfl | rfl | rfl | rfl | rfl | rfl | rfl | rfl | rfl | rfl | rfl | rfl <;> rfl

/-- What CpuOnes uses of its case, ahead of the other entry and behind it. -/
theorem case_both {w : World} {CA : Array Value} {es ss rs : List Int} {Aw : Option Addr} {nw cw : Nat} {zw : List Int} {Ai : Option Addr} {ni ci : Nat} {inp : List Int} (K : CaseIn w CA es ss rs Aw nw cw zw Ai ni ci inp) :
    ∃ e0 e1 e2 e3 e4 s0 s1 s2 s3 r m, CaseUse w CA e0 e1 e2 e3 e4 s0 s1 s2 s3 r m nw zw Ai ni ci inp ∧ ∀ z, U32 z → CaseUse w (CA.setIfInBounds 5 (.int .u32 z)) e0 e1 e2 e3 e4 z s1 s2 s3 r m nw zw Ai ni ci inp := by
  obtain ⟨e0, e1, e2, e3, e4, rfl⟩ := list_five' K.el
  obtain ⟨s0, s1, s2, s3, rfl⟩ := list_four K.sl
  obtain ⟨r0, r1, r2, r3, r4, r5, r6, r7, r8, r9, r10, r11, r12, r13, r14, r15, rfl⟩ := list_sixteen K.rl
  refine ⟨e0, e1, e2, e3, e4, s0, s1, s2, s3, [r0, r1, r2, r3, r4, r5, r6, r7, r8, r9, r10, r11, r12, r13, r14, r15], (e4 / 4).toNat, case_use_at K, fun z hz => case_use_at (s0 := z) { K with cells := ?_, sl := rfl, sw := ?_ }⟩
  · have h := K.cells
    rw [Array.toList_setIfInBounds, h]
    rfl
  · intro y hy
    simp only [List.mem_cons, List.not_mem_nil, or_false] at hy
    rcases hy with rfl | rfl | rfl | rfl
    · unfold U32 at hz
      simp [Lit.wf, IntKind.min, IntKind.max, IntKind.signed, IntKind.bits]
      omega
    all_goals exact K.sw _ (by simp)

theorem enc_u32 (op a b c n : Int) : U32 (encOf op a b c n) := by
  unfold encOf
  split
  case isFalse => unfold U32; omega
  rename_i h
  have hs : shapeOf op ≠ -1 := fun he => by
    rw [checkOf_none he] at h
    omega
  have hg : GoodP (shapeOf op) a b c n := by
    by_cases hg : GoodP (shapeOf op) a b c n
    · exact hg
    · rw [checkOf_bad rfl hs hg] at h
      omega
  obtain ⟨o1, o2⟩ := shapeOf_some hs
  have hr := shapeOf_range op
  obtain ⟨a0, a1, b0, b1, c0, c1, ga, gb, gc, n0, n1⟩ := hg
  unfold wordOf U32
  unfold lowOf at n0
  unfold highOf at n1
  unfold regsOf at ga gb gc
  generalize shapeOf op = s at *
  rcases (show s = 0 ∨ s = 1 ∨ s = 2 ∨ s = 3 ∨ s = 4 ∨ s = 5 ∨ s = 6 ∨ s = 7 ∨ s = 8 by omega) with rfl | rfl | rfl | rfl | rfl | rfl | rfl | rfl | rfl
  all_goals
    simp at n0 n1 ga gb gc ⊢
    refine ⟨?_, ?_⟩ <;> omega

section
variable {w w' : World} {B p q h m : Nat} {e0 e1 e2 e3 e4 : Int} {v v' : Value} {A A2 : Option Addr} {mi cap : Nat} {inp : List Int} {s s' : St} {L : List Nat} {h2 : Nat}

theorem Mach.refill (M : Mach w B p q h m e0 e1 e2 e3 e4 v A mi cap inp s) {ws' : List Int} (hx : Whole w' h 22 (words ws')) (hb : But [h] w w') : Mach w' B p q h m e0 e1 e2 e3 e4 v A mi cap inp ⟨s.c, s.out, ws'⟩ :=
  M.step_s (hb.cpu M.cpu (by simp [M.ph])) hx (hb.mono (fun k hk => by simp at hk; simp [hk])) rfl

theorem Apart.refill (X : Apart w L A2 h2 s) {ws' : List Int} {h3 : Nat} (hl : ∀ k, k ∈ L → k < w.heap.size) (hb : Below w.heap.size w w') (hx : Whole w' h3 22 (words ws')) (hh : h3 = h2 ∨ w.heap.size ≤ h3) : Apart w' L A2 h3 ⟨s.c, s.out, ws'⟩ :=
  ⟨X.ev.below hb, hx, fun hm => by
    rcases hh with rfl | hh
    · exact X.hn hm
    · have := hl _ hm
      omega, fun h0 b off hA => ⟨Nat.lt_of_lt_of_le (X.ea h0 b off hA).1 hb.size, (X.ea h0 b off hA).2⟩⟩

end

theorem take_assign_g {P : Program} {ops : Array Oper} {op : Oper} {a : Act} {S : World → Prop} (x : Operand) (v : Value) (hw : Region.wanted op (yielded ops a.tmps) = true) (ho : op.op = .assign x) (hx : a.eval x = v) : YieldsIf P ops S op v a :=
  take_run v hw fun w => by
    unfold execOp
    simp only [ho, hx]
    rfl

section
variable {m : Nat}

theorem fill_fine {ws zs : List Int} {at_ : Int} (h0 : 0 ≤ at_) (h1 : ws.length = m) (h2 : ∀ z ∈ ws, U32 z) (h3 : ∀ z ∈ zs, U32 z) : (fillWs at_ ws zs).length = m ∧ ∀ z ∈ fillWs at_ ws zs, U32 z := by
  unfold fillWs
  split
  · rename_i hr
    refine ⟨?_, splice_u32 h2 h3⟩
    unfold fillRes at hr
    unfold splice
    split at hr
    · omega
    split at hr
    · omega
    · simp
      omega
  · exact ⟨h1, h2⟩
end
end Go.Proofs.YtinpdgjbiimgkaaDoor
