/- CpuX CpuY ArrEq CpuZ CpuXB in one. -/
import Derived.Test.YtlmokkopaididaaDoorCase
import Derived.Test.YtlmokkopaididaaDoorCpuVW
import Derived.Test.YtlmokkopaididaaDoorCpuKN
import Derived.Test.YtlmokkopaididaaDoorLaid

/- The laws of package cpu: what their argument Case gives. -/
namespace Go.Proofs.YtlmokkopaididaaDoor
open Go.ChangeShapes Go.WideShapes Go.ChangeAt Go.RowKit
set_option linter.unusedVariables false

theorem ends_sum {e0 e1 e2 e3 e4 : Int} (hok : okEnds e0 e1 e2 e3 e4 = true) : 0 ≤ e0 ∧ e0 ≤ e1 ∧ e1 ≤ e2 ∧ e2 ≤ e3 ∧ e3 ≤ e4 ∧ e0 % 4 = 0 ∧ e1 % 4 = 0 ∧ e4 % 4 = 0 ∧ e4 ≤ 1048576 := by
  unfold okEnds at hok
  simp only [Bool.and_eq_true] at hok
  obtain ⟨h0, h1, h2, h3, h4⟩ := hok
  unfold okEnd at h0 h1 h2 h3 h4
  simp only [Bool.and_eq_true, decide_eq_true_eq] at h0 h1 h2 h3 h4
  omega

theorem u32wf {z : Int} (h : (Lit.int .u32 z).wf = true) : U32 z := by
  obtain ⟨a, b⟩ := bounds_u32 h
  exact ⟨a, b⟩

/-- The words that a case lays. -/
def caseWs (m nw : Nat) (zw : List Int) : List Int := fillWs 0 (List.replicate m 0) (zw.take (min nw m))

/-- What a law uses of its case. -/
structure CaseUse (w : World) (CA : Array Value) (e0 e1 e2 e3 e4 s0 s1 s2 s3 : Int) (r : List Int) (m nw : Nat) (zw : List Int) (Ai : Option Addr) (ni ci : Nat) (inp : List Int) : Prop where
  size : CA.size = 27
  c0 : CA[0]? = some (.int .u32 e0)
  c1 : CA[1]? = some (.int .u32 e1)
  c5 : CA[5]? = some (.int .u32 s0)
  c6 : CA[6]? = some (.int .u32 s1)
  c7 : CA[7]? = some (.int .u32 s2)
  c8 : CA[8]? = some (.int .u32 s3)
  u0 : U32 e0
  u1 : U32 e1
  u4 : U32 e4
  v0 : U32 s0
  few : ∀ W, Calls Tryd.prog 8 #[.agg CA] W (Few4Post e0 e1 e2 e3 e4 nw ni W)
  begun : ∀ W, Below w.heap.size w W → Few4 e0 e1 e2 e3 e4 nw ni → Calls Tryd.prog 9 #[.agg CA] W (BegunPost e0 e1 e2 e3 e4 s0 s1 s2 s3 r m (caseWs m nw zw) Ai ni ci inp W)
  fine : Fine m inp ⟨begC s0 s1 s2 s3 r, [], caseWs m nw zw⟩
  m4 : Few4 e0 e1 e2 e3 e4 nw ni → e4 = 4 * m ∧ m ≤ 1024
  iw : ∀ z ∈ inp, (Lit.int .i32 z).wf = true
  il : inp.length = ni
  one : CA.all (·.oneCell') = true

theorem list_four {α : Type} {zs : List α} (h : zs.length = 4) : ∃ a b c d, zs = [a, b, c, d] := by
  match zs, h with
  | [a, b, c, d], _ => exact ⟨a, b, c, d, rfl⟩

theorem list_sixteen {α : Type} {zs : List α} (h : zs.length = 16) : ∃ a0 a1 a2 a3 a4 a5 a6 a7 a8 a9 a10 a11 a12 a13 a14 a15, zs = [a0, a1, a2, a3, a4, a5, a6, a7, a8, a9, a10, a11, a12, a13, a14, a15] := by
  match zs, h with
  | [a0, a1, a2, a3, a4, a5, a6, a7, a8, a9, a10, a11, a12, a13, a14, a15], _ => exact ⟨_, _, _, _, _, _, _, _, _, _, _, _, _, _, _, _, rfl⟩

theorem splice_u32 {ws zs : List Int} {k : Nat} (hw : ∀ z ∈ ws, U32 z) (hz : ∀ z ∈ zs, U32 z) : ∀ z ∈ splice ws k zs, U32 z := by
  intro z h
  unfold splice at h
  simp only [List.mem_append] at h
  rcases h with h | h | h
  · exact hw z (List.mem_of_mem_take h)
  · exact hz z h
  · exact hw z (List.mem_of_mem_drop h)

theorem caseWs_len {m nw : Nat} {zw : List Int} (h : zw.length = nw) : (caseWs m nw zw).length = m := by
  unfold caseWs fillWs splice
  split
  · rename_i hr
    unfold fillRes at hr
    simp [h] at hr
    simp [h]
    omega
  · simp

theorem caseWs_u32 {m nw : Nat} {zw : List Int} (h : ∀ z ∈ zw, U32 z) : ∀ z ∈ caseWs m nw zw, U32 z := by
  have h0 : ∀ z ∈ List.replicate m (0 : Int), U32 z := fun z hz => by rw [List.eq_of_mem_replicate hz]; unfold U32; omega
  unfold caseWs fillWs
  split
  · exact splice_u32 h0 (fun z hz => h z (List.mem_of_mem_take hz))
  · exact h0

set_option maxRecDepth 100000 in
theorem case_use {w : World} {CA : Array Value} {es ss rs : List Int} {Aw : Option Addr} {nw cw : Nat} {zw : List Int} {Ai : Option Addr} {ni ci : Nat} {inp : List Int} (K : CaseIn w CA es ss rs Aw nw cw zw Ai ni ci inp) :
    ∃ e0 e1 e2 e3 e4 s0 s1 s2 s3 r m, CaseUse w CA e0 e1 e2 e3 e4 s0 s1 s2 s3 r m nw zw Ai ni ci inp := by
  obtain ⟨e0, e1, e2, e3, e4, rfl⟩ := list_five' K.el
  obtain ⟨s0, s1, s2, s3, rfl⟩ := list_four K.sl
  obtain ⟨r0, r1, r2, r3, r4, r5, r6, r7, r8, r9, r10, r11, r12, r13, r14, r15, rfl⟩ := list_sixteen K.rl
  have hc : CA = #[.int .u32 e0, .int .u32 e1, .int .u32 e2, .int .u32 e3, .int .u32 e4, .int .u32 s0, .int .u32 s1, .int .u32 s2, .int .u32 s3, .slice Aw nw cw, .int .u32 r0, .int .u32 r1, .int .u32 r2, .int .u32 r3, .int .u32 r4, .int .u32 r5, .int .u32 r6, .int .u32 r7, .int .u32 r8, .int .u32 r9, .int .u32 r10, .int .u32 r11, .int .u32 r12, .int .u32 r13, .int .u32 r14, .int .u32 r15, .slice Ai ni ci] := Array.ext' K.cells
  have u0 := u32wf (K.ew e0 (by simp))
  have u1 := u32wf (K.ew e1 (by simp))
  have u2 := u32wf (K.ew e2 (by simp))
  have u3 := u32wf (K.ew e3 (by simp))
  have u4 := u32wf (K.ew e4 (by simp))
  have hm4 : Few4 e0 e1 e2 e3 e4 nw ni → e4 = 4 * ((e4 / 4).toNat : Int) ∧ (e4 / 4).toNat ≤ 1024 := fun h => by
    have := ends_sum h.1
    have := h.2.1
    omega
  refine ⟨e0, e1, e2, e3, e4, s0, s1, s2, s3, [r0, r1, r2, r3, r4, r5, r6, r7, r8, r9, r10, r11, r12, r13, r14, r15], (e4 / 4).toNat, ?_⟩
  have hzl : zw.length = nw := K.wn.1
  refine { size := by rw [hc]; rfl, c0 := by rw [hc]; rfl, c1 := by rw [hc]; rfl, c5 := by rw [hc]; rfl, c6 := by rw [hc]; rfl, c7 := by rw [hc]; rfl, c8 := by rw [hc]; rfl, u0 := u0, u1 := u1, u4 := u4, v0 := u32wf (K.sw s0 (by simp)), few := fun W => ?_, begun := fun W hb hF => ?_, fine := ?_, m4 := hm4, iw := K.iw, il := K.inn.1, one := ?_ }
  · rw [hc]
    exact few4_any e0 e1 e2 e3 e4 s0 s1 s2 s3 r0 r1 r2 r3 r4 r5 r6 r7 r8 r9 r10 r11 r12 r13 r14 r15 Aw Ai nw cw ni ci W u0 u1 u2 u3 u4
  · have h4 := hm4 hF
    exact begun_any e0 e1 e2 e3 e4 s0 s1 s2 s3 r0 r1 r2 r3 r4 r5 r6 r7 r8 r9 r10 r11 r12 r13 r14 r15 CA Aw Ai nw cw ni ci (e4 / 4).toNat (min nw (e4 / 4).toNat) zw inp W u0 u1 u2 u3 u4 hF.1 (by omega) h4.2 hF.2.2.1 K.wc hF.2.2.2 (by omega) (by omega) (by omega) K.wz K.iz (K.wn.below hb) (K.inn.below hb) (by rw [hc]; rfl) (by rw [hc]; rfl) (by rw [hc]; rfl) (by rw [hc]; rfl) (by rw [hc]; rfl) (by rw [hc]; rfl) (by rw [hc]; rfl) (by rw [hc]; rfl) (by rw [hc]; rfl) (by rw [hc]; rfl) (by rw [hc]; rfl) (by rw [hc]; rfl) (by rw [hc]; rfl) (by rw [hc]; rfl)
  · refine ⟨rfl, fun z hz => u32wf (K.rw z hz), u32wf (K.sw s0 (by simp)), by unfold U32; exact ⟨Int.le_refl _, by show (0:Int) ≤ 4294967295; omega⟩, by unfold U32; exact ⟨Int.le_refl _, by show (0:Int) ≤ 4294967295; omega⟩, u32wf (K.sw s1 (by simp)), u32wf (K.sw s2 (by simp)), u32wf (K.sw s3 (by simp)), caseWs_len hzl, caseWs_u32 (fun z hz => u32wf (K.ww z hz)), ⟨Int.le_refl _, by show (0:Int) ≤ _; omega⟩⟩
  · rw [hc, Array.all_eq_true_iff_forall_mem]
    intro v hv
    simp at hv
    rcases hv with rfl | rfl | rfl | rfl | rfl | rfl | rfl | rfl | rfl | rfl | rfl | rfl | rfl | rfl | rfl | rfl | rfl | rfl | rfl | rfl | rfl | rfl | rfl | rfl | rfl | rfl | rfl <;> rfl
end Go.Proofs.YtlmokkopaididaaDoor

/- Package cpu, plain: what no step changes. -/
namespace Go.Proofs.YtlmokkopaididaaDoor
open Go.ChangeShapes Go.WideShapes Go.ChangeAt Go.RowKit
set_option linter.unusedVariables false

theorem storeWs_guard {at_ e1 e4 v : Int} {ws : List Int} (ha : 0 ≤ at_) {t : Nat} (ht : 4 * (t : Int) < e1) : (storeWs at_ e1 e4 v ws).getD t 0 = ws.getD t 0 := by
  unfold storeWs
  split
  · rename_i h
    have hge : e1 ≤ at_ ∧ at_ % 4 = 0 := by
      unfold storeRes at h
      split at h
      · rename_i h1
        exact absurd h h1
      · rename_i h1
        have hz := checkRes_zero (show checkRes at_ e4 = 0 by omega)
        split at h
        · omega
        · exact ⟨by omega, hz.1⟩
    have hne : (at_ / 4).toNat ≠ t := by omega
    simp [List.getD, hne]
  · rfl

theorem step_guard {e0 e1 e4 : Int} {inp : List Int} {s : St} {t : Nat} (ht : 4 * (t : Int) < e1) : (stepS e0 e1 e4 inp s).ws.getD t 0 = s.ws.getD t 0 := by
  by_cases h : s.c.st = 0
  · by_cases h1 : checkRes s.c.pc e0 = 0
    · by_cases h2 : OkW (readVal s.c.pc e0 s.ws)
      · rw [step_exec h h1 h2]
        unfold exec
        dsimp only
        split
        · exact storeWs_guard (addr_u32 _ _ _).1 ht
        · rfl
      · rw [step_word h h1 h2]
    · rw [step_fetch h h1]
  · rw [step_stop h]

theorem run_guard {e0 e1 e4 : Int} {inp : List Int} {s : St} {t : Nat} (ht : 4 * (t : Int) < e1) (k : Nat) : (runS e0 e1 e4 inp k s).ws.getD t 0 = s.ws.getD t 0 := by
  induction k with
  | zero => rfl
  | succ k ih => exact (step_guard ht).trans ih

/-- What has stopped stays. -/
theorem run_halted {e0 e1 e4 : Int} {inp : List Int} {s : St} (h : ¬ s.c.st = 0) (k : Nat) : runS e0 e1 e4 inp k s = s := run_stop (t := 0) h (Nat.zero_le k)
end Go.Proofs.YtlmokkopaididaaDoor

/- Two arrays of five integers, the same: equal. Over any program. -/
namespace Go.Proofs.YtlmokkopaididaaDoor
open Go.ChangeShapes Go.WideShapes Go.ChangeAt Go.RowKit
set_option linter.unusedVariables false

theorem run_part_arr {P : Program} {e : TypeId} {k : IntKind} (he : P.underlying e = some (.int k)) (hq' : (P.info? e).map (·.size) = some 1) (cs : Array Value) (j : Nat) (v : Value) (hc : cs[j]? = some v) (w : World) : (part e cs j).run P w = .ok v w := by
  have hagg : (isAgg e).run P w = .ok false w := by
    unfold isAgg
    simp [Sem.run_bind, run_underlying he]
  obtain ⟨i, hq, hs⟩ := Option.map_eq_some_iff.1 hq'
  simp [sizeOf, typeInfo, hq, hs, part, hagg, hc]

theorem run_equalIn_arr5 {P : Program} {t e : TypeId} {k : IntKind} (ht : P.underlying t = some (.array 5 e)) (he : P.underlying e = some (.int k)) (hq' : (P.info? e).map (·.size) = some 1) (d : Nat) (a0 a1 a2 a3 a4 : Int) (w : World) :
    (Op.equalIn (d + 2) t (.agg #[.int k a0, .int k a1, .int k a2, .int k a3, .int k a4]) (.agg #[.int k a0, .int k a1, .int k a2, .int k a3, .int k a4])).run P w = .ok true w := by
  have p0 := fun w => run_part_arr he hq' #[.int k a0, .int k a1, .int k a2, .int k a3, .int k a4] 0 (.int k a0) rfl w
  have p1 := fun w => run_part_arr he hq' #[.int k a0, .int k a1, .int k a2, .int k a3, .int k a4] 1 (.int k a1) rfl w
  have p2 := fun w => run_part_arr he hq' #[.int k a0, .int k a1, .int k a2, .int k a3, .int k a4] 2 (.int k a2) rfl w
  have p3 := fun w => run_part_arr he hq' #[.int k a0, .int k a1, .int k a2, .int k a3, .int k a4] 3 (.int k a3) rfl w
  have p4 := fun w => run_part_arr he hq' #[.int k a0, .int k a1, .int k a2, .int k a3, .int k a4] 4 (.int k a4) rfl w
  have q : ∀ (a : Int) (w : World), (Op.equalIn (d + 1) e (.int k a) (.int k a)).run P w = .ok true w := fun a w => by
    rw [run_equalIn_int w d e k k a a he]
    simp
  obtain ⟨i, hq, hs⟩ := Option.map_eq_some_iff.1 hq'
  unfold Op.equalIn
  simp [Sem.run_bind, run_underlying ht, sizeOf, typeInfo, hq, hs, Std.Legacy.Range.forIn_eq_forIn_range', Std.Legacy.Range.size, List.range', p0, p1, p2, p3, p4, q]
end Go.Proofs.YtlmokkopaididaaDoor

/- Package cpu: what has stopped: Step, Run; two arrays of sixteen. -/
namespace Go.Proofs.YtlmokkopaididaaDoor
open Go.ChangeShapes Go.WideShapes Go.ChangeAt Go.RowKit
set_option linter.unusedVariables false

set_option maxHeartbeats 2000000 in
theorem cstep_halted (p q : Nat) (c : Cp) (o i : Value) (w : World) (hc : CpuAt w p 65 c o i) (hz : ¬ c.st = 0) :
    Calls Tryd.prog 12 #[.pointer (some ⟨p, 0, none⟩), .pointer (some ⟨q, 0, none⟩)] w fun e w' => e = .returned (.int .i64 c.st) ∧ w = w' := by
  have q19 := hc.st
  have dz : (c.st != 0) = true := by simpa using hz
  clear hc hz
  go_enter Tryd.func12, Tryd.ntmps12
  go_wp2_with fail
  go_ret
  exact ⟨rfl, rfl⟩

set_option maxHeartbeats 4000000 in
set_option maxRecDepth 100000 in
theorem crun_halted (p q k : Nat) (c : Cp) (o i : Value) (w : World) (hc : CpuAt w p 65 c o i) (hz : ¬ c.st = 0) (h0 : 0 < k) (hk : k ≤ 1000000) :
    Calls Tryd.prog 19 #[.pointer (some ⟨p, 0, none⟩), .pointer (some ⟨q, 0, none⟩), .int .i64 k] w fun e w' => e = .returned (.int .i64 c.st) ∧ w = w' := by
  have ST := Lib.hid (cstep_halted p q c o i w hc hz)
  have q19 := hc.st
  have dz : (c.st != 0) = true := by simpa using hz
  have dmin : min (k : Int) 1073741824 = k := by omega
  have dlt : decide ((0 : Int) < k) = true := decide_eq_true (by omega)
  clear hc hz
  go_enter Tryd.func19, Tryd.ntmps19
  go_wp2_with fail
  go_loop [9] (fun i => i = .int .i64 0) (fun i => 0)
  case atStart => rfl
  case round =>
    subst hrel
    go_wp2_with fail
    refine ST.out.mono ?_
    rintro e w' ⟨rfl, rfl⟩
    go_wp2_with fail
    go_ret
    exact ⟨rfl, rfl⟩

theorem run_equalIn_arr16 {P : Program} {t e : TypeId} {k : IntKind} (ht : P.underlying t = some (.array 16 e)) (he : P.underlying e = some (.int k)) (hq' : (P.info? e).map (·.size) = some 1) (d : Nat) (a0 a1 a2 a3 a4 a5 a6 a7 a8 a9 a10 a11 a12 a13 a14 a15 : Int) (w : World) :
    (Op.equalIn (d + 2) t (.agg #[.int k a0, .int k a1, .int k a2, .int k a3, .int k a4, .int k a5, .int k a6, .int k a7, .int k a8, .int k a9, .int k a10, .int k a11, .int k a12, .int k a13, .int k a14, .int k a15]) (.agg #[.int k a0, .int k a1, .int k a2, .int k a3, .int k a4, .int k a5, .int k a6, .int k a7, .int k a8, .int k a9, .int k a10, .int k a11, .int k a12, .int k a13, .int k a14, .int k a15])).run P w = .ok true w := by
  have pp : ∀ (cs : Array Value) (j : Nat) (v : Value) (w : World), cs[j]? = some v → (part e cs j).run P w = .ok v w := fun cs j v w hc => run_part_arr he hq' cs j v hc w
  have q : ∀ (a : Int) (w : World), (Op.equalIn (d + 1) e (.int k a) (.int k a)).run P w = .ok true w := fun a w => by
    rw [run_equalIn_int w d e k k a a he]
    simp
  obtain ⟨i, hq, hs⟩ := Option.map_eq_some_iff.1 hq'
  have p0 := fun w => pp #[.int k a0, .int k a1, .int k a2, .int k a3, .int k a4, .int k a5, .int k a6, .int k a7, .int k a8, .int k a9, .int k a10, .int k a11, .int k a12, .int k a13, .int k a14, .int k a15] 0 _ w rfl
  have p1 := fun w => pp #[.int k a0, .int k a1, .int k a2, .int k a3, .int k a4, .int k a5, .int k a6, .int k a7, .int k a8, .int k a9, .int k a10, .int k a11, .int k a12, .int k a13, .int k a14, .int k a15] 1 _ w rfl
  have p2 := fun w => pp #[.int k a0, .int k a1, .int k a2, .int k a3, .int k a4, .int k a5, .int k a6, .int k a7, .int k a8, .int k a9, .int k a10, .int k a11, .int k a12, .int k a13, .int k a14, .int k a15] 2 _ w rfl
  have p3 := fun w => pp #[.int k a0, .int k a1, .int k a2, .int k a3, .int k a4, .int k a5, .int k a6, .int k a7, .int k a8, .int k a9, .int k a10, .int k a11, .int k a12, .int k a13, .int k a14, .int k a15] 3 _ w rfl
  have p4 := fun w => pp #[.int k a0, .int k a1, .int k a2, .int k a3, .int k a4, .int k a5, .int k a6, .int k a7, .int k a8, .int k a9, .int k a10, .int k a11, .int k a12, .int k a13, .int k a14, .int k a15] 4 _ w rfl
  have p5 := fun w => pp #[.int k a0, .int k a1, .int k a2, .int k a3, .int k a4, .int k a5, .int k a6, .int k a7, .int k a8, .int k a9, .int k a10, .int k a11, .int k a12, .int k a13, .int k a14, .int k a15] 5 _ w rfl
  have p6 := fun w => pp #[.int k a0, .int k a1, .int k a2, .int k a3, .int k a4, .int k a5, .int k a6, .int k a7, .int k a8, .int k a9, .int k a10, .int k a11, .int k a12, .int k a13, .int k a14, .int k a15] 6 _ w rfl
  have p7 := fun w => pp #[.int k a0, .int k a1, .int k a2, .int k a3, .int k a4, .int k a5, .int k a6, .int k a7, .int k a8, .int k a9, .int k a10, .int k a11, .int k a12, .int k a13, .int k a14, .int k a15] 7 _ w rfl
  have p8 := fun w => pp #[.int k a0, .int k a1, .int k a2, .int k a3, .int k a4, .int k a5, .int k a6, .int k a7, .int k a8, .int k a9, .int k a10, .int k a11, .int k a12, .int k a13, .int k a14, .int k a15] 8 _ w rfl
  have p9 := fun w => pp #[.int k a0, .int k a1, .int k a2, .int k a3, .int k a4, .int k a5, .int k a6, .int k a7, .int k a8, .int k a9, .int k a10, .int k a11, .int k a12, .int k a13, .int k a14, .int k a15] 9 _ w rfl
  have p10 := fun w => pp #[.int k a0, .int k a1, .int k a2, .int k a3, .int k a4, .int k a5, .int k a6, .int k a7, .int k a8, .int k a9, .int k a10, .int k a11, .int k a12, .int k a13, .int k a14, .int k a15] 10 _ w rfl
  have p11 := fun w => pp #[.int k a0, .int k a1, .int k a2, .int k a3, .int k a4, .int k a5, .int k a6, .int k a7, .int k a8, .int k a9, .int k a10, .int k a11, .int k a12, .int k a13, .int k a14, .int k a15] 11 _ w rfl
  have p12 := fun w => pp #[.int k a0, .int k a1, .int k a2, .int k a3, .int k a4, .int k a5, .int k a6, .int k a7, .int k a8, .int k a9, .int k a10, .int k a11, .int k a12, .int k a13, .int k a14, .int k a15] 12 _ w rfl
  have p13 := fun w => pp #[.int k a0, .int k a1, .int k a2, .int k a3, .int k a4, .int k a5, .int k a6, .int k a7, .int k a8, .int k a9, .int k a10, .int k a11, .int k a12, .int k a13, .int k a14, .int k a15] 13 _ w rfl
  have p14 := fun w => pp #[.int k a0, .int k a1, .int k a2, .int k a3, .int k a4, .int k a5, .int k a6, .int k a7, .int k a8, .int k a9, .int k a10, .int k a11, .int k a12, .int k a13, .int k a14, .int k a15] 14 _ w rfl
  have p15 := fun w => pp #[.int k a0, .int k a1, .int k a2, .int k a3, .int k a4, .int k a5, .int k a6, .int k a7, .int k a8, .int k a9, .int k a10, .int k a11, .int k a12, .int k a13, .int k a14, .int k a15] 15 _ w rfl
  clear pp
  unfold Op.equalIn
  simp [Sem.run_bind, run_underlying ht, sizeOf, typeInfo, hq, hs, Std.Legacy.Range.forIn_eq_forIn_range', Std.Legacy.Range.size, List.range', p0, p1, p2, p3, p4, p5, p6, p7, p8, p9, p10, p11, p12, p13, p14, p15, q]
end Go.Proofs.YtlmokkopaididaaDoor

/- The laws of package cpu: two new blocks; what they share. -/
namespace Go.Proofs.YtlmokkopaididaaDoor
open Go.ChangeShapes Go.WideShapes Go.ChangeAt Go.RowKit
set_option linter.unusedVariables false

theorem infoCase {cs : Array Value} (hz : cs.size = 27) : (Tryd.prog.info? 31).map (·.size) = some cs.size := by
  rw [hz]
  kernel_rfl

/-- A processor and a memory, laid in two new blocks. -/
structure TwoNew (w : World) (C M : Array Value) : Prop where
  a : Whole ((w.alloc (.cells zeros38 38)).alloc (.cells zeros41 41)) w.heap.size 38 zeros38
  b : Whole (((w.alloc (.cells zeros38 38)).alloc (.cells zeros41 41)).setRow w.heap.size C) (w.heap.size + 1) 41 zeros41
  bel : Below w.heap.size w ((((w.alloc (.cells zeros38 38)).alloc (.cells zeros41 41)).setRow w.heap.size C).setRow (w.heap.size + 1) M)
  c : Whole ((((w.alloc (.cells zeros38 38)).alloc (.cells zeros41 41)).setRow w.heap.size C).setRow (w.heap.size + 1) M) w.heap.size 38 C
  d : Whole ((((w.alloc (.cells zeros38 38)).alloc (.cells zeros41 41)).setRow w.heap.size C).setRow (w.heap.size + 1) M) (w.heap.size + 1) 41 M

theorem two_aux {w V : World} {C M c0 m0 : Array Value} {t1 t2 : TypeId} (h1 : Whole V w.heap.size t1 c0) (h2 : Whole V (w.heap.size + 1) t2 m0) (b0 : Below w.heap.size w V) :
    Whole (V.setRow w.heap.size C) (w.heap.size + 1) t2 m0 ∧ Below w.heap.size w ((V.setRow w.heap.size C).setRow (w.heap.size + 1) M) ∧ Whole ((V.setRow w.heap.size C).setRow (w.heap.size + 1) M) w.heap.size t1 C ∧ Whole ((V.setRow w.heap.size C).setRow (w.heap.size + 1) M) (w.heap.size + 1) t2 M := by
  have o1 := Only.setRow V w.heap.size C
  have o2 := Only.setRow (V.setRow w.heap.size C) (w.heap.size + 1) M
  have s0 := b0.size
  have s1 := o1.size
  exact ⟨h2.only (by omega) o1, (b0.trans (o1.below (Nat.le_refl _) s0)).trans (o2.below (by omega) (by omega)), (h1.setRow C).only (by omega) o2, (h2.only (by omega) o1).setRow M⟩

theorem two_new (w : World) (C M : Array Value) : TwoNew w C M := by
  have h1 := (Whole.made w 38 zeros38 _ rfl).alloc (.cells zeros41 41)
  have h2 := Whole.made (w.alloc (.cells zeros38 38)) 41 zeros41 (w.heap.size + 1) (by simp)
  have b0 := ((Below.refl w.heap.size w).alloc (Nat.le_refl _) (.cells zeros38 38)).alloc (by simp) (.cells zeros41 41)
  have A := two_aux (C := C) (M := M) h1 h2 b0
  exact ⟨h1, A.1, A.2.1, A.2.2.1, A.2.2.2⟩

theorem readVal_at4 {t : Nat} {e4 : Int} (h : 4 * (t : Int) < e4) (ws : List Int) : readVal (4 * t) e4 ws = ws.getD t 0 := by
  unfold readVal
  rw [checkRes_ok (by omega) h, if_pos rfl]
  congr 1
  omega

/-- What a law knows of a machine behind a run. -/
structure RunOf (m : Nat) (e0 e1 e4 : Int) (inp : List Int) (k : Nat) (s s' : St) : Prop where
  guard : ∀ t : Nat, 4 * (t : Int) < e1 → s'.ws.getD t 0 = s.ws.getD t 0
  fine : Fine m inp s'
  steps : s'.c.st = 0 → s'.c.steps = s.c.steps + k
  lo : s.c.steps ≤ s'.c.steps
  hi : s'.c.steps ≤ s.c.steps + k
  outs : s'.out.length ≤ s.out.length + k

theorem run_of {m : Nat} {e0 e1 e4 : Int} {inp : List Int} {s : St} (F : Fine m inp s) (k : Nat) : RunOf m e0 e1 e4 inp k s (runS e0 e1 e4 inp k s) :=
  ⟨fun t ht => run_guard ht k, run_fine F k, fun h => run_steps k h, (run_bounds k).1, (run_bounds k).2.1, (run_bounds k).2.2⟩
end Go.Proofs.YtlmokkopaididaaDoor
