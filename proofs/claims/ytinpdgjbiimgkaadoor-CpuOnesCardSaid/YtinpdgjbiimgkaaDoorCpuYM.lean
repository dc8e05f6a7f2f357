/- CpuY ArrEq CpuZ CpuXB CpuXC in one. -/
import Derived.Test.YtinpdgjbiimgkaaDoorCpuKN
import Derived.Test.YtinpdgjbiimgkaaDoorLaid
import Derived.Test.YtinpdgjbiimgkaaDoorCpuVX

/- Package cpu, plain: what no step changes. -/
namespace Go.Proofs.YtinpdgjbiimgkaaDoor
open Go.ChangeShapes Go.WideShapes Go.ChangeAt Go.RowKit
set_option linter.unusedVariables false

theorem storeWs_guard {at_ e1 e4 v : Int} {ws : List Int} (ha : 0 ≤ at_) {t : Nat} (ht : 4 * (t : Int) < e1) : (storeWs at_ e1 e4 v ws).getD t 0 = ws.getD t 0 := by
  unfold storeWs
  split
  · rename_i h
    have hge : e1 ≤ at_ ∧ at_ % 4 = 0 := by
      unfold storeRes at h
      split at h
      · rename_i h1
        exact absurd h h1
      · rename_i h1
        have hz := checkRes_zero (show checkRes at_ e4 = 0 by omega)
        split at h
        · omega
        · exact ⟨by omega, hz.1⟩
    have hne : (at_ / 4).toNat ≠ t := by omega
    simp [List.getD, hne]
  · rfl

theorem step_guard {e0 e1 e4 : Int} {inp : List Int} {s : St} {t : Nat} (ht : 4 * (t : Int) < e1) : (stepS e0 e1 e4 inp s).ws.getD t 0 = s.ws.getD t 0 := by
  by_cases h : s.c.st = 0
  · by_cases h1 : checkRes s.c.pc e0 = 0
    · by_cases h2 : OkW (readVal s.c.pc e0 s.ws)
      · rw [step_exec h h1 h2]
        unfold exec
        dsimp only
        split
        · exact storeWs_guard (addr_u32 _ _ _).1 ht
        · rfl
      · rw [step_word h h1 h2]
    · rw [step_fetch h h1]
  · rw [step_stop h]

theorem run_guard {e0 e1 e4 : Int} {inp : List Int} {s : St} {t : Nat} (ht : 4 * (t : Int) < e1) (k : Nat) : (runS e0 e1 e4 inp k s).ws.getD t 0 = s.ws.getD t 0 := by
  induction k with
  | zero => rfl
  | succ k ih => exact (step_guard ht).trans ih

/-- What has stopped stays. -/
theorem run_halted {e0 e1 e4 : Int} {inp : List Int} {s : St} (h : ¬ s.c.st = 0) (k : Nat) : runS e0 e1 e4 inp k s = s := run_stop (t := 0) h (Nat.zero_le k)
end Go.Proofs.YtinpdgjbiimgkaaDoor

/- Two arrays of five integers, the same: equal. Over any program. -/
namespace Go.Proofs.YtinpdgjbiimgkaaDoor
open Go.ChangeShapes Go.WideShapes Go.ChangeAt Go.RowKit
set_option linter.unusedVariables false

theorem run_part_arr {P : Program} {e : TypeId} {k : IntKind} (he : P.underlying e = some (.int k)) (hq' : (P.info? e).map (·.size) = some 1) (cs : Array Value) (j : Nat) (v : Value) (hc : cs[j]? = some v) (w : World) : (part e cs j).run P w = .ok v w := by
  have hagg : (isAgg e).run P w = .ok false w := by
    unfold isAgg
    simp [Sem.run_bind, run_underlying he]
  obtain ⟨i, hq, hs⟩ := Option.map_eq_some_iff.1 hq'
  simp [sizeOf, typeInfo, hq, hs, part, hagg, hc]

theorem run_equalIn_arr5 {P : Program} {t e : TypeId} {k : IntKind} (ht : P.underlying t = some (.array 5 e)) (he : P.underlying e = some (.int k)) (hq' : (P.info? e).map (·.size) = some 1) (d : Nat) (a0 a1 a2 a3 a4 : Int) (w : World) :
    (Op.equalIn (d + 2) t (.agg #[.int k a0, .int k a1, .int k a2, .int k a3, .int k a4]) (.agg #[.int k a0, .int k a1, .int k a2, .int k a3, .int k a4])).run P w = .ok true w := by
  have p0 := fun w => run_part_arr he hq' #[.int k a0, .int k a1, .int k a2, .int k a3, .int k a4] 0 (.int k a0) rfl w
  have p1 := fun w => run_part_arr he hq' #[.int k a0, .int k a1, .int k a2, .int k a3, .int k a4] 1 (.int k a1) rfl w
  have p2 := fun w => run_part_arr he hq' #[.int k a0, .int k a1, .int k a2, .int k a3, .int k a4] 2 (.int k a2) rfl w
  have p3 := fun w => run_part_arr he hq' #[.int k a0, .int k a1, .int k a2, .int k a3, .int k a4] 3 (.int k a3) rfl w
  have p4 := fun w => run_part_arr he hq' #[.int k a0, .int k a1, .int k a2, .int k a3, .int k a4] 4 (.int k a4) rfl w
  have q : ∀ (a : Int) (w : World), (Op.equalIn (d + 1) e (.int k a) (.int k a)).run P w = .ok true w := fun a w => by
    rw [run_equalIn_int w d e k k a a he]
    simp
  obtain ⟨i, hq, hs⟩ := Option.map_eq_some_iff.1 hq'
  unfold Op.equalIn
  simp [Sem.run_bind, run_underlying ht, sizeOf, typeInfo, hq, hs, Std.Legacy.Range.forIn_eq_forIn_range', Std.Legacy.Range.size, List.range', p0, p1, p2, p3, p4, q]
end Go.Proofs.YtinpdgjbiimgkaaDoor

/- Package cpu: what has stopped: Step, Run; two arrays of sixteen. -/
namespace Go.Proofs.YtinpdgjbiimgkaaDoor
open Go.ChangeShapes Go.WideShapes Go.ChangeAt Go.RowKit
set_option linter.unusedVariables false

set_option maxHeartbeats 2000000 in
theorem cstep_halted (p q : Nat) (c : Cp) (o i : Value) (w : World) (hc : CpuAt w p 67 c o i) (hz : ¬ c.st = 0) :
    Calls Tryd.prog 10 #[.pointer (some ⟨p, 0, none⟩), .pointer (some ⟨q, 0, none⟩)] w fun e w' => e = .returned (.int .i64 c.st) ∧ w = w' := by
  have q19 := hc.st
  have dz : (c.st != 0) = true := by simpa using hz
  clear hc hz
  go_enter Tryd.func10, Tryd.ntmps10
  go_wp2_with fail
  go_ret
  exact ⟨rfl, rfl⟩

set_option maxHeartbeats 4000000 in
set_option maxRecDepth 100000 in
theorem crun_halted (p q k : Nat) (c : Cp) (o i : Value) (w : World) (hc : CpuAt w p 67 c o i) (hz : ¬ c.st = 0) (h0 : 0 < k) (hk : k ≤ 1000000) :
    Calls Tryd.prog 19 #[.pointer (some ⟨p, 0, none⟩), .pointer (some ⟨q, 0, none⟩), .int .i64 k] w fun e w' => e = .returned (.int .i64 c.st) ∧ w = w' := by
  have ST := Lib.hid (cstep_halted p q c o i w hc hz)
  have q19 := hc.st
  have dz : (c.st != 0) = true := by simpa using hz
  have dmin : min (k : Int) 1073741824 = k := by omega
  have dlt : decide ((0 : Int) < k) = true := decide_eq_true (by omega)
  clear hc hz
  go_enter Tryd.func19, Tryd.ntmps19
  go_wp2_with fail
  go_loop [9] (fun i => i = .int .i64 0) (fun i => 0)
  case atStart => rfl
  case round =>
    subst hrel
    go_wp2_with fail
    refine ST.out.mono ?_
    rintro e w' ⟨rfl, rfl⟩
    go_wp2_with fail
    go_ret
    exact ⟨rfl, rfl⟩

theorem run_equalIn_arr16 {P : Program} {t e : TypeId} {k : IntKind} (ht : P.underlying t = some (.array 16 e)) (he : P.underlying e = some (.int k)) (hq' : (P.info? e).map (·.size) = some 1) (d : Nat) (a0 a1 a2 a3 a4 a5 a6 a7 a8 a9 a10 a11 a12 a13 a14 a15 : Int) (w : World) :
    (Op.equalIn (d + 2) t (.agg #[.int k a0, .int k a1, .int k a2, .int k a3, .int k a4, .int k a5, .int k a6, .int k a7, .int k a8, .int k a9, .int k a10, .int k a11, .int k a12, .int k a13, .int k a14, .int k a15]) (.agg #[.int k a0, .int k a1, .int k a2, .int k a3, .int k a4, .int k a5, .int k a6, .int k a7, .int k a8, .int k a9, .int k a10, .int k a11, .int k a12, .int k a13, .int k a14, .int k a15])).run P w = .ok true w := by
  have pp : ∀ (cs : Array Value) (j : Nat) (v : Value) (w : World), cs[j]? = some v → (part e cs j).run P w = .ok v w := fun cs j v w hc => run_part_arr he hq' cs j v hc w
  have q : ∀ (a : Int) (w : World), (Op.equalIn (d + 1) e (.int k a) (.int k a)).run P w = .ok true w := fun a w => by
    rw [run_equalIn_int w d e k k a a he]
    simp
  obtain ⟨i, hq, hs⟩ := Option.map_eq_some_iff.1 hq'
  have p0 := fun w => pp #[.int k a0, .int k a1, .int k a2, .int k a3, .int k a4, .int k a5, .int k a6, .int k a7, .int k a8, .int k a9, .int k a10, .int k a11, .int k a12, .int k a13, .int k a14, .int k a15] 0 _ w rfl
  have p1 := fun w => pp #[.int k a0, .int k a1, .int k a2, .int k a3, .int k a4, .int k a5, .int k a6, .int k a7, .int k a8, .int k a9, .int k a10, .int k a11, .int k a12, .int k a13, .int k a14, .int k a15] 1 _ w rfl
  have p2 := fun w => pp #[.int k a0, .int k a1, .int k a2, .int k a3, .int k a4, .int k a5, .int k a6, .int k a7, .int k a8, .int k a9, .int k a10, .int k a11, .int k a12, .int k a13, .int k a14, .int k a15] 2 _ w rfl
  have p3 := fun w => pp #[.int k a0, .int k a1, .int k a2, .int k a3, .int k a4, .int k a5, .int k a6, .int k a7, .int k a8, .int k a9, .int k a10, .int k a11, .int k a12, .int k a13, .int k a14, .int k a15] 3 _ w rfl
  have p4 := fun w => pp #[.int k a0, .int k a1, .int k a2, .int k a3, .int k a4, .int k a5, .int k a6, .int k a7, .int k a8, .int k a9, .int k a10, .int k a11, .int k a12, .int k a13, .int k a14, .int k a15] 4 _ w rfl
  have p5 := fun w => pp #[.int k a0, .int k a1, .int k a2, .int k a3, .int k a4, .int k a5, .int k a6, .int k a7, .int k a8, .int k a9, .int k a10, .int k a11, .int k a12, .int k a13, .int k a14, .int k a15] 5 _ w rfl
  have p6 := fun w => pp #[.int k a0, .int k a1, .int k a2, .int k a3, .int k a4, .int k a5, .int k a6, .int k a7, .int k a8, .int k a9, .int k a10, .int k a11, .int k a12, .int k a13, .int k a14, .int k a15] 6 _ w rfl
  have p7 := fun w => pp #[.int k a0, .int k a1, .int k a2, .int k a3, .int k a4, .int k a5, .int k a6, .int k a7, .int k a8, .int k a9, .int k a10, .int k a11, .int k a12, .int k a13, .int k a14, .int k a15] 7 _ w rfl
  have p8 := fun w => pp #[.int k a0, .int k a1, .int k a2, .int k a3, .int k a4, .int k a5, .int k a6, .int k a7, .int k a8, .int k a9, .int k a10, .int k a11, .int k a12, .int k a13, .int k a14, .int k a15] 8 _ w rfl
  have p9 := fun w => pp #[.int k a0, .int k a1, .int k a2, .int k a3, .int k a4, .int k a5, .int k a6, .int k a7, .int k a8, .int k a9, .int k a10, .int k a11, .int k a12, .int k a13, .int k a14, .int k a15] 9 _ w rfl
  have p10 := fun w => pp #[.int k a0, .int k a1, .int k a2, .int k a3, .int k a4, .int k a5, .int k a6, .int k a7, .int k a8, .int k a9, .int k a10, .int k a11, .int k a12, .int k a13, .int k a14, .int k a15] 10 _ w rfl
  have p11 := fun w => pp #[.int k a0, .int k a1, .int k a2, .int k a3, .int k a4, .int k a5, .int k a6, .int k a7, .int k a8, .int k a9, .int k a10, .int k a11, .int k a12, .int k a13, .int k a14, .int k a15] 11 _ w rfl
  have p12 := fun w => pp #[.int k a0, .int k a1, .int k a2, .int k a3, .int k a4, .int k a5, .int k a6, .int k a7, .int k a8, .int k a9, .int k a10, .int k a11, .int k a12, .int k a13, .int k a14, .int k a15] 12 _ w rfl
  have p13 := fun w => pp #[.int k a0, .int k a1, .int k a2, .int k a3, .int k a4, .int k a5, .int k a6, .int k a7, .int k a8, .int k a9, .int k a10, .int k a11, .int k a12, .int k a13, .int k a14, .int k a15] 13 _ w rfl
  have p14 := fun w => pp #[.int k a0, .int k a1, .int k a2, .int k a3, .int k a4, .int k a5, .int k a6, .int k a7, .int k a8, .int k a9, .int k a10, .int k a11, .int k a12, .int k a13, .int k a14, .int k a15] 14 _ w rfl
  have p15 := fun w => pp #[.int k a0, .int k a1, .int k a2, .int k a3, .int k a4, .int k a5, .int k a6, .int k a7, .int k a8, .int k a9, .int k a10, .int k a11, .int k a12, .int k a13, .int k a14, .int k a15] 15 _ w rfl
  clear pp
  unfold Op.equalIn
  simp [Sem.run_bind, run_underlying ht, sizeOf, typeInfo, hq, hs, Std.Legacy.Range.forIn_eq_forIn_range', Std.Legacy.Range.size, List.range', p0, p1, p2, p3, p4, p5, p6, p7, p8, p9, p10, p11, p12, p13, p14, p15, q]
end Go.Proofs.YtinpdgjbiimgkaaDoor

/- The laws of package cpu: two new blocks; what they share. -/
namespace Go.Proofs.YtinpdgjbiimgkaaDoor
open Go.ChangeShapes Go.WideShapes Go.ChangeAt Go.RowKit
set_option linter.unusedVariables false

theorem infoCase {cs : Array Value} (hz : cs.size = 27) : (Tryd.prog.info? 31).map (·.size) = some cs.size := by
  rw [hz]
  kernel_rfl

/-- A processor and a memory, laid in two new blocks. -/
structure TwoNew (w : World) (C M : Array Value) : Prop where
  a : Whole ((w.alloc (.cells zeros38 38)).alloc (.cells zeros41 41)) w.heap.size 38 zeros38
  b : Whole (((w.alloc (.cells zeros38 38)).alloc (.cells zeros41 41)).setRow w.heap.size C) (w.heap.size + 1) 41 zeros41
  bel : Below w.heap.size w ((((w.alloc (.cells zeros38 38)).alloc (.cells zeros41 41)).setRow w.heap.size C).setRow (w.heap.size + 1) M)
  c : Whole ((((w.alloc (.cells zeros38 38)).alloc (.cells zeros41 41)).setRow w.heap.size C).setRow (w.heap.size + 1) M) w.heap.size 38 C
  d : Whole ((((w.alloc (.cells zeros38 38)).alloc (.cells zeros41 41)).setRow w.heap.size C).setRow (w.heap.size + 1) M) (w.heap.size + 1) 41 M

theorem two_aux {w V : World} {C M c0 m0 : Array Value} {t1 t2 : TypeId} (h1 : Whole V w.heap.size t1 c0) (h2 : Whole V (w.heap.size + 1) t2 m0) (b0 : Below w.heap.size w V) :
    Whole (V.setRow w.heap.size C) (w.heap.size + 1) t2 m0 ∧ Below w.heap.size w ((V.setRow w.heap.size C).setRow (w.heap.size + 1) M) ∧ Whole ((V.setRow w.heap.size C).setRow (w.heap.size + 1) M) w.heap.size t1 C ∧ Whole ((V.setRow w.heap.size C).setRow (w.heap.size + 1) M) (w.heap.size + 1) t2 M := by
  have o1 := Only.setRow V w.heap.size C
  have o2 := Only.setRow (V.setRow w.heap.size C) (w.heap.size + 1) M
  have s0 := b0.size
  have s1 := o1.size
  exact ⟨h2.only (by omega) o1, (b0.trans (o1.below (Nat.le_refl _) s0)).trans (o2.below (by omega) (by omega)), (h1.setRow C).only (by omega) o2, (h2.only (by omega) o1).setRow M⟩

theorem two_new (w : World) (C M : Array Value) : TwoNew w C M := by
  have h1 := (Whole.made w 38 zeros38 _ rfl).alloc (.cells zeros41 41)
  have h2 := Whole.made (w.alloc (.cells zeros38 38)) 41 zeros41 (w.heap.size + 1) (by simp)
  have b0 := ((Below.refl w.heap.size w).alloc (Nat.le_refl _) (.cells zeros38 38)).alloc (by simp) (.cells zeros41 41)
  have A := two_aux (C := C) (M := M) h1 h2 b0
  exact ⟨h1, A.1, A.2.1, A.2.2.1, A.2.2.2⟩

theorem readVal_at4 {t : Nat} {e4 : Int} (h : 4 * (t : Int) < e4) (ws : List Int) : readVal (4 * t) e4 ws = ws.getD t 0 := by
  unfold readVal
  rw [checkRes_ok (by omega) h, if_pos rfl]
  congr 1
  omega

/-- What a law knows of a machine behind a run. -/
structure RunOf (m : Nat) (e0 e1 e4 : Int) (inp : List Int) (k : Nat) (s s' : St) : Prop where
  guard : ∀ t : Nat, 4 * (t : Int) < e1 → s'.ws.getD t 0 = s.ws.getD t 0
  fine : Fine m inp s'
  steps : s'.c.st = 0 → s'.c.steps = s.c.steps + k
  lo : s.c.steps ≤ s'.c.steps
  hi : s'.c.steps ≤ s.c.steps + k
  outs : s'.out.length ≤ s.out.length + k

theorem run_of {m : Nat} {e0 e1 e4 : Int} {inp : List Int} {s : St} (F : Fine m inp s) (k : Nat) : RunOf m e0 e1 e4 inp k s (runS e0 e1 e4 inp k s) :=
  ⟨fun t ht => run_guard ht k, run_fine F k, fun h => run_steps k h, (run_bounds k).1, (run_bounds k).2.1, (run_bounds k).2.2⟩
end Go.Proofs.YtinpdgjbiimgkaaDoor

/- The laws of package cpu: two machines side by side. -/
namespace Go.Proofs.YtinpdgjbiimgkaaDoor
open Go.ChangeShapes Go.WideShapes Go.ChangeAt Go.RowKit
set_option linter.unusedVariables false

section
variable {w w' : World} {B p q h m : Nat} {e0 e1 e2 e3 e4 : Int} {v : Value} {A : Option Addr} {mi cap : Nat} {inp : List Int} {s : St} {L : List Nat}

theorem Mach.other (M : Mach w B p q h m e0 e1 e2 e3 e4 v A mi cap inp s) (hb : But L w w') (hp : p ∉ L) (hq : q ∉ L) (hh : h ∉ L) (ho : ∀ b, v.ownBlock = some b → b ∉ L) (hi : ∀ b off, A = some ⟨b, off, none⟩ → b ∉ L) : Mach w' B p q h m e0 e1 e2 e3 e4 v A mi cap inp s :=
  { cpu := hb.cpu M.cpu hp, mem := hb.whole M.mem hq, wds := hb.whole M.wds hh, outs := M.outs.but hb ho, inps := M.inps.but hb hi, pq := M.pq, ph := M.ph, qh := M.qh, vp := M.vp, vq := M.vq, vh := M.vh, ia := M.ia, lp := M.lp, lh := M.lh, lw := Nat.le_trans M.lw hb.size }

theorem whole_ne {g1 g2 : Nat} {t1 t2 : TypeId} {c1 c2 : Array Value} (h1 : Whole w g1 t1 c1) (h2 : Whole w g2 t2 c2) (ht : t1 ≠ t2) : g1 ≠ g2 := by
  rintro rfl
  have := h1.symm.trans h2
  simp at this
  exact ht this.2

theorem Outs.ne_of {evs : List (Int × Int)} (h : Outs w B v evs) {g : Nat} {t : TypeId} {c : Array Value} (hw : Whole w g t c) (ht : 82 ≠ t) : ∀ b, v.ownBlock = some b → b ≠ g := by
  rintro b hb rfl
  rcases h.2 with ⟨rfl, _⟩ | ⟨g, cap, cur, rfl, _, a3, _⟩
  · simp [Value.ownBlock] at hb
  · simp [Value.ownBlock] at hb
    subst hb
    have := a3.symm.trans hw
    simp at this
    exact ht this.2
end
end Go.Proofs.YtinpdgjbiimgkaaDoor
