/- CpuTw CpuTk CpuSm MemJ CpuSe in one. -/
import Derived.Test.YtinpdgjbiimgkaaDoorCpuSB
import Derived.Test.YtinpdgjbiimgkaaDoorCpuYM
import Derived.Test.YtinpdgjbiimgkaaDoorCpuTE
import Derived.Test.YtinpdgjbiimgkaaDoorCpuO
import Derived.Test.YtinpdgjbiimgkaaDoorMemFT

/- The laws of package cpu: its machine and the answers' machine, side by side. -/
namespace Go.Proofs.YtinpdgjbiimgkaaDoor
open Go.ChangeShapes Go.WideShapes Go.ChangeAt Go.RowKit
set_option linter.unusedVariables false

/-- Where the answers' words and events lie: in no block of the machine's own. -/
structure Apart (w : World) (L : List Nat) (A : Option Addr) (h : Nat) (s : St) : Prop where
  ev : Evs w A s.out.length s.out
  wd : Whole w h 22 (words s.ws)
  hn : h ∉ L
  ea : 0 < s.out.length → ∀ b off, A = some ⟨b, off, none⟩ → b < w.heap.size ∧ b ∉ L

section
variable {w w' : World} {B p q h m : Nat} {e0 e1 e2 e3 e4 : Int} {v v' : Value} {A A2 : Option Addr} {mi cap : Nat} {inp : List Int} {s s' : St} {L : List Nat} {h2 : Nat}

theorem Apart.below (X : Apart w L A2 h2 s) (hb : Below w.heap.size w w') : Apart w' L A2 h2 s :=
  ⟨X.ev.below hb, X.wd.below hb X.wd.lt, X.hn, fun h0 b off hA => ⟨Nat.lt_of_lt_of_le (X.ea h0 b off hA).1 hb.size, (X.ea h0 b off hA).2⟩⟩

theorem Apart.step {a5 b5 : Nat} (X : Apart w (a5 :: b5 :: p :: h :: ownList v) A2 h2 s) (hb : But (p :: h :: ownList v) w w') (hn : Newer w v v') : Apart w' (a5 :: b5 :: p :: h :: ownList v') A2 h2 s := by
  have key : ∀ k, k < w.heap.size → k ∉ a5 :: b5 :: p :: h :: ownList v → k ∉ a5 :: b5 :: p :: h :: ownList v' := fun k hk hk2 hm => by
    simp only [List.mem_cons, mem_own] at hm hk2
    rcases hm with h1 | h1 | h1 | h1 | h1
    · exact hk2 (.inl h1)
    · exact hk2 (.inr (.inl h1))
    · exact hk2 (.inr (.inr (.inl h1)))
    · exact hk2 (.inr (.inr (.inr (.inl h1))))
    · rcases hn with h3 | ⟨b, h3, h4⟩
      · exact hk2 (.inr (.inr (.inr (.inr (h3 ▸ h1)))))
      · rw [h3] at h1
        injection h1 with h1
        omega
  have out : ∀ k, k ∉ a5 :: b5 :: p :: h :: ownList v → k ∉ p :: h :: ownList v := fun k hk hm => hk (List.mem_cons_of_mem _ (List.mem_cons_of_mem _ hm))
  exact ⟨X.ev.but2 hb (fun h0 b off hA => out _ (X.ea h0 b off hA).2), hb.whole X.wd (out _ X.hn), key _ X.wd.lt X.hn, fun h0 b off hA => ⟨Nat.lt_of_lt_of_le (X.ea h0 b off hA).1 hb.size, key _ (X.ea h0 b off hA).1 (X.ea h0 b off hA).2⟩⟩

/-- Blocks of its own may turn. -/
theorem Apart.but (X : Apart w L A2 h2 s) {K : List Nat} (hb : But K w w') (h1 : h2 ∉ K) (h3 : 0 < s.out.length → ∀ b off, A2 = some ⟨b, off, none⟩ → b ∉ K) : Apart w' L A2 h2 s :=
  ⟨X.ev.but2 hb h3, hb.whole X.wd h1, X.hn, fun h0 b off hA => ⟨Nat.lt_of_lt_of_le (X.ea h0 b off hA).1 hb.size, (X.ea h0 b off hA).2⟩⟩

theorem own_lt (M : Mach w B p q h m e0 e1 e2 e3 e4 v A mi cap inp s) : ∀ k, k ∈ p :: h :: ownList v → k < w.heap.size := by
  intro k hk
  simp only [List.mem_cons] at hk
  rcases hk with rfl | rfl | hk
  · exact M.cpu.lt
  · exact M.wds.lt
  · exact (M.outs.lt k (mem_own.1 hk)).2

/-- A block of another type is none of the machine's own. -/
theorem own_ne (M : Mach w B p q h m e0 e1 e2 e3 e4 v A mi cap inp s) {k : Nat} {t : TypeId} {cs : Array Value} (hk : Whole w k t cs) (h1 : t ≠ 67) (h3 : t ≠ 22) (h4 : t ≠ 82) : k ∉ p :: h :: ownList v := by
  intro hm
  simp only [List.mem_cons, mem_own] at hm
  rcases hm with rfl | rfl | hm
  · exact whole_ne hk M.cpu.whole h1 rfl
  · exact whole_ne hk M.wds h3 rfl
  · exact M.outs.ne_of hk (Ne.symm h4) k hm rfl

/-- What the answers' Step leaves, with where it lies. -/
theorem Apart.next {n2 k2 : Nat} {Ai : Option Addr} {e : Ending} (hl : ∀ k, k ∈ L → k < w.heap.size) (X : Apart w L A2 h2 s) (hp : StepEnd m n2 k2 e0 e1 e2 e3 e4 A2 h2 s.out.length Ai s' w e w') :
    ∃ A' k' h', e = .returned (.tuple #[.agg (cpuCells s'.c (.slice A' s'.out.length k') (.slice Ai n2 k2)), .agg (memCells e0 e1 e2 e3 e4 h' m)]) ∧ Apart w' L A' h' s' ∧ Below w.heap.size w w' := by
  obtain ⟨A', k', h', he, hev, hA, hw, hh, hb⟩ := hp
  refine ⟨A', k', h', he, ⟨hev, hw, ?_, fun h0 b off hAb => ?_⟩, hb⟩
  · rcases hh with rfl | hh
    · exact X.hn
    · intro hm
      have := hl _ hm
      omega
  · obtain ⟨b1, o1, hA1, hlt, _⟩ := hev.2 h0
    rw [hAb] at hA1
    injection hA1 with hA1
    injection hA1 with hA1
    subst hA1
    refine ⟨hlt, ?_⟩
    rcases hA with ⟨rfl, hn⟩ | hA
    · exact (X.ea (by omega) b off hAb).2
    · intro hm
      have := hl _ hm
      have := hA b off hAb
      omega
end

theorem fine_step {m : Nat} {e0 e1 e4 : Int} {inp : List Int} {s : St} (F : Fine m inp s) : Fine m inp (stepS e0 e1 e4 inp s) := run_fine (e0 := e0) (e1 := e1) (e4 := e4) F 1

theorem steps_step (e0 e1 e4 : Int) (inp : List Int) (s : St) : s.c.steps ≤ (stepS e0 e1 e4 inp s).c.steps ∧ (stepS e0 e1 e4 inp s).c.steps ≤ s.c.steps + 1 ∧ (stepS e0 e1 e4 inp s).out.length ≤ s.out.length + 1 :=
  run_bounds (e0 := e0) (e1 := e1) (e4 := e4) (inp := inp) (s := s) 1
end Go.Proofs.YtinpdgjbiimgkaaDoor

/- Regions that draw: what may be taken first; a guarded operation. Over any program. -/
namespace Go.Proofs.YtinpdgjbiimgkaaDoor
open Go.ChangeShapes Go.WideShapes Go.ChangeAt Go.RowKit
set_option linter.unusedVariables false
set_option linter.unusedSimpArgs false

section
variable {P : Program} {ops : Array Oper} {op : Oper} {a : Act} {w : World} {K : Act → World → Prop} {Q : Exit → Act → World → Prop} {S : World → Prop} {fn : Func}

theorem wanted_open {f : Nat → Option Bool} (hg : op.guard = none) : Region.wanted op f = true := by simp [Region.wanted, hg]

theorem wanted_by {j d : Nat} {b : Bool} {oj : Oper} (hg : op.guard = some (j, b)) (hj : ops[j]? = some oj) (hd : oj.dst = some d) (he : a.eval (.tmp d) = .bool b) : Region.wanted op (yielded ops a.tmps) = true := by
  have h1 : a.tmps[d]? = some (.bool b) := by
    simp only [Act.eval, Array.getD_eq_getD_getElem?] at he
    cases h : a.tmps[d]? with
    | none => rw [h] at he; simp [undef] at he
    | some v => rw [h] at he; simp at he; rw [he]
  simp [Region.wanted, hg, yielded, hj, hd, h1]

theorem take_run (v : Value) (hw : Region.wanted op (yielded ops a.tmps) = true) (h : ∀ w, (execOp a.eval op).run P w = .ok (.value v) w) : YieldsIf P ops S op v a := .inl ⟨hw, fun w _ => h w⟩

theorem take_move_g (x : Operand) (v : Value) (hw : Region.wanted op (yielded ops a.tmps) = true) (ho : op.op = .move x) (hx : a.eval x = v) : YieldsIf P ops S op v a :=
  take_run v hw fun w => by
    unfold execOp
    simp only [ho, hx]
    rfl

theorem take_load_g (T : TypeId) (x : Operand) (hw : Region.wanted op (yielded ops a.tmps) = true) (ho : op.op = .load T x) (g : Nat) (hx : a.eval x = .pointer (some ⟨g, 0, none⟩)) (t : TypeId) (cs : Array Value) (hS : ∀ w, S w → Whole w g t cs) (d : TypeDesc)
    (hu : P.underlying T = some d) (hd : (match d with | .struct _ | .array _ _ => true | _ => false) = true) (hi : (P.info? T).map (·.size) = some cs.size) : YieldsIf P ops S op (.agg cs) a :=
  .inl ⟨hw, fun w hw' => by
    unfold execOp
    simp only [ho, hx, Instr.loadAt, Instr.sureAddr, Sem.run_bind, Sem.run_pure, Result.andThen_ok, run_loadVar_row w g t T cs (0, 0) d (hS w hw') hu hd hi]⟩

theorem step_call2_g {f : FuncId} {x y : Operand} {ts : Array TypeId} (hf : P.funcs[f]? = some fn) (hn : (fn.name == "runtime.NumGoroutine") = false) (hb : fn.body.isNone = false) (hw : Region.wanted op (yielded ops a.tmps) = true) (ho : op.op = .call { callee := .value (.func f), args := #[x, y], argTypes := ts }) (v1 v2 : Value) (h1 : a.eval x = v1) (h2 : a.eval y = v2)
    {R : Ending → World → Prop} (hc : Calls P f #[v1, v2] w R) (h : ∀ e w', R e w' → ∃ v, e = .returned v ∧ K (a.put op.dst v) w') : Stepped P ops op a w K Q := by
  refine ⟨?_⟩
  rw [if_pos hw]
  unfold Oper.wp
  rw [enter_any hf hn hb ho (args := #[v1, v2]) (by simp [h1, h2])]
  simp only [Oper.upon]
  refine hc.mono ?_
  intro e w' hr
  obtain ⟨v, rfl, hk⟩ := h e w' hr
  exact hk

theorem take_not (T : TypeId) (x : Operand) (b : Bool) (hw : Region.wanted op (yielded ops a.tmps) = true) (ho : op.op = .unOp .not T x) (hx : a.eval x = .bool b) : YieldsIf P ops S op (.bool (!b)) a :=
  take_run _ hw fun w => by
    unfold execOp
    simp only [ho, hx]
    simp [go_sem]

theorem take_pick (x y z : Operand) (b : Bool) (v1 v2 : Value) (hw : Region.wanted op (yielded ops a.tmps) = true) (ho : op.op = .pick x y z) (hx : a.eval x = .bool b) (hy : a.eval y = v1) (hz : a.eval z = v2) : YieldsIf P ops S op (if b then v1 else v2) a :=
  take_run _ hw fun w => by
    unfold execOp
    simp only [ho, hx, hy, hz]
    cases b <;> simp [go_sem]

theorem take_neq (T R : TypeId) (x y : Operand) (k : IntKind) (n : Int) (hw : Region.wanted op (yielded ops a.tmps) = true) (ho : op.op = .binOp .neq T x y R) (hu : P.underlying T = some (.int k)) (hx : a.eval x = .int k n) (hy : a.eval y = .int k n) : YieldsIf P ops S op (.bool false) a :=
  take_run _ hw fun w => by
    unfold execOp
    simp only [ho, hx, hy]
    simp [hu, go_sem]

theorem take_eql (T R : TypeId) (x y : Operand) (k : IntKind) (n : Int) (hw : Region.wanted op (yielded ops a.tmps) = true) (ho : op.op = .binOp .eql T x y R) (hu : P.underlying T = some (.int k)) (hx : a.eval x = .int k n) (hy : a.eval y = .int k n) : YieldsIf P ops S op (.bool true) a :=
  take_run _ hw fun w => by
    unfold execOp
    simp only [ho, hx, hy]
    simp [hu, go_sem]
end

theorem nth7 {o0 o1 o2 o3 o4 o5 o6 o7 : Oper} {r : List Oper} : (o0 :: o1 :: o2 :: o3 :: o4 :: o5 :: o6 :: o7 :: r).toArray[7]? = some o7 := by simp

theorem nth8 {o0 o1 o2 o3 o4 o5 o6 o7 o8 : Oper} {r : List Oper} : (o0 :: o1 :: o2 :: o3 :: o4 :: o5 :: o6 :: o7 :: o8 :: r).toArray[8]? = some o8 := by simp

theorem nth9 {o0 o1 o2 o3 o4 o5 o6 o7 o8 o9 : Oper} {r : List Oper} : (o0 :: o1 :: o2 :: o3 :: o4 :: o5 :: o6 :: o7 :: o8 :: o9 :: r).toArray[9]? = some o9 := by simp

theorem nth10 {o0 o1 o2 o3 o4 o5 o6 o7 o8 o9 o10 : Oper} {r : List Oper} : (o0 :: o1 :: o2 :: o3 :: o4 :: o5 :: o6 :: o7 :: o8 :: o9 :: o10 :: r).toArray[10]? = some o10 := by simp

theorem nth11 {o0 o1 o2 o3 o4 o5 o6 o7 o8 o9 o10 o11 : Oper} {r : List Oper} : (o0 :: o1 :: o2 :: o3 :: o4 :: o5 :: o6 :: o7 :: o8 :: o9 :: o10 :: o11 :: r).toArray[11]? = some o11 := by simp

theorem nth12 {o0 o1 o2 o3 o4 o5 o6 o7 o8 o9 o10 o11 o12 : Oper} {r : List Oper} : (o0 :: o1 :: o2 :: o3 :: o4 :: o5 :: o6 :: o7 :: o8 :: o9 :: o10 :: o11 :: o12 :: r).toArray[12]? = some o12 := by simp

theorem nth13 {o0 o1 o2 o3 o4 o5 o6 o7 o8 o9 o10 o11 o12 o13 : Oper} {r : List Oper} : (o0 :: o1 :: o2 :: o3 :: o4 :: o5 :: o6 :: o7 :: o8 :: o9 :: o10 :: o11 :: o12 :: o13 :: r).toArray[13]? = some o13 := by simp

theorem nth14 {o0 o1 o2 o3 o4 o5 o6 o7 o8 o9 o10 o11 o12 o13 o14 : Oper} {r : List Oper} : (o0 :: o1 :: o2 :: o3 :: o4 :: o5 :: o6 :: o7 :: o8 :: o9 :: o10 :: o11 :: o12 :: o13 :: o14 :: r).toArray[14]? = some o14 := by simp

theorem nth15 {o0 o1 o2 o3 o4 o5 o6 o7 o8 o9 o10 o11 o12 o13 o14 o15 : Oper} {r : List Oper} : (o0 :: o1 :: o2 :: o3 :: o4 :: o5 :: o6 :: o7 :: o8 :: o9 :: o10 :: o11 :: o12 :: o13 :: o14 :: o15 :: r).toArray[15]? = some o15 := by simp

theorem nth16 {o0 o1 o2 o3 o4 o5 o6 o7 o8 o9 o10 o11 o12 o13 o14 o15 o16 : Oper} {r : List Oper} : (o0 :: o1 :: o2 :: o3 :: o4 :: o5 :: o6 :: o7 :: o8 :: o9 :: o10 :: o11 :: o12 :: o13 :: o14 :: o15 :: o16 :: r).toArray[16]? = some o16 := by simp

theorem nth17 {o0 o1 o2 o3 o4 o5 o6 o7 o8 o9 o10 o11 o12 o13 o14 o15 o16 o17 : Oper} {r : List Oper} : (o0 :: o1 :: o2 :: o3 :: o4 :: o5 :: o6 :: o7 :: o8 :: o9 :: o10 :: o11 :: o12 :: o13 :: o14 :: o15 :: o16 :: o17 :: r).toArray[17]? = some o17 := by simp

theorem take_field {ops : Array Oper} {op : Oper} {a : Act} {S : World → Prop} (T : TypeId) (x : Operand) (k : Nat) (g off : Nat) (hw : Region.wanted op (yielded ops a.tmps) = true) (ho : op.op = .fieldAddr T x k) (hx : a.eval x = .pointer (some ⟨g, 0, none⟩)) (h : ∀ w, (execOp (fun _ => .pointer (some ⟨g, 0, none⟩)) { op with op := .fieldAddr T x k }).run Tryd.prog w = .ok (.value (.pointer (some ⟨g, off, none⟩))) w) : YieldsIf Tryd.prog ops S op (.pointer (some ⟨g, off, none⟩)) a :=
  take_run _ hw fun w => by
    have := h w
    unfold execOp at *
    simp only [ho, hx] at *
    exact this

theorem take_cell {ops : Array Oper} {op : Oper} {a : Act} {S : World → Prop} (T : TypeId) (x : Operand) (g off : Nat) (k : IntKind) (n : Int) (hw : Region.wanted op (yielded ops a.tmps) = true) (ho : op.op = .load T x) (hu : Tryd.prog.underlying T = some (.int k)) (hx : a.eval x = .pointer (some ⟨g, off, none⟩)) (hS : ∀ w, S w → w.cell? ⟨g, off, none⟩ = some (.int k n)) : YieldsIf Tryd.prog ops S op (.int k n) a :=
  .inl ⟨hw, fun w hw' => by
    unfold execOp
    have hA : (isAgg T).run Tryd.prog w = .ok false w := by simp [isAgg, run_underlying hu]
    simp only [ho, hx]
    simp [hA, hS w hw', go_sem]⟩
end Go.Proofs.YtinpdgjbiimgkaaDoor

/- The laws of package cpu: Same. -/
namespace Go.Proofs.YtinpdgjbiimgkaaDoor
open Go.ChangeShapes Go.WideShapes Go.ChangeAt Go.RowKit
set_option linter.unusedVariables false

theorem list_16b {α : Type} {zs : List α} (h : zs.length = 16) : ∃ a0 a1 a2 a3 a4 a5 a6 a7 a8 a9 a10 a11 a12 a13 a14 a15, zs = [a0, a1, a2, a3, a4, a5, a6, a7, a8, a9, a10, a11, a12, a13, a14, a15] := by
  match zs, h with
  | [a0, a1, a2, a3, a4, a5, a6, a7, a8, a9, a10, a11, a12, a13, a14, a15], _ => exact ⟨_, _, _, _, _, _, _, _, _, _, _, _, _, _, _, _, rfl⟩

set_option maxHeartbeats 8000000 in
set_option maxRecDepth 100000 in
theorem same4_any (p : Nat) (c : Cp) (evs : List (Int × Int)) (A1 A2 A3 A4 : Option Addr) (k1 k2 n3 k3 n4 k4 : Nat) (w : World) (hC : CpuAt w p 67 c (.slice A1 evs.length k1) (.slice A3 n3 k3)) (h1 : Evs w A1 evs.length evs) (h2 : Evs w A2 evs.length evs) (hm : evs.length ≤ 1000000) :
    Calls Tryd.prog 11 #[.pointer (some ⟨p, 0, none⟩), .agg (cpuCells c (.slice A2 evs.length k2) (.slice A4 n4 k4))] w fun e w' => e = .returned (.bool true) ∧ Below w.heap.size w w' := by
  obtain ⟨x0, x1, x2, x3, x4, x5, x6, x7, x8, x9, x10, x11, x12, x13, x14, x15, hrr⟩ := list_16b hC.len
  have HC := Lib.hid (hC.alloc (.cells (cpuCells c (.slice A2 evs.length k2) (.slice A4 n4 k4)) 38))
  have HB := Lib.hid (CpuAt.made w 38 c (.slice A2 evs.length k2) (.slice A4 n4 k4) hC.len w.heap.size rfl)
  have b0 := (Below.refl w.heap.size w).alloc (Nat.le_refl _) (.cells (cpuCells c (.slice A2 evs.length k2) (.slice A4 n4 k4)) 38)
  have B0 := Lib.hid b0
  have E1 := Lib.hid (h1.below b0)
  have E2 := Lib.hid (h2.below b0)
  have r0 : (w.alloc (.cells (cpuCells c (.slice A2 evs.length k2) (.slice A4 n4 k4)) 38)).cell? ⟨p, 0, none⟩ = some (.int .u32 x0) := by have := HC.out.reg (show 0 < 16 by decide); rw [hrr] at this; exact this
  have r1 : (w.alloc (.cells (cpuCells c (.slice A2 evs.length k2) (.slice A4 n4 k4)) 38)).cell? ⟨p, 1, none⟩ = some (.int .u32 x1) := by have := HC.out.reg (show 1 < 16 by decide); rw [hrr] at this; exact this
  have r2 : (w.alloc (.cells (cpuCells c (.slice A2 evs.length k2) (.slice A4 n4 k4)) 38)).cell? ⟨p, 2, none⟩ = some (.int .u32 x2) := by have := HC.out.reg (show 2 < 16 by decide); rw [hrr] at this; exact this
  have r3 : (w.alloc (.cells (cpuCells c (.slice A2 evs.length k2) (.slice A4 n4 k4)) 38)).cell? ⟨p, 3, none⟩ = some (.int .u32 x3) := by have := HC.out.reg (show 3 < 16 by decide); rw [hrr] at this; exact this
  have r4 : (w.alloc (.cells (cpuCells c (.slice A2 evs.length k2) (.slice A4 n4 k4)) 38)).cell? ⟨p, 4, none⟩ = some (.int .u32 x4) := by have := HC.out.reg (show 4 < 16 by decide); rw [hrr] at this; exact this
  have r5 : (w.alloc (.cells (cpuCells c (.slice A2 evs.length k2) (.slice A4 n4 k4)) 38)).cell? ⟨p, 5, none⟩ = some (.int .u32 x5) := by have := HC.out.reg (show 5 < 16 by decide); rw [hrr] at this; exact this
  have r6 : (w.alloc (.cells (cpuCells c (.slice A2 evs.length k2) (.slice A4 n4 k4)) 38)).cell? ⟨p, 6, none⟩ = some (.int .u32 x6) := by have := HC.out.reg (show 6 < 16 by decide); rw [hrr] at this; exact this
  have r7 : (w.alloc (.cells (cpuCells c (.slice A2 evs.length k2) (.slice A4 n4 k4)) 38)).cell? ⟨p, 7, none⟩ = some (.int .u32 x7) := by have := HC.out.reg (show 7 < 16 by decide); rw [hrr] at this; exact this
  have r8 : (w.alloc (.cells (cpuCells c (.slice A2 evs.length k2) (.slice A4 n4 k4)) 38)).cell? ⟨p, 8, none⟩ = some (.int .u32 x8) := by have := HC.out.reg (show 8 < 16 by decide); rw [hrr] at this; exact this
  have r9 : (w.alloc (.cells (cpuCells c (.slice A2 evs.length k2) (.slice A4 n4 k4)) 38)).cell? ⟨p, 9, none⟩ = some (.int .u32 x9) := by have := HC.out.reg (show 9 < 16 by decide); rw [hrr] at this; exact this
  have r10 : (w.alloc (.cells (cpuCells c (.slice A2 evs.length k2) (.slice A4 n4 k4)) 38)).cell? ⟨p, 10, none⟩ = some (.int .u32 x10) := by have := HC.out.reg (show 10 < 16 by decide); rw [hrr] at this; exact this
  have r11 : (w.alloc (.cells (cpuCells c (.slice A2 evs.length k2) (.slice A4 n4 k4)) 38)).cell? ⟨p, 11, none⟩ = some (.int .u32 x11) := by have := HC.out.reg (show 11 < 16 by decide); rw [hrr] at this; exact this
  have r12 : (w.alloc (.cells (cpuCells c (.slice A2 evs.length k2) (.slice A4 n4 k4)) 38)).cell? ⟨p, 12, none⟩ = some (.int .u32 x12) := by have := HC.out.reg (show 12 < 16 by decide); rw [hrr] at this; exact this
  have r13 : (w.alloc (.cells (cpuCells c (.slice A2 evs.length k2) (.slice A4 n4 k4)) 38)).cell? ⟨p, 13, none⟩ = some (.int .u32 x13) := by have := HC.out.reg (show 13 < 16 by decide); rw [hrr] at this; exact this
  have r14 : (w.alloc (.cells (cpuCells c (.slice A2 evs.length k2) (.slice A4 n4 k4)) 38)).cell? ⟨p, 14, none⟩ = some (.int .u32 x14) := by have := HC.out.reg (show 14 < 16 by decide); rw [hrr] at this; exact this
  have r15 : (w.alloc (.cells (cpuCells c (.slice A2 evs.length k2) (.slice A4 n4 k4)) 38)).cell? ⟨p, 15, none⟩ = some (.int .u32 x15) := by have := HC.out.reg (show 15 < 16 by decide); rw [hrr] at this; exact this
  have q0 : (w.alloc (.cells (cpuCells c (.slice A2 evs.length k2) (.slice A4 n4 k4)) 38)).cell? ⟨w.heap.size, 0, none⟩ = some (.int .u32 x0) := by have := HB.out.reg (show 0 < 16 by decide); rw [hrr] at this; exact this
  have q1 : (w.alloc (.cells (cpuCells c (.slice A2 evs.length k2) (.slice A4 n4 k4)) 38)).cell? ⟨w.heap.size, 1, none⟩ = some (.int .u32 x1) := by have := HB.out.reg (show 1 < 16 by decide); rw [hrr] at this; exact this
  have q2 : (w.alloc (.cells (cpuCells c (.slice A2 evs.length k2) (.slice A4 n4 k4)) 38)).cell? ⟨w.heap.size, 2, none⟩ = some (.int .u32 x2) := by have := HB.out.reg (show 2 < 16 by decide); rw [hrr] at this; exact this
  have q3 : (w.alloc (.cells (cpuCells c (.slice A2 evs.length k2) (.slice A4 n4 k4)) 38)).cell? ⟨w.heap.size, 3, none⟩ = some (.int .u32 x3) := by have := HB.out.reg (show 3 < 16 by decide); rw [hrr] at this; exact this
  have q4 : (w.alloc (.cells (cpuCells c (.slice A2 evs.length k2) (.slice A4 n4 k4)) 38)).cell? ⟨w.heap.size, 4, none⟩ = some (.int .u32 x4) := by have := HB.out.reg (show 4 < 16 by decide); rw [hrr] at this; exact this
  have q5 : (w.alloc (.cells (cpuCells c (.slice A2 evs.length k2) (.slice A4 n4 k4)) 38)).cell? ⟨w.heap.size, 5, none⟩ = some (.int .u32 x5) := by have := HB.out.reg (show 5 < 16 by decide); rw [hrr] at this; exact this
  have q6 : (w.alloc (.cells (cpuCells c (.slice A2 evs.length k2) (.slice A4 n4 k4)) 38)).cell? ⟨w.heap.size, 6, none⟩ = some (.int .u32 x6) := by have := HB.out.reg (show 6 < 16 by decide); rw [hrr] at this; exact this
  have q7 : (w.alloc (.cells (cpuCells c (.slice A2 evs.length k2) (.slice A4 n4 k4)) 38)).cell? ⟨w.heap.size, 7, none⟩ = some (.int .u32 x7) := by have := HB.out.reg (show 7 < 16 by decide); rw [hrr] at this; exact this
  have q8 : (w.alloc (.cells (cpuCells c (.slice A2 evs.length k2) (.slice A4 n4 k4)) 38)).cell? ⟨w.heap.size, 8, none⟩ = some (.int .u32 x8) := by have := HB.out.reg (show 8 < 16 by decide); rw [hrr] at this; exact this
  have q9 : (w.alloc (.cells (cpuCells c (.slice A2 evs.length k2) (.slice A4 n4 k4)) 38)).cell? ⟨w.heap.size, 9, none⟩ = some (.int .u32 x9) := by have := HB.out.reg (show 9 < 16 by decide); rw [hrr] at this; exact this
  have q10 : (w.alloc (.cells (cpuCells c (.slice A2 evs.length k2) (.slice A4 n4 k4)) 38)).cell? ⟨w.heap.size, 10, none⟩ = some (.int .u32 x10) := by have := HB.out.reg (show 10 < 16 by decide); rw [hrr] at this; exact this
  have q11 : (w.alloc (.cells (cpuCells c (.slice A2 evs.length k2) (.slice A4 n4 k4)) 38)).cell? ⟨w.heap.size, 11, none⟩ = some (.int .u32 x11) := by have := HB.out.reg (show 11 < 16 by decide); rw [hrr] at this; exact this
  have q12 : (w.alloc (.cells (cpuCells c (.slice A2 evs.length k2) (.slice A4 n4 k4)) 38)).cell? ⟨w.heap.size, 12, none⟩ = some (.int .u32 x12) := by have := HB.out.reg (show 12 < 16 by decide); rw [hrr] at this; exact this
  have q13 : (w.alloc (.cells (cpuCells c (.slice A2 evs.length k2) (.slice A4 n4 k4)) 38)).cell? ⟨w.heap.size, 13, none⟩ = some (.int .u32 x13) := by have := HB.out.reg (show 13 < 16 by decide); rw [hrr] at this; exact this
  have q14 : (w.alloc (.cells (cpuCells c (.slice A2 evs.length k2) (.slice A4 n4 k4)) 38)).cell? ⟨w.heap.size, 14, none⟩ = some (.int .u32 x14) := by have := HB.out.reg (show 14 < 16 by decide); rw [hrr] at this; exact this
  have q15 : (w.alloc (.cells (cpuCells c (.slice A2 evs.length k2) (.slice A4 n4 k4)) 38)).cell? ⟨w.heap.size, 15, none⟩ = some (.int .u32 x15) := by have := HB.out.reg (show 15 < 16 by decide); rw [hrr] at this; exact this
  have a16 := HC.out.pc
  have b16 := HB.out.pc
  have a17 := HC.out.epc
  have b17 := HB.out.epc
  have a18 := HC.out.cause
  have b18 := HB.out.cause
  have a19 := HC.out.st
  have b19 := HB.out.st
  have a20 := HC.out.why
  have b20 := HB.out.why
  have a21 := HC.out.steps
  have b21 := HB.out.steps
  have a22 := HC.out.taken
  have b22 := HB.out.taken
  have a23 := HC.out.outv
  have b23 := HB.out.outv
  have EQ16 : ∀ w, (Op.equalIn 10000 28 (.agg #[.int .u32 x0, .int .u32 x1, .int .u32 x2, .int .u32 x3, .int .u32 x4, .int .u32 x5, .int .u32 x6, .int .u32 x7, .int .u32 x8, .int .u32 x9, .int .u32 x10, .int .u32 x11, .int .u32 x12, .int .u32 x13, .int .u32 x14, .int .u32 x15]) (.agg #[.int .u32 x0, .int .u32 x1, .int .u32 x2, .int .u32 x3, .int .u32 x4, .int .u32 x5, .int .u32 x6, .int .u32 x7, .int .u32 x8, .int .u32 x9, .int .u32 x10, .int .u32 x11, .int .u32 x12, .int .u32 x13, .int .u32 x14, .int .u32 x15])).run Tryd.prog w = .ok true w := fun w => run_equalIn_arr16 (d := 9998) Tryd.underlying28 Tryd.underlying22 (by kernel_rfl) x0 x1 x2 x3 x4 x5 x6 x7 x8 x9 x10 x11 x12 x13 x14 x15 w
  clear hC h1 h2 hrr b0
  generalize hCC : cpuCells c (.slice A2 evs.length k2) (.slice A4 n4 k4) = CC at *
  clear hCC
  go_enter Tryd.func11, Tryd.ntmps11
  go_wp2_with fail
  generalize w.alloc (.cells CC 38) = W at *
  rw [List.append_eq]
  simp only [List.cons_append, List.nil_append]
  refine wp_region_quiet_lit (by kernel_rfl) (by as_aux_lemma => kernel_rfl) ?_
  as_aux_lemma =>
   iterate 20 (go_big_quiet_step (fail))
   as_aux_lemma =>
    iterate 20 (go_big_quiet_step (fail))
    as_aux_lemma =>
      repeat (go_big_quiet_step (fail))
      refine wpQuiet_nil ?_
      intro _ hw'
      obtain ⟨nq, hw''⟩ := hw'
      subst hw''
      clear EQ16
      as_aux_lemma =>
        go_wp2_with fail
        go_loopw [5] (fun i wr => ∃ t n : Nat, t ≤ evs.length ∧ i = .int .i64 t ∧ wr = W.drewN n) (fun i _ => evs.length - (intOf i).toNat)
        case atStart => exact ⟨0, nq, Nat.zero_le _, rfl, rfl⟩
        case round =>
          obtain ⟨t, nn, ht, rfl, rfl⟩ := hrel
          have c23 : (W.drewN nn).cell? ⟨p, 23, none⟩ = some (.slice A1 evs.length k1) := a23
          have d23 : (W.drewN nn).cell? ⟨w.heap.size, 23, none⟩ = some (.slice A2 evs.length k2) := b23
          by_cases hlt : t < evs.length
          · have hI : (t : Int) < evs.length := by omega
            obtain ⟨ba, oa, rfl, _, hca⟩ := E1.out.2 (by omega)
            obtain ⟨bb, ob, rfl, _, hcb⟩ := E2.out.2 (by omega)
            obtain ⟨g0, g1⟩ := evCells_get hlt
            have u0 : W.cell? ⟨ba, oa + t * 2, none⟩ = some (.int .i64 (evs.getD t (0, 0)).1) := by have := hca _ _ g0; rwa [show 2 * t = t * 2 by omega] at this
            have u1 : W.cell? ⟨ba, oa + t * 2 + 1, none⟩ = some (.int .i32 (evs.getD t (0, 0)).2) := by have := hca _ _ g1; rwa [show 2 * t = t * 2 by omega] at this
            have v0 : W.cell? ⟨bb, ob + t * 2, none⟩ = some (.int .i64 (evs.getD t (0, 0)).1) := by have := hcb _ _ g0; rwa [show 2 * t = t * 2 by omega] at this
            have v1 : W.cell? ⟨bb, ob + t * 2 + 1, none⟩ = some (.int .i32 (evs.getD t (0, 0)).2) := by have := hcb _ _ g1; rwa [show 2 * t = t * 2 by omega] at this
            generalize (evs.getD t (0, 0)).1 = y0 at *
            generalize (evs.getD t (0, 0)).2 = y1 at *
            clear hca hcb g0 g1
            go_wp2_with fail
            go_quiet (fail)
            go_wp2_with fail
            go_roundw
            case rel => exact ⟨t + 1, _, by omega, by go_num, rfl⟩
            case measure => simp [intOf]; omega
          · have hI : ¬ (t : Int) < evs.length := by omega
            go_wp2_with fail
            go_ret
            exact ⟨rfl, below_drawn B0.out nn⟩
end Go.Proofs.YtinpdgjbiimgkaaDoor

/- The laws' own: few, Same, awake. -/
namespace Go.Proofs.YtinpdgjbiimgkaaDoor
open Go.ChangeShapes Go.WideShapes Go.ChangeAt Go.RowKit
set_option linter.unusedVariables false

theorem u32_of_wf {z : Int} (h : (Lit.int .u32 z).wf = true) : U32 z := by
  obtain ⟨a, b⟩ := bounds_u32 h
  exact ⟨a, b⟩

/-- What few asks. -/
def FewOk (e0 e1 e2 e3 e4 : Int) (n : Nat) (f : Nat → OpR) : Prop := ¬ (okEnds e0 e1 e2 e3 e4 = true ∧ 4096 < e4) ∧ n ≤ 40 ∧ ∀ j, j < n → (f j).m ≤ 2000

def FewPost (n : Nat) (f : Nat → OpR) (w : World) (e : Ending) (w' : World) : Prop := ∃ b : Bool, e = .returned (.bool b) ∧ (b = true → ∀ j, j < n → (f j).m ≤ 2000) ∧ Below w.heap.size w w'

theorem keepS_call {x y : World} {p : Nat} {v0 v1 v2 v3 v4 : Value} (h : x.cell? ⟨p, 0, none⟩ = some v0 ∧ x.cell? ⟨p, 1, none⟩ = some v1 ∧ x.cell? ⟨p, 2, none⟩ = some v2 ∧ x.cell? ⟨p, 3, none⟩ = some v3 ∧ x.cell? ⟨p, 4, none⟩ = some v4) (hb : Below x.heap.size x y) :
    y.cell? ⟨p, 0, none⟩ = some v0 ∧ y.cell? ⟨p, 1, none⟩ = some v1 ∧ y.cell? ⟨p, 2, none⟩ = some v2 ∧ y.cell? ⟨p, 3, none⟩ = some v3 ∧ y.cell? ⟨p, 4, none⟩ = some v4 := keepL h hb

theorem below_step {w x y : World} (h : Below w.heap.size w x) (hk : Below x.heap.size x y) : Below w.heap.size w y := h.trans (hk.mono h.size)

set_option maxHeartbeats 8000000 in
set_option maxRecDepth 100000 in
theorem same_any3 (p h h2 n : Nat) (e0 e1 e2 e3 e4 : Int) (ws : List Int) (w : World) (hm : Whole w p 88 (memCells e0 e1 e2 e3 e4 h n)) (hw : Whole w h 22 (words ws)) (hw2 : Whole w h2 22 (words ws)) (hn : ws.length = n) (hn2 : n ≤ 1000000) (hl : e4 = 4 * n) (hws : ∀ z ∈ ws, U32 z) :
    Calls Tryd.prog 12 #[.pointer (some ⟨p, 0, none⟩), .agg (memCells e0 e1 e2 e3 e4 h2 n)] w fun e w' => e = .returned (.bool true) ∧ Below w.heap.size w w' := by
  have LY := Lib.hid (fun w hm => layout_any p h n e0 e1 e2 e3 e4 w hm)
  have EN := Lib.hid (fun w => lawEnds_any e0 e1 e2 e3 e4 w)
  have LD := Lib.hid (fun (at_ : Int) (w : World) ha hc hs hw => load_any p h n at_ e4 ws w ha hc hs hw hn (by omega) hws)
  have HWS := Lib.hid hws
  have EQ5 : ∀ w, (Op.equalIn 10000 39 (.agg #[.int .u32 e0, .int .u32 e1, .int .u32 e2, .int .u32 e3, .int .u32 e4]) (.agg #[.int .u32 e0, .int .u32 e1, .int .u32 e2, .int .u32 e3, .int .u32 e4])).run Tryd.prog w = .ok true w := fun w => run_equalIn_arr5 (d := 9998) Tryd.underlying39 Tryd.underlying22 (by kernel_rfl) e0 e1 e2 e3 e4 w
  have Q0 := Lib.hid (Whole.made w 41 #[.int .u32 e0, .int .u32 e1, .int .u32 e2, .int .u32 e3, .int .u32 e4, .slice (some ⟨h2, 0, none⟩) n n] w.heap.size rfl)
  have M0 := Lib.hid (hm.alloc (.cells #[.int .u32 e0, .int .u32 e1, .int .u32 e2, .int .u32 e3, .int .u32 e4, .slice (some ⟨h2, 0, none⟩) n n] 41))
  have H0 := Lib.hid (hw.alloc (.cells #[.int .u32 e0, .int .u32 e1, .int .u32 e2, .int .u32 e3, .int .u32 e4, .slice (some ⟨h2, 0, none⟩) n n] 41))
  have K0 := Lib.hid (hw2.alloc (.cells #[.int .u32 e0, .int .u32 e1, .int .u32 e2, .int .u32 e3, .int .u32 e4, .slice (some ⟨h2, 0, none⟩) n n] 41))
  have B0 := Lib.hid ((Below.refl w.heap.size w).alloc (Nat.le_refl _) (.cells #[.int .u32 e0, .int .u32 e1, .int .u32 e2, .int .u32 e3, .int .u32 e4, .slice (some ⟨h2, 0, none⟩) n n] 41))
  have HL := Lib.hid hl
  clear hm hw hw2 hws hl
  unfold memCells at *
  unfold endsV at *
  go_enter Tryd.func12, Tryd.ntmps12
  go_wp2_with fail
  generalize w.alloc (.cells #[.int .u32 e0, .int .u32 e1, .int .u32 e2, .int .u32 e3, .int .u32 e4, .slice (some ⟨h2, 0, none⟩) n n] 41) = w1 at *
  have LS : w1.cell? ⟨w.heap.size, 0, none⟩ = some (.int .u32 e0) ∧ w1.cell? ⟨w.heap.size, 1, none⟩ = some (.int .u32 e1) ∧ w1.cell? ⟨w.heap.size, 2, none⟩ = some (.int .u32 e2) ∧ w1.cell? ⟨w.heap.size, 3, none⟩ = some (.int .u32 e3) ∧ w1.cell? ⟨w.heap.size, 4, none⟩ = some (.int .u32 e4) := ⟨Q0.out.cell 0, Q0.out.cell 1, Q0.out.cell 2, Q0.out.cell 3, Q0.out.cell 4⟩
  go_region_held3 (fun y => y.cell? ⟨w.heap.size, 0, none⟩ = some (.int .u32 e0) ∧ y.cell? ⟨w.heap.size, 1, none⟩ = some (.int .u32 e1) ∧ y.cell? ⟨w.heap.size, 2, none⟩ = some (.int .u32 e2) ∧ y.cell? ⟨w.heap.size, 3, none⟩ = some (.int .u32 e3) ∧ y.cell? ⟨w.heap.size, 4, none⟩ = some (.int .u32 e4))
    (first
      | with_reducible assumption
      | with_reducible exact keepL (by assumption) (Below.refl _ _).drew
      | with_reducible exact keepL (by assumption) hbm
      | with_reducible exact keepL (by assumption) hbk)
    (first
      | (go_at_call 31; refine (LY.out _ M0.out.drew).mono ?_; rintro e y1 ⟨rfl, hbm⟩)
      | (go_at_call 21; refine (EN.out _).mono ?_; rintro e y2 ⟨rfl, hbk⟩))
  rename _ ∧ _ => hHl
  clear hHl LS
  have Q2 := Lib.hid ((Whole.below (w := w1.drew) Q0.out hbm Q0.out.lt).below hbk (Nat.lt_of_lt_of_le Q0.out.lt hbm.size))
  have M2 := Lib.hid ((Whole.below (w := w1.drew) M0.out hbm M0.out.lt).below hbk (Nat.lt_of_lt_of_le M0.out.lt hbm.size))
  have H2 := Lib.hid ((Whole.below (w := w1.drew) H0.out hbm H0.out.lt).below hbk (Nat.lt_of_lt_of_le H0.out.lt hbm.size))
  have K2 := Lib.hid ((Whole.below (w := w1.drew) K0.out hbm K0.out.lt).below hbk (Nat.lt_of_lt_of_le K0.out.lt hbm.size))
  have B2 := Lib.hid (below_step (below_step B0.out.drew hbm) hbk)
  clear hbm hbk Q0 M0 H0 K0 B0
  have q5 : y2.cell? ⟨w.heap.size, 5, none⟩ = some (.slice (some ⟨h2, 0, none⟩) n n) := Q2.out.cell 5
  go_wp2_with fail
  go_loop [5] (fun i => ∃ j : Nat, j ≤ n ∧ i = .int .i64 j) (fun i => n - (intOf i).toNat)
  case atStart => exact ⟨0, Nat.zero_le _, rfl⟩
  case round =>
    obtain ⟨j, hj, rfl⟩ := hrel
    by_cases hlt : j < n
    · have hl := HL.out
      have hld := LD.out (4 * j) y2 ⟨by omega, by omega⟩ (M2.out.cell 4) (M2.out.cell 5) H2.out
      rw [show readVal (4 * (j : Int)) e4 ws = ws.getD j 0 by
        unfold readVal
        rw [checkRes_ok (by omega) (by omega), if_pos rfl]
        congr 1
        omega, checkRes_ok (by omega : (4 * (j : Int)) % 4 = 0) (by omega : 4 * (j : Int) < e4)] at hld
      have c0 := K2.out.word (k := j) (by omega)
      obtain ⟨v0, v1⟩ := wordOfs HWS.out j
      generalize ws.getD j 0 = v at *
      have LJ := Lib.hid hld
      clear hld hl
      go_wp2_with fail
      refine LJ.out.mono ?_
      rintro e w' ⟨rfl, rfl⟩
      go_wp2_with fail
      go_round
      case rel => exact ⟨j + 1, by omega, by go_num⟩
      case measure => simp [intOf]; omega
    · obtain rfl : j = n := by omega
      go_wp2_with fail
      go_ret
      exact ⟨rfl, B2.out⟩

end Go.Proofs.YtinpdgjbiimgkaaDoor

/- The laws of package cpu: Setup; what stays from round to round. -/
namespace Go.Proofs.YtinpdgjbiimgkaaDoor
open Go.ChangeShapes Go.WideShapes Go.ChangeAt Go.RowKit
set_option linter.unusedVariables false
set_option linter.unusedSimpArgs false

set_option maxHeartbeats 1000000 in
set_option maxRecDepth 100000 in
theorem csetup_any (p : Nat) (c : Cp) (o i : Value) (w : World) (hC : CpuAt w p 67 c o i) :
    Calls Tryd.prog 8 #[.pointer (some ⟨p, 0, none⟩)] w fun e w' => e = .returned (.agg #[.int .u32 c.en, .int .u32 c.ve, .int .u32 c.gu, .int .u32 c.li]) ∧ Below w.heap.size w w' := by
  have HC := Lib.hid (hC.alloc (.cells #[.int .u32 0, .int .u32 0, .int .u32 0, .int .u32 0] 26))
  have q24 := HC.out.en
  have q25 := HC.out.ve
  have q26 := HC.out.gu
  have q27 := HC.out.li
  clear hC
  go_enter Tryd.func8, Tryd.ntmps8
  go_wp2_with fail
  refine bodyPost_ret (v := .agg #[.int .u32 c.en, .int .u32 c.ve, .int .u32 c.gu, .int .u32 c.li]) ?_ rfl ⟨rfl, ?_⟩
  · simp [results, Tryd.results8, go_sem]
  · repeat (first | exact (Below.refl _ _).alloc (Nat.le_refl _) _ | refine Below.setCell ?_ (Nat.le_refl w.heap.size) _)

/-- Both machines, behind t rounds. -/
def Side (B p q h m ni cap ci : Nat) (e0 e1 e2 e3 e4 : Int) (A Ai : Option Addr) (inp : List Int) (t5 t6 t : Nat) (w : World) : Prop :=
  ∃ s v A2 k2 h2, Mach w B p q h m e0 e1 e2 e3 e4 v A ni cap inp s ∧ Apart w (t5 :: t6 :: p :: h :: ownList v) A2 h2 s ∧ Whole w t5 38 (cpuCells s.c (.slice A2 s.out.length k2) (.slice Ai ni ci)) ∧ Whole w t6 41 (memCells e0 e1 e2 e3 e4 h2 m) ∧ Fine m inp s ∧ 0 ≤ s.c.steps ∧ s.c.steps ≤ t ∧ s.out.length ≤ t

theorem keep4 {x y : World} {p : Nat} {v0 v1 v2 v3 : Value} {V : World} (h : x.cell? ⟨p, 5, none⟩ = some v0 ∧ x.cell? ⟨p, 6, none⟩ = some v1 ∧ x.cell? ⟨p, 7, none⟩ = some v2 ∧ x.cell? ⟨p, 8, none⟩ = some v3 ∧ Below V.heap.size V x ∧ p < V.heap.size) (hb : Below x.heap.size x y) :
    y.cell? ⟨p, 5, none⟩ = some v0 ∧ y.cell? ⟨p, 6, none⟩ = some v1 ∧ y.cell? ⟨p, 7, none⟩ = some v2 ∧ y.cell? ⟨p, 8, none⟩ = some v3 ∧ Below V.heap.size V y ∧ p < V.heap.size := by
  obtain ⟨h0, h1, h2, h3, h4, h5⟩ := h
  have hl : p < x.heap.size := Nat.lt_of_lt_of_le h5 h4.size
  exact ⟨(hb.cell (p := ⟨p, 5, none⟩) hl).trans h0, (hb.cell (p := ⟨p, 6, none⟩) hl).trans h1, (hb.cell (p := ⟨p, 7, none⟩) hl).trans h2, (hb.cell (p := ⟨p, 8, none⟩) hl).trans h3, h4.trans (hb.mono h4.size), h5⟩
end Go.Proofs.YtinpdgjbiimgkaaDoor
