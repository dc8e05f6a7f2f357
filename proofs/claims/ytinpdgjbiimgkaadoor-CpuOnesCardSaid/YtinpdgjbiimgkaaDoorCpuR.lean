/- The answers' processor: fault, trap. -/
import Derived.Test.YtinpdgjbiimgkaaDoorCpuP
import Derived.Test.YtinpdgjbiimgkaaDoorCpuO
import Derived.Test.YtinpdgjbiimgkaaDoorMemE
namespace Go.Proofs.YtinpdgjbiimgkaaDoor
open Go.ChangeShapes Go.WideShapes Go.ChangeAt Go.RowKit
set_option linter.unusedVariables false

theorem infoCpu {cs : Array Value} (hz : cs.size = 29) : (Tryd.prog.info? 38).map (·.size) = some cs.size := by
  rw [hz]
  kernel_rfl

theorem infoMem {cs : Array Value} (hz : cs.size = 6) : (Tryd.prog.info? 41).map (·.size) = some cs.size := by
  rw [hz]
  kernel_rfl

section
variable {P : Program} {ops : Array Oper} {op : Oper} {a : Act} {w : World} {K : Act → World → Prop} {Q : Exit → Act → World → Prop} {E : Prop} {S : World → Prop}

/-- A struct is read in a region that draws: it may be taken first. -/
theorem take_load (T : TypeId) (x : Operand) (hg : op.guard = none) (ho : op.op = .load T x) (g : Nat) (hx : a.eval x = .pointer (some ⟨g, 0, none⟩)) (t : TypeId) (cs : Array Value) (hS : ∀ w, S w → Whole w g t cs) (d : TypeDesc)
    (hu : P.underlying T = some d) (hd : (match d with | .struct _ | .array _ _ => true | _ => false) = true) (hi : (P.info? T).map (·.size) = some cs.size) : YieldsIf P ops S op (.agg cs) a :=
  .inl ⟨by simp [Region.wanted, hg], fun w hw' => by
    unfold execOp
    simp only [ho, hx, Instr.loadAt, Instr.sureAddr, Sem.run_bind, Sem.run_pure, Result.andThen_ok, run_loadVar_row w g t T cs (0, 0) d (hS w hw') hu hd hi]⟩

/-- A copy of a slot may be taken first. -/
theorem take_move (x : Operand) (hg : op.guard = none) (ho : op.op = .move x) : YieldsIf P ops S op (a.eval x) a :=
  .inl ⟨by simp [Region.wanted, hg], fun w hw' => by
    unfold execOp
    simp only [ho]
    rfl⟩

/-- An operation of a region that draws, as it comes up. (A structure: nothing lays it open by itself.) -/
structure Stepped (P : Program) (ops : Array Oper) (op : Oper) (a : Act) (w : World) (K : Act → World → Prop) (Q : Exit → Act → World → Prop) : Prop where
  out : if Region.wanted op (yielded ops a.tmps) = true then Oper.wp P op a w K Q else K (a.put op.dst undef) w

/-- A struct is written in a region that draws. -/
theorem step_store (T : TypeId) (x y : Operand) (hg : op.guard = none) (ho : op.op = .store T x y) (g : Nat) (cells : Array Value) (hx : a.eval x = .pointer (some ⟨g, 0, none⟩)) (hy : a.eval y = .agg cells) (t : TypeId) (old : Array Value) (hW : Whole w g t old)
    (hi : (P.info? T).map (·.size) = some cells.size) (hold : old.size = cells.size) (h1 : cells.all (·.oneCell') = true) (h : K (a.put op.dst undef) (w.setRow g cells)) :
    Stepped P ops op a w K Q := by
  have hw : Region.wanted op (yielded ops a.tmps) = true := by simp [Region.wanted, hg]
  refine ⟨?_⟩
  rw [if_pos hw]
  exact wp_store_row T x y ho g cells hx hy t old hW hi hold h1 h

/-- A call in a region that draws. -/
theorem step_call {f : FuncId} {args : Array Value} (hg : op.guard = none) (R : Ending → World → Prop) (he : (execOp a.eval op).run P w = Result.ok (Next.enter f args) w) (hc : Calls P f args w R) (h : ∀ e w', R e w' → ∃ v, e = .returned v ∧ K (a.put op.dst v) w') :
    Stepped P ops op a w K Q := by
  have hw : Region.wanted op (yielded ops a.tmps) = true := by simp [Region.wanted, hg]
  refine ⟨?_⟩
  rw [if_pos hw]
  unfold Oper.wp
  rw [he]
  simp only [Oper.upon]
  refine hc.mono ?_
  intro e w' hr
  obtain ⟨v, rfl, hk⟩ := h e w' hr
  exact hk
end

/-- Values of one cell. -/
theorem cpu_one (c : Cp) {o i : Value} (ho : o.oneCell' = true) (hi : i.oneCell' = true) : (cpuCells c o i).all (·.oneCell') = true := by
  rw [Array.all_eq_true_iff_forall_mem]
  intro v hv
  unfold cpuCells at hv
  simp at hv
  rcases hv with ⟨z, _, rfl⟩ | rfl | rfl | rfl | rfl | rfl | rfl | rfl | rfl | rfl | rfl | rfl | rfl | rfl
  all_goals first
    | rfl
    | assumption

/-- A processor of nothing. -/
def zeros38 : Array Value := #[.int .u32 0, .int .u32 0, .int .u32 0, .int .u32 0, .int .u32 0, .int .u32 0, .int .u32 0, .int .u32 0, .int .u32 0, .int .u32 0, .int .u32 0, .int .u32 0, .int .u32 0, .int .u32 0, .int .u32 0, .int .u32 0, .int .u32 0, .int .u32 0, .int .u32 0, .int .i64 0, .int .i64 0, .int .i64 0, .int .i64 0, .slice none 0 0, .int .u32 0, .int .u32 0, .int .u32 0, .int .u32 0, .slice none 0 0]

set_option maxHeartbeats 4000000 in
set_option maxRecDepth 100000 in
theorem reffault_any (c : Cp) (A1 A2 : Option Addr) (n1 c1 n2 c2 : Nat) (z : Int) (w : World) (hl : c.r.length = 16) :
    Calls Tryd.prog 24 #[.agg (cpuCells c (.slice A1 n1 c1) (.slice A2 n2 c2)), .int .i64 z] w fun e w' => e = .returned (.agg (cpuCells (faultC c z) (.slice A1 n1 c1) (.slice A2 n2 c2))) ∧ Below w.heap.size w w' := by
  have g19 := cpuCells_st hl (.slice A1 n1 c1) (.slice A2 n2 c2)
  have s19 := cpuCells_set_st hl (.slice A1 n1 c1) (.slice A2 n2 c2) 2
  have g20 := cpuCells_why (c := { c with st := 2 }) hl (.slice A1 n1 c1) (.slice A2 n2 c2)
  have s20 := cpuCells_set_why (c := { c with st := 2 }) hl (.slice A1 n1 c1) (.slice A2 n2 c2) z
  have R := Lib.hid (show ({ ({ c with st := 2 } : Cp) with why := z } : Cp) = faultC c z from rfl)
  have hl2 : (faultC c z).r.length = 16 := hl
  rw [R.out] at s20
  generalize ({ c with st := 2 } : Cp) = d1 at *
  generalize faultC c z = d2 at *
  have SZ := Lib.hid (cpuCells_size hl2 (.slice A1 n1 c1) (.slice A2 n2 c2))
  have ONE := Lib.hid (cpu_one d2 (o := .slice A1 n1 c1) (i := .slice A2 n2 c2) rfl rfl)
  generalize cpuCells c (.slice A1 n1 c1) (.slice A2 n2 c2) = C0 at *
  generalize cpuCells d1 (.slice A1 n1 c1) (.slice A2 n2 c2) = C1 at *
  generalize cpuCells d2 (.slice A1 n1 c1) (.slice A2 n2 c2) = C2 at *
  have W1 := Lib.hid ((Whole.made w 38 C2 _ rfl).alloc (.cells zeros38 38))
  have W2 := Lib.hid (Whole.made (w.alloc (.cells C2 38)) 38 zeros38 (w.heap.size + 1) (by simp))
  have W3 := Lib.hid (W2.out.setRow C2)
  have B3 := Lib.hid ((((Below.refl w.heap.size w).alloc (Nat.le_refl _) (.cells C2 38)).alloc (by simp) (.cells zeros38 38)).trans ((Only.setRow _ (w.heap.size + 1) C2).below (Nat.le_succ _) (by simp; omega)))
  clear hl hl2 R
  go_enter Tryd.func24, Tryd.ntmps24
  go_wp2_with (first
    | (refine wpList_load_row rfl 38 (.tmp 2) rfl w.heap.size rfl 38 C2 (0, 0) _ W1.out Tryd.underlying38 rfl (infoCpu SZ.out) ?_)
    | (refine wpList_store_row rfl 38 (.tmp 4) (.tmp 8) rfl (w.heap.size + 1) C2 rfl rfl 38 zeros38 W2.out (infoCpu SZ.out) (by rw [SZ.out]; rfl) ONE.out ?_))
  exact bodyPost_ret (v := .agg C2) (results_cell_row rfl _ _ (w.heap.size + 1) 38 C2 (0, 0) _ rfl W3.out Tryd.underlying38 rfl (infoCpu SZ.out)) rfl ⟨rfl, B3.out⟩
end Go.Proofs.YtinpdgjbiimgkaaDoor
