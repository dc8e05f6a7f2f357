/- CpuR CpuT CpuTE in one. -/
import Derived.Test.YtlmokkopaididaaDoorCpuP
import Derived.Test.YtlmokkopaididaaDoorCpuO
import Derived.Test.YtlmokkopaididaaDoorCpuKN
import Derived.Test.YtlmokkopaididaaDoorCpuC

/- The answers' processor: fault, trap. -/
namespace Go.Proofs.YtlmokkopaididaaDoor
open Go.ChangeShapes Go.WideShapes Go.ChangeAt Go.RowKit
set_option linter.unusedVariables false

theorem infoCpu {cs : Array Value} (hz : cs.size = 29) : (Tryd.prog.info? 38).map (·.size) = some cs.size := by
  rw [hz]
  kernel_rfl

theorem infoMem {cs : Array Value} (hz : cs.size = 6) : (Tryd.prog.info? 41).map (·.size) = some cs.size := by
  rw [hz]
  kernel_rfl

section
variable {P : Program} {ops : Array Oper} {op : Oper} {a : Act} {w : World} {K : Act → World → Prop} {Q : Exit → Act → World → Prop} {E : Prop} {S : World → Prop}

/-- A struct is read in a region that draws: it may be taken first. -/
theorem take_load (T : TypeId) (x : Operand) (hg : op.guard = none) (ho : op.op = .load T x) (g : Nat) (hx : a.eval x = .pointer (some ⟨g, 0, none⟩)) (t : TypeId) (cs : Array Value) (hS : ∀ w, S w → Whole w g t cs) (d : TypeDesc)
    (hu : P.underlying T = some d) (hd : (match d with | .struct _ | .array _ _ => true | _ => false) = true) (hi : (P.info? T).map (·.size) = some cs.size) : YieldsIf P ops S op (.agg cs) a :=
  .inl ⟨by simp [Region.wanted, hg], fun w hw' => by
    unfold execOp
    simp only [ho, hx, Instr.loadAt, Instr.sureAddr, Sem.run_bind, Sem.run_pure, Result.andThen_ok, run_loadVar_row w g t T cs (0, 0) d (hS w hw') hu hd hi]⟩

/-- A copy of a slot may be taken first. -/
theorem take_move (x : Operand) (hg : op.guard = none) (ho : op.op = .move x) : YieldsIf P ops S op (a.eval x) a :=
  .inl ⟨by simp [Region.wanted, hg], fun w hw' => by
    unfold execOp
    simp only [ho]
    rfl⟩

/-- An operation of a region that draws, as it comes up. (A structure: nothing lays it open by itself.) -/
structure Stepped (P : Program) (ops : Array Oper) (op : Oper) (a : Act) (w : World) (K : Act → World → Prop) (Q : Exit → Act → World → Prop) : Prop where
  out : if Region.wanted op (yielded ops a.tmps) = true then Oper.wp P op a w K Q else K (a.put op.dst undef) w

/-- A struct is written in a region that draws. -/
theorem step_store (T : TypeId) (x y : Operand) (hg : op.guard = none) (ho : op.op = .store T x y) (g : Nat) (cells : Array Value) (hx : a.eval x = .pointer (some ⟨g, 0, none⟩)) (hy : a.eval y = .agg cells) (t : TypeId) (old : Array Value) (hW : Whole w g t old)
    (hi : (P.info? T).map (·.size) = some cells.size) (hold : old.size = cells.size) (h1 : cells.all (·.oneCell') = true) (h : K (a.put op.dst undef) (w.setRow g cells)) :
    Stepped P ops op a w K Q := by
  have hw : Region.wanted op (yielded ops a.tmps) = true := by simp [Region.wanted, hg]
  refine ⟨?_⟩
  rw [if_pos hw]
  exact wp_store_row T x y ho g cells hx hy t old hW hi hold h1 h

/-- A call in a region that draws. -/
theorem step_call {f : FuncId} {args : Array Value} (hg : op.guard = none) (R : Ending → World → Prop) (he : (execOp a.eval op).run P w = Result.ok (Next.enter f args) w) (hc : Calls P f args w R) (h : ∀ e w', R e w' → ∃ v, e = .returned v ∧ K (a.put op.dst v) w') :
    Stepped P ops op a w K Q := by
  have hw : Region.wanted op (yielded ops a.tmps) = true := by simp [Region.wanted, hg]
  refine ⟨?_⟩
  rw [if_pos hw]
  unfold Oper.wp
  rw [he]
  simp only [Oper.upon]
  refine hc.mono ?_
  intro e w' hr
  obtain ⟨v, rfl, hk⟩ := h e w' hr
  exact hk
end

/-- Values of one cell. -/
theorem cpu_one (c : Cp) {o i : Value} (ho : o.oneCell' = true) (hi : i.oneCell' = true) : (cpuCells c o i).all (·.oneCell') = true := by
  rw [Array.all_eq_true_iff_forall_mem]
  intro v hv
  unfold cpuCells at hv
  simp at hv
  rcases hv with ⟨z, _, rfl⟩ | rfl | rfl | rfl | rfl | rfl | rfl | rfl | rfl | rfl | rfl | rfl | rfl | rfl
  all_goals first
    | rfl
    | assumption

/-- A processor of nothing. -/
def zeros38 : Array Value := #[.int .u32 0, .int .u32 0, .int .u32 0, .int .u32 0, .int .u32 0, .int .u32 0, .int .u32 0, .int .u32 0, .int .u32 0, .int .u32 0, .int .u32 0, .int .u32 0, .int .u32 0, .int .u32 0, .int .u32 0, .int .u32 0, .int .u32 0, .int .u32 0, .int .u32 0, .int .i64 0, .int .i64 0, .int .i64 0, .int .i64 0, .slice none 0 0, .int .u32 0, .int .u32 0, .int .u32 0, .int .u32 0, .slice none 0 0]

set_option maxHeartbeats 4000000 in
set_option maxRecDepth 100000 in
theorem reffault_any (c : Cp) (A1 A2 : Option Addr) (n1 c1 n2 c2 : Nat) (z : Int) (w : World) (hl : c.r.length = 16) :
    Calls Tryd.prog 29 #[.agg (cpuCells c (.slice A1 n1 c1) (.slice A2 n2 c2)), .int .i64 z] w fun e w' => e = .returned (.agg (cpuCells (faultC c z) (.slice A1 n1 c1) (.slice A2 n2 c2))) ∧ Below w.heap.size w w' := by
  have g19 := cpuCells_st hl (.slice A1 n1 c1) (.slice A2 n2 c2)
  have s19 := cpuCells_set_st hl (.slice A1 n1 c1) (.slice A2 n2 c2) 2
  have g20 := cpuCells_why (c := { c with st := 2 }) hl (.slice A1 n1 c1) (.slice A2 n2 c2)
  have s20 := cpuCells_set_why (c := { c with st := 2 }) hl (.slice A1 n1 c1) (.slice A2 n2 c2) z
  have R := Lib.hid (show ({ ({ c with st := 2 } : Cp) with why := z } : Cp) = faultC c z from rfl)
  have hl2 : (faultC c z).r.length = 16 := hl
  rw [R.out] at s20
  generalize ({ c with st := 2 } : Cp) = d1 at *
  generalize faultC c z = d2 at *
  have SZ := Lib.hid (cpuCells_size hl2 (.slice A1 n1 c1) (.slice A2 n2 c2))
  have ONE := Lib.hid (cpu_one d2 (o := .slice A1 n1 c1) (i := .slice A2 n2 c2) rfl rfl)
  generalize cpuCells c (.slice A1 n1 c1) (.slice A2 n2 c2) = C0 at *
  generalize cpuCells d1 (.slice A1 n1 c1) (.slice A2 n2 c2) = C1 at *
  generalize cpuCells d2 (.slice A1 n1 c1) (.slice A2 n2 c2) = C2 at *
  have W1 := Lib.hid ((Whole.made w 38 C2 _ rfl).alloc (.cells zeros38 38))
  have W2 := Lib.hid (Whole.made (w.alloc (.cells C2 38)) 38 zeros38 (w.heap.size + 1) (by simp))
  have W3 := Lib.hid (W2.out.setRow C2)
  have B3 := Lib.hid ((((Below.refl w.heap.size w).alloc (Nat.le_refl _) (.cells C2 38)).alloc (by simp) (.cells zeros38 38)).trans ((Only.setRow _ (w.heap.size + 1) C2).below (Nat.le_succ _) (by simp; omega)))
  clear hl hl2 R
  go_enter Tryd.func29, Tryd.ntmps29
  go_wp2_with (first
    | (refine wpList_load_row rfl 38 (.tmp 2) rfl w.heap.size rfl 38 C2 (0, 0) _ W1.out Tryd.underlying38 rfl (infoCpu SZ.out) ?_)
    | (refine wpList_store_row rfl 38 (.tmp 4) (.tmp 8) rfl (w.heap.size + 1) C2 rfl rfl 38 zeros38 W2.out (infoCpu SZ.out) (by rw [SZ.out]; rfl) ONE.out ?_))
  exact bodyPost_ret (v := .agg C2) (results_cell_row rfl _ _ (w.heap.size + 1) 38 C2 (0, 0) _ rfl W3.out Tryd.underlying38 rfl (infoCpu SZ.out)) rfl ⟨rfl, B3.out⟩
end Go.Proofs.YtlmokkopaididaaDoor

/- The answers' processor: what its functions share. -/
namespace Go.Proofs.YtlmokkopaididaaDoor
open Go.ChangeShapes Go.WideShapes Go.ChangeAt Go.RowKit
set_option linter.unusedVariables false

/-- A memory of nothing. -/
def zeros41 : Array Value := #[.int .u32 0, .int .u32 0, .int .u32 0, .int .u32 0, .int .u32 0, .slice none 0 0]

theorem get0 {o0 : Oper} {r : List Oper} : (o0 :: r).toArray[0]? = some o0 := by simp

theorem get1 {o0 o1 : Oper} {r : List Oper} : (o0 :: o1 :: r).toArray[1]? = some o1 := by simp

theorem get2 {o0 o1 o2 : Oper} {r : List Oper} : (o0 :: o1 :: o2 :: r).toArray[2]? = some o2 := by simp

theorem get3 {o0 o1 o2 o3 : Oper} {r : List Oper} : (o0 :: o1 :: o2 :: o3 :: r).toArray[3]? = some o3 := by simp

theorem get4 {o0 o1 o2 o3 o4 : Oper} {r : List Oper} : (o0 :: o1 :: o2 :: o3 :: o4 :: r).toArray[4]? = some o4 := by simp

theorem get5 {o0 o1 o2 o3 o4 o5 : Oper} {r : List Oper} : (o0 :: o1 :: o2 :: o3 :: o4 :: o5 :: r).toArray[5]? = some o5 := by simp

theorem get6 {o0 o1 o2 o3 o4 o5 o6 : Oper} {r : List Oper} : (o0 :: o1 :: o2 :: o3 :: o4 :: o5 :: o6 :: r).toArray[6]? = some o6 := by simp

section
variable {P : Program} {S : World → Prop} {Q : Exit → Act → World → Prop} {a : Act} {w : World}

theorem held_start {l : List Oper} {id : Nat} (n : Nat) (hn : l.length = n) (hm : P.follows .mixedOrders = true) (hS : S w.drew) (h : S w.drew → wpAnyH P .any l.toArray Q S n (Array.replicate n false) a w.drew) : (Code.region id l.toArray true).wp P Q a w :=
  wp_region_held_drew hm hS (by subst hn; simpa using h)

theorem held_step {ops : Array Oper} {md : Region.Mode} {fuel : Nat} {listed : Array Bool} {i : Nat} {oi : Oper} (hi : ops[i]? = some oi) (hr : Region.ready md ops listed = [i])
    (h : ∀ K' : Act → World → Prop, Shut (∀ a w, S w → (S w → wpAnyH P md ops Q S fuel (listed.setIfInBounds i true) a w) → K' a w) → Stepped P ops oi a w K' Q) : wpAnyH P md ops Q S (fuel + 1) listed a w :=
  wpAnyH_ready hr (by simp) (AllReadyH.cons hi (fun K' hK => (h K' hK).out) AllReadyH.nil)
end

theorem results_two_rows {P : Program} {fn : Func} {p1 p2 : Tmp} {T1 T2 : TypeId} (h : fn.results = #[.cell p1 T1, .cell p2 T2]) (tmps : Array Value) (w : World) (g1 g2 : Nat) (t1 t2 : TypeId) (c1 c2 : Array Value) (d1 d2 : TypeDesc)
    (hp1 : tmps.getD p1 undef = .pointer (some ⟨g1, 0, none⟩)) (hp2 : tmps.getD p2 undef = .pointer (some ⟨g2, 0, none⟩)) (h1 : Whole w g1 t1 c1) (h2 : Whole w g2 t2 c2)
    (hu1 : P.underlying T1 = some d1) (hd1 : (match d1 with | .struct _ | .array _ _ => true | _ => false) = true) (hi1 : (P.info? T1).map (·.size) = some c1.size)
    (hu2 : P.underlying T2 = some d2) (hd2 : (match d2 with | .struct _ | .array _ _ => true | _ => false) = true) (hi2 : (P.info? T2).map (·.size) = some c2.size) :
    (results fn tmps).run P w = .ok (.tuple #[.agg c1, .agg c2]) w := by
  have e1 : tmps[p1]?.getD undef = .pointer (some ⟨g1, 0, none⟩) := by simpa using hp1
  have e2 : tmps[p2]?.getD undef = .pointer (some ⟨g2, 0, none⟩) := by simpa using hp2
  simp [results, h, e1, e2, asAddr, run_loadVar_row w g1 t1 T1 c1 (0, 0) d1 h1 hu1 hd1 hi1, run_loadVar_row w g2 t2 T2 c2 (0, 0) d2 h2 hu2 hd2 hi2]

theorem jumpC_eq (c : Cp) (n : Int) : jumpC c n = { c with pc := (c.pc + 4 + 4 * (n % 4294967296)) % 4294967296 } := by
  unfold jumpC w32
  congr 1
  omega

theorem alu5_eq (x n : Int) : alu 5 x (w32 n) = (x + n) % 4294967296 := by
  show w32 (x + w32 n) = _
  unfold w32
  omega

/-- The blocks that 'do' works in. -/
structure Fr (w W : World) (C MC I : Array Value) : Prop where
  c : Whole W w.heap.size 38 C
  m : Whole W (w.heap.size + 1) 41 MC
  i : Whole W (w.heap.size + 1 + 1) 54 I
  r1 : Whole W (w.heap.size + 1 + 1 + 1) 38 zeros38
  r2 : Whole W (w.heap.size + 1 + 1 + 1 + 1) 41 zeros41
  bel : Below w.heap.size w W

theorem fr_made (w : World) (C MC I : Array Value) : Fr w (((((w.alloc (.cells C 38)).alloc (.cells MC 41)).alloc (.cells I 54)).alloc (.cells zeros38 38)).alloc (.cells zeros41 41)) C MC I where
  c := ((((Whole.made w _ C _ rfl).alloc _).alloc _).alloc _).alloc _
  m := (((Whole.made (w.alloc (.cells C _)) _ MC (w.heap.size + 1) (by simp)).alloc _).alloc _).alloc _
  i := ((Whole.made ((w.alloc (.cells C _)).alloc (.cells MC _)) _ I (w.heap.size + 1 + 1) (by simp)).alloc _).alloc _
  r1 := (Whole.made (((w.alloc (.cells C _)).alloc (.cells MC _)).alloc (.cells I _)) _ zeros38 (w.heap.size + 1 + 1 + 1) (by simp)).alloc _
  r2 := Whole.made ((((w.alloc (.cells C _)).alloc (.cells MC _)).alloc (.cells I _)).alloc (.cells zeros38 _)) _ zeros41 (w.heap.size + 1 + 1 + 1 + 1) (by simp)
  bel := (((((Below.refl w.heap.size w).alloc (Nat.le_refl _) _).alloc (by simp) _).alloc (by simp; omega) _).alloc (by simp; omega) _).alloc (by simp; omega) _

theorem Fr.drawn {w W : World} {C MC I : Array Value} (h : Fr w W C MC I) (n : Nat) : Fr w (W.drewN n) C MC I := ⟨h.c.drawn n, h.m.drawn n, h.i.drawn n, h.r1.drawn n, h.r2.drawn n, below_drawn h.bel n⟩

theorem Fr.later {w W W' : World} {C MC I : Array Value} (h : Fr w W C MC I) (hb : Below W.heap.size W W') : Fr w W' C MC I :=
  ⟨h.c.below hb h.c.lt, h.m.below hb h.m.lt, h.i.below hb h.i.lt, h.r1.below hb h.r1.lt, h.r2.below hb h.r2.lt, h.bel.trans (hb.mono h.bel.size)⟩

theorem Fr.set {w W : World} {C MC I : Array Value} (h : Fr w W C MC I) (k : Nat) (v : Value) : Fr w (W.setCell ⟨w.heap.size, k, none⟩ v) (C.setIfInBounds k v) MC I :=
  ⟨h.c.store k v, h.m.far (p := ⟨w.heap.size, k, none⟩) (by show w.heap.size + 1 ≠ w.heap.size; omega) v, h.i.far (p := ⟨w.heap.size, k, none⟩) (by show w.heap.size + 1 + 1 ≠ w.heap.size; omega) v, h.r1.far (p := ⟨w.heap.size, k, none⟩) (by show w.heap.size + 1 + 1 + 1 ≠ w.heap.size; omega) v, h.r2.far (p := ⟨w.heap.size, k, none⟩) (by show w.heap.size + 1 + 1 + 1 + 1 ≠ w.heap.size; omega) v, h.bel.setCell (p := ⟨w.heap.size, k, none⟩) (Nat.le_refl _) v⟩

theorem Fr.setReg {w W : World} {c : Cp} {o i : Value} {MC I : Array Value} (h : Fr w W (cpuCells c o i) MC I) (hl : c.r.length = 16) {k : Nat} (hk : k < 16) (v : Int) : Fr w (W.setCell ⟨w.heap.size, k, none⟩ (.int .u32 v)) (cpuCells { c with r := c.r.set k v } o i) MC I := by
  have := h.set k (.int .u32 v)
  rwa [cpuCells_setReg hl o i hk v] at this

theorem Fr.set_pc {w W : World} {c : Cp} {o i : Value} {MC I : Array Value} (h : Fr w W (cpuCells c o i) MC I) (hl : c.r.length = 16) (v : Int) : Fr w (W.setCell ⟨w.heap.size, 16, none⟩ (.int .u32 v)) (cpuCells { c with pc := v } o i) MC I := by
  have := h.set 16 (.int .u32 v)
  rwa [cpuCells_set_pc hl o i v] at this

theorem Fr.set_epc {w W : World} {c : Cp} {o i : Value} {MC I : Array Value} (h : Fr w W (cpuCells c o i) MC I) (hl : c.r.length = 16) (v : Int) : Fr w (W.setCell ⟨w.heap.size, 17, none⟩ (.int .u32 v)) (cpuCells { c with epc := v } o i) MC I := by
  have := h.set 17 (.int .u32 v)
  rwa [cpuCells_set_epc hl o i v] at this

theorem Fr.set_cause {w W : World} {c : Cp} {o i : Value} {MC I : Array Value} (h : Fr w W (cpuCells c o i) MC I) (hl : c.r.length = 16) (v : Int) : Fr w (W.setCell ⟨w.heap.size, 18, none⟩ (.int .u32 v)) (cpuCells { c with cause := v } o i) MC I := by
  have := h.set 18 (.int .u32 v)
  rwa [cpuCells_set_cause hl o i v] at this

theorem Fr.set_st {w W : World} {c : Cp} {o i : Value} {MC I : Array Value} (h : Fr w W (cpuCells c o i) MC I) (hl : c.r.length = 16) (v : Int) : Fr w (W.setCell ⟨w.heap.size, 19, none⟩ (.int .i64 v)) (cpuCells { c with st := v } o i) MC I := by
  have := h.set 19 (.int .i64 v)
  rwa [cpuCells_set_st hl o i v] at this

theorem Fr.set_why {w W : World} {c : Cp} {o i : Value} {MC I : Array Value} (h : Fr w W (cpuCells c o i) MC I) (hl : c.r.length = 16) (v : Int) : Fr w (W.setCell ⟨w.heap.size, 20, none⟩ (.int .i64 v)) (cpuCells { c with why := v } o i) MC I := by
  have := h.set 20 (.int .i64 v)
  rwa [cpuCells_set_why hl o i v] at this

theorem Fr.set_steps {w W : World} {c : Cp} {o i : Value} {MC I : Array Value} (h : Fr w W (cpuCells c o i) MC I) (hl : c.r.length = 16) (v : Int) : Fr w (W.setCell ⟨w.heap.size, 21, none⟩ (.int .i64 v)) (cpuCells { c with steps := v } o i) MC I := by
  have := h.set 21 (.int .i64 v)
  rwa [cpuCells_set_steps hl o i v] at this

theorem Fr.set_taken {w W : World} {c : Cp} {o i : Value} {MC I : Array Value} (h : Fr w W (cpuCells c o i) MC I) (hl : c.r.length = 16) (v : Int) : Fr w (W.setCell ⟨w.heap.size, 22, none⟩ (.int .i64 v)) (cpuCells { c with taken := v } o i) MC I := by
  have := h.set 22 (.int .i64 v)
  rwa [cpuCells_set_taken hl o i v] at this

end Go.Proofs.YtlmokkopaididaaDoor

/- Regions that draw and hold a call: what a slot holds behind puts; a call of a function with two, or three, arguments. Over any program. -/
namespace Go.Proofs.YtlmokkopaididaaDoor
open Go.ChangeShapes Go.WideShapes Go.ChangeAt Go.RowKit
set_option linter.unusedVariables false

theorem eval_ne {a : Act} {d x : Nat} {v u : Value} (h : x ≠ d) (e : a.eval (.tmp x) = u) : (a.put (some d) v).eval (.tmp x) = u := by
  rw [← e]
  simp [Act.put, Act.eval, Array.getD_eq_getD_getElem?, Ne.symm h]

theorem eval_none {a : Act} {x : Nat} {v u : Value} (e : a.eval (.tmp x) = u) : (a.put none v).eval (.tmp x) = u := e

theorem size_put {a : Act} {d : Nat} {v : Value} {n : Nat} (h : a.tmps.size = n) : (a.put (some d) v).tmps.size = n := by
  rw [← h]
  simp [Act.put]

theorem size_none {a : Act} {v : Value} {n : Nat} (h : a.tmps.size = n) : (a.put none v).tmps.size = n := h

theorem eval_at {a : Act} {d : Nat} {v : Value} {n : Nat} (h : a.tmps.size = n) (hd : d < n) : (a.put (some d) v).eval (.tmp d) = v := by
  subst h
  simp [Act.put, Act.eval, Array.getD_eq_getD_getElem?, hd]

section
variable {P : Program} {ops : Array Oper} {op : Oper} {a : Act} {w : World} {K : Act → World → Prop} {Q : Exit → Act → World → Prop} {fn : Func}

theorem enter_any {f : FuncId} {args : Array Value} {xs : Array Operand} {ts : Array TypeId} (hf : P.funcs[f]? = some fn) (hn : (fn.name == "runtime.NumGoroutine") = false) (hb : fn.body.isNone = false) (ho : op.op = .call { callee := .value (.func f), args := xs, argTypes := ts }) (ha : xs.map a.eval = args) :
    (execOp a.eval op).run P w = Result.ok (Next.enter f args) w := by
  subst ha
  unfold execOp
  have hn2 : fn.name ≠ "runtime.NumGoroutine" := by simpa using hn
  have hb2 : ¬ fn.body = none := fun h => by rw [h] at hb; cases hb
  simp [ho, resolve, Act.eval, Deferred.ofValue, invoke, callFunc, Sem.run_bind, run_program, hf, hn2, hb2]

theorem step_call2 {f : FuncId} {x y : Operand} {ts : Array TypeId} (hf : P.funcs[f]? = some fn) (hn : (fn.name == "runtime.NumGoroutine") = false) (hb : fn.body.isNone = false) (hg : op.guard = none) (ho : op.op = .call { callee := .value (.func f), args := #[x, y], argTypes := ts }) (v1 v2 : Value) (h1 : a.eval x = v1) (h2 : a.eval y = v2)
    {R : Ending → World → Prop} (hc : Calls P f #[v1, v2] w R) (h : ∀ e w', R e w' → ∃ v, e = .returned v ∧ K (a.put op.dst v) w') : Stepped P ops op a w K Q :=
  step_call hg R (enter_any hf hn hb ho (by simp [h1, h2])) hc h

theorem step_call3 {f : FuncId} {x y z : Operand} {ts : Array TypeId} (hf : P.funcs[f]? = some fn) (hn : (fn.name == "runtime.NumGoroutine") = false) (hb : fn.body.isNone = false) (hg : op.guard = none) (ho : op.op = .call { callee := .value (.func f), args := #[x, y, z], argTypes := ts }) (v1 v2 v3 : Value) (h1 : a.eval x = v1) (h2 : a.eval y = v2) (h3 : a.eval z = v3)
    {R : Ending → World → Prop} (hc : Calls P f #[v1, v2, v3] w R) (h : ∀ e w', R e w' → ∃ v, e = .returned v ∧ K (a.put op.dst v) w') : Stepped P ops op a w K Q :=
  step_call hg R (enter_any hf hn hb ho (by simp [h1, h2, h3])) hc h
end
end Go.Proofs.YtlmokkopaididaaDoor
