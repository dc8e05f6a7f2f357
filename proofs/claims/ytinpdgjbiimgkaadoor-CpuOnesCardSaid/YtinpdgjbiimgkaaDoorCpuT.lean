/- The answers' processor: what its functions share. -/
import Derived.Test.YtinpdgjbiimgkaaDoorCpuR
import Derived.Test.YtinpdgjbiimgkaaDoorCpuC
namespace Go.Proofs.YtinpdgjbiimgkaaDoor
open Go.ChangeShapes Go.WideShapes Go.ChangeAt Go.RowKit
set_option linter.unusedVariables false

/-- A memory of nothing. -/
def zeros41 : Array Value := #[.int .u32 0, .int .u32 0, .int .u32 0, .int .u32 0, .int .u32 0, .slice none 0 0]

theorem get0 {o0 : Oper} {r : List Oper} : (o0 :: r).toArray[0]? = some o0 := by simp

theorem get1 {o0 o1 : Oper} {r : List Oper} : (o0 :: o1 :: r).toArray[1]? = some o1 := by simp

theorem get2 {o0 o1 o2 : Oper} {r : List Oper} : (o0 :: o1 :: o2 :: r).toArray[2]? = some o2 := by simp

theorem get3 {o0 o1 o2 o3 : Oper} {r : List Oper} : (o0 :: o1 :: o2 :: o3 :: r).toArray[3]? = some o3 := by simp

theorem get4 {o0 o1 o2 o3 o4 : Oper} {r : List Oper} : (o0 :: o1 :: o2 :: o3 :: o4 :: r).toArray[4]? = some o4 := by simp

theorem get5 {o0 o1 o2 o3 o4 o5 : Oper} {r : List Oper} : (o0 :: o1 :: o2 :: o3 :: o4 :: o5 :: r).toArray[5]? = some o5 := by simp

theorem get6 {o0 o1 o2 o3 o4 o5 o6 : Oper} {r : List Oper} : (o0 :: o1 :: o2 :: o3 :: o4 :: o5 :: o6 :: r).toArray[6]? = some o6 := by simp

section
variable {P : Program} {S : World → Prop} {Q : Exit → Act → World → Prop} {a : Act} {w : World}

theorem held_start {l : List Oper} {id : Nat} (n : Nat) (hn : l.length = n) (hm : P.follows .mixedOrders = true) (hS : S w.drew) (h : S w.drew → wpAnyH P .any l.toArray Q S n (Array.replicate n false) a w.drew) : (Code.region id l.toArray true).wp P Q a w :=
  wp_region_held_drew hm hS (by subst hn; simpa using h)

theorem held_step {ops : Array Oper} {md : Region.Mode} {fuel : Nat} {listed : Array Bool} {i : Nat} {oi : Oper} (hi : ops[i]? = some oi) (hr : Region.ready md ops listed = [i])
    (h : ∀ K' : Act → World → Prop, Shut (∀ a w, S w → (S w → wpAnyH P md ops Q S fuel (listed.setIfInBounds i true) a w) → K' a w) → Stepped P ops oi a w K' Q) : wpAnyH P md ops Q S (fuel + 1) listed a w :=
  wpAnyH_ready hr (by simp) (AllReadyH.cons hi (fun K' hK => (h K' hK).out) AllReadyH.nil)
end

theorem results_two_rows {P : Program} {fn : Func} {p1 p2 : Tmp} {T1 T2 : TypeId} (h : fn.results = #[.cell p1 T1, .cell p2 T2]) (tmps : Array Value) (w : World) (g1 g2 : Nat) (t1 t2 : TypeId) (c1 c2 : Array Value) (d1 d2 : TypeDesc)
    (hp1 : tmps.getD p1 undef = .pointer (some ⟨g1, 0, none⟩)) (hp2 : tmps.getD p2 undef = .pointer (some ⟨g2, 0, none⟩)) (h1 : Whole w g1 t1 c1) (h2 : Whole w g2 t2 c2)
    (hu1 : P.underlying T1 = some d1) (hd1 : (match d1 with | .struct _ | .array _ _ => true | _ => false) = true) (hi1 : (P.info? T1).map (·.size) = some c1.size)
    (hu2 : P.underlying T2 = some d2) (hd2 : (match d2 with | .struct _ | .array _ _ => true | _ => false) = true) (hi2 : (P.info? T2).map (·.size) = some c2.size) :
    (results fn tmps).run P w = .ok (.tuple #[.agg c1, .agg c2]) w := by
  have e1 : tmps[p1]?.getD undef = .pointer (some ⟨g1, 0, none⟩) := by simpa using hp1
  have e2 : tmps[p2]?.getD undef = .pointer (some ⟨g2, 0, none⟩) := by simpa using hp2
  simp [results, h, e1, e2, asAddr, run_loadVar_row w g1 t1 T1 c1 (0, 0) d1 h1 hu1 hd1 hi1, run_loadVar_row w g2 t2 T2 c2 (0, 0) d2 h2 hu2 hd2 hi2]

theorem jumpC_eq (c : Cp) (n : Int) : jumpC c n = { c with pc := (c.pc + 4 + 4 * (n % 4294967296)) % 4294967296 } := by
  unfold jumpC w32
  congr 1
  omega

theorem alu5_eq (x n : Int) : alu 5 x (w32 n) = (x + n) % 4294967296 := by
  show w32 (x + w32 n) = _
  unfold w32
  omega

/-- The blocks that 'do' works in. -/
structure Fr (w W : World) (C MC I : Array Value) : Prop where
  c : Whole W w.heap.size 38 C
  m : Whole W (w.heap.size + 1) 41 MC
  i : Whole W (w.heap.size + 1 + 1) 54 I
  r1 : Whole W (w.heap.size + 1 + 1 + 1) 38 zeros38
  r2 : Whole W (w.heap.size + 1 + 1 + 1 + 1) 41 zeros41
  bel : Below w.heap.size w W

theorem fr_made (w : World) (C MC I : Array Value) : Fr w (((((w.alloc (.cells C 38)).alloc (.cells MC 41)).alloc (.cells I 54)).alloc (.cells zeros38 38)).alloc (.cells zeros41 41)) C MC I where
  c := ((((Whole.made w _ C _ rfl).alloc _).alloc _).alloc _).alloc _
  m := (((Whole.made (w.alloc (.cells C _)) _ MC (w.heap.size + 1) (by simp)).alloc _).alloc _).alloc _
  i := ((Whole.made ((w.alloc (.cells C _)).alloc (.cells MC _)) _ I (w.heap.size + 1 + 1) (by simp)).alloc _).alloc _
  r1 := (Whole.made (((w.alloc (.cells C _)).alloc (.cells MC _)).alloc (.cells I _)) _ zeros38 (w.heap.size + 1 + 1 + 1) (by simp)).alloc _
  r2 := Whole.made ((((w.alloc (.cells C _)).alloc (.cells MC _)).alloc (.cells I _)).alloc (.cells zeros38 _)) _ zeros41 (w.heap.size + 1 + 1 + 1 + 1) (by simp)
  bel := (((((Below.refl w.heap.size w).alloc (Nat.le_refl _) _).alloc (by simp) _).alloc (by simp; omega) _).alloc (by simp; omega) _).alloc (by simp; omega) _

theorem Fr.drawn {w W : World} {C MC I : Array Value} (h : Fr w W C MC I) (n : Nat) : Fr w (W.drewN n) C MC I := ⟨h.c.drawn n, h.m.drawn n, h.i.drawn n, h.r1.drawn n, h.r2.drawn n, below_drawn h.bel n⟩

theorem Fr.later {w W W' : World} {C MC I : Array Value} (h : Fr w W C MC I) (hb : Below W.heap.size W W') : Fr w W' C MC I :=
  ⟨h.c.below hb h.c.lt, h.m.below hb h.m.lt, h.i.below hb h.i.lt, h.r1.below hb h.r1.lt, h.r2.below hb h.r2.lt, h.bel.trans (hb.mono h.bel.size)⟩

theorem Fr.set {w W : World} {C MC I : Array Value} (h : Fr w W C MC I) (k : Nat) (v : Value) : Fr w (W.setCell ⟨w.heap.size, k, none⟩ v) (C.setIfInBounds k v) MC I :=
  ⟨h.c.store k v, h.m.far (p := ⟨w.heap.size, k, none⟩) (by show w.heap.size + 1 ≠ w.heap.size; omega) v, h.i.far (p := ⟨w.heap.size, k, none⟩) (by show w.heap.size + 1 + 1 ≠ w.heap.size; omega) v, h.r1.far (p := ⟨w.heap.size, k, none⟩) (by show w.heap.size + 1 + 1 + 1 ≠ w.heap.size; omega) v, h.r2.far (p := ⟨w.heap.size, k, none⟩) (by show w.heap.size + 1 + 1 + 1 + 1 ≠ w.heap.size; omega) v, h.bel.setCell (p := ⟨w.heap.size, k, none⟩) (Nat.le_refl _) v⟩

theorem Fr.setReg {w W : World} {c : Cp} {o i : Value} {MC I : Array Value} (h : Fr w W (cpuCells c o i) MC I) (hl : c.r.length = 16) {k : Nat} (hk : k < 16) (v : Int) : Fr w (W.setCell ⟨w.heap.size, k, none⟩ (.int .u32 v)) (cpuCells { c with r := c.r.set k v } o i) MC I := by
  have := h.set k (.int .u32 v)
  rwa [cpuCells_setReg hl o i hk v] at this

theorem Fr.set_pc {w W : World} {c : Cp} {o i : Value} {MC I : Array Value} (h : Fr w W (cpuCells c o i) MC I) (hl : c.r.length = 16) (v : Int) : Fr w (W.setCell ⟨w.heap.size, 16, none⟩ (.int .u32 v)) (cpuCells { c with pc := v } o i) MC I := by
  have := h.set 16 (.int .u32 v)
  rwa [cpuCells_set_pc hl o i v] at this

theorem Fr.set_epc {w W : World} {c : Cp} {o i : Value} {MC I : Array Value} (h : Fr w W (cpuCells c o i) MC I) (hl : c.r.length = 16) (v : Int) : Fr w (W.setCell ⟨w.heap.size, 17, none⟩ (.int .u32 v)) (cpuCells { c with epc := v } o i) MC I := by
  have := h.set 17 (.int .u32 v)
  rwa [cpuCells_set_epc hl o i v] at this

theorem Fr.set_cause {w W : World} {c : Cp} {o i : Value} {MC I : Array Value} (h : Fr w W (cpuCells c o i) MC I) (hl : c.r.length = 16) (v : Int) : Fr w (W.setCell ⟨w.heap.size, 18, none⟩ (.int .u32 v)) (cpuCells { c with cause := v } o i) MC I := by
  have := h.set 18 (.int .u32 v)
  rwa [cpuCells_set_cause hl o i v] at this

theorem Fr.set_st {w W : World} {c : Cp} {o i : Value} {MC I : Array Value} (h : Fr w W (cpuCells c o i) MC I) (hl : c.r.length = 16) (v : Int) : Fr w (W.setCell ⟨w.heap.size, 19, none⟩ (.int .i64 v)) (cpuCells { c with st := v } o i) MC I := by
  have := h.set 19 (.int .i64 v)
  rwa [cpuCells_set_st hl o i v] at this

theorem Fr.set_why {w W : World} {c : Cp} {o i : Value} {MC I : Array Value} (h : Fr w W (cpuCells c o i) MC I) (hl : c.r.length = 16) (v : Int) : Fr w (W.setCell ⟨w.heap.size, 20, none⟩ (.int .i64 v)) (cpuCells { c with why := v } o i) MC I := by
  have := h.set 20 (.int .i64 v)
  rwa [cpuCells_set_why hl o i v] at this

theorem Fr.set_steps {w W : World} {c : Cp} {o i : Value} {MC I : Array Value} (h : Fr w W (cpuCells c o i) MC I) (hl : c.r.length = 16) (v : Int) : Fr w (W.setCell ⟨w.heap.size, 21, none⟩ (.int .i64 v)) (cpuCells { c with steps := v } o i) MC I := by
  have := h.set 21 (.int .i64 v)
  rwa [cpuCells_set_steps hl o i v] at this

theorem Fr.set_taken {w W : World} {c : Cp} {o i : Value} {MC I : Array Value} (h : Fr w W (cpuCells c o i) MC I) (hl : c.r.length = 16) (v : Int) : Fr w (W.setCell ⟨w.heap.size, 22, none⟩ (.int .i64 v)) (cpuCells { c with taken := v } o i) MC I := by
  have := h.set 22 (.int .i64 v)
  rwa [cpuCells_set_taken hl o i v] at this

end Go.Proofs.YtinpdgjbiimgkaaDoor
