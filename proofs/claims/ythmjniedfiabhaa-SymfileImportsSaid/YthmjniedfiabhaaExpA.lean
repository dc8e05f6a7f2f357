/- Exports (api.Export with their api.Params) as plain data; how they lie in memory: those that came in, those that were made; a law's argument. No function of any package. -/
import Derived.Test.YthmjniedfiabhaaRowLib
import Derived.Test.YthmjniedfiabhaaOpenRow
import Derived.Deep.Slices
import Derived.SizedLaws
namespace Go.Proofs.Ythmjniedfiabhaa
open Go.ChangeShapes Go.WideShapes Go.ChangeAt Go.RowKit
set_option linter.unusedVariables false
set_option linter.unusedSimpArgs false
set_option maxRecDepth 100000

/-- What others may use. -/
structure Ex where
  nm : ByteArray
  kd : Int
  ty : Int
  vl : Int
  ps : List (Int × Bool)

abbrev Exx := Ex × Value

def parCells (q : Int × Bool) : List Value := [.int .i64 q.1, .bool q.2]

def exCells (x : Exx) : List Value := [.string x.1.nm, .int .i64 x.1.kd, .int .i64 x.1.ty, .int .i32 x.1.vl, x.2]

def zE : Ex := ⟨⟨#[]⟩, 0, 0, 0, []⟩

def zEx : Exx := (zE, .slice none 0 0)

abbrev pP : TypeId := 75

abbrev pE : TypeId := 33

/-- Parameters that lie in memory: below block B, or in a block of parameters. -/
def ParV (B : Nat) (w : World) (v : Value) (ps : List (Int × Bool)) : Prop :=
  ∃ A c, v = .slice A ps.length c ∧ (A = none → c = 0 ∧ ps = []) ∧
    (ps ≠ [] → ∃ b off, A = some ⟨b, off, none⟩ ∧ b < w.heap.size ∧ (b < B ∨ ∃ cs fz, w.heap[b]? = some (.cells cs pP fz)) ∧ ∀ j u, (ps.flatMap parCells)[j]? = some u → w.cell? ⟨b, off + j, none⟩ = some u)

theorem ParV.nil (B : Nat) (w : World) : ParV B w (.slice none 0 0) [] := ⟨none, 0, rfl, fun _ => ⟨rfl, rfl⟩, fun h => absurd rfl h⟩

theorem ParV.form {B : Nat} {w : World} {v : Value} {ps : List (Int × Bool)} (h : ParV B w v ps) : ∃ A c, v = .slice A ps.length c := by
  obtain ⟨A, c, h1, _⟩ := h
  exact ⟨A, c, h1⟩

theorem ParV.keep {B B' : Nat} {w w' : World} {v : Value} {ps : List (Int × Bool)} (h : ParV B w v ps) (hB : B ≤ B') (hs : w.heap.size ≤ w'.heap.size) (hk : ∀ b, b < w.heap.size → (b < B ∨ ∃ cs fz, w.heap[b]? = some (.cells cs pP fz)) → w'.heap[b]? = w.heap[b]?) : ParV B' w' v ps := by
  obtain ⟨A, c, h1, h2, h3⟩ := h
  refine ⟨A, c, h1, h2, fun hn => ?_⟩
  obtain ⟨b, off, rfl, hb, ht, hc⟩ := h3 hn
  have e := hk b hb ht
  refine ⟨b, off, rfl, Nat.lt_of_lt_of_le hb hs, ?_, fun j u hj => ?_⟩
  · rcases ht with ht | ht
    · exact .inl (Nat.lt_of_lt_of_le ht hB)
    · exact .inr (by rw [e]; exact ht)
  · have := hc j u hj
    simp only [World.cell?] at this ⊢
    rw [e]
    exact this

theorem ParV.below {B : Nat} {w w' : World} {v : Value} {ps : List (Int × Bool)} (h : ParV B w v ps) (hb : Below w.heap.size w w') : ParV B w' v ps :=
  h.keep (Nat.le_refl _) hb.size (fun b hb' _ => hb.block b hb')

theorem ParV.more {B B' : Nat} {w : World} {v : Value} {ps : List (Int × Bool)} (h : ParV B w v ps) (hB : B ≤ B') : ParV B' w v ps :=
  h.keep hB (Nat.le_refl _) (fun _ _ _ => rfl)

theorem ParV.own {w : World} {v : Value} {ps : List (Int × Bool)} {B B' : Nat} (h : w.ownsRow B' pP 2 v ps.length (ps.flatMap parCells)) : ParV B w v ps := by
  rcases h.2 with ⟨h1, h2⟩ | ⟨g, cap, cur, h1, hB, hg, hcap, _, hsz, htk⟩
  · exact ⟨none, 0, by rw [h1, h2], fun _ => ⟨rfl, List.eq_nil_of_length_eq_zero h2⟩, fun h => absurd (List.eq_nil_of_length_eq_zero h2) h⟩
  · refine ⟨some ⟨g, 0, none⟩, cap, h1, (fun h => by cases h), fun _ => ⟨g, 0, rfl, Whole.lt hg, .inr ⟨cur, _, hg⟩, fun j u hj => ?_⟩⟩
    have := World.ownsRow.cells h (g := g) (by rw [h1]; rfl) j u hj
    simpa [Go.WideShapes.add_plain] using this

/-- A parameter. -/
theorem ParV.at {B : Nat} {w : World} {ps : List (Int × Bool)} {A : Option Addr} {c : Nat} (h : ParV B w (.slice A ps.length c) ps) {t : Nat} (ht : t < ps.length) :
    ∃ b off, A = some ⟨b, off, none⟩ ∧ w.cell? ⟨b, off + t * 2, none⟩ = some (.int .i64 (ps.getD t (0, false)).1) ∧ w.cell? ⟨b, off + (t * 2 + 1), none⟩ = some (.bool (ps.getD t (0, false)).2) := by
  obtain ⟨A', c', h1, _, h3⟩ := h
  injection h1 with h1 _ _
  subst h1
  obtain ⟨b, off, rfl, _, _, hc⟩ := h3 (fun e => by rw [e] at ht; exact absurd ht (by simp))
  have f0 := flat_at parCells 2 (fun _ => rfl) (0, false) ps t 0 ht (by decide)
  have f1 := flat_at parCells 2 (fun _ => rfl) (0, false) ps t 1 ht (by decide)
  exact ⟨b, off, rfl, hc _ _ f0, hc _ _ f1⟩

/-- Exports that lie in memory, below block B. -/
def ExpV (B : Nat) (w : World) (v : Value) (es : List Exx) : Prop :=
  ∃ A c, v = .slice A es.length c ∧ (es ≠ [] → ∃ b off, A = some ⟨b, off, none⟩ ∧ b < B ∧ b < w.heap.size ∧ ∀ j u, (es.flatMap exCells)[j]? = some u → w.cell? ⟨b, off + j, none⟩ = some u) ∧ ∀ e ∈ es, ParV B w e.2 e.1.ps

theorem ExpV.keep {B : Nat} {w w' : World} {v : Value} {es : List Exx} (h : ExpV B w v es) (hs : w.heap.size ≤ w'.heap.size) (hk : ∀ b, b < w.heap.size → (b < B ∨ ∃ cs fz, w.heap[b]? = some (.cells cs pP fz)) → w'.heap[b]? = w.heap[b]?) : ExpV B w' v es := by
  obtain ⟨A, c, h1, h2, h3⟩ := h
  refine ⟨A, c, h1, fun hn => ?_, fun e he => (h3 e he).keep (Nat.le_refl _) hs hk⟩
  obtain ⟨b, off, rfl, hb, hb2, hc⟩ := h2 hn
  refine ⟨b, off, rfl, hb, Nat.lt_of_lt_of_le hb2 hs, fun j u hj => ?_⟩
  have := hc j u hj
  simp only [World.cell?] at this ⊢
  rw [hk b hb2 (.inl hb)]
  exact this

theorem ExpV.below {B : Nat} {w w' : World} {v : Value} {es : List Exx} (h : ExpV B w v es) (hb : Below w.heap.size w w') : ExpV B w' v es :=
  h.keep hb.size (fun b hb' _ => hb.block b hb')

/-- An export. -/
theorem ExpV.at {B : Nat} {w : World} {es : List Exx} {A : Option Addr} {c : Nat} (h : ExpV B w (.slice A es.length c) es) {t : Nat} (ht : t < es.length) :
    ∃ b off, A = some ⟨b, off, none⟩ ∧ ∃ nm kd ty vl ps Ap cp, es.getD t zEx = (⟨nm, kd, ty, vl, ps⟩, .slice Ap ps.length cp) ∧ ParV B w (.slice Ap ps.length cp) ps ∧
      (∀ j u, [Value.string nm, .int .i64 kd, .int .i64 ty, .int .i32 vl, .slice Ap ps.length cp][j]? = some u → w.cell? ⟨b, off + (t * 5 + j), none⟩ = some u) := by
  obtain ⟨A', c', h1, h2, h3⟩ := h
  injection h1 with h1 _ _
  subst h1
  obtain ⟨b, off, rfl, _, _, hc⟩ := h2 (fun e => by rw [e] at ht; exact absurd ht (by simp))
  have hm : es.getD t zEx ∈ es := by
    rw [List.getD_eq_getElem?_getD, List.getElem?_eq_getElem ht]
    exact List.getElem_mem ht
  have hp := h3 _ hm
  have hf := fun j hj => flat_at exCells 5 (fun _ => rfl) zEx es t j ht hj
  generalize es.getD t zEx = x at *
  obtain ⟨⟨nm, kd, ty, vl, ps⟩, pv⟩ := x
  obtain ⟨Ap, cp, rfl⟩ : ∃ Ap cp, pv = .slice Ap ps.length cp := hp.form
  refine ⟨b, off, rfl, nm, kd, ty, vl, ps, Ap, cp, rfl, hp, fun j u hj => ?_⟩
  have hj5 : j < 5 := (List.getElem?_eq_some_iff.1 hj).1
  exact hc _ _ ((hf j hj5).trans hj)

/-- Exports lie in an own row. -/
structure RowE (w : World) (B B' : Nat) (v : Value) (l : List Exx) : Prop where
  row : w.ownsRow B' pE 5 v l.length (l.flatMap exCells)
  par : ∀ x ∈ l, ParV B w x.2 x.1.ps

theorem RowE.below {w w' : World} {B B' : Nat} {v : Value} {l : List Exx} (h : RowE w B B' v l) (hb : Below w.heap.size w w') : RowE w' B B' v l :=
  ⟨row_below h.row hb, fun x hx => (h.par x hx).below hb⟩

theorem RowE.nil (w : World) (B B' : Nat) : RowE w B B' (.slice none 0 0) [] := ⟨row_nil _ _ _ _, fun _ h => (List.not_mem_nil h).elim⟩

/-- One export more. -/
theorem RowE.grown {w w' : World} {B B' : Nat} {v v' : Value} {l : List Exx} {x : Exx} (h : RowE w B B' v l) (hB : B ≤ B') (hp : ParV B w x.2 x.1.ps) (hg : w.grownBy w' v.ownBlock) (ho : w'.ownsRow B' pE 5 v' (l.length + 1) (l.flatMap exCells ++ exCells x)) : RowE w' B B' v' (l ++ [x]) := by
  have hk : ∀ {v : Value} {ps : List (Int × Bool)}, ParV B w v ps → ParV B w' v ps := fun hp => hp.keep (Nat.le_refl _) hg.size fun b hb hh => hg.block b hb fun e => by
    obtain ⟨h1, _, cs, e1⟩ := row_block h.row e.symm
    rcases hh with hh | ⟨cs', fz, hh⟩
    · omega
    · rw [e1] at hh
      injection hh with hh
      injection hh with _ hh _
      exact absurd hh (by decide)
  refine ⟨by rw [List.length_append, List.flatMap_append, List.length_singleton, List.flatMap_singleton]; exact ho, fun y hy => ?_⟩
  rcases List.mem_append.1 hy with hy | hy
  · exact hk (h.par y hy)
  · obtain rfl := List.mem_singleton.1 hy
    exact hk hp

/-- An export of an own row, by its cells. -/
theorem RowE.at {w : World} {B B' : Nat} {A : Option Addr} {c : Nat} {l : List Exx} (h : RowE w B B' (.slice A l.length c) l) {t : Nat} (ht : t < l.length) :
    ∃ g, A = some ⟨g, 0, none⟩ ∧ g < w.heap.size ∧ ∃ Ap cp, (l.getD t zEx).2 = .slice Ap (l.getD t zEx).1.ps.length cp ∧ ParV B w (.slice Ap (l.getD t zEx).1.ps.length cp) (l.getD t zEx).1.ps ∧
      (∀ j u, [Value.string (l.getD t zEx).1.nm, .int .i64 (l.getD t zEx).1.kd, .int .i64 (l.getD t zEx).1.ty, .int .i32 (l.getD t zEx).1.vl, .slice Ap (l.getD t zEx).1.ps.length cp][j]? = some u → w.cell? ⟨g, t * 5 + j, none⟩ = some u) := by
  obtain ⟨hcap, g, rfl, hB, hg, hc⟩ := row_cell (f := exCells) (fun _ => rfl) zEx h.row rfl ht
  have hm : l.getD t zEx ∈ l := by
    rw [List.getD_eq_getElem?_getD, List.getElem?_eq_getElem ht]
    exact List.getElem_mem ht
  have hp := h.par _ hm
  generalize l.getD t zEx = x at *
  obtain ⟨x, pv⟩ := x
  obtain ⟨Ap, cp, hf⟩ := hp.form
  have hf : pv = .slice Ap x.ps.length cp := hf
  subst hf
  refine ⟨g, rfl, hg, Ap, cp, rfl, hp, fun j u hj => ?_⟩
  have hj5 : j < 5 := (List.getElem?_eq_some_iff.1 hj).1
  exact (hc j hj5).1.trans hj

/-- Exports that lie in memory, wherever. -/
def ExpR (B : Nat) (w : World) (v : Value) (es : List Exx) : Prop :=
  ∃ A c, v = .slice A es.length c ∧ (es ≠ [] → ∃ b off, A = some ⟨b, off, none⟩ ∧ b < w.heap.size ∧ ∀ j u, (es.flatMap exCells)[j]? = some u → w.cell? ⟨b, off + j, none⟩ = some u) ∧ ∀ e ∈ es, ParV B w e.2 e.1.ps

theorem ExpR.below {B : Nat} {w w' : World} {v : Value} {es : List Exx} (h : ExpR B w v es) (hb : Below w.heap.size w w') : ExpR B w' v es := by
  obtain ⟨A, c, h1, h2, h3⟩ := h
  refine ⟨A, c, h1, fun hn => ?_, fun e he => (h3 e he).below hb⟩
  obtain ⟨b, off, rfl, hb2, hc⟩ := h2 hn
  exact ⟨b, off, rfl, Nat.lt_of_lt_of_le hb2 hb.size, fun j u hj => (hb.cell (p := ⟨b, off + j, none⟩) hb2).trans (hc j u hj)⟩

theorem ExpV.toR {B : Nat} {w : World} {v : Value} {es : List Exx} (h : ExpV B w v es) : ExpR B w v es := by
  obtain ⟨A, c, h1, h2, h3⟩ := h
  refine ⟨A, c, h1, fun hn => ?_, h3⟩
  obtain ⟨b, off, rfl, _, hb2, hc⟩ := h2 hn
  exact ⟨b, off, rfl, hb2, hc⟩

theorem RowE.toR {w : World} {B B' : Nat} {v : Value} {l : List Exx} (h : RowE w B B' v l) : ExpR B w v l := by
  obtain ⟨A, c, rfl⟩ := row_form h.row
  refine ⟨A, c, rfl, fun hn => ?_, h.par⟩
  have hl : 0 < l.length := List.length_pos_iff.2 hn
  obtain ⟨hcap, g, rfl, hB, hg, _⟩ := row_cell (f := exCells) (fun _ => rfl) zEx h.row rfl hl
  exact ⟨g, 0, rfl, hg, fun j u hj => by
    have := World.ownsRow.cells h.row (g := g) rfl j u hj
    simpa [Go.WideShapes.add_plain] using this⟩

theorem ExpR.form {B : Nat} {w : World} {v : Value} {es : List Exx} (h : ExpR B w v es) : ∃ A c, v = .slice A es.length c := by
  obtain ⟨A, c, h1, _⟩ := h
  exact ⟨A, c, h1⟩

/-- An export. -/
theorem ExpR.at {B : Nat} {w : World} {es : List Exx} {A : Option Addr} {c : Nat} (h : ExpR B w (.slice A es.length c) es) {t : Nat} (ht : t < es.length) :
    ∃ b off, A = some ⟨b, off, none⟩ ∧ b < w.heap.size ∧ ∃ nm kd ty vl ps Ap cp, es.getD t zEx = (⟨nm, kd, ty, vl, ps⟩, .slice Ap ps.length cp) ∧ ParV B w (.slice Ap ps.length cp) ps ∧
      (∀ j u, [Value.string nm, .int .i64 kd, .int .i64 ty, .int .i32 vl, .slice Ap ps.length cp][j]? = some u → w.cell? ⟨b, off + (t * 5 + j), none⟩ = some u) := by
  obtain ⟨A', c', h1, h2, h3⟩ := h
  injection h1 with h1 _ _
  subst h1
  obtain ⟨b, off, rfl, hbl, hc⟩ := h2 (fun e => by rw [e] at ht; exact absurd ht (by simp))
  have hm : es.getD t zEx ∈ es := by
    rw [List.getD_eq_getElem?_getD, List.getElem?_eq_getElem ht]
    exact List.getElem_mem ht
  have hp := h3 _ hm
  have hf := fun j hj => flat_at exCells 5 (fun _ => rfl) zEx es t j ht hj
  generalize es.getD t zEx = x at *
  obtain ⟨⟨nm, kd, ty, vl, ps⟩, pv⟩ := x
  obtain ⟨Ap, cp, rfl⟩ : ∃ Ap cp, pv = .slice Ap ps.length cp := hp.form
  refine ⟨b, off, rfl, hbl, nm, kd, ty, vl, ps, Ap, cp, rfl, hp, fun j u hj => ?_⟩
  have hj5 : j < 5 := (List.getElem?_eq_some_iff.1 hj).1
  exact hc _ _ ((hf j hj5).trans hj)

/-- A type of a parameter is an int. -/
def ParOk (q : Int × Bool) : Prop := -9223372036854775808 ≤ q.1 ∧ q.1 ≤ 9223372036854775807

/-- The numbers of an export are of their types. -/
def ExOk (x : Ex) : Prop := (-9223372036854775808 ≤ x.kd ∧ x.kd ≤ 9223372036854775807) ∧ (-9223372036854775808 ≤ x.ty ∧ x.ty ≤ 9223372036854775807) ∧ (-2147483648 ≤ x.vl ∧ x.vl ≤ 2147483647) ∧ ∀ q ∈ x.ps, ParOk q

section
variable {H : Type} {enc : TypeId × Value → H} {w : World}

instance inhabPar : Inhabited (Int × Bool) := ⟨(0, false)⟩

instance inhabEx : Inhabited Exx := ⟨zEx⟩

/-- A parameter. -/
theorem par_trod {R n : Nat} {cs : List Value} {y : DataW H × List MemPlace} (h : DataW.trod enc Try.prog w 0 (fun _ => true) true n pP cs = some y) : ∃ q : Int × Bool, cs = parCells q ∧ ParOk q := by
  obtain ⟨xs, k, rfl, rfl, hcl, hxl, hf⟩ := DataW.trod_struct Try.underlying75 h
  have hc : Try.prog.cellsOf pP = 2 := by kernel_rfl
  have c0 : Try.prog.cellsOf 3 = 1 := by kernel_rfl
  have c1 : Try.prog.cellsOf 4 = 1 := by kernel_rfl
  rw [hc] at hcl
  match xs, hxl, cs, hcl with
  | [y0, y1], _, [v0, v1], _ =>
    have g0 := hf 0 _ rfl
    have g1 := hf 1 _ rfl
    simp [c0, c1] at g0 g1
    obtain ⟨z0, hz0, _, hw0⟩ := DataW.trod_int Try.underlying3 g0
    obtain ⟨z1, hz1, _⟩ := DataW.trod_bool Try.underlying4 g1
    have m0 : IntKind.i64.min = -9223372036854775808 := by decide
    have m1 : IntKind.i64.max = 9223372036854775807 := by decide
    simp [Lit.wf] at hw0
    refine ⟨(z0, z1), ?_, m0 ▸ hw0.1, m1 ▸ hw0.2⟩
    simp only [List.cons.injEq, and_true] at hz0 hz1
    rw [hz0, hz1]
    rfl

/-- Parameters. -/
theorem pars_trod {R n : Nat} {cs : List Value} {y : DataW H × List MemPlace} (h : DataW.trod enc Try.prog w 0 (fun _ => true) true n 31 cs = some y) (hz : ∀ k ∈ y.1.weights Try.prog 31, k ≤ R) :
    ∃ (A : Option Addr) (ps : List (Int × Bool)) (c : Nat), cs = [.slice A ps.length c] ∧ ParV w.heap.size w (.slice A ps.length c) ps ∧ ps.length * 16 ≤ R ∧ ∀ q ∈ ps, ParOk q := by
  obtain ⟨A, ps, c, h1, h2, h3, h4, h5, h6⟩ := open_row (f := parCells) (sz := 2) (Good := ParOk) Try.underlying31 (fun _ => rfl) (by kernel_rfl) (by decide) (fun _ _ _ h _ => par_trod (R := R) h) h hz
  refine ⟨A, ps, c, h1, ⟨A, c, rfl, h2, fun hn => ?_⟩, ?_, h5⟩
  · obtain ⟨b, off, e, hb, hc⟩ := h6 hn
    exact ⟨b, off, e, hb, .inl hb, hc⟩
  · have hb : Try.prog.bytesOf pP = 16 := by kernel_rfl
    rw [hb] at h4
    exact h4

/-- What others may use, one. -/
theorem ex_trod {R n : Nat} {cs : List Value} {y : DataW H × List MemPlace} (h : DataW.trod enc Try.prog w 0 (fun _ => true) true n pE cs = some y) (hz : ∀ k ∈ y.1.weights Try.prog pE, k ≤ R) :
    ∃ x : Exx, cs = exCells x ∧ (ParV w.heap.size w x.2 x.1.ps ∧ x.1.nm.size ≤ R ∧ x.1.ps.length * 16 ≤ R ∧ ExOk x.1) := by
  obtain ⟨xs, k, rfl, rfl, hcl, hxl, hf⟩ := DataW.trod_struct Try.underlying33 h
  have hc : Try.prog.cellsOf pE = 5 := by kernel_rfl
  have c0 : Try.prog.cellsOf 3 = 1 := by kernel_rfl
  have c1 : Try.prog.cellsOf 9 = 1 := by kernel_rfl
  have c2 : Try.prog.cellsOf 21 = 1 := by kernel_rfl
  have c3 : Try.prog.cellsOf 31 = 1 := by kernel_rfl
  rw [hc] at hcl
  match xs, hxl, cs, hcl with
  | [y0, y1, y2, y3, y4], _, [v0, v1, v2, v3, v4], _ =>
    have g0 := hf 0 _ rfl
    have g1 := hf 1 _ rfl
    have g2 := hf 2 _ rfl
    have g3 := hf 3 _ rfl
    have g4 := hf 4 _ rfl
    have w0 := weights_part Try.underlying33 hz (i := 0) rfl rfl
    have w4 := weights_part Try.underlying33 hz (i := 4) rfl rfl
    simp [c0, c1, c2, c3] at g0 g1 g2 g3 g4
    obtain ⟨s, hz0, hs, _⟩ := DataW.trod_string Try.underlying9 g0
    obtain ⟨z1, hz1, _, hw1⟩ := DataW.trod_int Try.underlying3 g1
    obtain ⟨z2, hz2, _, hw2⟩ := DataW.trod_int Try.underlying3 g2
    obtain ⟨z3, hz3, _, hw3⟩ := DataW.trod_int Try.underlying21 g3
    obtain ⟨A, ps, c, hz4, hp, hn, hq⟩ := pars_trod g4 w4
    have m0 : IntKind.i64.min = -9223372036854775808 := by decide
    have m1 : IntKind.i64.max = 9223372036854775807 := by decide
    have m2 : IntKind.i32.min = -2147483648 := by decide
    have m3 : IntKind.i32.max = 2147483647 := by decide
    simp [Lit.wf] at hw1 hw2 hw3
    subst hs
    refine ⟨(⟨s, z1, z2, z3, ps⟩, .slice A ps.length c), ?_, hp, size_weight w0, hn, ⟨m0 ▸ hw1.1, m1 ▸ hw1.2⟩, ⟨m0 ▸ hw2.1, m1 ▸ hw2.2⟩, ⟨m2 ▸ hw3.1, m3 ▸ hw3.2⟩, hq⟩
    simp only [List.cons.injEq, and_true] at hz0 hz1 hz2 hz3 hz4
    rw [hz0, hz1, hz2, hz3, hz4]
    rfl

/-- What others may use. -/
theorem exs_trod {R n : Nat} {cs : List Value} {y : DataW H × List MemPlace} (h : DataW.trod enc Try.prog w 0 (fun _ => true) true n 24 cs = some y) (hz : ∀ k ∈ y.1.weights Try.prog 24, k ≤ R) :
    ∃ (A : Option Addr) (es : List Exx) (c : Nat), cs = [.slice A es.length c] ∧ ExpV w.heap.size w (.slice A es.length c) es ∧ es.length * 64 ≤ R ∧ ∀ e ∈ es, e.1.nm.size ≤ R ∧ e.1.ps.length * 16 ≤ R ∧ ExOk e.1 := by
  obtain ⟨A, es, c, h1, h2, h3, h4, h5, h6⟩ := open_row (f := exCells) (sz := 5) (Good := fun x : Exx => ParV w.heap.size w x.2 x.1.ps ∧ x.1.nm.size ≤ R ∧ x.1.ps.length * 16 ≤ R ∧ ExOk x.1) Try.underlying24 (fun _ => rfl) (by kernel_rfl) (by decide) (fun _ _ _ h h' => ex_trod h h') h hz
  refine ⟨A, es, c, h1, ⟨A, c, rfl, fun hn => ?_, fun e he => (h5 e he).1⟩, ?_, fun e he => (h5 e he).2⟩
  · obtain ⟨b, off, e, hb, hc⟩ := h6 hn
    exact ⟨b, off, e, hb, hb, hc⟩
  · have hb : Try.prog.bytesOf pE = 64 := by kernel_rfl
    rw [hb] at h4
    exact h4

/-- Exports that came in as an argument. -/
theorem open_exs {r : Reach} {b0 : Nat} {v : Value} {d : DataW H} {ps : List MemPlace} (hval : Value.okWide Try.prog w r b0 24 v) (hd : DataW.Trod enc Try.prog w 0 (fun _ => true) true 24 v d ps) (hz : ∀ k ∈ d.weights Try.prog 24, k ≤ 140737488355328) :
    ∃ (A : Option Addr) (es : List Exx) (c : Nat), v = .slice A es.length c ∧ ExpV w.heap.size w (.slice A es.length c) es ∧ es.length * 64 ≤ 140737488355328 ∧ ∀ e ∈ es, e.1.nm.size ≤ 140737488355328 ∧ e.1.ps.length * 16 ≤ 140737488355328 ∧ ExOk e.1 := by
  obtain ⟨a0, len, cap, rfl⟩ := okWide_slice Try.underlying24 hval
  obtain ⟨fuel, hf⟩ := hd
  obtain ⟨A, es, c, h1, h2, h3, h4⟩ := exs_trod hf hz
  simp [Value.cells] at h1
  obtain ⟨rfl, rfl, rfl⟩ := h1
  exact ⟨_, es, _, rfl, h2, h3, h4⟩

end
end Go.Proofs.Ythmjniedfiabhaa
