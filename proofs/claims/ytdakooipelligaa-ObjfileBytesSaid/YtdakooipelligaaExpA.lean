/- Exports (api.Export with their api.Params) as plain data; how they lie in memory: those that came in, those that were made; a law's argument. No function of any package. -/
import Derived.Test.YtdakooipelligaaRowLib
import Derived.Test.YtdakooipelligaaOpenRow
import Derived.Deep.Slices
import Derived.SizedLaws
namespace Go.Proofs.Ytdakooipelligaa
open Go.ChangeShapes Go.WideShapes Go.ChangeAt Go.RowKit
set_option linter.unusedVariables false
set_option linter.unusedSimpArgs false
set_option maxRecDepth 100000

/-- What others may use. -/
structure Ex where
  nm : ByteArray
  kd : Int
  ty : Int
  vl : Int
  ps : List (Int × Bool)

abbrev Exx := Ex × Value

def parCells (q : Int × Bool) : List Value := [.int .i64 q.1, .bool q.2]

def exCells (x : Exx) : List Value := [.string x.1.nm, .int .i64 x.1.kd, .int .i64 x.1.ty, .int .i32 x.1.vl, x.2]

def zE : Ex := ⟨⟨#[]⟩, 0, 0, 0, []⟩

def zEx : Exx := (zE, .slice none 0 0)

abbrev pP : TypeId := 9999

abbrev pE : TypeId := 9998

/-- Parameters that lie in memory: below block B, or in a block of parameters. -/
def ParV (B : Nat) (w : World) (v : Value) (ps : List (Int × Bool)) : Prop :=
  ∃ A c, v = .slice A ps.length c ∧ (A = none → c = 0 ∧ ps = []) ∧
    (ps ≠ [] → ∃ b off, A = some ⟨b, off, none⟩ ∧ b < w.heap.size ∧ (b < B ∨ ∃ cs fz, w.heap[b]? = some (.cells cs pP fz)) ∧ ∀ j u, (ps.flatMap parCells)[j]? = some u → w.cell? ⟨b, off + j, none⟩ = some u)

theorem ParV.nil (B : Nat) (w : World) : ParV B w (.slice none 0 0) [] := ⟨none, 0, rfl, fun _ => ⟨rfl, rfl⟩, fun h => absurd rfl h⟩

theorem ParV.form {B : Nat} {w : World} {v : Value} {ps : List (Int × Bool)} (h : ParV B w v ps) : ∃ A c, v = .slice A ps.length c := by
  obtain ⟨A, c, h1, _⟩ := h
  exact ⟨A, c, h1⟩

theorem ParV.keep {B B' : Nat} {w w' : World} {v : Value} {ps : List (Int × Bool)} (h : ParV B w v ps) (hB : B ≤ B') (hs : w.heap.size ≤ w'.heap.size) (hk : ∀ b, b < w.heap.size → (b < B ∨ ∃ cs fz, w.heap[b]? = some (.cells cs pP fz)) → w'.heap[b]? = w.heap[b]?) : ParV B' w' v ps := by
  obtain ⟨A, c, h1, h2, h3⟩ := h
  refine ⟨A, c, h1, h2, fun hn => ?_⟩
  obtain ⟨b, off, rfl, hb, ht, hc⟩ := h3 hn
  have e := hk b hb ht
  refine ⟨b, off, rfl, Nat.lt_of_lt_of_le hb hs, ?_, fun j u hj => ?_⟩
  · rcases ht with ht | ht
    · exact .inl (Nat.lt_of_lt_of_le ht hB)
    · exact .inr (by rw [e]; exact ht)
  · have := hc j u hj
    simp only [World.cell?] at this ⊢
    rw [e]
    exact this

theorem ParV.below {B : Nat} {w w' : World} {v : Value} {ps : List (Int × Bool)} (h : ParV B w v ps) (hb : Below w.heap.size w w') : ParV B w' v ps :=
  h.keep (Nat.le_refl _) hb.size (fun b hb' _ => hb.block b hb')

theorem ParV.more {B B' : Nat} {w : World} {v : Value} {ps : List (Int × Bool)} (h : ParV B w v ps) (hB : B ≤ B') : ParV B' w v ps :=
  h.keep hB (Nat.le_refl _) (fun _ _ _ => rfl)

theorem ParV.own {w : World} {v : Value} {ps : List (Int × Bool)} {B B' : Nat} (h : w.ownsRow B' pP 2 v ps.length (ps.flatMap parCells)) : ParV B w v ps := by
  rcases h.2 with ⟨h1, h2⟩ | ⟨g, cap, cur, h1, hB, hg, hcap, _, hsz, htk⟩
  · exact ⟨none, 0, by rw [h1, h2], fun _ => ⟨rfl, List.eq_nil_of_length_eq_zero h2⟩, fun h => absurd (List.eq_nil_of_length_eq_zero h2) h⟩
  · refine ⟨some ⟨g, 0, none⟩, cap, h1, (fun h => by cases h), fun _ => ⟨g, 0, rfl, Whole.lt hg, .inr ⟨cur, _, hg⟩, fun j u hj => ?_⟩⟩
    have := World.ownsRow.cells h (g := g) (by rw [h1]; rfl) j u hj
    simpa [Go.WideShapes.add_plain] using this

/-- A parameter. -/
theorem ParV.at {B : Nat} {w : World} {ps : List (Int × Bool)} {A : Option Addr} {c : Nat} (h : ParV B w (.slice A ps.length c) ps) {t : Nat} (ht : t < ps.length) :
    ∃ b off, A = some ⟨b, off, none⟩ ∧ w.cell? ⟨b, off + t * 2, none⟩ = some (.int .i64 (ps.getD t (0, false)).1) ∧ w.cell? ⟨b, off + (t * 2 + 1), none⟩ = some (.bool (ps.getD t (0, false)).2) := by
  obtain ⟨A', c', h1, _, h3⟩ := h
  injection h1 with h1 _ _
  subst h1
  obtain ⟨b, off, rfl, _, _, hc⟩ := h3 (fun e => by rw [e] at ht; exact absurd ht (by simp))
  have f0 := flat_at parCells 2 (fun _ => rfl) (0, false) ps t 0 ht (by decide)
  have f1 := flat_at parCells 2 (fun _ => rfl) (0, false) ps t 1 ht (by decide)
  exact ⟨b, off, rfl, hc _ _ f0, hc _ _ f1⟩

/-- Exports that lie in memory, below block B. -/
def ExpV (B : Nat) (w : World) (v : Value) (es : List Exx) : Prop :=
  ∃ A c, v = .slice A es.length c ∧ (es ≠ [] → ∃ b off, A = some ⟨b, off, none⟩ ∧ b < B ∧ b < w.heap.size ∧ ∀ j u, (es.flatMap exCells)[j]? = some u → w.cell? ⟨b, off + j, none⟩ = some u) ∧ ∀ e ∈ es, ParV B w e.2 e.1.ps

theorem ExpV.keep {B : Nat} {w w' : World} {v : Value} {es : List Exx} (h : ExpV B w v es) (hs : w.heap.size ≤ w'.heap.size) (hk : ∀ b, b < w.heap.size → (b < B ∨ ∃ cs fz, w.heap[b]? = some (.cells cs pP fz)) → w'.heap[b]? = w.heap[b]?) : ExpV B w' v es := by
  obtain ⟨A, c, h1, h2, h3⟩ := h
  refine ⟨A, c, h1, fun hn => ?_, fun e he => (h3 e he).keep (Nat.le_refl _) hs hk⟩
  obtain ⟨b, off, rfl, hb, hb2, hc⟩ := h2 hn
  refine ⟨b, off, rfl, hb, Nat.lt_of_lt_of_le hb2 hs, fun j u hj => ?_⟩
  have := hc j u hj
  simp only [World.cell?] at this ⊢
  rw [hk b hb2 (.inl hb)]
  exact this

theorem ExpV.below {B : Nat} {w w' : World} {v : Value} {es : List Exx} (h : ExpV B w v es) (hb : Below w.heap.size w w') : ExpV B w' v es :=
  h.keep hb.size (fun b hb' _ => hb.block b hb')

/-- An export. -/
theorem ExpV.at {B : Nat} {w : World} {es : List Exx} {A : Option Addr} {c : Nat} (h : ExpV B w (.slice A es.length c) es) {t : Nat} (ht : t < es.length) :
    ∃ b off, A = some ⟨b, off, none⟩ ∧ ∃ nm kd ty vl ps Ap cp, es.getD t zEx = (⟨nm, kd, ty, vl, ps⟩, .slice Ap ps.length cp) ∧ ParV B w (.slice Ap ps.length cp) ps ∧
      (∀ j u, [Value.string nm, .int .i64 kd, .int .i64 ty, .int .i32 vl, .slice Ap ps.length cp][j]? = some u → w.cell? ⟨b, off + (t * 5 + j), none⟩ = some u) := by
  obtain ⟨A', c', h1, h2, h3⟩ := h
  injection h1 with h1 _ _
  subst h1
  obtain ⟨b, off, rfl, _, _, hc⟩ := h2 (fun e => by rw [e] at ht; exact absurd ht (by simp))
  have hm : es.getD t zEx ∈ es := by
    rw [List.getD_eq_getElem?_getD, List.getElem?_eq_getElem ht]
    exact List.getElem_mem ht
  have hp := h3 _ hm
  have hf := fun j hj => flat_at exCells 5 (fun _ => rfl) zEx es t j ht hj
  generalize es.getD t zEx = x at *
  obtain ⟨⟨nm, kd, ty, vl, ps⟩, pv⟩ := x
  obtain ⟨Ap, cp, rfl⟩ : ∃ Ap cp, pv = .slice Ap ps.length cp := hp.form
  refine ⟨b, off, rfl, nm, kd, ty, vl, ps, Ap, cp, rfl, hp, fun j u hj => ?_⟩
  have hj5 : j < 5 := (List.getElem?_eq_some_iff.1 hj).1
  exact hc _ _ ((hf j hj5).trans hj)

/-- Exports lie in an own row. -/
structure RowE (w : World) (B B' : Nat) (v : Value) (l : List Exx) : Prop where
  row : w.ownsRow B' pE 5 v l.length (l.flatMap exCells)
  par : ∀ x ∈ l, ParV B w x.2 x.1.ps

theorem RowE.below {w w' : World} {B B' : Nat} {v : Value} {l : List Exx} (h : RowE w B B' v l) (hb : Below w.heap.size w w') : RowE w' B B' v l :=
  ⟨row_below h.row hb, fun x hx => (h.par x hx).below hb⟩

theorem RowE.nil (w : World) (B B' : Nat) : RowE w B B' (.slice none 0 0) [] := ⟨row_nil _ _ _ _, fun _ h => (List.not_mem_nil h).elim⟩

/-- One export more. -/
theorem RowE.grown {w w' : World} {B B' : Nat} {v v' : Value} {l : List Exx} {x : Exx} (h : RowE w B B' v l) (hB : B ≤ B') (hp : ParV B w x.2 x.1.ps) (hg : w.grownBy w' v.ownBlock) (ho : w'.ownsRow B' pE 5 v' (l.length + 1) (l.flatMap exCells ++ exCells x)) : RowE w' B B' v' (l ++ [x]) := by
  have hk : ∀ {v : Value} {ps : List (Int × Bool)}, ParV B w v ps → ParV B w' v ps := fun hp => hp.keep (Nat.le_refl _) hg.size fun b hb hh => hg.block b hb fun e => by
    obtain ⟨h1, _, cs, e1⟩ := row_block h.row e.symm
    rcases hh with hh | ⟨cs', fz, hh⟩
    · omega
    · rw [e1] at hh
      injection hh with hh
      injection hh with _ hh _
      exact absurd hh (by decide)
  refine ⟨by rw [List.length_append, List.flatMap_append, List.length_singleton, List.flatMap_singleton]; exact ho, fun y hy => ?_⟩
  rcases List.mem_append.1 hy with hy | hy
  · exact hk (h.par y hy)
  · obtain rfl := List.mem_singleton.1 hy
    exact hk hp

/-- An export of an own row, by its cells. -/
theorem RowE.at {w : World} {B B' : Nat} {A : Option Addr} {c : Nat} {l : List Exx} (h : RowE w B B' (.slice A l.length c) l) {t : Nat} (ht : t < l.length) :
    ∃ g, A = some ⟨g, 0, none⟩ ∧ g < w.heap.size ∧ ∃ Ap cp, (l.getD t zEx).2 = .slice Ap (l.getD t zEx).1.ps.length cp ∧ ParV B w (.slice Ap (l.getD t zEx).1.ps.length cp) (l.getD t zEx).1.ps ∧
      (∀ j u, [Value.string (l.getD t zEx).1.nm, .int .i64 (l.getD t zEx).1.kd, .int .i64 (l.getD t zEx).1.ty, .int .i32 (l.getD t zEx).1.vl, .slice Ap (l.getD t zEx).1.ps.length cp][j]? = some u → w.cell? ⟨g, t * 5 + j, none⟩ = some u) := by
  obtain ⟨hcap, g, rfl, hB, hg, hc⟩ := row_cell (f := exCells) (fun _ => rfl) zEx h.row rfl ht
  have hm : l.getD t zEx ∈ l := by
    rw [List.getD_eq_getElem?_getD, List.getElem?_eq_getElem ht]
    exact List.getElem_mem ht
  have hp := h.par _ hm
  generalize l.getD t zEx = x at *
  obtain ⟨x, pv⟩ := x
  obtain ⟨Ap, cp, hf⟩ := hp.form
  have hf : pv = .slice Ap x.ps.length cp := hf
  subst hf
  refine ⟨g, rfl, hg, Ap, cp, rfl, hp, fun j u hj => ?_⟩
  have hj5 : j < 5 := (List.getElem?_eq_some_iff.1 hj).1
  exact (hc j hj5).1.trans hj

/-- Exports that lie in memory, wherever. -/
def ExpR (B : Nat) (w : World) (v : Value) (es : List Exx) : Prop :=
  ∃ A c, v = .slice A es.length c ∧ (es ≠ [] → ∃ b off, A = some ⟨b, off, none⟩ ∧ b < w.heap.size ∧ ∀ j u, (es.flatMap exCells)[j]? = some u → w.cell? ⟨b, off + j, none⟩ = some u) ∧ ∀ e ∈ es, ParV B w e.2 e.1.ps

theorem ExpR.below {B : Nat} {w w' : World} {v : Value} {es : List Exx} (h : ExpR B w v es) (hb : Below w.heap.size w w') : ExpR B w' v es := by
  obtain ⟨A, c, h1, h2, h3⟩ := h
  refine ⟨A, c, h1, fun hn => ?_, fun e he => (h3 e he).below hb⟩
  obtain ⟨b, off, rfl, hb2, hc⟩ := h2 hn
  exact ⟨b, off, rfl, Nat.lt_of_lt_of_le hb2 hb.size, fun j u hj => (hb.cell (p := ⟨b, off + j, none⟩) hb2).trans (hc j u hj)⟩

theorem ExpV.toR {B : Nat} {w : World} {v : Value} {es : List Exx} (h : ExpV B w v es) : ExpR B w v es := by
  obtain ⟨A, c, h1, h2, h3⟩ := h
  refine ⟨A, c, h1, fun hn => ?_, h3⟩
  obtain ⟨b, off, rfl, _, hb2, hc⟩ := h2 hn
  exact ⟨b, off, rfl, hb2, hc⟩

theorem RowE.toR {w : World} {B B' : Nat} {v : Value} {l : List Exx} (h : RowE w B B' v l) : ExpR B w v l := by
  obtain ⟨A, c, rfl⟩ := row_form h.row
  refine ⟨A, c, rfl, fun hn => ?_, h.par⟩
  have hl : 0 < l.length := List.length_pos_iff.2 hn
  obtain ⟨hcap, g, rfl, hB, hg, _⟩ := row_cell (f := exCells) (fun _ => rfl) zEx h.row rfl hl
  exact ⟨g, 0, rfl, hg, fun j u hj => by
    have := World.ownsRow.cells h.row (g := g) rfl j u hj
    simpa [Go.WideShapes.add_plain] using this⟩

theorem ExpR.form {B : Nat} {w : World} {v : Value} {es : List Exx} (h : ExpR B w v es) : ∃ A c, v = .slice A es.length c := by
  obtain ⟨A, c, h1, _⟩ := h
  exact ⟨A, c, h1⟩

/-- An export. -/
theorem ExpR.at {B : Nat} {w : World} {es : List Exx} {A : Option Addr} {c : Nat} (h : ExpR B w (.slice A es.length c) es) {t : Nat} (ht : t < es.length) :
    ∃ b off, A = some ⟨b, off, none⟩ ∧ b < w.heap.size ∧ ∃ nm kd ty vl ps Ap cp, es.getD t zEx = (⟨nm, kd, ty, vl, ps⟩, .slice Ap ps.length cp) ∧ ParV B w (.slice Ap ps.length cp) ps ∧
      (∀ j u, [Value.string nm, .int .i64 kd, .int .i64 ty, .int .i32 vl, .slice Ap ps.length cp][j]? = some u → w.cell? ⟨b, off + (t * 5 + j), none⟩ = some u) := by
  obtain ⟨A', c', h1, h2, h3⟩ := h
  injection h1 with h1 _ _
  subst h1
  obtain ⟨b, off, rfl, hbl, hc⟩ := h2 (fun e => by rw [e] at ht; exact absurd ht (by simp))
  have hm : es.getD t zEx ∈ es := by
    rw [List.getD_eq_getElem?_getD, List.getElem?_eq_getElem ht]
    exact List.getElem_mem ht
  have hp := h3 _ hm
  have hf := fun j hj => flat_at exCells 5 (fun _ => rfl) zEx es t j ht hj
  generalize es.getD t zEx = x at *
  obtain ⟨⟨nm, kd, ty, vl, ps⟩, pv⟩ := x
  obtain ⟨Ap, cp, rfl⟩ : ∃ Ap cp, pv = .slice Ap ps.length cp := hp.form
  refine ⟨b, off, rfl, hbl, nm, kd, ty, vl, ps, Ap, cp, rfl, hp, fun j u hj => ?_⟩
  have hj5 : j < 5 := (List.getElem?_eq_some_iff.1 hj).1
  exact hc _ _ ((hf j hj5).trans hj)

/-- A type of a parameter is an int. -/
def ParOk (q : Int × Bool) : Prop := -9223372036854775808 ≤ q.1 ∧ q.1 ≤ 9223372036854775807

/-- The numbers of an export are of their types. -/
def ExOk (x : Ex) : Prop := (-9223372036854775808 ≤ x.kd ∧ x.kd ≤ 9223372036854775807) ∧ (-9223372036854775808 ≤ x.ty ∧ x.ty ≤ 9223372036854775807) ∧ (-2147483648 ≤ x.vl ∧ x.vl ≤ 2147483647) ∧ ∀ q ∈ x.ps, ParOk q

section
variable {H : Type} {enc : TypeId × Value → H} {w : World}

instance inhabPar : Inhabited (Int × Bool) := ⟨(0, false)⟩

instance inhabEx : Inhabited Exx := ⟨zEx⟩

end
end Go.Proofs.Ytdakooipelligaa
