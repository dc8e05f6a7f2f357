/- Symfile: imports (api.Import) in memory, those that came in and those that were made; a file as a law's argument. -/
import Derived.Test.YtdakooipelligaaSymA
namespace Go.Proofs.Ytdakooipelligaa
open Go.ChangeShapes Go.WideShapes Go.ChangeAt Go.RowKit
set_option linter.unusedVariables false
set_option linter.unusedSimpArgs false
set_option maxRecDepth 100000

abbrev pI : TypeId := 87

abbrev flT : TypeId := 9996

def imCells (x : Im) : List Value := [.string x.nm, .int .u32 x.key]

def zI : Im := ⟨⟨#[]⟩, 0⟩

instance inhabIm : Inhabited Im := ⟨zI⟩

/-- Imports that lie in memory, below block B. -/
def ImV (B : Nat) (w : World) (v : Value) (l : List Im) : Prop :=
  ∃ A c, v = .slice A l.length c ∧ (l ≠ [] → ∃ b off, A = some ⟨b, off, none⟩ ∧ b < B ∧ b < w.heap.size ∧ ∀ j u, (l.flatMap imCells)[j]? = some u → w.cell? ⟨b, off + j, none⟩ = some u)

theorem ImV.form {B : Nat} {w : World} {v : Value} {l : List Im} (h : ImV B w v l) : ∃ A c, v = .slice A l.length c := by
  obtain ⟨A, c, h1, _⟩ := h
  exact ⟨A, c, h1⟩

theorem ImV.keep {B B' : Nat} {w w' : World} {v : Value} {l : List Im} (h : ImV B w v l) (hB : B ≤ B') (hs : w.heap.size ≤ w'.heap.size) (hk : ∀ b, b < w.heap.size → b < B → w'.heap[b]? = w.heap[b]?) : ImV B' w' v l := by
  obtain ⟨A, c, h1, h2⟩ := h
  refine ⟨A, c, h1, fun hn => ?_⟩
  obtain ⟨b, off, rfl, hb, hb2, hc⟩ := h2 hn
  refine ⟨b, off, rfl, Nat.lt_of_lt_of_le hb hB, Nat.lt_of_lt_of_le hb2 hs, fun j u hj => ?_⟩
  have := hc j u hj
  simp only [World.cell?] at this ⊢
  rw [hk b hb2 hb]
  exact this

theorem ImV.below {B : Nat} {w w' : World} {v : Value} {l : List Im} (h : ImV B w v l) (hb : Below w.heap.size w w') : ImV B w' v l :=
  h.keep (Nat.le_refl _) hb.size (fun b hb' _ => hb.block b hb')

theorem ImV.more {B B' : Nat} {w : World} {v : Value} {l : List Im} (h : ImV B w v l) (hB : B ≤ B') : ImV B' w v l :=
  h.keep hB (Nat.le_refl _) (fun _ _ _ => rfl)

/-- All that lies in memory lies below the next block. -/
theorem ImV.toV {B : Nat} {w : World} {v : Value} {l : List Im} (h : ImV B w v l) : ImV w.heap.size w v l := by
  obtain ⟨A, c, h1, h2⟩ := h
  refine ⟨A, c, h1, fun hn => ?_⟩
  obtain ⟨b, off, e, _, hb2, hc⟩ := h2 hn
  exact ⟨b, off, e, hb2, hb2, hc⟩

theorem ImV.nil (B : Nat) (w : World) (A : Option Addr) (c : Nat) : ImV B w (.slice A 0 c) [] := ⟨A, c, rfl, fun h => absurd rfl h⟩

theorem ImV.own {w : World} {v : Value} {l : List Im} {B' : Nat} (h : w.ownsRow B' pI 2 v l.length (l.flatMap imCells)) : ImV w.heap.size w v l := by
  obtain ⟨A, c, rfl⟩ := row_form h
  refine ⟨A, c, rfl, fun hn => ?_⟩
  have hl : 0 < l.length := List.length_pos_iff.2 hn
  obtain ⟨hcap, g, rfl, hB, hg, _⟩ := row_cell (f := imCells) (fun _ => rfl) zI h rfl hl
  exact ⟨g, 0, rfl, hg, hg, fun j u hj => by
    have := World.ownsRow.cells h (g := g) rfl j u hj
    simpa [Go.WideShapes.add_plain] using this⟩

/-- An import. -/
theorem ImV.at {B : Nat} {w : World} {l : List Im} {A : Option Addr} {c : Nat} (h : ImV B w (.slice A l.length c) l) {t : Nat} (ht : t < l.length) :
    ∃ b off, A = some ⟨b, off, none⟩ ∧ b < w.heap.size ∧ w.cell? ⟨b, off + t * 2, none⟩ = some (.string (l.getD t zI).nm) ∧ w.cell? ⟨b, off + t * 2 + 1, none⟩ = some (.int .u32 (l.getD t zI).key) := by
  obtain ⟨A', c', h1, h2⟩ := h
  injection h1 with h1 _ _
  subst h1
  obtain ⟨b, off, rfl, _, hb, hc⟩ := h2 (fun e => by rw [e] at ht; exact absurd ht (by simp))
  have f0 := flat_at imCells 2 (fun _ => rfl) zI l t 0 ht (by decide)
  have f1 := flat_at imCells 2 (fun _ => rfl) zI l t 1 ht (by decide)
  exact ⟨b, off, rfl, hb, hc _ _ f0, by rw [Nat.add_assoc]; exact hc _ _ f1⟩

/-- The numbers of an import are of their types; a bound on its name. -/
def ImOk (x : Im) : Prop := x.nm.size ≤ 140737488355328 ∧ 0 ≤ x.key ∧ x.key ≤ 4294967295

/-- Exports that lie wherever lie below the next block. -/
theorem ExpR.toV {B : Nat} {w : World} {v : Value} {es : List Exx} (h : ExpR B w v es) : ExpV w.heap.size w v es := by
  obtain ⟨A, c, h1, h2, h3⟩ := h
  refine ⟨A, c, h1, fun hn => ?_, fun e he => ?_⟩
  · obtain ⟨b, off, e, hb, hc⟩ := h2 hn
    exact ⟨b, off, e, hb, hb, hc⟩
  · obtain ⟨A, c, h1, h2, h3⟩ := h3 e he
    refine ⟨A, c, h1, h2, fun hn => ?_⟩
    obtain ⟨b, off, e, hb, _, hc⟩ := h3 hn
    exact ⟨b, off, e, hb, .inl hb, hc⟩

section
variable {H : Type} {enc : TypeId × Value → H} {w : World}

/-- An import of a slice. -/
theorem im_trod {R n : Nat} {cs : List Value} {y : DataW H × List MemPlace} (h : DataW.trod enc Try.prog w 0 (fun _ => true) true n pI cs = some y) (hz : ∀ k ∈ y.1.weights Try.prog pI, k ≤ R) :
    ∃ x : Im, cs = imCells x ∧ (x.nm.size ≤ R ∧ 0 ≤ x.key ∧ x.key ≤ 4294967295) := by
  obtain ⟨xs, k, rfl, rfl, hcl, hxl, hf⟩ := DataW.trod_struct Try.underlying87 h
  have hc : Try.prog.cellsOf pI = 2 := by kernel_rfl
  have c0 : Try.prog.cellsOf 9 = 1 := by kernel_rfl
  have c1 : Try.prog.cellsOf 22 = 1 := by kernel_rfl
  rw [hc] at hcl
  match xs, hxl, cs, hcl with
  | [y0, y1], _, [v0, v1], _ =>
    have g0 := hf 0 _ rfl
    have g1 := hf 1 _ rfl
    have w0 := weights_part Try.underlying87 hz (i := 0) rfl rfl
    simp [c0, c1] at g0 g1
    obtain ⟨s, hz0, hs, _⟩ := DataW.trod_string Try.underlying9 g0
    obtain ⟨z1, hz1, _, hw1⟩ := DataW.trod_int Try.underlying22 g1
    have m0 : IntKind.u32.min = 0 := by decide
    have m1 : IntKind.u32.max = 4294967295 := by decide
    simp [Lit.wf] at hw1
    subst hs
    refine ⟨⟨s, z1⟩, ?_, size_weight w0, m0 ▸ hw1.1, m1 ▸ hw1.2⟩
    simp only [List.cons.injEq, and_true] at hz0 hz1
    rw [hz0, hz1]
    rfl

/-- Imports of a slice that came in. -/
theorem ims_trod {R n : Nat} {cs : List Value} {y : DataW H × List MemPlace} (h : DataW.trod enc Try.prog w 0 (fun _ => true) true n 23 cs = some y) (hz : ∀ k ∈ y.1.weights Try.prog 23, k ≤ R) :
    ∃ (A : Option Addr) (l : List Im) (c : Nat), cs = [.slice A l.length c] ∧ ImV w.heap.size w (.slice A l.length c) l ∧ l.length * 24 ≤ R ∧ ∀ x ∈ l, x.nm.size ≤ R ∧ 0 ≤ x.key ∧ x.key ≤ 4294967295 := by
  obtain ⟨A, l, c, h1, h2, h3, h4, h5, h6⟩ := open_row (f := imCells) (sz := 2) (Good := fun x : Im => x.nm.size ≤ R ∧ 0 ≤ x.key ∧ x.key ≤ 4294967295) Try.underlying23 (fun _ => rfl) (by kernel_rfl) (by decide) (fun _ _ _ h h' => im_trod h h') h hz
  refine ⟨A, l, c, h1, ⟨A, c, rfl, fun hn => ?_⟩, ?_, h5⟩
  · obtain ⟨b, off, e, hb, hc⟩ := h6 hn
    exact ⟨b, off, e, hb, hb, hc⟩
  · have hb : Try.prog.bytesOf pI = 24 := by kernel_rfl
    rw [hb] at h4
    exact h4

/-- Imports that came in as an argument. -/
theorem open_ims {r : Reach} {b0 : Nat} {v : Value} {d : DataW H} {ps : List MemPlace} (hval : Value.okWide Try.prog w r b0 23 v) (hd : DataW.Trod enc Try.prog w 0 (fun _ => true) true 23 v d ps) (hz : ∀ k ∈ d.weights Try.prog 23, k ≤ 140737488355328) :
    ∃ (A : Option Addr) (l : List Im) (c : Nat), v = .slice A l.length c ∧ ImV w.heap.size w (.slice A l.length c) l ∧ l.length * 24 ≤ 140737488355328 ∧ ∀ x ∈ l, ImOk x := by
  obtain ⟨a0, len, cap, rfl⟩ := okWide_slice Try.underlying23 hval
  obtain ⟨fuel, hf⟩ := hd
  obtain ⟨A, l, c, h1, h2, h3, h4⟩ := ims_trod hf hz
  simp [Value.cells] at h1
  obtain ⟨rfl, rfl, rfl⟩ := h1
  exact ⟨_, l, _, rfl, h2, h3, h4⟩

/-- What is known of a file that came in. -/
structure FlIn (w : World) (md : ByteArray) (key : Int) (Ai : Option Addr) (im : List Im) (ci : Nat) (Ae : Option Addr) (es : List Exx) (ce : Nat) : Prop where
  md : md.size ≤ 140737488355328
  key : 0 ≤ key ∧ key ≤ 4294967295
  ims : ImV w.heap.size w (.slice Ai im.length ci) im
  imn : im.length * 24 ≤ 140737488355328
  imo : ∀ x ∈ im, ImOk x
  exs : ExpV w.heap.size w (.slice Ae es.length ce) es
  exn : es.length * 64 ≤ 140737488355328
  exo : ∀ e ∈ es, e.1.nm.size ≤ 140737488355328 ∧ e.1.ps.length * 16 ≤ 140737488355328 ∧ ExOk e.1

end
end Go.Proofs.Ytdakooipelligaa
