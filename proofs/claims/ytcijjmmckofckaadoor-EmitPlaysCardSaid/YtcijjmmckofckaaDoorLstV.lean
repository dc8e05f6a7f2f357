/- Lists of structs of plain cells in memory, over any program: those that came in, those that were made; read, kept, opened; grown beside a codec.Reader. -/
import Derived.Test.YtcijjmmckofckaaDoorRowLib
import Derived.Test.YtcijjmmckofckaaDoorOpenRow
namespace Go.Proofs.YtcijjmmckofckaaDoor
open Go.ChangeShapes Go.WideShapes Go.ChangeAt Go.RowKit
set_option linter.unusedVariables false
set_option linter.unusedSimpArgs false

section
variable {α : Type} {f : α → List Value}

/-- A list that lies in memory, below block B: element by element its cells. -/
def LstV (f : α → List Value) (B : Nat) (w : World) (v : Value) (l : List α) : Prop :=
  ∃ A c, v = .slice A l.length c ∧ (l ≠ [] → ∃ b off, A = some ⟨b, off, none⟩ ∧ b < B ∧ b < w.heap.size ∧ ∀ j u, (l.flatMap f)[j]? = some u → w.cell? ⟨b, off + j, none⟩ = some u)

theorem LstV.form {B : Nat} {w : World} {v : Value} {l : List α} (h : LstV f B w v l) : ∃ A c, v = .slice A l.length c := by
  obtain ⟨A, c, h1, _⟩ := h
  exact ⟨A, c, h1⟩

theorem LstV.keep {B B' : Nat} {w w' : World} {v : Value} {l : List α} (h : LstV f B w v l) (hB : B ≤ B') (hs : w.heap.size ≤ w'.heap.size) (hk : ∀ b, b < w.heap.size → b < B → w'.heap[b]? = w.heap[b]?) : LstV f B' w' v l := by
  obtain ⟨A, c, h1, h2⟩ := h
  refine ⟨A, c, h1, fun hn => ?_⟩
  obtain ⟨b, off, rfl, hb, hb2, hc⟩ := h2 hn
  refine ⟨b, off, rfl, Nat.lt_of_lt_of_le hb hB, Nat.lt_of_lt_of_le hb2 hs, fun j u hj => ?_⟩
  have := hc j u hj
  simp only [World.cell?] at this ⊢
  rw [hk b hb2 hb]
  exact this

theorem LstV.below {B : Nat} {w w' : World} {v : Value} {l : List α} (h : LstV f B w v l) (hb : Below w.heap.size w w') : LstV f B w' v l :=
  h.keep (Nat.le_refl _) hb.size (fun b hb' _ => hb.block b hb')

theorem LstV.more {B B' : Nat} {w : World} {v : Value} {l : List α} (h : LstV f B w v l) (hB : B ≤ B') : LstV f B' w v l :=
  h.keep hB (Nat.le_refl _) (fun _ _ _ => rfl)

/-- Beside a call that changes only blocks from B on. -/
theorem LstV.beside {S : Nat → Prop} {B : Nat} {w w' : World} {v : Value} {l : List α} (h : LstV f B w v l) (k : KeptS S w w') (hS : ∀ b, S b → B ≤ b) : LstV f B w' v l :=
  h.keep (Nat.le_refl _) k.size (fun b hb hB => k.block b hb (fun hs => by have := hS b hs; omega))

/-- All that lies in memory lies below the next block. -/
theorem LstV.toV {B : Nat} {w : World} {v : Value} {l : List α} (h : LstV f B w v l) : LstV f w.heap.size w v l := by
  obtain ⟨A, c, h1, h2⟩ := h
  refine ⟨A, c, h1, fun hn => ?_⟩
  obtain ⟨b, off, e, _, hb2, hc⟩ := h2 hn
  exact ⟨b, off, e, hb2, hb2, hc⟩

theorem LstV.nil (f : α → List Value) (B : Nat) (w : World) (A : Option Addr) (c : Nat) : LstV f B w (.slice A 0 c) [] := ⟨A, c, rfl, fun h => absurd rfl h⟩

/-- An own row is such a list. -/
theorem LstV.own {k : Nat} (hk : ∀ x, (f x).length = k) (h1 : 0 < k) (d : α) {w : World} {e : TypeId} {v : Value} {l : List α} {B' : Nat} (h : w.ownsRow B' e k v l.length (l.flatMap f)) : LstV f w.heap.size w v l := by
  obtain ⟨A, c, rfl⟩ := row_form h
  refine ⟨A, c, rfl, fun hn => ?_⟩
  have hl : 0 < l.length := List.length_pos_iff.2 hn
  obtain ⟨hcap, g, rfl, hB, hg, _⟩ := row_cell (f := f) hk d h rfl hl
  exact ⟨g, 0, rfl, hg, hg, fun j u hj => by
    have := World.ownsRow.cells h (g := g) rfl j u hj
    simpa [Go.WideShapes.add_plain] using this⟩

/-- An element, cell by cell. -/
theorem LstV.at {k : Nat} (hk : ∀ x, (f x).length = k) (d : α) {B : Nat} {w : World} {l : List α} {A : Option Addr} {c : Nat} (h : LstV f B w (.slice A l.length c) l) {t : Nat} (ht : t < l.length) :
    ∃ b off, A = some ⟨b, off, none⟩ ∧ b < w.heap.size ∧ ∀ j u, (f (l.getD t d))[j]? = some u → w.cell? ⟨b, off + (t * k + j), none⟩ = some u := by
  obtain ⟨A', c', h1, h2⟩ := h
  injection h1 with h1 _ _
  subst h1
  obtain ⟨b, off, rfl, _, hb, hc⟩ := h2 (fun e => by rw [e] at ht; exact absurd ht (by simp))
  refine ⟨b, off, rfl, hb, fun j u hj => hc _ _ ?_⟩
  have hjk : j < k := by
    have := (List.getElem?_eq_some_iff.1 hj).1
    rwa [hk] at this
  exact (flat_at f k hk d l t j ht hjk).trans hj

/-- A list that came in, its elements opened by a lemma of one. -/
theorem open_lst {H : Type} {enc : TypeId × Value → H} {w : World} {P : Program} [Inhabited α] {R sz : Nat} {t e : TypeId} {fuel : Nat} {cs : List Value} {x : DataW H × List MemPlace} {Good : α → Prop}
    (ht : P.underlying t = some (.slice e)) (hsz : ∀ o, (f o).length = sz) (hce : P.cellsOf e = sz) (h1 : 0 < sz)
    (one : ∀ n cs' y, DataW.trod enc P w 0 (fun _ => true) true n e cs' = some y → (∀ k ∈ y.1.weights P e, k ≤ R) → ∃ o : α, cs' = f o ∧ Good o)
    (h : DataW.trod enc P w 0 (fun _ => true) true fuel t cs = some x) (hz : ∀ k ∈ x.1.weights P t, k ≤ R) :
    ∃ (A : Option Addr) (l : List α) (c : Nat), cs = [.slice A l.length c] ∧ LstV f w.heap.size w (.slice A l.length c) l ∧ l.length ≤ maxLen ∧ l.length * P.bytesOf e ≤ R ∧ ∀ o ∈ l, Good o := by
  obtain ⟨A, l, c, e1, _, e3, e4, e5, e6⟩ := open_row ht hsz hce h1 one h hz
  exact ⟨A, l, c, e1, ⟨A, c, rfl, fun hn => by
    obtain ⟨b, off, e, hb, hc⟩ := e6 hn
    exact ⟨b, off, e, hb, hb, hc⟩⟩, e3, e4, e5⟩

/-- One element more in an own row, as a list. -/
theorem row_snoc {w' : World} {B : Nat} {e : TypeId} {sz : Nat} {v' : Value} {l : List α} {x : α} (ho : w'.ownsRow B e sz v' (l.length + 1) (l.flatMap f ++ f x)) : w'.ownsRow B e sz v' (l ++ [x]).length ((l ++ [x]).flatMap f) := by
  rw [List.length_append, List.flatMap_append, List.length_singleton, List.flatMap_singleton]
  exact ho
end
end Go.Proofs.YtcijjmmckofckaaDoor
