/- Segments (api.Segment) as plain data; how they lie in memory; a law's argument. No function of any package. -/
import Derived.Test.YtcijjmmckofckaaDoorLstV
namespace Go.Proofs.YtcijjmmckofckaaDoor
open Go.ChangeShapes Go.WideShapes Go.ChangeAt Go.RowKit
set_option linter.unusedVariables false
set_option linter.unusedSimpArgs false
set_option maxRecDepth 100000

/-- A segment. -/
structure Sg where
  st : Int
  pd : Int

abbrev sgT : TypeId := 91

def sgCells (s : Sg) : List Value := [.int .i64 s.st, .int .i64 s.pd]

def zSg : Sg := ⟨0, 0⟩

instance inhabSg : Inhabited Sg := ⟨zSg⟩

/-- A segment, cell by cell. -/
theorem sg_at {B : Nat} {w : World} {l : List Sg} {A : Option Addr} {c : Nat} (h : LstV sgCells B w (.slice A l.length c) l) {t : Nat} (ht : t < l.length) :
    ∃ b off, A = some ⟨b, off, none⟩ ∧ b < w.heap.size ∧ w.cell? ⟨b, off + t * 2, none⟩ = some (.int .i64 (l.getD t zSg).st) ∧ w.cell? ⟨b, off + t * 2 + 1, none⟩ = some (.int .i64 (l.getD t zSg).pd) := by
  obtain ⟨b, off, e, hb, hc⟩ := h.at (k := 2) (fun _ => rfl) zSg ht
  exact ⟨b, off, e, hb, hc 0 _ rfl, hc 1 _ rfl⟩

theorem sgInfo : (Tryd.prog.info? sgT).map (fun i => (i.zero, i.size, i.bytes)) = some (some (.agg #[.int .i64 0, .int .i64 0]), 2, 16) := by kernel_rfl

section
variable {H : Type} {enc : TypeId × Value → H} {w : World}

/-- A segment of a slice. -/
theorem sg_trod {R n : Nat} {cs : List Value} {y : DataW H × List MemPlace} (h : DataW.trod enc Tryd.prog w 0 (fun _ => true) true n sgT cs = some y) :
    ∃ x : Sg, cs = sgCells x ∧ True := by
  obtain ⟨xs, k, rfl, rfl, hcl, hxl, hf⟩ := DataW.trod_struct Tryd.underlying91 h
  have hc : Tryd.prog.cellsOf sgT = 2 := by kernel_rfl
  have c0 : Tryd.prog.cellsOf 3 = 1 := by kernel_rfl
  rw [hc] at hcl
  match xs, hxl, cs, hcl with
  | [y0, y1], _, [v0, v1], _ =>
    have g0 := hf 0 _ rfl
    have g1 := hf 1 _ rfl
    simp [c0] at g0 g1
    obtain ⟨z0, hz0, _, _⟩ := DataW.trod_int Tryd.underlying3 g0
    obtain ⟨z1, hz1, _, _⟩ := DataW.trod_int Tryd.underlying3 g1
    refine ⟨⟨z0, z1⟩, ?_, trivial⟩
    simp only [List.cons.injEq, and_true] at hz0 hz1
    rw [hz0, hz1]
    rfl

/-- Segments of a slice that came in. -/
theorem segs_trod {R n : Nat} {cs : List Value} {y : DataW H × List MemPlace} (h : DataW.trod enc Tryd.prog w 0 (fun _ => true) true n 34 cs = some y) (hz : ∀ k ∈ y.1.weights Tryd.prog 34, k ≤ R) :
    ∃ (A : Option Addr) (l : List Sg) (c : Nat), cs = [.slice A l.length c] ∧ LstV sgCells w.heap.size w (.slice A l.length c) l ∧ l.length * 16 ≤ R := by
  obtain ⟨A, l, c, h1, h2, _, h4, _⟩ := open_lst (f := sgCells) (sz := 2) (Good := fun _ : Sg => True) Tryd.underlying34 (fun _ => rfl) (by kernel_rfl) (by decide) (fun _ _ _ h _ => sg_trod (R := 0) h) h hz
  have hb : Tryd.prog.bytesOf sgT = 16 := by kernel_rfl
  rw [hb] at h4
  exact ⟨A, l, c, h1, h2, h4⟩

/-- Segments that came in as an argument. -/
theorem open_segs {r : Reach} {b0 : Nat} {v : Value} {d : DataW H} {ps : List MemPlace} (hval : Value.okWide Tryd.prog w r b0 34 v) (hd : DataW.Trod enc Tryd.prog w 0 (fun _ => true) true 34 v d ps) (hz : ∀ k ∈ d.weights Tryd.prog 34, k ≤ 140737488355328) :
    ∃ (A : Option Addr) (l : List Sg) (c : Nat), v = .slice A l.length c ∧ LstV sgCells w.heap.size w (.slice A l.length c) l ∧ l.length * 16 ≤ 140737488355328 := by
  obtain ⟨a0, len, cap, rfl⟩ := okWide_slice Tryd.underlying34 hval
  obtain ⟨fuel, hf⟩ := hd
  obtain ⟨A, l, c, h1, h2, h3⟩ := segs_trod hf hz
  simp [Value.cells] at h1
  obtain ⟨rfl, rfl, rfl⟩ := h1
  exact ⟨_, l, _, rfl, h2, h3⟩

end
end Go.Proofs.YtcijjmmckofckaaDoor
