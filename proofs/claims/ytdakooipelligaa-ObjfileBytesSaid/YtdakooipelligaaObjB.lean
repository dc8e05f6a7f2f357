/- Objfile: objects in memory; an object as a law's argument. -/
import Derived.Test.YtdakooipelligaaObjA
import Derived.Test.YtdakooipelligaaLstV
import Derived.Test.YtdakooipelligaaSymE
namespace Go.Proofs.Ytdakooipelligaa
open Go.ChangeShapes Go.WideShapes Go.ChangeAt Go.RowKit
set_option linter.unusedVariables false
set_option linter.unusedSimpArgs false
set_option maxRecDepth 100000

abbrev oT : TypeId := 28

abbrev qT : TypeId := 34

abbrev fxT : TypeId := 53

abbrev sgT : TypeId := 45

abbrev u32T : TypeId := 22

def fxCells (f : Fx) : List Value := [.int .i64 f.pl, .int .i64 f.kd, .int .i64 f.md, .int .i64 f.vl]

def sgCells (s : Sg) : List Value := [.int .i64 s.st, .int .i64 s.pd]

def u32Cells (z : Int) : List Value := [.int .u32 z]

def zFx : Fx := ⟨0, 0, 0, 0⟩

def zSg : Sg := ⟨0, 0⟩

instance inhabFx : Inhabited Fx := ⟨zFx⟩

instance inhabSg : Inhabited Sg := ⟨zSg⟩

/-- A fixup, cell by cell. -/
theorem fx_at {B : Nat} {w : World} {l : List Fx} {A : Option Addr} {c : Nat} (h : LstV fxCells B w (.slice A l.length c) l) {t : Nat} (ht : t < l.length) :
    ∃ b off, A = some ⟨b, off, none⟩ ∧ b < w.heap.size ∧ w.cell? ⟨b, off + t * 4, none⟩ = some (.int .i64 (l.getD t zFx).pl) ∧ w.cell? ⟨b, off + t * 4 + 1, none⟩ = some (.int .i64 (l.getD t zFx).kd) ∧
      w.cell? ⟨b, off + t * 4 + 2, none⟩ = some (.int .i64 (l.getD t zFx).md) ∧ w.cell? ⟨b, off + t * 4 + 3, none⟩ = some (.int .i64 (l.getD t zFx).vl) := by
  obtain ⟨b, off, e, hb, hc⟩ := h.at (k := 4) (fun _ => rfl) zFx ht
  exact ⟨b, off, e, hb, hc 0 _ rfl, hc 1 _ rfl, hc 2 _ rfl, hc 3 _ rfl⟩

/-- A segment, cell by cell. -/
theorem sg_at {B : Nat} {w : World} {l : List Sg} {A : Option Addr} {c : Nat} (h : LstV sgCells B w (.slice A l.length c) l) {t : Nat} (ht : t < l.length) :
    ∃ b off, A = some ⟨b, off, none⟩ ∧ b < w.heap.size ∧ w.cell? ⟨b, off + t * 2, none⟩ = some (.int .i64 (l.getD t zSg).st) ∧ w.cell? ⟨b, off + t * 2 + 1, none⟩ = some (.int .i64 (l.getD t zSg).pd) := by
  obtain ⟨b, off, e, hb, hc⟩ := h.at (k := 2) (fun _ => rfl) zSg ht
  exact ⟨b, off, e, hb, hc 0 _ rfl, hc 1 _ rfl⟩

/-- Words that lie in memory are numbers that do. -/
theorem nums_of_lst {B : Nat} {w : World} {l : List Int} {A : Option Addr} {c : Nat} (h : LstV u32Cells B w (.slice A l.length c) l) : Nums .u32 w A l.length l := by
  refine ⟨rfl, fun hn => ?_⟩
  obtain ⟨b, off, e, hb, _⟩ := h.at (k := 1) (fun _ => rfl) 0 hn
  refine ⟨b, off, e, hb, fun j hj => ?_⟩
  obtain ⟨b', off', e', _, hc⟩ := h.at (k := 1) (fun _ => rfl) 0 hj
  rw [e] at e'
  injection e' with e'
  injection e' with e1 e2
  subst e1 e2
  have := hc 0 _ rfl
  rwa [Nat.mul_one, Nat.add_zero] at this

/-- What is known of an object that came in. -/
structure OjIn (w : World) (md : ByteArray) (key : Int) (Ai : Option Addr) (im : List Im) (ci : Nat) (Ac : Option Addr) (cd : List Int) (cc : Nat) (Af : Option Addr) (fx : List Fx) (cf : Nat) (As : Option Addr) (sg : List Sg) (cs : Nat) : Prop where
  md : md.size ≤ 140737488355328
  key : 0 ≤ key ∧ key ≤ 4294967295
  ims : ImV w.heap.size w (.slice Ai im.length ci) im
  imn : im.length * 24 ≤ 140737488355328
  imo : ∀ x ∈ im, ImOk x
  cds : Nums .u32 w Ac cd.length cd
  cdn : cd.length * 4 ≤ 140737488355328
  cdo : ∀ z ∈ cd, 0 ≤ z ∧ z ≤ 4294967295
  fxs : LstV fxCells w.heap.size w (.slice Af fx.length cf) fx
  fxn : fx.length * 32 ≤ 140737488355328
  sgs : LstV sgCells w.heap.size w (.slice As sg.length cs) sg
  sgn : sg.length * 16 ≤ 140737488355328

section
variable {H : Type} {enc : TypeId × Value → H} {w : World}

/-- A word of a slice. -/
theorem u32_trod {R n : Nat} {cs : List Value} {y : DataW H × List MemPlace} (h : DataW.trod enc Try.prog w 0 (fun _ => true) true n u32T cs = some y) :
    ∃ z : Int, cs = u32Cells z ∧ (0 ≤ z ∧ z ≤ 4294967295) := by
  obtain ⟨z1, hz1, _, hw1⟩ := DataW.trod_int Try.underlying22 h
  have m0 : IntKind.u32.min = 0 := by decide
  have m1 : IntKind.u32.max = 4294967295 := by decide
  simp [Lit.wf] at hw1
  exact ⟨z1, hz1, m0 ▸ hw1.1, m1 ▸ hw1.2⟩

/-- A fixup of a slice. -/
theorem fx_trod {R n : Nat} {cs : List Value} {y : DataW H × List MemPlace} (h : DataW.trod enc Try.prog w 0 (fun _ => true) true n fxT cs = some y) :
    ∃ x : Fx, cs = fxCells x ∧ True := by
  obtain ⟨xs, k, rfl, rfl, hcl, hxl, hf⟩ := DataW.trod_struct Try.underlying53 h
  have hc : Try.prog.cellsOf fxT = 4 := by kernel_rfl
  have c0 : Try.prog.cellsOf 3 = 1 := by kernel_rfl
  rw [hc] at hcl
  match xs, hxl, cs, hcl with
  | [y0, y1, y2, y3], _, [v0, v1, v2, v3], _ =>
    have g0 := hf 0 _ rfl
    have g1 := hf 1 _ rfl
    have g2 := hf 2 _ rfl
    have g3 := hf 3 _ rfl
    simp [c0] at g0 g1 g2 g3
    obtain ⟨z0, hz0, _, _⟩ := DataW.trod_int Try.underlying3 g0
    obtain ⟨z1, hz1, _, _⟩ := DataW.trod_int Try.underlying3 g1
    obtain ⟨z2, hz2, _, _⟩ := DataW.trod_int Try.underlying3 g2
    obtain ⟨z3, hz3, _, _⟩ := DataW.trod_int Try.underlying3 g3
    refine ⟨⟨z0, z1, z2, z3⟩, ?_, trivial⟩
    simp only [List.cons.injEq, and_true] at hz0 hz1 hz2 hz3
    rw [hz0, hz1, hz2, hz3]
    rfl

/-- A segment of a slice. -/
theorem sg_trod {R n : Nat} {cs : List Value} {y : DataW H × List MemPlace} (h : DataW.trod enc Try.prog w 0 (fun _ => true) true n sgT cs = some y) :
    ∃ x : Sg, cs = sgCells x ∧ True := by
  obtain ⟨xs, k, rfl, rfl, hcl, hxl, hf⟩ := DataW.trod_struct Try.underlying45 h
  have hc : Try.prog.cellsOf sgT = 2 := by kernel_rfl
  have c0 : Try.prog.cellsOf 3 = 1 := by kernel_rfl
  rw [hc] at hcl
  match xs, hxl, cs, hcl with
  | [y0, y1], _, [v0, v1], _ =>
    have g0 := hf 0 _ rfl
    have g1 := hf 1 _ rfl
    simp [c0] at g0 g1
    obtain ⟨z0, hz0, _, _⟩ := DataW.trod_int Try.underlying3 g0
    obtain ⟨z1, hz1, _, _⟩ := DataW.trod_int Try.underlying3 g1
    refine ⟨⟨z0, z1⟩, ?_, trivial⟩
    simp only [List.cons.injEq, and_true] at hz0 hz1
    rw [hz0, hz1]
    rfl

/-- The cells of an object. -/
theorem obj_trod {n : Nat} {cs : List Value} {y : DataW H × List MemPlace} (h : DataW.trod enc Try.prog w 0 (fun _ => true) true n oT cs = some y) (hz : ∀ k ∈ y.1.weights Try.prog oT, k ≤ 140737488355328) :
    ∃ (md : ByteArray) (key : Int) (Ai : Option Addr) (im : List Im) (ci : Nat) (Ac : Option Addr) (cd : List Int) (cc : Nat) (Af : Option Addr) (fx : List Fx) (cf : Nat) (As : Option Addr) (sg : List Sg) (cs' : Nat) (dt ex bd : Int), cs = [.string md, .int .u32 key, .slice Ai im.length ci, .slice Ac cd.length cc, .slice Af fx.length cf, .slice As sg.length cs', .int .i64 dt, .int .i64 ex, .int .i64 bd] ∧ OjIn w md key Ai im ci Ac cd cc Af fx cf As sg cs' := by
  obtain ⟨xs, k, rfl, rfl, hcl, hxl, hf⟩ := DataW.trod_struct Try.underlying28 h
  have hc : Try.prog.cellsOf oT = 9 := by kernel_rfl
  have c0 : Try.prog.cellsOf 9 = 1 := by kernel_rfl
  have c1 : Try.prog.cellsOf 22 = 1 := by kernel_rfl
  have c2 : Try.prog.cellsOf 23 = 1 := by kernel_rfl
  have c3 : Try.prog.cellsOf 24 = 1 := by kernel_rfl
  have c4 : Try.prog.cellsOf 25 = 1 := by kernel_rfl
  have c5 : Try.prog.cellsOf 26 = 1 := by kernel_rfl
  have c6 : Try.prog.cellsOf 3 = 1 := by kernel_rfl
  have b3 : Try.prog.bytesOf u32T = 4 := by kernel_rfl
  have b4 : Try.prog.bytesOf fxT = 32 := by kernel_rfl
  have b5 : Try.prog.bytesOf sgT = 16 := by kernel_rfl
  rw [hc] at hcl
  match xs, hxl, cs, hcl with
  | [y0, y1, y2, y3, y4, y5, y6, y7, y8], _, [v0, v1, v2, v3, v4, v5, v6, v7, v8], _ =>
    have g0 := hf 0 _ rfl
    have g1 := hf 1 _ rfl
    have g2 := hf 2 _ rfl
    have g3 := hf 3 _ rfl
    have g4 := hf 4 _ rfl
    have g5 := hf 5 _ rfl
    have g6 := hf 6 _ rfl
    have g7 := hf 7 _ rfl
    have g8 := hf 8 _ rfl
    have w0 := weights_part Try.underlying28 hz (i := 0) rfl rfl
    have w2 := weights_part Try.underlying28 hz (i := 2) rfl rfl
    have w3 := weights_part Try.underlying28 hz (i := 3) rfl rfl
    have w4 := weights_part Try.underlying28 hz (i := 4) rfl rfl
    have w5 := weights_part Try.underlying28 hz (i := 5) rfl rfl
    simp [c0, c1, c2, c3, c4, c5, c6] at g0 g1 g2 g3 g4 g5 g6 g7 g8
    obtain ⟨s, hz0, hs, _⟩ := DataW.trod_string Try.underlying9 g0
    obtain ⟨z1, hz1, _, hw1⟩ := DataW.trod_int Try.underlying22 g1
    obtain ⟨Ai, im, ci, hz2, hi, hin, hio⟩ := ims_trod g2 w2
    obtain ⟨Ac, cd, cc, hz3, hcv, _, hcn, hco⟩ := open_lst (f := u32Cells) (sz := 1) (Good := fun z : Int => 0 ≤ z ∧ z ≤ 4294967295) Try.underlying24 (fun _ => rfl) c1 (by decide) (fun _ _ _ h _ => u32_trod (R := 0) h) g3 w3
    obtain ⟨Af, fx, cf, hz4, hfv, _, hfn, _⟩ := open_lst (f := fxCells) (sz := 4) (Good := fun _ : Fx => True) Try.underlying25 (fun _ => rfl) (by kernel_rfl) (by decide) (fun _ _ _ h _ => fx_trod (R := 0) h) g4 w4
    obtain ⟨As, sg, cs', hz5, hsv, _, hsn, _⟩ := open_lst (f := sgCells) (sz := 2) (Good := fun _ : Sg => True) Try.underlying26 (fun _ => rfl) (by kernel_rfl) (by decide) (fun _ _ _ h _ => sg_trod (R := 0) h) g5 w5
    obtain ⟨dt, hz6, _, _⟩ := DataW.trod_int Try.underlying3 g6
    obtain ⟨ex, hz7, _, _⟩ := DataW.trod_int Try.underlying3 g7
    obtain ⟨bd, hz8, _, _⟩ := DataW.trod_int Try.underlying3 g8
    have m0 : IntKind.u32.min = 0 := by decide
    have m1 : IntKind.u32.max = 4294967295 := by decide
    simp [Lit.wf] at hw1
    subst hs
    rw [b3] at hcn
    rw [b4] at hfn
    rw [b5] at hsn
    refine ⟨s, z1, Ai, im, ci, Ac, cd, cc, Af, fx, cf, As, sg, cs', dt, ex, bd, ?_, size_weight w0, ⟨m0 ▸ hw1.1, m1 ▸ hw1.2⟩, hi, hin, hio, nums_of_lst hcv, hcn, hco, hfv, hfn, hsv, hsn⟩
    simp only [List.cons.injEq, and_true] at hz0 hz1 hz2 hz3 hz4 hz5 hz6 hz7 hz8
    rw [hz0, hz1, hz2, hz3, hz4, hz5, hz6, hz7, hz8]

/-- An object that came in as an argument. -/
theorem open_object {r : Reach} {b0 : Nat} {v : Value} {d : DataW H} {ps : List MemPlace} (hval : Value.okWide Try.prog w r b0 oT v) (hd : DataW.Trod enc Try.prog w 0 (fun _ => true) true oT v d ps) (hz : ∀ k ∈ d.weights Try.prog oT, k ≤ 140737488355328) :
    ∃ (md : ByteArray) (key : Int) (Ai : Option Addr) (im : List Im) (ci : Nat) (Ac : Option Addr) (cd : List Int) (cc : Nat) (Af : Option Addr) (fx : List Fx) (cf : Nat) (As : Option Addr) (sg : List Sg) (cs : Nat) (dt ex bd : Int), v = .agg #[.string md, .int .u32 key, .slice Ai im.length ci, .slice Ac cd.length cc, .slice Af fx.length cf, .slice As sg.length cs, .int .i64 dt, .int .i64 ex, .int .i64 bd] ∧ OjIn w md key Ai im ci Ac cd cc Af fx cf As sg cs := by
  obtain ⟨cs0, rfl, hsz⟩ := okWide_struct Try.underlying28 hval
  obtain ⟨fuel, hf0⟩ := hd
  obtain ⟨md, key, Ai, im, ci, Ac, cd, cc, Af, fx, cf, As, sg, cs, dt, ex, bd, h1, h2⟩ := obj_trod hf0 hz
  refine ⟨md, key, Ai, im, ci, Ac, cd, cc, Af, fx, cf, As, sg, cs, dt, ex, bd, ?_, h2⟩
  congr 1
  apply Array.ext'
  simpa [Value.cells] using h1

end
end Go.Proofs.Ytdakooipelligaa
