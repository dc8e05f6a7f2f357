/- Package cpu and its answers: a processor, plain; its cells; what else stays. -/
import Derived.Test.YtinpdgjbiimgkaaDoorLift
import Derived.Test.YtinpdgjbiimgkaaDoorBlocks
import Derived.Test.YtinpdgjbiimgkaaDoorLaid
import Derived.Test.YtinpdgjbiimgkaaDoorSlices
import Derived.Lib.Hide
import Derived.Deep.QuietTactic
import Derived.BigQuiet
import Derived.BigRegion
import Derived.Handy
import Derived.Deep.RegionHeld3
import Derived.StillTailTactics
import Derived.Laws.Rows
import Derived.Laws.Tables
namespace Go.Proofs.YtinpdgjbiimgkaaDoor
open Go.ChangeShapes Go.WideShapes Go.ChangeAt Go.RowKit
set_option linter.unusedVariables false

/-- A processor. -/
structure Cp where
  r : List Int
  pc : Int
  epc : Int
  cause : Int
  st : Int
  why : Int
  steps : Int
  taken : Int
  en : Int
  ve : Int
  gu : Int
  li : Int

/-- Its cells: the registers, its numbers, what went out, its setup, what is put in. -/
def cpuCells (c : Cp) (o i : Value) : Array Value := ((c.r.map (Value.int .u32)) ++ [.int .u32 c.pc, .int .u32 c.epc, .int .u32 c.cause, .int .i64 c.st, .int .i64 c.why, .int .i64 c.steps, .int .i64 c.taken, o, .int .u32 c.en, .int .u32 c.ve, .int .u32 c.gu, .int .u32 c.li, i]).toArray

theorem cpuCells_size {c : Cp} (h : c.r.length = 16) (o i : Value) : (cpuCells c o i).size = 29 := by
  simp [cpuCells, h]

theorem cpuCells_reg {c : Cp} (h : c.r.length = 16) (o i : Value) {k : Nat} (hk : k < 16) : (cpuCells c o i)[k]? = some (.int .u32 (c.r.getD k 0)) := by
  simp [cpuCells, List.getElem?_append, List.getD, h, hk]

theorem cpuCells_setReg {c : Cp} (h : c.r.length = 16) (o i : Value) {k : Nat} (hk : k < 16) (v : Int) : (cpuCells c o i).setIfInBounds k (.int .u32 v) = cpuCells { c with r := c.r.set k v } o i := by
  simp [cpuCells, h, hk]

theorem cpuCells_pc {c : Cp} (h : c.r.length = 16) (o i : Value) : (cpuCells c o i)[16]? = some (.int .u32 c.pc) := by
  simp [cpuCells, h]

theorem cpuCells_set_pc {c : Cp} (h : c.r.length = 16) (o i : Value) (v : Int) : (cpuCells c o i).setIfInBounds 16 (.int .u32 v) = cpuCells { c with pc := v } o i := by
  simp [cpuCells, h]

theorem cpuCells_epc {c : Cp} (h : c.r.length = 16) (o i : Value) : (cpuCells c o i)[17]? = some (.int .u32 c.epc) := by
  simp [cpuCells, h]

theorem cpuCells_set_epc {c : Cp} (h : c.r.length = 16) (o i : Value) (v : Int) : (cpuCells c o i).setIfInBounds 17 (.int .u32 v) = cpuCells { c with epc := v } o i := by
  simp [cpuCells, h]

theorem cpuCells_cause {c : Cp} (h : c.r.length = 16) (o i : Value) : (cpuCells c o i)[18]? = some (.int .u32 c.cause) := by
  simp [cpuCells, h]

theorem cpuCells_set_cause {c : Cp} (h : c.r.length = 16) (o i : Value) (v : Int) : (cpuCells c o i).setIfInBounds 18 (.int .u32 v) = cpuCells { c with cause := v } o i := by
  simp [cpuCells, h]

theorem cpuCells_st {c : Cp} (h : c.r.length = 16) (o i : Value) : (cpuCells c o i)[19]? = some (.int .i64 c.st) := by
  simp [cpuCells, h]

theorem cpuCells_set_st {c : Cp} (h : c.r.length = 16) (o i : Value) (v : Int) : (cpuCells c o i).setIfInBounds 19 (.int .i64 v) = cpuCells { c with st := v } o i := by
  simp [cpuCells, h]

theorem cpuCells_why {c : Cp} (h : c.r.length = 16) (o i : Value) : (cpuCells c o i)[20]? = some (.int .i64 c.why) := by
  simp [cpuCells, h]

theorem cpuCells_set_why {c : Cp} (h : c.r.length = 16) (o i : Value) (v : Int) : (cpuCells c o i).setIfInBounds 20 (.int .i64 v) = cpuCells { c with why := v } o i := by
  simp [cpuCells, h]

theorem cpuCells_steps {c : Cp} (h : c.r.length = 16) (o i : Value) : (cpuCells c o i)[21]? = some (.int .i64 c.steps) := by
  simp [cpuCells, h]

theorem cpuCells_set_steps {c : Cp} (h : c.r.length = 16) (o i : Value) (v : Int) : (cpuCells c o i).setIfInBounds 21 (.int .i64 v) = cpuCells { c with steps := v } o i := by
  simp [cpuCells, h]

theorem cpuCells_taken {c : Cp} (h : c.r.length = 16) (o i : Value) : (cpuCells c o i)[22]? = some (.int .i64 c.taken) := by
  simp [cpuCells, h]

theorem cpuCells_set_taken {c : Cp} (h : c.r.length = 16) (o i : Value) (v : Int) : (cpuCells c o i).setIfInBounds 22 (.int .i64 v) = cpuCells { c with taken := v } o i := by
  simp [cpuCells, h]

theorem cpuCells_en {c : Cp} (h : c.r.length = 16) (o i : Value) : (cpuCells c o i)[24]? = some (.int .u32 c.en) := by
  simp [cpuCells, h]

theorem cpuCells_set_en {c : Cp} (h : c.r.length = 16) (o i : Value) (v : Int) : (cpuCells c o i).setIfInBounds 24 (.int .u32 v) = cpuCells { c with en := v } o i := by
  simp [cpuCells, h]

theorem cpuCells_ve {c : Cp} (h : c.r.length = 16) (o i : Value) : (cpuCells c o i)[25]? = some (.int .u32 c.ve) := by
  simp [cpuCells, h]

theorem cpuCells_set_ve {c : Cp} (h : c.r.length = 16) (o i : Value) (v : Int) : (cpuCells c o i).setIfInBounds 25 (.int .u32 v) = cpuCells { c with ve := v } o i := by
  simp [cpuCells, h]

theorem cpuCells_gu {c : Cp} (h : c.r.length = 16) (o i : Value) : (cpuCells c o i)[26]? = some (.int .u32 c.gu) := by
  simp [cpuCells, h]

theorem cpuCells_set_gu {c : Cp} (h : c.r.length = 16) (o i : Value) (v : Int) : (cpuCells c o i).setIfInBounds 26 (.int .u32 v) = cpuCells { c with gu := v } o i := by
  simp [cpuCells, h]

theorem cpuCells_li {c : Cp} (h : c.r.length = 16) (o i : Value) : (cpuCells c o i)[27]? = some (.int .u32 c.li) := by
  simp [cpuCells, h]

theorem cpuCells_set_li {c : Cp} (h : c.r.length = 16) (o i : Value) (v : Int) : (cpuCells c o i).setIfInBounds 27 (.int .u32 v) = cpuCells { c with li := v } o i := by
  simp [cpuCells, h]

theorem cpuCells_o {c : Cp} (h : c.r.length = 16) (o i : Value) : (cpuCells c o i)[23]? = some (o) := by
  simp [cpuCells, h]

theorem cpuCells_set_o {c : Cp} (h : c.r.length = 16) (o i v : Value) : (cpuCells c o i).setIfInBounds 23 v = cpuCells c v i := by
  simp [cpuCells, h]

theorem cpuCells_i {c : Cp} (h : c.r.length = 16) (o i : Value) : (cpuCells c o i)[28]? = some (i) := by
  simp [cpuCells, h]

/-- Block p is the processor c. -/
structure CpuAt (w : World) (p : Nat) (t : TypeId) (c : Cp) (o i : Value) : Prop where
  whole : Whole w p t (cpuCells c o i)
  len : c.r.length = 16

section
variable {w w' : World} {p : Nat} {t : TypeId} {c : Cp} {o i : Value}

theorem CpuAt.lt (h : CpuAt w p t c o i) : p < w.heap.size := h.whole.lt

theorem CpuAt.free (h : CpuAt w p t c o i) (k : Nat) : w.frozen? ⟨p, k, none⟩ = false := h.whole.free k

theorem CpuAt.reg (h : CpuAt w p t c o i) {k : Nat} (hk : k < 16) : w.cell? ⟨p, k, none⟩ = some (.int .u32 (c.r.getD k 0)) := (h.whole.cell k).trans (cpuCells_reg h.len o i hk)

theorem CpuAt.set_reg (h : CpuAt w p t c o i) {k : Nat} (hk : k < 16) (v : Int) : CpuAt (w.setCell ⟨p, k, none⟩ (.int .u32 v)) p t { c with r := c.r.set k v } o i :=
  ⟨by have := h.whole.store k (.int .u32 v); rwa [cpuCells_setReg h.len o i hk v] at this, by simp [h.len]⟩

theorem CpuAt.alloc (h : CpuAt w p t c o i) (ob : Obj) : CpuAt (w.alloc ob) p t c o i := ⟨h.whole.alloc ob, h.len⟩

theorem CpuAt.drawn (h : CpuAt w p t c o i) (n : Nat) : CpuAt (w.drewN n) p t c o i := ⟨h.whole.drawn n, h.len⟩

theorem CpuAt.drew (h : CpuAt w p t c o i) : CpuAt w.drew p t c o i := ⟨h.whole, h.len⟩

theorem CpuAt.below {B : Nat} (h : CpuAt w p t c o i) (hb : Below B w w') (hp : p < B) : CpuAt w' p t c o i := ⟨h.whole.below hb hp, h.len⟩

theorem CpuAt.far (h : CpuAt w p t c o i) {a : Addr} (ha : p ≠ a.block) (u : Value) : CpuAt (w.setCell a u) p t c o i := ⟨h.whole.far ha u, h.len⟩

theorem CpuAt.made (w : World) (t : TypeId) (c : Cp) (o i : Value) (hl : c.r.length = 16) (g : Nat) (hg : g = w.heap.size) : CpuAt (w.alloc (.cells (cpuCells c o i) t)) g t c o i := ⟨Whole.made w t _ g hg, hl⟩

theorem CpuAt.pc (h : CpuAt w p t c o i) : w.cell? ⟨p, 16, none⟩ = some (.int .u32 c.pc) := (h.whole.cell 16).trans (cpuCells_pc h.len o i)

theorem CpuAt.set_pc (h : CpuAt w p t c o i) (v : Int) : CpuAt (w.setCell ⟨p, 16, none⟩ (.int .u32 v)) p t { c with pc := v } o i :=
  ⟨by have := h.whole.store 16 (.int .u32 v); rwa [cpuCells_set_pc h.len o i v] at this, h.len⟩

theorem CpuAt.epc (h : CpuAt w p t c o i) : w.cell? ⟨p, 17, none⟩ = some (.int .u32 c.epc) := (h.whole.cell 17).trans (cpuCells_epc h.len o i)

theorem CpuAt.set_epc (h : CpuAt w p t c o i) (v : Int) : CpuAt (w.setCell ⟨p, 17, none⟩ (.int .u32 v)) p t { c with epc := v } o i :=
  ⟨by have := h.whole.store 17 (.int .u32 v); rwa [cpuCells_set_epc h.len o i v] at this, h.len⟩

theorem CpuAt.cause (h : CpuAt w p t c o i) : w.cell? ⟨p, 18, none⟩ = some (.int .u32 c.cause) := (h.whole.cell 18).trans (cpuCells_cause h.len o i)

theorem CpuAt.set_cause (h : CpuAt w p t c o i) (v : Int) : CpuAt (w.setCell ⟨p, 18, none⟩ (.int .u32 v)) p t { c with cause := v } o i :=
  ⟨by have := h.whole.store 18 (.int .u32 v); rwa [cpuCells_set_cause h.len o i v] at this, h.len⟩

theorem CpuAt.st (h : CpuAt w p t c o i) : w.cell? ⟨p, 19, none⟩ = some (.int .i64 c.st) := (h.whole.cell 19).trans (cpuCells_st h.len o i)

theorem CpuAt.set_st (h : CpuAt w p t c o i) (v : Int) : CpuAt (w.setCell ⟨p, 19, none⟩ (.int .i64 v)) p t { c with st := v } o i :=
  ⟨by have := h.whole.store 19 (.int .i64 v); rwa [cpuCells_set_st h.len o i v] at this, h.len⟩

theorem CpuAt.why (h : CpuAt w p t c o i) : w.cell? ⟨p, 20, none⟩ = some (.int .i64 c.why) := (h.whole.cell 20).trans (cpuCells_why h.len o i)

theorem CpuAt.set_why (h : CpuAt w p t c o i) (v : Int) : CpuAt (w.setCell ⟨p, 20, none⟩ (.int .i64 v)) p t { c with why := v } o i :=
  ⟨by have := h.whole.store 20 (.int .i64 v); rwa [cpuCells_set_why h.len o i v] at this, h.len⟩

theorem CpuAt.steps (h : CpuAt w p t c o i) : w.cell? ⟨p, 21, none⟩ = some (.int .i64 c.steps) := (h.whole.cell 21).trans (cpuCells_steps h.len o i)

theorem CpuAt.set_steps (h : CpuAt w p t c o i) (v : Int) : CpuAt (w.setCell ⟨p, 21, none⟩ (.int .i64 v)) p t { c with steps := v } o i :=
  ⟨by have := h.whole.store 21 (.int .i64 v); rwa [cpuCells_set_steps h.len o i v] at this, h.len⟩

theorem CpuAt.taken (h : CpuAt w p t c o i) : w.cell? ⟨p, 22, none⟩ = some (.int .i64 c.taken) := (h.whole.cell 22).trans (cpuCells_taken h.len o i)

theorem CpuAt.set_taken (h : CpuAt w p t c o i) (v : Int) : CpuAt (w.setCell ⟨p, 22, none⟩ (.int .i64 v)) p t { c with taken := v } o i :=
  ⟨by have := h.whole.store 22 (.int .i64 v); rwa [cpuCells_set_taken h.len o i v] at this, h.len⟩

theorem CpuAt.en (h : CpuAt w p t c o i) : w.cell? ⟨p, 24, none⟩ = some (.int .u32 c.en) := (h.whole.cell 24).trans (cpuCells_en h.len o i)

theorem CpuAt.set_en (h : CpuAt w p t c o i) (v : Int) : CpuAt (w.setCell ⟨p, 24, none⟩ (.int .u32 v)) p t { c with en := v } o i :=
  ⟨by have := h.whole.store 24 (.int .u32 v); rwa [cpuCells_set_en h.len o i v] at this, h.len⟩

theorem CpuAt.ve (h : CpuAt w p t c o i) : w.cell? ⟨p, 25, none⟩ = some (.int .u32 c.ve) := (h.whole.cell 25).trans (cpuCells_ve h.len o i)

theorem CpuAt.set_ve (h : CpuAt w p t c o i) (v : Int) : CpuAt (w.setCell ⟨p, 25, none⟩ (.int .u32 v)) p t { c with ve := v } o i :=
  ⟨by have := h.whole.store 25 (.int .u32 v); rwa [cpuCells_set_ve h.len o i v] at this, h.len⟩

theorem CpuAt.gu (h : CpuAt w p t c o i) : w.cell? ⟨p, 26, none⟩ = some (.int .u32 c.gu) := (h.whole.cell 26).trans (cpuCells_gu h.len o i)

theorem CpuAt.set_gu (h : CpuAt w p t c o i) (v : Int) : CpuAt (w.setCell ⟨p, 26, none⟩ (.int .u32 v)) p t { c with gu := v } o i :=
  ⟨by have := h.whole.store 26 (.int .u32 v); rwa [cpuCells_set_gu h.len o i v] at this, h.len⟩

theorem CpuAt.li (h : CpuAt w p t c o i) : w.cell? ⟨p, 27, none⟩ = some (.int .u32 c.li) := (h.whole.cell 27).trans (cpuCells_li h.len o i)

theorem CpuAt.set_li (h : CpuAt w p t c o i) (v : Int) : CpuAt (w.setCell ⟨p, 27, none⟩ (.int .u32 v)) p t { c with li := v } o i :=
  ⟨by have := h.whole.store 27 (.int .u32 v); rwa [cpuCells_set_li h.len o i v] at this, h.len⟩

theorem CpuAt.outv (h : CpuAt w p t c o i) : w.cell? ⟨p, 23, none⟩ = some (o) := (h.whole.cell 23).trans (cpuCells_o h.len o i)

theorem CpuAt.set_o (h : CpuAt w p t c o i) (v : Value) : CpuAt (w.setCell ⟨p, 23, none⟩ v) p t c v i :=
  ⟨by have := h.whole.store 23 v; rwa [cpuCells_set_o h.len o i v] at this, h.len⟩

theorem CpuAt.inpv (h : CpuAt w p t c o i) : w.cell? ⟨p, 28, none⟩ = some (i) := (h.whole.cell 28).trans (cpuCells_i h.len o i)

end

/-- Of the blocks that there are only those of the list turn. -/
structure But (L : List Nat) (w w' : World) : Prop where
  os : w'.os = w.os
  tape : w'.tape = w.tape
  output : w'.output = w.output
  size : w.heap.size ≤ w'.heap.size
  block : ∀ k, k < w.heap.size → k ∉ L → w'.heap[k]? = w.heap[k]?

section
variable {L L' : List Nat} {w x y : World}

theorem But.refl (L : List Nat) (w : World) : But L w w := ⟨rfl, rfl, rfl, Nat.le_refl _, fun _ _ _ => rfl⟩

theorem But.trans (h : But L w x) (g : But L x y) : But L w y :=
  ⟨g.os.trans h.os, g.tape.trans h.tape, g.output.trans h.output, Nat.le_trans h.size g.size, fun k hk hn => (g.block k (Nat.lt_of_lt_of_le hk h.size) hn).trans (h.block k hk hn)⟩

theorem But.mono (h : But L w x) (hs : ∀ k, k ∈ L → k ∈ L') : But L' w x := ⟨h.os, h.tape, h.output, h.size, fun k hk hn => h.block k hk (fun hm => hn (hs k hm))⟩

/-- What turns may be new. -/
theorem But.less (h : But L w x) (hs : ∀ k, k ∈ L → k ∈ L' ∨ w.heap.size ≤ k) : But L' w x :=
  ⟨h.os, h.tape, h.output, h.size, fun k hk hn => h.block k hk (fun hm => by rcases hs k hm with h1 | h1; exact hn h1; omega)⟩

theorem But.of_below {B : Nat} (h : Below B w x) (hB : w.heap.size ≤ B) : But L w x := ⟨h.os, h.tape, h.output, h.size, fun k hk _ => h.block k (Nat.lt_of_lt_of_le hk hB)⟩

theorem But.below {B : Nat} (h : But L w x) (hL : ∀ k, k ∈ L → B ≤ k) (hB : B ≤ w.heap.size) : Below B w x :=
  ⟨h.os, h.tape, h.output, h.size, fun k hk => h.block k (by omega) (fun hm => by have := hL k hm; omega)⟩

theorem But.alloc (h : But L w x) (o : Obj) : But L w (x.alloc o) := h.trans (.of_below ((Below.refl x.heap.size x).alloc (Nat.le_refl _) o) (Nat.le_refl _))

theorem But.drew (h : But L w x) : But L w x.drew := ⟨h.os, h.tape, h.output, h.size, h.block⟩

theorem But.drawn (h : But L w x) (n : Nat) : But L w (x.drewN n) := ⟨h.os, h.tape, h.output, h.size, h.block⟩

theorem But.setCell (h : But L w x) (p : Addr) (u : Value) (hp : p.block ∈ L) : But L w (x.setCell p u) :=
  h.trans ⟨rfl, rfl, rfl, by simp [World.setCell], fun k _ hk => Below.heap_setCell x p u k (fun e => hk (e ▸ hp))⟩

theorem But.whole {g : Nat} {t : TypeId} {cs : Array Value} (h : But L w x) (hw : Whole w g t cs) (hg : g ∉ L) : Whole x g t cs := (h.block g hw.lt hg).trans hw

theorem But.cpu {p : Nat} {t : TypeId} {c : Cp} {o i : Value} (h : But L w x) (hw : CpuAt w p t c o i) (hg : p ∉ L) : CpuAt x p t c o i := ⟨h.whole hw.whole hg, hw.len⟩
end

theorem Whole.drew' {w : World} {g : Nat} {t : TypeId} {cs : Array Value} (h : Whole w g t cs) : Whole w.drew g t cs := h

/-- The kit's law on a region whose last operations alone write, the world behind the draw by its name. -/
theorem still_tail {P : Program} {id : Nat} {Q : Exit → Act → World → Prop} {a : Act} {w : World} {l : List Oper} (n : Nat) (hm : P.follows .mixedOrders = true) (hB : Region.lexTailB .any l.toArray n = true)
    (h : wpStill P l.toArray w.drew (fun a' => wpList P l.toArray Q (l.drop n) a' w.drew) (l.take n) a) : (Code.region id l.toArray true).wp P Q a w :=
  wp_region_still_tail n hm hB h

/-! ### What it does, plain -/
def w32 (z : Int) : Int := z % 4294967296

def faultC (c : Cp) (e : Int) : Cp := { c with st := 2, why := e }

def trapC (c : Cp) (cause : Int) : Cp := if c.pc < c.gu then faultC c 111 else { c with epc := c.pc, cause := cause, pc := c.ve }

def passC (c : Cp) : Cp := { c with pc := w32 (c.pc + 4) }

def setC (c : Cp) (k : Nat) (v : Int) : Cp := passC { c with r := c.r.set k v }

end Go.Proofs.YtinpdgjbiimgkaaDoor
