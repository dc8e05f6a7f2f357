/- Emit, plain: what was written; what each call makes of it. How the lists lie in memory. -/
import Derived.Test.YtcijjmmckofckaaDoorInstrM
import Derived.Test.YtcijjmmckofckaaDoorInstrE
import Derived.Test.YtcijjmmckofckaaDoorRngE
namespace Go.Proofs.YtcijjmmckofckaaDoor
open Go.ChangeShapes Go.WideShapes Go.ChangeAt Go.RowKit
set_option linter.unusedVariables false
set_option linter.unusedSimpArgs false

/-- An instruction. -/
structure Ins where
  op : Int
  a : Int
  b : Int
  c : Int
  n : Int

/-- A fixup. -/
structure Fxp where
  at' : Int
  kd : Int
  md : Int
  vl : Int

/-- What was written, and what waits. -/
structure Em where
  L : List Ins
  fx : List Fxp
  dep : Int
  most : Int
  err : Int

def zIns : Ins := ⟨0, 0, 0, 0, 0⟩

def zFxp : Fxp := ⟨0, 0, 0, 0⟩

def chk (i : Ins) : Int := checkOf i.op i.a i.b i.c i.n

def wd (i : Ins) : Int := wordOf i.op i.a i.b i.c i.n

def insV (i : Ins) : Value := instrV i.op i.a i.b i.c i.n

def hltI : Ins := ⟨1, 0, 0, 0, 0⟩

def newE : Em := ⟨[], [], 0, 0, 0⟩

def failE (m : Em) (e : Int) : Em := ⟨m.L, m.fx, m.dep, m.most, if m.err = 0 then e else m.err⟩

def putI (i : Ins) : Ins := if chk i = 0 then i else hltI

def putF (m : Em) (i : Ins) : Em := if chk i = 0 then m else failE m (chk i)

def putE (m : Em) (i : Ins) : Em := if m.L.length < 16384 then ⟨m.L ++ [putI i], m.fx, m.dep, m.most, (putF m i).err⟩ else failE (putF m i) 242

def numI (i : Ins) (n : Int) : Ins := ⟨i.op, i.a, i.b, i.c, n⟩

def patchE (m : Em) (at' n : Int) : Em :=
  if at' < 0 ∨ (m.L.length : Int) ≤ at' then failE m 52
  else if chk (numI (m.L.getD at'.toNat zIns) n) = 0 then ⟨m.L.set at'.toNat (numI (m.L.getD at'.toNat zIns) n), m.fx, m.dep, m.most, m.err⟩ else failE m 52

def halfE (m : Em) (a hi lo : Int) : Em := putE (putE m ⟨3, a, 0, 0, hi⟩) ⟨4, a, a, 0, lo⟩

def numE (m : Em) (a n : Int) : Em := if -32768 ≤ n ∧ n ≤ 32767 then putE m ⟨2, a, 0, 0, n⟩ else halfE m a (n % 4294967296 / 65536) (n % 65536)

def fixA (m : Em) (kd md vl : Int) : Em := ⟨m.L, m.fx ++ [⟨m.L.length, kd, md, vl⟩], m.dep, m.most, m.err⟩

def fixE (m : Em) (kd md vl a : Int) : Em := if kd = 3 then putE (fixA m kd md vl) ⟨23, 0, 0, 0, 0⟩ else halfE (fixA m kd md vl) a 0 0

def dropE (m : Em) (n : Int) : Em := ⟨m.L, m.fx, max 0 (m.dep - n), max m.most (max 0 (m.dep - n)), m.err⟩

def pushE (m : Em) (a : Int) : Em := dropE (putE (putE m ⟨5, 15, 15, 0, -4⟩) ⟨19, a, 15, 0, 0⟩) (-1)

def popE (m : Em) (a : Int) : Em := dropE (putE (putE m ⟨18, a, 15, 0, 0⟩) ⟨5, 15, 15, 0, 4⟩) 1

/-- What always holds. -/
structure EmOk (m : Em) : Prop where
  good : ∀ i ∈ m.L, chk i = 0
  len : m.L.length ≤ 16384
  d0 : 0 ≤ m.dep
  dm : m.dep ≤ m.most

theorem EmOk.new : EmOk newE := ⟨(fun _ h => absurd h (List.not_mem_nil)), (by decide), (by decide), (by decide)⟩

theorem EmOk.fail {m : Em} (h : EmOk m) (e : Int) : EmOk (failE m e) := ⟨h.good, h.len, h.d0, h.dm⟩

theorem chk_hlt : chk hltI = 0 := by decide

theorem chk_putI (i : Ins) : chk (putI i) = 0 := by
  unfold putI
  by_cases h : chk i = 0
  · rw [if_pos h]; exact h
  · rw [if_neg h]; exact chk_hlt

theorem EmOk.putF {m : Em} (h : EmOk m) (i : Ins) : EmOk (putF m i) := by
  unfold Go.Proofs.YtcijjmmckofckaaDoor.putF
  by_cases hc : chk i = 0
  · rw [if_pos hc]; exact h
  · rw [if_neg hc]; exact h.fail _

theorem EmOk.put {m : Em} (h : EmOk m) (i : Ins) : EmOk (putE m i) := by
  unfold putE
  by_cases hl : m.L.length < 16384
  · rw [if_pos hl]
    refine ⟨fun j hj => ?_, by simp only [List.length_append, List.length_singleton]; omega, h.d0, h.dm⟩
    rcases List.mem_append.1 hj with hj | hj
    · exact h.good j hj
    · rw [List.mem_singleton.1 hj]; exact chk_putI i
  · rw [if_neg hl]; exact (h.putF i).fail _

theorem EmOk.drop {m : Em} (h : EmOk m) (n : Int) : EmOk (dropE m n) := ⟨h.good, h.len, by show 0 ≤ max 0 (m.dep - n); omega, by show max 0 (m.dep - n) ≤ max m.most (max 0 (m.dep - n)); omega⟩

theorem EmOk.patch {m : Em} (h : EmOk m) (at' n : Int) : EmOk (patchE m at' n) := by
  unfold patchE
  by_cases h1 : at' < 0 ∨ (m.L.length : Int) ≤ at'
  · rw [if_pos h1]; exact h.fail _
  · rw [if_neg h1]
    by_cases h2 : chk (numI (m.L.getD at'.toNat zIns) n) = 0
    · rw [if_pos h2]
      refine ⟨fun j hj => ?_, by simp only [List.length_set]; exact h.len, h.d0, h.dm⟩
      rcases List.mem_or_eq_of_mem_set hj with hj | hj
      · exact h.good j hj
      · rw [hj]; exact h2
    · rw [if_neg h2]; exact h.fail _

theorem EmOk.half {m : Em} (h : EmOk m) (a hi lo : Int) : EmOk (halfE m a hi lo) := (h.put _).put _

theorem EmOk.fixA {m : Em} (h : EmOk m) (kd md vl : Int) : EmOk (fixA m kd md vl) := ⟨h.good, h.len, h.d0, h.dm⟩

/-- A word, an int, a fixup, an instruction, in cells. -/
def wdC (i : Ins) : List Value := [.int .u32 (wd i)]

def itC (x : Int) : List Value := [.int .i64 x]

def fxC (x : Fxp) : List Value := [.int .i64 x.at', .int .i64 x.kd, .int .i64 x.md, .int .i64 x.vl]

def inC (i : Ins) : List Value := [.int .i64 i.op, .int .i64 i.a, .int .i64 i.b, .int .i64 i.c, .int .i64 i.n]

abbrev u4T : TypeId := 54

abbrev itT : TypeId := 3

abbrev fxT : TypeId := 43

abbrev cdT : TypeId := 69

theorem u4Info : (Tryd.prog.info? u4T).map (fun i => (i.zero, i.size, i.bytes)) = some (some (.int .u32 0), 1, 4) := by kernel_rfl

theorem itInfo : (Tryd.prog.info? itT).map (fun i => (i.zero, i.size, i.bytes)) = some (some (.int .i64 0), 1, 8) := by kernel_rfl

theorem fxInfo : (Tryd.prog.info? fxT).map (fun i => (i.zero, i.size, i.bytes)) = some (some (.agg #[.int .i64 0, .int .i64 0, .int .i64 0, .int .i64 0]), 4, 32) := by kernel_rfl

theorem it_one (x : Int) : ∀ u ∈ itC x, u.oneCell' = true := by
  intro u hu
  simp [itC] at hu
  subst hu
  rfl

theorem wd_one (x : Ins) : ∀ u ∈ wdC x, u.oneCell' = true := by
  intro u hu
  simp [wdC] at hu
  subst hu
  rfl

theorem fx_one (x : Fxp) : ∀ u ∈ fxC x, u.oneCell' = true := by
  intro u hu
  simp [fxC] at hu
  rcases hu with rfl | rfl | rfl | rfl <;> rfl

theorem in_one (x : Ins) : ∀ u ∈ inC x, u.oneCell' = true := by
  intro u hu
  simp [inC] at hu
  rcases hu with rfl | rfl | rfl | rfl | rfl <;> rfl

theorem wd_range {i : Ins} (h : chk i = 0) : 0 ≤ wd i ∧ wd i ≤ 4294967295 := by
  obtain ⟨h1, h2⟩ := good_of_check h
  obtain ⟨a, b, _⟩ := word_range h1 h2
  exact ⟨a, b⟩

theorem dec_wd {i : Ins} (h : chk i = 0) : decV (wd i) = .tuple #[instrV i.op i.a i.b i.c i.n, .int .i64 0] := by
  obtain ⟨h1, h2⟩ := good_of_check h
  exact dec_of_word h1 h2

/-- All integers of an instruction are ones of 64 bits. -/
def I64I (i : Ins) : Prop := I64 i.op ∧ I64 i.a ∧ I64 i.b ∧ I64 i.c ∧ I64 i.n
end Go.Proofs.YtcijjmmckofckaaDoor
