/- Package instr, plain: what Fill answers. -/
import Derived.Test.YtnmpamfgkidmiaaDoorInstrU
import Derived.Test.YtnmpamfgkidmiaaDoorBlocks
import Derived.Deep.RegionHeld3
namespace Go.Proofs.YtnmpamfgkidmiaaDoor
open Go.ChangeShapes Go.WideShapes Go.ChangeAt Go.RowKit
set_option linter.unusedVariables false

def fillCount (op : Int) : Nat := (regsOf (shapeOf op)).toNat + (if 0 < bitsOf (shapeOf op) then 1 else 0)

def fa (op : Int) (ss : List ByteArray) : Int := if 0 < regsOf (shapeOf op) then pfN (pfx op 0) (ss.getD 0 ⟨#[]⟩) else 0

def fb (op : Int) (ss : List ByteArray) : Int := if 1 < regsOf (shapeOf op) then pfN (pfx op 1) (ss.getD 1 ⟨#[]⟩) else 0

def fc (op : Int) (ss : List ByteArray) : Int := if 2 < regsOf (shapeOf op) then pfN (pfx op 2) (ss.getD 2 ⟨#[]⟩) else 0

def fn (op : Int) (ss : List ByteArray) : Int := if 0 < bitsOf (shapeOf op) then pfN ⟨#[]⟩ (ss.getD (regsOf (shapeOf op)).toNat ⟨#[]⟩) else 0

def ka (op : Int) (ss : List ByteArray) : Bool := if 0 < regsOf (shapeOf op) then pfB (pfx op 0) (ss.getD 0 ⟨#[]⟩) else true

def kb (op : Int) (ss : List ByteArray) : Bool := if 1 < regsOf (shapeOf op) then pfB (pfx op 1) (ss.getD 1 ⟨#[]⟩) else true

def kc (op : Int) (ss : List ByteArray) : Bool := if 2 < regsOf (shapeOf op) then pfB (pfx op 2) (ss.getD 2 ⟨#[]⟩) else true

def kn (op : Int) (ss : List ByteArray) : Bool := if 0 < bitsOf (shapeOf op) then pfB ⟨#[]⟩ (ss.getD (regsOf (shapeOf op)).toNat ⟨#[]⟩) else true

/-- Whether the texts are an instruction of the operation. -/
def fillOk (op : Int) (ss : List ByteArray) : Bool :=
  decide (shapeOf op ≠ -1) && (decide (ss.length = fillCount op) && (ka op ss && (kb op ss && (kc op ss && (kn op ss && decide (checkOf op (fa op ss) (fb op ss) (fc op ss) (fn op ss) = 0))))))

/-- What Fill leaves: whether the texts are an instruction; if they are, just that. -/
def FillPost (op : Int) (ss : List ByteArray) (w : World) (e : Ending) (w' : World) : Prop :=
  ∃ o a b c n, e = .returned (.tuple #[.agg #[.int .i64 o, .int .i64 a, .int .i64 b, .int .i64 c, .int .i64 n], .bool (fillOk op ss)]) ∧
    (fillOk op ss = true → o = op ∧ a = fa op ss ∧ b = fb op ss ∧ c = fc op ss ∧ n = fn op ss) ∧ Below w.heap.size w w'

theorem fill_no {op : Int} {ss : List ByteArray} {w w' : World} {o a b c n : Int} (h : fillOk op ss = false) (hb : Below w.heap.size w w') :
    FillPost op ss w (.returned (.tuple #[.agg #[.int .i64 o, .int .i64 a, .int .i64 b, .int .i64 c, .int .i64 n], .bool false])) w' :=
  ⟨o, a, b, c, n, by rw [h], fun h' => by rw [h] at h'; (cases h'), hb⟩

theorem fill_yes {op : Int} {ss : List ByteArray} {w w' : World} {a b c n : Int} (h : fillOk op ss = true) (ha : a = fa op ss) (hb' : b = fb op ss) (hc : c = fc op ss) (hn : n = fn op ss) (hb : Below w.heap.size w w') :
    FillPost op ss w (.returned (.tuple #[.agg #[.int .i64 op, .int .i64 a, .int .i64 b, .int .i64 c, .int .i64 n], .bool true])) w' :=
  ⟨op, a, b, c, n, by rw [h], fun _ => ⟨rfl, ha, hb', hc, hn⟩, hb⟩

theorem fillOk_shape {op : Int} {ss : List ByteArray} (h : shapeOf op = -1) : fillOk op ss = false := by unfold fillOk; simp [h]

theorem fillOk_len {op : Int} {ss : List ByteArray} (h : ss.length ≠ fillCount op) : fillOk op ss = false := by unfold fillOk; simp [h]

theorem fillOk_a {op : Int} {ss : List ByteArray} (h : ka op ss = false) : fillOk op ss = false := by unfold fillOk; simp [h]

theorem fillOk_b {op : Int} {ss : List ByteArray} (h : kb op ss = false) : fillOk op ss = false := by unfold fillOk; simp [h]

theorem fillOk_c {op : Int} {ss : List ByteArray} (h : kc op ss = false) : fillOk op ss = false := by unfold fillOk; simp [h]

theorem fillOk_n {op : Int} {ss : List ByteArray} (h : kn op ss = false) : fillOk op ss = false := by unfold fillOk; simp [h]

theorem fillOk_check {op : Int} {ss : List ByteArray} (h : checkOf op (fa op ss) (fb op ss) (fc op ss) (fn op ss) ≠ 0) : fillOk op ss = false := by unfold fillOk; simp [h]

theorem fillOk_yes {op : Int} {ss : List ByteArray} (h0 : shapeOf op ≠ -1) (h1 : ss.length = fillCount op) (h2 : ka op ss = true) (h3 : kb op ss = true) (h4 : kc op ss = true) (h5 : kn op ss = true) (h6 : checkOf op (fa op ss) (fb op ss) (fc op ss) (fn op ss) = 0) : fillOk op ss = true := by
  unfold fillOk
  simp [h0, h1, h2, h3, h4, h5, h6]

/-- What a cell holds, by a name that no rule looks into. -/
def heldAt (y : World) (a : Addr) : Value := (y.cell? a).getD undef

theorem heldAt_of {y : World} {a : Addr} {u : Value} (h : y.cell? a = some u) : y.cell? a = some (heldAt y a) := by unfold heldAt; rw [h]; rfl

theorem keepF_drew {y : World} {a d : Addr} {u : Value} (h : y.cell? a = some u ∧ y.cell? d = some (heldAt y d) ∧ y.frozen? d = false) : y.drew.cell? a = some u ∧ y.drew.cell? d = some (heldAt y.drew d) ∧ y.drew.frozen? d = false := h

theorem keepF_call {y z : World} {a d : Addr} {u : Value} (h : y.cell? a = some u ∧ y.cell? d = some (heldAt y d) ∧ y.frozen? d = false) (hb : Below y.heap.size y z) : z.cell? a = some u ∧ z.cell? d = some (heldAt z d) ∧ z.frozen? d = false := by
  obtain ⟨h1, h2, h3⟩ := h
  have l1 := block_lt h1
  have l2 := block_lt h2
  exact ⟨(hb.cell l1).trans h1, heldAt_of ((hb.cell l2).trans h2), (hb.frozen l2).trans h3⟩

theorem keepF_set {y : World} {a d : Addr} {u v : Value} (h : y.cell? a = some u ∧ y.cell? d = some (heldAt y d) ∧ y.frozen? d = false) (hne : d.block ≠ a.block) : (y.setCell d v).cell? a = some u ∧ (y.setCell d v).cell? d = some (heldAt (y.setCell d v) d) ∧ (y.setCell d v).frozen? d = false := by
  obtain ⟨h1, h2, h3⟩ := h
  refine ⟨?_, heldAt_of (World.cell?_setCell_same' y d v (by rw [h2]; rfl)), ?_⟩
  · rw [World.cell?_setCell_far y d a v hne]
    exact h1
  · rw [World.frozen?_setCell]
    exact h3

set_option maxHeartbeats 1000000 in
set_option maxRecDepth 100000 in
theorem count_any (r bits : Int) (sgn : Bool) (w : World) (h0 : 0 ≤ r) (h1 : r ≤ 3) :
    Calls Tryd.prog 94 #[.agg #[.int .i64 r, .int .i64 bits, .bool sgn]] w fun e w' => e = .returned (.int .i64 (if 0 < bits then r + 1 else r)) ∧ Below w.heap.size w w' := by
  by_cases h : 0 < bits
  · have d : decide (0 < bits) = true := by simpa using h
    rw [if_pos h]
    go_enter Tryd.func94, Tryd.ntmps94
    go_wp2
    go_ret
    exact ⟨rfl, (Below.refl _ _).alloc (Nat.le_refl _) _⟩
  · have d : decide (0 < bits) = false := by simpa using h
    rw [if_neg h]
    go_enter Tryd.func94, Tryd.ntmps94
    go_wp2
    go_ret
    exact ⟨rfl, (Below.refl _ _).alloc (Nat.le_refl _) _⟩
end Go.Proofs.YtnmpamfgkidmiaaDoor
