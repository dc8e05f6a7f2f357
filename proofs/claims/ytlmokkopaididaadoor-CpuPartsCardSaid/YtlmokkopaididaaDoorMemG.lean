/- Calls on a memory that came in as a list of structs with a list in each: opened at every index. Over any program. -/
import Derived.Test.YtlmokkopaididaaDoorLift
import Derived.Deep.Slices
import Derived.Deep.Strs
namespace Go.Proofs.YtlmokkopaididaaDoor
open Go.ChangeShapes Go.WideShapes Go.ChangeAt Go.RowKit
set_option linter.unusedVariables false

/-- A call: its kind, an address, a word, a list of words. -/
structure OpR where
  kind : Int
  at_ : Int
  v : Int
  A : Option Addr
  m : Nat
  c : Nat
  zs : List Int

instance : Inhabited OpR := ⟨⟨0, 0, 0, none, 0, 0, []⟩⟩

/-- What is known of one call. -/
def OpIn (w : World) (o : OpR) : Prop := (Lit.int .i64 o.kind).wf = true ∧ (Lit.int .u32 o.at_).wf = true ∧ (Lit.int .u32 o.v).wf = true ∧ Nums .u32 w o.A o.m o.zs ∧ o.m ≤ maxLen ∧ ∀ z ∈ o.zs, (Lit.int .u32 z).wf = true

/-- The slice's n elements are these calls. -/
def OpsAt (w : World) (A : Option Addr) (n : Nat) (f : Nat → OpR) : Prop :=
  (0 < n → ∃ b off, A = some ⟨b, off, none⟩ ∧ b < w.heap.size ∧ ∀ j, j < n → w.cell? ⟨b, off + j * 4, none⟩ = some (.int .i64 (f j).kind) ∧ w.cell? ⟨b, off + j * 4 + 1, none⟩ = some (.int .u32 (f j).at_) ∧ w.cell? ⟨b, off + j * 4 + 2, none⟩ = some (.int .u32 (f j).v) ∧ w.cell? ⟨b, off + j * 4 + 3, none⟩ = some (.slice (f j).A (f j).m (f j).c)) ∧ ∀ j, j < n → OpIn w (f j)

theorem OpIn.below {w w' : World} {o : OpR} (h : OpIn w o) (hb : Below w.heap.size w w') : OpIn w' o :=
  ⟨h.1, h.2.1, h.2.2.1, h.2.2.2.1.below hb, h.2.2.2.2⟩

theorem OpsAt.below {w w' : World} {A : Option Addr} {n : Nat} {f : Nat → OpR} (h : OpsAt w A n f) (hb : Below w.heap.size w w') : OpsAt w' A n f :=
  ⟨fun hn => by
    obtain ⟨b, off, rfl, hlt, hc⟩ := h.1 hn
    have k : ∀ i, w'.cell? ⟨b, i, none⟩ = w.cell? ⟨b, i, none⟩ := fun i => hb.cell (p := ⟨b, i, none⟩) hlt
    exact ⟨b, off, rfl, Nat.lt_of_lt_of_le hlt hb.size, fun j hj => by rw [k, k, k, k]; exact hc j hj⟩, fun j hj => (h.2 j hj).below hb⟩

section
variable {H : Type} {enc : TypeId × Value → H} {P : Program} {w : World}

theorem nums_of_trod {t e : TypeId} {k : IntKind} {fuel : Nat} {cs : List Value} {x : DataW H × List MemPlace} (ht : P.underlying t = some (.slice e)) (he : P.underlying e = some (.int k)) (hc : P.cellsOf e = 1)
    (hf : DataW.trod enc P w 0 (fun _ => true) true fuel t cs = some x) :
    ∃ A n c zs, cs = [.slice A n c] ∧ Nums k w A n zs ∧ n ≤ maxLen ∧ ∀ z ∈ zs, (Lit.int k z).wf = true := by
  rcases open_ints ht he hc hf with ⟨hcs, hx⟩ | ⟨a, len, cap, zs, hcs, _, hl, hm, hz, hx, hcell, hwz⟩
  · exact ⟨none, 0, 0, [], hcs, ⟨rfl, fun h => absurd h (by omega)⟩, Nat.zero_le _, fun z h => by cases h⟩
  · simp only [if_true] at hz
    refine ⟨some a, len, cap, zs.take len, hcs, ⟨by simp; omega, fun h0 => ?_⟩, by omega, fun z h => hwz z (List.mem_of_mem_take h)⟩
    obtain ⟨b, off, rfl, hat⟩ := ints_at hcell (by omega)
    refine ⟨b, off, rfl, block_lt (hat 0 (by omega)), fun j hj => ?_⟩
    rw [hat j (by omega)]
    simp [List.getD, hj]

/-- One call out of its four cells. -/
theorem op_of_trod {e q : TypeId} {f0 f1 f2 f3 : Field} {fuel : Nat} {cs : List Value} {x : DataW H × List MemPlace} (he : P.underlying e = some (.struct #[f0, f1, f2, f3])) (ce : P.cellsOf e = 4)
    (o0 : f0.offset = 0) (o1 : f1.offset = 1) (o2 : f2.offset = 2) (o3 : f3.offset = 3) (c0 : P.cellsOf f0.type = 1) (c1 : P.cellsOf f1.type = 1) (c2 : P.cellsOf f2.type = 1) (c3 : P.cellsOf f3.type = 1)
    (u0 : P.underlying f0.type = some (.int .i64)) (u1 : P.underlying f1.type = some (.int .u32)) (u2 : P.underlying f2.type = some (.int .u32)) (u3 : P.underlying f3.type = some (.slice q)) (hq : P.underlying q = some (.int .u32)) (cq : P.cellsOf q = 1)
    (h : DataW.trod enc P w 0 (fun _ => true) true fuel e cs = some x) :
    ∃ o : OpR, cs = [.int .i64 o.kind, .int .u32 o.at_, .int .u32 o.v, .slice o.A o.m o.c] ∧ OpIn w o := by
  obtain ⟨xs, k, rfl, hxy, hcl, hxl, hf⟩ := DataW.trod_struct he h
  rw [ce] at hcl
  match xs, hxl, cs, hcl with
  | [y0, y1, y2, y3], _, [v0, v1, v2, v3], _ =>
    have g0 := hf 0 f0 rfl
    have g1 := hf 1 f1 rfl
    have g2 := hf 2 f2 rfl
    have g3 := hf 3 f3 rfl
    simp [o0, o1, o2, o3, c0, c1, c2, c3] at g0 g1 g2 g3
    obtain ⟨z0, hz0, _, w0⟩ := DataW.trod_int u0 g0
    obtain ⟨z1, hz1, _, w1⟩ := DataW.trod_int u1 g1
    obtain ⟨z2, hz2, _, w2⟩ := DataW.trod_int u2 g2
    obtain ⟨A, n, c, zs, hz3, hn, hm, hw⟩ := nums_of_trod u3 hq cq g3
    refine ⟨⟨z0, z1, z2, A, n, c, zs⟩, ?_, w0, w1, w2, hn, hm, hw⟩
    simp only [List.cons.injEq, and_true] at hz0 hz1 hz2 hz3
    rw [hz0, hz1, hz2, hz3]

theorem open_ops {r : Reach} {b0 : Nat} {v : Value} {d : DataW H} {ps : List MemPlace} {t e q : TypeId} {f0 f1 f2 f3 : Field} (ht : P.underlying t = some (.slice e)) (he : P.underlying e = some (.struct #[f0, f1, f2, f3])) (ce : P.cellsOf e = 4)
    (o0 : f0.offset = 0) (o1 : f1.offset = 1) (o2 : f2.offset = 2) (o3 : f3.offset = 3) (c0 : P.cellsOf f0.type = 1) (c1 : P.cellsOf f1.type = 1) (c2 : P.cellsOf f2.type = 1) (c3 : P.cellsOf f3.type = 1)
    (u0 : P.underlying f0.type = some (.int .i64)) (u1 : P.underlying f1.type = some (.int .u32)) (u2 : P.underlying f2.type = some (.int .u32)) (u3 : P.underlying f3.type = some (.slice q)) (hq : P.underlying q = some (.int .u32)) (cq : P.cellsOf q = 1)
    (hval : Value.okWide P w r b0 t v) (hd : DataW.Trod enc P w 0 (fun _ => true) true t v d ps) :
    ∃ A n c f, v = .slice A n c ∧ OpsAt w A n f ∧ n ≤ maxLen := by
  obtain ⟨a0, len, cap, rfl⟩ := okWide_slice ht hval
  obtain ⟨fuel, hf⟩ := hd
  rcases Go.Deep.open_slice ht hf with ⟨hcs, hx⟩ | ⟨a, len', cap', m, k, D, Pl, hcs, hb, hl, hm, hmm, hx, hcell⟩
  · simp [Value.cells] at hcs
    obtain ⟨rfl, rfl, rfl⟩ := hcs
    exact ⟨none, 0, 0, fun _ => default, rfl, ⟨fun h => absurd h (by omega), fun j h => absurd h (by omega)⟩, Nat.zero_le _⟩
  · simp [Value.cells] at hcs
    obtain ⟨rfl, rfl, rfl⟩ := hcs
    simp only [if_true] at hmm
    subst hmm
    have each : ∀ i, i < len → ∃ o : OpR, (w.cell? (a.add (i * 4)) = some (.int .i64 o.kind) ∧ w.cell? (a.add (i * 4 + 1)) = some (.int .u32 o.at_) ∧ w.cell? (a.add (i * 4 + 2)) = some (.int .u32 o.v) ∧ w.cell? (a.add (i * 4 + 3)) = some (.slice o.A o.m o.c)) ∧ OpIn w o := by
      intro i hi
      obtain ⟨cs', h1, h2⟩ := hcell i (by omega)
      rw [ce] at h1
      obtain ⟨_, hlen, hc⟩ := World.cells?_some h1
      obtain ⟨o, rfl, ho⟩ := op_of_trod he ce o0 o1 o2 o3 c0 c1 c2 c3 u0 u1 u2 u3 hq cq h2
      have e0 := hc 0 (by omega)
      have e1 := hc 1 (by omega)
      have e2 := hc 2 (by omega)
      have e3 := hc 3 (by omega)
      rw [Go.Deep.add_add] at e0 e1 e2 e3
      exact ⟨o, ⟨by simpa using e0, by simpa using e1, by simpa using e2, by simpa using e3⟩, ho⟩
    obtain ⟨f, hff⟩ := Go.Deep.choose_lt each
    refine ⟨some a, len, _, f, rfl, ⟨fun h0 => ?_, fun j hj => (hff j hj).2⟩, by omega⟩
    obtain ⟨c00, _⟩ := (hff 0 h0).1
    obtain ⟨b, off, spot⟩ := a
    have hspot : spot = none := by simpa [Addr.add] using World.cell?_spot c00
    subst hspot
    refine ⟨b, off, rfl, ?_, fun j hj => ?_⟩
    · have := block_lt c00
      rwa [Go.WideShapes.add_plain] at this
    · obtain ⟨⟨g0, g1, g2, g3⟩, _⟩ := hff j hj
      rw [Go.WideShapes.add_plain] at g0 g1 g2 g3
      exact ⟨g0, g1, g2, g3⟩
end
end Go.Proofs.YtlmokkopaididaaDoor
