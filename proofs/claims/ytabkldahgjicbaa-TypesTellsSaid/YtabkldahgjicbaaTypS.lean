/- The laws' arguments: calls on a table that came in as a list of structs with a text in each. Over any program. -/
import Derived.Test.YtabkldahgjicbaaTypA
import Derived.Deep.Slices
import Derived.SizedLaws
namespace Go.Proofs.Ytabkldahgjicbaa
open Go.ChangeShapes Go.WideShapes Go.ChangeAt Go.RowKit
set_option linter.unusedVariables false

/-- A call: its kind, two numbers, a name. -/
structure OpT where
  kind : Int
  a : Int
  b : Int
  name : ByteArray

instance : Inhabited OpT := ⟨⟨0, 0, 0, ⟨#[]⟩⟩⟩

def OpTIn (o : OpT) : Prop := (Lit.int .i64 o.kind).wf = true ∧ (Lit.int .i64 o.a).wf = true ∧ (Lit.int .i64 o.b).wf = true ∧ o.name.size ≤ maxLen

/-- The slice's n elements are these calls. -/
def OpTs (w : World) (A : Option Addr) (n : Nat) (f : Nat → OpT) : Prop :=
  (0 < n → ∃ b off, A = some ⟨b, off, none⟩ ∧ b < w.heap.size ∧ ∀ j, j < n → w.cell? ⟨b, off + j * 4, none⟩ = some (.int .i64 (f j).kind) ∧ w.cell? ⟨b, off + j * 4 + 1, none⟩ = some (.int .i64 (f j).a) ∧ w.cell? ⟨b, off + j * 4 + 2, none⟩ = some (.int .i64 (f j).b) ∧ w.cell? ⟨b, off + j * 4 + 3, none⟩ = some (.string (f j).name)) ∧ ∀ j, j < n → OpTIn (f j)

theorem OpTs.below {w w' : World} {A : Option Addr} {n : Nat} {f : Nat → OpT} (h : OpTs w A n f) (hb : Below w.heap.size w w') : OpTs w' A n f :=
  ⟨fun hn => by
    obtain ⟨b, off, rfl, hlt, hc⟩ := h.1 hn
    have k : ∀ i, w'.cell? ⟨b, i, none⟩ = w.cell? ⟨b, i, none⟩ := fun i => hb.cell (p := ⟨b, i, none⟩) hlt
    exact ⟨b, off, rfl, Nat.lt_of_lt_of_le hlt hb.size, fun j hj => by rw [k, k, k, k]; exact hc j hj⟩, h.2⟩

section
variable {H : Type} {enc : TypeId × Value → H} {P : Program} {w : World}

theorem weights_all {e : TypeId} : ∀ {l : List (DataW H)} {d : DataW H}, d ∈ l → ∀ n ∈ d.weights P e, n ∈ DataW.weightsAll P e l
  | [], _, h, _, _ => by cases h
  | x :: l, d, h, n, hn => by
    simp only [DataW.weightsAll, List.mem_append]
    rcases List.mem_cons.1 h with rfl | h
    · exact .inl hn
    · exact .inr (weights_all h n hn)

/-- One call out of its four cells. -/
theorem opT_of_trod {e : TypeId} {f0 f1 f2 f3 : Field} {fuel : Nat} {cs : List Value} {x : DataW H × List MemPlace} (he : P.underlying e = some (.struct #[f0, f1, f2, f3])) (ce : P.cellsOf e = 4)
    (o0 : f0.offset = 0) (o1 : f1.offset = 1) (o2 : f2.offset = 2) (o3 : f3.offset = 3) (c0 : P.cellsOf f0.type = 1) (c1 : P.cellsOf f1.type = 1) (c2 : P.cellsOf f2.type = 1) (c3 : P.cellsOf f3.type = 1)
    (u0 : P.underlying f0.type = some (.int .i64)) (u1 : P.underlying f1.type = some (.int .i64)) (u2 : P.underlying f2.type = some (.int .i64)) (u3 : P.underlying f3.type = some .string)
    (h : DataW.trod enc P w 0 (fun _ => true) true fuel e cs = some x) :
    ∃ o : OpT, cs = [.int .i64 o.kind, .int .i64 o.a, .int .i64 o.b, .string o.name] ∧ OpTIn o ∧ o.name.size ∈ x.1.weights P e := by
  obtain ⟨xs, k, rfl, rfl, hcl, hxl, hf⟩ := DataW.trod_struct he h
  rw [ce] at hcl
  match xs, hxl, cs, hcl with
  | [y0, y1, y2, y3], _, [v0, v1, v2, v3], _ =>
    have g0 := hf 0 f0 rfl
    have g1 := hf 1 f1 rfl
    have g2 := hf 2 f2 rfl
    have g3 := hf 3 f3 rfl
    simp [o0, o1, o2, o3, c0, c1, c2, c3] at g0 g1 g2 g3
    obtain ⟨z0, hz0, _, w0⟩ := DataW.trod_int u0 g0
    obtain ⟨z1, hz1, _, w1⟩ := DataW.trod_int u1 g1
    obtain ⟨z2, hz2, _, w2⟩ := DataW.trod_int u2 g2
    obtain ⟨s, hz3, hy3, hs⟩ := DataW.trod_string u3 g3
    refine ⟨⟨z0, z1, z2, s⟩, ?_, ⟨w0, w1, w2, hs⟩, ?_⟩
    · simp only [List.cons.injEq, and_true] at hz0 hz1 hz2 hz3
      rw [hz0, hz1, hz2, hz3]
    · subst hy3
      simp only [List.map_cons, List.map_nil, DataW.weights, he, DataW.weightsEach, List.mem_append]
      refine .inr (.inr (.inr (.inl ?_)))
      have e : s.data.toList.length = s.size := by rw [Array.length_toList]; rfl
      rw [e]
      exact List.mem_singleton.2 rfl

theorem open_opTs {r : Reach} {b0 : Nat} {v : Value} {d : DataW H} {ps : List MemPlace} {t e : TypeId} {f0 f1 f2 f3 : Field} (ht : P.underlying t = some (.slice e)) (he : P.underlying e = some (.struct #[f0, f1, f2, f3])) (ce : P.cellsOf e = 4)
    (o0 : f0.offset = 0) (o1 : f1.offset = 1) (o2 : f2.offset = 2) (o3 : f3.offset = 3) (c0 : P.cellsOf f0.type = 1) (c1 : P.cellsOf f1.type = 1) (c2 : P.cellsOf f2.type = 1) (c3 : P.cellsOf f3.type = 1)
    (u0 : P.underlying f0.type = some (.int .i64)) (u1 : P.underlying f1.type = some (.int .i64)) (u2 : P.underlying f2.type = some (.int .i64)) (u3 : P.underlying f3.type = some .string)
    (hval : Value.okWide P w r b0 t v) (hd : DataW.Trod enc P w 0 (fun _ => true) true t v d ps) :
    ∃ A n c f, v = .slice A n c ∧ OpTs w A n f ∧ n ≤ maxLen ∧ ∀ j, j < n → (f j).name.size ∈ d.weights P t := by
  obtain ⟨a0, len, cap, rfl⟩ := okWide_slice ht hval
  obtain ⟨fuel, hf⟩ := hd
  rcases Go.Deep.open_slice ht hf with ⟨hcs, hx⟩ | ⟨a, len', cap', m, k, D, Pl, hcs, hb, hl, hm, hmm, hx, hcell⟩
  · simp [Value.cells] at hcs
    obtain ⟨rfl, rfl, rfl⟩ := hcs
    exact ⟨none, 0, 0, fun _ => default, rfl, ⟨fun h => absurd h (by omega), fun j h => absurd h (by omega)⟩, Nat.zero_le _, fun j h => absurd h (by omega)⟩
  · simp [Value.cells] at hcs
    obtain ⟨rfl, rfl, rfl⟩ := hcs
    simp only [if_true] at hmm
    subst hmm
    have each : ∀ i, i < len → ∃ o : OpT, (w.cell? (a.add (i * 4)) = some (.int .i64 o.kind) ∧ w.cell? (a.add (i * 4 + 1)) = some (.int .i64 o.a) ∧ w.cell? (a.add (i * 4 + 2)) = some (.int .i64 o.b) ∧ w.cell? (a.add (i * 4 + 3)) = some (.string o.name)) ∧ OpTIn o ∧ o.name.size ∈ (D i).weights P e := by
      intro i hi
      obtain ⟨cs', h1, h2⟩ := hcell i (by omega)
      rw [ce] at h1
      obtain ⟨_, hlen, hc⟩ := World.cells?_some h1
      obtain ⟨o, rfl, ho, how⟩ := opT_of_trod he ce o0 o1 o2 o3 c0 c1 c2 c3 u0 u1 u2 u3 h2
      have e0 := hc 0 (by omega)
      have e1 := hc 1 (by omega)
      have e2 := hc 2 (by omega)
      have e3 := hc 3 (by omega)
      rw [Go.Deep.add_add] at e0 e1 e2 e3
      exact ⟨o, ⟨by simpa using e0, by simpa using e1, by simpa using e2, by simpa using e3⟩, ho, how⟩
    obtain ⟨f, hff⟩ := Go.Deep.choose_lt each
    have hd1 : d = .slice ((List.range len).map D) ((List.range (m - len)).map fun j => D (len + j)) := congrArg Prod.fst hx
    refine ⟨some a, len, _, f, rfl, ⟨fun h0 => ?_, fun j hj => (hff j hj).2.1⟩, by omega, fun j hj => ?_⟩
    · obtain ⟨c00, _⟩ := (hff 0 h0).1
      obtain ⟨b, off, spot⟩ := a
      have hspot : spot = none := by simpa [Addr.add] using World.cell?_spot c00
      subst hspot
      refine ⟨b, off, rfl, ?_, fun j hj => ?_⟩
      · have := block_lt c00
        rwa [Go.WideShapes.add_plain] at this
      · obtain ⟨⟨g0, g1, g2, g3⟩, _⟩ := hff j hj
        rw [Go.WideShapes.add_plain] at g0 g1 g2 g3
        exact ⟨g0, g1, g2, g3⟩
    · rw [hd1]
      simp only [DataW.weights, ht, List.mem_cons, List.mem_append]
      exact .inr (.inl (weights_all (List.mem_map.2 ⟨j, List.mem_range.2 hj, rfl⟩) _ (hff j hj).2.2))

theorem open_opT {r : Reach} {b0 : Nat} {v : Value} {d : DataW H} {ps : List MemPlace} {e : TypeId} {f0 f1 f2 f3 : Field} (he : P.underlying e = some (.struct #[f0, f1, f2, f3])) (ce : P.cellsOf e = 4)
    (o0 : f0.offset = 0) (o1 : f1.offset = 1) (o2 : f2.offset = 2) (o3 : f3.offset = 3) (c0 : P.cellsOf f0.type = 1) (c1 : P.cellsOf f1.type = 1) (c2 : P.cellsOf f2.type = 1) (c3 : P.cellsOf f3.type = 1)
    (u0 : P.underlying f0.type = some (.int .i64)) (u1 : P.underlying f1.type = some (.int .i64)) (u2 : P.underlying f2.type = some (.int .i64)) (u3 : P.underlying f3.type = some .string)
    (hval : Value.okWide P w r b0 e v) (hd : DataW.Trod enc P w 0 (fun _ => true) true e v d ps) :
    ∃ o : OpT, v = .agg #[.int .i64 o.kind, .int .i64 o.a, .int .i64 o.b, .string o.name] ∧ OpTIn o ∧ o.name.size ∈ d.weights P e := by
  obtain ⟨cs, rfl, hsz⟩ := okWide_struct he hval
  obtain ⟨fuel, hf⟩ := hd
  obtain ⟨o, ho, hi, hw⟩ := opT_of_trod he ce o0 o1 o2 o3 c0 c1 c2 c3 u0 u1 u2 u3 hf
  refine ⟨o, ?_, hi, hw⟩
  congr 1
  apply Array.ext'
  simpa [Value.cells] using ho
end
end Go.Proofs.Ytabkldahgjicbaa
