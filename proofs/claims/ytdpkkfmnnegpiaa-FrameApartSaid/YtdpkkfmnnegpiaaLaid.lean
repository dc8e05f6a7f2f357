/- A package-level variable that a row lists with plain data (arrays and structs of numbers, truth values and strings): what its cells hold. And the cells of a struct of numbers that came in. Over any program. -/
import Derived.Test.YtdpkkfmnnegpiaaLift
import Derived.LaidMore
import Derived.LaidHandle
import Derived.LaidLaws
import Derived.MakeChecks
import Derived.Deep.Fields
namespace Go.Proofs.Ytdpkkfmnnegpiaa
open Go.ChangeShapes Go.WideShapes Go.ChangeAt Go.RowKit
set_option linter.unusedVariables false

section
variable {H : Type} {enc : TypeId × Value → H} {P : Program}

/-- The parts of an aggregate: at which cell each begins, and its type. -/
def partsOf (P : Program) (t : TypeId) : Option (List (Nat × TypeId)) :=
  match P.underlying t with
  | some (.struct fs) => some (fs.toList.map fun f => (f.offset, f.type))
  | some (.array n e) => some ((List.range n).map fun i => (i * P.cellsOf e, e))
  | _ => none

def litCell : Lit → Option Value
  | .bool b => some (.bool b)
  | .int k n => some (.int k n)
  | .string l => some (.string ⟨l.toArray⟩)
  | _ => none

/-- Pieces one behind the other: where they end. -/
def endOf : Nat → List (Nat × List Value) → Option Nat
  | a, [] => some a
  | a, (o, l) :: r => if o = a then endOf (a + l.length) r else none

/-- The cells of plain data of a type. -/
def cellsIn (P : Program) : Nat → TypeId → DataW H → Option (List Value)
  | 0, _, _ => none
  | n + 1, t, d => match partsOf P t, d with
    | some ps, .agg ds => if ds.length = ps.length then
        ((ps.zip ds).mapM fun x => (cellsIn P n x.1.2 x.2).bind fun l => if l.length = P.cellsOf x.1.2 then some (x.1.1, l) else none).bind fun rs =>
          if endOf 0 rs = some (P.cellsOf t) then some (rs.flatMap (·.2)) else none
      else none
    | none, .lit l => (litCell l).map fun v => [v]
    | _, _ => none

theorem tiled {cs : List Value} : ∀ {rs : List (Nat × List Value)} {a b : Nat}, endOf a rs = some b → (∀ (i o : Nat) (l : List Value), rs[i]? = some (o, l) → (cs.drop o).take l.length = l) → cs.length = b → cs.drop a = rs.flatMap (·.2)
  | [], a, b, h, _, hl => by
    simp only [endOf, Option.some.injEq] at h
    subst h
    simp [List.drop_eq_nil_of_le (Nat.le_of_eq hl)]
  | (o, l) :: r, a, b, h, hp, hl => by
    simp only [endOf] at h
    split at h
    · rename_i ho
      subst ho
      have ih := tiled (cs := cs) h (fun i o' l' hi => hp (i + 1) o' l' (by simpa using hi)) hl
      have h0 := hp 0 o l (by simp)
      rw [List.flatMap_cons, ← ih, ← List.drop_drop]
      have e := (List.take_append_drop l.length (cs.drop o)).symm
      rw [h0] at e
      exact e
    · cases h

theorem trod_parts {w : World} {base : Nat} {sp : Nat → Bool} {held : Bool} {fuel : Nat} {t : TypeId} {cs : List Value} {x : DataW H × List MemPlace} {ps : List (Nat × TypeId)}
    (ht : partsOf P t = some ps) (h : DataW.trod enc P w base sp held fuel t cs = some x) :
    ∃ (xs : List (DataW H × List MemPlace)) (n : Nat), fuel = n + 1 ∧ x.1 = .agg (xs.map (·.1)) ∧ cs.length = P.cellsOf t ∧ xs.length = ps.length ∧
      ∀ (i o : Nat) (e : TypeId), ps[i]? = some (o, e) → DataW.trod enc P w base sp held n e ((cs.drop o).take (P.cellsOf e)) = xs[i]? := by
  unfold partsOf at ht
  split at ht
  · rename_i fs hu
    simp only [Option.some.injEq] at ht
    subst ht
    obtain ⟨xs, n, hn, hx, hl, hxl, hf⟩ := DataW.trod_struct hu h
    refine ⟨xs, n, hn, by rw [hx], hl, by simpa using hxl, fun i o e hi => ?_⟩
    simp only [List.getElem?_map, Option.map_eq_some_iff, Prod.mk.injEq] at hi
    obtain ⟨f, hf', rfl, rfl⟩ := hi
    exact hf i f (by simpa using hf')
  · rename_i n e hu
    simp only [Option.some.injEq] at ht
    subst ht
    obtain ⟨xs, m, hn, hx, hl, hxl, hf⟩ := DataW.trod_array hu h
    refine ⟨xs, m, hn, by rw [hx], hl, by simpa using hxl, fun i o e' hi => ?_⟩
    simp only [List.getElem?_map, Option.map_eq_some_iff, Prod.mk.injEq] at hi
    obtain ⟨j, hj, rfl, rfl⟩ := hi
    have hlt : i < n := by
      rcases Nat.lt_or_ge i n with h | h
      · exact h
      · rw [List.getElem?_eq_none (by simpa using h)] at hj
        cases hj
    rw [List.getElem?_range hlt] at hj
    cases hj
    exact hf i hlt
  · cases ht

theorem trod_lit {w : World} {base : Nat} {sp : Nat → Bool} {held : Bool} {fuel : Nat} {t : TypeId} {cs : List Value} {l : Lit} {v : Value} {p : List MemPlace}
    (hv : litCell l = some v) (h : DataW.trod enc P w base sp held fuel t cs = some (.lit l, p)) : cs = [v] := by
  cases fuel with
  | zero => simp [DataW.trod] at h
  | succ n =>
    unfold DataW.trod at h
    split at h
    all_goals first
      | (simp only [Option.some.injEq, Prod.mk.injEq, DataW.lit.injEq] at h; obtain ⟨rfl, rfl⟩ := h; simp_all [litCell]; done)
      | (split at h <;> simp_all [litCell]; done)
      | (simp_all [litCell]; done)
      | skip
    · split at h
      · rename_i hk
        simp only [Option.some.injEq, Prod.mk.injEq, DataW.lit.injEq] at h
        obtain ⟨rfl, rfl⟩ := h
        obtain ⟨rfl, _⟩ := hk
        simp only [litCell, Option.some.injEq] at hv
        rw [hv]
      · cases h
    · split at h
      · simp only [Option.some.injEq, Prod.mk.injEq, DataW.lit.injEq] at h
        obtain ⟨rfl, rfl⟩ := h
        simp [litCell] at hv
      · cases h
    · split at h
      · simp only [Option.some.injEq, Prod.mk.injEq, DataW.lit.injEq] at h
        obtain ⟨rfl, rfl⟩ := h
        simp only [litCell, Option.some.injEq] at hv
        rw [← hv]
      · cases h
    · obtain ⟨_, _, e⟩ := Option.map_eq_some_iff.1 h
      cases e
    · dsimp only at h
      split at h
      · obtain ⟨_, _, h2⟩ := Option.bind_eq_some_iff.1 h
        obtain ⟨_, _, e⟩ := Option.map_eq_some_iff.1 h2
        cases e
      · cases h
    · split at h
      · split at h
        · obtain ⟨_, _, h2⟩ := Option.bind_eq_some_iff.1 h
          dsimp only at h2
          split at h2 <;> cases h2
        · cases h
      · cases h

theorem cells_known {w : World} {base : Nat} {sp : Nat → Bool} {held : Bool} : ∀ {n : Nat} {t : TypeId} {d : DataW H} {cs' : List Value} {fuel : Nat} {cs : List Value} {p : List MemPlace},
    cellsIn P n t d = some cs' → DataW.trod enc P w base sp held fuel t cs = some (d, p) → cs = cs'
  | 0, _, _, _, _, _, _, h, _ => by simp [cellsIn] at h
  | n + 1, t, d, cs', fuel, cs, p, h, hd => by
    simp only [cellsIn] at h
    split at h
    · rename_i ps ds hp
      split at h
      · rename_i hlen
        simp only [Option.bind_eq_some_iff] at h
        obtain ⟨rs, hrs, h⟩ := h
        split at h
        · rename_i hend
          simp only [Option.some.injEq] at h
          subst h
          obtain ⟨xs, m, rfl, hx, hcl, hxl, hat⟩ := trod_parts hp hd
          simp only [DataW.agg.injEq] at hx
          have := tiled (cs := cs) hend (fun i o l hi => ?_) hcl
          · simpa using this
          · have hrl := mapM_some_length hrs
            have hil : i < rs.length := by
              rcases Nat.lt_or_ge i rs.length with h | h
              · exact h
              · rw [List.getElem?_eq_none h] at hi
                cases hi
            have hiz : i < (ps.zip ds).length := by omega
            have hz : (ps.zip ds)[i]? = some ((ps.zip ds)[i]) := List.getElem?_eq_getElem hiz
            have hg := mapM_some_get hrs i _ hz
            rw [hi] at hg
            simp only [Option.bind_eq_some_iff] at hg
            obtain ⟨l', hl', hg⟩ := hg
            split at hg
            · rename_i hcl'
              simp only [Option.some.injEq, Prod.mk.injEq] at hg
              obtain ⟨ho, rfl⟩ := hg
              have hps : ps[i]? = some (((ps.zip ds)[i]).1.1, ((ps.zip ds)[i]).1.2) := by
                simp at hiz
                simp [List.getElem?_eq_getElem (show i < ps.length by omega)]
              have h2 := hat i _ _ hps
              have hds : xs[i]? = some (((ps.zip ds)[i]).2, (xs[i]'(by simp at hiz; omega)).2) := by
                simp at hiz
                have e1 : ds[i]? = (xs.map (·.1))[i]? := by rw [hx]
                have hxi : i < xs.length := by omega
                rw [List.getElem?_map, List.getElem?_eq_getElem hxi, List.getElem?_eq_getElem (show i < ds.length by omega)] at e1
                simp only [Option.map_some, Option.some.injEq] at e1
                rw [List.getElem?_eq_getElem hxi]
                simp [e1]
              rw [hds] at h2
              have h3 := cells_known hl' h2
              rw [← hcl', ho] at h3
              exact h3
            · cases hg
        · cases h
      · cases h
    · rename_i l hp
      simp only [Option.map_eq_some_iff] at h
      obtain ⟨v, hv, rfl⟩ := h
      exact trod_lit hv hd
    · cases h
end

section
variable {P : Program}

theorem known_of_vars {w : World} {name : String} {d : DataW Unit} {g : Nat} {t : TypeId} {n : Nat} {cs : List Value}
    (hg : P.globalNamed name = some g) (ht : (P.globals[g]?).map (·.type) = some t) (hc : cellsIn P n t d = some cs) :
    ∀ {l : List (String × DataW Unit)} {ps : List MemPlace}, DataW.LaidVars P w l ps → (name, d) ∈ l → w.var? P name = some cs.toArray
  | [], _, _, hm => by cases hm
  | (m, e) :: r, ps, h, hm => by
    obtain ⟨g', t', cs', fuel, p, q, hg', ht', hv, hd, hr, _⟩ := h
    rcases List.mem_cons.1 hm with he | hm'
    · simp only [Prod.mk.injEq] at he
      obtain ⟨rfl, rfl⟩ := he
      obtain rfl := Option.some.inj (hg.symm.trans hg')
      obtain rfl := Option.some.inj (ht.symm.trans ht')
      rw [hv, ← cells_known hc hd]
    · exact known_of_vars hg ht hc hr hm'

/-- WHAT THE ROW's CONDITION GIVES: each cell of the listed variable. -/
theorem known_of_laid {w : World} {name : String} {d : DataW Unit} {g : Nat} {t : TypeId} {n : Nat} {cs : List Value} {l : List (String × DataW Unit)}
    (hL : laidMetH P l w) (hp : (l.all fun x => x.2.handleName?.isNone) = true) (hm : (name, d) ∈ l)
    (hg : P.globalNamed name = some g) (ht : (P.globals[g]?).map (·.type) = some t) (hc : cellsIn P n t d = some cs) (i : Nat) : w.cell? ⟨g, i, none⟩ = cs[i]? := by
  have hL' : laidMet P l w := by
    unfold laidMetH at hL
    have e : (l.filter fun x => x.2.handleName?.isSome) = [] := by
      rw [List.filter_eq_nil_iff]
      intro x hx
      have := List.all_eq_true.1 hp x hx
      simpa using this
    rw [e] at hL
    exact hL
  obtain ⟨ps, hv, _⟩ := hL'
  have := World.var?_cell hg (known_of_vars hg ht hc hv hm) i
  simpa using this
end

section
variable {H : Type} {enc : TypeId × Value → H} {P : Program}

/-- Every field is an integer of that kind. -/
def allInts (P : Program) (k : IntKind) (fs : Array Field) : Bool := fs.toList.all fun f => match P.underlying f.type with
  | some (.int k') => decide (k' = k)
  | _ => false

def theInt : Value → Int
  | .int _ n => n
  | _ => 0

/-- A struct of integers that came in, whatever the number of its fields. -/
theorem open_ints_struct {w : World} {r : Reach} {b0 base : Nat} {sp : Nat → Bool} {held : Bool} {t : TypeId} {k : IntKind} {fs : Array Field} {v : Value} {d : DataW H} {p : List MemPlace}
    (ht : P.underlying t = some (.struct fs)) (hone : Go.Deep.oneCellFields P fs = true) (hk : allInts P k fs = true) (hC : P.cellsOf t = fs.size)
    (hval : Value.okWide P w r b0 t v) (h : DataW.Trod enc P w base sp held t v d p) :
    ∃ zs : List Int, v = .agg (zs.map fun z => Value.int k z).toArray ∧ zs.length = fs.size ∧ ∀ z ∈ zs, (Lit.int k z).wf = true := by
  obtain ⟨cs, rfl, hsz⟩ := okWide_struct ht hval
  obtain ⟨fuel, hf⟩ := h
  obtain ⟨xs, n, rfl, hx, hcl, hxl, hat⟩ := DataW.trod_struct ht hf
  have hat' : ∀ i (hi : i < cs.size), ∃ z, cs[i] = .int k z ∧ (Lit.int k z).wf = true := by
    intro i hi
    have hif : i < fs.size := by omega
    have hfi : fs[i]? = some fs[i] := Array.getElem?_eq_getElem hif
    obtain ⟨ho, hc1⟩ := Go.Deep.hone_of hone i _ hfi
    have h1 := hat i _ hfi
    rw [ho, hc1, List.getElem?_eq_getElem (show i < xs.length by omega)] at h1
    have ha := List.all_eq_true.1 hk fs[i] (Array.getElem_mem_toList hif)
    split at ha
    · rename_i k' hu
      simp only [decide_eq_true_eq] at ha
      subst ha
      obtain ⟨z, hz, _, hw⟩ := DataW.trod_int hu h1
      refine ⟨z, ?_, hw⟩
      have e := congrArg (·[0]?) hz
      simp [Value.cells] at e
      rw [Array.getElem?_eq_getElem hi] at e
      exact Option.some.inj e
    · cases ha
  refine ⟨cs.toList.map theInt, ?_, by simp; omega, ?_⟩
  · congr 1
    apply Array.ext
    · simp
    · intro i h1 h2
      obtain ⟨z, hz, _⟩ := hat' i h1
      simp [hz, theInt]
  · intro z hz
    obtain ⟨v, hv, rfl⟩ := List.mem_map.1 hz
    obtain ⟨i, hi, rfl⟩ := List.getElem_of_mem hv
    obtain ⟨z, hz, hw⟩ := hat' i (by simpa using hi)
    simp only [Array.getElem_toList, hz, theInt]
    exact hw
end

/-- Behind a call that keeps what lies below: each old cell and each old mark reads as it did. -/
theorem kept_cells {W w1 : World} (hb : Below W.heap.size W w1) : (∀ b o, b < W.heap.size → w1.cell? ⟨b, o, none⟩ = W.cell? ⟨b, o, none⟩) ∧ (∀ b o, b < W.heap.size → w1.frozen? ⟨b, o, none⟩ = W.frozen? ⟨b, o, none⟩) := by
  constructor
  · intro b o hlt
    exact Below.cell hb (p := ⟨b, o, none⟩) hlt
  · intro b o hlt
    exact Below.frozen hb (p := ⟨b, o, none⟩) hlt

section
variable {P : Program}
/-- An array's element by value: at an index that it has. -/
theorem run_index_arr {t e : TypeId} {n : Nat} {k k' : IntKind} (h : P.underlying t = some (.array n e)) (he : P.underlying e = some (.int k')) (hq' : (P.info? e).map (·.size) = some 1)
    (cs : Array Value) (j : Nat) (v : Value) (hj : j < n) (hc : cs[j]? = some v) (w : World) : (Instr.index t (.agg cs) (.int k j)).run P w = .ok v w := by
  have hagg : (isAgg e).run P w = .ok false w := by
    unfold isAgg
    simp [Sem.run_bind, run_underlying he]
  obtain ⟨i, hq, hs⟩ := Option.map_eq_some_iff.1 hq'
  simp [Instr.index, asIntOf, run_underlying h, hj, sizeOf, typeInfo, hq, hs, part, hagg, hc]
end

end Go.Proofs.Ytdpkkfmnnegpiaa
