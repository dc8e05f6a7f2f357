/- Slices of strings that a call makes and grows; that came in: appending to them, reading them, over any program. (XSlices, for strings.) -/
import Derived.Test.YtbkagnhficmdhaaDoorLift
import Derived.Maps.AppendAt
import Derived.Laws.AppendOwnNone
import Derived.OwnWalk
import Derived.Handy
import Derived.Lib.Hide
import Derived.Deep.Strs
namespace Go.Proofs.YtbkagnhficmdhaaDoor
open Go.ChangeShapes Go.WideShapes Go.ChangeAt Go.RowKit
set_option linter.unusedVariables false

/-- The slice's n cells are these strings. -/
def Strs (w : World) (A : Option Addr) (n : Nat) (zs : List ByteArray) : Prop :=
  zs.length = n ∧ (0 < n → ∃ b off, A = some ⟨b, off, none⟩ ∧ b < w.heap.size ∧ ∀ j, j < n → w.cell? ⟨b, off + j, none⟩ = some (.string (zs.getD j ⟨#[]⟩)))

theorem Strs.below {w w' : World} {A : Option Addr} {n : Nat} {zs : List ByteArray} (h : Strs w A n zs) (hb : Below w.heap.size w w') : Strs w' A n zs :=
  ⟨h.1, fun hn => by
    obtain ⟨b, off, rfl, hlt, hc⟩ := h.2 hn
    exact ⟨b, off, rfl, Nat.lt_of_lt_of_le hlt hb.size, fun j hj => (hb.cell (p := ⟨b, off + j, none⟩) hlt).trans (hc j hj)⟩⟩

/-- A slice of strings that came in. -/
theorem open_strs {H : Type} {enc : TypeId × Value → H} {P : Program} {w : World} {r : Reach} {b0 : Nat} {t e : TypeId} {v : Value} {d : DataW H} {ps : List MemPlace}
    (ht : P.underlying t = some (.slice e)) (he : P.underlying e = some .string) (hc : P.cellsOf e = 1) (hval : Value.okWide P w r b0 t v) (hd : DataW.Trod enc P w 0 (fun _ => true) true t v d ps) :
    ∃ A n c zs, v = .slice A n c ∧ Strs w A n zs ∧ n ≤ maxLen ∧ ∀ z ∈ zs, z.size ≤ maxLen := by
  obtain ⟨a0, len, cap, rfl⟩ := okWide_slice ht hval
  obtain ⟨fuel, hf⟩ := hd
  rcases Go.Deep.open_strs ht he hc hf with ⟨hcs, hx⟩ | ⟨a, len', cap', m, Sx, hcs, _, hl, hm, hmm, hx, hcell⟩
  · simp [Value.cells] at hcs
    obtain ⟨rfl, rfl, rfl⟩ := hcs
    exact ⟨none, 0, 0, [], rfl, ⟨rfl, fun h => absurd h (by omega)⟩, Nat.zero_le _, fun z h => by cases h⟩
  · simp [Value.cells] at hcs
    obtain ⟨rfl, rfl, rfl⟩ := hcs
    simp only [if_true] at hmm
    subst hmm
    refine ⟨some a, len, m, (List.range len).map Sx, rfl, ⟨by simp, fun h0 => ?_⟩, by omega, fun z hz => ?_⟩
    · obtain ⟨c0, _⟩ := hcell 0 (by omega)
      obtain ⟨b, off, spot⟩ := a
      have hspot : spot = none := by simpa [Addr.add] using World.cell?_spot c0
      subst hspot
      refine ⟨b, off, rfl, ?_, fun j hj => ?_⟩
      · have := block_lt c0
        rwa [Go.WideShapes.add_plain] at this
      · rw [← Go.WideShapes.add_plain, (hcell j (by omega)).1]
        simp [List.getD, hj]
    · obtain ⟨j, hj, rfl⟩ := List.mem_map.1 hz
      exact (hcell j (by have := List.mem_range.1 hj; omega)).2

/-- t is the slice type of e, whose values are integers of kind k, of so many bytes. -/
structure StrRow (P : Program) (t e : TypeId) : Prop where
  under : P.underlying t = some (.slice e)
  some_ : ∃ i, P.info? e = some i ∧ i.zero = some (.string ⟨#[]⟩) ∧ i.size = 1 ∧ i.bytes = 16

theorem strRow_mk {P : Program} {t e : TypeId} (h : P.underlying t = some (.slice e)) (hi : (P.info? e).map (fun i => (i.zero, i.size, i.bytes)) = some (some (.string ⟨#[]⟩), 1, 16)) : StrRow P t e := by
  refine ⟨h, ?_⟩
  cases hp : P.info? e with
  | none => rw [hp] at hi; cases hi
  | some i =>
    rw [hp] at hi
    simp only [Option.map_some, Option.some.injEq, Prod.mk.injEq] at hi
    exact ⟨i, rfl, hi.1, hi.2.1, hi.2.2⟩

/-- The slice v is the call's own (from block B on), and its n elements are these numbers. -/
def OwnsS (e : TypeId) (w : World) (B : Nat) (v : Value) (n : Nat) (zs : List ByteArray) : Prop := w.ownsRow B e 1 v n (zs.map Value.string)
section
variable {e : TypeId} {w w' : World} {B : Nat} {v : Value} {n : Nat} {zs : List ByteArray}

theorem OwnsS.len (h : OwnsS e w B v n zs) : zs.length = n := by simpa using h.1

theorem OwnsS.nil (e : TypeId) (w : World) (B : Nat) : OwnsS e w B (.slice none 0 0) 0 [] := ⟨rfl, .inl ⟨rfl, rfl⟩⟩

theorem OwnsS.more {B' : Nat} (h : OwnsS e w B v n zs) (hB : B' ≤ B) : OwnsS e w B' v n zs := by
  refine ⟨h.1, ?_⟩
  rcases h.2 with h1 | ⟨g, cap, cur, a1, a2, a3⟩
  · exact .inl h1
  · exact .inr ⟨g, cap, cur, a1, by omega, a3⟩

theorem OwnsS.form (h : OwnsS e w B v n zs) : ∃ A c, v = .slice A n c ∧ Strs w A n zs := by
  rcases h.2 with ⟨rfl, rfl⟩ | ⟨g, cap, cur, rfl, hb, hg, hn, hm, hs, ht⟩
  · exact ⟨none, 0, rfl, h.len, fun h0 => absurd h0 (by omega)⟩
  · refine ⟨_, cap, rfl, h.len, fun h0 => ⟨g, 0, rfl, ?_, fun j hj => ?_⟩⟩
    · rcases Nat.lt_or_ge g w.heap.size with h1 | h1
      · exact h1
      · rw [Array.getElem?_eq_none h1] at hg; cases hg
    · have hl := h.len
      have hz : (zs.map Value.string)[j]? = some (Value.string (zs.getD j ⟨#[]⟩)) := by
        have : j < zs.length := by omega
        simp [List.getD, this]
      rw [← ht, List.getElem?_take] at hz
      split at hz
      · rw [Nat.zero_add, cell_of_row w g j cur e (0, 0) hg]
        simpa using hz
      · cases hz

theorem OwnsS.nums {A : Option Addr} {m c : Nat} (h : OwnsS e w B (.slice A m c) n zs) : Strs w A n zs := by
  obtain ⟨A', c', h1, h2⟩ := h.form
  injection h1 with h1 _ _
  rw [h1]; exact h2

/-- Where the own row lies. -/
theorem OwnsS.lt (h : OwnsS e w B v n zs) : ∀ b, v.ownBlock = some b → B ≤ b ∧ b < w.heap.size := World.ownsRow.lt h

theorem OwnsS.kept {row : Option Nat} (h : OwnsS e w B v n zs) (hg : w.grownBy w' row) (hne : v.ownBlock = none ∨ v.ownBlock ≠ row) : OwnsS e w' B v n zs := World.ownsRow.kept h hg hne

theorem OwnsS.below (h : OwnsS e w B v n zs) (hb : Below w.heap.size w w') : OwnsS e w' B v n zs :=
  World.ownsRow.kept (row := none) h ⟨hb.os, hb.tape, hb.output, hb.size, fun i hi _ => hb.block i hi⟩ (by cases hv : v.ownBlock <;> simp)

theorem OwnsS.alloc (h : OwnsS e w B v n zs) (o : Obj) : OwnsS e (w.alloc o) B v n zs := World.ownsRow.alloc h o
end

/-- A slice that was just written out. -/
theorem ownsS_built (e : TypeId) (w : World) (zs : List ByteArray) (cs : Array Value) (hc : cs = (zs.map Value.string).toArray) (n : Nat) (hn : n = zs.length) (hm : n ≤ maxLen) (B : Nat) (hB : B ≤ w.heap.size) (g : Nat) (hg : g = w.heap.size) :
    OwnsS e (w.alloc (.cells cs e)) B (.slice (some ⟨g, 0, none⟩) n n) n zs := by
  subst hc hn hg
  refine ⟨by simp, .inr ⟨w.heap.size, zs.length, (zs.map Value.string).toArray, rfl, hB, heap_alloc_new w _, Nat.le_refl _, hm, by simp, by simp only [Nat.mul_one]; exact List.take_of_length_le (by simp)⟩⟩

section
variable {P : Program} (w : World)

theorem run_append_strs {t ty e : TypeId} (R : StrRow P t e) (B : Nat) (v : Value) (n : Nat) (ys : List ByteArray) (hown : OwnsS e w B v n ys)
    (A : Option Addr) (m c : Nat) (zs : List ByteArray) (hz : Strs w A m zs) (hmax : (n + m) * 16 ≤ 140737488355328) (hbase : B ≤ w.heap.size) :
    ∃ v' w', (Builtin.append_ #[t, t] ty #[v, .slice A m c]).run P w = .ok v' w' ∧ OwnsS e w' B v' (n + m) (ys ++ zs) ∧ w.grownBy w' v.ownBlock ∧ (v'.ownBlock = v.ownBlock ∨ v'.ownBlock = some w.heap.size) := by
  obtain ⟨ht, ⟨i, hi, hz0, hs, hb⟩⟩ := R
  have h63 : n + m ≤ maxLen := by
    have := Nat.le_mul_of_pos_right (n + m) (show 0 < 16 by omega)
    simp only [maxLen]; omega
  rcases A with _ | ad
  · have hm : m = 0 := by
      rcases Nat.eq_zero_or_pos m with h0 | h0
      · exact h0
      · obtain ⟨b, off, h, _⟩ := hz.2 h0; cases h
    subst hm
    have hzn : zs = [] := List.eq_nil_of_length_eq_zero hz.1
    subst hzn
    refine ⟨v, w, ?_, by simpa using hown, World.grownBy.refl w _, .inl rfl⟩
    rcases hown.2 with ⟨rfl, rfl⟩ | ⟨g, cap, cur, rfl, _, _, hnc, _⟩
    · simp [Builtin.append_, run_underlying ht, sizeOf, typeInfo, hi, Builtin.lenOf, Builtin.firstCells]
    · simp [Builtin.append_, run_underlying ht, sizeOf, typeInfo, hi, Builtin.lenOf, Builtin.firstCells, hnc, storeCells]
  · have hcells : ∀ j u, (zs.map Value.string)[j]? = some u → w.cell? (ad.add j) = some u := by
      intro j u hu
      have hj : j < zs.length := by
        have := (List.getElem?_eq_some_iff.1 hu).1
        simpa using this
      obtain ⟨b, off, h, _, hc⟩ := hz.2 (by have := hz.1; omega)
      injection h with h
      subst h
      rw [Go.WideShapes.add_plain, hc j (by have := hz.1; omega)]
      simp [hj] at hu
      simp [List.getD, hj, hu]
    obtain ⟨v', w', hrun, h2, h3, _, h5⟩ := run_append_own_at (P := P) w B t ty e i (.string ⟨#[]⟩) 1 16 ht hi hz0 hs hb rfl (by decide) v n (ys.map Value.string) hown ad m c (zs.map Value.string) (by simpa using hz.1) hcells
      (fun u hu => by obtain ⟨z, _, rfl⟩ := List.mem_map.1 hu; rfl) h63 hmax hbase
    exact ⟨v', w', hrun, by unfold OwnsS; rw [List.map_append]; exact h2, h3, h5⟩

theorem wpList_append_strs {ops : Array Oper} {rest : List Oper} {o : Oper} {a : Act} {Q : Exit → Act → World → Prop} (hgd : o.guard = none) (s x : Operand) {t e : TypeId}
    (ho : o.op = .call { callee := .builtin .append, args := #[s, x], argTypes := #[t, t] }) (R : StrRow P t e) (B : Nat) (v : Value) (n : Nat) (ys : List ByteArray) (hs : a.eval s = v) (hown : OwnsS e w B v n ys)
    (A : Option Addr) (m c : Nat) (zs : List ByteArray) (hx : a.eval x = .slice A m c) (hz : Strs w A m zs) (hmax : (n + m) * 16 ≤ 140737488355328) (hbase : B ≤ w.heap.size)
    (h : ∀ v' w', OwnsS e w' B v' (n + m) (ys ++ zs) → w.grownBy w' v.ownBlock → (v'.ownBlock = v.ownBlock ∨ v'.ownBlock = some w.heap.size) → wpList P ops Q rest (a.put o.dst v') w') : wpList P ops Q (o :: rest) a w := by
  refine wpList_plain hgd fun K hK => ?_
  obtain ⟨v', w', hrun, h2, h3, h4⟩ := run_append_strs (P := P) (ty := o.type) w R B v n ys hown A m c zs hz hmax hbase
  unfold Oper.wp execOp
  simp only [ho, resolve, invoke, builtin, Sem.run_bind, Sem.run_pure, Result.andThen_ok, List.map_toArray, List.map_cons, List.map_nil, hs, hx, hrun]
  exact hK _ _ (h v' w' h2 h3 h4)
end

/-- The world below B stays as it was when the call's own row grows. -/
theorem OwnsS.grown_below {e : TypeId} {a w w' : World} {B : Nat} {v : Value} {n : Nat} {zs : List ByteArray} (hb : Below B a w) (h : OwnsS e w B v n zs) (hg : w.grownBy w' v.ownBlock) (hB : B ≤ w.heap.size) : Below B a w' :=
  hb.grown hg hB (fun b hk => (h.lt b hk).1)

theorem strs_built (e : TypeId) (w : World) (zs : List ByteArray) (cs : Array Value) (hc : cs = (zs.map Value.string).toArray) (n : Nat) (hn : n = zs.length) (hm : n ≤ maxLen) (g : Nat) (hg : g = w.heap.size) :
    Strs (w.alloc (.cells cs e)) (some ⟨g, 0, none⟩) n zs := (ownsS_built e w zs cs hc n hn hm w.heap.size (Nat.le_refl _) g hg).nums

end Go.Proofs.YtbkagnhficmdhaaDoor
