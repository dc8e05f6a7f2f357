/- Package cpu and its answers: what went out: a slice of structs of the call's own. -/
import Derived.Test.YtinpdgjbiimgkaaDoorCpuA
import Derived.Deep.RegionLaw
import Derived.Maps.AppendAt
namespace Go.Proofs.YtinpdgjbiimgkaaDoor
open Go.ChangeShapes Go.WideShapes Go.ChangeAt Go.RowKit
set_option linter.unusedVariables false

/-- Events, as cells. -/
def evCells (evs : List (Int × Int)) : List Value := evs.flatMap fun e => [.int .i64 e.1, .int .i32 e.2]

theorem evCells_len (evs : List (Int × Int)) : (evCells evs).length = evs.length * 2 := by
  unfold evCells
  induction evs with
  | nil => rfl
  | cons a l ih => simp [List.flatMap_cons, ih]; omega

theorem evCells_append (xs ys : List (Int × Int)) : evCells (xs ++ ys) = evCells xs ++ evCells ys := by
  unfold evCells
  simp

theorem evCells_get {evs : List (Int × Int)} {j : Nat} (h : j < evs.length) : (evCells evs)[2 * j]? = some (.int .i64 (evs.getD j (0, 0)).1) ∧ (evCells evs)[2 * j + 1]? = some (.int .i32 (evs.getD j (0, 0)).2) := by
  induction evs generalizing j with
  | nil => simp at h
  | cons a l ih =>
    have hc : evCells (a :: l) = .int .i64 a.1 :: .int .i32 a.2 :: evCells l := by simp [evCells]
    rw [hc]
    cases j with
    | zero => simp
    | succ j =>
      have := ih (j := j) (by simpa using h)
      rw [show 2 * (j + 1) = 2 * j + 1 + 1 by omega, show 2 * j + 1 + 1 + 1 = 2 * j + 1 + 1 + 1 from rfl]
      simpa using this

theorem evCells_one {evs : List (Int × Int)} : ∀ u ∈ evCells evs, u.oneCell' = true := by
  intro u hu
  unfold evCells at hu
  simp only [List.mem_flatMap] at hu
  obtain ⟨e, _, he⟩ := hu
  simp at he
  rcases he with rfl | rfl <;> rfl

/-- The slice's cells are these events. -/
def Evs (w : World) (A : Option Addr) (m : Nat) (evs : List (Int × Int)) : Prop :=
  evs.length = m ∧ (0 < m → ∃ b off, A = some ⟨b, off, none⟩ ∧ b < w.heap.size ∧ ∀ j u, (evCells evs)[j]? = some u → w.cell? ⟨b, off + j, none⟩ = some u)

theorem Evs.below {w w' : World} {A : Option Addr} {m : Nat} {evs : List (Int × Int)} (h : Evs w A m evs) (hb : Below w.heap.size w w') : Evs w' A m evs :=
  ⟨h.1, fun hn => by
    obtain ⟨b, off, rfl, hlt, hc⟩ := h.2 hn
    exact ⟨b, off, rfl, Nat.lt_of_lt_of_le hlt hb.size, fun j u hu => (hb.cell (p := ⟨b, off + j, none⟩) hlt).trans (hc j u hu)⟩⟩

/-- The slice v is the call's own (from block B on), and holds these events. -/
def Outs (w : World) (B : Nat) (v : Value) (evs : List (Int × Int)) : Prop := w.ownsRow B 82 2 v evs.length (evCells evs)

theorem Outs.nil (w : World) (B : Nat) : Outs w B (.slice none 0 0) [] := World.ownsRow_nil w B _ 2

theorem Outs.lt {w : World} {B : Nat} {v : Value} {evs : List (Int × Int)} (h : Outs w B v evs) : ∀ b, v.ownBlock = some b → B ≤ b ∧ b < w.heap.size := World.ownsRow.lt h

theorem Outs.kept {w w' : World} {B : Nat} {v : Value} {evs : List (Int × Int)} {row : Option Nat} (h : Outs w B v evs) (hg : w.grownBy w' row) (hne : v.ownBlock = none ∨ v.ownBlock ≠ row) : Outs w' B v evs := World.ownsRow.kept h hg hne

theorem Outs.below {w w' : World} {B : Nat} {v : Value} {evs : List (Int × Int)} (h : Outs w B v evs) (hb : Below w.heap.size w w') : Outs w' B v evs :=
  World.ownsRow.kept (row := none) h ⟨hb.os, hb.tape, hb.output, hb.size, fun i hi _ => hb.block i hi⟩ (by cases hv : v.ownBlock <;> simp)

/-- Blocks that are none of the slice's own may turn. -/
theorem Outs.but {w w' : World} {B : Nat} {v : Value} {evs : List (Int × Int)} {L : List Nat} (h : Outs w B v evs) (hb : But L w w') (hne : ∀ b, v.ownBlock = some b → b ∉ L) : Outs w' B v evs := by
  refine ⟨h.1, ?_⟩
  rcases h.2 with h1 | ⟨g, cap, cur, rfl, a2, a3, a4⟩
  · exact .inl h1
  · refine .inr ⟨g, cap, cur, rfl, a2, ?_, a4⟩
    have hlt : g < w.heap.size := by
      rcases Nat.lt_or_ge g w.heap.size with h1 | h1
      · exact h1
      · rw [Array.getElem?_eq_none h1] at a3; cases a3
    exact (hb.block g hlt (hne g rfl)).trans a3

theorem Outs.more {w : World} {B B' : Nat} {v : Value} {evs : List (Int × Int)} (h : Outs w B v evs) (hB : B' ≤ B) : Outs w B' v evs := by
  refine ⟨h.1, ?_⟩
  rcases h.2 with h1 | ⟨g, cap, cur, a1, a2, a3⟩
  · exact .inl h1
  · exact .inr ⟨g, cap, cur, a1, by omega, a3⟩

theorem Outs.form {w : World} {B : Nat} {v : Value} {evs : List (Int × Int)} (h : Outs w B v evs) : ∃ A c, v = .slice A evs.length c ∧ Evs w A evs.length evs := by
  rcases h.2 with ⟨rfl, h0⟩ | ⟨g, cap, cur, rfl, hb, hg, hn, hm, hs, ht⟩
  · exact ⟨none, 0, by rw [h0], rfl, fun h1 => absurd h1 (by omega)⟩
  · refine ⟨_, cap, rfl, rfl, fun h0 => ⟨g, 0, rfl, ?_, fun j u hu => ?_⟩⟩
    · rcases Nat.lt_or_ge g w.heap.size with h1 | h1
      · exact h1
      · rw [Array.getElem?_eq_none h1] at hg; cases hg
    · rw [← ht, List.getElem?_take] at hu
      split at hu
      · rw [Nat.zero_add, cell_of_row w g j cur _ (0, 0) hg]
        simpa using hu
      · cases hu

theorem evInfo : ∃ i, Tryd.prog.info? 82 = some i ∧ i.zero = some (.agg #[.int .i64 0, .int .i32 0]) ∧ i.size = 2 ∧ i.bytes = 16 := by
  have h : (Tryd.prog.info? 82).map (fun i => (i.zero, i.size, i.bytes)) = some (some (.agg #[.int .i64 0, .int .i32 0]), 2, 16) := by kernel_rfl
  cases hp : Tryd.prog.info? 82 with
  | none => rw [hp] at h; cases h
  | some i =>
    rw [hp] at h
    simp only [Option.map_some, Option.some.injEq, Prod.mk.injEq] at h
    exact ⟨i, rfl, h.1, h.2.1, h.2.2⟩

set_option maxRecDepth 100000 in
theorem run_append_evs (w : World) (ty : TypeId) (B : Nat) (v : Value) (ys : List (Int × Int)) (hown : Outs w B v ys)
    (A : Option Addr) (m c : Nat) (zs : List (Int × Int)) (hz : Evs w A m zs) (hmax : ys.length + m ≤ 1000000000) (hbase : B ≤ w.heap.size) :
    ∃ v' w', (Builtin.append_ #[36, 36] ty #[v, .slice A m c]).run Tryd.prog w = .ok v' w' ∧ Outs w' B v' (ys ++ zs) ∧ w.grownBy w' v.ownBlock ∧ (v'.ownBlock = v.ownBlock ∨ v'.ownBlock = some w.heap.size) := by
  obtain ⟨i, hi, hz0, hs, hb⟩ := evInfo
  have ht : Tryd.prog.underlying 36 = some (.slice 82) := Tryd.underlying36
  have h63 : ys.length + m ≤ maxLen := by simp only [maxLen]; omega
  have hzl := hz.1
  rcases A with _ | ad
  · have hm : m = 0 := by
      rcases Nat.eq_zero_or_pos m with h0 | h0
      · exact h0
      · obtain ⟨b, off, h, _⟩ := hz.2 h0; cases h
    subst hm
    have hzn : zs = [] := List.eq_nil_of_length_eq_zero hzl
    subst hzn
    refine ⟨v, w, ?_, by simpa using hown, World.grownBy.refl w _, .inl rfl⟩
    rcases hown.2 with ⟨rfl, h0⟩ | ⟨g, cap, cur, rfl, _, _, hnc, _⟩
    · simp [Builtin.append_, run_underlying ht, sizeOf, typeInfo, hi, Builtin.lenOf, Builtin.firstCells]
    · simp [Builtin.append_, run_underlying ht, sizeOf, typeInfo, hi, Builtin.lenOf, Builtin.firstCells, hnc, storeCells]
  · have hcells : ∀ j u, (evCells zs)[j]? = some u → w.cell? (ad.add j) = some u := by
      intro j u hu
      have hj : j < (evCells zs).length := (List.getElem?_eq_some_iff.1 hu).1
      rw [evCells_len] at hj
      obtain ⟨b, off, h, _, hc⟩ := hz.2 (by omega)
      injection h with h
      subst h
      rw [Go.WideShapes.add_plain]
      exact hc j u hu
    obtain ⟨v', w', hrun, h2, h3, _, h5⟩ := run_append_own_at (P := Tryd.prog) w B 36 ty 82 i (.agg #[.int .i64 0, .int .i32 0]) 2 16 ht hi hz0 hs hb rfl (by decide) v ys.length (evCells ys) hown ad m c (evCells zs) (by rw [evCells_len, hzl]) hcells
      evCells_one h63 (by omega) hbase
    refine ⟨v', w', hrun, ?_, h3, h5⟩
    unfold Outs
    rw [evCells_append, List.length_append, hzl]
    exact h2

/-- append to what went out, as one step of a region that draws. -/
theorem step_append_evs {ops : Array Oper} {o : Oper} {a : Act} {w : World} {K : Act → World → Prop} {Q : Exit → Act → World → Prop} {E : Prop}
    (hg : o.guard = none) (s x : Operand) (hop : o.op = Op.call { callee := Callee.builtin Builtin.append, args := #[s, x], argTypes := #[36, 36] })
    (B : Nat) (v : Value) (ys : List (Int × Int)) (hs : a.eval s = v) (hown : Outs w B v ys) (A : Option Addr) (m c : Nat) (zs : List (Int × Int)) (hx : a.eval x = .slice A m c) (hz : Evs w A m zs) (hmax : ys.length + m ≤ 1000000000) (hbase : B ≤ w.heap.size)
    (hK : ∀ v' w', Outs w' B v' (ys ++ zs) → w.grownBy w' v.ownBlock → (v'.ownBlock = v.ownBlock ∨ v'.ownBlock = some w.heap.size) → K (a.put o.dst v') w') :
    if Region.wanted o (yielded ops a.tmps) = true then Oper.wp Tryd.prog o a w K Q else E := by
  have hw : Region.wanted o (yielded ops a.tmps) = true := by simp [Region.wanted, hg]
  rw [if_pos hw]
  obtain ⟨v', w', hrun, r1, r2, r3⟩ := run_append_evs w o.type B v ys hown A m c zs hz hmax hbase
  unfold Oper.wp
  simp [execOp, hop, resolve, invoke, builtin, hs, hx, hrun, Result.andThen]
  exact hK v' w' r1 r2 r3

theorem evs_made (w : World) (n z : Int) (g : Nat) (hg : g = w.heap.size) : Evs (w.alloc (.cells #[.int .i64 n, .int .i32 z] 82)) (some ⟨g, 0, none⟩) 1 [(n, z)] := by
  refine ⟨rfl, fun _ => ⟨g, 0, rfl, by simp [hg], fun j u hu => ?_⟩⟩
  rw [Nat.zero_add, (Whole.made w 82 #[.int .i64 n, .int .i32 z] g hg).cell j]
  simpa [evCells] using hu

theorem But.of_grown {w w' : World} {L : List Nat} {row : Option Nat} (hg : w.grownBy w' row) (hL : ∀ b, row = some b → b ∈ L) : But L w w' :=
  ⟨hg.os, hg.tape, hg.output, hg.size, fun k hk hn => hg.block k hk (fun e => hn (hL k e.symm))⟩
end Go.Proofs.YtinpdgjbiimgkaaDoor
