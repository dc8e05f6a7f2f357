/- Slices of integers that a call makes and grows: appending to them, reading them, over any program. -/
import Derived.Test.YtdakooipelligaaLift
import Derived.Maps.AppendAt
import Derived.Laws.AppendOwnNone
import Derived.OwnWalk
import Derived.Handy
import Derived.Lib.Hide
namespace Go.Proofs.Ytdakooipelligaa
open Go.ChangeShapes Go.WideShapes Go.ChangeAt Go.RowKit
set_option linter.unusedVariables false

/-- t is the slice type of e, whose values are integers of kind k, of so many bytes. -/
structure RowOf (P : Program) (t e : TypeId) (k : IntKind) (bytes : Nat) : Prop where
  under : P.underlying t = some (.slice e)
  some_ : ∃ i, P.info? e = some i ∧ i.zero = some (.int k 0) ∧ i.size = 1 ∧ i.bytes = bytes
  pos : 1 ≤ bytes

theorem rowOf_mk {P : Program} {t e : TypeId} {k : IntKind} {bytes : Nat} (h : P.underlying t = some (.slice e)) (hi : (P.info? e).map (fun i => (i.zero, i.size, i.bytes)) = some (some (.int k 0), 1, bytes)) (hb : 1 ≤ bytes) : RowOf P t e k bytes := by
  refine ⟨h, ?_, hb⟩
  cases hp : P.info? e with
  | none => rw [hp] at hi; cases hi
  | some i =>
    rw [hp] at hi
    simp only [Option.map_some, Option.some.injEq, Prod.mk.injEq] at hi
    exact ⟨i, rfl, hi.1, hi.2.1, hi.2.2⟩

/-- The slice v is the call's own (from block B on), and its n elements are these numbers. -/
def Owns (k : IntKind) (e : TypeId) (w : World) (B : Nat) (v : Value) (n : Nat) (zs : List Int) : Prop := w.ownsRow B e 1 v n (zs.map (Value.int k))
section
variable {k : IntKind} {e : TypeId} {w w' : World} {B : Nat} {v : Value} {n : Nat} {zs : List Int}

theorem Owns.len (h : Owns k e w B v n zs) : zs.length = n := by simpa using h.1

theorem Owns.nil (k : IntKind) (e : TypeId) (w : World) (B : Nat) : Owns k e w B (.slice none 0 0) 0 [] := ⟨rfl, .inl ⟨rfl, rfl⟩⟩

theorem Owns.more {B' : Nat} (h : Owns k e w B v n zs) (hB : B' ≤ B) : Owns k e w B' v n zs := by
  refine ⟨h.1, ?_⟩
  rcases h.2 with h1 | ⟨g, cap, cur, a1, a2, a3⟩
  · exact .inl h1
  · exact .inr ⟨g, cap, cur, a1, by omega, a3⟩

theorem Owns.form (h : Owns k e w B v n zs) : ∃ A c, v = .slice A n c ∧ Nums k w A n zs := by
  rcases h.2 with ⟨rfl, rfl⟩ | ⟨g, cap, cur, rfl, hb, hg, hn, hm, hs, ht⟩
  · exact ⟨none, 0, rfl, h.len, fun h0 => absurd h0 (by omega)⟩
  · refine ⟨_, cap, rfl, h.len, fun h0 => ⟨g, 0, rfl, ?_, fun j hj => ?_⟩⟩
    · rcases Nat.lt_or_ge g w.heap.size with h1 | h1
      · exact h1
      · rw [Array.getElem?_eq_none h1] at hg; cases hg
    · have hl := h.len
      have hz : (zs.map (Value.int k))[j]? = some (Value.int k (zs.getD j 0)) := by
        have : j < zs.length := by omega
        simp [List.getD, this]
      rw [← ht, List.getElem?_take] at hz
      split at hz
      · rw [Nat.zero_add, cell_of_row w g j cur e (0, 0) hg]
        simpa using hz
      · cases hz

theorem Owns.nums {A : Option Addr} {m c : Nat} (h : Owns k e w B (.slice A m c) n zs) : Nums k w A n zs := by
  obtain ⟨A', c', h1, h2⟩ := h.form
  injection h1 with h1 _ _
  rw [h1]; exact h2

/-- Where the own row lies. -/
theorem Owns.lt (h : Owns k e w B v n zs) : ∀ b, v.ownBlock = some b → B ≤ b ∧ b < w.heap.size := World.ownsRow.lt h

theorem Owns.kept {row : Option Nat} (h : Owns k e w B v n zs) (hg : w.grownBy w' row) (hne : v.ownBlock = none ∨ v.ownBlock ≠ row) : Owns k e w' B v n zs := World.ownsRow.kept h hg hne

theorem Owns.below (h : Owns k e w B v n zs) (hb : Below w.heap.size w w') : Owns k e w' B v n zs :=
  World.ownsRow.kept (row := none) h ⟨hb.os, hb.tape, hb.output, hb.size, fun i hi _ => hb.block i hi⟩ (by cases hv : v.ownBlock <;> simp)

theorem Owns.alloc (h : Owns k e w B v n zs) (o : Obj) : Owns k e (w.alloc o) B v n zs := World.ownsRow.alloc h o
end

/-- A slice that was just written out. -/
theorem owns_built (k : IntKind) (e : TypeId) (w : World) (zs : List Int) (cs : Array Value) (hc : cs = (zs.map (Value.int k)).toArray) (n : Nat) (hn : n = zs.length) (hm : n ≤ maxLen) (B : Nat) (hB : B ≤ w.heap.size) (g : Nat) (hg : g = w.heap.size) :
    Owns k e (w.alloc (.cells cs e)) B (.slice (some ⟨g, 0, none⟩) n n) n zs := by
  subst hc hn hg
  refine ⟨by simp, .inr ⟨w.heap.size, zs.length, (zs.map (Value.int k)).toArray, rfl, hB, heap_alloc_new w _, Nat.le_refl _, hm, by simp, by simp only [Nat.mul_one]; exact List.take_of_length_le (by simp)⟩⟩

section
variable {P : Program} (w : World)

theorem run_append_nums {t ty e : TypeId} {k : IntKind} {bytes : Nat} (R : RowOf P t e k bytes) (B : Nat) (v : Value) (n : Nat) (ys : List Int) (hown : Owns k e w B v n ys)
    (A : Option Addr) (m c : Nat) (zs : List Int) (hz : Nums k w A m zs) (hmax : (n + m) * bytes ≤ 140737488355328) (hbase : B ≤ w.heap.size) :
    ∃ v' w', (Builtin.append_ #[t, t] ty #[v, .slice A m c]).run P w = .ok v' w' ∧ Owns k e w' B v' (n + m) (ys ++ zs) ∧ w.grownBy w' v.ownBlock ∧ (v'.ownBlock = v.ownBlock ∨ v'.ownBlock = some w.heap.size) := by
  obtain ⟨ht, ⟨i, hi, hz0, hs, hb⟩, hp⟩ := R
  have h63 : n + m ≤ maxLen := by
    have := Nat.le_mul_of_pos_right (n + m) (show 0 < bytes by omega)
    simp only [maxLen]; omega
  rcases A with _ | ad
  · have hm : m = 0 := by
      rcases Nat.eq_zero_or_pos m with h0 | h0
      · exact h0
      · obtain ⟨b, off, h, _⟩ := hz.2 h0; cases h
    subst hm
    have hzn : zs = [] := List.eq_nil_of_length_eq_zero hz.1
    subst hzn
    refine ⟨v, w, ?_, by simpa using hown, World.grownBy.refl w _, .inl rfl⟩
    rcases hown.2 with ⟨rfl, rfl⟩ | ⟨g, cap, cur, rfl, _, _, hnc, _⟩
    · simp [Builtin.append_, run_underlying ht, sizeOf, typeInfo, hi, Builtin.lenOf, Builtin.firstCells]
    · simp [Builtin.append_, run_underlying ht, sizeOf, typeInfo, hi, Builtin.lenOf, Builtin.firstCells, hnc, storeCells]
  · have hcells : ∀ j u, (zs.map (Value.int k))[j]? = some u → w.cell? (ad.add j) = some u := by
      intro j u hu
      have hj : j < zs.length := by
        have := (List.getElem?_eq_some_iff.1 hu).1
        simpa using this
      obtain ⟨b, off, h, _, hc⟩ := hz.2 (by have := hz.1; omega)
      injection h with h
      subst h
      rw [Go.WideShapes.add_plain, hc j (by have := hz.1; omega)]
      simp [hj] at hu
      simp [List.getD, hj, hu]
    obtain ⟨v', w', hrun, h2, h3, _, h5⟩ := run_append_own_at (P := P) w B t ty e i (.int k 0) 1 bytes ht hi hz0 hs hb rfl (by decide) v n (ys.map (Value.int k)) hown ad m c (zs.map (Value.int k)) (by simpa using hz.1) hcells
      (fun u hu => by obtain ⟨z, _, rfl⟩ := List.mem_map.1 hu; rfl) h63 hmax hbase
    exact ⟨v', w', hrun, by unfold Owns; rw [List.map_append]; exact h2, h3, h5⟩

theorem wpList_append_nums {ops : Array Oper} {rest : List Oper} {o : Oper} {a : Act} {Q : Exit → Act → World → Prop} (hgd : o.guard = none) (s x : Operand) {t e : TypeId} {k : IntKind} {bytes : Nat}
    (ho : o.op = .call { callee := .builtin .append, args := #[s, x], argTypes := #[t, t] }) (R : RowOf P t e k bytes) (B : Nat) (v : Value) (n : Nat) (ys : List Int) (hs : a.eval s = v) (hown : Owns k e w B v n ys)
    (A : Option Addr) (m c : Nat) (zs : List Int) (hx : a.eval x = .slice A m c) (hz : Nums k w A m zs) (hmax : (n + m) * bytes ≤ 140737488355328) (hbase : B ≤ w.heap.size)
    (h : ∀ v' w', Owns k e w' B v' (n + m) (ys ++ zs) → w.grownBy w' v.ownBlock → (v'.ownBlock = v.ownBlock ∨ v'.ownBlock = some w.heap.size) → wpList P ops Q rest (a.put o.dst v') w') : wpList P ops Q (o :: rest) a w := by
  refine wpList_plain hgd fun K hK => ?_
  obtain ⟨v', w', hrun, h2, h3, h4⟩ := run_append_nums (P := P) (ty := o.type) w R B v n ys hown A m c zs hz hmax hbase
  unfold Oper.wp execOp
  simp only [ho, resolve, invoke, builtin, Sem.run_bind, Sem.run_pure, Result.andThen_ok, List.map_toArray, List.map_cons, List.map_nil, hs, hx, hrun]
  exact hK _ _ (h v' w' h2 h3 h4)
end

/-- The world below B stays as it was when the call's own row grows. -/
theorem Owns.grown_below {k : IntKind} {e : TypeId} {a w w' : World} {B : Nat} {v : Value} {n : Nat} {zs : List Int} (hb : Below B a w) (h : Owns k e w B v n zs) (hg : w.grownBy w' v.ownBlock) (hB : B ≤ w.heap.size) : Below B a w' :=
  hb.grown hg hB (fun b hk => (h.lt b hk).1)

theorem nums_built (k : IntKind) (e : TypeId) (w : World) (zs : List Int) (cs : Array Value) (hc : cs = (zs.map (Value.int k)).toArray) (n : Nat) (hn : n = zs.length) (hm : n ≤ maxLen) (g : Nat) (hg : g = w.heap.size) :
    Nums k (w.alloc (.cells cs e)) (some ⟨g, 0, none⟩) n zs := (owns_built k e w zs cs hc n hn hm w.heap.size (Nat.le_refl _) g hg).nums

theorem wpList_make_nums {P : Program} (w : World) {ops : Array Oper} {rest : List Oper} {o : Oper} {a : Act} {Q : Exit → Act → World → Prop} (hgd : o.guard = none) (l c : Operand) {t e : TypeId} {k : IntKind} {bytes : Nat}
    (ho : o.op = Op.makeSlice t l c) (R : RowOf P t e k bytes) (B : Nat) (kl kc : IntKind) (C : Int) (n : Nat) (hl : a.eval l = .int kl 0) (hc : a.eval c = .int kc C) (hC : C = (n : Int)) (hmax : bytes * n ≤ 281474976710656) (hbase : B ≤ w.heap.size)
    (h : ∀ w', Owns k e w' B (.slice (some ⟨w.heap.size, 0, none⟩) 0 n) 0 [] → Below w.heap.size w w' → wpList P ops Q rest (a.put o.dst (.slice (some ⟨w.heap.size, 0, none⟩) 0 n)) w') : wpList P ops Q (o :: rest) a w := by
  obtain ⟨ht, ⟨i, hi, hz0, hs, hb⟩, hp⟩ := R
  have h63 : n ≤ maxLen := by
    have := Nat.le_mul_of_pos_left n (show 0 < bytes by omega)
    simp only [maxLen]; omega
  exact wpList_make_own w hgd l c t ho B e i (.int k 0) 1 ht hi hz0 hs kl kc C n hl hc hC (by rw [hb]; exact hmax) h63 hbase fun w' h1 h2 => h w' h1 ((Below.refl _ _).grown h2 (Nat.le_refl _) (fun b hk => by cases hk))
end Go.Proofs.Ytdakooipelligaa
