/- Types: the types as plain data; own rows of structs: read, stored into, kept, appended to. -/
import Derived.Test.YtabkldahgjicbaaLift
import Derived.Test.YtabkldahgjicbaaBlocks
import Derived.Maps.AppendAt
import Derived.Laws.AppendOwnNone
import Derived.OwnWalk
import Derived.Handy
import Derived.Lib.Hide
import Derived.Deep.Strs
import Derived.Deep.RegionLawGrows
namespace Go.Proofs.Ytabkldahgjicbaa
open Go.ChangeShapes Go.WideShapes Go.ChangeAt Go.RowKit
set_option linter.unusedVariables false
set_option linter.unusedSimpArgs false

theorem flat_at {α : Type} (f : α → List Value) (k : Nat) (hk : ∀ x, (f x).length = k) (d : α) : ∀ (l : List α) (t j : Nat), t < l.length → j < k → (l.flatMap f)[t * k + j]? = (f (l.getD t d))[j]?
  | [], t, j, ht, _ => absurd ht (by simp)
  | x :: l, 0, j, _, hj => by
    rw [List.flatMap_cons, Nat.zero_mul, Nat.zero_add, List.getElem?_append_left (by rw [hk]; exact hj)]
    rfl
  | x :: l, t + 1, j, ht, hj => by
    have e : (t + 1) * k + j = k + (t * k + j) := by rw [Nat.add_mul]; omega
    rw [List.flatMap_cons, List.getElem?_append_right (by rw [hk, e]; omega), hk, e, Nat.add_sub_cancel_left, flat_at f k hk d l t j (by simpa using ht) hj]
    rfl

theorem flat_set {α : Type} (f : α → List Value) (k : Nat) (hk : ∀ x, (f x).length = k) (d : α) (y : α) (j : Nat) (u : Value) : ∀ (l : List α) (t : Nat), t < l.length → j < k → f y = (f (l.getD t d)).set j u → (l.flatMap f).set (t * k + j) u = (l.set t y).flatMap f
  | [], t, ht, _, _ => absurd ht (by simp)
  | x :: l, 0, _, hj, hy => by
    rw [List.flatMap_cons, Nat.zero_mul, Nat.zero_add, List.set_append_left _ _ (by rw [hk]; exact hj), List.set_cons_zero, List.flatMap_cons, hy]
    rfl
  | x :: l, t + 1, ht, hj, hy => by
    have e : (t + 1) * k + j = k + (t * k + j) := by rw [Nat.add_mul]; omega
    rw [List.flatMap_cons, e, List.set_append_right _ _ (by rw [hk]; omega), hk, Nat.add_sub_cancel_left, flat_set f k hk d y j u l t (by simpa using ht) hj hy, List.set_cons_succ, List.flatMap_cons]

section
variable {α : Type} {f : α → List Value} {k : Nat} {w w' : World} {B : Nat} {e : TypeId} {sz : Nat} {v : Value} {n : Nat} {xs : List Value}

theorem row_form (h : w.ownsRow B e sz v n xs) : ∃ A c, v = .slice A n c := by
  rcases h.2 with ⟨h1, h2⟩ | ⟨g, cap, cur, h1, _⟩
  · exact ⟨none, 0, by rw [h2]; exact h1⟩
  · exact ⟨_, _, h1⟩

theorem row_nil (w : World) (B : Nat) (e : TypeId) (sz : Nat) : w.ownsRow B e sz (.slice none 0 0) 0 [] := ⟨by simp, .inl ⟨rfl, rfl⟩⟩

/-- A row that lies from block B on lies from any lesser one on. -/
theorem row_more {B' : Nat} (h : w.ownsRow B e sz v n xs) (hB : B' ≤ B) : w.ownsRow B' e sz v n xs := by
  refine ⟨h.1, ?_⟩
  rcases h.2 with h1 | ⟨g, cap, cur, a1, a2, a3⟩
  · exact .inl h1
  · exact .inr ⟨g, cap, cur, a1, by omega, a3⟩

theorem row_below (h : w.ownsRow B e sz v n xs) (hb : Below w.heap.size w w') : w'.ownsRow B e sz v n xs :=
  World.ownsRow.kept (row := none) h ⟨hb.os, hb.tape, hb.output, hb.size, fun i hi _ => hb.block i hi⟩ (by cases hv : v.ownBlock <;> simp)

theorem row_cell (hk : ∀ x, (f x).length = k) (d : α) {A : Option Addr} {c : Nat} {l : List α} (h : w.ownsRow B e k (.slice A n c) n (l.flatMap f)) (hn : l.length = n) {t : Nat} (ht : t < n) : n ≤ c ∧ ∃ g, A = some ⟨g, 0, none⟩ ∧ B ≤ g ∧ g < w.heap.size ∧ ∀ j, j < k → w.cell? ⟨g, t * k + j, none⟩ = (f (l.getD t d))[j]? ∧ w.frozen? ⟨g, t * k + j, none⟩ = false := by
  rcases h.2 with ⟨_, h2⟩ | ⟨g, cap, cur, h1, hB, hg, hcap, _, hsz, htk⟩
  · omega
  · injection h1 with h1 h2 h3
    subst h1 h3
    have hW : Whole w g e cur := hg
    refine ⟨hcap, g, rfl, hB, hW.lt, fun j hj => ⟨?_, hW.free _⟩⟩
    have hm : (t + 1) * k ≤ n * k := Nat.mul_le_mul_right k ht
    rw [Nat.add_mul] at hm
    rw [hW.cell (t * k + j), ← flat_at f k hk d l t j (by omega) hj, ← htk, List.getElem?_take, if_pos (by omega), Array.getElem?_toList]

/-- A cell of an own row stored into. -/
theorem row_set {g c : Nat} (h : w.ownsRow B e sz (.slice (some ⟨g, 0, none⟩) n c) n xs) {j : Nat} (u : Value) : (w.setCell ⟨g, j, none⟩ u).ownsRow B e sz (.slice (some ⟨g, 0, none⟩) n c) n (xs.set j u) := by
  rcases h.2 with ⟨h1, _⟩ | ⟨g', cap, cur, h1, hB, hg, hcap, hm, hsz, htk⟩
  · cases h1
  · injection h1 with h1 _ h3
    injection h1 with h1
    injection h1 with h1 _ _
    subst h1 h3
    have hW : Whole w g e cur := hg
    exact ⟨by rw [List.length_set]; exact h.1, .inr ⟨g, c, _, rfl, hB, hW.store j u, hcap, hm, by simpa using hsz, by rw [← htk, Array.toList_setIfInBounds, List.take_set]⟩⟩

theorem row_ne {g : Nat} {o : Obj} (h : w.ownsRow B e sz v n xs) (hb : w.heap[g]? = some o) (ho : ∀ c fz, o ≠ .cells c e fz) : v.ownBlock ≠ some g := by
  rcases h.2 with ⟨rfl, _⟩ | ⟨g', cap, cur, rfl, _, hg, _⟩
  · simp [Value.ownBlock]
  · intro he
    simp only [Value.ownBlock, Option.some.injEq] at he
    subst he
    rw [hg] at hb
    exact ho _ _ (Option.some.inj hb).symm

/-- Two own rows of other element types lie apart. -/
theorem row_apart {B' : Nat} {e' : TypeId} {sz' : Nat} {v' : Value} {n' : Nat} {xs' : List Value} (h : w.ownsRow B e sz v n xs) (h' : w.ownsRow B' e' sz' v' n' xs') (hne : e ≠ e') : v.ownBlock = none ∨ v.ownBlock ≠ v'.ownBlock := by
  rcases h.2 with ⟨rfl, _⟩ | ⟨g, cap, cur, rfl, _, hg, _⟩
  · exact .inl rfl
  · right
    rcases h'.2 with ⟨rfl, _⟩ | ⟨g', cap', cur', rfl, _, hg', _⟩
    · simp [Value.ownBlock]
    · intro he
      simp only [Value.ownBlock, Option.some.injEq] at he
      subst he
      rw [hg] at hg'
      exact hne (by injection hg' with h; injection h)

/-- A row that was just written out. -/
theorem row_built (w : World) (cs : Array Value) (n c : Nat) (hs : cs.size = c * sz) (hn : n ≤ c) (hm : c ≤ maxLen) (B : Nat) (hB : B ≤ w.heap.size) (g : Nat) (hg : g = w.heap.size) (xs : List Value) (hx : cs.toList.take (n * sz) = xs) :
    (w.alloc (.cells cs e)).ownsRow B e sz (.slice (some ⟨g, 0, none⟩) n c) n xs := by
  subst hg hx
  refine ⟨by rw [List.length_take, Array.length_toList, hs]; exact Nat.min_eq_left (Nat.mul_le_mul_right _ hn), .inr ⟨w.heap.size, c, cs, rfl, hB, heap_alloc_new w _, hn, hm, hs, rfl⟩⟩
end

/-- append to an own row, as one step of a region that draws. -/
theorem step_app {P : Program} {ops : Array Oper} {o : Oper} {a : Act} {w : World} {K : Act → World → Prop} {Q : Exit → Act → World → Prop} {E : Prop}
    (hg : o.guard = none) (s x : Operand) (t : TypeId) (hop : o.op = Op.call { callee := Callee.builtin Builtin.append, args := #[s, x], argTypes := #[t, t] })
    (base : Nat) (e : TypeId) (i : TypeInfo) (z : Value) (size bytes : Nat) (ht : P.underlying t = some (.slice e)) (hi : P.info? e = some i) (hz : i.zero = some z)
    (hsize : i.size = size) (hby : i.bytes = bytes) (hzs : z.cells.size = size) (hsz : 0 < size)
    (v : Value) (n : Nat) (xs : List Value) (hs : a.eval s = v) (hown : w.ownsRow base e size v n xs)
    (ad : Addr) (m c : Nat) (news : List Value) (hx : a.eval x = .slice (some ad) m c) (hl : news.length = m * size) (hnews : ∀ j u, news[j]? = some u → w.cell? (ad.add j) = some u) (h1 : ∀ u ∈ news, u.oneCell' = true)
    (h63 : n + m ≤ maxLen) (hbytes : (n + m) * bytes ≤ 140737488355328) (hbase : base ≤ w.heap.size)
    (hK : ∀ v' w', w'.ownsRow base e size v' (n + m) (xs ++ news) → w.grownBy w' v.ownBlock → (v'.ownBlock = v.ownBlock ∨ v'.ownBlock = some w.heap.size) → K (a.put o.dst v') w') :
    if Region.wanted o (yielded ops a.tmps) = true then Oper.wp P o a w K Q else E := by
  have hw : Region.wanted o (yielded ops a.tmps) = true := by simp [Region.wanted, hg]
  rw [if_pos hw]
  obtain ⟨v', w', hrun, r1, r2, _, r4⟩ := run_append_own_at (P := P) w base t o.type e i z size bytes ht hi hz hsize hby hzs hsz v n xs hown ad m c news hl hnews h1 h63 hbytes hbase
  unfold Oper.wp
  simp [execOp, hop, resolve, invoke, builtin, hs, hx, hrun, Result.andThen]
  exact hK v' w' r1 r2 r4

/-- append to an own row, of another row that may be nil or empty. -/
theorem run_app_any {P : Program} (w : World) (base : Nat) (t ty e : TypeId) (i : TypeInfo) (z : Value) (size bytes : Nat) (ht : P.underlying t = some (.slice e)) (hi : P.info? e = some i) (hz : i.zero = some z)
    (hsize : i.size = size) (hby : i.bytes = bytes) (hzs : z.cells.size = size) (hsz : 0 < size)
    (v : Value) (n : Nat) (xs : List Value) (hown : w.ownsRow base e size v n xs)
    {B' : Nat} (v2 : Value) (m : Nat) (ys : List Value) (hown2 : w.ownsRow B' e size v2 m ys) (h1 : ∀ u ∈ ys, u.oneCell' = true)
    (h63 : n + m ≤ maxLen) (hbytes : (n + m) * bytes ≤ 140737488355328) (hbase : base ≤ w.heap.size) :
    ∃ v' w', (Builtin.append_ #[t, t] ty #[v, v2]).run P w = .ok v' w' ∧ w'.ownsRow base e size v' (n + m) (xs ++ ys) ∧ w.grownBy w' v.ownBlock ∧ (v'.ownBlock = v.ownBlock ∨ v'.ownBlock = some w.heap.size) := by
  rcases hown2.2 with ⟨rfl, rfl⟩ | ⟨g, cap, cur, rfl, hB, hg, hcap, _, hs, htk⟩
  · have hy : ys = [] := List.eq_nil_of_length_eq_zero (by rw [hown2.1, Nat.zero_mul])
    subst hy
    refine ⟨v, w, ?_, by simpa using hown, World.grownBy.refl w _, .inl rfl⟩
    rcases hown.2 with ⟨rfl, rfl⟩ | ⟨g, cap, cur, rfl, _, _, hnc, _⟩
    · simp [Builtin.append_, run_underlying ht, sizeOf, typeInfo, hi, Builtin.lenOf, Builtin.firstCells]
    · simp [Builtin.append_, run_underlying ht, sizeOf, typeInfo, hi, Builtin.lenOf, Builtin.firstCells, hnc, storeCells]
  · obtain ⟨v', w', hrun, r1, r2, _, r4⟩ := run_append_own_at (P := P) w base t ty e i z size bytes ht hi hz hsize hby hzs hsz v n xs hown ⟨g, 0, none⟩ m cap ys hown2.1 (fun j u hu => World.ownsRow.cells hown2 (g := g) rfl j u hu) h1 h63 hbytes hbase
    exact ⟨v', w', hrun, r1, r2, r4⟩

/-- .. as one step of a region that draws. -/
theorem step_app_any {P : Program} {ops : Array Oper} {o : Oper} {a : Act} {w : World} {K : Act → World → Prop} {Q : Exit → Act → World → Prop} {E : Prop}
    (hg : o.guard = none) (s x : Operand) (t : TypeId) (hop : o.op = Op.call { callee := Callee.builtin Builtin.append, args := #[s, x], argTypes := #[t, t] })
    (base : Nat) (e : TypeId) (i : TypeInfo) (z : Value) (size bytes : Nat) (ht : P.underlying t = some (.slice e)) (hi : P.info? e = some i) (hz : i.zero = some z)
    (hsize : i.size = size) (hby : i.bytes = bytes) (hzs : z.cells.size = size) (hsz : 0 < size)
    (v : Value) (n : Nat) (xs : List Value) (hs : a.eval s = v) (hown : w.ownsRow base e size v n xs)
    {B' : Nat} (v2 : Value) (m : Nat) (ys : List Value) (hx : a.eval x = v2) (hown2 : w.ownsRow B' e size v2 m ys) (h1 : ∀ u ∈ ys, u.oneCell' = true)
    (h63 : n + m ≤ maxLen) (hbytes : (n + m) * bytes ≤ 140737488355328) (hbase : base ≤ w.heap.size)
    (hK : ∀ v' w', w'.ownsRow base e size v' (n + m) (xs ++ ys) → w.grownBy w' v.ownBlock → (v'.ownBlock = v.ownBlock ∨ v'.ownBlock = some w.heap.size) → K (a.put o.dst v') w') :
    if Region.wanted o (yielded ops a.tmps) = true then Oper.wp P o a w K Q else E := by
  have hw : Region.wanted o (yielded ops a.tmps) = true := by simp [Region.wanted, hg]
  rw [if_pos hw]
  obtain ⟨v', w', hrun, r1, r2, r4⟩ := run_app_any (P := P) w base t o.type e i z size bytes ht hi hz hsize hby hzs hsz v n xs hown v2 m ys hown2 h1 h63 hbytes hbase
  unfold Oper.wp
  simp [execOp, hop, resolve, invoke, builtin, hs, hx, hrun, Result.andThen]
  exact hK v' w' r1 r2 r4

/-- .. in a walk. -/
theorem wp_app_any {P : Program} (w : World) {ops : Array Oper} {rest : List Oper} {o : Oper} {a : Act} {Q : Exit → Act → World → Prop} (hgd : o.guard = none) (s x : Operand) (t : TypeId) (ho : o.op = Op.call { callee := Callee.builtin Builtin.append, args := #[s, x], argTypes := #[t, t] })
    (base : Nat) (e : TypeId) (i : TypeInfo) (z : Value) (size bytes : Nat) (ht : P.underlying t = some (.slice e)) (hi : P.info? e = some i) (hz : i.zero = some z)
    (hsize : i.size = size) (hby : i.bytes = bytes) (hzs : z.cells.size = size) (hsz : 0 < size)
    (v : Value) (n : Nat) (xs : List Value) (hs : a.eval s = v) (hown : w.ownsRow base e size v n xs)
    {B' : Nat} (v2 : Value) (m : Nat) (ys : List Value) (hx : a.eval x = v2) (hown2 : w.ownsRow B' e size v2 m ys) (h1 : ∀ u ∈ ys, u.oneCell' = true)
    (h63 : n + m ≤ maxLen) (hbytes : (n + m) * bytes ≤ 140737488355328) (hbase : base ≤ w.heap.size)
    (h : ∀ v' w', w'.ownsRow base e size v' (n + m) (xs ++ ys) → w.grownBy w' v.ownBlock → (v'.ownBlock = v.ownBlock ∨ v'.ownBlock = some w.heap.size) → wpList P ops Q rest (a.put o.dst v') w') : wpList P ops Q (o :: rest) a w := by
  refine wpList_plain hgd fun K hK => ?_
  obtain ⟨v', w', hrun, r1, r2, r4⟩ := run_app_any (P := P) w base t o.type e i z size bytes ht hi hz hsize hby hzs hsz v n xs hown v2 m ys hown2 h1 h63 hbytes hbase
  unfold Oper.wp execOp
  simp only [ho, resolve, invoke, builtin, Sem.run_bind, Sem.run_pure, Result.andThen_ok, List.map_toArray, List.map_cons, List.map_nil, hs, hx, hrun]
  exact hK _ _ (h v' w' r1 r2 r4)

/-! ### The types -/

/-- A field. -/
structure Fd where
  name : ByteArray
  ty : Int
  off : Int

/-- A type. -/
structure Ty where
  kind : Int
  len : Int
  base : Int
  size : Int
  opn : Bool
  fds : List Fd

/-- A type in memory: with the value of its fields. -/
abbrev Tx := Ty × Value

def Fd.cells (f : Fd) : List Value := [.string f.name, .int .i64 f.ty, .int .i64 f.off]

def txCells (x : Tx) : List Value := [.int .i64 x.1.kind, .int .i64 x.1.len, .int .i64 x.1.base, .int .i64 x.1.size, .bool x.1.opn, x.2]

def zT : Ty := ⟨0, 0, 0, 0, false, []⟩

def zX : Tx := (zT, .slice none 0 0)

def zF : Fd := ⟨⟨#[]⟩, 0, 0⟩

/-- The type of a number; none's. -/
def getX (L : List Tx) (id : Int) : Tx := if 0 ≤ id ∧ id < L.length then L.getD id.toNat zX else zX

def getT (L : List Ty) (id : Int) : Ty := if 0 ≤ id ∧ id < L.length then L.getD id.toNat zT else zT

theorem getX_fst (L : List Tx) (id : Int) : (getX L id).1 = getT (L.map (·.1)) id := by
  unfold getX getT
  rw [List.length_map]
  split
  · rename_i h
    have : id.toNat < L.length := by omega
    simp [List.getD, this]
  · rfl

abbrev pT : TypeId := 42
abbrev pF : TypeId := 32
abbrev pB : TypeId := 65
abbrev rT : TypeId := 46
abbrev rF : TypeId := 36

/-- Types lie in memory: a row of E's, the fields of each a row of F's. -/
structure RowsX (E F : TypeId) (w : World) (B : Nat) (v : Value) (L : List Tx) : Prop where
  rows : w.ownsRow B E 6 v L.length (L.flatMap txCells)
  fds : ∀ x ∈ L, w.ownsRow B F 3 x.2 x.1.fds.length (x.1.fds.flatMap Fd.cells)

theorem RowsX.below {E F : TypeId} {w w' : World} {B : Nat} {v : Value} {L : List Tx} (h : RowsX E F w B v L) (hb : Below w.heap.size w w') : RowsX E F w' B v L :=
  ⟨row_below h.rows hb, fun x hx => row_below (h.fds x hx) hb⟩

theorem RowsX.more {E F : TypeId} {w : World} {B B' : Nat} {v : Value} {L : List Tx} (h : RowsX E F w B v L) (hB : B' ≤ B) : RowsX E F w B' v L :=
  ⟨row_more h.rows hB, fun x hx => row_more (h.fds x hx) hB⟩

/-- The fields of the type of a number. -/
theorem RowsX.get {E F : TypeId} {w : World} {B : Nat} {v : Value} {L : List Tx} (h : RowsX E F w B v L) (id : Int) : w.ownsRow B F 3 (getX L id).2 (getX L id).1.fds.length ((getX L id).1.fds.flatMap Fd.cells) := by
  unfold getX
  split
  · rename_i hh
    refine h.fds _ ?_
    have : id.toNat < L.length := by omega
    rw [List.getD_eq_getElem?_getD, List.getElem?_eq_getElem this]
    exact List.getElem_mem this
  · exact row_nil _ _ _ _

/-- A type of the table, by its parts. -/
theorem RowsX.parts {E F : TypeId} {w : World} {B : Nat} {v : Value} {L : List Tx} (h : RowsX E F w B v L) (id : Int) : ∃ k ln bs sz op fds Af cf, getX L id = (⟨k, ln, bs, sz, op, fds⟩, .slice Af fds.length cf) := by
  obtain ⟨Af, cf, hfv⟩ := row_form (h.get id)
  generalize getX L id = x at *
  obtain ⟨⟨k, ln, bs, sz, op, fds⟩, fv⟩ := x
  exact ⟨k, ln, bs, sz, op, fds, Af, cf, by rw [show fv = .slice Af fds.length cf from hfv]⟩

/-- The program's table in memory. -/
structure TabAt (w : World) (B p : Nat) (v : Value) (L : List Tx) : Prop where
  blk : Whole w p pB #[v]
  le : B ≤ p
  rows : RowsX pT pF w B v L
  apart : ∀ i j, i < L.length → j < L.length → i ≠ j → (L.getD i zX).2.ownBlock = none ∨ (L.getD i zX).2.ownBlock ≠ (L.getD j zX).2.ownBlock

theorem TabAt.below {w w' : World} {B p : Nat} {v : Value} {L : List Tx} (h : TabAt w B p v L) (hb : Below w.heap.size w w') : TabAt w' B p v L :=
  ⟨h.blk.below hb h.blk.lt, h.le, h.rows.below hb, h.apart⟩

/-- What stays where the table is changed: all below block B, all that is not the table's. -/
structure KeptT (B : Nat) (w w' : World) : Prop where
  os : w'.os = w.os
  tape : w'.tape = w.tape
  output : w'.output = w.output
  size : w.heap.size ≤ w'.heap.size
  block : ∀ k, k < w.heap.size → (k < B ∨ ∀ cs t z, w.heap[k]? = some (.cells cs t z) → t ≠ pB ∧ t ≠ pT ∧ t ≠ pF) → w'.heap[k]? = w.heap[k]?

theorem KeptT.ofBelow {B : Nat} {w w' : World} (h : Below w.heap.size w w') : KeptT B w w' :=
  ⟨h.os, h.tape, h.output, h.size, fun k hk _ => h.block k hk⟩

theorem KeptT.trans {B : Nat} {a b c : World} (h : KeptT B a b) (k : KeptT B b c) : KeptT B a c :=
  ⟨k.os.trans h.os, k.tape.trans h.tape, k.output.trans h.output, Nat.le_trans h.size k.size, fun i hi hc => by
    have e := h.block i hi hc
    refine (k.block i (Nat.lt_of_lt_of_le hi h.size) ?_).trans e
    rw [e]
    exact hc⟩

theorem KeptT.below {B : Nat} {a w w' : World} (h : Below B a w) (k : KeptT B w w') (hB : B ≤ w.heap.size) : Below B a w' :=
  ⟨k.os.trans h.os, k.tape.trans h.tape, k.output.trans h.output, Nat.le_trans h.size k.size, fun i hi => (k.block i (Nat.lt_of_lt_of_le hi hB) (.inl hi)).trans (h.block i hi)⟩

theorem KeptT.row {B B' : Nat} {w w' : World} {e : TypeId} {sz : Nat} {v : Value} {n : Nat} {xs : List Value} (k : KeptT B w w') (h : w.ownsRow B' e sz v n xs) (h1 : e ≠ pB) (h2 : e ≠ pT) (h3 : e ≠ pF) : w'.ownsRow B' e sz v n xs := by
  refine ⟨h.1, ?_⟩
  rcases h.2 with h0 | ⟨g, cap, cur, a1, a2, hg, rest⟩
  · exact .inl h0
  · have hW : Whole w g e cur := hg
    exact .inr ⟨g, cap, cur, a1, a2, (k.block g hW.lt (.inr fun cs t z hh => by rw [hg] at hh; injection hh with hh; injection hh with _ hh _; subst hh; exact ⟨h1, h2, h3⟩)).trans hg, rest⟩

theorem KeptT.rows {B B' : Nat} {w w' : World} {v : Value} {L : List Tx} (k : KeptT B w w') (h : RowsX rT rF w B' v L) : RowsX rT rF w' B' v L :=
  ⟨k.row h.rows (by decide) (by decide) (by decide), fun x hx => k.row (h.fds x hx) (by decide) (by decide) (by decide)⟩
theorem field_p0 (k ln bs sz : Int) (op : Bool) (fv : Value) : ∀ w : World, (Instr.field 42 (.agg #[.int .i64 k, .int .i64 ln, .int .i64 bs, .int .i64 sz, .bool op, fv]) 0).run Try.prog w = .ok (.int .i64 k) w := fun _ => by kernel_rfl

theorem field_p3 (k ln bs sz : Int) (op : Bool) (fv : Value) : ∀ w : World, (Instr.field 42 (.agg #[.int .i64 k, .int .i64 ln, .int .i64 bs, .int .i64 sz, .bool op, fv]) 3).run Try.prog w = .ok (.int .i64 sz) w := fun _ => by kernel_rfl

theorem field_p4 (k ln bs sz : Int) (op : Bool) (fv : Value) : ∀ w : World, (Instr.field 42 (.agg #[.int .i64 k, .int .i64 ln, .int .i64 bs, .int .i64 sz, .bool op, fv]) 4).run Try.prog w = .ok (.bool op) w := fun _ => by kernel_rfl

theorem field_r0 (k ln bs sz : Int) (op : Bool) (fv : Value) : ∀ w : World, (Instr.field 46 (.agg #[.int .i64 k, .int .i64 ln, .int .i64 bs, .int .i64 sz, .bool op, fv]) 0).run Try.prog w = .ok (.int .i64 k) w := fun _ => by kernel_rfl

theorem field_r3 (k ln bs sz : Int) (op : Bool) (fv : Value) : ∀ w : World, (Instr.field 46 (.agg #[.int .i64 k, .int .i64 ln, .int .i64 bs, .int .i64 sz, .bool op, fv]) 3).run Try.prog w = .ok (.int .i64 sz) w := fun _ => by kernel_rfl

theorem field_r4 (k ln bs sz : Int) (op : Bool) (fv : Value) : ∀ w : World, (Instr.field 46 (.agg #[.int .i64 k, .int .i64 ln, .int .i64 bs, .int .i64 sz, .bool op, fv]) 4).run Try.prog w = .ok (.bool op) w := fun _ => by kernel_rfl

end Go.Proofs.Ytabkldahgjicbaa
