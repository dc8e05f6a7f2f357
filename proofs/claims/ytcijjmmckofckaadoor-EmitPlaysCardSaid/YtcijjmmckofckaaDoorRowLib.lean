/- Own rows of structs, over any program: read, stored into, kept, appended to. -/
import Derived.Test.YtcijjmmckofckaaDoorLift
import Derived.Test.YtcijjmmckofckaaDoorBlocks
import Derived.Maps.AppendAt
import Derived.Laws.AppendOwnNone
import Derived.OwnWalk
import Derived.Handy
import Derived.Lib.Hide
import Derived.Deep.Strs
import Derived.Deep.RegionLawGrows
import Derived.Deep.DeepAppendWide
namespace Go.Proofs.YtcijjmmckofckaaDoor
open Go.ChangeShapes Go.WideShapes Go.ChangeAt Go.RowKit
set_option linter.unusedVariables false
set_option linter.unusedSimpArgs false

theorem flat_at {α : Type} (f : α → List Value) (k : Nat) (hk : ∀ x, (f x).length = k) (d : α) : ∀ (l : List α) (t j : Nat), t < l.length → j < k → (l.flatMap f)[t * k + j]? = (f (l.getD t d))[j]?
  | [], t, j, ht, _ => absurd ht (by simp)
  | x :: l, 0, j, _, hj => by
    rw [List.flatMap_cons, Nat.zero_mul, Nat.zero_add, List.getElem?_append_left (by rw [hk]; exact hj)]
    rfl
  | x :: l, t + 1, j, ht, hj => by
    have e : (t + 1) * k + j = k + (t * k + j) := by rw [Nat.add_mul]; omega
    rw [List.flatMap_cons, List.getElem?_append_right (by rw [hk, e]; omega), hk, e, Nat.add_sub_cancel_left, flat_at f k hk d l t j (by simpa using ht) hj]
    rfl

theorem flat_set {α : Type} (f : α → List Value) (k : Nat) (hk : ∀ x, (f x).length = k) (d : α) (y : α) (j : Nat) (u : Value) : ∀ (l : List α) (t : Nat), t < l.length → j < k → f y = (f (l.getD t d)).set j u → (l.flatMap f).set (t * k + j) u = (l.set t y).flatMap f
  | [], t, ht, _, _ => absurd ht (by simp)
  | x :: l, 0, _, hj, hy => by
    rw [List.flatMap_cons, Nat.zero_mul, Nat.zero_add, List.set_append_left _ _ (by rw [hk]; exact hj), List.set_cons_zero, List.flatMap_cons, hy]
    rfl
  | x :: l, t + 1, ht, hj, hy => by
    have e : (t + 1) * k + j = k + (t * k + j) := by rw [Nat.add_mul]; omega
    rw [List.flatMap_cons, e, List.set_append_right _ _ (by rw [hk]; omega), hk, Nat.add_sub_cancel_left, flat_set f k hk d y j u l t (by simpa using ht) hj hy, List.set_cons_succ, List.flatMap_cons]

section
variable {α : Type} {f : α → List Value} {k : Nat} {w w' : World} {B : Nat} {e : TypeId} {sz : Nat} {v : Value} {n : Nat} {xs : List Value}

theorem row_form (h : w.ownsRow B e sz v n xs) : ∃ A c, v = .slice A n c := by
  rcases h.2 with ⟨h1, h2⟩ | ⟨g, cap, cur, h1, _⟩
  · exact ⟨none, 0, by rw [h2]; exact h1⟩
  · exact ⟨_, _, h1⟩

theorem row_nil (w : World) (B : Nat) (e : TypeId) (sz : Nat) : w.ownsRow B e sz (.slice none 0 0) 0 [] := ⟨by simp, .inl ⟨rfl, rfl⟩⟩

/-- A row that lies from block B on lies from any lesser one on. -/
theorem row_more {B' : Nat} (h : w.ownsRow B e sz v n xs) (hB : B' ≤ B) : w.ownsRow B' e sz v n xs := by
  refine ⟨h.1, ?_⟩
  rcases h.2 with h1 | ⟨g, cap, cur, a1, a2, a3⟩
  · exact .inl h1
  · exact .inr ⟨g, cap, cur, a1, by omega, a3⟩

theorem row_below (h : w.ownsRow B e sz v n xs) (hb : Below w.heap.size w w') : w'.ownsRow B e sz v n xs :=
  World.ownsRow.kept (row := none) h ⟨hb.os, hb.tape, hb.output, hb.size, fun i hi _ => hb.block i hi⟩ (by cases hv : v.ownBlock <;> simp)

theorem row_cell (hk : ∀ x, (f x).length = k) (d : α) {A : Option Addr} {c : Nat} {l : List α} (h : w.ownsRow B e k (.slice A n c) n (l.flatMap f)) (hn : l.length = n) {t : Nat} (ht : t < n) : n ≤ c ∧ ∃ g, A = some ⟨g, 0, none⟩ ∧ B ≤ g ∧ g < w.heap.size ∧ ∀ j, j < k → w.cell? ⟨g, t * k + j, none⟩ = (f (l.getD t d))[j]? ∧ w.frozen? ⟨g, t * k + j, none⟩ = false := by
  rcases h.2 with ⟨_, h2⟩ | ⟨g, cap, cur, h1, hB, hg, hcap, _, hsz, htk⟩
  · omega
  · injection h1 with h1 h2 h3
    subst h1 h3
    have hW : Whole w g e cur := hg
    refine ⟨hcap, g, rfl, hB, hW.lt, fun j hj => ⟨?_, hW.free _⟩⟩
    have hm : (t + 1) * k ≤ n * k := Nat.mul_le_mul_right k ht
    rw [Nat.add_mul] at hm
    rw [hW.cell (t * k + j), ← flat_at f k hk d l t j (by omega) hj, ← htk, List.getElem?_take, if_pos (by omega), Array.getElem?_toList]

/-- A cell of an own row stored into. -/
theorem row_set {g c : Nat} (h : w.ownsRow B e sz (.slice (some ⟨g, 0, none⟩) n c) n xs) {j : Nat} (u : Value) : (w.setCell ⟨g, j, none⟩ u).ownsRow B e sz (.slice (some ⟨g, 0, none⟩) n c) n (xs.set j u) := by
  rcases h.2 with ⟨h1, _⟩ | ⟨g', cap, cur, h1, hB, hg, hcap, hm, hsz, htk⟩
  · cases h1
  · injection h1 with h1 _ h3
    injection h1 with h1
    injection h1 with h1 _ _
    subst h1 h3
    have hW : Whole w g e cur := hg
    exact ⟨by rw [List.length_set]; exact h.1, .inr ⟨g, c, _, rfl, hB, hW.store j u, hcap, hm, by simpa using hsz, by rw [← htk, Array.toList_setIfInBounds, List.take_set]⟩⟩

theorem row_ne {g : Nat} {o : Obj} (h : w.ownsRow B e sz v n xs) (hb : w.heap[g]? = some o) (ho : ∀ c fz, o ≠ .cells c e fz) : v.ownBlock ≠ some g := by
  rcases h.2 with ⟨rfl, _⟩ | ⟨g', cap, cur, rfl, _, hg, _⟩
  · simp [Value.ownBlock]
  · intro he
    simp only [Value.ownBlock, Option.some.injEq] at he
    subst he
    rw [hg] at hb
    exact ho _ _ (Option.some.inj hb).symm

/-- Two own rows of other element types lie apart. -/
theorem row_apart {B' : Nat} {e' : TypeId} {sz' : Nat} {v' : Value} {n' : Nat} {xs' : List Value} (h : w.ownsRow B e sz v n xs) (h' : w.ownsRow B' e' sz' v' n' xs') (hne : e ≠ e') : v.ownBlock = none ∨ v.ownBlock ≠ v'.ownBlock := by
  rcases h.2 with ⟨rfl, _⟩ | ⟨g, cap, cur, rfl, _, hg, _⟩
  · exact .inl rfl
  · right
    rcases h'.2 with ⟨rfl, _⟩ | ⟨g', cap', cur', rfl, _, hg', _⟩
    · simp [Value.ownBlock]
    · intro he
      simp only [Value.ownBlock, Option.some.injEq] at he
      subst he
      rw [hg] at hg'
      exact hne (by injection hg' with h; injection h)

/-- A row that was just written out. -/
theorem row_built (w : World) (cs : Array Value) (n c : Nat) (hs : cs.size = c * sz) (hn : n ≤ c) (hm : c ≤ maxLen) (B : Nat) (hB : B ≤ w.heap.size) (g : Nat) (hg : g = w.heap.size) (xs : List Value) (hx : cs.toList.take (n * sz) = xs) :
    (w.alloc (.cells cs e)).ownsRow B e sz (.slice (some ⟨g, 0, none⟩) n c) n xs := by
  subst hg hx
  refine ⟨by rw [List.length_take, Array.length_toList, hs]; exact Nat.min_eq_left (Nat.mul_le_mul_right _ hn), .inr ⟨w.heap.size, c, cs, rfl, hB, heap_alloc_new w _, hn, hm, hs, rfl⟩⟩
end

/-- append to an own row, as one step of a region that draws. -/
theorem step_app {P : Program} {ops : Array Oper} {o : Oper} {a : Act} {w : World} {K : Act → World → Prop} {Q : Exit → Act → World → Prop} {E : Prop}
    (hg : o.guard = none) (s x : Operand) (t : TypeId) (hop : o.op = Op.call { callee := Callee.builtin Builtin.append, args := #[s, x], argTypes := #[t, t] })
    (base : Nat) (e : TypeId) (i : TypeInfo) (z : Value) (size bytes : Nat) (ht : P.underlying t = some (.slice e)) (hi : P.info? e = some i) (hz : i.zero = some z)
    (hsize : i.size = size) (hby : i.bytes = bytes) (hzs : z.cells.size = size) (hsz : 0 < size)
    (v : Value) (n : Nat) (xs : List Value) (hs : a.eval s = v) (hown : w.ownsRow base e size v n xs)
    (ad : Addr) (m c : Nat) (news : List Value) (hx : a.eval x = .slice (some ad) m c) (hl : news.length = m * size) (hnews : ∀ j u, news[j]? = some u → w.cell? (ad.add j) = some u) (h1 : ∀ u ∈ news, u.oneCell' = true)
    (h63 : n + m ≤ maxLen) (hbytes : (n + m) * bytes ≤ 140737488355328) (hbase : base ≤ w.heap.size)
    (hK : ∀ v' w', w'.ownsRow base e size v' (n + m) (xs ++ news) → w.grownBy w' v.ownBlock → (v'.ownBlock = v.ownBlock ∨ v'.ownBlock = some w.heap.size) → K (a.put o.dst v') w') :
    if Region.wanted o (yielded ops a.tmps) = true then Oper.wp P o a w K Q else E := by
  have hw : Region.wanted o (yielded ops a.tmps) = true := by simp [Region.wanted, hg]
  rw [if_pos hw]
  obtain ⟨v', w', hrun, r1, r2, _, r4⟩ := run_append_own_at (P := P) w base t o.type e i z size bytes ht hi hz hsize hby hzs hsz v n xs hown ad m c news hl hnews h1 h63 hbytes hbase
  unfold Oper.wp
  simp [execOp, hop, resolve, invoke, builtin, hs, hx, hrun, Result.andThen]
  exact hK v' w' r1 r2 r4

/-- append to an own row, of another row that may be nil or empty. -/
theorem run_app_any {P : Program} (w : World) (base : Nat) (t ty e : TypeId) (i : TypeInfo) (z : Value) (size bytes : Nat) (ht : P.underlying t = some (.slice e)) (hi : P.info? e = some i) (hz : i.zero = some z)
    (hsize : i.size = size) (hby : i.bytes = bytes) (hzs : z.cells.size = size) (hsz : 0 < size)
    (v : Value) (n : Nat) (xs : List Value) (hown : w.ownsRow base e size v n xs)
    {B' : Nat} (v2 : Value) (m : Nat) (ys : List Value) (hown2 : w.ownsRow B' e size v2 m ys) (h1 : ∀ u ∈ ys, u.oneCell' = true)
    (h63 : n + m ≤ maxLen) (hbytes : (n + m) * bytes ≤ 140737488355328) (hbase : base ≤ w.heap.size) :
    ∃ v' w', (Builtin.append_ #[t, t] ty #[v, v2]).run P w = .ok v' w' ∧ w'.ownsRow base e size v' (n + m) (xs ++ ys) ∧ w.grownBy w' v.ownBlock ∧ (v'.ownBlock = v.ownBlock ∨ v'.ownBlock = some w.heap.size) := by
  rcases hown2.2 with ⟨rfl, rfl⟩ | ⟨g, cap, cur, rfl, hB, hg, hcap, _, hs, htk⟩
  · have hy : ys = [] := List.eq_nil_of_length_eq_zero (by rw [hown2.1, Nat.zero_mul])
    subst hy
    refine ⟨v, w, ?_, by simpa using hown, World.grownBy.refl w _, .inl rfl⟩
    rcases hown.2 with ⟨rfl, rfl⟩ | ⟨g, cap, cur, rfl, _, _, hnc, _⟩
    · simp [Builtin.append_, run_underlying ht, sizeOf, typeInfo, hi, Builtin.lenOf, Builtin.firstCells]
    · simp [Builtin.append_, run_underlying ht, sizeOf, typeInfo, hi, Builtin.lenOf, Builtin.firstCells, hnc, storeCells]
  · obtain ⟨v', w', hrun, r1, r2, _, r4⟩ := run_append_own_at (P := P) w base t ty e i z size bytes ht hi hz hsize hby hzs hsz v n xs hown ⟨g, 0, none⟩ m cap ys hown2.1 (fun j u hu => World.ownsRow.cells hown2 (g := g) rfl j u hu) h1 h63 hbytes hbase
    exact ⟨v', w', hrun, r1, r2, r4⟩

/-- .. as one step of a region that draws. -/
theorem step_app_any {P : Program} {ops : Array Oper} {o : Oper} {a : Act} {w : World} {K : Act → World → Prop} {Q : Exit → Act → World → Prop} {E : Prop}
    (hg : o.guard = none) (s x : Operand) (t : TypeId) (hop : o.op = Op.call { callee := Callee.builtin Builtin.append, args := #[s, x], argTypes := #[t, t] })
    (base : Nat) (e : TypeId) (i : TypeInfo) (z : Value) (size bytes : Nat) (ht : P.underlying t = some (.slice e)) (hi : P.info? e = some i) (hz : i.zero = some z)
    (hsize : i.size = size) (hby : i.bytes = bytes) (hzs : z.cells.size = size) (hsz : 0 < size)
    (v : Value) (n : Nat) (xs : List Value) (hs : a.eval s = v) (hown : w.ownsRow base e size v n xs)
    {B' : Nat} (v2 : Value) (m : Nat) (ys : List Value) (hx : a.eval x = v2) (hown2 : w.ownsRow B' e size v2 m ys) (h1 : ∀ u ∈ ys, u.oneCell' = true)
    (h63 : n + m ≤ maxLen) (hbytes : (n + m) * bytes ≤ 140737488355328) (hbase : base ≤ w.heap.size)
    (hK : ∀ v' w', w'.ownsRow base e size v' (n + m) (xs ++ ys) → w.grownBy w' v.ownBlock → (v'.ownBlock = v.ownBlock ∨ v'.ownBlock = some w.heap.size) → K (a.put o.dst v') w') :
    if Region.wanted o (yielded ops a.tmps) = true then Oper.wp P o a w K Q else E := by
  have hw : Region.wanted o (yielded ops a.tmps) = true := by simp [Region.wanted, hg]
  rw [if_pos hw]
  obtain ⟨v', w', hrun, r1, r2, r4⟩ := run_app_any (P := P) w base t o.type e i z size bytes ht hi hz hsize hby hzs hsz v n xs hown v2 m ys hown2 h1 h63 hbytes hbase
  unfold Oper.wp
  simp [execOp, hop, resolve, invoke, builtin, hs, hx, hrun, Result.andThen]
  exact hK v' w' r1 r2 r4

/-- .. in a walk. -/
theorem wp_app_any {P : Program} (w : World) {ops : Array Oper} {rest : List Oper} {o : Oper} {a : Act} {Q : Exit → Act → World → Prop} (hgd : o.guard = none) (s x : Operand) (t : TypeId) (ho : o.op = Op.call { callee := Callee.builtin Builtin.append, args := #[s, x], argTypes := #[t, t] })
    (base : Nat) (e : TypeId) (i : TypeInfo) (z : Value) (size bytes : Nat) (ht : P.underlying t = some (.slice e)) (hi : P.info? e = some i) (hz : i.zero = some z)
    (hsize : i.size = size) (hby : i.bytes = bytes) (hzs : z.cells.size = size) (hsz : 0 < size)
    (v : Value) (n : Nat) (xs : List Value) (hs : a.eval s = v) (hown : w.ownsRow base e size v n xs)
    {B' : Nat} (v2 : Value) (m : Nat) (ys : List Value) (hx : a.eval x = v2) (hown2 : w.ownsRow B' e size v2 m ys) (h1 : ∀ u ∈ ys, u.oneCell' = true)
    (h63 : n + m ≤ maxLen) (hbytes : (n + m) * bytes ≤ 140737488355328) (hbase : base ≤ w.heap.size)
    (h : ∀ v' w', w'.ownsRow base e size v' (n + m) (xs ++ ys) → w.grownBy w' v.ownBlock → (v'.ownBlock = v.ownBlock ∨ v'.ownBlock = some w.heap.size) → wpList P ops Q rest (a.put o.dst v') w') : wpList P ops Q (o :: rest) a w := by
  refine wpList_plain hgd fun K hK => ?_
  obtain ⟨v', w', hrun, r1, r2, r4⟩ := run_app_any (P := P) w base t o.type e i z size bytes ht hi hz hsize hby hzs hsz v n xs hown v2 m ys hown2 h1 h63 hbytes hbase
  unfold Oper.wp execOp
  simp only [ho, resolve, invoke, builtin, Sem.run_bind, Sem.run_pure, Result.andThen_ok, List.map_toArray, List.map_cons, List.map_nil, hs, hx, hrun]
  exact hK _ _ (h v' w' r1 r2 r4)

theorem grown_set (w : World) (g j : Nat) (u : Value) : w.grownBy (w.setCell ⟨g, j, none⟩ u) (some g) :=
  ⟨rfl, rfl, rfl, by simp [World.setCell], fun k _ hk => Below.heap_setCell w ⟨g, j, none⟩ u k (fun e => hk (by rw [e]))⟩

theorem getD_left {α : Type} {l l' : List α} {i : Nat} (d : α) (h : i < l.length) : (l ++ l').getD i d = l.getD i d := by
  simp [List.getD, List.getElem?_append_left h]

theorem getD_last {α : Type} (l : List α) (x d : α) : (l ++ [x]).getD l.length d = x := by
  simp [List.getD]

theorem cell_later {w w' : World} {g o : Nat} {v : Value} (h : w.cell? ⟨g, o, none⟩ = some v) (hb : Below w.heap.size w w') : w'.cell? ⟨g, o, none⟩ = some v := (hb.cell (p := ⟨g, o, none⟩) (block_lt h)).trans h

theorem list_set_same {α : Type} {l : List α} {j : Nat} {u : α} (h : l[j]? = some u) : l.set j u = l := by
  apply List.ext_getElem?
  intro i
  rw [List.getElem?_set]
  split
  · rename_i e
    subst e
    split
    · exact h.symm
    · rename_i h2
      rw [List.getElem?_eq_none (by omega)]
  · rfl

/-- The first one for which it holds, from k on; -1. -/
def idxF {α : Type} (q : α → Bool) : List α → Nat → Int
  | [], _ => -1
  | x :: l, k => if q x then k else idxF q l (k + 1)

theorem idxF_cons {α : Type} (q : α → Bool) (x : α) (l : List α) (k : Nat) : idxF q (x :: l) k = if q x then (k : Int) else idxF q l (k + 1) := rfl

/-- From a place within the list. -/
theorem idxF_at {α : Type} (q : α → Bool) (l : List α) (t : Nat) (d : α) (ht : t < l.length) : idxF q (l.drop t) t = if q (l.getD t d) then (t : Int) else idxF q (l.drop (t + 1)) (t + 1) := by
  have e : l.getD t d = l[t] := by rw [List.getD_eq_getElem?_getD, List.getElem?_eq_getElem ht]; rfl
  rw [e, List.drop_eq_getElem_cons ht, idxF_cons]

theorem idxF_bound {α : Type} (q : α → Bool) : ∀ (l : List α) (k : Nat), idxF q l k = -1 ∨ ((k : Int) ≤ idxF q l k ∧ idxF q l k < k + l.length)
  | [], k => .inl rfl
  | x :: l, k => by
    rw [idxF_cons]
    split
    · right
      simp
      omega
    · rcases idxF_bound q l (k + 1) with h | ⟨h1, h2⟩
      · exact .inl h
      · right
        simp
        omega

theorem idxF_map {α β : Type} (g : β → α) (q : α → Bool) : ∀ (l : List β) (k : Nat), idxF q (l.map g) k = idxF (fun x => q (g x)) l k
  | [], _ => rfl
  | x :: l, k => by
    rw [List.map_cons, idxF_cons, idxF_cons, idxF_map g q l (k + 1)]

/-- The place of the first one, and the first one. -/
theorem idxF_find {α : Type} (q : α → Bool) (d : α) : ∀ (l : List α) (k : Nat), (l.find? q = none ∧ idxF q l k = -1) ∨ ∃ n, n < l.length ∧ idxF q l k = ((k + n : Nat) : Int) ∧ l.find? q = some (l.getD n d) ∧ q (l.getD n d) = true
  | [], k => .inl ⟨rfl, rfl⟩
  | x :: l, k => by
    rw [idxF_cons, List.find?_cons]
    cases hq : q x with
    | true => exact .inr ⟨0, by simp, rfl, rfl, hq⟩
    | false =>
      rcases idxF_find q d l (k + 1) with ⟨h1, h2⟩ | ⟨n, h0, h1, h2, h3⟩
      · exact .inl ⟨h1, h2⟩
      · refine .inr ⟨n + 1, by simpa using h0, ?_, h2, h3⟩
        rw [if_neg (by decide), h1]
        congr 1
        omega

/-- The first one for which it holds, replaced. -/
def replF {α : Type} (q : α → Bool) (y : α) : List α → List α
  | [] => []
  | x :: l => if q x then y :: l else x :: replF q y l

theorem replF_cons {α : Type} (q : α → Bool) (y x : α) (l : List α) : replF q y (x :: l) = if q x then y :: l else x :: replF q y l := rfl

theorem replF_set {α : Type} (q : α → Bool) (y : α) (d : α) : ∀ (l : List α) (n : Nat), idxF q l 0 = (n : Int) → replF q y l = l.set n y := by
  have key : ∀ (l : List α) (k n : Nat), idxF q l k = ((k + n : Nat) : Int) → replF q y l = l.set n y := by
    intro l
    induction l with
    | nil => intro k n h; simp [idxF] at h; omega
    | cons x l ih =>
      intro k n h
      rw [idxF_cons] at h
      rw [replF_cons]
      cases hq : q x with
      | true =>
        rw [hq, if_pos rfl] at h
        have : n = 0 := by omega
        subst this
        rfl
      | false =>
        rw [hq, if_neg (by decide)] at h
        have hb := idxF_bound q l (k + 1)
        obtain ⟨m, rfl⟩ : ∃ m, n = m + 1 := ⟨n - 1, by rcases hb with hb | hb <;> omega⟩
        rw [if_neg (by decide), List.set_cons_succ, ih (k + 1) m (by rw [h]; congr 1; omega)]
  intro l n h
  exact key l 0 n (by rw [h]; congr 1; omega)

theorem replF_filter {α : Type} (q p : α → Bool) (y : α) (hqp : ∀ x, q x = true → p x = true) (hy : p y = true) : ∀ (l : List α), (replF q y l).filter p = replF q y (l.filter p)
  | [] => rfl
  | x :: l => by
    rw [replF_cons]
    cases hq : q x with
    | true =>
      rw [if_pos rfl, List.filter_cons, if_pos hy, List.filter_cons, if_pos (hqp x hq), replF_cons, hq, if_pos rfl]
    | false =>
      rw [if_neg (by decide), List.filter_cons, List.filter_cons, replF_filter q p y hqp hy l]
      split
      · rw [replF_cons, hq, if_neg (by decide)]
      · rfl

theorem replF_skip {α : Type} (q p : α → Bool) (y : α) (hqp : ∀ x, q x = true → p x = false) (hy : p y = false) : ∀ (l : List α), (replF q y l).filter p = l.filter p
  | [] => rfl
  | x :: l => by
    rw [replF_cons]
    cases hq : q x with
    | true =>
      rw [if_pos rfl, List.filter_cons, hy, List.filter_cons, hqp x hq, if_neg (by decide), if_neg (by decide)]
    | false =>
      rw [if_neg (by decide), List.filter_cons, List.filter_cons, replF_skip q p y hqp hy l]

/-- What was kept of the blocks that some own. -/
structure KeptS (S : Nat → Prop) (w w' : World) : Prop where
  os : w'.os = w.os
  tape : w'.tape = w.tape
  output : w'.output = w.output
  size : w.heap.size ≤ w'.heap.size
  block : ∀ k, k < w.heap.size → ¬ S k → w'.heap[k]? = w.heap[k]?

theorem KeptS.ofBelow {S : Nat → Prop} {w w' : World} (h : Below w.heap.size w w') : KeptS S w w' :=
  ⟨h.os, h.tape, h.output, h.size, fun k hk _ => h.block k hk⟩

theorem KeptS.trans {S S' : Nat → Prop} {a b c : World} (h : KeptS S a b) (k : KeptS S' b c) (hs : ∀ i, S' i → S i ∨ a.heap.size ≤ i) : KeptS S a c :=
  ⟨k.os.trans h.os, k.tape.trans h.tape, k.output.trans h.output, Nat.le_trans h.size k.size, fun i hi hc =>
    (k.block i (Nat.lt_of_lt_of_le hi h.size) (fun hi' => (hs i hi').elim hc (fun h2 => absurd hi (by omega)))).trans (h.block i hi hc)⟩

theorem KeptS.below {S : Nat → Prop} {B : Nat} {a w w' : World} (h : Below B a w) (k : KeptS S w w') (hB : B ≤ w.heap.size) (hS : ∀ i, S i → B ≤ i) : Below B a w' :=
  ⟨k.os.trans h.os, k.tape.trans h.tape, k.output.trans h.output, Nat.le_trans h.size k.size, fun i hi => (k.block i (Nat.lt_of_lt_of_le hi hB) (fun hs => absurd (hS i hs) (by omega))).trans (h.block i hi)⟩

theorem KeptS.grown {S : Nat → Prop} {w w' : World} {row : Option Nat} (hg : w.grownBy w' row) (hr : ∀ b, row = some b → S b) : KeptS S w w' :=
  ⟨hg.os, hg.tape, hg.output, hg.size, fun k hk hc => hg.block k hk fun e => hc (hr k e.symm)⟩

theorem KeptS.set {S : Nat → Prop} {w : World} {g j : Nat} {u : Value} (hS : S g) : KeptS S w (w.setCell ⟨g, j, none⟩ u) :=
  ⟨rfl, rfl, rfl, by simp [World.setCell], fun k hk hc => Below.heap_setCell w ⟨g, j, none⟩ u k fun e' => by
    have e' : k = g := e'
    subst e'
    exact hc hS⟩

theorem KeptS.whole {S : Nat → Prop} {w w' : World} {g : Nat} {t : TypeId} {cs : Array Value} (k : KeptS S w w') (h : Whole w g t cs) (hs : ¬ S g) : Whole w' g t cs := (k.block g h.lt hs).trans h

theorem KeptS.cell {S : Nat → Prop} {w w' : World} {g o : Nat} {v : Value} (k : KeptS S w w') (h : w.cell? ⟨g, o, none⟩ = some v) (hs : ¬ S g) : w'.cell? ⟨g, o, none⟩ = some v := by
  have e := k.block g (block_lt h) hs
  simp only [World.cell?] at h ⊢
  rw [e]
  exact h

theorem KeptS.row {S : Nat → Prop} {B : Nat} {w w' : World} {e : TypeId} {sz : Nat} {v : Value} {n : Nat} {xs : List Value} (k : KeptS S w w') (h : w.ownsRow B e sz v n xs) (hs : ∀ b, v.ownBlock = some b → ¬ S b) : w'.ownsRow B e sz v n xs := by
  refine ⟨h.1, ?_⟩
  rcases h.2 with h0 | ⟨g, cap, cur, rfl, a2, hg, rest⟩
  · exact .inl h0
  · have hW : Whole w g e cur := hg
    exact .inr ⟨g, cap, cur, rfl, a2, (k.block g hW.lt (hs g rfl)).trans hg, rest⟩

/-- The block of an own row: where, and of what type. -/
theorem row_block {w : World} {B : Nat} {e : TypeId} {sz : Nat} {v : Value} {n : Nat} {xs : List Value} (h : w.ownsRow B e sz v n xs) {b : Nat} (hb : v.ownBlock = some b) : B ≤ b ∧ b < w.heap.size ∧ ∃ cs, w.heap[b]? = some (.cells cs e (0, 0)) := by
  rcases h.2 with ⟨rfl, _⟩ | ⟨g, cap, cur, rfl, hB, hg, _⟩
  · simp [Value.ownBlock] at hb
  · simp only [Value.ownBlock, Option.some.injEq] at hb
    subst hb
    have hW : Whole w g e cur := hg
    exact ⟨hB, hW.lt, cur, hg⟩

/-- A row lies from a later block on, if it does. -/
theorem row_from {w : World} {B B' : Nat} {e : TypeId} {sz : Nat} {v : Value} {n : Nat} {xs : List Value} (h : w.ownsRow B e sz v n xs) (hb : ∀ b, v.ownBlock = some b → B' ≤ b) : w.ownsRow B' e sz v n xs := by
  refine ⟨h.1, ?_⟩
  rcases h.2 with h0 | ⟨g, cap, cur, rfl, a2, hg, rest⟩
  · exact .inl h0
  · exact .inr ⟨g, cap, cur, rfl, hb g rfl, hg, rest⟩
/-- A whole struct of 3 cells stored into a block. -/
theorem set_three {w : World} {g : Nat} {t : TypeId} {c0 c1 c2 : Value} (h : Whole w g t #[c0, c1, c2]) (u0 u1 u2 : Value) :
    Whole (((w.setCell ⟨g, 0, none⟩ u0).setCell ⟨g, 1, none⟩ u1).setCell ⟨g, 2, none⟩ u2) g t #[u0, u1, u2] ∧ w.grownBy (((w.setCell ⟨g, 0, none⟩ u0).setCell ⟨g, 1, none⟩ u1).setCell ⟨g, 2, none⟩ u2) (some g) :=
  ⟨(((h.store 0 u0).store 1 u1).store 2 u2), (((grown_set w g 0 u0).trans (grown_set _ g 1 u1)).trans (grown_set _ g 2 u2))⟩

/-- A whole struct of 8 cells stored into a block. -/
theorem set_eight {w : World} {g : Nat} {t : TypeId} {c0 c1 c2 c3 c4 c5 c6 c7 : Value} (h : Whole w g t #[c0, c1, c2, c3, c4, c5, c6, c7]) (u0 u1 u2 u3 u4 u5 u6 u7 : Value) :
    Whole ((((((((w.setCell ⟨g, 0, none⟩ u0).setCell ⟨g, 1, none⟩ u1).setCell ⟨g, 2, none⟩ u2).setCell ⟨g, 3, none⟩ u3).setCell ⟨g, 4, none⟩ u4).setCell ⟨g, 5, none⟩ u5).setCell ⟨g, 6, none⟩ u6).setCell ⟨g, 7, none⟩ u7) g t #[u0, u1, u2, u3, u4, u5, u6, u7] ∧ w.grownBy ((((((((w.setCell ⟨g, 0, none⟩ u0).setCell ⟨g, 1, none⟩ u1).setCell ⟨g, 2, none⟩ u2).setCell ⟨g, 3, none⟩ u3).setCell ⟨g, 4, none⟩ u4).setCell ⟨g, 5, none⟩ u5).setCell ⟨g, 6, none⟩ u6).setCell ⟨g, 7, none⟩ u7) (some g) := by
  have H := ((((((((h.store 0 u0).store 1 u1).store 2 u2).store 3 u3).store 4 u4).store 5 u5).store 6 u6).store 7 u7)
  simp only [List.setIfInBounds_toArray, List.set_cons_zero, List.set_cons_succ] at H
  exact ⟨H, ((((((((grown_set w g 0 u0).trans (grown_set _ g 1 u1)).trans (grown_set _ g 2 u2)).trans (grown_set _ g 3 u3)).trans (grown_set _ g 4 u4)).trans (grown_set _ g 5 u5)).trans (grown_set _ g 6 u6)).trans (grown_set _ g 7 u7))⟩

/-- A whole object of eight cells stored into a row. -/
theorem row_set8 {α : Type} {f : α → List Value} {w : World} {B g c n : Nat} {e : TypeId} {l : List α} (h : w.ownsRow B e 8 (.slice (some ⟨g, 0, none⟩) n c) n (l.flatMap f)) (hk : ∀ x, (f x).length = 8) (d y : α) {t : Nat} (ht : t < l.length) {u0 u1 u2 u3 u4 u5 u6 u7 : Value} (hy : f y = [u0, u1, u2, u3, u4, u5, u6, u7]) :
    ((((((((w.setCell ⟨g, t * 8, none⟩ u0).setCell ⟨g, t * 8 + 1, none⟩ u1).setCell ⟨g, t * 8 + 2, none⟩ u2).setCell ⟨g, t * 8 + 3, none⟩ u3).setCell ⟨g, t * 8 + 4, none⟩ u4).setCell ⟨g, t * 8 + 5, none⟩ u5).setCell ⟨g, t * 8 + 6, none⟩ u6).setCell ⟨g, t * 8 + 7, none⟩ u7).ownsRow B e 8 (.slice (some ⟨g, 0, none⟩) n c) n ((l.set t y).flatMap f) ∧
    w.grownBy ((((((((w.setCell ⟨g, t * 8, none⟩ u0).setCell ⟨g, t * 8 + 1, none⟩ u1).setCell ⟨g, t * 8 + 2, none⟩ u2).setCell ⟨g, t * 8 + 3, none⟩ u3).setCell ⟨g, t * 8 + 4, none⟩ u4).setCell ⟨g, t * 8 + 5, none⟩ u5).setCell ⟨g, t * 8 + 6, none⟩ u6).setCell ⟨g, t * 8 + 7, none⟩ u7) (some g) := by
  refine ⟨?_, ((((((((grown_set w g (t * 8) u0).trans (grown_set _ g (t * 8 + 1) u1)).trans (grown_set _ g (t * 8 + 2) u2)).trans (grown_set _ g (t * 8 + 3) u3)).trans (grown_set _ g (t * 8 + 4) u4)).trans (grown_set _ g (t * 8 + 5) u5)).trans (grown_set _ g (t * 8 + 6) u6)).trans (grown_set _ g (t * 8 + 7) u7))⟩
  have H := row_set (row_set (row_set (row_set (row_set (row_set (row_set (row_set h u0 (j := t * 8)) u1 (j := t * 8 + 1)) u2 (j := t * 8 + 2)) u3 (j := t * 8 + 3)) u4 (j := t * 8 + 4)) u5 (j := t * 8 + 5)) u6 (j := t * 8 + 6)) u7 (j := t * 8 + 7)
  have hx : ((((((((l.flatMap f).set (t * 8) u0).set (t * 8 + 1) u1).set (t * 8 + 2) u2).set (t * 8 + 3) u3).set (t * 8 + 4) u4).set (t * 8 + 5) u5).set (t * 8 + 6) u6).set (t * 8 + 7) u7 = (l.set t y).flatMap f := by
    apply List.ext_getElem?
    intro j
    have hlen : ∀ (m : List α), (m.flatMap f).length = m.length * 8 := by
      intro m
      induction m with
      | nil => rfl
      | cons x m ih => rw [List.flatMap_cons, List.length_append, hk, ih, List.length_cons]; omega
    have hL := hlen l
    have hL' := hlen (l.set t y)
    rw [List.length_set] at hL'
    have ht8 : t * 8 + 8 ≤ l.length * 8 := by omega
    by_cases hj : j < l.length * 8
    · obtain ⟨q, r, hr, rfl⟩ : ∃ q r, r < 8 ∧ j = q * 8 + r := ⟨j / 8, j % 8, Nat.mod_lt _ (by decide), by omega⟩
      have hq : q < l.length := by omega
      rw [flat_at f 8 hk d (l.set t y) q r (by rw [List.length_set]; exact hq) hr]
      by_cases e : q = t
      · subst e
        rw [show (l.set q y).getD q d = y by simp [List.getD, hq], hy]
        simp only [List.getElem?_set, List.length_set, hL]
        rcases r with _ | _ | _ | _ | _ | _ | _ | _ | r
        all_goals first | omega | (repeat (first | (rw [if_neg (by omega)]) | (rw [if_pos (by omega), if_pos (by omega)]))); rfl
      · rw [show (l.set t y).getD q d = l.getD q d by rw [List.getD_eq_getElem?_getD, List.getD_eq_getElem?_getD, List.getElem?_set, if_neg (fun h => e h.symm)], ← flat_at f 8 hk d l q r hq hr]
        simp only [List.getElem?_set, List.length_set, hL]
        repeat (rw [if_neg (by omega)])
    · rw [List.getElem?_eq_none (by simp only [List.length_set]; omega), List.getElem?_eq_none (by omega)]
  rw [hx] at H
  exact H
end Go.Proofs.YtcijjmmckofckaaDoor
