/- Scopes: objects and open scopes as plain data; how they lie in memory. -/
import Derived.Test.YtpfoebnlngfebaaRowLib
namespace Go.Proofs.Ytpfoebnlngfebaa
open Go.ChangeShapes Go.WideShapes Go.ChangeAt Go.RowKit
set_option linter.unusedVariables false
set_option linter.unusedSimpArgs false

/-- An object. -/
structure Ob where
  nm : ByteArray
  kd : Int
  ty : Int
  lv : Int
  nn : Int
  md : Int
  ou : Bool
  ps : List (Int × Bool)

/-- What others may use. -/
structure Ex where
  nm : ByteArray
  kd : Int
  ty : Int
  vl : Int
  ps : List (Int × Bool)

/-- An object in memory: with the value of its parameters. -/
abbrev Ox := Ob × Value

abbrev Exx := Ex × Value

def parCells (q : Int × Bool) : List Value := [.int .i64 q.1, .bool q.2]

def oxCells (x : Ox) : List Value := [.string x.1.nm, .int .i64 x.1.kd, .int .i64 x.1.ty, .int .i64 x.1.lv, .int .i32 x.1.nn, .int .i64 x.1.md, .bool x.1.ou, x.2]

def exCells (x : Exx) : List Value := [.string x.1.nm, .int .i64 x.1.kd, .int .i64 x.1.ty, .int .i32 x.1.vl, x.2]

def zO : Ob := ⟨⟨#[]⟩, 0, 0, 0, 0, 0, false, []⟩

def zX : Ox := (zO, .slice none 0 0)

def zE : Ex := ⟨⟨#[]⟩, 0, 0, 0, []⟩

def zEx : Exx := (zE, .slice none 0 0)

abbrev pO : TypeId := 38
abbrev pS : TypeId := 69
abbrev pL : TypeId := 65
abbrev pP : TypeId := 85
abbrev pE : TypeId := 63
abbrev rO : TypeId := 42
abbrev rS : TypeId := 28
abbrev rL : TypeId := 25

/-- Parameters that lie in memory: below block B, or in a block of parameters. -/
def ParV (B : Nat) (w : World) (v : Value) (ps : List (Int × Bool)) : Prop :=
  ∃ A c, v = .slice A ps.length c ∧ (A = none → c = 0 ∧ ps = []) ∧
    (ps ≠ [] → ∃ b off, A = some ⟨b, off, none⟩ ∧ b < w.heap.size ∧ (b < B ∨ ∃ cs fz, w.heap[b]? = some (.cells cs pP fz)) ∧ ∀ j u, (ps.flatMap parCells)[j]? = some u → w.cell? ⟨b, off + j, none⟩ = some u)

theorem ParV.nil (B : Nat) (w : World) : ParV B w (.slice none 0 0) [] := ⟨none, 0, rfl, fun _ => ⟨rfl, rfl⟩, fun h => absurd rfl h⟩

theorem ParV.form {B : Nat} {w : World} {v : Value} {ps : List (Int × Bool)} (h : ParV B w v ps) : ∃ A c, v = .slice A ps.length c := by
  obtain ⟨A, c, h1, _⟩ := h
  exact ⟨A, c, h1⟩

theorem ParV.keep {B B' : Nat} {w w' : World} {v : Value} {ps : List (Int × Bool)} (h : ParV B w v ps) (hB : B ≤ B') (hs : w.heap.size ≤ w'.heap.size) (hk : ∀ b, b < w.heap.size → (b < B ∨ ∃ cs fz, w.heap[b]? = some (.cells cs pP fz)) → w'.heap[b]? = w.heap[b]?) : ParV B' w' v ps := by
  obtain ⟨A, c, h1, h2, h3⟩ := h
  refine ⟨A, c, h1, h2, fun hn => ?_⟩
  obtain ⟨b, off, rfl, hb, ht, hc⟩ := h3 hn
  have e := hk b hb ht
  refine ⟨b, off, rfl, Nat.lt_of_lt_of_le hb hs, ?_, fun j u hj => ?_⟩
  · rcases ht with ht | ht
    · exact .inl (Nat.lt_of_lt_of_le ht hB)
    · exact .inr (by rw [e]; exact ht)
  · have := hc j u hj
    simp only [World.cell?] at this ⊢
    rw [e]
    exact this

theorem ParV.below {B : Nat} {w w' : World} {v : Value} {ps : List (Int × Bool)} (h : ParV B w v ps) (hb : Below w.heap.size w w') : ParV B w' v ps :=
  h.keep (Nat.le_refl _) hb.size (fun b hb' _ => hb.block b hb')

theorem ParV.more {B B' : Nat} {w : World} {v : Value} {ps : List (Int × Bool)} (h : ParV B w v ps) (hB : B ≤ B') : ParV B' w v ps :=
  h.keep hB (Nat.le_refl _) (fun _ _ _ => rfl)

theorem ParV.own {w : World} {v : Value} {ps : List (Int × Bool)} {B B' : Nat} (h : w.ownsRow B' pP 2 v ps.length (ps.flatMap parCells)) : ParV B w v ps := by
  rcases h.2 with ⟨h1, h2⟩ | ⟨g, cap, cur, h1, hB, hg, hcap, _, hsz, htk⟩
  · exact ⟨none, 0, by rw [h1, h2], fun _ => ⟨rfl, List.eq_nil_of_length_eq_zero h2⟩, fun h => absurd (List.eq_nil_of_length_eq_zero h2) h⟩
  · refine ⟨some ⟨g, 0, none⟩, cap, h1, (fun h => by cases h), fun _ => ⟨g, 0, rfl, Whole.lt hg, .inr ⟨cur, _, hg⟩, fun j u hj => ?_⟩⟩
    have := World.ownsRow.cells h (g := g) (by rw [h1]; rfl) j u hj
    simpa [Go.WideShapes.add_plain] using this

/-- A parameter. -/
theorem ParV.at {B : Nat} {w : World} {ps : List (Int × Bool)} {A : Option Addr} {c : Nat} (h : ParV B w (.slice A ps.length c) ps) {t : Nat} (ht : t < ps.length) :
    ∃ b off, A = some ⟨b, off, none⟩ ∧ w.cell? ⟨b, off + t * 2, none⟩ = some (.int .i64 (ps.getD t (0, false)).1) ∧ w.cell? ⟨b, off + (t * 2 + 1), none⟩ = some (.bool (ps.getD t (0, false)).2) := by
  obtain ⟨A', c', h1, _, h3⟩ := h
  injection h1 with h1 _ _
  subst h1
  obtain ⟨b, off, rfl, _, _, hc⟩ := h3 (fun e => by rw [e] at ht; exact absurd ht (by simp))
  have f0 := flat_at parCells 2 (fun _ => rfl) (0, false) ps t 0 ht (by decide)
  have f1 := flat_at parCells 2 (fun _ => rfl) (0, false) ps t 1 ht (by decide)
  exact ⟨b, off, rfl, hc _ _ f0, hc _ _ f1⟩

/-- Objects lie in a row of E's. -/
structure RowO (E : TypeId) (w : World) (B B' : Nat) (v : Value) (l : List Ox) : Prop where
  row : w.ownsRow B' E 8 v l.length (l.flatMap oxCells)
  par : ∀ x ∈ l, ParV B w x.2 x.1.ps

theorem RowO.below {E : TypeId} {w w' : World} {B B' : Nat} {v : Value} {l : List Ox} (h : RowO E w B B' v l) (hb : Below w.heap.size w w') : RowO E w' B B' v l :=
  ⟨row_below h.row hb, fun x hx => (h.par x hx).below hb⟩

theorem RowO.nil (E : TypeId) (w : World) (B B' : Nat) : RowO E w B B' (.slice none 0 0) [] := ⟨row_nil _ _ _ _, fun _ h => (List.not_mem_nil h).elim⟩

theorem RowO.more {E : TypeId} {w : World} {B B' B2 : Nat} {v : Value} {l : List Ox} (h : RowO E w B B' v l) (hB : B2 ≤ B') : RowO E w B B2 v l :=
  ⟨row_more h.row hB, h.par⟩

/-- An object of a row, by its cells. -/
theorem RowO.at {E : TypeId} {w : World} {B B' : Nat} {A : Option Addr} {c : Nat} {l : List Ox} (h : RowO E w B B' (.slice A l.length c) l) {t : Nat} (ht : t < l.length) :
    ∃ g, A = some ⟨g, 0, none⟩ ∧ l.length ≤ c ∧ B' ≤ g ∧ g < w.heap.size ∧ ∃ nm kd ty lv nn md ou ps Ap cp, l.getD t zX = (⟨nm, kd, ty, lv, nn, md, ou, ps⟩, .slice Ap ps.length cp) ∧ ParV B w (.slice Ap ps.length cp) ps ∧
      (∀ j u, [Value.string nm, .int .i64 kd, .int .i64 ty, .int .i64 lv, .int .i32 nn, .int .i64 md, .bool ou, .slice Ap ps.length cp][j]? = some u → w.cell? ⟨g, t * 8 + j, none⟩ = some u ∧ w.frozen? ⟨g, t * 8 + j, none⟩ = false) := by
  obtain ⟨hcap, g, rfl, hB, hg, hc⟩ := row_cell (f := oxCells) (fun _ => rfl) zX h.row rfl ht
  have hm : l.getD t zX ∈ l := by
    rw [List.getD_eq_getElem?_getD, List.getElem?_eq_getElem ht]
    exact List.getElem_mem ht
  have hp := h.par _ hm
  generalize l.getD t zX = x at *
  obtain ⟨⟨nm, kd, ty, lv, nn, md, ou, ps⟩, pv⟩ := x
  obtain ⟨Ap, cp, rfl⟩ : ∃ Ap cp, pv = .slice Ap ps.length cp := hp.form
  refine ⟨g, rfl, hcap, hB, hg, nm, kd, ty, lv, nn, md, ou, ps, Ap, cp, rfl, hp, fun j u hj => ?_⟩
  have hj8 : j < 8 := (List.getElem?_eq_some_iff.1 hj).1
  obtain ⟨h1, h2⟩ := hc j hj8
  exact ⟨h1.trans hj, h2⟩

/-! ### The scopes, plainly -/

structure Stt where
  L : List Ob
  lev : Nat
  mods : List (List Ob)

def st0 : Stt := ⟨[], 0, []⟩

def Stt.row (s : Stt) (i : Nat) : List Ob := s.L.filter (fun x => x.lv == (i : Int))

def nameIs (s : ByteArray) (x : Ob) : Bool := x.nm.toList == s.toList

def hasP (s : Stt) (i : Nat) (nm : ByteArray) : Option Ob := (s.row i).find? (nameIs nm)

def openP (s : Stt) : Stt × Int := if 64 ≤ s.lev then (s, 240) else ({ s with lev := s.lev + 1 }, 0)

def closeP (s : Stt) : Stt × Int := if s.lev = 0 then (s, 111) else ({ s with L := s.L.filter (fun x => decide (x.lv < (s.lev : Int))), lev := s.lev - 1 }, 0)

def declP (s : Stt) (x : Ob) : Stt × Int :=
  if x.nm.size = 0 ∨ 32 < x.nm.size then (s, 140)
  else if (hasP s s.lev x.nm).isSome then (s, 51)
  else if 4096 ≤ (s.row s.lev).length then (s, 242)
  else ({ s with L := s.L ++ [{ x with lv := s.lev }] }, 0)

def findN (s : Stt) (nm : ByteArray) : Nat → Option Ob
  | 0 => none
  | k + 1 => match hasP s k nm with
    | some x => some x
    | none => findN s nm k

def findP (s : Stt) (nm : ByteArray) : Option Ob := findN s nm (s.lev + 1)

/-- The error of what was found, or not. -/
def codeOf (r : Option Ob) : Int := if r.isSome then 0 else 110

def atP (n : Int) (nm : ByteArray) (x : Ob) : Bool := x.lv == n && nameIs nm x

def changeP (s : Stt) (n : Int) (x : Ob) : Stt × Int :=
  if s.L.find? (atP n x.nm) = none then (s, 110) else ({ s with L := replF (atP n x.nm) { x with lv := n } s.L }, 0)

def expOb (k : Int) (e : Ex) : Ob := ⟨e.nm, e.kd, e.ty, 0, e.vl, k, false, e.ps⟩

def impOb (k : Int) (nm : ByteArray) : Ob := ⟨nm, 8, 0, 0, k, 0, false, []⟩

def importP (s : Stt) (nm : ByteArray) (es : List Ex) : Stt × Int × Int :=
  if 64 ≤ s.mods.length then (s, 0, 243)
  else if (declP s (impOb (s.mods.length + 1 : Nat) nm)).2 ≠ 0 then (s, 0, (declP s (impOb (s.mods.length + 1 : Nat) nm)).2)
  else ({ (declP s (impOb (s.mods.length + 1 : Nat) nm)).1 with mods := s.mods ++ [es.map (expOb (s.mods.length + 1 : Nat))] }, (s.mods.length + 1 : Nat), 0)

def memberP (s : Stt) (m : Int) (nm : ByteArray) : Option Ob := if m < 1 ∨ (s.mods.length : Int) < m then none else (s.mods.getD (m.toNat - 1) []).find? (nameIs nm)

def obEx (x : Ob) : Ex := ⟨x.nm, x.kd, x.ty, x.nn, x.ps⟩

def exportsP (s : Stt) : List Ex := ((s.row 0).filter (·.ou)).map obEx

def namesP (s : Stt) : List ByteArray := (s.row s.lev).map (·.nm)

/-- An object whose texts and lists memory can bear. -/
def ObOk (x : Ob) : Prop := x.nm.size ≤ 140737488355328 ∧ x.ps.length * 16 ≤ 140737488355328

/-- What is kept of the scopes, behind n calls. -/
structure Inv (n : Nat) (s : Stt) : Prop where
  lev : s.lev ≤ 64
  mods : s.mods.length ≤ 64
  len : s.L.length ≤ n
  lv : ∀ x ∈ s.L, 0 ≤ x.lv ∧ x.lv ≤ s.lev
  ok : ∀ x ∈ s.L, ObOk x
  mok : ∀ m ∈ s.mods, (∀ x ∈ m, ObOk x) ∧ m.length * 64 ≤ 140737488355328

/-! ### The program's scopes in memory -/

def tbCells (rv : Nat → Value) (lev : Nat) (mv : Value) : Array Value := ((List.range 65).map rv ++ [.int .i64 lev, mv]).toArray

theorem tb_row {rv : Nat → Value} {lev : Nat} {mv : Value} {i : Nat} (h : i < 65) : (tbCells rv lev mv)[i]? = some (rv i) := by
  unfold tbCells
  rw [List.getElem?_toArray, List.getElem?_append_left (by simpa using h), List.getElem?_map, List.getElem?_range h]
  rfl

theorem tb_lev {rv : Nat → Value} {lev : Nat} {mv : Value} : (tbCells rv lev mv)[65]? = some (.int .i64 lev) := by
  unfold tbCells
  rw [List.getElem?_toArray, List.getElem?_append_right (by simp)]
  rfl

theorem tb_mod {rv : Nat → Value} {lev : Nat} {mv : Value} : (tbCells rv lev mv)[66]? = some mv := by
  unfold tbCells
  rw [List.getElem?_toArray, List.getElem?_append_right (by simp)]
  rfl

theorem tb_set_row {rv : Nat → Value} {lev : Nat} {mv : Value} {i : Nat} (h : i < 65) (v : Value) : (tbCells rv lev mv).setIfInBounds i v = tbCells (fun j => if j = i then v else rv j) lev mv := by
  unfold tbCells
  rw [List.setIfInBounds_toArray]
  congr 1
  rw [List.set_append_left _ _ (by simpa using h)]
  congr 1
  apply List.ext_getElem?
  intro j
  rw [List.getElem?_set, List.getElem?_map, List.getElem?_map]
  by_cases hj : j < 65
  · rw [List.getElem?_range hj]
    by_cases e : i = j
    · subst e
      simp [h]
    · rw [if_neg e]
      have e2 : ¬ j = i := fun h => e h.symm
      simp [e2]
  · rw [List.getElem?_eq_none (by simpa using hj), if_neg (by omega)]
    rfl

theorem tb_set_lev {rv : Nat → Value} {lev : Nat} {mv : Value} (l : Nat) : (tbCells rv lev mv).setIfInBounds 65 (.int .i64 l) = tbCells rv l mv := by
  unfold tbCells
  rw [List.setIfInBounds_toArray, List.set_append_right _ _ (by simp)]
  rfl

theorem tb_set_mod {rv : Nat → Value} {lev : Nat} {mv : Value} (v : Value) : (tbCells rv lev mv).setIfInBounds 66 v = tbCells rv lev v := by
  unfold tbCells
  rw [List.setIfInBounds_toArray, List.set_append_right _ _ (by simp)]
  rfl

/-- The program's scopes: the block, the scopes' rows, the modules'. -/
structure Tb where
  p : Nat
  rv : Nat → Value
  rx : Nat → List Ox
  mv : Value
  mx : List (Value × List Ox)

/-- The blocks that calls may change. -/
def Own (T : Tb) (k : Nat) : Prop := k = T.p ∨ (∃ i, i < 65 ∧ (T.rv i).ownBlock = some k) ∨ T.mv.ownBlock = some k

structure TabAt (w : World) (B : Nat) (T : Tb) (s : Stt) : Prop where
  blk : Whole w T.p pS (tbCells T.rv s.lev T.mv)
  le : B ≤ T.p
  rows : ∀ i, i < 65 → RowO pO w B B (T.rv i) (T.rx i)
  same : ∀ i, i < 65 → (T.rx i).map (·.1) = s.row i
  apart : ∀ i j, i < 65 → j < 65 → i ≠ j → ∀ b, (T.rv i).ownBlock = some b → (T.rv j).ownBlock ≠ some b
  mods : w.ownsRow B pL 1 T.mv T.mx.length (T.mx.map (·.1))
  mrows : ∀ m ∈ T.mx, RowO pO w B B m.1 m.2
  mapart : ∀ m ∈ T.mx, ∀ b, m.1.ownBlock = some b → ¬ Own T b
  msame : T.mx.map (fun m => m.2.map (·.1)) = s.mods

theorem TabAt.below {w w' : World} {B : Nat} {T : Tb} {s : Stt} (h : TabAt w B T s) (hb : Below w.heap.size w w') : TabAt w' B T s :=
  ⟨h.blk.below hb h.blk.lt, h.le, fun i hi => (h.rows i hi).below hb, h.same, h.apart, row_below h.mods hb, fun m hm => (h.mrows m hm).below hb, h.mapart, h.msame⟩

/-- Where these blocks lie, and of what types they are. -/
theorem TabAt.own {w : World} {B : Nat} {T : Tb} {s : Stt} (h : TabAt w B T s) {k : Nat} (hk : Own T k) : B ≤ k ∧ k < w.heap.size ∧ ∃ cs t, (t = pS ∨ t = pO ∨ t = pL) ∧ w.heap[k]? = some (.cells cs t (0, 0)) := by
  rcases hk with rfl | ⟨i, hi, hb⟩ | hb
  · exact ⟨h.le, h.blk.lt, _, _, .inl rfl, h.blk⟩
  · obtain ⟨h1, h2, cs, h3⟩ := row_block (h.rows i hi).row hb
    exact ⟨h1, h2, cs, _, .inr (.inl rfl), h3⟩
  · obtain ⟨h1, h2, cs, h3⟩ := row_block h.mods hb
    exact ⟨h1, h2, cs, _, .inr (.inr rfl), h3⟩

theorem TabAt.keeps {w w' : World} {B : Nat} {T : Tb} {s : Stt} (h : TabAt w B T s) (k : KeptS (Own T) w w') {b : Nat} (hb : b < w.heap.size) (ht : b < B ∨ ∃ cs t fz, t ≠ pS ∧ t ≠ pO ∧ t ≠ pL ∧ w.heap[b]? = some (.cells cs t fz)) : w'.heap[b]? = w.heap[b]? := by
  refine k.block b hb fun ho => ?_
  obtain ⟨h1, _, cs, t, h2, h3⟩ := h.own ho
  rcases ht with ht | ⟨cs', t', fz, n1, n2, n3, h4⟩
  · omega
  · rw [h3] at h4
    injection h4 with h4
    injection h4 with _ h4 _
    subst h4
    rcases h2 with h2 | h2 | h2
    · exact n1 h2
    · exact n2 h2
    · exact n3 h2

theorem TabAt.keepPar {w w' : World} {B : Nat} {T : Tb} {s : Stt} (h : TabAt w B T s) (k : KeptS (Own T) w w') {v : Value} {ps : List (Int × Bool)} (hp : ParV B w v ps) : ParV B w' v ps :=
  hp.keep (Nat.le_refl _) k.size fun b hb ht => h.keeps k hb (ht.imp id fun ⟨cs, fz, e⟩ => ⟨cs, pP, fz, by decide, by decide, by decide, e⟩)

theorem TabAt.keepRow {w w' : World} {B : Nat} {T : Tb} {s : Stt} (h : TabAt w B T s) (k : KeptS (Own T) w w') {E : TypeId} {l : List Ox} {v : Value} {B' : Nat} (hr : RowO E w B B' v l) (hs : ∀ b, v.ownBlock = some b → ¬ Own T b) : RowO E w' B B' v l :=
  ⟨k.row hr.row hs, fun x hx => h.keepPar k (hr.par x hx)⟩

theorem TabAt.ne {w : World} {B : Nat} {T : Tb} {s : Stt} (h : TabAt w B T s) {e : TypeId} {sz : Nat} {v : Value} {n : Nat} {xs : List Value} {B' : Nat} (hr : w.ownsRow B' e sz v n xs) (h1 : e ≠ pS) (h2 : e ≠ pO) (h3 : e ≠ pL) : ∀ b, v.ownBlock = some b → ¬ Own T b := fun b hb ho => by
  obtain ⟨_, _, cs, e1⟩ := row_block hr hb
  obtain ⟨_, _, cs', t, ht, e2⟩ := h.own ho
  rw [e1] at e2
  injection e2 with e2
  injection e2 with _ e2 _
  subst e2
  rcases ht with ht | ht | ht
  · exact h1 ht
  · exact h2 ht
  · exact h3 ht

/-- What a call that may change the scopes leaves. -/
def ChPost (B : Nat) (T : Tb) (w : World) (r : Stt) (w' : World) : Prop :=
  ∃ T', T'.p = T.p ∧ TabAt w' B T' r ∧ KeptS (Own T) w w' ∧ ∀ k, Own T' k → Own T k ∨ w.heap.size ≤ k
end Go.Proofs.Ytpfoebnlngfebaa
