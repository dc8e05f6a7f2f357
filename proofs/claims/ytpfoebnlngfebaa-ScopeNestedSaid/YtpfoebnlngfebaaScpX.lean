/- Scopes: the laws' arguments: calls that came in, each with an object, its parameters, a list of what others may use. -/
import Derived.Test.YtpfoebnlngfebaaScpI
import Derived.Deep.Slices
import Derived.SizedLaws
namespace Go.Proofs.Ytpfoebnlngfebaa
open Go.ChangeShapes Go.WideShapes Go.ChangeAt Go.RowKit
set_option linter.unusedVariables false
set_option linter.unusedSimpArgs false

section
variable {H : Type} {enc : TypeId × Value → H} {w : World}

theorem weights_part {P : Program} {t : TypeId} {fs : Array Field} {parts : List (DataW H)} {R : Nat} (ht : P.underlying t = some (.struct fs)) (hz : ∀ k ∈ (DataW.agg parts).weights P t, k ≤ R) {i : Nat} {f : Field} {d : DataW H} (hf : fs[i]? = some f) (hd : parts[i]? = some d) : ∀ k ∈ d.weights P f.type, k ≤ R := by
  intro k hk
  refine hz k ?_
  simp only [DataW.weights, ht]
  exact DataW.weights_mem_each (j := i) (t := f.type) (by rw [List.getElem?_map, Array.getElem?_toList, hf]; rfl) hd k hk

theorem weights_elem {P : Program} {e : TypeId} : ∀ {l : List (DataW H)} {d : DataW H}, d ∈ l → ∀ n ∈ d.weights P e, n ∈ DataW.weightsAll P e l
  | [], _, h, _, _ => by cases h
  | x :: l, d, h, n, hn => by
    simp only [DataW.weightsAll, List.mem_append]
    rcases List.mem_cons.1 h with rfl | h
    · exact .inl hn
    · exact .inr (weights_elem h n hn)

/-- A slice that came in, its elements each opened by one. -/
theorem open_row {P : Program} {X : Type} [Inhabited X] {R sz : Nat} {t e : TypeId} {fuel : Nat} {cs : List Value} {x : DataW H × List MemPlace} {f : X → List Value} {Good : X → Prop}
    (ht : P.underlying t = some (.slice e)) (hsz : ∀ o, (f o).length = sz) (hce : P.cellsOf e = sz) (h1 : 0 < sz)
    (one : ∀ n cs' y, DataW.trod enc P w 0 (fun _ => true) true n e cs' = some y → (∀ k ∈ y.1.weights P e, k ≤ R) → ∃ o : X, cs' = f o ∧ Good o)
    (h : DataW.trod enc P w 0 (fun _ => true) true fuel t cs = some x) (hz : ∀ k ∈ x.1.weights P t, k ≤ R) :
    ∃ A l c, cs = [.slice A l.length c] ∧ (A = none → c = 0 ∧ l = []) ∧ l.length ≤ maxLen ∧ l.length * P.bytesOf e ≤ R ∧ (∀ o ∈ l, Good o) ∧
      (l ≠ [] → ∃ b off, A = some ⟨b, off, none⟩ ∧ b < w.heap.size ∧ ∀ j u, (l.flatMap f)[j]? = some u → w.cell? ⟨b, off + j, none⟩ = some u) := by
  rcases Go.Deep.open_slice ht h with ⟨hcs, hx⟩ | ⟨a, len, cap, m, k, D, Pl, hcs, hb, hl, hm, hmm, hx, hcell⟩
  · exact ⟨none, [], 0, hcs, fun _ => ⟨rfl, rfl⟩, Nat.zero_le _, (by simp), (fun o h => (List.not_mem_nil h).elim), fun h => absurd rfl h⟩
  · simp only [if_true] at hmm
    subst hmm
    have hd1 : x.1 = .slice ((List.range len).map D) ((List.range (m - len)).map fun j => D (len + j)) := congrArg Prod.fst hx
    rw [hd1] at hz
    simp only [DataW.weights, ht, List.mem_cons, List.mem_append] at hz
    have hbytes := hz _ (.inl rfl)
    have each : ∀ i, i < len → ∃ o : X, (∃ cs', w.cells? 0 (a.add (i * sz)) sz = some cs' ∧ cs' = f o) ∧ Good o := by
      intro i hi
      obtain ⟨cs', h2, h3⟩ := hcell i (by omega)
      rw [hce] at h2
      obtain ⟨o, ho, hg⟩ := one _ _ _ h3 (fun k hk => hz k (.inr (.inl (weights_elem (List.mem_map.2 ⟨i, List.mem_range.2 hi, rfl⟩) k hk))))
      exact ⟨o, ⟨cs', h2, ho⟩, hg⟩
    obtain ⟨g, hg⟩ := Go.Deep.choose_lt each
    have hlen : ((List.range len).map g).length = len := by simp
    refine ⟨some a, (List.range len).map g, m, by rw [hlen]; exact hcs, (fun h => by cases h), by rw [hlen]; omega, ?_, ?_, fun hn => ?_⟩
    · rw [hlen]
      simp only [List.length_map, List.length_range] at hbytes
      exact Nat.le_trans (Nat.mul_le_mul_right _ (by omega)) hbytes
    · intro o ho
      obtain ⟨i, hi, rfl⟩ := List.mem_map.1 ho
      exact (hg i (List.mem_range.1 hi)).2
    · have hpos : 0 < len := by
        rcases Nat.eq_zero_or_pos len with e | e
        · subst e
          exact absurd rfl hn
        · exact e
      have cell : ∀ i r, i < len → r < sz → w.cell? (a.add (i * sz + r)) = (f (g i))[r]? := by
        intro i r hi hr
        obtain ⟨⟨cs', h2, rfl⟩, _⟩ := hg i hi
        obtain ⟨_, _, hc⟩ := World.cells?_some h2
        have := hc r hr
        rw [Go.Deep.add_add] at this
        exact this
      have ⟨u0, hu0⟩ : ∃ u, (f (g 0))[0]? = some u := ⟨_, List.getElem?_eq_getElem (by rw [hsz]; exact h1)⟩
      have c0 := (cell 0 0 hpos h1).trans hu0
      obtain ⟨b, off, spot⟩ := a
      have hspot : spot = none := by simpa [Addr.add] using World.cell?_spot c0
      subst hspot
      refine ⟨b, off, rfl, ?_, fun j u hj => ?_⟩
      · have := block_lt c0
        rwa [Go.WideShapes.add_plain] at this
      · have hjl : j < len * sz := by
          have h3 := (List.getElem?_eq_some_iff.1 hj).1
          have h4 : ∀ l : List X, (l.flatMap f).length = l.length * sz := by
            intro l
            induction l with
            | nil => simp
            | cons y l ih => rw [List.flatMap_cons, List.length_append, hsz, ih, List.length_cons, Nat.add_mul]; omega
          rw [h4, hlen] at h3
          exact h3
        have hi : j / sz < len := Nat.div_lt_of_lt_mul (by rw [Nat.mul_comm]; exact hjl)
        have hr : j % sz < sz := Nat.mod_lt _ h1
        have hd : j / sz * sz + j % sz = j := by rw [Nat.mul_comm]; exact Nat.div_add_mod j sz
        have f0 := flat_at f sz hsz (g 0) ((List.range len).map g) (j / sz) (j % sz) (by rw [hlen]; exact hi) hr
        rw [hd, hj] at f0
        have hgd : ((List.range len).map g).getD (j / sz) (g 0) = g (j / sz) := by
          rw [List.getD_eq_getElem?_getD, List.getElem?_map, List.getElem?_range hi]
          rfl
        rw [hgd] at f0
        have := (cell _ _ hi hr).trans f0.symm
        rw [hd, Go.WideShapes.add_plain] at this
        exact this

instance inhabPar : Inhabited (Int × Bool) := ⟨(0, false)⟩

instance inhabEx : Inhabited Exx := ⟨zEx⟩

/-- A parameter. -/
theorem par_trod {R n : Nat} {cs : List Value} {y : DataW H × List MemPlace} (h : DataW.trod enc Try.prog w 0 (fun _ => true) true n pP cs = some y) : ∃ q : Int × Bool, cs = parCells q ∧ True := by
  obtain ⟨xs, k, rfl, rfl, hcl, hxl, hf⟩ := DataW.trod_struct Try.underlying85 h
  have hc : Try.prog.cellsOf pP = 2 := by kernel_rfl
  have c0 : Try.prog.cellsOf 3 = 1 := by kernel_rfl
  have c1 : Try.prog.cellsOf 4 = 1 := by kernel_rfl
  rw [hc] at hcl
  match xs, hxl, cs, hcl with
  | [y0, y1], _, [v0, v1], _ =>
    have g0 := hf 0 _ rfl
    have g1 := hf 1 _ rfl
    simp [c0, c1] at g0 g1
    obtain ⟨z0, hz0, _, _⟩ := DataW.trod_int Try.underlying3 g0
    obtain ⟨z1, hz1, _⟩ := DataW.trod_bool Try.underlying4 g1
    refine ⟨(z0, z1), ?_, trivial⟩
    simp only [List.cons.injEq, and_true] at hz0 hz1
    rw [hz0, hz1]
    rfl

/-- Parameters. -/
theorem pars_trod {R n : Nat} {cs : List Value} {y : DataW H × List MemPlace} (h : DataW.trod enc Try.prog w 0 (fun _ => true) true n 36 cs = some y) (hz : ∀ k ∈ y.1.weights Try.prog 36, k ≤ R) :
    ∃ (A : Option Addr) (ps : List (Int × Bool)) (c : Nat), cs = [.slice A ps.length c] ∧ ParV w.heap.size w (.slice A ps.length c) ps ∧ ps.length * 16 ≤ R := by
  obtain ⟨A, ps, c, h1, h2, h3, h4, h5, h6⟩ := open_row (f := parCells) (sz := 2) (Good := fun _ => True) Try.underlying36 (fun _ => rfl) (by kernel_rfl) (by decide) (fun _ _ _ h _ => par_trod (R := R) h) h hz
  refine ⟨A, ps, c, h1, ⟨A, c, rfl, h2, fun hn => ?_⟩, ?_⟩
  · obtain ⟨b, off, e, hb, hc⟩ := h6 hn
    exact ⟨b, off, e, hb, .inl hb, hc⟩
  · have hb : Try.prog.bytesOf pP = 16 := by kernel_rfl
    rw [hb] at h4
    exact h4

theorem size_weight {P : Program} {t : TypeId} {s : ByteArray} {R : Nat} (hz : ∀ k ∈ (DataW.lit (H := H) (.string s.data.toList)).weights P t, k ≤ R) : s.size ≤ R := by
  have := hz s.data.toList.length (by simp [DataW.weights])
  rw [Array.length_toList] at this
  exact this

/-- What others may use, one. -/
theorem ex_trod {R n : Nat} {cs : List Value} {y : DataW H × List MemPlace} (h : DataW.trod enc Try.prog w 0 (fun _ => true) true n pE cs = some y) (hz : ∀ k ∈ y.1.weights Try.prog pE, k ≤ R) :
    ∃ x : Exx, cs = exCells x ∧ (ParV w.heap.size w x.2 x.1.ps ∧ x.1.nm.size ≤ R ∧ x.1.ps.length * 16 ≤ R) := by
  obtain ⟨xs, k, rfl, rfl, hcl, hxl, hf⟩ := DataW.trod_struct Try.underlying63 h
  have hc : Try.prog.cellsOf pE = 5 := by kernel_rfl
  have c0 : Try.prog.cellsOf 3 = 1 := by kernel_rfl
  have c1 : Try.prog.cellsOf 9 = 1 := by kernel_rfl
  have c2 : Try.prog.cellsOf 21 = 1 := by kernel_rfl
  have c3 : Try.prog.cellsOf 36 = 1 := by kernel_rfl
  rw [hc] at hcl
  match xs, hxl, cs, hcl with
  | [y0, y1, y2, y3, y4], _, [v0, v1, v2, v3, v4], _ =>
    have g0 := hf 0 _ rfl
    have g1 := hf 1 _ rfl
    have g2 := hf 2 _ rfl
    have g3 := hf 3 _ rfl
    have g4 := hf 4 _ rfl
    have w0 := weights_part Try.underlying63 hz (i := 0) rfl rfl
    have w4 := weights_part Try.underlying63 hz (i := 4) rfl rfl
    simp [c0, c1, c2, c3] at g0 g1 g2 g3 g4
    obtain ⟨s, hz0, hs, _⟩ := DataW.trod_string Try.underlying9 g0
    obtain ⟨z1, hz1, _, _⟩ := DataW.trod_int Try.underlying3 g1
    obtain ⟨z2, hz2, _, _⟩ := DataW.trod_int Try.underlying3 g2
    obtain ⟨z3, hz3, _, _⟩ := DataW.trod_int Try.underlying21 g3
    obtain ⟨A, ps, c, hz4, hp, hn⟩ := pars_trod g4 w4
    subst hs
    refine ⟨(⟨s, z1, z2, z3, ps⟩, .slice A ps.length c), ?_, hp, size_weight w0, hn⟩
    simp only [List.cons.injEq, and_true] at hz0 hz1 hz2 hz3 hz4
    rw [hz0, hz1, hz2, hz3, hz4]
    rfl

/-- What others may use. -/
theorem exs_trod {R n : Nat} {cs : List Value} {y : DataW H × List MemPlace} (h : DataW.trod enc Try.prog w 0 (fun _ => true) true n 32 cs = some y) (hz : ∀ k ∈ y.1.weights Try.prog 32, k ≤ R) :
    ∃ (A : Option Addr) (es : List Exx) (c : Nat), cs = [.slice A es.length c] ∧ ExpV w.heap.size w (.slice A es.length c) es ∧ es.length * 64 ≤ R ∧ ∀ e ∈ es, e.1.nm.size ≤ R ∧ e.1.ps.length * 16 ≤ R := by
  obtain ⟨A, es, c, h1, h2, h3, h4, h5, h6⟩ := open_row (f := exCells) (sz := 5) (Good := fun x : Exx => ParV w.heap.size w x.2 x.1.ps ∧ x.1.nm.size ≤ R ∧ x.1.ps.length * 16 ≤ R) Try.underlying32 (fun _ => rfl) (by kernel_rfl) (by decide) (fun _ _ _ h h' => ex_trod h h') h hz
  refine ⟨A, es, c, h1, ⟨A, c, rfl, fun hn => ?_, fun e he => (h5 e he).1⟩, ?_, fun e he => (h5 e he).2⟩
  · obtain ⟨b, off, e, hb, hc⟩ := h6 hn
    exact ⟨b, off, e, hb, hb, hc⟩
  · have hb : Try.prog.bytesOf pE = 64 := by kernel_rfl
    rw [hb] at h4
    exact h4

/-- An object. -/
theorem ob_trod {R n : Nat} {cs : List Value} {y : DataW H × List MemPlace} (h : DataW.trod enc Try.prog w 0 (fun _ => true) true n pO cs = some y) (hz : ∀ k ∈ y.1.weights Try.prog pO, k ≤ R) :
    ∃ (x : Ob) (A : Option Addr) (c : Nat), cs = oxCells (x, .slice A x.ps.length c) ∧ ParV w.heap.size w (.slice A x.ps.length c) x.ps ∧ x.nm.size ≤ R ∧ x.ps.length * 16 ≤ R := by
  obtain ⟨xs, k, rfl, rfl, hcl, hxl, hf⟩ := DataW.trod_struct Try.underlying38 h
  have hc : Try.prog.cellsOf pO = 8 := by kernel_rfl
  have c0 : Try.prog.cellsOf 3 = 1 := by kernel_rfl
  have c1 : Try.prog.cellsOf 9 = 1 := by kernel_rfl
  have c2 : Try.prog.cellsOf 21 = 1 := by kernel_rfl
  have c3 : Try.prog.cellsOf 36 = 1 := by kernel_rfl
  have c4 : Try.prog.cellsOf 4 = 1 := by kernel_rfl
  rw [hc] at hcl
  match xs, hxl, cs, hcl with
  | [y0, y1, y2, y3, y4, y5, y6, y7], _, [v0, v1, v2, v3, v4, v5, v6, v7], _ =>
    have g0 := hf 0 _ rfl
    have g1 := hf 1 _ rfl
    have g2 := hf 2 _ rfl
    have g3 := hf 3 _ rfl
    have g4 := hf 4 _ rfl
    have g5 := hf 5 _ rfl
    have g6 := hf 6 _ rfl
    have g7 := hf 7 _ rfl
    have w0 := weights_part Try.underlying38 hz (i := 0) rfl rfl
    have w7 := weights_part Try.underlying38 hz (i := 7) rfl rfl
    simp [c0, c1, c2, c3, c4] at g0 g1 g2 g3 g4 g5 g6 g7
    obtain ⟨s, hz0, hs, _⟩ := DataW.trod_string Try.underlying9 g0
    obtain ⟨z1, hz1, _, _⟩ := DataW.trod_int Try.underlying3 g1
    obtain ⟨z2, hz2, _, _⟩ := DataW.trod_int Try.underlying3 g2
    obtain ⟨z3, hz3, _, _⟩ := DataW.trod_int Try.underlying3 g3
    obtain ⟨z4, hz4, _, _⟩ := DataW.trod_int Try.underlying21 g4
    obtain ⟨z5, hz5, _, _⟩ := DataW.trod_int Try.underlying3 g5
    obtain ⟨z6, hz6, _⟩ := DataW.trod_bool Try.underlying4 g6
    obtain ⟨A, ps, c, hz7, hp, hn⟩ := pars_trod g7 w7
    subst hs
    refine ⟨⟨s, z1, z2, z3, z4, z5, z6, ps⟩, A, c, ?_, hp, size_weight w0, hn⟩
    simp only [List.cons.injEq, and_true] at hz0 hz1 hz2 hz3 hz4 hz5 hz6 hz7
    rw [hz0, hz1, hz2, hz3, hz4, hz5, hz6, hz7]
    rfl

/-- A call that came in. -/
structure OpP where
  kind : Int
  on : Int
  x : Ob
  A : Option Addr
  c : Nat
  E : Option Addr
  es : List Exx
  ce : Nat

instance : Inhabited OpP := ⟨⟨0, 0, zO, none, 0, none, [], 0⟩⟩

def opCells (o : OpP) : List Value := [.int .i64 o.kind, .int .i64 o.on, .string o.x.nm, .int .i64 o.x.kd, .int .i64 o.x.ty, .int .i64 o.x.lv, .int .i32 o.x.nn, .int .i64 o.x.md, .bool o.x.ou, .slice o.A o.x.ps.length o.c, .slice o.E o.es.length o.ce]

/-- What is known of a call. -/
structure OpGood (B : Nat) (w : World) (o : OpP) : Prop where
  par : ParV B w (.slice o.A o.x.ps.length o.c) o.x.ps
  ok : ObOk o.x
  exs : ExpV B w (.slice o.E o.es.length o.ce) o.es
  eok : ∀ e ∈ o.es, ObOk (expOb 0 e.1)
  elen : o.es.length * 64 ≤ 140737488355328

theorem op_trod {n : Nat} {cs : List Value} {y : DataW H × List MemPlace} (h : DataW.trod enc Try.prog w 0 (fun _ => true) true n 57 cs = some y) (hz : ∀ k ∈ y.1.weights Try.prog 57, k ≤ 140737488355328) :
    ∃ o : OpP, cs = opCells o ∧ OpGood w.heap.size w o := by
  obtain ⟨xs, k, rfl, rfl, hcl, hxl, hf⟩ := DataW.trod_struct Try.underlying57 h
  have hc : Try.prog.cellsOf 57 = 11 := by kernel_rfl
  have c0 : Try.prog.cellsOf 3 = 1 := by kernel_rfl
  have c1 : Try.prog.cellsOf pO = 8 := by kernel_rfl
  have c2 : Try.prog.cellsOf 32 = 1 := by kernel_rfl
  rw [hc] at hcl
  match xs, hxl, cs, hcl with
  | [y0, y1, y2, y3], _, [v0, v1, v2, v3, v4, v5, v6, v7, v8, v9, v10], _ =>
    have g0 := hf 0 _ rfl
    have g1 := hf 1 _ rfl
    have g2 := hf 2 _ rfl
    have g3 := hf 3 _ rfl
    have w2 := weights_part Try.underlying57 hz (i := 2) rfl rfl
    have w3 := weights_part Try.underlying57 hz (i := 3) rfl rfl
    simp [c0, c1, c2] at g0 g1 g2 g3
    obtain ⟨z0, hz0, _, _⟩ := DataW.trod_int Try.underlying3 g0
    obtain ⟨z1, hz1, _, _⟩ := DataW.trod_int Try.underlying3 g1
    obtain ⟨x, A, c, hx, hp, hs, hn⟩ := ob_trod g2 w2
    obtain ⟨E, es, ce, he, hev, hel, hee⟩ := exs_trod g3 w3
    refine ⟨⟨z0, z1, x, A, c, E, es, ce⟩, ?_, hp, ⟨hs, hn⟩, hev, fun e he => ⟨(hee e he).1, (hee e he).2⟩, hel⟩
    simp only [List.cons.injEq, and_true, oxCells] at hz0 hz1 hx he
    obtain ⟨e2, e3, e4, e5, e6, e7, e8, e9⟩ := hx
    rw [hz0, hz1, e2, e3, e4, e5, e6, e7, e8, e9, he]
    rfl

/-- Calls that came in. -/
def OpPs (w : World) (B : Nat) (A : Option Addr) (n : Nat) (f : Nat → OpP) : Prop :=
  (0 < n → ∃ b off, A = some ⟨b, off, none⟩ ∧ b < B ∧ b < w.heap.size ∧ ∀ j, j < n → ∀ r u, (opCells (f j))[r]? = some u → w.cell? ⟨b, off + (j * 11 + r), none⟩ = some u) ∧ ∀ j, j < n → OpGood B w (f j)

theorem open_opPs {r : Reach} {b0 : Nat} {v : Value} {d : DataW H} {ps : List MemPlace} (hval : Value.okWide Try.prog w r b0 22 v) (hd : DataW.Trod enc Try.prog w 0 (fun _ => true) true 22 v d ps) (hz : ∀ k ∈ d.weights Try.prog 22, k ≤ 140737488355328) :
    ∃ A n c f, v = .slice A n c ∧ OpPs w w.heap.size A n f ∧ n ≤ maxLen := by
  obtain ⟨a0, len, cap, rfl⟩ := okWide_slice Try.underlying22 hval
  obtain ⟨fuel, hf⟩ := hd
  obtain ⟨A, l, c, h1, h2, h3, h4, h5, h6⟩ := open_row (f := opCells) (sz := 11) (Good := OpGood w.heap.size w) Try.underlying22 (fun _ => rfl) (by kernel_rfl) (by decide) (fun _ _ _ h h' => op_trod h h') hf hz
  simp [Value.cells] at h1
  obtain ⟨rfl, rfl, rfl⟩ := h1
  refine ⟨a0, l.length, cap, fun j => l.getD j default, rfl, ⟨fun hn => ?_, fun j hj => h5 _ ?_⟩, h3⟩
  · obtain ⟨b, off, e, hb, hc⟩ := h6 (fun e => by rw [e] at hn; exact absurd hn (by simp))
    refine ⟨b, off, e, hb, hb, fun j hj r u hr => hc _ _ ?_⟩
    have h11 : r < 11 := by
      have := (List.getElem?_eq_some_iff.1 hr).1
      exact this
    rw [flat_at opCells 11 (fun _ => rfl) default l j r hj h11]
    exact hr
  · show l.getD j default ∈ l
    rw [List.getD_eq_getElem?_getD, List.getElem?_eq_getElem hj]
    exact List.getElem_mem hj

theorem open_obP {r : Reach} {b0 : Nat} {v : Value} {d : DataW H} {ps : List MemPlace} (hval : Value.okWide Try.prog w r b0 pO v) (hd : DataW.Trod enc Try.prog w 0 (fun _ => true) true pO v d ps) (hz : ∀ k ∈ d.weights Try.prog pO, k ≤ 140737488355328) :
    ∃ (x : Ob) (A : Option Addr) (c : Nat), v = .agg #[.string x.nm, .int .i64 x.kd, .int .i64 x.ty, .int .i64 x.lv, .int .i32 x.nn, .int .i64 x.md, .bool x.ou, .slice A x.ps.length c] ∧ ParV w.heap.size w (.slice A x.ps.length c) x.ps ∧ ObOk x := by
  obtain ⟨cs, rfl, hsz⟩ := okWide_struct Try.underlying38 hval
  obtain ⟨fuel, hf⟩ := hd
  obtain ⟨x, A, c, hx, hp, hs, hn⟩ := ob_trod hf hz
  refine ⟨x, A, c, ?_, hp, hs, hn⟩
  congr 1
  apply Array.ext'
  simpa [Value.cells, oxCells] using hx

end
end Go.Proofs.Ytpfoebnlngfebaa
