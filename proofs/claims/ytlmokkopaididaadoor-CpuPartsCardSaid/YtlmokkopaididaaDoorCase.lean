/- The laws' argument Case of package cpu: opened. Over any program. -/
import Derived.Test.YtlmokkopaididaaDoorMemT
namespace Go.Proofs.YtlmokkopaididaaDoor
open Go.ChangeShapes Go.WideShapes Go.ChangeAt Go.RowKit
set_option linter.unusedVariables false

section
variable {H : Type} {enc : TypeId × Value → H} {P : Program} {w : World}

theorem list_of_ints {k : IntKind} {cs : List Value} (hat : ∀ i (hi : i < cs.length), ∃ z, cs[i] = .int k z ∧ (Lit.int k z).wf = true) :
    ∃ zs : List Int, cs = zs.map (Value.int k) ∧ zs.length = cs.length ∧ ∀ z ∈ zs, (Lit.int k z).wf = true := by
  refine ⟨cs.map theInt, ?_, by simp, ?_⟩
  · apply List.ext_getElem
    · simp
    · intro i h1 h2
      obtain ⟨z, hz, _⟩ := hat i h1
      simp [hz, theInt]
  · intro z hz
    obtain ⟨v, hv, rfl⟩ := List.mem_map.1 hz
    obtain ⟨i, hi, rfl⟩ := List.getElem_of_mem hv
    obtain ⟨z, hz, hw⟩ := hat i hi
    rw [hz]
    exact hw

theorem cells_ints_struct {base : Nat} {sp : Nat → Bool} {held : Bool} {fuel : Nat} {t : TypeId} {k : IntKind} {fs : Array Field} {cs : List Value} {x : DataW H × List MemPlace}
    (ht : P.underlying t = some (.struct fs)) (hone : Go.Deep.oneCellFields P fs = true) (hk : allInts P k fs = true) (hC : P.cellsOf t = fs.size) (hf : DataW.trod enc P w base sp held fuel t cs = some x) :
    ∃ zs : List Int, cs = zs.map (Value.int k) ∧ zs.length = fs.size ∧ ∀ z ∈ zs, (Lit.int k z).wf = true := by
  obtain ⟨xs, n, rfl, hx, hcl, hxl, hat⟩ := DataW.trod_struct ht hf
  obtain ⟨zs, h1, h2, h3⟩ := list_of_ints (k := k) (cs := cs) (fun i hi => by
    have hif : i < fs.size := by omega
    have hfi : fs[i]? = some fs[i] := Array.getElem?_eq_getElem hif
    obtain ⟨ho, hc1⟩ := Go.Deep.hone_of hone i _ hfi
    have h1 := hat i _ hfi
    rw [ho, hc1, List.getElem?_eq_getElem (show i < xs.length by omega)] at h1
    have ha := List.all_eq_true.1 hk fs[i] (Array.getElem_mem_toList hif)
    split at ha
    · rename_i k' hu
      simp only [decide_eq_true_eq] at ha
      subst ha
      obtain ⟨z, hz, _, hw⟩ := DataW.trod_int hu h1
      refine ⟨z, ?_, hw⟩
      have e := congrArg (·[0]?) hz
      simpa [hi] using e
    · cases ha)
  exact ⟨zs, h1, by omega, h3⟩

theorem cells_ints_arr {base : Nat} {sp : Nat → Bool} {held : Bool} {fuel : Nat} {t e : TypeId} {k : IntKind} {n : Nat} {cs : List Value} {x : DataW H × List MemPlace}
    (ht : P.underlying t = some (.array n e)) (he : P.underlying e = some (.int k)) (hc : P.cellsOf e = 1) (hC : P.cellsOf t = n) (hf : DataW.trod enc P w base sp held fuel t cs = some x) :
    ∃ zs : List Int, cs = zs.map (Value.int k) ∧ zs.length = n ∧ ∀ z ∈ zs, (Lit.int k z).wf = true := by
  obtain ⟨xs, m, rfl, hx, hcl, hxl, hat⟩ := DataW.trod_array ht hf
  obtain ⟨zs, h1, h2, h3⟩ := list_of_ints (k := k) (cs := cs) (fun i hi => by
    have h1 := hat i (by omega)
    rw [hc, Nat.mul_one, List.getElem?_eq_getElem (show i < xs.length by omega)] at h1
    obtain ⟨z, hz, _, hw⟩ := DataW.trod_int he h1
    refine ⟨z, ?_, hw⟩
    have e := congrArg (·[0]?) hz
    simpa [hi] using e)
  exact ⟨zs, h1, by omega, h3⟩

theorem nums_of_trod2 {t e : TypeId} {k : IntKind} {fuel : Nat} {cs : List Value} {x : DataW H × List MemPlace} (ht : P.underlying t = some (.slice e)) (he : P.underlying e = some (.int k)) (hc : P.cellsOf e = 1)
    (hf : DataW.trod enc P w 0 (fun _ => true) true fuel t cs = some x) :
    ∃ A n c zs, cs = [.slice A n c] ∧ Nums k w A n zs ∧ n ≤ c ∧ (A = none → n = 0 ∧ c = 0) ∧ n ≤ maxLen ∧ ∀ z ∈ zs, (Lit.int k z).wf = true := by
  rcases open_ints ht he hc hf with ⟨hcs, hx⟩ | ⟨a, len, cap, zs, hcs, _, hl, hm, hz, hx, hcell, hwz⟩
  · exact ⟨none, 0, 0, [], hcs, ⟨rfl, fun h => absurd h (by omega)⟩, Nat.le_refl _, fun _ => ⟨rfl, rfl⟩, Nat.zero_le _, fun z h => by cases h⟩
  · simp only [if_true] at hz
    refine ⟨some a, len, cap, zs.take len, hcs, ⟨by simp; omega, fun h0 => ?_⟩, by omega, fun h => (by cases h), by omega, fun z h => hwz z (List.mem_of_mem_take h)⟩
    obtain ⟨b, off, rfl, hat⟩ := ints_at hcell (by omega)
    refine ⟨b, off, rfl, block_lt (hat 0 (by omega)), fun j hj => ?_⟩
    rw [hat j (by omega)]
    simp [List.getD, hj]

theorem five_parts {α : Type} (cs : List α) (h : cs.length = 27) : cs = (cs.drop 0).take 5 ++ ((cs.drop 5).take 4 ++ ((cs.drop 9).take 1 ++ ((cs.drop 10).take 16 ++ (cs.drop 26).take 1))) := by
  have e5 : (cs.drop 26).take 1 = cs.drop 26 := List.take_of_length_le (by simp; omega)
  have e4 : (cs.drop 10).take 16 ++ cs.drop 26 = cs.drop 10 := by
    have := List.take_append_drop 16 (cs.drop 10)
    rwa [List.drop_drop] at this
  have e3 : (cs.drop 9).take 1 ++ cs.drop 10 = cs.drop 9 := by
    have := List.take_append_drop 1 (cs.drop 9)
    rwa [List.drop_drop] at this
  have e2 : (cs.drop 5).take 4 ++ cs.drop 9 = cs.drop 5 := by
    have := List.take_append_drop 4 (cs.drop 5)
    rwa [List.drop_drop] at this
  rw [e5, e4, e3, e2, List.drop_zero]
  exact (List.take_append_drop 5 cs).symm

/-- What is known of a Case: its cells, its lists. -/
structure CaseIn (w : World) (CA : Array Value) (es ss rs : List Int) (Aw : Option Addr) (nw cw : Nat) (zw : List Int) (Ai : Option Addr) (ni ci : Nat) (inp : List Int) : Prop where
  cells : CA.toList = es.map (Value.int .u32) ++ (ss.map (Value.int .u32) ++ ([.slice Aw nw cw] ++ (rs.map (Value.int .u32) ++ [.slice Ai ni ci])))
  el : es.length = 5
  sl : ss.length = 4
  rl : rs.length = 16
  ew : ∀ z ∈ es, (Lit.int .u32 z).wf = true
  sw : ∀ z ∈ ss, (Lit.int .u32 z).wf = true
  rw : ∀ z ∈ rs, (Lit.int .u32 z).wf = true
  wn : Nums .u32 w Aw nw zw
  wc : nw ≤ cw
  wz : Aw = none → nw = 0 ∧ cw = 0
  ww : ∀ z ∈ zw, (Lit.int .u32 z).wf = true
  inn : Nums .i32 w Ai ni inp
  iz : Ai = none → ni = 0 ∧ ci = 0
  iw : ∀ z ∈ inp, (Lit.int .i32 z).wf = true

theorem open_case {r : Reach} {b0 : Nat} {v : Value} {d : DataW H} {ps : List MemPlace} {t e2 e3 e4 : TypeId} {f0 f1 f2 f3 f4 : Field} {fs0 fs1 : Array Field} (he : P.underlying t = some (.struct #[f0, f1, f2, f3, f4])) (ce : P.cellsOf t = 27)
    (o0 : f0.offset = 0) (o1 : f1.offset = 5) (o2 : f2.offset = 9) (o3 : f3.offset = 10) (o4 : f4.offset = 26) (c0 : P.cellsOf f0.type = 5) (c1 : P.cellsOf f1.type = 4) (c2 : P.cellsOf f2.type = 1) (c3 : P.cellsOf f3.type = 16) (c4 : P.cellsOf f4.type = 1)
    (u0 : P.underlying f0.type = some (.struct fs0)) (h0 : Go.Deep.oneCellFields P fs0 = true) (k0 : allInts P .u32 fs0 = true) (s0 : fs0.size = 5) (u1 : P.underlying f1.type = some (.struct fs1)) (h1 : Go.Deep.oneCellFields P fs1 = true) (k1 : allInts P .u32 fs1 = true) (s1 : fs1.size = 4)
    (u2 : P.underlying f2.type = some (.slice e2)) (v2 : P.underlying e2 = some (.int .u32)) (w2 : P.cellsOf e2 = 1) (u3 : P.underlying f3.type = some (.array 16 e3)) (v3 : P.underlying e3 = some (.int .u32)) (w3 : P.cellsOf e3 = 1) (u4 : P.underlying f4.type = some (.slice e4)) (v4 : P.underlying e4 = some (.int .i32)) (w4 : P.cellsOf e4 = 1)
    (hval : Value.okWide P w r b0 t v) (hd : DataW.Trod enc P w 0 (fun _ => true) true t v d ps) :
    ∃ CA es ss rs Aw nw cw zw Ai ni ci inp, v = .agg CA ∧ CaseIn w CA es ss rs Aw nw cw zw Ai ni ci inp := by
  obtain ⟨cs, rfl, hsz⟩ := okWide_struct he hval
  obtain ⟨fuel, hf⟩ := hd
  obtain ⟨xs, n, rfl, hx, hcl, hxl, hat⟩ := DataW.trod_struct he hf
  have hxl' : xs.length = 5 := hxl
  match xs, hxl' with
  | [y0, y1, y2, y3, y4], _ =>
    have g0 := hat 0 f0 rfl
    have g1 := hat 1 f1 rfl
    have g2 := hat 2 f2 rfl
    have g3 := hat 3 f3 rfl
    have g4 := hat 4 f4 rfl
    rw [o0, c0] at g0
    rw [o1, c1] at g1
    rw [o2, c2] at g2
    rw [o3, c3] at g3
    rw [o4, c4] at g4
    obtain ⟨es, q0, l0, z0⟩ := cells_ints_struct u0 h0 k0 (by omega) g0
    obtain ⟨ss, q1, l1, z1⟩ := cells_ints_struct u1 h1 k1 (by omega) g1
    obtain ⟨Aw, nw, cw, zw, q2, wn, wc, wz, _, ww⟩ := nums_of_trod2 u2 v2 w2 g2
    obtain ⟨rs, q3, l3, z3⟩ := cells_ints_arr u3 v3 w3 c3 g3
    obtain ⟨Ai, ni, ci, inp, q4, inn, _, iz, _, iw⟩ := nums_of_trod2 u4 v4 w4 g4
    refine ⟨cs, es, ss, rs, Aw, nw, cw, zw, Ai, ni, ci, inp, rfl, ⟨?_, by omega, by omega, l3, z0, z1, z3, wn, wc, wz, ww, inn, iz, iw⟩⟩
    have h5 := five_parts ((Value.agg cs).cells.toList) (by omega)
    rw [q0, q1, q2, q3, q4] at h5
    exact h5
end
end Go.Proofs.YtlmokkopaididaaDoor
