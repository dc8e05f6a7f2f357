/- Case CpuV CpuWA CpuW CpuX in one. -/
import Derived.Test.YtinpdgjbiimgkaaDoorMemFT
import Derived.Test.YtinpdgjbiimgkaaDoorCpuKN
import Derived.Test.YtinpdgjbiimgkaaDoorCpuTE
import Derived.Deep.MidRow

/- The laws' argument Case of package cpu: opened. Over any program. -/
namespace Go.Proofs.YtinpdgjbiimgkaaDoor
open Go.ChangeShapes Go.WideShapes Go.ChangeAt Go.RowKit
set_option linter.unusedVariables false

section
variable {H : Type} {enc : TypeId × Value → H} {P : Program} {w : World}

theorem list_of_ints {k : IntKind} {cs : List Value} (hat : ∀ i (hi : i < cs.length), ∃ z, cs[i] = .int k z ∧ (Lit.int k z).wf = true) :
    ∃ zs : List Int, cs = zs.map (Value.int k) ∧ zs.length = cs.length ∧ ∀ z ∈ zs, (Lit.int k z).wf = true := by
  refine ⟨cs.map theInt, ?_, by simp, ?_⟩
  · apply List.ext_getElem
    · simp
    · intro i h1 h2
      obtain ⟨z, hz, _⟩ := hat i h1
      simp [hz, theInt]
  · intro z hz
    obtain ⟨v, hv, rfl⟩ := List.mem_map.1 hz
    obtain ⟨i, hi, rfl⟩ := List.getElem_of_mem hv
    obtain ⟨z, hz, hw⟩ := hat i hi
    rw [hz]
    exact hw

theorem cells_ints_struct {base : Nat} {sp : Nat → Bool} {held : Bool} {fuel : Nat} {t : TypeId} {k : IntKind} {fs : Array Field} {cs : List Value} {x : DataW H × List MemPlace}
    (ht : P.underlying t = some (.struct fs)) (hone : Go.Deep.oneCellFields P fs = true) (hk : allInts P k fs = true) (hC : P.cellsOf t = fs.size) (hf : DataW.trod enc P w base sp held fuel t cs = some x) :
    ∃ zs : List Int, cs = zs.map (Value.int k) ∧ zs.length = fs.size ∧ ∀ z ∈ zs, (Lit.int k z).wf = true := by
  obtain ⟨xs, n, rfl, hx, hcl, hxl, hat⟩ := DataW.trod_struct ht hf
  obtain ⟨zs, h1, h2, h3⟩ := list_of_ints (k := k) (cs := cs) (fun i hi => by
    have hif : i < fs.size := by omega
    have hfi : fs[i]? = some fs[i] := Array.getElem?_eq_getElem hif
    obtain ⟨ho, hc1⟩ := Go.Deep.hone_of hone i _ hfi
    have h1 := hat i _ hfi
    rw [ho, hc1, List.getElem?_eq_getElem (show i < xs.length by omega)] at h1
    have ha := List.all_eq_true.1 hk fs[i] (Array.getElem_mem_toList hif)
    split at ha
    · rename_i k' hu
      simp only [decide_eq_true_eq] at ha
      subst ha
      obtain ⟨z, hz, _, hw⟩ := DataW.trod_int hu h1
      refine ⟨z, ?_, hw⟩
      have e := congrArg (·[0]?) hz
      simpa [hi] using e
    · cases ha)
  exact ⟨zs, h1, by omega, h3⟩

theorem cells_ints_arr {base : Nat} {sp : Nat → Bool} {held : Bool} {fuel : Nat} {t e : TypeId} {k : IntKind} {n : Nat} {cs : List Value} {x : DataW H × List MemPlace}
    (ht : P.underlying t = some (.array n e)) (he : P.underlying e = some (.int k)) (hc : P.cellsOf e = 1) (hC : P.cellsOf t = n) (hf : DataW.trod enc P w base sp held fuel t cs = some x) :
    ∃ zs : List Int, cs = zs.map (Value.int k) ∧ zs.length = n ∧ ∀ z ∈ zs, (Lit.int k z).wf = true := by
  obtain ⟨xs, m, rfl, hx, hcl, hxl, hat⟩ := DataW.trod_array ht hf
  obtain ⟨zs, h1, h2, h3⟩ := list_of_ints (k := k) (cs := cs) (fun i hi => by
    have h1 := hat i (by omega)
    rw [hc, Nat.mul_one, List.getElem?_eq_getElem (show i < xs.length by omega)] at h1
    obtain ⟨z, hz, _, hw⟩ := DataW.trod_int he h1
    refine ⟨z, ?_, hw⟩
    have e := congrArg (·[0]?) hz
    simpa [hi] using e)
  exact ⟨zs, h1, by omega, h3⟩

theorem nums_of_trod2 {t e : TypeId} {k : IntKind} {fuel : Nat} {cs : List Value} {x : DataW H × List MemPlace} (ht : P.underlying t = some (.slice e)) (he : P.underlying e = some (.int k)) (hc : P.cellsOf e = 1)
    (hf : DataW.trod enc P w 0 (fun _ => true) true fuel t cs = some x) :
    ∃ A n c zs, cs = [.slice A n c] ∧ Nums k w A n zs ∧ n ≤ c ∧ (A = none → n = 0 ∧ c = 0) ∧ n ≤ maxLen ∧ ∀ z ∈ zs, (Lit.int k z).wf = true := by
  rcases open_ints ht he hc hf with ⟨hcs, hx⟩ | ⟨a, len, cap, zs, hcs, _, hl, hm, hz, hx, hcell, hwz⟩
  · exact ⟨none, 0, 0, [], hcs, ⟨rfl, fun h => absurd h (by omega)⟩, Nat.le_refl _, fun _ => ⟨rfl, rfl⟩, Nat.zero_le _, fun z h => by cases h⟩
  · simp only [if_true] at hz
    refine ⟨some a, len, cap, zs.take len, hcs, ⟨by simp; omega, fun h0 => ?_⟩, by omega, fun h => (by cases h), by omega, fun z h => hwz z (List.mem_of_mem_take h)⟩
    obtain ⟨b, off, rfl, hat⟩ := ints_at hcell (by omega)
    refine ⟨b, off, rfl, block_lt (hat 0 (by omega)), fun j hj => ?_⟩
    rw [hat j (by omega)]
    simp [List.getD, hj]

theorem five_parts {α : Type} (cs : List α) (h : cs.length = 27) : cs = (cs.drop 0).take 5 ++ ((cs.drop 5).take 4 ++ ((cs.drop 9).take 1 ++ ((cs.drop 10).take 16 ++ (cs.drop 26).take 1))) := by
  have e5 : (cs.drop 26).take 1 = cs.drop 26 := List.take_of_length_le (by simp; omega)
  have e4 : (cs.drop 10).take 16 ++ cs.drop 26 = cs.drop 10 := by
    have := List.take_append_drop 16 (cs.drop 10)
    rwa [List.drop_drop] at this
  have e3 : (cs.drop 9).take 1 ++ cs.drop 10 = cs.drop 9 := by
    have := List.take_append_drop 1 (cs.drop 9)
    rwa [List.drop_drop] at this
  have e2 : (cs.drop 5).take 4 ++ cs.drop 9 = cs.drop 5 := by
    have := List.take_append_drop 4 (cs.drop 5)
    rwa [List.drop_drop] at this
  rw [e5, e4, e3, e2, List.drop_zero]
  exact (List.take_append_drop 5 cs).symm

/-- What is known of a Case: its cells, its lists. -/
structure CaseIn (w : World) (CA : Array Value) (es ss rs : List Int) (Aw : Option Addr) (nw cw : Nat) (zw : List Int) (Ai : Option Addr) (ni ci : Nat) (inp : List Int) : Prop where
  cells : CA.toList = es.map (Value.int .u32) ++ (ss.map (Value.int .u32) ++ ([.slice Aw nw cw] ++ (rs.map (Value.int .u32) ++ [.slice Ai ni ci])))
  el : es.length = 5
  sl : ss.length = 4
  rl : rs.length = 16
  ew : ∀ z ∈ es, (Lit.int .u32 z).wf = true
  sw : ∀ z ∈ ss, (Lit.int .u32 z).wf = true
  rw : ∀ z ∈ rs, (Lit.int .u32 z).wf = true
  wn : Nums .u32 w Aw nw zw
  wc : nw ≤ cw
  wz : Aw = none → nw = 0 ∧ cw = 0
  ww : ∀ z ∈ zw, (Lit.int .u32 z).wf = true
  inn : Nums .i32 w Ai ni inp
  iz : Ai = none → ni = 0 ∧ ci = 0
  iw : ∀ z ∈ inp, (Lit.int .i32 z).wf = true

theorem open_case {r : Reach} {b0 : Nat} {v : Value} {d : DataW H} {ps : List MemPlace} {t e2 e3 e4 : TypeId} {f0 f1 f2 f3 f4 : Field} {fs0 fs1 : Array Field} (he : P.underlying t = some (.struct #[f0, f1, f2, f3, f4])) (ce : P.cellsOf t = 27)
    (o0 : f0.offset = 0) (o1 : f1.offset = 5) (o2 : f2.offset = 9) (o3 : f3.offset = 10) (o4 : f4.offset = 26) (c0 : P.cellsOf f0.type = 5) (c1 : P.cellsOf f1.type = 4) (c2 : P.cellsOf f2.type = 1) (c3 : P.cellsOf f3.type = 16) (c4 : P.cellsOf f4.type = 1)
    (u0 : P.underlying f0.type = some (.struct fs0)) (h0 : Go.Deep.oneCellFields P fs0 = true) (k0 : allInts P .u32 fs0 = true) (s0 : fs0.size = 5) (u1 : P.underlying f1.type = some (.struct fs1)) (h1 : Go.Deep.oneCellFields P fs1 = true) (k1 : allInts P .u32 fs1 = true) (s1 : fs1.size = 4)
    (u2 : P.underlying f2.type = some (.slice e2)) (v2 : P.underlying e2 = some (.int .u32)) (w2 : P.cellsOf e2 = 1) (u3 : P.underlying f3.type = some (.array 16 e3)) (v3 : P.underlying e3 = some (.int .u32)) (w3 : P.cellsOf e3 = 1) (u4 : P.underlying f4.type = some (.slice e4)) (v4 : P.underlying e4 = some (.int .i32)) (w4 : P.cellsOf e4 = 1)
    (hval : Value.okWide P w r b0 t v) (hd : DataW.Trod enc P w 0 (fun _ => true) true t v d ps) :
    ∃ CA es ss rs Aw nw cw zw Ai ni ci inp, v = .agg CA ∧ CaseIn w CA es ss rs Aw nw cw zw Ai ni ci inp := by
  obtain ⟨cs, rfl, hsz⟩ := okWide_struct he hval
  obtain ⟨fuel, hf⟩ := hd
  obtain ⟨xs, n, rfl, hx, hcl, hxl, hat⟩ := DataW.trod_struct he hf
  have hxl' : xs.length = 5 := hxl
  match xs, hxl' with
  | [y0, y1, y2, y3, y4], _ =>
    have g0 := hat 0 f0 rfl
    have g1 := hat 1 f1 rfl
    have g2 := hat 2 f2 rfl
    have g3 := hat 3 f3 rfl
    have g4 := hat 4 f4 rfl
    rw [o0, c0] at g0
    rw [o1, c1] at g1
    rw [o2, c2] at g2
    rw [o3, c3] at g3
    rw [o4, c4] at g4
    obtain ⟨es, q0, l0, z0⟩ := cells_ints_struct u0 h0 k0 (by omega) g0
    obtain ⟨ss, q1, l1, z1⟩ := cells_ints_struct u1 h1 k1 (by omega) g1
    obtain ⟨Aw, nw, cw, zw, q2, wn, wc, wz, _, ww⟩ := nums_of_trod2 u2 v2 w2 g2
    obtain ⟨rs, q3, l3, z3⟩ := cells_ints_arr u3 v3 w3 c3 g3
    obtain ⟨Ai, ni, ci, inp, q4, inn, _, iz, _, iw⟩ := nums_of_trod2 u4 v4 w4 g4
    refine ⟨cs, es, ss, rs, Aw, nw, cw, zw, Ai, ni, ci, inp, rfl, ⟨?_, by omega, by omega, l3, z0, z1, z3, wn, wc, wz, ww, inn, iz, iw⟩⟩
    have h5 := five_parts ((Value.agg cs).cells.toList) (by omega)
    rw [q0, q1, q2, q3, q4] at h5
    exact h5
end
end Go.Proofs.YtinpdgjbiimgkaaDoor

/- The laws of package cpu: few, begun. -/
namespace Go.Proofs.YtinpdgjbiimgkaaDoor
open Go.ChangeShapes Go.WideShapes Go.ChangeAt Go.RowKit
set_option linter.unusedVariables false

/-- What few tells. -/
def Few4 (e0 e1 e2 e3 e4 : Int) (nw ni : Nat) : Prop := okEnds e0 e1 e2 e3 e4 = true ∧ e4 ≤ 4096 ∧ nw ≤ 1024 ∧ ni ≤ 100

def Few4Post (e0 e1 e2 e3 e4 : Int) (nw ni : Nat) (w : World) (e : Ending) (w' : World) : Prop := ∃ b : Bool, e = .returned (.bool b) ∧ (b = true → Few4 e0 e1 e2 e3 e4 nw ni) ∧ Below w.heap.size w w'

set_option maxHeartbeats 8000000 in
set_option maxRecDepth 100000 in
theorem few4_at (e0 e1 e2 e3 e4 s0 s1 s2 s3 r0 r1 r2 r3 r4 r5 r6 r7 r8 r9 r10 r11 r12 r13 r14 r15 : Int) (Aw Ai : Option Addr) (nw cw ni ci : Nat) (w : World) (u0 : U32 e0) (u1 : U32 e1) (u2 : U32 e2) (u3 : U32 e3) (u4 : U32 e4) (bk be bw bi : Bool) (hbk : okEnds e0 e1 e2 e3 e4 = bk) (hbe : decide (e4 ≤ 4096) = be) (hbw : decide ((nw : Int) ≤ 1024) = bw) (hbi : decide ((ni : Int) ≤ 100) = bi) :
    Calls Tryd.prog 6 #[.agg #[.int .u32 e0, .int .u32 e1, .int .u32 e2, .int .u32 e3, .int .u32 e4, .int .u32 s0, .int .u32 s1, .int .u32 s2, .int .u32 s3, .slice Aw nw cw, .int .u32 r0, .int .u32 r1, .int .u32 r2, .int .u32 r3, .int .u32 r4, .int .u32 r5, .int .u32 r6, .int .u32 r7, .int .u32 r8, .int .u32 r9, .int .u32 r10, .int .u32 r11, .int .u32 r12, .int .u32 r13, .int .u32 r14, .int .u32 r15, .slice Ai ni ci]] w fun e w' => e = .returned (.bool (bk && (be && (bw && bi)))) ∧ Below w.heap.size w w' := by
  have EN := Lib.hid (fun w => lawEnds_any e0 e1 e2 e3 e4 w)
  have RG := fun w => refright_any e0 e1 e2 e3 e4 w u0 u1 u2 u3 u4
  simp only [hbk] at RG
  have RI := Lib.hid RG
  have B0 := Lib.hid ((Below.refl w.heap.size w).alloc (Nat.le_refl _) (.cells #[.int .u32 e0, .int .u32 e1, .int .u32 e2, .int .u32 e3, .int .u32 e4, .int .u32 s0, .int .u32 s1, .int .u32 s2, .int .u32 s3, .slice Aw nw cw, .int .u32 r0, .int .u32 r1, .int .u32 r2, .int .u32 r3, .int .u32 r4, .int .u32 r5, .int .u32 r6, .int .u32 r7, .int .u32 r8, .int .u32 r9, .int .u32 r10, .int .u32 r11, .int .u32 r12, .int .u32 r13, .int .u32 r14, .int .u32 r15, .slice Ai ni ci] 31))
  have K0 := Lib.hid (Whole.made w 31 #[.int .u32 e0, .int .u32 e1, .int .u32 e2, .int .u32 e3, .int .u32 e4, .int .u32 s0, .int .u32 s1, .int .u32 s2, .int .u32 s3, .slice Aw nw cw, .int .u32 r0, .int .u32 r1, .int .u32 r2, .int .u32 r3, .int .u32 r4, .int .u32 r5, .int .u32 r6, .int .u32 r7, .int .u32 r8, .int .u32 r9, .int .u32 r10, .int .u32 r11, .int .u32 r12, .int .u32 r13, .int .u32 r14, .int .u32 r15, .slice Ai ni ci] _ rfl)
  clear RG hbk u0 u1 u2 u3 u4
  unfold endsV at *
  go_enter Tryd.func6, Tryd.ntmps6
  go_wp2_with fail
  refine (EN.out _).mono ?_
  rintro e w1 ⟨rfl, hb1⟩
  have K1 := Lib.hid (K0.out.below hb1 K0.out.lt)
  have B1 := Lib.hid (B0.out.trans (hb1.mono B0.out.size))
  clear hb1 K0 B0
  go_wp2_with fail
  refine (RI.out _).mono ?_
  rintro e w2 ⟨rfl, hb2⟩
  have K2 := Lib.hid (K1.out.below hb2 K1.out.lt)
  have B2 := Lib.hid (B1.out.trans (hb2.mono B1.out.size))
  clear hb2 K1 B1
  have k4 : w2.cell? ⟨w.heap.size, 4, none⟩ = some (.int .u32 e4) := K2.out.cell 4
  have k9 : w2.cell? ⟨w.heap.size, 9, none⟩ = some (.slice Aw nw cw) := K2.out.cell 9
  have k26 : w2.cell? ⟨w.heap.size, 26, none⟩ = some (.slice Ai ni ci) := K2.out.cell 26
  cases bk <;> cases be <;> cases bw <;> cases bi
  all_goals
    go_wp2_with fail
    go_ret
    exact ⟨rfl, B2.out⟩

theorem few4_any (e0 e1 e2 e3 e4 s0 s1 s2 s3 r0 r1 r2 r3 r4 r5 r6 r7 r8 r9 r10 r11 r12 r13 r14 r15 : Int) (Aw Ai : Option Addr) (nw cw ni ci : Nat) (w : World) (u0 : U32 e0) (u1 : U32 e1) (u2 : U32 e2) (u3 : U32 e3) (u4 : U32 e4) :
    Calls Tryd.prog 6 #[.agg #[.int .u32 e0, .int .u32 e1, .int .u32 e2, .int .u32 e3, .int .u32 e4, .int .u32 s0, .int .u32 s1, .int .u32 s2, .int .u32 s3, .slice Aw nw cw, .int .u32 r0, .int .u32 r1, .int .u32 r2, .int .u32 r3, .int .u32 r4, .int .u32 r5, .int .u32 r6, .int .u32 r7, .int .u32 r8, .int .u32 r9, .int .u32 r10, .int .u32 r11, .int .u32 r12, .int .u32 r13, .int .u32 r14, .int .u32 r15, .slice Ai ni ci]] w (Few4Post e0 e1 e2 e3 e4 nw ni w) := by
  refine (few4_at e0 e1 e2 e3 e4 s0 s1 s2 s3 r0 r1 r2 r3 r4 r5 r6 r7 r8 r9 r10 r11 r12 r13 r14 r15 Aw Ai nw cw ni ci w u0 u1 u2 u3 u4 _ _ _ _ rfl rfl rfl rfl).mono ?_
  rintro e w' ⟨rfl, hb⟩
  refine ⟨_, rfl, fun h => ?_, hb⟩
  simp only [Bool.and_eq_true, decide_eq_true_eq] at h
  exact ⟨h.1, h.2.1, by omega, by omega⟩

end Go.Proofs.YtinpdgjbiimgkaaDoor

/- The laws of package cpu: begun: what it leaves. -/
namespace Go.Proofs.YtinpdgjbiimgkaaDoor
open Go.ChangeShapes Go.WideShapes Go.ChangeAt Go.RowKit
set_option linter.unusedVariables false

/-- Four new blocks. -/
structure Four (w W : World) (c0 : Array Value) (t0 : TypeId) (c1 : Array Value) (t1 : TypeId) (c2 : Array Value) (t2 : TypeId) (c3 : Array Value) (t3 : TypeId) : Prop where
  a : Whole W w.heap.size t0 c0
  b : Whole W (w.heap.size + 1) t1 c1
  c : Whole W (w.heap.size + 1 + 1) t2 c2
  d : Whole W (w.heap.size + 1 + 1 + 1) t3 c3
  bel : Below w.heap.size w W

theorem four_made (w : World) (c0 : Array Value) (t0 : TypeId) (c1 : Array Value) (t1 : TypeId) (c2 : Array Value) (t2 : TypeId) (c3 : Array Value) (t3 : TypeId) :
    Four w ((((w.alloc (.cells c0 t0)).alloc (.cells c1 t1)).alloc (.cells c2 t2)).alloc (.cells c3 t3)) c0 t0 c1 t1 c2 t2 c3 t3 where
  a := (((Whole.made w _ c0 _ rfl).alloc _).alloc _).alloc _
  b := ((Whole.made (w.alloc (.cells c0 _)) _ c1 (w.heap.size + 1) (by simp)).alloc _).alloc _
  c := (Whole.made ((w.alloc (.cells c0 _)).alloc (.cells c1 _)) _ c2 (w.heap.size + 1 + 1) (by simp)).alloc _
  d := Whole.made (((w.alloc (.cells c0 _)).alloc (.cells c1 _)).alloc (.cells c2 _)) _ c3 (w.heap.size + 1 + 1 + 1) (by simp)
  bel := ((((Below.refl w.heap.size w).alloc (Nat.le_refl _) _).alloc (by simp) _).alloc (by simp; omega) _).alloc (by simp; omega) _

theorem Four.setRow {w W : World} {c0 : Array Value} {t0 : TypeId} {c1 : Array Value} {t1 : TypeId} {c2 : Array Value} {t2 : TypeId} {c3 : Array Value} {t3 : TypeId} (h : Four w W c0 t0 c1 t1 c2 t2 c3 t3) (d : Array Value) : Four w (W.setRow (w.heap.size + 1 + 1 + 1) d) c0 t0 c1 t1 c2 t2 d t3 :=
  ⟨h.a.only (by omega) (Only.setRow _ _ d), h.b.only (by omega) (Only.setRow _ _ d), h.c.only (by omega) (Only.setRow _ _ d), h.d.setRow d, h.bel.trans ((Only.setRow W (w.heap.size + 1 + 1 + 1) d).below (by omega) h.bel.size)⟩

theorem nums_take {k : IntKind} {w : World} {A : Option Addr} {n j : Nat} {zs : List Int} (h : Nums k w A n zs) (hj : j ≤ n) : Nums k w A j (zs.take j) :=
  ⟨by have := h.1; simp; omega, fun h0 => by
    obtain ⟨b, off, rfl, hlt, hc⟩ := h.2 (by omega)
    refine ⟨b, off, rfl, hlt, fun i hi => ?_⟩
    rw [hc i (by omega)]
    simp [List.getD, hi]⟩

theorem Four.only {w W W' : World} {c0 : Array Value} {t0 : TypeId} {c1 : Array Value} {t1 : TypeId} {c2 : Array Value} {t2 : TypeId} {c3 : Array Value} {t3 : TypeId} (h : Four w W c0 t0 c1 t1 c2 t2 c3 t3) {g : Nat} (hg : w.heap.size + 1 + 1 + 1 < g) (o : Only g W W') : Four w W' c0 t0 c1 t1 c2 t2 c3 t3 :=
  ⟨h.a.only (by omega) o, h.b.only (by omega) o, h.c.only (by omega) o, h.d.only (by omega) o, h.bel.trans (o.below (by omega) h.bel.size)⟩

theorem Only.setCells (b : Nat) : ∀ (vs : List Value) (o : Nat) (w x : World), Only b w x → Only b w (x.setCells b o vs)
  | [], _, _, _, h => h
  | v :: r, o, w, x, h => Only.setCells b r (o + 1) w (x.setCell ⟨b, o, none⟩ v) ⟨h.os, h.tape, h.output, by simpa [World.setCell] using h.size, fun k hk hn => (Below.heap_setCell x ⟨b, o, none⟩ v k hn).trans (h.block k hk hn)⟩

theorem CpuAt.setRegs {w : World} {p : Nat} {t : TypeId} {c : Cp} {o i : Value} (h : CpuAt w p t c o i) (r0 r1 r2 r3 r4 r5 r6 r7 r8 r9 r10 r11 r12 r13 r14 r15 : Int) : CpuAt (w.setCells p 0 [.int .u32 r0, .int .u32 r1, .int .u32 r2, .int .u32 r3, .int .u32 r4, .int .u32 r5, .int .u32 r6, .int .u32 r7, .int .u32 r8, .int .u32 r9, .int .u32 r10, .int .u32 r11, .int .u32 r12, .int .u32 r13, .int .u32 r14, .int .u32 r15]) p t { c with r := [r0, r1, r2, r3, r4, r5, r6, r7, r8, r9, r10, r11, r12, r13, r14, r15] } o i := by
  obtain ⟨r, pc, epc, cause, st, why, steps, taken, en, ve, gu, li⟩ := c
  have hl : r.length = 16 := h.len
  match r, hl with
  | [a0, a1, a2, a3, a4, a5, a6, a7, a8, a9, a10, a11, a12, a13, a14, a15], _ =>
    exact h |>.set_reg (k := 0) (by decide) r0 |>.set_reg (k := 1) (by decide) r1 |>.set_reg (k := 2) (by decide) r2 |>.set_reg (k := 3) (by decide) r3 |>.set_reg (k := 4) (by decide) r4 |>.set_reg (k := 5) (by decide) r5 |>.set_reg (k := 6) (by decide) r6 |>.set_reg (k := 7) (by decide) r7 |>.set_reg (k := 8) (by decide) r8 |>.set_reg (k := 9) (by decide) r9 |>.set_reg (k := 10) (by decide) r10 |>.set_reg (k := 11) (by decide) r11 |>.set_reg (k := 12) (by decide) r12 |>.set_reg (k := 13) (by decide) r13 |>.set_reg (k := 14) (by decide) r14 |>.set_reg (k := 15) (by decide) r15

theorem one_mem (e0 e1 e2 e3 e4 : Int) (A : Option Addr) (n c : Nat) : (#[Value.int .u32 e0, .int .u32 e1, .int .u32 e2, .int .u32 e3, .int .u32 e4, .slice A n c] : Array Value).all (·.oneCell') = true := by
  rw [Array.all_eq_true_iff_forall_mem]
  intro v hv
  simp at hv
  rcases hv with rfl | rfl | rfl | rfl | rfl | rfl <;> rfl

theorem one_regs (r0 r1 r2 r3 r4 r5 r6 r7 r8 r9 r10 r11 r12 r13 r14 r15 : Int) : (#[Value.int .u32 r0, .int .u32 r1, .int .u32 r2, .int .u32 r3, .int .u32 r4, .int .u32 r5, .int .u32 r6, .int .u32 r7, .int .u32 r8, .int .u32 r9, .int .u32 r10, .int .u32 r11, .int .u32 r12, .int .u32 r13, .int .u32 r14, .int .u32 r15] : Array Value).all (·.oneCell') = true := by
  rw [Array.all_eq_true_iff_forall_mem]
  intro v hv
  simp at hv
  rcases hv with rfl | rfl | rfl | rfl | rfl | rfl | rfl | rfl | rfl | rfl | rfl | rfl | rfl | rfl | rfl | rfl <;> rfl

theorem get7 {o0 o1 o2 o3 o4 o5 o6 o7 : Oper} {r : List Oper} : (o0 :: o1 :: o2 :: o3 :: o4 :: o5 :: o6 :: o7 :: r).toArray[7]? = some o7 := by simp

theorem step_assign {P : Program} {ops : Array Oper} {op : Oper} {a : Act} {w : World} {K : Act → World → Prop} {Q : Exit → Act → World → Prop} (x : Operand) (hg : op.guard = none) (ho : op.op = .assign x) (h : K (a.put op.dst (a.eval x)) w) : Stepped P ops op a w K Q := by
  have hw : Region.wanted op (yielded ops a.tmps) = true := by simp [Region.wanted, hg]
  refine ⟨?_⟩
  rw [if_pos hw]
  unfold Oper.wp execOp
  simp only [ho]
  exact h

theorem results_four {P : Program} {fn : Func} {u1 u2 p1 p2 : Tmp} {T1 T2 : TypeId} (h : fn.results = #[.tmp u1, .tmp u2, .cell p1 T1, .cell p2 T2]) (tmps : Array Value) (w : World) (g1 g2 : Nat) (t1 t2 : TypeId) (c1 c2 : Array Value) (d1 d2 : TypeDesc) (v1 v2 : Value)
    (hv1 : tmps.getD u1 undef = v1) (hv2 : tmps.getD u2 undef = v2) (hp1 : tmps.getD p1 undef = .pointer (some ⟨g1, 0, none⟩)) (hp2 : tmps.getD p2 undef = .pointer (some ⟨g2, 0, none⟩)) (h1 : Whole w g1 t1 c1) (h2 : Whole w g2 t2 c2)
    (hu1 : P.underlying T1 = some d1) (hd1 : (match d1 with | .struct _ | .array _ _ => true | _ => false) = true) (hi1 : (P.info? T1).map (·.size) = some c1.size)
    (hu2 : P.underlying T2 = some d2) (hd2 : (match d2 with | .struct _ | .array _ _ => true | _ => false) = true) (hi2 : (P.info? T2).map (·.size) = some c2.size) :
    (results fn tmps).run P w = .ok (.tuple #[v1, v2, .agg c1, .agg c2]) w := by
  have e1 : tmps[p1]?.getD undef = .pointer (some ⟨g1, 0, none⟩) := by simpa using hp1
  have e2 : tmps[p2]?.getD undef = .pointer (some ⟨g2, 0, none⟩) := by simpa using hp2
  have e3 : tmps[u1]?.getD undef = v1 := by simpa using hv1
  have e4 : tmps[u2]?.getD undef = v2 := by simpa using hv2
  simp [results, h, e1, e2, e3, e4, asAddr, run_loadVar_row w g1 t1 T1 c1 (0, 0) d1 h1 hu1 hd1 hi1, run_loadVar_row w g2 t2 T2 c2 (0, 0) d2 h2 hu2 hd2 hi2]

theorem step_assign2 {P : Program} {ops : Array Oper} {op : Oper} {a : Act} {w : World} {K : Act → World → Prop} {Q : Exit → Act → World → Prop} {v : Value} (x : Operand) (hg : op.guard = none) (ho : op.op = .assign x) (hv : a.eval x = v) (h : K (a.put op.dst v) w) : Stepped P ops op a w K Q := by
  subst hv
  exact step_assign x hg ho h

theorem results_four2 {P : Program} {fn : Func} {u1 u2 p1 p2 : Tmp} {T1 T2 : TypeId} (h : fn.results = #[.tmp u1, .tmp u2, .cell p1 T1, .cell p2 T2]) (a : Act) (w : World) (g1 g2 : Nat) (t1 t2 : TypeId) (c1 c2 : Array Value) (d1 d2 : TypeDesc) (v1 v2 : Value)
    (hv1 : a.eval (.tmp u1) = v1) (hv2 : a.eval (.tmp u2) = v2) (hp1 : a.eval (.tmp p1) = .pointer (some ⟨g1, 0, none⟩)) (hp2 : a.eval (.tmp p2) = .pointer (some ⟨g2, 0, none⟩)) (h1 : Whole w g1 t1 c1) (h2 : Whole w g2 t2 c2)
    (hu1 : P.underlying T1 = some d1) (hd1 : (match d1 with | .struct _ | .array _ _ => true | _ => false) = true) (hi1 : (P.info? T1).map (·.size) = some c1.size)
    (hu2 : P.underlying T2 = some d2) (hd2 : (match d2 with | .struct _ | .array _ _ => true | _ => false) = true) (hi2 : (P.info? T2).map (·.size) = some c2.size) :
    (results fn a.tmps).run P w = .ok (.tuple #[v1, v2, .agg c1, .agg c2]) w :=
  results_four h a.tmps w g1 g2 t1 t2 c1 c2 d1 d2 v1 v2 hv1 hv2 hp1 hp2 h1 h2 hu1 hd1 hi1 hu2 hd2 hi2

theorem Four.later {w W W' : World} {c0 : Array Value} {t0 : TypeId} {c1 : Array Value} {t1 : TypeId} {c2 : Array Value} {t2 : TypeId} {c3 : Array Value} {t3 : TypeId} (h : Four w W c0 t0 c1 t1 c2 t2 c3 t3) (hb : Below W.heap.size W W') : Four w W' c0 t0 c1 t1 c2 t2 c3 t3 :=
  ⟨h.a.below hb h.a.lt, h.b.below hb h.b.lt, h.c.below hb h.c.lt, h.d.below hb h.d.lt, h.bel.trans (hb.mono h.bel.size)⟩

/-- A machine that has begun. -/
def begC (s0 s1 s2 s3 : Int) (r : List Int) : Cp := ⟨r, s0, 0, 0, 0, 0, 0, 0, s0, s1, s2, s3⟩

def BegunPost (e0 e1 e2 e3 e4 s0 s1 s2 s3 : Int) (r : List Int) (m : Nat) (ws : List Int) (Ai : Option Addr) (ni ci : Nat) (inp : List Int) (w : World) (e : Ending) (w' : World) : Prop :=
  ∃ p q h h2 A' cap', e = .returned (.tuple #[.pointer (some ⟨p, 0, none⟩), .pointer (some ⟨q, 0, none⟩), .agg (cpuCells (begC s0 s1 s2 s3 r) (.slice none 0 0) (.slice Ai ni ci)), .agg (memCells e0 e1 e2 e3 e4 h2 m)]) ∧
    Mach w' w.heap.size p q h m e0 e1 e2 e3 e4 (.slice none 0 0) A' ni cap' inp ⟨begC s0 s1 s2 s3 r, [], ws⟩ ∧ (∀ b off, A' = some ⟨b, off, none⟩ → w.heap.size ≤ b ∧ b < w'.heap.size) ∧
    Whole w' h2 22 (words ws) ∧ h2 ≠ p ∧ h2 ≠ h ∧ w.heap.size ≤ h2 ∧ Below w.heap.size w w'

/-- What stands behind the two stores at its end. -/
structure BegEnd (e0 e1 e2 e3 e4 : Int) (c : Cp) (m : Nat) (ws : List Int) (A' : Option Addr) (ni cap' : Nat) (inp : List Int) (p q h h3 : Nat) (D1 D2 : Array Value) (w Z : World) : Prop where
  r1 : Whole Z (w.heap.size + 1) 38 D1
  r2 : Whole Z (w.heap.size + 1 + 1) 41 D2
  mach : Mach Z w.heap.size p q h m e0 e1 e2 e3 e4 (.slice none 0 0) A' ni cap' inp ⟨c, [], ws⟩
  fresh : ∀ b off, A' = some ⟨b, off, none⟩ → w.heap.size ≤ b ∧ b < Z.heap.size
  x : Whole Z h3 22 (words ws)
  le : w.heap.size ≤ h3
  bel : Below w.heap.size w Z

set_option maxHeartbeats 4000000 in
theorem begun_end {e0 e1 e2 e3 e4 : Int} {c : Cp} {w Y : World} {CA Z1 Z2 C4 : Array Value} {T0 : TypeId} {p q h h3 m ni cap' : Nat} {A' : Option Addr} {ws inp : List Int} (F : Four w Y CA T0 Z1 38 Z2 41 C4 38)
    (C9 : CpuAt Y p 67 c (.slice none 0 0) (.slice A' ni cap')) (M9 : Whole Y q 88 (memCells e0 e1 e2 e3 e4 h m)) (W9 : Whole Y h 22 (words ws)) (N9 : Nums .i32 Y A' ni inp) (X9 : Whole Y h3 22 (words ws))
    (lp : w.heap.size + 1 + 1 + 1 < p) (lq : w.heap.size + 1 + 1 + 1 < q) (lh : w.heap.size + 1 + 1 + 1 < h) (l3 : w.heap.size + 1 + 1 + 1 < h3) (pq : p ≠ q) (ph : p ≠ h) (qh : q ≠ h)
    (HA : ∀ b off, A' = some ⟨b, off, none⟩ → w.heap.size + 1 + 1 + 1 < b ∧ b < Y.heap.size ∧ b ≠ p ∧ b ≠ h) (D1 D2 : Array Value) :
    BegEnd e0 e1 e2 e3 e4 c m ws A' ni cap' inp p q h h3 D1 D2 w ((Y.drew.setRow (w.heap.size + 1) D1).setRow (w.heap.size + 1 + 1) D2) := by
  have O1 := Only.setRow Y.drew (w.heap.size + 1) D1
  have O2 := Only.setRow (Y.drew.setRow (w.heap.size + 1) D1) (w.heap.size + 1 + 1) D2
  have hsz := F.bel.size
  have s1 : Y.heap.size ≤ (Y.drew.setRow (w.heap.size + 1) D1).heap.size := O1.size
  have s2 := O2.size
  have hz : Y.drew.heap.size = Y.heap.size := rfl
  have r1 := (F.b.drew'.setRow D1).only (by omega) O2
  have r2 := (F.c.drew'.only (by omega) O1).setRow D2
  have bel := (F.bel.drew.trans (O1.below (by omega) (by omega))).trans (O2.below (by omega) (by omega))
  have cz := ((C9.whole).drew'.only (by omega) O1).only (by omega) O2
  have mz := (M9.drew'.only (by omega) O1).only (by omega) O2
  have wz := (W9.drew'.only (by omega) O1).only (by omega) O2
  have xz := (X9.drew'.only (by omega) O1).only (by omega) O2
  have nz := ((N9.but ((But.refl [] Y).drew) (by simp)).but (But.of_only O1) (fun b off ha => by have := HA b off ha; simp; omega)).but (But.of_only O2) (fun b off ha => by have := HA b off ha; simp; omega)
  generalize ((Y.drew.setRow (w.heap.size + 1) D1).setRow (w.heap.size + 1 + 1) D2) = Z at *
  exact { r1 := r1, r2 := r2, mach := { cpu := ⟨cz, C9.len⟩, mem := mz, wds := wz, outs := Outs.nil _ _, inps := nz, pq := pq, ph := ph, qh := qh, vp := by simp [Value.ownBlock], vq := by simp [Value.ownBlock], vh := by simp [Value.ownBlock], ia := fun b off ha => ⟨(HA b off ha).2.2.1, (HA b off ha).2.2.2, by simp [Value.ownBlock]⟩, lp := by omega, lh := by omega, lw := bel.size }, fresh := fun b off ha => by have := HA b off ha; omega, x := xz, le := by omega, bel := bel }
end Go.Proofs.YtinpdgjbiimgkaaDoor

/- The laws of package cpu: begun. -/
namespace Go.Proofs.YtinpdgjbiimgkaaDoor
open Go.ChangeShapes Go.WideShapes Go.ChangeAt Go.RowKit
set_option linter.unusedVariables false

set_option maxHeartbeats 16000000 in
set_option maxRecDepth 100000 in
theorem begun_any (e0 e1 e2 e3 e4 s0 s1 s2 s3 r0 r1 r2 r3 r4 r5 r6 r7 r8 r9 r10 r11 r12 r13 r14 r15 : Int) (CA : Array Value) (Aw Ai : Option Addr) (nw cw ni ci m k : Nat) (zw inp : List Int) (w : World) (u0 : U32 e0) (u1 : U32 e1) (u2 : U32 e2) (u3 : U32 e3) (u4 : U32 e4) (hok : okEnds e0 e1 e2 e3 e4 = true) (hq : e4 / 4 = (m : Int)) (hm : m ≤ 1024) (hnw : nw ≤ 1024) (hcw : nw ≤ cw) (hni : ni ≤ 100)
    (hk : min (nw : Int) m = (k : Int)) (hkn : k ≤ nw) (hkm : k ≤ m) (hAw : Aw = none → nw = 0 ∧ cw = 0) (hAi : Ai = none → ni = 0 ∧ ci = 0) (hzw : Nums .u32 w Aw nw zw) (hin : Nums .i32 w Ai ni inp)
    (c0 : CA[0]? = some (.int .u32 e0)) (c1 : CA[1]? = some (.int .u32 e1)) (c2 : CA[2]? = some (.int .u32 e2)) (c3 : CA[3]? = some (.int .u32 e3)) (c4 : CA[4]? = some (.int .u32 e4)) (c5 : CA[5]? = some (.int .u32 s0)) (c6 : CA[6]? = some (.int .u32 s1)) (c7 : CA[7]? = some (.int .u32 s2)) (c8 : CA[8]? = some (.int .u32 s3)) (c9 : CA[9]? = some (.slice Aw nw cw)) (c26 : CA[26]? = some (.slice Ai ni ci)) (cR : (CA.extract 10 26).toList = [.int .u32 r0, .int .u32 r1, .int .u32 r2, .int .u32 r3, .int .u32 r4, .int .u32 r5, .int .u32 r6, .int .u32 r7, .int .u32 r8, .int .u32 r9, .int .u32 r10, .int .u32 r11, .int .u32 r12, .int .u32 r13, .int .u32 r14, .int .u32 r15]) (cE : (CA.extract 0 5).toList = [.int .u32 e0, .int .u32 e1, .int .u32 e2, .int .u32 e3, .int .u32 e4]) (cS : (CA.extract 5 9).toList = [.int .u32 s0, .int .u32 s1, .int .u32 s2, .int .u32 s3]) :
    Calls Tryd.prog 7 #[.agg CA] w (BegunPost e0 e1 e2 e3 e4 s0 s1 s2 s3 [r0, r1, r2, r3, r4, r5, r6, r7, r8, r9, r10, r11, r12, r13, r14, r15] m (fillWs 0 (List.replicate m 0) (zw.take k)) Ai ni ci inp w) := by
  have EN := Lib.hid (fun w => lawEnds_any e0 e1 e2 e3 e4 w)
  have RN := Lib.hid (fun w => refnew_any e0 e1 e2 e3 e4 m w u0 u1 u2 u3 u4 hq (by omega))
  have NW := Lib.hid (fun w => new_ok e0 e1 e2 e3 e4 m w u0 u1 u2 u3 u4 hok hq (by omega))
  have CN := Lib.hid (fun w hz => cnew_any s0 s1 s2 s3 Ai ni ci inp w hAi hz (by omega))
  have FR := Lib.hid (four_made w CA 31 #[.int .u32 0, .int .u32 0, .int .u32 0, .int .u32 0, .int .u32 0, .int .u32 0, .int .u32 0, .int .u32 0, .int .u32 0, .int .u32 0, .int .u32 0, .int .u32 0, .int .u32 0, .int .u32 0, .int .u32 0, .int .u32 0, .int .u32 0, .int .u32 0, .int .u32 0, .int .i64 0, .int .i64 0, .int .i64 0, .int .i64 0, .slice none 0 0, .int .u32 0, .int .u32 0, .int .u32 0, .int .u32 0, .slice none 0 0] 38 #[.int .u32 0, .int .u32 0, .int .u32 0, .int .u32 0, .int .u32 0, .slice none 0 0] 41 #[.int .u32 0, .int .u32 0, .int .u32 0, .int .u32 0, .int .u32 0, .int .u32 0, .int .u32 0, .int .u32 0, .int .u32 0, .int .u32 0, .int .u32 0, .int .u32 0, .int .u32 0, .int .u32 0, .int .u32 0, .int .u32 0, .int .u32 0, .int .u32 0, .int .u32 0, .int .i64 0, .int .i64 0, .int .i64 0, .int .i64 0, .slice none 0 0, .int .u32 0, .int .u32 0, .int .u32 0, .int .u32 0, .slice none 0 0] 38)
  have RA := Lib.hid (cR ▸ World.rangeAt_of_block (((Whole.made w 31 CA _ rfl).alloc (.cells #[.int .u32 0, .int .u32 0, .int .u32 0, .int .u32 0, .int .u32 0, .int .u32 0, .int .u32 0, .int .u32 0, .int .u32 0, .int .u32 0, .int .u32 0, .int .u32 0, .int .u32 0, .int .u32 0, .int .u32 0, .int .u32 0, .int .u32 0, .int .u32 0, .int .u32 0, .int .i64 0, .int .i64 0, .int .i64 0, .int .i64 0, .slice none 0 0, .int .u32 0, .int .u32 0, .int .u32 0, .int .u32 0, .slice none 0 0] 38)).alloc (.cells #[.int .u32 0, .int .u32 0, .int .u32 0, .int .u32 0, .int .u32 0, .slice none 0 0] 41)) 10 16)
  have FS := Lib.hid (FR.out.setRow (cpuCells (begC s0 s1 s2 s3 [r0, r1, r2, r3, r4, r5, r6, r7, r8, r9, r10, r11, r12, r13, r14, r15]) (.slice none 0 0) (.slice Ai ni ci)))
  have RE := Lib.hid (cE ▸ World.rangeAt_of_block FS.out.a 0 5)
  have ZW := Lib.hid hzw
  have ZI := Lib.hid hin
  have SZ := Lib.hid (cpuCells_size (c := begC s0 s1 s2 s3 [r0, r1, r2, r3, r4, r5, r6, r7, r8, r9, r10, r11, r12, r13, r14, r15]) rfl (.slice none 0 0) (.slice Ai ni ci))
  have ONE := Lib.hid (cpu_one (begC s0 s1 s2 s3 [r0, r1, r2, r3, r4, r5, r6, r7, r8, r9, r10, r11, r12, r13, r14, r15]) (o := .slice none 0 0) (i := .slice Ai ni ci) rfl rfl)
  have CC := Lib.hid (And.intro c0 (And.intro c1 (And.intro c2 (And.intro c3 (And.intro c4 (And.intro c5 (And.intro c6 (And.intro c7 (And.intro c8 (And.intro c9 c26))))))))))
  clear u0 u1 u2 u3 u4 hzw hin hq hok hAi
  have cR2 := cR
  clear cR
  have CE5 := Lib.hid cE
  have CS4 := Lib.hid cS
  have CR := Lib.hid cR2
  clear cE cS cR2
  unfold endsV at *
  unfold MadePost at NW
  unfold NewPost at CN
  unfold BegunPost
  go_enter Tryd.func7, Tryd.ntmps7
  go_wp2_with (first
    | (refine wpList_load_mid rfl 28 (.tmp 12) rfl w.heap.size 10 rfl [.int .u32 r0, .int .u32 r1, .int .u32 r2, .int .u32 r3, .int .u32 r4, .int .u32 r5, .int .u32 r6, .int .u32 r7, .int .u32 r8, .int .u32 r9, .int .u32 r10, .int .u32 r11, .int .u32 r12, .int .u32 r13, .int .u32 r14, .int .u32 r15] _ RA.out Tryd.underlying28 rfl (by kernel_rfl) ?_)
    | (refine wpList_store_row rfl 38 (.tmp 6) (.tmp 31) rfl (w.heap.size + 1 + 1 + 1) (cpuCells (begC s0 s1 s2 s3 [r0, r1, r2, r3, r4, r5, r6, r7, r8, r9, r10, r11, r12, r13, r14, r15]) (.slice none 0 0) (.slice Ai ni ci)) rfl rfl 38 #[.int .u32 0, .int .u32 0, .int .u32 0, .int .u32 0, .int .u32 0, .int .u32 0, .int .u32 0, .int .u32 0, .int .u32 0, .int .u32 0, .int .u32 0, .int .u32 0, .int .u32 0, .int .u32 0, .int .u32 0, .int .u32 0, .int .u32 0, .int .u32 0, .int .u32 0, .int .i64 0, .int .i64 0, .int .i64 0, .int .i64 0, .slice none 0 0, .int .u32 0, .int .u32 0, .int .u32 0, .int .u32 0, .slice none 0 0] FR.out.d (infoCpu SZ.out) (by rw [SZ.out]; rfl) ONE.out ?_)
    | (refine wpList_load_mid rfl 24 (.tmp 32) rfl w.heap.size 0 rfl [.int .u32 e0, .int .u32 e1, .int .u32 e2, .int .u32 e3, .int .u32 e4] _ RE.out Tryd.underlying24 rfl (by kernel_rfl) ?_))
  clear c0 c1 c2 c3 c4 c5 c6 c7 c8 c9 c26 FR RA RE
  generalize (((((w.alloc (.cells CA 31)).alloc (.cells #[.int .u32 0, .int .u32 0, .int .u32 0, .int .u32 0, .int .u32 0, .int .u32 0, .int .u32 0, .int .u32 0, .int .u32 0, .int .u32 0, .int .u32 0, .int .u32 0, .int .u32 0, .int .u32 0, .int .u32 0, .int .u32 0, .int .u32 0, .int .u32 0, .int .u32 0, .int .i64 0, .int .i64 0, .int .i64 0, .int .i64 0, .slice none 0 0, .int .u32 0, .int .u32 0, .int .u32 0, .int .u32 0, .slice none 0 0] 38)).alloc (.cells #[.int .u32 0, .int .u32 0, .int .u32 0, .int .u32 0, .int .u32 0, .slice none 0 0] 41)).alloc (.cells #[.int .u32 0, .int .u32 0, .int .u32 0, .int .u32 0, .int .u32 0, .int .u32 0, .int .u32 0, .int .u32 0, .int .u32 0, .int .u32 0, .int .u32 0, .int .u32 0, .int .u32 0, .int .u32 0, .int .u32 0, .int .u32 0, .int .u32 0, .int .u32 0, .int .u32 0, .int .i64 0, .int .i64 0, .int .i64 0, .int .i64 0, .slice none 0 0, .int .u32 0, .int .u32 0, .int .u32 0, .int .u32 0, .slice none 0 0] 38)).setRow (w.heap.size + 1 + 1 + 1) (cpuCells (begC s0 s1 s2 s3 [r0, r1, r2, r3, r4, r5, r6, r7, r8, r9, r10, r11, r12, r13, r14, r15]) (.slice none 0 0) (.slice Ai ni ci))) = V at *
  refine (EN.out _).mono ?_
  rintro e w1 ⟨rfl, hb1⟩
  have F1 := Lib.hid (FS.out.later hb1)
  clear hb1 FS
  go_wp2_with fail
  refine (RN.out _).mono ?_
  rintro e w2 ⟨h2, rfl, hW, g2, hb2⟩
  unfold memCells
  have F2 := Lib.hid ((F1.out.later hb2).later ((Below.refl _ _).alloc (Nat.le_refl _) (.cells #[.int .u32 e0, .int .u32 e1, .int .u32 e2, .int .u32 e3, .int .u32 e4, .slice (some ⟨h2, 0, none⟩) m m] 41)))
  have T2 := Lib.hid (Whole.made w2 41 #[.int .u32 e0, .int .u32 e1, .int .u32 e2, .int .u32 e3, .int .u32 e4, .slice (some ⟨h2, 0, none⟩) m m] _ rfl)
  have H2 := Lib.hid (hW.alloc (.cells #[.int .u32 e0, .int .u32 e1, .int .u32 e2, .int .u32 e3, .int .u32 e4, .slice (some ⟨h2, 0, none⟩) m m] 41))
  have LT := Lib.hid hW.lt
  have H2LT := Lib.hid (show h2 < w2.heap.size from hW.lt)
  have D2 := Lib.hid (show w.heap.size + 1 + 1 + 1 < w2.heap.size from Nat.lt_of_lt_of_le F1.out.d.lt hb2.size)
  have HD2 := Lib.hid (show w.heap.size + 1 + 1 + 1 < h2 from Nat.lt_of_lt_of_le F1.out.d.lt g2)
  clear hW hb2 F1 g2
  have k0 : (w2.alloc (.cells #[.int .u32 e0, .int .u32 e1, .int .u32 e2, .int .u32 e3, .int .u32 e4, .slice (some ⟨h2, 0, none⟩) m m] 41)).cell? ⟨w.heap.size, 0, none⟩ = some (.int .u32 e0) := (F2.out.a.cell 0).trans CC.out.1
  have k1 : (w2.alloc (.cells #[.int .u32 e0, .int .u32 e1, .int .u32 e2, .int .u32 e3, .int .u32 e4, .slice (some ⟨h2, 0, none⟩) m m] 41)).cell? ⟨w.heap.size, 1, none⟩ = some (.int .u32 e1) := (F2.out.a.cell 1).trans CC.out.2.1
  have k2 : (w2.alloc (.cells #[.int .u32 e0, .int .u32 e1, .int .u32 e2, .int .u32 e3, .int .u32 e4, .slice (some ⟨h2, 0, none⟩) m m] 41)).cell? ⟨w.heap.size, 2, none⟩ = some (.int .u32 e2) := (F2.out.a.cell 2).trans CC.out.2.2.1
  have k3 : (w2.alloc (.cells #[.int .u32 e0, .int .u32 e1, .int .u32 e2, .int .u32 e3, .int .u32 e4, .slice (some ⟨h2, 0, none⟩) m m] 41)).cell? ⟨w.heap.size, 3, none⟩ = some (.int .u32 e3) := (F2.out.a.cell 3).trans CC.out.2.2.2.1
  have k4 : (w2.alloc (.cells #[.int .u32 e0, .int .u32 e1, .int .u32 e2, .int .u32 e3, .int .u32 e4, .slice (some ⟨h2, 0, none⟩) m m] 41)).cell? ⟨w.heap.size, 4, none⟩ = some (.int .u32 e4) := (F2.out.a.cell 4).trans CC.out.2.2.2.2.1
  go_wp2_with fail
  generalize (w2.alloc (.cells #[.int .u32 e0, .int .u32 e1, .int .u32 e2, .int .u32 e3, .int .u32 e4, .slice (some ⟨h2, 0, none⟩) m m] 41)) = w3 at *
  refine (NW.out _).mono ?_
  rintro e w4 ⟨q, h, rfl, hM, hW, gh, gq, hqh, hb4⟩
  have F4 := Lib.hid (F2.out.later hb4)
  have T4 := Lib.hid (T2.out.below hb4 T2.out.lt)
  have H4 := Lib.hid (H2.out.below hb4 H2.out.lt)
  have M4 := Lib.hid hM
  have W4 := Lib.hid hW
  have G4 := Lib.hid (And.intro (Nat.lt_of_lt_of_le T2.out.lt gh) (And.intro (Nat.lt_of_lt_of_le T2.out.lt gq) (And.intro (Nat.lt_of_lt_of_le H2.out.lt gh) (And.intro (Nat.lt_of_lt_of_le H2.out.lt gq) hqh))))
  clear hb4 hM hW gh gq hqh F2 T2 H2 k0 k1 k2 k3 k4
  have k5 : w4.cell? ⟨w.heap.size, 5, none⟩ = some (.int .u32 s0) := (F4.out.a.cell 5).trans CC.out.2.2.2.2.2.1
  have k6 : w4.cell? ⟨w.heap.size, 6, none⟩ = some (.int .u32 s1) := (F4.out.a.cell 6).trans CC.out.2.2.2.2.2.2.1
  have k7 : w4.cell? ⟨w.heap.size, 7, none⟩ = some (.int .u32 s2) := (F4.out.a.cell 7).trans CC.out.2.2.2.2.2.2.2.1
  have k8 : w4.cell? ⟨w.heap.size, 8, none⟩ = some (.int .u32 s3) := (F4.out.a.cell 8).trans CC.out.2.2.2.2.2.2.2.2.1
  have k26 : w4.cell? ⟨w.heap.size, 26, none⟩ = some (.slice Ai ni ci) := (F4.out.a.cell 26).trans CC.out.2.2.2.2.2.2.2.2.2.2
  go_wp2_with fail
  refine (CN.out _ (ZI.out.below F4.out.bel)).mono ?_
  rintro e w5 ⟨p, A', cap', rfl, hC, hN, hF, gp, hb5⟩
  have F5 := Lib.hid (F4.out.later hb5)
  have T5 := Lib.hid (T4.out.below hb5 T4.out.lt)
  have H5 := Lib.hid (H4.out.below hb5 H4.out.lt)
  have M5 := Lib.hid (M4.out.below hb5 M4.out.lt)
  have W5 := Lib.hid (W4.out.below hb5 W4.out.lt)
  have C5 := Lib.hid hC
  have M4S := Lib.hid W4.out.lt
  have T4S := Lib.hid T4.out.lt
  have N5 := Lib.hid hN
  have HF5 := Lib.hid (show ∀ b off, A' = some ⟨b, off, none⟩ → w4.heap.size ≤ b ∧ b < w5.heap.size ∧ b ≠ p from hF)
  have G5 := Lib.hid (And.intro (Nat.lt_of_lt_of_le T4.out.lt gp) (And.intro (Nat.lt_of_lt_of_le H4.out.lt gp) (And.intro (Nat.lt_of_lt_of_le M4.out.lt gp) (And.intro (Nat.lt_of_lt_of_le W4.out.lt gp) gp))))
  clear hb5 hC hN hF gp F4 T4 H4 M4 W4 k5 k6 k7 k8 k26
  have k9 : w5.cell? ⟨w.heap.size, 9, none⟩ = some (.slice Aw nw cw) := (F5.out.a.cell 9).trans CC.out.2.2.2.2.2.2.2.2.2.1
  have t5 : w5.cell? ⟨w2.heap.size, 5, none⟩ = some (.slice (some ⟨h2, 0, none⟩) m m) := T5.out.cell 5
  rcases Nat.lt_or_ge m nw with hlt | hge
  · obtain rfl : k = m := by omega
    have hI : ¬ (nw : Int) ≤ (k : Int) := by omega
    have kI : (k : Int) ≤ cw := by omega
    have ZT := Lib.hid (nums_take (ZW.out.below F5.out.bel) hkn)
    go_wp2_with fail
    refine (mfill_any q h k 0 _ k cw _ (zw.take k) _ (by unfold U32; omega) (M5.out.cell 5) W5.out (by simp) (by omega) ZT.out (by omega)).mono ?_
    rintro e w6 ⟨rfl, hX, hO⟩
    have l1 := D2.out
    have l2 := G4.out
    have l3 := G5.out
    have F6 := Lib.hid (F5.out.only (by omega) hO)
    have T6 := Lib.hid (T5.out.only (by omega) hO)
    have H6 := Lib.hid (H5.out.only (by omega) hO)
    have M6 := Lib.hid (M5.out.only l2.2.2.2.2 hO)
    have W6 := Lib.hid (show Whole w6 h 22 (words (fillWs 0 (List.replicate k 0) (zw.take k))) from hX)
    have C6 := Lib.hid ((But.of_only hO).cpu C5.out (by simp; omega))
    have N6 := Lib.hid (N5.out.but (But.of_only hO) (fun b off ha => by have := HF5.out b off ha; have := M4S.out; simp; omega))
    have S6 := Lib.hid hO.size
    clear hX hO F5 T5 H5 M5 W5 C5 N5 k9 t5 ZT l1 l2 l3
    have t0 : w6.cell? ⟨w2.heap.size, 0, none⟩ = some (.int .u32 e0) := T6.out.cell 0
    have t1 : w6.cell? ⟨w2.heap.size, 1, none⟩ = some (.int .u32 e1) := T6.out.cell 1
    have t2 : w6.cell? ⟨w2.heap.size, 2, none⟩ = some (.int .u32 e2) := T6.out.cell 2
    have t3 : w6.cell? ⟨w2.heap.size, 3, none⟩ = some (.int .u32 e3) := T6.out.cell 3
    have t4 : w6.cell? ⟨w2.heap.size, 4, none⟩ = some (.int .u32 e4) := T6.out.cell 4
    have t5 : w6.cell? ⟨w2.heap.size, 5, none⟩ = some (.slice (some ⟨h2, 0, none⟩) k k) := T6.out.cell 5
    have RF := Lib.hid (reffill_any3 h2 k e0 e1 e2 e3 e4 0 Aw k cw (List.replicate k 0) (zw.take k) w6 (by unfold U32; omega) H6.out (by simp) (by omega) (nums_take (ZW.out.below F6.out.bel) hkn) (by omega))
    unfold memCells at RF
    go_wp2_with fail
    refine RF.out.mono ?_
    rintro e w7 ⟨h3, rfl, hX, hh3, hb7⟩
    have l0 := S6.out
    have l1 := D2.out
    have l2 := G4.out
    have l3 := G5.out
    have l4 := H6.out.lt
    have l5 := HD2.out
    have l6 := C6.out.lt
    have l7 := M6.out.lt
    have l8 := W6.out.lt
    have l9 := T6.out.lt
    have l10 := T4S.out
    have n3 : h3 ≠ p := by omega
    have n4 : h3 ≠ h := by omega
    have n5 : w.heap.size + 1 + 1 + 1 < h3 := by omega
    have n6 : w2.heap.size ≠ h3 := by have := H2LT.out; omega
    have F7 := Lib.hid (F6.out.later hb7)
    have T7 := Lib.hid (T6.out.below hb7 T6.out.lt)
    have M7 := Lib.hid (M6.out.below hb7 M6.out.lt)
    have W7 := Lib.hid (W6.out.below hb7 W6.out.lt)
    have C7 := Lib.hid (C6.out.below hb7 C6.out.lt)
    have N7 := Lib.hid (N6.out.below hb7)
    have X7 := Lib.hid hX
    have S7 := Lib.hid hb7.size
    clear hX hb7 hh3 t0 t1 t2 t3 t4 t5 F6 T6 M6 W6 C6 N6 RF H6
    have OT := Only.setRow w7 w2.heap.size (#[.int .u32 e0, .int .u32 e1, .int .u32 e2, .int .u32 e3, .int .u32 e4, .slice (some ⟨h3, 0, none⟩) k k] : Array Value)
    have F8 := Lib.hid (F7.out.only l1 OT)
    have T8 := Lib.hid (T7.out.setRow (#[.int .u32 e0, .int .u32 e1, .int .u32 e2, .int .u32 e3, .int .u32 e4, .slice (some ⟨h3, 0, none⟩) k k] : Array Value))
    have M8 := Lib.hid (M7.out.only (by omega) OT)
    have W8 := Lib.hid (W7.out.only (by omega) OT)
    have C8 := Lib.hid (show CpuAt _ p 67 _ _ _ from ⟨C7.out.whole.only (by omega) OT, C7.out.len⟩)
    have N8 := Lib.hid (N7.out.but (But.of_only OT) (fun b off ha => by have := HF5.out b off ha; simp; omega))
    have X8 := Lib.hid (X7.out.only (by omega) OT)
    have S8 := Lib.hid OT.size
    clear OT M7 W7 C7 N7 X7
    have R8 := Lib.hid (CR.out ▸ World.rangeAt_of_block F8.out.a 10 16)
    have P8 : World.there (w7.setRow w2.heap.size (#[.int .u32 e0, .int .u32 e1, .int .u32 e2, .int .u32 e3, .int .u32 e4, .slice (some ⟨h3, 0, none⟩) k k] : Array Value)) p 0 16 := fun j hj => ⟨by rw [Nat.zero_add, C8.out.reg hj]; rfl, by rw [Nat.zero_add]; exact C8.out.free j⟩
    have TH := Lib.hid P8
    clear P8
    go_wp2_with (first
      | (refine wpList_store_row rfl 41 (.tmp 7) (.tmp 76) rfl w2.heap.size (#[.int .u32 e0, .int .u32 e1, .int .u32 e2, .int .u32 e3, .int .u32 e4, .slice (some ⟨h3, 0, none⟩) k k] : Array Value) rfl rfl 41 _ T7.out (infoMem rfl) rfl (one_mem e0 e1 e2 e3 e4 (some ⟨h3, 0, none⟩) k k) ?_)
      | (refine wpList_load_mid rfl 28 (.tmp 79) rfl w.heap.size 10 rfl [.int .u32 r0, .int .u32 r1, .int .u32 r2, .int .u32 r3, .int .u32 r4, .int .u32 r5, .int .u32 r6, .int .u32 r7, .int .u32 r8, .int .u32 r9, .int .u32 r10, .int .u32 r11, .int .u32 r12, .int .u32 r13, .int .u32 r14, .int .u32 r15] _ R8.out Tryd.underlying28 rfl (by kernel_rfl) ?_)
      | (refine wpList_store_mid rfl 28 (.tmp 82) (.tmp 80) rfl p 0 #[.int .u32 r0, .int .u32 r1, .int .u32 r2, .int .u32 r3, .int .u32 r4, .int .u32 r5, .int .u32 r6, .int .u32 r7, .int .u32 r8, .int .u32 r9, .int .u32 r10, .int .u32 r11, .int .u32 r12, .int .u32 r13, .int .u32 r14, .int .u32 r15] rfl rfl TH.out (by kernel_rfl) (one_regs r0 r1 r2 r3 r4 r5 r6 r7 r8 r9 r10 r11 r12 r13 r14 r15) ?_))
    have OS := Only.setCells p [.int .u32 r0, .int .u32 r1, .int .u32 r2, .int .u32 r3, .int .u32 r4, .int .u32 r5, .int .u32 r6, .int .u32 r7, .int .u32 r8, .int .u32 r9, .int .u32 r10, .int .u32 r11, .int .u32 r12, .int .u32 r13, .int .u32 r14, .int .u32 r15] 0 _ _ (Only.refl p (w7.setRow w2.heap.size (#[.int .u32 e0, .int .u32 e1, .int .u32 e2, .int .u32 e3, .int .u32 e4, .slice (some ⟨h3, 0, none⟩) k k] : Array Value)))
    have F9 := Lib.hid (F8.out.only (by omega) OS)
    have T9 := Lib.hid (T8.out.only (by omega) OS)
    have M9 := Lib.hid (M8.out.only (by omega) OS)
    have W9 := Lib.hid (W8.out.only (by omega) OS)
    have C9 := Lib.hid (C8.out.setRegs r0 r1 r2 r3 r4 r5 r6 r7 r8 r9 r10 r11 r12 r13 r14 r15)
    have N9 := Lib.hid (N8.out.but (But.of_only OS) (fun b off ha => by have := HF5.out b off ha; simp; omega))
    have X9 := Lib.hid (X8.out.only (by omega) OS)
    have S9 := Lib.hid OS.size
    clear OS F8 T8 M8 W8 C8 N8 X8 R8 TH
    generalize (w7.setRow w2.heap.size (#[.int .u32 e0, .int .u32 e1, .int .u32 e2, .int .u32 e3, .int .u32 e4, .slice (some ⟨h3, 0, none⟩) k k] : Array Value)).setCells p 0 [.int .u32 r0, .int .u32 r1, .int .u32 r2, .int .u32 r3, .int .u32 r4, .int .u32 r5, .int .u32 r6, .int .u32 r7, .int .u32 r8, .int .u32 r9, .int .u32 r10, .int .u32 r11, .int .u32 r12, .int .u32 r13, .int .u32 r14, .int .u32 r15] = Y at *
    have l11 := F9.out.bel.size
    have l12 := S9.out
    have l13 := S8.out
    have l14 := S7.out
    have HN : w.heap.size + 1 + 1 + 1 < p ∧ w.heap.size + 1 + 1 + 1 < q ∧ w.heap.size + 1 + 1 + 1 < h ∧ w.heap.size + 1 + 1 + 1 < h3 ∧ p ≠ q ∧ p ≠ h := by omega
    have HB : ∀ b off, A' = some ⟨b, off, none⟩ → w.heap.size + 1 + 1 + 1 < b ∧ b < Y.heap.size ∧ b ≠ p ∧ b ≠ h := fun b off ha => by have := HF5.out b off ha; have := M4S.out; omega
    have EE := Lib.hid (begun_end F9.out C9.out M9.out W9.out N9.out X9.out HN.1 HN.2.1 HN.2.2.1 HN.2.2.2.1 HN.2.2.2.2.1 HN.2.2.2.2.2 l2.2.2.2.2 HB (cpuCells (begC s0 s1 s2 s3 [r0, r1, r2, r3, r4, r5, r6, r7, r8, r9, r10, r11, r12, r13, r14, r15]) (.slice none 0 0) (.slice Ai ni ci)) (#[.int .u32 e0, .int .u32 e1, .int .u32 e2, .int .u32 e3, .int .u32 e4, .slice (some ⟨h3, 0, none⟩) k k] : Array Value))
    have zz1 := Lib.hid (show Whole Y.drew (w.heap.size + 1) 38 zeros38 from F9.out.b.drew')
    have zz2 := Lib.hid (show Whole (Y.drew.setRow (w.heap.size + 1) (cpuCells (begC s0 s1 s2 s3 [r0, r1, r2, r3, r4, r5, r6, r7, r8, r9, r10, r11, r12, r13, r14, r15]) (.slice none 0 0) (.slice Ai ni ci))) (w.heap.size + 1 + 1) 41 zeros41 from F9.out.c.drew'.only (show w.heap.size + 1 + 1 ≠ w.heap.size + 1 by omega) (Only.setRow Y.drew (w.heap.size + 1) (cpuCells (begC s0 s1 s2 s3 [r0, r1, r2, r3, r4, r5, r6, r7, r8, r9, r10, r11, r12, r13, r14, r15]) (.slice none 0 0) (.slice Ai ni ci))))
    have zz3 := Lib.hid (And.intro F9.out.d.drew' T9.out.drew')
    have zz5 := Lib.hid (show w.heap.size + 1 + 1 + 1 ≠ w.heap.size + 1 ∧ w.heap.size + 1 + 1 + 1 ≠ w.heap.size + 1 + 1 ∧ w2.heap.size ≠ w.heap.size + 1 ∧ w2.heap.size ≠ w.heap.size + 1 + 1 by have := D2.out; omega)
    clear F9 T9 C9 M9 W9 N9 X9 HB HN l0 l1 l2 l3 l4 l5 l6 l7 l8 l9 l10 l11 l12 l13 l14 S6 S7 S8 S9 HF5 G5 G4 D2 HD2 H2LT M4S T4S n5 n6 ZW ZI CC LT EN RN NW CN CE5 CS4 CR
    have SM := Lib.hid (show (#[.int .u32 e0, .int .u32 e1, .int .u32 e2, .int .u32 e3, .int .u32 e4, .slice (some ⟨h3, 0, none⟩) k k] : Array Value).size = 6 from rfl)
    have ONM := Lib.hid (one_mem e0 e1 e2 e3 e4 (some ⟨h3, 0, none⟩) k k)
    generalize hC38 : cpuCells (begC s0 s1 s2 s3 [r0, r1, r2, r3, r4, r5, r6, r7, r8, r9, r10, r11, r12, r13, r14, r15]) (.slice none 0 0) (.slice Ai ni ci) = C38 at *
    have CEC := Lib.hid hC38
    clear hC38
    generalize hMC : (#[.int .u32 e0, .int .u32 e1, .int .u32 e2, .int .u32 e3, .int .u32 e4, .slice (some ⟨h3, 0, none⟩) k k] : Array Value) = MC at *
    have CEM := Lib.hid hMC
    clear hMC
    refine held_start 8 rfl (S := fun y => Whole y (w.heap.size + 1 + 1 + 1) 38 C38 ∧ Whole y w2.heap.size 41 MC) (by kernel_rfl) zz3.out (fun hS => ?_)
    refine wpAnyH_take (i := 0) (v := .pointer (some ⟨p, 0, none⟩)) get0 ?_ ?_ ?_ ?_ ?_ hS ?_
    · kernel_rfl
    · kernel_rfl
    · kernel_rfl
    · exact fun _ _ _ h => h
    · exact take_move (.tmp 10) rfl rfl
    refine wpAnyH_take (i := 1) (v := .pointer (some ⟨q, 0, none⟩)) get1 ?_ ?_ ?_ ?_ ?_ hS ?_
    · kernel_rfl
    · kernel_rfl
    · kernel_rfl
    · exact fun _ _ _ h => h
    · exact take_move (.tmp 8) rfl rfl
    refine wpAnyH_take (i := 2) (v := .agg C38) get2 ?_ ?_ ?_ ?_ ?_ hS ?_
    · kernel_rfl
    · kernel_rfl
    · kernel_rfl
    · exact fun _ _ _ h => h
    · exact take_load 38 (.tmp 6) rfl rfl (w.heap.size + 1 + 1 + 1) rfl 38 _ (fun _ h => h.1) _ Tryd.underlying38 rfl (infoCpu SZ.out)
    refine wpAnyH_take (i := 3) (v := .agg MC) get3 ?_ ?_ ?_ ?_ ?_ hS ?_
    · kernel_rfl
    · kernel_rfl
    · kernel_rfl
    · exact fun _ _ _ h => h
    · exact take_load 41 (.tmp 7) rfl rfl w2.heap.size rfl 41 _ (fun _ h => h.2) _ Tryd.underlying41 rfl (infoMem SM.out)
    refine held_step get4 (by kernel_rfl) (fun K hK => ?_)
    refine step_assign2 (.tmp 83) rfl rfl (eval_ne (by decide) (eval_ne (by decide) (eval_ne (by decide) (eval_at (n := 87) rfl (by decide))))) ?_
    refine hK.out _ _ hS (fun hS2 => ?_)
    clear hK K
    refine held_step get5 (by kernel_rfl) (fun K hK => ?_)
    refine step_assign2 (.tmp 84) rfl rfl (eval_ne (by decide) (eval_ne (by decide) (eval_ne (by decide) (eval_at (n := 87) (size_put rfl) (by decide))))) ?_
    refine hK.out _ _ hS2 (fun hS3 => ?_)
    clear hK K
    refine held_step get6 (by kernel_rfl) (fun K hK => ?_)
    refine step_store 38 (.tmp 4) (.tmp 85) rfl rfl (w.heap.size + 1) C38 (eval_ne (by decide) (eval_ne (by decide) (eval_ne (by decide) (eval_ne (by decide) (eval_ne (by decide) (eval_ne (by decide) rfl)))))) (eval_ne (by decide) (eval_ne (by decide) (eval_ne (by decide) (eval_at (n := 87) (size_put (size_put rfl)) (by decide))))) 38 zeros38 zz1.out (infoCpu SZ.out) (by rw [SZ.out]; rfl) ONE.out ?_
    refine hK.out _ _ ⟨hS3.1.only zz5.out.1 (Only.setRow _ (w.heap.size + 1) C38), hS3.2.only zz5.out.2.2.1 (Only.setRow _ (w.heap.size + 1) C38)⟩ (fun hS4 => ?_)
    clear hK K
    refine held_step get7 (by kernel_rfl) (fun K hK => ?_)
    refine step_store 41 (.tmp 5) (.tmp 86) rfl rfl (w.heap.size + 1 + 1) MC (eval_none (eval_ne (by decide) (eval_ne (by decide) (eval_ne (by decide) (eval_ne (by decide) (eval_ne (by decide) (eval_ne (by decide) rfl))))))) (eval_none (eval_ne (by decide) (eval_ne (by decide) (eval_at (n := 87) (size_put (size_put (size_put rfl))) (by decide))))) 41 zeros41 zz2.out (infoMem SM.out) (by rw [SM.out]; rfl) ONM.out ?_
    refine hK.out _ _ ⟨hS4.1.only zz5.out.2.1 (Only.setRow _ (w.heap.size + 1 + 1) MC), hS4.2.only zz5.out.2.2.2 (Only.setRow _ (w.heap.size + 1 + 1) MC)⟩ (fun hS5 => ?_)
    clear hK K
    refine wpAnyH_done (by kernel_rfl) ?_ _
    clear hS hS2 hS3 hS4 hS5 zz1 zz2 zz3 zz5
    generalize ((Y.drew.setRow (w.heap.size + 1) C38).setRow (w.heap.size + 1 + 1) MC) = Z at *
    go_wp2_with fail
    refine bodyPost_ret (v := .tuple #[.pointer (some ⟨p, 0, none⟩), .pointer (some ⟨q, 0, none⟩), .agg C38, .agg MC]) (results_four2 rfl _ _ (w.heap.size + 1) (w.heap.size + 1 + 1) 38 41 C38 MC _ _ _ _ (eval_none (eval_none (eval_ne (by decide) (eval_at (n := 87) (size_put (size_put (size_put (size_put rfl)))) (by decide))))) (eval_none (eval_none (eval_at (n := 87) (size_put (size_put (size_put (size_put (size_put rfl))))) (by decide)))) (eval_none (eval_none (eval_ne (by decide) (eval_ne (by decide) (eval_ne (by decide) (eval_ne (by decide) (eval_ne (by decide) (eval_ne (by decide) rfl)))))))) (eval_none (eval_none (eval_ne (by decide) (eval_ne (by decide) (eval_ne (by decide) (eval_ne (by decide) (eval_ne (by decide) (eval_ne (by decide) rfl)))))))) EE.out.r1 EE.out.r2 Tryd.underlying38 rfl (infoCpu SZ.out) Tryd.underlying41 rfl (infoMem SM.out)) rfl ⟨p, q, h, h3, A', cap', (by rw [CEC.out, ← CEM.out]; first | done | rfl), EE.out.mach, EE.out.fresh, EE.out.x, n3, n4, EE.out.le, EE.out.bel⟩
  · obtain rfl : k = nw := by omega
    have hI : (k : Int) ≤ (m : Int) := by omega
    have kI : (k : Int) ≤ cw := by omega
    have ZT := Lib.hid (nums_take (ZW.out.below F5.out.bel) hkn)
    go_wp2_with fail
    refine (mfill_any q h m 0 _ k cw _ (zw.take k) _ (by unfold U32; omega) (M5.out.cell 5) W5.out (by simp) (by omega) ZT.out (by omega)).mono ?_
    rintro e w6 ⟨rfl, hX, hO⟩
    have l1 := D2.out
    have l2 := G4.out
    have l3 := G5.out
    have F6 := Lib.hid (F5.out.only (by omega) hO)
    have T6 := Lib.hid (T5.out.only (by omega) hO)
    have H6 := Lib.hid (H5.out.only (by omega) hO)
    have M6 := Lib.hid (M5.out.only l2.2.2.2.2 hO)
    have W6 := Lib.hid (show Whole w6 h 22 (words (fillWs 0 (List.replicate m 0) (zw.take k))) from hX)
    have C6 := Lib.hid ((But.of_only hO).cpu C5.out (by simp; omega))
    have N6 := Lib.hid (N5.out.but (But.of_only hO) (fun b off ha => by have := HF5.out b off ha; have := M4S.out; simp; omega))
    have S6 := Lib.hid hO.size
    clear hX hO F5 T5 H5 M5 W5 C5 N5 k9 t5 ZT l1 l2 l3
    have t0 : w6.cell? ⟨w2.heap.size, 0, none⟩ = some (.int .u32 e0) := T6.out.cell 0
    have t1 : w6.cell? ⟨w2.heap.size, 1, none⟩ = some (.int .u32 e1) := T6.out.cell 1
    have t2 : w6.cell? ⟨w2.heap.size, 2, none⟩ = some (.int .u32 e2) := T6.out.cell 2
    have t3 : w6.cell? ⟨w2.heap.size, 3, none⟩ = some (.int .u32 e3) := T6.out.cell 3
    have t4 : w6.cell? ⟨w2.heap.size, 4, none⟩ = some (.int .u32 e4) := T6.out.cell 4
    have t5 : w6.cell? ⟨w2.heap.size, 5, none⟩ = some (.slice (some ⟨h2, 0, none⟩) m m) := T6.out.cell 5
    have RF := Lib.hid (reffill_any3 h2 m e0 e1 e2 e3 e4 0 Aw k cw (List.replicate m 0) (zw.take k) w6 (by unfold U32; omega) H6.out (by simp) (by omega) (nums_take (ZW.out.below F6.out.bel) hkn) (by omega))
    unfold memCells at RF
    go_wp2_with fail
    refine RF.out.mono ?_
    rintro e w7 ⟨h3, rfl, hX, hh3, hb7⟩
    have l0 := S6.out
    have l1 := D2.out
    have l2 := G4.out
    have l3 := G5.out
    have l4 := H6.out.lt
    have l5 := HD2.out
    have l6 := C6.out.lt
    have l7 := M6.out.lt
    have l8 := W6.out.lt
    have l9 := T6.out.lt
    have l10 := T4S.out
    have n3 : h3 ≠ p := by omega
    have n4 : h3 ≠ h := by omega
    have n5 : w.heap.size + 1 + 1 + 1 < h3 := by omega
    have n6 : w2.heap.size ≠ h3 := by have := H2LT.out; omega
    have F7 := Lib.hid (F6.out.later hb7)
    have T7 := Lib.hid (T6.out.below hb7 T6.out.lt)
    have M7 := Lib.hid (M6.out.below hb7 M6.out.lt)
    have W7 := Lib.hid (W6.out.below hb7 W6.out.lt)
    have C7 := Lib.hid (C6.out.below hb7 C6.out.lt)
    have N7 := Lib.hid (N6.out.below hb7)
    have X7 := Lib.hid hX
    have S7 := Lib.hid hb7.size
    clear hX hb7 hh3 t0 t1 t2 t3 t4 t5 F6 T6 M6 W6 C6 N6 RF H6
    have OT := Only.setRow w7 w2.heap.size (#[.int .u32 e0, .int .u32 e1, .int .u32 e2, .int .u32 e3, .int .u32 e4, .slice (some ⟨h3, 0, none⟩) m m] : Array Value)
    have F8 := Lib.hid (F7.out.only l1 OT)
    have T8 := Lib.hid (T7.out.setRow (#[.int .u32 e0, .int .u32 e1, .int .u32 e2, .int .u32 e3, .int .u32 e4, .slice (some ⟨h3, 0, none⟩) m m] : Array Value))
    have M8 := Lib.hid (M7.out.only (by omega) OT)
    have W8 := Lib.hid (W7.out.only (by omega) OT)
    have C8 := Lib.hid (show CpuAt _ p 67 _ _ _ from ⟨C7.out.whole.only (by omega) OT, C7.out.len⟩)
    have N8 := Lib.hid (N7.out.but (But.of_only OT) (fun b off ha => by have := HF5.out b off ha; simp; omega))
    have X8 := Lib.hid (X7.out.only (by omega) OT)
    have S8 := Lib.hid OT.size
    clear OT M7 W7 C7 N7 X7
    have R8 := Lib.hid (CR.out ▸ World.rangeAt_of_block F8.out.a 10 16)
    have P8 : World.there (w7.setRow w2.heap.size (#[.int .u32 e0, .int .u32 e1, .int .u32 e2, .int .u32 e3, .int .u32 e4, .slice (some ⟨h3, 0, none⟩) m m] : Array Value)) p 0 16 := fun j hj => ⟨by rw [Nat.zero_add, C8.out.reg hj]; rfl, by rw [Nat.zero_add]; exact C8.out.free j⟩
    have TH := Lib.hid P8
    clear P8
    go_wp2_with (first
      | (refine wpList_store_row rfl 41 (.tmp 7) (.tmp 76) rfl w2.heap.size (#[.int .u32 e0, .int .u32 e1, .int .u32 e2, .int .u32 e3, .int .u32 e4, .slice (some ⟨h3, 0, none⟩) m m] : Array Value) rfl rfl 41 _ T7.out (infoMem rfl) rfl (one_mem e0 e1 e2 e3 e4 (some ⟨h3, 0, none⟩) m m) ?_)
      | (refine wpList_load_mid rfl 28 (.tmp 79) rfl w.heap.size 10 rfl [.int .u32 r0, .int .u32 r1, .int .u32 r2, .int .u32 r3, .int .u32 r4, .int .u32 r5, .int .u32 r6, .int .u32 r7, .int .u32 r8, .int .u32 r9, .int .u32 r10, .int .u32 r11, .int .u32 r12, .int .u32 r13, .int .u32 r14, .int .u32 r15] _ R8.out Tryd.underlying28 rfl (by kernel_rfl) ?_)
      | (refine wpList_store_mid rfl 28 (.tmp 82) (.tmp 80) rfl p 0 #[.int .u32 r0, .int .u32 r1, .int .u32 r2, .int .u32 r3, .int .u32 r4, .int .u32 r5, .int .u32 r6, .int .u32 r7, .int .u32 r8, .int .u32 r9, .int .u32 r10, .int .u32 r11, .int .u32 r12, .int .u32 r13, .int .u32 r14, .int .u32 r15] rfl rfl TH.out (by kernel_rfl) (one_regs r0 r1 r2 r3 r4 r5 r6 r7 r8 r9 r10 r11 r12 r13 r14 r15) ?_))
    have OS := Only.setCells p [.int .u32 r0, .int .u32 r1, .int .u32 r2, .int .u32 r3, .int .u32 r4, .int .u32 r5, .int .u32 r6, .int .u32 r7, .int .u32 r8, .int .u32 r9, .int .u32 r10, .int .u32 r11, .int .u32 r12, .int .u32 r13, .int .u32 r14, .int .u32 r15] 0 _ _ (Only.refl p (w7.setRow w2.heap.size (#[.int .u32 e0, .int .u32 e1, .int .u32 e2, .int .u32 e3, .int .u32 e4, .slice (some ⟨h3, 0, none⟩) m m] : Array Value)))
    have F9 := Lib.hid (F8.out.only (by omega) OS)
    have T9 := Lib.hid (T8.out.only (by omega) OS)
    have M9 := Lib.hid (M8.out.only (by omega) OS)
    have W9 := Lib.hid (W8.out.only (by omega) OS)
    have C9 := Lib.hid (C8.out.setRegs r0 r1 r2 r3 r4 r5 r6 r7 r8 r9 r10 r11 r12 r13 r14 r15)
    have N9 := Lib.hid (N8.out.but (But.of_only OS) (fun b off ha => by have := HF5.out b off ha; simp; omega))
    have X9 := Lib.hid (X8.out.only (by omega) OS)
    have S9 := Lib.hid OS.size
    clear OS F8 T8 M8 W8 C8 N8 X8 R8 TH
    generalize (w7.setRow w2.heap.size (#[.int .u32 e0, .int .u32 e1, .int .u32 e2, .int .u32 e3, .int .u32 e4, .slice (some ⟨h3, 0, none⟩) m m] : Array Value)).setCells p 0 [.int .u32 r0, .int .u32 r1, .int .u32 r2, .int .u32 r3, .int .u32 r4, .int .u32 r5, .int .u32 r6, .int .u32 r7, .int .u32 r8, .int .u32 r9, .int .u32 r10, .int .u32 r11, .int .u32 r12, .int .u32 r13, .int .u32 r14, .int .u32 r15] = Y at *
    have l11 := F9.out.bel.size
    have l12 := S9.out
    have l13 := S8.out
    have l14 := S7.out
    have HN : w.heap.size + 1 + 1 + 1 < p ∧ w.heap.size + 1 + 1 + 1 < q ∧ w.heap.size + 1 + 1 + 1 < h ∧ w.heap.size + 1 + 1 + 1 < h3 ∧ p ≠ q ∧ p ≠ h := by omega
    have HB : ∀ b off, A' = some ⟨b, off, none⟩ → w.heap.size + 1 + 1 + 1 < b ∧ b < Y.heap.size ∧ b ≠ p ∧ b ≠ h := fun b off ha => by have := HF5.out b off ha; have := M4S.out; omega
    have EE := Lib.hid (begun_end F9.out C9.out M9.out W9.out N9.out X9.out HN.1 HN.2.1 HN.2.2.1 HN.2.2.2.1 HN.2.2.2.2.1 HN.2.2.2.2.2 l2.2.2.2.2 HB (cpuCells (begC s0 s1 s2 s3 [r0, r1, r2, r3, r4, r5, r6, r7, r8, r9, r10, r11, r12, r13, r14, r15]) (.slice none 0 0) (.slice Ai ni ci)) (#[.int .u32 e0, .int .u32 e1, .int .u32 e2, .int .u32 e3, .int .u32 e4, .slice (some ⟨h3, 0, none⟩) m m] : Array Value))
    have zz1 := Lib.hid (show Whole Y.drew (w.heap.size + 1) 38 zeros38 from F9.out.b.drew')
    have zz2 := Lib.hid (show Whole (Y.drew.setRow (w.heap.size + 1) (cpuCells (begC s0 s1 s2 s3 [r0, r1, r2, r3, r4, r5, r6, r7, r8, r9, r10, r11, r12, r13, r14, r15]) (.slice none 0 0) (.slice Ai ni ci))) (w.heap.size + 1 + 1) 41 zeros41 from F9.out.c.drew'.only (show w.heap.size + 1 + 1 ≠ w.heap.size + 1 by omega) (Only.setRow Y.drew (w.heap.size + 1) (cpuCells (begC s0 s1 s2 s3 [r0, r1, r2, r3, r4, r5, r6, r7, r8, r9, r10, r11, r12, r13, r14, r15]) (.slice none 0 0) (.slice Ai ni ci))))
    have zz3 := Lib.hid (And.intro F9.out.d.drew' T9.out.drew')
    have zz5 := Lib.hid (show w.heap.size + 1 + 1 + 1 ≠ w.heap.size + 1 ∧ w.heap.size + 1 + 1 + 1 ≠ w.heap.size + 1 + 1 ∧ w2.heap.size ≠ w.heap.size + 1 ∧ w2.heap.size ≠ w.heap.size + 1 + 1 by have := D2.out; omega)
    clear F9 T9 C9 M9 W9 N9 X9 HB HN l0 l1 l2 l3 l4 l5 l6 l7 l8 l9 l10 l11 l12 l13 l14 S6 S7 S8 S9 HF5 G5 G4 D2 HD2 H2LT M4S T4S n5 n6 ZW ZI CC LT EN RN NW CN CE5 CS4 CR
    have SM := Lib.hid (show (#[.int .u32 e0, .int .u32 e1, .int .u32 e2, .int .u32 e3, .int .u32 e4, .slice (some ⟨h3, 0, none⟩) m m] : Array Value).size = 6 from rfl)
    have ONM := Lib.hid (one_mem e0 e1 e2 e3 e4 (some ⟨h3, 0, none⟩) m m)
    generalize hC38 : cpuCells (begC s0 s1 s2 s3 [r0, r1, r2, r3, r4, r5, r6, r7, r8, r9, r10, r11, r12, r13, r14, r15]) (.slice none 0 0) (.slice Ai ni ci) = C38 at *
    have CEC := Lib.hid hC38
    clear hC38
    generalize hMC : (#[.int .u32 e0, .int .u32 e1, .int .u32 e2, .int .u32 e3, .int .u32 e4, .slice (some ⟨h3, 0, none⟩) m m] : Array Value) = MC at *
    have CEM := Lib.hid hMC
    clear hMC
    refine held_start 8 rfl (S := fun y => Whole y (w.heap.size + 1 + 1 + 1) 38 C38 ∧ Whole y w2.heap.size 41 MC) (by kernel_rfl) zz3.out (fun hS => ?_)
    refine wpAnyH_take (i := 0) (v := .pointer (some ⟨p, 0, none⟩)) get0 ?_ ?_ ?_ ?_ ?_ hS ?_
    · kernel_rfl
    · kernel_rfl
    · kernel_rfl
    · exact fun _ _ _ h => h
    · exact take_move (.tmp 10) rfl rfl
    refine wpAnyH_take (i := 1) (v := .pointer (some ⟨q, 0, none⟩)) get1 ?_ ?_ ?_ ?_ ?_ hS ?_
    · kernel_rfl
    · kernel_rfl
    · kernel_rfl
    · exact fun _ _ _ h => h
    · exact take_move (.tmp 8) rfl rfl
    refine wpAnyH_take (i := 2) (v := .agg C38) get2 ?_ ?_ ?_ ?_ ?_ hS ?_
    · kernel_rfl
    · kernel_rfl
    · kernel_rfl
    · exact fun _ _ _ h => h
    · exact take_load 38 (.tmp 6) rfl rfl (w.heap.size + 1 + 1 + 1) rfl 38 _ (fun _ h => h.1) _ Tryd.underlying38 rfl (infoCpu SZ.out)
    refine wpAnyH_take (i := 3) (v := .agg MC) get3 ?_ ?_ ?_ ?_ ?_ hS ?_
    · kernel_rfl
    · kernel_rfl
    · kernel_rfl
    · exact fun _ _ _ h => h
    · exact take_load 41 (.tmp 7) rfl rfl w2.heap.size rfl 41 _ (fun _ h => h.2) _ Tryd.underlying41 rfl (infoMem SM.out)
    refine held_step get4 (by kernel_rfl) (fun K hK => ?_)
    refine step_assign2 (.tmp 83) rfl rfl (eval_ne (by decide) (eval_ne (by decide) (eval_ne (by decide) (eval_at (n := 87) rfl (by decide))))) ?_
    refine hK.out _ _ hS (fun hS2 => ?_)
    clear hK K
    refine held_step get5 (by kernel_rfl) (fun K hK => ?_)
    refine step_assign2 (.tmp 84) rfl rfl (eval_ne (by decide) (eval_ne (by decide) (eval_ne (by decide) (eval_at (n := 87) (size_put rfl) (by decide))))) ?_
    refine hK.out _ _ hS2 (fun hS3 => ?_)
    clear hK K
    refine held_step get6 (by kernel_rfl) (fun K hK => ?_)
    refine step_store 38 (.tmp 4) (.tmp 85) rfl rfl (w.heap.size + 1) C38 (eval_ne (by decide) (eval_ne (by decide) (eval_ne (by decide) (eval_ne (by decide) (eval_ne (by decide) (eval_ne (by decide) rfl)))))) (eval_ne (by decide) (eval_ne (by decide) (eval_ne (by decide) (eval_at (n := 87) (size_put (size_put rfl)) (by decide))))) 38 zeros38 zz1.out (infoCpu SZ.out) (by rw [SZ.out]; rfl) ONE.out ?_
    refine hK.out _ _ ⟨hS3.1.only zz5.out.1 (Only.setRow _ (w.heap.size + 1) C38), hS3.2.only zz5.out.2.2.1 (Only.setRow _ (w.heap.size + 1) C38)⟩ (fun hS4 => ?_)
    clear hK K
    refine held_step get7 (by kernel_rfl) (fun K hK => ?_)
    refine step_store 41 (.tmp 5) (.tmp 86) rfl rfl (w.heap.size + 1 + 1) MC (eval_none (eval_ne (by decide) (eval_ne (by decide) (eval_ne (by decide) (eval_ne (by decide) (eval_ne (by decide) (eval_ne (by decide) rfl))))))) (eval_none (eval_ne (by decide) (eval_ne (by decide) (eval_at (n := 87) (size_put (size_put (size_put rfl))) (by decide))))) 41 zeros41 zz2.out (infoMem SM.out) (by rw [SM.out]; rfl) ONM.out ?_
    refine hK.out _ _ ⟨hS4.1.only zz5.out.2.1 (Only.setRow _ (w.heap.size + 1 + 1) MC), hS4.2.only zz5.out.2.2.2 (Only.setRow _ (w.heap.size + 1 + 1) MC)⟩ (fun hS5 => ?_)
    clear hK K
    refine wpAnyH_done (by kernel_rfl) ?_ _
    clear hS hS2 hS3 hS4 hS5 zz1 zz2 zz3 zz5
    generalize ((Y.drew.setRow (w.heap.size + 1) C38).setRow (w.heap.size + 1 + 1) MC) = Z at *
    go_wp2_with fail
    refine bodyPost_ret (v := .tuple #[.pointer (some ⟨p, 0, none⟩), .pointer (some ⟨q, 0, none⟩), .agg C38, .agg MC]) (results_four2 rfl _ _ (w.heap.size + 1) (w.heap.size + 1 + 1) 38 41 C38 MC _ _ _ _ (eval_none (eval_none (eval_ne (by decide) (eval_at (n := 87) (size_put (size_put (size_put (size_put rfl)))) (by decide))))) (eval_none (eval_none (eval_at (n := 87) (size_put (size_put (size_put (size_put (size_put rfl))))) (by decide)))) (eval_none (eval_none (eval_ne (by decide) (eval_ne (by decide) (eval_ne (by decide) (eval_ne (by decide) (eval_ne (by decide) (eval_ne (by decide) rfl)))))))) (eval_none (eval_none (eval_ne (by decide) (eval_ne (by decide) (eval_ne (by decide) (eval_ne (by decide) (eval_ne (by decide) (eval_ne (by decide) rfl)))))))) EE.out.r1 EE.out.r2 Tryd.underlying38 rfl (infoCpu SZ.out) Tryd.underlying41 rfl (infoMem SM.out)) rfl ⟨p, q, h, h3, A', cap', (by rw [CEC.out, ← CEM.out]; first | done | rfl), EE.out.mach, EE.out.fresh, EE.out.x, n3, n4, EE.out.le, EE.out.bel⟩
end Go.Proofs.YtinpdgjbiimgkaaDoor

/- The laws of package cpu: what their argument Case gives. -/
namespace Go.Proofs.YtinpdgjbiimgkaaDoor
open Go.ChangeShapes Go.WideShapes Go.ChangeAt Go.RowKit
set_option linter.unusedVariables false

theorem ends_sum {e0 e1 e2 e3 e4 : Int} (hok : okEnds e0 e1 e2 e3 e4 = true) : 0 ≤ e0 ∧ e0 ≤ e1 ∧ e1 ≤ e2 ∧ e2 ≤ e3 ∧ e3 ≤ e4 ∧ e0 % 4 = 0 ∧ e1 % 4 = 0 ∧ e4 % 4 = 0 ∧ e4 ≤ 1048576 := by
  unfold okEnds at hok
  simp only [Bool.and_eq_true] at hok
  obtain ⟨h0, h1, h2, h3, h4⟩ := hok
  unfold okEnd at h0 h1 h2 h3 h4
  simp only [Bool.and_eq_true, decide_eq_true_eq] at h0 h1 h2 h3 h4
  omega

theorem u32wf {z : Int} (h : (Lit.int .u32 z).wf = true) : U32 z := by
  obtain ⟨a, b⟩ := bounds_u32 h
  exact ⟨a, b⟩

/-- The words that a case lays. -/
def caseWs (m nw : Nat) (zw : List Int) : List Int := fillWs 0 (List.replicate m 0) (zw.take (min nw m))

/-- What a law uses of its case. -/
structure CaseUse (w : World) (CA : Array Value) (e0 e1 e2 e3 e4 s0 s1 s2 s3 : Int) (r : List Int) (m nw : Nat) (zw : List Int) (Ai : Option Addr) (ni ci : Nat) (inp : List Int) : Prop where
  size : CA.size = 27
  c0 : CA[0]? = some (.int .u32 e0)
  c1 : CA[1]? = some (.int .u32 e1)
  c5 : CA[5]? = some (.int .u32 s0)
  c6 : CA[6]? = some (.int .u32 s1)
  c7 : CA[7]? = some (.int .u32 s2)
  c8 : CA[8]? = some (.int .u32 s3)
  u0 : U32 e0
  u1 : U32 e1
  u4 : U32 e4
  v0 : U32 s0
  few : ∀ W, Calls Tryd.prog 6 #[.agg CA] W (Few4Post e0 e1 e2 e3 e4 nw ni W)
  begun : ∀ W, Below w.heap.size w W → Few4 e0 e1 e2 e3 e4 nw ni → Calls Tryd.prog 7 #[.agg CA] W (BegunPost e0 e1 e2 e3 e4 s0 s1 s2 s3 r m (caseWs m nw zw) Ai ni ci inp W)
  fine : Fine m inp ⟨begC s0 s1 s2 s3 r, [], caseWs m nw zw⟩
  m4 : Few4 e0 e1 e2 e3 e4 nw ni → e4 = 4 * m ∧ m ≤ 1024
  iw : ∀ z ∈ inp, (Lit.int .i32 z).wf = true
  il : inp.length = ni
  one : CA.all (·.oneCell') = true

theorem list_four {α : Type} {zs : List α} (h : zs.length = 4) : ∃ a b c d, zs = [a, b, c, d] := by
  match zs, h with
  | [a, b, c, d], _ => exact ⟨a, b, c, d, rfl⟩

theorem list_sixteen {α : Type} {zs : List α} (h : zs.length = 16) : ∃ a0 a1 a2 a3 a4 a5 a6 a7 a8 a9 a10 a11 a12 a13 a14 a15, zs = [a0, a1, a2, a3, a4, a5, a6, a7, a8, a9, a10, a11, a12, a13, a14, a15] := by
  match zs, h with
  | [a0, a1, a2, a3, a4, a5, a6, a7, a8, a9, a10, a11, a12, a13, a14, a15], _ => exact ⟨_, _, _, _, _, _, _, _, _, _, _, _, _, _, _, _, rfl⟩

theorem splice_u32 {ws zs : List Int} {k : Nat} (hw : ∀ z ∈ ws, U32 z) (hz : ∀ z ∈ zs, U32 z) : ∀ z ∈ splice ws k zs, U32 z := by
  intro z h
  unfold splice at h
  simp only [List.mem_append] at h
  rcases h with h | h | h
  · exact hw z (List.mem_of_mem_take h)
  · exact hz z h
  · exact hw z (List.mem_of_mem_drop h)

theorem caseWs_len {m nw : Nat} {zw : List Int} (h : zw.length = nw) : (caseWs m nw zw).length = m := by
  unfold caseWs fillWs splice
  split
  · rename_i hr
    unfold fillRes at hr
    simp [h] at hr
    simp [h]
    omega
  · simp

theorem caseWs_u32 {m nw : Nat} {zw : List Int} (h : ∀ z ∈ zw, U32 z) : ∀ z ∈ caseWs m nw zw, U32 z := by
  have h0 : ∀ z ∈ List.replicate m (0 : Int), U32 z := fun z hz => by rw [List.eq_of_mem_replicate hz]; unfold U32; omega
  unfold caseWs fillWs
  split
  · exact splice_u32 h0 (fun z hz => h z (List.mem_of_mem_take hz))
  · exact h0

set_option maxRecDepth 100000 in
theorem case_use {w : World} {CA : Array Value} {es ss rs : List Int} {Aw : Option Addr} {nw cw : Nat} {zw : List Int} {Ai : Option Addr} {ni ci : Nat} {inp : List Int} (K : CaseIn w CA es ss rs Aw nw cw zw Ai ni ci inp) :
    ∃ e0 e1 e2 e3 e4 s0 s1 s2 s3 r m, CaseUse w CA e0 e1 e2 e3 e4 s0 s1 s2 s3 r m nw zw Ai ni ci inp := by
  obtain ⟨e0, e1, e2, e3, e4, rfl⟩ := list_five' K.el
  obtain ⟨s0, s1, s2, s3, rfl⟩ := list_four K.sl
  obtain ⟨r0, r1, r2, r3, r4, r5, r6, r7, r8, r9, r10, r11, r12, r13, r14, r15, rfl⟩ := list_sixteen K.rl
  have hc : CA = #[.int .u32 e0, .int .u32 e1, .int .u32 e2, .int .u32 e3, .int .u32 e4, .int .u32 s0, .int .u32 s1, .int .u32 s2, .int .u32 s3, .slice Aw nw cw, .int .u32 r0, .int .u32 r1, .int .u32 r2, .int .u32 r3, .int .u32 r4, .int .u32 r5, .int .u32 r6, .int .u32 r7, .int .u32 r8, .int .u32 r9, .int .u32 r10, .int .u32 r11, .int .u32 r12, .int .u32 r13, .int .u32 r14, .int .u32 r15, .slice Ai ni ci] := Array.ext' K.cells
  have u0 := u32wf (K.ew e0 (by simp))
  have u1 := u32wf (K.ew e1 (by simp))
  have u2 := u32wf (K.ew e2 (by simp))
  have u3 := u32wf (K.ew e3 (by simp))
  have u4 := u32wf (K.ew e4 (by simp))
  have hm4 : Few4 e0 e1 e2 e3 e4 nw ni → e4 = 4 * ((e4 / 4).toNat : Int) ∧ (e4 / 4).toNat ≤ 1024 := fun h => by
    have := ends_sum h.1
    have := h.2.1
    omega
  refine ⟨e0, e1, e2, e3, e4, s0, s1, s2, s3, [r0, r1, r2, r3, r4, r5, r6, r7, r8, r9, r10, r11, r12, r13, r14, r15], (e4 / 4).toNat, ?_⟩
  have hzl : zw.length = nw := K.wn.1
  refine { size := by rw [hc]; rfl, c0 := by rw [hc]; rfl, c1 := by rw [hc]; rfl, c5 := by rw [hc]; rfl, c6 := by rw [hc]; rfl, c7 := by rw [hc]; rfl, c8 := by rw [hc]; rfl, u0 := u0, u1 := u1, u4 := u4, v0 := u32wf (K.sw s0 (by simp)), few := fun W => ?_, begun := fun W hb hF => ?_, fine := ?_, m4 := hm4, iw := K.iw, il := K.inn.1, one := ?_ }
  · rw [hc]
    exact few4_any e0 e1 e2 e3 e4 s0 s1 s2 s3 r0 r1 r2 r3 r4 r5 r6 r7 r8 r9 r10 r11 r12 r13 r14 r15 Aw Ai nw cw ni ci W u0 u1 u2 u3 u4
  · have h4 := hm4 hF
    exact begun_any e0 e1 e2 e3 e4 s0 s1 s2 s3 r0 r1 r2 r3 r4 r5 r6 r7 r8 r9 r10 r11 r12 r13 r14 r15 CA Aw Ai nw cw ni ci (e4 / 4).toNat (min nw (e4 / 4).toNat) zw inp W u0 u1 u2 u3 u4 hF.1 (by omega) h4.2 hF.2.2.1 K.wc hF.2.2.2 (by omega) (by omega) (by omega) K.wz K.iz (K.wn.below hb) (K.inn.below hb) (by rw [hc]; rfl) (by rw [hc]; rfl) (by rw [hc]; rfl) (by rw [hc]; rfl) (by rw [hc]; rfl) (by rw [hc]; rfl) (by rw [hc]; rfl) (by rw [hc]; rfl) (by rw [hc]; rfl) (by rw [hc]; rfl) (by rw [hc]; rfl) (by rw [hc]; rfl) (by rw [hc]; rfl) (by rw [hc]; rfl)
  · refine ⟨rfl, fun z hz => u32wf (K.rw z hz), u32wf (K.sw s0 (by simp)), by unfold U32; exact ⟨Int.le_refl _, by show (0:Int) ≤ 4294967295; omega⟩, by unfold U32; exact ⟨Int.le_refl _, by show (0:Int) ≤ 4294967295; omega⟩, u32wf (K.sw s1 (by simp)), u32wf (K.sw s2 (by simp)), u32wf (K.sw s3 (by simp)), caseWs_len hzl, caseWs_u32 (fun z hz => u32wf (K.ww z hz)), ⟨Int.le_refl _, by show (0:Int) ≤ _; omega⟩⟩
  · rw [hc, Array.all_eq_true_iff_forall_mem]
    intro v hv
    simp at hv
    rcases hv with rfl | rfl | rfl | rfl | rfl | rfl | rfl | rfl | rfl | rfl | rfl | rfl | rfl | rfl | rfl | rfl | rfl | rfl | rfl | rfl | rfl | rfl | rfl | rfl | rfl | rfl | rfl <;> rfl
end Go.Proofs.YtinpdgjbiimgkaaDoor
