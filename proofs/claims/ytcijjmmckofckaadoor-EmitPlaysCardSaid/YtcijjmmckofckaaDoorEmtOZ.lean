/- EmtO EmtY0 EmtY EmtU EmtJ EmtK EmtZ in one. -/
import Derived.Test.YtcijjmmckofckaaDoorEmtV
import Derived.Test.YtcijjmmckofckaaDoorEmtX
import Derived.BigQuiet
import Derived.Deep.RegionHeld3
import Derived.Test.YtcijjmmckofckaaDoorEmtP
import Derived.Test.YtcijjmmckofckaaDoorEmtE
import Derived.Test.YtcijjmmckofckaaDoorEmtG
import Derived.StillTailTactics
import Derived.Test.YtcijjmmckofckaaDoorInstrK2
import Derived.Test.YtcijjmmckofckaaDoorInstrD

/- Emit: the law's calls as an argument; small. -/
namespace Go.Proofs.YtcijjmmckofckaaDoor
open Go.ChangeShapes Go.WideShapes Go.ChangeAt Go.RowKit
set_option linter.unusedVariables false
set_option linter.unusedSimpArgs false

/-- A call of the script. -/
structure Opp where
  k : Int
  i : Ins
  n : Int
  a : Int
  b : Int
  c : Int

def zOpp : Opp := ⟨0, zIns, 0, 0, 0, 0⟩

instance inhabOpp : Inhabited Opp := ⟨zOpp⟩

def opCells (o : Opp) : List Value := [.int .i64 o.k, .int .i64 o.i.op, .int .i64 o.i.a, .int .i64 o.i.b, .int .i64 o.i.c, .int .i64 o.i.n, .int .i64 o.n, .int .i64 o.a, .int .i64 o.b, .int .i64 o.c]

/-- All its numbers are ones of 64 bits. -/
def OppIn (o : Opp) : Prop := I64 o.k ∧ I64I o.i ∧ I64 o.n ∧ I64 o.a ∧ I64 o.b ∧ I64 o.c

section
variable {H : Type} {enc : TypeId × Value → H} {w : World}

set_option maxRecDepth 100000 in
theorem ins_trod {n : Nat} {cs : List Value} {y : DataW H × List MemPlace} (h : DataW.trod enc Tryd.prog w 0 (fun _ => true) true n 58 cs = some y) :
    ∃ x : Ins, cs = inC x ∧ I64I x := by
  obtain ⟨xs, k, rfl, rfl, hcl, hxl, hf⟩ := DataW.trod_struct Tryd.underlying58 h
  have hc : Tryd.prog.cellsOf 58 = 5 := by kernel_rfl
  have c0 : Tryd.prog.cellsOf 3 = 1 := by kernel_rfl
  rw [hc] at hcl
  match xs, hxl, cs, hcl with
  | [y0, y1, y2, y3, y4], _, [v0, v1, v2, v3, v4], _ =>
    have g0 := hf 0 _ rfl
    have g1 := hf 1 _ rfl
    have g2 := hf 2 _ rfl
    have g3 := hf 3 _ rfl
    have g4 := hf 4 _ rfl
    simp [c0] at g0 g1 g2 g3 g4
    obtain ⟨z0, hz0, _, w0⟩ := DataW.trod_int Tryd.underlying3 g0
    obtain ⟨z1, hz1, _, w1⟩ := DataW.trod_int Tryd.underlying3 g1
    obtain ⟨z2, hz2, _, w2⟩ := DataW.trod_int Tryd.underlying3 g2
    obtain ⟨z3, hz3, _, w3⟩ := DataW.trod_int Tryd.underlying3 g3
    obtain ⟨z4, hz4, _, w4⟩ := DataW.trod_int Tryd.underlying3 g4
    refine ⟨⟨z0, z1, z2, z3, z4⟩, ?_, bounds_i64 w0, bounds_i64 w1, bounds_i64 w2, bounds_i64 w3, bounds_i64 w4⟩
    simp only [List.cons.injEq, and_true] at hz0 hz1 hz2 hz3 hz4
    rw [hz0, hz1, hz2, hz3, hz4]
    rfl

set_option maxRecDepth 100000 in
theorem opp_trod {n : Nat} {cs : List Value} {y : DataW H × List MemPlace} (h : DataW.trod enc Tryd.prog w 0 (fun _ => true) true n opT cs = some y) :
    ∃ x : Opp, cs = opCells x ∧ OppIn x := by
  obtain ⟨xs, k, rfl, rfl, hcl, hxl, hf⟩ := DataW.trod_struct Tryd.underlying60 h
  have hc : Tryd.prog.cellsOf opT = 10 := by kernel_rfl
  have c0 : Tryd.prog.cellsOf 3 = 1 := by kernel_rfl
  have c5 : Tryd.prog.cellsOf 58 = 5 := by kernel_rfl
  rw [hc] at hcl
  match xs, hxl, cs, hcl with
  | [y0, y1, y2, y3, y4, y5], _, [v0, v1, v2, v3, v4, v5, v6, v7, v8, v9], _ =>
    have g0 := hf 0 _ rfl
    have g1 := hf 1 _ rfl
    have g2 := hf 2 _ rfl
    have g3 := hf 3 _ rfl
    have g4 := hf 4 _ rfl
    have g5 := hf 5 _ rfl
    simp [c0, c5] at g0 g1 g2 g3 g4 g5
    obtain ⟨z0, hz0, _, w0⟩ := DataW.trod_int Tryd.underlying3 g0
    obtain ⟨i, hi, wi⟩ := ins_trod g1
    obtain ⟨z2, hz2, _, w2⟩ := DataW.trod_int Tryd.underlying3 g2
    obtain ⟨z3, hz3, _, w3⟩ := DataW.trod_int Tryd.underlying3 g3
    obtain ⟨z4, hz4, _, w4⟩ := DataW.trod_int Tryd.underlying3 g4
    obtain ⟨z5, hz5, _, w5⟩ := DataW.trod_int Tryd.underlying3 g5
    refine ⟨⟨z0, i, z2, z3, z4, z5⟩, ?_, bounds_i64 w0, wi, bounds_i64 w2, bounds_i64 w3, bounds_i64 w4, bounds_i64 w5⟩
    simp only [inC, List.cons.injEq, and_true] at hz0 hi hz2 hz3 hz4 hz5
    obtain ⟨h1, h2, h3, h4, h5⟩ := hi
    rw [hz0, h1, h2, h3, h4, h5, hz2, hz3, hz4, hz5]
    rfl

theorem le_sum : ∀ (l : List Nat) (k : Nat), k ∈ l → k ≤ l.sum
  | [], _, h => by cases h
  | x :: l, k, h => by
    rw [List.sum_cons]
    rcases List.mem_cons.1 h with rfl | h
    · omega
    · have := le_sum l k h
      omega

set_option maxRecDepth 100000 in
/-- A script that came in as an argument. -/
theorem open_emops {r : Reach} {b0 : Nat} {v : Value} {d : DataW H} {ps : List MemPlace} (hval : Value.okWide Tryd.prog w r b0 22 v) (hd : DataW.Trod enc Tryd.prog w 0 (fun _ => true) true 22 v d ps) :
    ∃ (A : Option Addr) (l : List Opp) (c : Nat), v = .slice A l.length c ∧ LstV opCells w.heap.size w (.slice A l.length c) l ∧ (∀ o ∈ l, OppIn o) ∧ l.length ≤ maxLen := by
  obtain ⟨a0, len, cap, rfl⟩ := okWide_slice Tryd.underlying22 hval
  obtain ⟨fuel, hf⟩ := hd
  obtain ⟨A, l, c, h1, h2, h3, _, h5⟩ := open_lst (f := opCells) (sz := 10) (Good := OppIn) Tryd.underlying22 (fun _ => rfl) (by kernel_rfl) (by decide) (fun _ _ _ h _ => opp_trod h) hf (fun k hk => le_sum _ k hk)
  simp [Value.cells] at h1
  obtain ⟨rfl, rfl, rfl⟩ := h1
  exact ⟨_, l, _, rfl, h2, h5, h3⟩

end

/-- Are a call's places tried? -/
def smallO (o : Opp) : Prop := -1000 ≤ o.a ∧ o.a ≤ 1000 ∧ -1000000 ≤ o.b ∧ o.b ≤ 1000000

instance decSmall (o : Opp) : Decidable (smallO o) := by unfold smallO; exact inferInstance

set_option maxHeartbeats 16000000 in
set_option maxRecDepth 100000 in
theorem small_any (o : Opp) (w : World) :
    Calls Tryd.prog 20 #[.agg #[.int .i64 o.k, .int .i64 o.i.op, .int .i64 o.i.a, .int .i64 o.i.b, .int .i64 o.i.c, .int .i64 o.i.n, .int .i64 o.n, .int .i64 o.a, .int .i64 o.b, .int .i64 o.c]] w fun e w' => e = .returned (.bool (decide (smallO o))) ∧ Below w.heap.size w w' := by
  have BA := Lib.hid ((Below.refl w.heap.size w).alloc (Nat.le_refl _) (.cells #[.int .i64 o.k, .int .i64 o.i.op, .int .i64 o.i.a, .int .i64 o.i.b, .int .i64 o.i.c, .int .i64 o.i.n, .int .i64 o.n, .int .i64 o.a, .int .i64 o.b, .int .i64 o.c] opT))
  have XA := Lib.hid (Whole.made w opT #[.int .i64 o.k, .int .i64 o.i.op, .int .i64 o.i.a, .int .i64 o.i.b, .int .i64 o.i.c, .int .i64 o.i.n, .int .i64 o.n, .int .i64 o.a, .int .i64 o.b, .int .i64 o.c] _ rfl)
  have x7 : (w.alloc (.cells #[.int .i64 o.k, .int .i64 o.i.op, .int .i64 o.i.a, .int .i64 o.i.b, .int .i64 o.i.c, .int .i64 o.i.n, .int .i64 o.n, .int .i64 o.a, .int .i64 o.b, .int .i64 o.c] opT)).cell? ⟨w.heap.size, 7, none⟩ = some (.int .i64 o.a) := XA.out.cell 7
  have x8 : (w.alloc (.cells #[.int .i64 o.k, .int .i64 o.i.op, .int .i64 o.i.a, .int .i64 o.i.b, .int .i64 o.i.c, .int .i64 o.i.n, .int .i64 o.n, .int .i64 o.a, .int .i64 o.b, .int .i64 o.c] opT)).cell? ⟨w.heap.size, 8, none⟩ = some (.int .i64 o.b) := XA.out.cell 8
  generalize hr : decide (smallO o) = r
  have R := Lib.hid hr
  clear hr
  by_cases h0 : -1000 ≤ o.a
  case neg =>
    have d0 : decide ((-1000 : Int) ≤ o.a) = false := decide_eq_false (by omega)
    have RR := Lib.hid (show r = false from R.out.symm.trans (decide_eq_false (fun h => by have h1 := h.1; have h2 := h.2.1; have h3 := h.2.2.1; have h4 := h.2.2.2; omega)))
    clear R
    go_enter Tryd.func20, Tryd.ntmps20
    go_wp2_with fail
    go_ret
    exact ⟨by rw [RR.out]; rfl, BA.out⟩
  by_cases h1 : o.a ≤ 1000
  case neg =>
    have d0 : decide ((-1000 : Int) ≤ o.a) = true := decide_eq_true (by omega)
    have d1 : decide (o.a ≤ (1000 : Int)) = false := decide_eq_false (by omega)
    have RR := Lib.hid (show r = false from R.out.symm.trans (decide_eq_false (fun h => by have h1 := h.1; have h2 := h.2.1; have h3 := h.2.2.1; have h4 := h.2.2.2; omega)))
    clear R
    go_enter Tryd.func20, Tryd.ntmps20
    go_wp2_with fail
    go_ret
    exact ⟨by rw [RR.out]; rfl, BA.out⟩
  by_cases h2 : -1000000 ≤ o.b
  case neg =>
    have d0 : decide ((-1000 : Int) ≤ o.a) = true := decide_eq_true (by omega)
    have d1 : decide (o.a ≤ (1000 : Int)) = true := decide_eq_true (by omega)
    have d2 : decide ((-1000000 : Int) ≤ o.b) = false := decide_eq_false (by omega)
    have RR := Lib.hid (show r = false from R.out.symm.trans (decide_eq_false (fun h => by have h1 := h.1; have h2 := h.2.1; have h3 := h.2.2.1; have h4 := h.2.2.2; omega)))
    clear R
    go_enter Tryd.func20, Tryd.ntmps20
    go_wp2_with fail
    go_ret
    exact ⟨by rw [RR.out]; rfl, BA.out⟩
  by_cases h3 : o.b ≤ 1000000
  case neg =>
    have d0 : decide ((-1000 : Int) ≤ o.a) = true := decide_eq_true (by omega)
    have d1 : decide (o.a ≤ (1000 : Int)) = true := decide_eq_true (by omega)
    have d2 : decide ((-1000000 : Int) ≤ o.b) = true := decide_eq_true (by omega)
    have d3 : decide (o.b ≤ (1000000 : Int)) = false := decide_eq_false (by omega)
    have RR := Lib.hid (show r = false from R.out.symm.trans (decide_eq_false (fun h => by have h1 := h.1; have h2 := h.2.1; have h3 := h.2.2.1; have h4 := h.2.2.2; omega)))
    clear R
    go_enter Tryd.func20, Tryd.ntmps20
    go_wp2_with fail
    go_ret
    exact ⟨by rw [RR.out]; rfl, BA.out⟩
  have d0 : decide ((-1000 : Int) ≤ o.a) = true := decide_eq_true (by omega)
  have d1 : decide (o.a ≤ (1000 : Int)) = true := decide_eq_true (by omega)
  have d2 : decide ((-1000000 : Int) ≤ o.b) = true := decide_eq_true (by omega)
  have d3 : decide (o.b ≤ (1000000 : Int)) = true := decide_eq_true (by omega)
  have RR := Lib.hid (show r = true from R.out.symm.trans (decide_eq_true ⟨by omega, by omega, by omega, by omega⟩))
  clear R
  go_enter Tryd.func20, Tryd.ntmps20
  go_wp2_with fail
  go_ret
  exact ⟨by rw [RR.out]; rfl, BA.out⟩
end Go.Proofs.YtcijjmmckofckaaDoor

/- Emit: what the law's played keeps. -/
namespace Go.Proofs.YtcijjmmckofckaaDoor
open Go.ChangeShapes Go.WideShapes Go.ChangeAt Go.RowKit
set_option linter.unusedVariables false
set_option linter.unusedSimpArgs false

/-- Where played stands: the Code at g, the answers' in the box g6, what was hidden. -/
structure Pl (w wr : World) (g g6 : Nat) (T : Nat → Prop) (N : Nat) (m : Em) (AL : Option Addr) (cL : Nat) (AG : Option Addr) (cG : Nat) (AF : Option Addr) (cF : Nat) (AP : Option Addr) (cP : Nat) (AA : Option Addr) (cA : Nat) (gl pl al : List Int) (d6 : Array Value) (Aw : Option Addr) (cw : Nat) (lw : List Int) (Ak : Option Addr) (ck : Nat) (lk : List Int) : Prop where
  b : Below w.heap.size w wr
  c : CdAt wr w.heap.size g T N m
  r : RfR wr (fun b => T b ∨ b = w.heap.size ∨ b = g6) N m AL cL AG cG AF cF AP cP AA cA gl pl al
  x3 : Whole wr w.heap.size rfT #[.slice none 0 0, .slice none 0 0, .slice none 0 0, .slice none 0 0, .slice none 0 0, .int .i64 0, .int .i64 0, .int .i64 0]
  x6 : Whole wr g6 rfT d6
  n3 : ¬ T w.heap.size
  n6 : ¬ T g6
  lt : w.heap.size < g6
  fw : FarR wr (fun b => T b ∨ b = w.heap.size ∨ b = g6) itT 1 (.slice Aw lw.length cw) lw.length (lw.flatMap itC)
  fk : FarR wr (fun b => T b ∨ b = w.heap.size ∨ b = g6) itT 1 (.slice Ak lk.length ck) lk.length (lk.flatMap itC)
  nw : lw.length ≤ N
  nk : lk.length ≤ N

theorem FarR.withX {w : World} {T : Nat → Prop} {e t : TypeId} {k n a b' : Nat} {v : Value} {xs : List Value} {da db : Array Value} (h : FarR w T e k v n xs) (ha : Whole w a t da) (hb : Whole w b' t db) (he : e ≠ t) : FarR w (fun b => T b ∨ b = a ∨ b = b') e k v n xs :=
  ⟨h.1, fun b hv ht => by
    rcases ht with ht | rfl | rfl
    · exact h.2 b hv ht
    · exact row_ne h.1 ha (fun c fz e' => by injection e' with _ e' _; exact he e'.symm) hv
    · exact row_ne h.1 hb (fun c fz e' => by injection e' with _ e' _; exact he e'.symm) hv⟩

theorem RfR.withX {w : World} {T : Nat → Prop} {N a b' : Nat} {m : Em} {AL : Option Addr} {cL : Nat} {AG : Option Addr} {cG : Nat} {AF : Option Addr} {cF : Nat} {AP : Option Addr} {cP : Nat} {AA : Option Addr} {cA : Nat} {gl pl al : List Int} {da db : Array Value} (h : RfR w T N m AL cL AG cG AF cF AP cP AA cA gl pl al) (ha : Whole w a rfT da) (hb : Whole w b' rfT db) : RfR w (fun b => T b ∨ b = a ∨ b = b') N m AL cL AG cG AF cF AP cP AA cA gl pl al :=
  ⟨h.fL.withX ha hb (by decide), h.fG.withX ha hb (by decide), h.fF.withX ha hb (by decide), h.fP.withX ha hb (by decide), h.fA.withX ha hb (by decide), h.lg, h.lp, h.la, h.lf, h.ok, h.nm⟩

theorem Pl.below {w wr : World} {g g6 : Nat} {T : Nat → Prop} {N : Nat} {m : Em} {AL : Option Addr} {cL : Nat} {AG : Option Addr} {cG : Nat} {AF : Option Addr} {cF : Nat} {AP : Option Addr} {cP : Nat} {AA : Option Addr} {cA : Nat} {gl pl al : List Int} {d6 : Array Value} {Aw : Option Addr} {cw : Nat} {lw : List Int} {Ak : Option Addr} {ck : Nat} {lk : List Int} {w2 : World} (h : Pl w wr g g6 T N m AL cL AG cG AF cF AP cP AA cA gl pl al d6 Aw cw lw Ak ck lk) (hb : Below wr.heap.size wr w2) : Pl w w2 g g6 T N m AL cL AG cG AF cF AP cP AA cA gl pl al d6 Aw cw lw Ak ck lk :=
  ⟨h.b.trans (hb.mono h.b.size), h.c.below hb, h.r.below hb, h.x3.below hb h.x3.lt, h.x6.below hb h.x6.lt, h.n3, h.n6, h.lt, h.fw.below hb, h.fk.below hb, h.nw, h.nk⟩

theorem Pl.frm {w wr : World} {g g6 : Nat} {T : Nat → Prop} {N : Nat} {m : Em} {AL : Option Addr} {cL : Nat} {AG : Option Addr} {cG : Nat} {AF : Option Addr} {cF : Nat} {AP : Option Addr} {cP : Nat} {AA : Option Addr} {cA : Nat} {gl pl al : List Int} {d6 : Array Value} {Aw : Option Addr} {cw : Nat} {lw : List Int} {Ak : Option Addr} {ck : Nat} {lk : List Int} (h : Pl w wr g g6 T N m AL cL AG cG AF cF AP cP AA cA gl pl al d6 Aw cw lw Ak ck lk) : ∀ b, T b → w.heap.size ≤ b ∧ b < wr.heap.size := by
  obtain ⟨_, _, _, _, _, _, _, _, h0⟩ := h.c
  exact h0.frm

/-- Behind a call at both. -/
theorem Pl.both {w wr : World} {g g6 : Nat} {T : Nat → Prop} {N : Nat} {m : Em} {AL : Option Addr} {cL : Nat} {AG : Option Addr} {cG : Nat} {AF : Option Addr} {cF : Nat} {AP : Option Addr} {cP : Nat} {AA : Option Addr} {cA : Nat} {gl pl al : List Int} {d6 : Array Value} {Aw : Option Addr} {cw : Nat} {lw : List Int} {Ak : Option Addr} {ck : Nat} {lk : List Int} {w2 : World} {T2 : Nat → Prop} {N2 : Nat} {m2 : Em} {AL2 : Option Addr} {cL2 : Nat} {AG2 : Option Addr} {cG2 : Nat} {AF2 : Option Addr} {cF2 : Nat} {AP2 : Option Addr} {cP2 : Nat} {AA2 : Option Addr} {cA2 : Nat} {gl2 pl2 al2 : List Int} (h : Pl w wr g g6 T N m AL cL AG cG AF cF AP cP AA cA gl pl al d6 Aw cw lw Ak ck lk) (hc : CdAt w2 w.heap.size g T2 N2 m2) (hr : RfR w2 T2 N2 m2 AL2 cL2 AG2 cG2 AF2 cF2 AP2 cP2 AA2 cA2 gl2 pl2 al2) (K : KeptS T wr w2) (ht : ∀ b, T2 b → T b ∨ wr.heap.size ≤ b) (hN : N ≤ N2) : Pl w w2 g g6 T2 N2 m2 AL2 cL2 AG2 cG2 AF2 cF2 AP2 cP2 AA2 cA2 gl2 pl2 al2 d6 Aw cw lw Ak ck lk := by
  have hx3 := K.whole h.x3 h.n3
  have hx6 := K.whole h.x6 h.n6
  have l6 := h.x6.lt
  have hT : ∀ b, (fun b => T2 b ∨ b = w.heap.size ∨ b = g6) b → (fun b => T b ∨ b = w.heap.size ∨ b = g6) b ∨ wr.heap.size ≤ b := fun b hb => by
    rcases hb with hb | hb
    · rcases ht b hb with h1 | h1
      · exact .inl (.inl h1)
      · exact .inr h1
    · exact .inl (.inr hb)
  exact ⟨KeptS.below h.b K h.b.size (fun b hb => (h.frm b hb).1), hc, hr.withX hx3 hx6, hx3, hx6, fun e => by
    rcases ht _ e with h1 | h1
    · exact h.n3 h1
    · have := h.lt; omega, fun e => by
    rcases ht _ e with h1 | h1
    · exact h.n6 h1
    · omega, h.lt, h.fw.kept (K.mono (fun b hb => .inl hb)) hT, h.fk.kept (K.mono (fun b hb => .inl hb)) hT, Nat.le_trans h.nw hN, Nat.le_trans h.nk hN⟩

/-- Behind a call at the Code alone that leaves what it was. -/
theorem Pl.call {w wr : World} {g g6 : Nat} {T : Nat → Prop} {N : Nat} {m : Em} {AL : Option Addr} {cL : Nat} {AG : Option Addr} {cG : Nat} {AF : Option Addr} {cF : Nat} {AP : Option Addr} {cP : Nat} {AA : Option Addr} {cA : Nat} {gl pl al : List Int} {d6 : Array Value} {Aw : Option Addr} {cw : Nat} {lw : List Int} {Ak : Option Addr} {ck : Nat} {lk : List Int} {w2 : World} {T2 : Nat → Prop} (h : Pl w wr g g6 T N m AL cL AG cG AF cF AP cP AA cA gl pl al d6 Aw cw lw Ak ck lk) (hc : CdAt w2 w.heap.size g T2 N m) (K : KeptS T wr w2) (ht : ∀ b, T2 b → T b ∨ wr.heap.size ≤ b) : Pl w w2 g g6 T2 N m AL cL AG cG AF cF AP cP AA cA gl pl al d6 Aw cw lw Ak ck lk :=
  h.both hc ((h.r.kept (K.mono (fun b hb => .inl hb)) (T' := T2) (fun b hb => by
    rcases ht b hb with h1 | h1
    · exact .inl (.inl h1)
    · exact .inr h1))) K ht (Nat.le_refl _)

theorem Pl.keep {w wr : World} {g g6 : Nat} {T : Nat → Prop} {N : Nat} {m : Em} {AL : Option Addr} {cL : Nat} {AG : Option Addr} {cG : Nat} {AF : Option Addr} {cF : Nat} {AP : Option Addr} {cP : Nat} {AA : Option Addr} {cA : Nat} {gl pl al : List Int} {d6 : Array Value} {Aw : Option Addr} {cw : Nat} {lw : List Int} {Ak : Option Addr} {ck : Nat} {lk : List Int} {w2 : World} (h : Pl w wr g g6 T N m AL cL AG cG AF cF AP cP AA cA gl pl al d6 Aw cw lw Ak ck lk) (K : KeptS (fun b => b = g6) wr w2) {e6 : Array Value} (hx : Whole w2 g6 rfT e6) : Pl w w2 g g6 T N m AL cL AG cG AF cF AP cP AA cA gl pl al e6 Aw cw lw Ak ck lk :=
  ⟨KeptS.below h.b K h.b.size (fun b hb => by have := h.lt; omega), CdM.later h.c K (fun b hb ht => h.n6 (hb ▸ ht)) (fun b hb => by have := h.lt; omega), h.r.later K (fun b hb => .inr (.inr hb)), K.whole h.x3 (fun e => by have := h.lt; omega), hx, h.n3, h.n6, h.lt, h.fw.later K (fun b hb e => h.fw.2 b hb (.inr (.inr e))), h.fk.later K (fun b hb e => h.fk.2 b hb (.inr (.inr e))), h.nw, h.nk⟩

theorem Pl.row {w wr : World} {g g6 : Nat} {T : Nat → Prop} {N : Nat} {m : Em} {AL : Option Addr} {cL : Nat} {AG : Option Addr} {cG : Nat} {AF : Option Addr} {cF : Nat} {AP : Option Addr} {cP : Nat} {AA : Option Addr} {cA : Nat} {gl pl al : List Int} {d6 : Array Value} {Aw : Option Addr} {cw : Nat} {lw : List Int} {Ak : Option Addr} {ck : Nat} {lk : List Int} (h : Pl w wr g g6 T N m AL cL AG cG AF cF AP cP AA cA gl pl al d6 Aw cw lw Ak ck lk) (us : Array Value) : Pl w (wr.setRow g6 us) g g6 T N m AL cL AG cG AF cF AP cP AA cA gl pl al us Aw cw lw Ak ck lk :=
  h.keep (KeptS.grown (h.x6.setRow us).2 (fun b hb => by injection hb with hb; exact hb.symm)) (h.x6.setRow us).1

theorem Pl.cell {w wr : World} {g g6 : Nat} {T : Nat → Prop} {N : Nat} {m : Em} {AL : Option Addr} {cL : Nat} {AG : Option Addr} {cG : Nat} {AF : Option Addr} {cF : Nat} {AP : Option Addr} {cP : Nat} {AA : Option Addr} {cA : Nat} {gl pl al : List Int} {d6 : Array Value} {Aw : Option Addr} {cw : Nat} {lw : List Int} {Ak : Option Addr} {ck : Nat} {lk : List Int} (h : Pl w wr g g6 T N m AL cL AG cG AF cF AP cP AA cA gl pl al d6 Aw cw lw Ak ck lk) (j : Nat) (u : Value) : Pl w (wr.setCell ⟨g6, j, none⟩ u) g g6 T N m AL cL AG cG AF cF AP cP AA cA gl pl al (d6.setIfInBounds j u) Aw cw lw Ak ck lk :=
  h.keep (KeptS.set rfl) (h.x6.store j u)

/-- The answers' Active is another row. -/
theorem Pl.active {w wr : World} {g g6 : Nat} {T : Nat → Prop} {N : Nat} {m : Em} {AL : Option Addr} {cL : Nat} {AG : Option Addr} {cG : Nat} {AF : Option Addr} {cF : Nat} {AP : Option Addr} {cP : Nat} {AA : Option Addr} {cA : Nat} {gl pl al : List Int} {d6 : Array Value} {Aw : Option Addr} {cw : Nat} {lw : List Int} {Ak : Option Addr} {ck : Nat} {lk : List Int} {A2 : Option Addr} {c2 : Nat} {l2 : List Int} (h : Pl w wr g g6 T N m AL cL AG cG AF cF AP cP AA cA gl pl al d6 Aw cw lw Ak ck lk) (hf : FarR wr (fun b => T b ∨ b = w.heap.size ∨ b = g6) itT 1 (.slice A2 l2.length c2) l2.length (l2.flatMap itC)) (hl : l2.length ≤ N) : Pl w wr g g6 T N m AL cL AG cG AF cF AP cP A2 c2 gl pl l2 d6 Aw cw lw Ak ck lk :=
  { h with r := ⟨h.r.fL, h.r.fG, h.r.fF, h.r.fP, hf, h.r.lg, h.r.lp, hl, h.r.lf, h.r.ok, h.r.nm⟩ }

theorem Pl.more {w wr : World} {g g6 : Nat} {T : Nat → Prop} {N : Nat} {m : Em} {AL : Option Addr} {cL : Nat} {AG : Option Addr} {cG : Nat} {AF : Option Addr} {cF : Nat} {AP : Option Addr} {cP : Nat} {AA : Option Addr} {cA : Nat} {gl pl al : List Int} {d6 : Array Value} {Aw : Option Addr} {cw : Nat} {lw : List Int} {Ak : Option Addr} {ck : Nat} {lk : List Int} {N2 : Nat} (h : Pl w wr g g6 T N m AL cL AG cG AF cF AP cP AA cA gl pl al d6 Aw cw lw Ak ck lk) (hN : N ≤ N2) : Pl w wr g g6 T N2 m AL cL AG cG AF cF AP cP AA cA gl pl al d6 Aw cw lw Ak ck lk :=
  { h with c := h.c.more hN (Nat.le_refl _), r := h.r.more hN, nw := Nat.le_trans h.nw hN, nk := Nat.le_trans h.nk hN }

/-- What was hidden is another row. -/
theorem Pl.was {w wr : World} {g g6 : Nat} {T : Nat → Prop} {N : Nat} {m : Em} {AL : Option Addr} {cL : Nat} {AG : Option Addr} {cG : Nat} {AF : Option Addr} {cF : Nat} {AP : Option Addr} {cP : Nat} {AA : Option Addr} {cA : Nat} {gl pl al : List Int} {d6 : Array Value} {Aw : Option Addr} {cw : Nat} {lw : List Int} {Ak : Option Addr} {ck : Nat} {lk : List Int} {A2 : Option Addr} {c2 : Nat} {l2 : List Int} {A3 : Option Addr} {c3 : Nat} {l3 : List Int} (h : Pl w wr g g6 T N m AL cL AG cG AF cF AP cP AA cA gl pl al d6 Aw cw lw Ak ck lk) (hf : FarR wr (fun b => T b ∨ b = w.heap.size ∨ b = g6) itT 1 (.slice A2 l2.length c2) l2.length (l2.flatMap itC)) (hl : l2.length ≤ N) (hk : FarR wr (fun b => T b ∨ b = w.heap.size ∨ b = g6) itT 1 (.slice A3 l3.length c3) l3.length (l3.flatMap itC)) (hn : l3.length ≤ N) : Pl w wr g g6 T N m AL cL AG cG AF cF AP cP AA cA gl pl al d6 A2 c2 l2 A3 c3 l3 :=
  { h with fw := hf, fk := hk, nw := hl, nk := hn }
end Go.Proofs.YtcijjmmckofckaaDoor

/- Emit: the law's played. -/
namespace Go.Proofs.YtcijjmmckofckaaDoor
open Go.ChangeShapes Go.WideShapes Go.ChangeAt Go.RowKit
set_option linter.unusedVariables false
set_option linter.unusedSimpArgs false

/-- What played leaves. -/
def PlayedP (w : World) (e : Ending) (w' : World) : Prop :=
  ∃ (g : Nat) (T : Nat → Prop) (m : Em) (AL : Option Addr) (cL : Nat) (AG : Option Addr) (cG : Nat) (AF : Option Addr) (cF : Nat) (AP : Option Addr) (cP : Nat) (AA : Option Addr) (cA : Nat) (gl pl al : List Int), e = .returned (.tuple #[.pointer (some ⟨g, 0, none⟩), .agg #[.slice AL m.L.length cL, .slice AG gl.length cG, .slice AF m.fx.length cF, .slice AP pl.length cP, .slice AA al.length cA, .int .i64 m.dep, .int .i64 m.most, .int .i64 m.err], .bool true]) ∧ CdAt w' w.heap.size g T 400 m ∧ RfR w' T 400 m AL cL AG cG AF cF AP cP AA cA gl pl al ∧ Below w.heap.size w w'

set_option maxHeartbeats 32000000 in
set_option maxRecDepth 100000 in
theorem played_any (A : Option Addr) (l : List Opp) (c : Nat) (w : World) (hO : LstV opCells w.heap.size w (.slice A l.length c) l) (hg : ∀ o ∈ l, OppIn o) (hl : l.length ≤ maxLen) (hS : ShapesIn w) :
    Calls Tryd.prog 7 #[.slice A l.length c] w (PlayedP w) := by
  have b0 := (Below.refl w.heap.size w).alloc (Nat.le_refl _) (.cells #[.slice none 0 0, .slice none 0 0, .slice none 0 0, .slice none 0 0, .slice none 0 0, .int .i64 0, .int .i64 0, .int .i64 0] rfT)
  have B0 := Lib.hid b0
  have X0 := Lib.hid (Whole.made w rfT #[.slice none 0 0, .slice none 0 0, .slice none 0 0, .slice none 0 0, .slice none 0 0, .int .i64 0, .int .i64 0, .int .i64 0] _ rfl)
  have NE := Lib.hid (enew_any w.heap.size 4 (w.alloc (.cells #[.slice none 0 0, .slice none 0 0, .slice none 0 0, .slice none 0 0, .slice none 0 0, .int .i64 0, .int .i64 0, .int .i64 0] rfT)) b0.size (hS.below b0 (Nat.le_refl _)) hS.lt)
  have HO := Lib.hid hO
  have HG := Lib.hid hg
  have hlm : l.length ≤ 9223372036854775807 := by unfold maxLen at hl; omega
  clear b0 hO hg hS hl
  go_enter Tryd.func7, Tryd.ntmps7
  go_wp2_with fail
  generalize w.alloc (.cells #[.slice none 0 0, .slice none 0 0, .slice none 0 0, .slice none 0 0, .slice none 0 0, .int .i64 0, .int .i64 0, .int .i64 0] rfT) = W0 at *
  refine NE.out.mono ?_
  rintro e w1 ⟨g, T1, rfl, hc, hb, hT⟩
  have hs0 := X0.out.lt
  have PI := Lib.hid (show Pl w (w1.alloc (.cells #[.slice none 0 0, .slice none 0 0, .slice none 0 0, .slice none 0 0, .slice none 0 0, .int .i64 0, .int .i64 0, .int .i64 0] rfT)) g w1.heap.size T1 4 newE none 0 none 0 none 0 none 0 none 0 [] [] [] #[.slice none 0 0, .slice none 0 0, .slice none 0 0, .slice none 0 0, .slice none 0 0, .int .i64 0, .int .i64 0, .int .i64 0] none 0 [] none 0 [] from by
    have b1 := (Below.refl w1.heap.size w1).alloc (Nat.le_refl _) (.cells #[.slice none 0 0, .slice none 0 0, .slice none 0 0, .slice none 0 0, .slice none 0 0, .int .i64 0, .int .i64 0, .int .i64 0] rfT)
    have hsz := hb.size
    exact ⟨B0.out.trans ((hb.trans (b1.mono hb.size)).mono B0.out.size), hc.below b1, ⟨FarR.nil _ _ _ _, FarR.nil _ _ _ _, FarR.nil _ _ _ _, FarR.nil _ _ _ _, FarR.nil _ _ _ _, Nat.le_refl _, Nat.zero_le _, Nat.zero_le _, Nat.zero_le _, EmOk.new, by show (0 : Int) ≤ ((4 : Nat) : Int); omega⟩, (X0.out.below hb X0.out.lt).alloc _, Whole.made w1 rfT #[.slice none 0 0, .slice none 0 0, .slice none 0 0, .slice none 0 0, .slice none 0 0, .int .i64 0, .int .i64 0, .int .i64 0] _ rfl, fun e => by have := hT _ e; omega, fun e => by
      obtain ⟨_, _, _, _, _, _, _, _, h0⟩ := hc
      have := (h0.frm _ e).2
      omega, by omega, FarR.nil _ _ _ _, FarR.nil _ _ _ _, Nat.zero_le _, Nat.zero_le _⟩)
  clear hc hb hT NE X0 B0 hs0
  go_wp2_with fail
  generalize w1.alloc (.cells #[.slice none 0 0, .slice none 0 0, .slice none 0 0, .slice none 0 0, .slice none 0 0, .int .i64 0, .int .i64 0, .int .i64 0] rfT) = w2 at *
  generalize w1.heap.size = g6 at *
  go_loopw [7, 8, 9, 10] (fun vW vK h i wr => ∃ (t : Nat) (hd : Int) (T : Nat → Prop) (m : Em) (AL : Option Addr) (cL : Nat) (AG : Option Addr) (cG : Nat) (AF : Option Addr) (cF : Nat) (AP : Option Addr) (cP : Nat) (AA : Option Addr) (cA : Nat) (gl pl al : List Int) (Aw : Option Addr) (cw : Nat) (lw : List Int) (Ak : Option Addr) (ck : Nat) (lk : List Int), t ≤ 80 ∧ t ≤ l.length ∧ i = .int .i64 t ∧ h = .int .i64 hd ∧ -1 ≤ hd ∧ hd ≤ t ∧ vW = .slice Aw lw.length cw ∧ vK = .slice Ak lk.length ck ∧ Pl w wr g g6 T (4 * t + 4) m AL cL AG cG AF cF AP cP AA cA gl pl al #[.slice AL m.L.length cL, .slice AG gl.length cG, .slice AF m.fx.length cF, .slice AP pl.length cP, .slice AA al.length cA, .int .i64 m.dep, .int .i64 m.most, .int .i64 m.err] Aw cw lw Ak ck lk) (fun _ _ _ i _ => l.length - (intOf i).toNat)
  case atStart => exact ⟨0, -1, T1, newE, none, 0, none, 0, none, 0, none, 0, none, 0, [], [], [], none, 0, [], none, 0, [], by omega, Nat.zero_le _, rfl, rfl, by omega, by omega, rfl, rfl, PI.out⟩
  case round =>
    obtain ⟨t, hd, T, m, AL, cL, AG, cG, AF, cF, AP, cP, AA, cA, gl, pl, al, Aw, cw, lw, Ak, ck, lk, ht80, ht, rfl, rfl, hd0, hd1, rfl, rfl, hP⟩ := hrel
    have HP := Lib.hid hP
    have HP0 := Lib.hid hP
    clear hP PI
    by_cases hlt : t < l.length ∧ t < 80
    case neg =>
      by_cases hlt1 : t < l.length
      case pos =>
        have hI : (t : Int) < l.length := by omega
        have hI2 : ¬ (t : Int) < 80 := by omega
        clear hlt
        have S8 : (Tryd.prog.info? rfT).map (·.size) = some 8 := by kernel_rfl
        have H1 := Lib.hid (show (#[.slice AL m.L.length cL, .slice AG gl.length cG, .slice AF m.fx.length cF, .slice AP pl.length cP, .slice AA al.length cA, .int .i64 m.dep, .int .i64 m.most, .int .i64 m.err] : Array Value).all (·.oneCell') = true from by simp [Value.oneCell'])
        go_wp2_with fail
        have L0 : wr.drew.cell? ⟨g6, 0, none⟩ = some (.slice AL m.L.length cL) ∧ wr.drew.cell? ⟨g6, 1, none⟩ = some (.slice AG gl.length cG) ∧ wr.drew.cell? ⟨g6, 2, none⟩ = some (.slice AF m.fx.length cF) ∧ wr.drew.cell? ⟨g6, 3, none⟩ = some (.slice AP pl.length cP) ∧ wr.drew.cell? ⟨g6, 4, none⟩ = some (.slice AA al.length cA) ∧ wr.drew.cell? ⟨g6, 5, none⟩ = some (.int .i64 m.dep) ∧ wr.drew.cell? ⟨g6, 6, none⟩ = some (.int .i64 m.most) ∧ wr.drew.cell? ⟨g6, 7, none⟩ = some (.int .i64 m.err) := ⟨HP0.out.x6.cell 0, HP0.out.x6.cell 1, HP0.out.x6.cell 2, HP0.out.x6.cell 3, HP0.out.x6.cell 4, HP0.out.x6.cell 5, HP0.out.x6.cell 6, HP0.out.x6.cell 7⟩
        have HP := Lib.hid (HP.out.below (Below.refl _ _).drew)
        refine wp_region_noPanic ?_
        refine region_T (S := fun y => y.cell? ⟨g6, 0, none⟩ = some (.slice AL m.L.length cL) ∧ y.cell? ⟨g6, 1, none⟩ = some (.slice AG gl.length cG) ∧ y.cell? ⟨g6, 2, none⟩ = some (.slice AF m.fx.length cF) ∧ y.cell? ⟨g6, 3, none⟩ = some (.slice AP pl.length cP) ∧ y.cell? ⟨g6, 4, none⟩ = some (.slice AA al.length cA) ∧ y.cell? ⟨g6, 5, none⟩ = some (.int .i64 m.dep) ∧ y.cell? ⟨g6, 6, none⟩ = some (.int .i64 m.most) ∧ y.cell? ⟨g6, 7, none⟩ = some (.int .i64 m.err)) 4 (by kernel_rfl) L0 (fun hHeld => ?_)
        refine anyT_take (i := 0) (oi := _) (v := .pointer (some ⟨g, 0, none⟩)) rfl (by kernel_rfl) (by kernel_rfl) (by kernel_rfl) (by kernel_rfl) (fun _ _ _ h => h) (Or.inl ⟨by rfl, fun w hSw => by (try dsimp only at hSw); go_simp⟩) (by assumption) ?_
        try simp only [Act.put, List.setIfInBounds_toArray, List.set_cons_zero, List.set_cons_succ]
        refine anyT_take (i := 1) (oi := _) (v := .agg #[.slice AL m.L.length cL, .slice AG gl.length cG, .slice AF m.fx.length cF, .slice AP pl.length cP, .slice AA al.length cA, .int .i64 m.dep, .int .i64 m.most, .int .i64 m.err]) rfl (by kernel_rfl) (by kernel_rfl) (by kernel_rfl) (by kernel_rfl) (fun _ _ _ h => h) (Or.inl ⟨by rfl, fun w hSw => by (try dsimp only at hSw); go_simp⟩) (by assumption) ?_
        try simp only [Act.put, List.setIfInBounds_toArray, List.set_cons_zero, List.set_cons_succ]
        clear L0
        refine anyT_ready (rs := [2]) (by kernel_rfl) (by simp) (ReadyT.cons (o := _) rfl (fun K hK => ?_) ReadyT.nil)
        go_simp
        have S0 : wr.drew.cell? ⟨g6, 0, none⟩ = some (.slice AL m.L.length cL) ∧ wr.drew.cell? ⟨g6, 1, none⟩ = some (.slice AG gl.length cG) ∧ wr.drew.cell? ⟨g6, 2, none⟩ = some (.slice AF m.fx.length cF) ∧ wr.drew.cell? ⟨g6, 3, none⟩ = some (.slice AP pl.length cP) ∧ wr.drew.cell? ⟨g6, 4, none⟩ = some (.slice AA al.length cA) ∧ wr.drew.cell? ⟨g6, 5, none⟩ = some (.int .i64 m.dep) ∧ wr.drew.cell? ⟨g6, 6, none⟩ = some (.int .i64 m.most) ∧ wr.drew.cell? ⟨g6, 7, none⟩ = some (.int .i64 m.err) := ⟨HP.out.x6.cell 0, HP.out.x6.cell 1, HP.out.x6.cell 2, HP.out.x6.cell 3, HP.out.x6.cell 4, HP.out.x6.cell 5, HP.out.x6.cell 6, HP.out.x6.cell 7⟩
        refine hK.out _ _ S0 (fun hHeld => ?_)
        clear hK K
        try simp only [Act.put, List.setIfInBounds_toArray, List.set_cons_zero, List.set_cons_succ]
        refine anyT_ready (rs := [3]) (by kernel_rfl) (by simp) (ReadyT.cons (o := _) rfl (fun K hK => ?_) ReadyT.nil)
        refine wp_store_row rfT (.tmp 3) (.tmp 89) rfl (w.heap.size) #[.slice AL m.L.length cL, .slice AG gl.length cG, .slice AF m.fx.length cF, .slice AP pl.length cP, .slice AA al.length cA, .int .i64 m.dep, .int .i64 m.most, .int .i64 m.err] rfl rfl rfT #[.slice none 0 0, .slice none 0 0, .slice none 0 0, .slice none 0 0, .slice none 0 0, .int .i64 0, .int .i64 0, .int .i64 0] HP.out.x3 S8 rfl H1.out ?_
        have SX := Lib.hid (HP.out.x3.setRow #[.slice AL m.L.length cL, .slice AG gl.length cG, .slice AF m.fx.length cF, .slice AP pl.length cP, .slice AA al.length cA, .int .i64 m.dep, .int .i64 m.most, .int .i64 m.err])
        have hlt6 := HP.out.lt
        have KX := Lib.hid (show KeptS (fun b => b = w.heap.size) wr.drew (wr.drew.setRow w.heap.size #[.slice AL m.L.length cL, .slice AG gl.length cG, .slice AF m.fx.length cF, .slice AP pl.length cP, .slice AA al.length cA, .int .i64 m.dep, .int .i64 m.most, .int .i64 m.err]) from KeptS.grown SX.out.2 (fun b hb => by injection hb with hb; exact hb.symm))
        have X6 := Lib.hid (KX.out.whole HP.out.x6 (fun e => by omega))
        have S1 : (wr.drew.setRow w.heap.size #[.slice AL m.L.length cL, .slice AG gl.length cG, .slice AF m.fx.length cF, .slice AP pl.length cP, .slice AA al.length cA, .int .i64 m.dep, .int .i64 m.most, .int .i64 m.err]).cell? ⟨g6, 0, none⟩ = some (.slice AL m.L.length cL) ∧ (wr.drew.setRow w.heap.size #[.slice AL m.L.length cL, .slice AG gl.length cG, .slice AF m.fx.length cF, .slice AP pl.length cP, .slice AA al.length cA, .int .i64 m.dep, .int .i64 m.most, .int .i64 m.err]).cell? ⟨g6, 1, none⟩ = some (.slice AG gl.length cG) ∧ (wr.drew.setRow w.heap.size #[.slice AL m.L.length cL, .slice AG gl.length cG, .slice AF m.fx.length cF, .slice AP pl.length cP, .slice AA al.length cA, .int .i64 m.dep, .int .i64 m.most, .int .i64 m.err]).cell? ⟨g6, 2, none⟩ = some (.slice AF m.fx.length cF) ∧ (wr.drew.setRow w.heap.size #[.slice AL m.L.length cL, .slice AG gl.length cG, .slice AF m.fx.length cF, .slice AP pl.length cP, .slice AA al.length cA, .int .i64 m.dep, .int .i64 m.most, .int .i64 m.err]).cell? ⟨g6, 3, none⟩ = some (.slice AP pl.length cP) ∧ (wr.drew.setRow w.heap.size #[.slice AL m.L.length cL, .slice AG gl.length cG, .slice AF m.fx.length cF, .slice AP pl.length cP, .slice AA al.length cA, .int .i64 m.dep, .int .i64 m.most, .int .i64 m.err]).cell? ⟨g6, 4, none⟩ = some (.slice AA al.length cA) ∧ (wr.drew.setRow w.heap.size #[.slice AL m.L.length cL, .slice AG gl.length cG, .slice AF m.fx.length cF, .slice AP pl.length cP, .slice AA al.length cA, .int .i64 m.dep, .int .i64 m.most, .int .i64 m.err]).cell? ⟨g6, 5, none⟩ = some (.int .i64 m.dep) ∧ (wr.drew.setRow w.heap.size #[.slice AL m.L.length cL, .slice AG gl.length cG, .slice AF m.fx.length cF, .slice AP pl.length cP, .slice AA al.length cA, .int .i64 m.dep, .int .i64 m.most, .int .i64 m.err]).cell? ⟨g6, 6, none⟩ = some (.int .i64 m.most) ∧ (wr.drew.setRow w.heap.size #[.slice AL m.L.length cL, .slice AG gl.length cG, .slice AF m.fx.length cF, .slice AP pl.length cP, .slice AA al.length cA, .int .i64 m.dep, .int .i64 m.most, .int .i64 m.err]).cell? ⟨g6, 7, none⟩ = some (.int .i64 m.err) := ⟨X6.out.cell 0, X6.out.cell 1, X6.out.cell 2, X6.out.cell 3, X6.out.cell 4, X6.out.cell 5, X6.out.cell 6, X6.out.cell 7⟩
        refine hK.out _ _ S1 (fun hHeld => ?_)
        clear hK K
        try simp only [Act.put, List.setIfInBounds_toArray, List.set_cons_zero, List.set_cons_succ]
        refine anyT_ready (rs := [4]) (by kernel_rfl) (by simp) (ReadyT.last (o := _) rfl (fun K hK => ?_))
        go_simp
        refine hK.out _ _ trivial (fun _ => ?_)
        clear hK K
        try simp only [Act.put, List.setIfInBounds_toArray, List.set_cons_zero, List.set_cons_succ]
        refine anyT_done (by kernel_rfl) ?_ _
        refine NoPanic.normal ?_
        have CZ := Lib.hid (CdM.later HP.out.c KX.out (fun b hb ht => HP.out.n3 (hb ▸ ht)) (fun b hb => by omega))
        have RZ := Lib.hid (HP.out.r.later KX.out (fun b hb => .inr (.inl hb)))
        have BZ := Lib.hid (KeptS.below HP.out.b KX.out HP.out.b.size (fun b hb => by omega))
        have XZ := SX.out.1
        have z0 := XZ.cell 0
        have z1 := XZ.cell 1
        have z2 := XZ.cell 2
        have z3 := XZ.cell 3
        have z4 := XZ.cell 4
        have z5 := XZ.cell 5
        have z6 := XZ.cell 6
        have z7 := XZ.cell 7
        generalize wr.drew.setRow w.heap.size #[.slice AL m.L.length cL, .slice AG gl.length cG, .slice AF m.fx.length cF, .slice AP pl.length cP, .slice AA al.length cA, .int .i64 m.dep, .int .i64 m.most, .int .i64 m.err] = ZZ at *
        replace z0 : ZZ.cell? ⟨w.heap.size, 0, none⟩ = some (.slice AL m.L.length cL) := z0
        replace z1 : ZZ.cell? ⟨w.heap.size, 1, none⟩ = some (.slice AG gl.length cG) := z1
        replace z2 : ZZ.cell? ⟨w.heap.size, 2, none⟩ = some (.slice AF m.fx.length cF) := z2
        replace z3 : ZZ.cell? ⟨w.heap.size, 3, none⟩ = some (.slice AP pl.length cP) := z3
        replace z4 : ZZ.cell? ⟨w.heap.size, 4, none⟩ = some (.slice AA al.length cA) := z4
        replace z5 : ZZ.cell? ⟨w.heap.size, 5, none⟩ = some (.int .i64 m.dep) := z5
        replace z6 : ZZ.cell? ⟨w.heap.size, 6, none⟩ = some (.int .i64 m.most) := z6
        replace z7 : ZZ.cell? ⟨w.heap.size, 7, none⟩ = some (.int .i64 m.err) := z7
        go_wp2_with fail
        refine bodyPost_ret (v := .tuple #[.pointer (some ⟨g, 0, none⟩), .agg #[.slice AL m.L.length cL, .slice AG gl.length cG, .slice AF m.fx.length cF, .slice AP pl.length cP, .slice AA al.length cA, .int .i64 m.dep, .int .i64 m.most, .int .i64 m.err], .bool true]) ?_ rfl ⟨g, T, m, AL, cL, AG, cG, AF, cF, AP, cP, AA, cA, gl, pl, al, rfl, CZ.out.more (by omega) (Nat.le_refl _), (RZ.out.less (fun b hb => .inl hb)).more (by omega), BZ.out⟩
        simp [results, Tryd.results7, go_sem, z0, z1, z2, z3, z4, z5, z6, z7]
      case neg =>
        have hI : ¬ (t : Int) < l.length := by omega
        clear hlt
        have S8 : (Tryd.prog.info? rfT).map (·.size) = some 8 := by kernel_rfl
        have H1 := Lib.hid (show (#[.slice AL m.L.length cL, .slice AG gl.length cG, .slice AF m.fx.length cF, .slice AP pl.length cP, .slice AA al.length cA, .int .i64 m.dep, .int .i64 m.most, .int .i64 m.err] : Array Value).all (·.oneCell') = true from by simp [Value.oneCell'])
        go_wp2_with fail
        have L0 : wr.drew.cell? ⟨g6, 0, none⟩ = some (.slice AL m.L.length cL) ∧ wr.drew.cell? ⟨g6, 1, none⟩ = some (.slice AG gl.length cG) ∧ wr.drew.cell? ⟨g6, 2, none⟩ = some (.slice AF m.fx.length cF) ∧ wr.drew.cell? ⟨g6, 3, none⟩ = some (.slice AP pl.length cP) ∧ wr.drew.cell? ⟨g6, 4, none⟩ = some (.slice AA al.length cA) ∧ wr.drew.cell? ⟨g6, 5, none⟩ = some (.int .i64 m.dep) ∧ wr.drew.cell? ⟨g6, 6, none⟩ = some (.int .i64 m.most) ∧ wr.drew.cell? ⟨g6, 7, none⟩ = some (.int .i64 m.err) := ⟨HP0.out.x6.cell 0, HP0.out.x6.cell 1, HP0.out.x6.cell 2, HP0.out.x6.cell 3, HP0.out.x6.cell 4, HP0.out.x6.cell 5, HP0.out.x6.cell 6, HP0.out.x6.cell 7⟩
        have HP := Lib.hid (HP.out.below (Below.refl _ _).drew)
        refine wp_region_noPanic ?_
        refine region_T (S := fun y => y.cell? ⟨g6, 0, none⟩ = some (.slice AL m.L.length cL) ∧ y.cell? ⟨g6, 1, none⟩ = some (.slice AG gl.length cG) ∧ y.cell? ⟨g6, 2, none⟩ = some (.slice AF m.fx.length cF) ∧ y.cell? ⟨g6, 3, none⟩ = some (.slice AP pl.length cP) ∧ y.cell? ⟨g6, 4, none⟩ = some (.slice AA al.length cA) ∧ y.cell? ⟨g6, 5, none⟩ = some (.int .i64 m.dep) ∧ y.cell? ⟨g6, 6, none⟩ = some (.int .i64 m.most) ∧ y.cell? ⟨g6, 7, none⟩ = some (.int .i64 m.err)) 4 (by kernel_rfl) L0 (fun hHeld => ?_)
        refine anyT_take (i := 0) (oi := _) (v := .pointer (some ⟨g, 0, none⟩)) rfl (by kernel_rfl) (by kernel_rfl) (by kernel_rfl) (by kernel_rfl) (fun _ _ _ h => h) (Or.inl ⟨by rfl, fun w hSw => by (try dsimp only at hSw); go_simp⟩) (by assumption) ?_
        try simp only [Act.put, List.setIfInBounds_toArray, List.set_cons_zero, List.set_cons_succ]
        refine anyT_take (i := 1) (oi := _) (v := .agg #[.slice AL m.L.length cL, .slice AG gl.length cG, .slice AF m.fx.length cF, .slice AP pl.length cP, .slice AA al.length cA, .int .i64 m.dep, .int .i64 m.most, .int .i64 m.err]) rfl (by kernel_rfl) (by kernel_rfl) (by kernel_rfl) (by kernel_rfl) (fun _ _ _ h => h) (Or.inl ⟨by rfl, fun w hSw => by (try dsimp only at hSw); go_simp⟩) (by assumption) ?_
        try simp only [Act.put, List.setIfInBounds_toArray, List.set_cons_zero, List.set_cons_succ]
        clear L0
        refine anyT_ready (rs := [2]) (by kernel_rfl) (by simp) (ReadyT.cons (o := _) rfl (fun K hK => ?_) ReadyT.nil)
        go_simp
        have S0 : wr.drew.cell? ⟨g6, 0, none⟩ = some (.slice AL m.L.length cL) ∧ wr.drew.cell? ⟨g6, 1, none⟩ = some (.slice AG gl.length cG) ∧ wr.drew.cell? ⟨g6, 2, none⟩ = some (.slice AF m.fx.length cF) ∧ wr.drew.cell? ⟨g6, 3, none⟩ = some (.slice AP pl.length cP) ∧ wr.drew.cell? ⟨g6, 4, none⟩ = some (.slice AA al.length cA) ∧ wr.drew.cell? ⟨g6, 5, none⟩ = some (.int .i64 m.dep) ∧ wr.drew.cell? ⟨g6, 6, none⟩ = some (.int .i64 m.most) ∧ wr.drew.cell? ⟨g6, 7, none⟩ = some (.int .i64 m.err) := ⟨HP.out.x6.cell 0, HP.out.x6.cell 1, HP.out.x6.cell 2, HP.out.x6.cell 3, HP.out.x6.cell 4, HP.out.x6.cell 5, HP.out.x6.cell 6, HP.out.x6.cell 7⟩
        refine hK.out _ _ S0 (fun hHeld => ?_)
        clear hK K
        try simp only [Act.put, List.setIfInBounds_toArray, List.set_cons_zero, List.set_cons_succ]
        refine anyT_ready (rs := [3]) (by kernel_rfl) (by simp) (ReadyT.cons (o := _) rfl (fun K hK => ?_) ReadyT.nil)
        refine wp_store_row rfT (.tmp 3) (.tmp 89) rfl (w.heap.size) #[.slice AL m.L.length cL, .slice AG gl.length cG, .slice AF m.fx.length cF, .slice AP pl.length cP, .slice AA al.length cA, .int .i64 m.dep, .int .i64 m.most, .int .i64 m.err] rfl rfl rfT #[.slice none 0 0, .slice none 0 0, .slice none 0 0, .slice none 0 0, .slice none 0 0, .int .i64 0, .int .i64 0, .int .i64 0] HP.out.x3 S8 rfl H1.out ?_
        have SX := Lib.hid (HP.out.x3.setRow #[.slice AL m.L.length cL, .slice AG gl.length cG, .slice AF m.fx.length cF, .slice AP pl.length cP, .slice AA al.length cA, .int .i64 m.dep, .int .i64 m.most, .int .i64 m.err])
        have hlt6 := HP.out.lt
        have KX := Lib.hid (show KeptS (fun b => b = w.heap.size) wr.drew (wr.drew.setRow w.heap.size #[.slice AL m.L.length cL, .slice AG gl.length cG, .slice AF m.fx.length cF, .slice AP pl.length cP, .slice AA al.length cA, .int .i64 m.dep, .int .i64 m.most, .int .i64 m.err]) from KeptS.grown SX.out.2 (fun b hb => by injection hb with hb; exact hb.symm))
        have X6 := Lib.hid (KX.out.whole HP.out.x6 (fun e => by omega))
        have S1 : (wr.drew.setRow w.heap.size #[.slice AL m.L.length cL, .slice AG gl.length cG, .slice AF m.fx.length cF, .slice AP pl.length cP, .slice AA al.length cA, .int .i64 m.dep, .int .i64 m.most, .int .i64 m.err]).cell? ⟨g6, 0, none⟩ = some (.slice AL m.L.length cL) ∧ (wr.drew.setRow w.heap.size #[.slice AL m.L.length cL, .slice AG gl.length cG, .slice AF m.fx.length cF, .slice AP pl.length cP, .slice AA al.length cA, .int .i64 m.dep, .int .i64 m.most, .int .i64 m.err]).cell? ⟨g6, 1, none⟩ = some (.slice AG gl.length cG) ∧ (wr.drew.setRow w.heap.size #[.slice AL m.L.length cL, .slice AG gl.length cG, .slice AF m.fx.length cF, .slice AP pl.length cP, .slice AA al.length cA, .int .i64 m.dep, .int .i64 m.most, .int .i64 m.err]).cell? ⟨g6, 2, none⟩ = some (.slice AF m.fx.length cF) ∧ (wr.drew.setRow w.heap.size #[.slice AL m.L.length cL, .slice AG gl.length cG, .slice AF m.fx.length cF, .slice AP pl.length cP, .slice AA al.length cA, .int .i64 m.dep, .int .i64 m.most, .int .i64 m.err]).cell? ⟨g6, 3, none⟩ = some (.slice AP pl.length cP) ∧ (wr.drew.setRow w.heap.size #[.slice AL m.L.length cL, .slice AG gl.length cG, .slice AF m.fx.length cF, .slice AP pl.length cP, .slice AA al.length cA, .int .i64 m.dep, .int .i64 m.most, .int .i64 m.err]).cell? ⟨g6, 4, none⟩ = some (.slice AA al.length cA) ∧ (wr.drew.setRow w.heap.size #[.slice AL m.L.length cL, .slice AG gl.length cG, .slice AF m.fx.length cF, .slice AP pl.length cP, .slice AA al.length cA, .int .i64 m.dep, .int .i64 m.most, .int .i64 m.err]).cell? ⟨g6, 5, none⟩ = some (.int .i64 m.dep) ∧ (wr.drew.setRow w.heap.size #[.slice AL m.L.length cL, .slice AG gl.length cG, .slice AF m.fx.length cF, .slice AP pl.length cP, .slice AA al.length cA, .int .i64 m.dep, .int .i64 m.most, .int .i64 m.err]).cell? ⟨g6, 6, none⟩ = some (.int .i64 m.most) ∧ (wr.drew.setRow w.heap.size #[.slice AL m.L.length cL, .slice AG gl.length cG, .slice AF m.fx.length cF, .slice AP pl.length cP, .slice AA al.length cA, .int .i64 m.dep, .int .i64 m.most, .int .i64 m.err]).cell? ⟨g6, 7, none⟩ = some (.int .i64 m.err) := ⟨X6.out.cell 0, X6.out.cell 1, X6.out.cell 2, X6.out.cell 3, X6.out.cell 4, X6.out.cell 5, X6.out.cell 6, X6.out.cell 7⟩
        refine hK.out _ _ S1 (fun hHeld => ?_)
        clear hK K
        try simp only [Act.put, List.setIfInBounds_toArray, List.set_cons_zero, List.set_cons_succ]
        refine anyT_ready (rs := [4]) (by kernel_rfl) (by simp) (ReadyT.last (o := _) rfl (fun K hK => ?_))
        go_simp
        refine hK.out _ _ trivial (fun _ => ?_)
        clear hK K
        try simp only [Act.put, List.setIfInBounds_toArray, List.set_cons_zero, List.set_cons_succ]
        refine anyT_done (by kernel_rfl) ?_ _
        refine NoPanic.normal ?_
        have CZ := Lib.hid (CdM.later HP.out.c KX.out (fun b hb ht => HP.out.n3 (hb ▸ ht)) (fun b hb => by omega))
        have RZ := Lib.hid (HP.out.r.later KX.out (fun b hb => .inr (.inl hb)))
        have BZ := Lib.hid (KeptS.below HP.out.b KX.out HP.out.b.size (fun b hb => by omega))
        have XZ := SX.out.1
        have z0 := XZ.cell 0
        have z1 := XZ.cell 1
        have z2 := XZ.cell 2
        have z3 := XZ.cell 3
        have z4 := XZ.cell 4
        have z5 := XZ.cell 5
        have z6 := XZ.cell 6
        have z7 := XZ.cell 7
        generalize wr.drew.setRow w.heap.size #[.slice AL m.L.length cL, .slice AG gl.length cG, .slice AF m.fx.length cF, .slice AP pl.length cP, .slice AA al.length cA, .int .i64 m.dep, .int .i64 m.most, .int .i64 m.err] = ZZ at *
        replace z0 : ZZ.cell? ⟨w.heap.size, 0, none⟩ = some (.slice AL m.L.length cL) := z0
        replace z1 : ZZ.cell? ⟨w.heap.size, 1, none⟩ = some (.slice AG gl.length cG) := z1
        replace z2 : ZZ.cell? ⟨w.heap.size, 2, none⟩ = some (.slice AF m.fx.length cF) := z2
        replace z3 : ZZ.cell? ⟨w.heap.size, 3, none⟩ = some (.slice AP pl.length cP) := z3
        replace z4 : ZZ.cell? ⟨w.heap.size, 4, none⟩ = some (.slice AA al.length cA) := z4
        replace z5 : ZZ.cell? ⟨w.heap.size, 5, none⟩ = some (.int .i64 m.dep) := z5
        replace z6 : ZZ.cell? ⟨w.heap.size, 6, none⟩ = some (.int .i64 m.most) := z6
        replace z7 : ZZ.cell? ⟨w.heap.size, 7, none⟩ = some (.int .i64 m.err) := z7
        go_wp2_with fail
        refine bodyPost_ret (v := .tuple #[.pointer (some ⟨g, 0, none⟩), .agg #[.slice AL m.L.length cL, .slice AG gl.length cG, .slice AF m.fx.length cF, .slice AP pl.length cP, .slice AA al.length cA, .int .i64 m.dep, .int .i64 m.most, .int .i64 m.err], .bool true]) ?_ rfl ⟨g, T, m, AL, cL, AG, cG, AF, cF, AP, cP, AA, cA, gl, pl, al, rfl, CZ.out.more (by omega) (Nat.le_refl _), (RZ.out.less (fun b hb => .inl hb)).more (by omega), BZ.out⟩
        simp [results, Tryd.results7, go_sem, z0, z1, z2, z3, z4, z5, z6, z7]
    case pos =>
      have hI : (t : Int) < l.length := by omega
      have hI2 : (t : Int) < 80 := by omega
      have hI3 : t < l.length := hlt.1
      obtain ⟨bA, oA, rfl, hbA, hcell⟩ := (HO.out.below HP.out.b).at (k := 10) (fun _ => rfl) zOpp hI3
      have OI := Lib.hid (HG.out (l.getD t zOpp) (by rw [List.getD_eq_getElem?_getD, List.getElem?_eq_getElem hI3]; exact List.getElem_mem hI3))
      have x0 := hcell 0 _ rfl
      have x1 := hcell 1 _ rfl
      have x2 := hcell 2 _ rfl
      have x3 := hcell 3 _ rfl
      have x4 := hcell 4 _ rfl
      have x5 := hcell 5 _ rfl
      have x6 := hcell 6 _ rfl
      have x7 := hcell 7 _ rfl
      have x8 := hcell 8 _ rfl
      have x9 := hcell 9 _ rfl
      generalize l.getD t zOpp = o at *
      replace x0 : wr.cell? ⟨bA, oA + t * 10, none⟩ = some (.int .i64 o.k) := x0
      replace x1 : wr.cell? ⟨bA, oA + t * 10 + 1, none⟩ = some (.int .i64 o.i.op) := x1
      replace x2 : wr.cell? ⟨bA, oA + t * 10 + 2, none⟩ = some (.int .i64 o.i.a) := x2
      replace x3 : wr.cell? ⟨bA, oA + t * 10 + 3, none⟩ = some (.int .i64 o.i.b) := x3
      replace x4 : wr.cell? ⟨bA, oA + t * 10 + 4, none⟩ = some (.int .i64 o.i.c) := x4
      replace x5 : wr.cell? ⟨bA, oA + t * 10 + 5, none⟩ = some (.int .i64 o.i.n) := x5
      replace x6 : wr.cell? ⟨bA, oA + t * 10 + 6, none⟩ = some (.int .i64 o.n) := x6
      replace x7 : wr.cell? ⟨bA, oA + t * 10 + 7, none⟩ = some (.int .i64 o.a) := x7
      replace x8 : wr.cell? ⟨bA, oA + t * 10 + 8, none⟩ = some (.int .i64 o.b) := x8
      replace x9 : wr.cell? ⟨bA, oA + t * 10 + 9, none⟩ = some (.int .i64 o.c) := x9
      clear hcell hlt
      have BO := Lib.hid ((Below.refl wr.heap.size wr).alloc (Nat.le_refl _) (.cells #[.int .i64 o.k, .int .i64 o.i.op, .int .i64 o.i.a, .int .i64 o.i.b, .int .i64 o.i.c, .int .i64 o.i.n, .int .i64 o.n, .int .i64 o.a, .int .i64 o.b, .int .i64 o.c] opT))
      have XO := Lib.hid (Whole.made wr opT #[.int .i64 o.k, .int .i64 o.i.op, .int .i64 o.i.a, .int .i64 o.i.b, .int .i64 o.i.c, .int .i64 o.i.n, .int .i64 o.n, .int .i64 o.a, .int .i64 o.b, .int .i64 o.c] _ rfl)
      obtain ⟨o0, o1, o2, o3, o4, o5, o6, o7, o8, o9⟩ := cells10 XO.out
      have SMA := Lib.hid (small_any o (wr.alloc (.cells #[.int .i64 o.k, .int .i64 o.i.op, .int .i64 o.i.a, .int .i64 o.i.b, .int .i64 o.i.c, .int .i64 o.i.n, .int .i64 o.n, .int .i64 o.a, .int .i64 o.b, .int .i64 o.c] opT)))
      have HP := Lib.hid (HP.out.below BO.out)
      go_wp2_with fail
      generalize hWO : (wr.alloc (.cells #[.int .i64 o.k, .int .i64 o.i.op, .int .i64 o.i.a, .int .i64 o.i.b, .int .i64 o.i.c, .int .i64 o.i.n, .int .i64 o.n, .int .i64 o.a, .int .i64 o.b, .int .i64 o.c] opT)) = V at *
      clear hWO
      refine SMA.out.mono ?_
      rintro e y ⟨rfl, hb1⟩
      have HP := Lib.hid (HP.out.below hb1)
      have XO := Lib.hid (XO.out.below hb1 XO.out.lt)
      have GO := Lib.hid (show wr.heap.size < y.heap.size from XO.out.lt)
      clear hb1 SMA o0 o1 o2 o3 o4 o5 o6 o7 o8 o9 x0 x1 x2 x3 x4 x5 x6 x7 x8 x9
      by_cases hsm : smallO o
      case neg =>
        rw [decide_eq_false hsm]
        clear hsm
        go_wp2_with fail
        go_roundw
        case rel => exact ⟨t + 1, hd, T, m, AL, cL, AG, cG, AF, cF, AP, cP, AA, cA, gl, pl, al, Aw, cw, lw, Ak, ck, lk, by omega, by omega, by go_num, rfl, hd0, by omega, rfl, rfl, HP.out.more (by omega)⟩
        case measure => simp [intOf]; omega
      case pos =>
        rw [decide_eq_true hsm]
        have SMO := Lib.hid hsm
        clear hsm
        have NO := Lib.hid (show ¬ T wr.heap.size from fun e => by
          have := (HP0.out.frm _ e).2
          omega)
        have S8 : (Tryd.prog.info? rfT).map (·.size) = some 8 := by kernel_rfl
        by_cases hk : o.k = 14
        case neg =>
          have dk : (o.k == 14) = false := beq_eq_false_iff_ne.2 hk
          clear hk
          obtain ⟨o0, o1, o2, o3, o4, o5, o6, o7, o8, o9⟩ := cells10 XO.out
          simp only []
          go_at_K
          go_wp2_with fail
          clear o0 o1 o2 o3 o4 o5 o6 o7 o8 o9
          have L0 : y.drew.cell? ⟨g6, 0, none⟩ = some (.slice AL m.L.length cL) ∧ y.drew.cell? ⟨g6, 1, none⟩ = some (.slice AG gl.length cG) ∧ y.drew.cell? ⟨g6, 2, none⟩ = some (.slice AF m.fx.length cF) ∧ y.drew.cell? ⟨g6, 3, none⟩ = some (.slice AP pl.length cP) ∧ y.drew.cell? ⟨g6, 4, none⟩ = some (.slice AA al.length cA) ∧ y.drew.cell? ⟨g6, 5, none⟩ = some (.int .i64 m.dep) ∧ y.drew.cell? ⟨g6, 6, none⟩ = some (.int .i64 m.most) ∧ y.drew.cell? ⟨g6, 7, none⟩ = some (.int .i64 m.err) ∧ y.drew.cell? ⟨wr.heap.size, 0, none⟩ = some (.int .i64 o.k) ∧ y.drew.cell? ⟨wr.heap.size, 1, none⟩ = some (.int .i64 o.i.op) ∧ y.drew.cell? ⟨wr.heap.size, 2, none⟩ = some (.int .i64 o.i.a) ∧ y.drew.cell? ⟨wr.heap.size, 3, none⟩ = some (.int .i64 o.i.b) ∧ y.drew.cell? ⟨wr.heap.size, 4, none⟩ = some (.int .i64 o.i.c) ∧ y.drew.cell? ⟨wr.heap.size, 5, none⟩ = some (.int .i64 o.i.n) ∧ y.drew.cell? ⟨wr.heap.size, 6, none⟩ = some (.int .i64 o.n) ∧ y.drew.cell? ⟨wr.heap.size, 7, none⟩ = some (.int .i64 o.a) ∧ y.drew.cell? ⟨wr.heap.size, 8, none⟩ = some (.int .i64 o.b) ∧ y.drew.cell? ⟨wr.heap.size, 9, none⟩ = some (.int .i64 o.c) := ⟨HP.out.x6.cell 0, HP.out.x6.cell 1, HP.out.x6.cell 2, HP.out.x6.cell 3, HP.out.x6.cell 4, HP.out.x6.cell 5, HP.out.x6.cell 6, HP.out.x6.cell 7, XO.out.cell 0, XO.out.cell 1, XO.out.cell 2, XO.out.cell 3, XO.out.cell 4, XO.out.cell 5, XO.out.cell 6, XO.out.cell 7, XO.out.cell 8, XO.out.cell 9⟩
          have HP := Lib.hid (HP.out.below (Below.refl _ _).drew)
          have XO := Lib.hid (XO.out.below (Below.refl y.heap.size y).drew XO.out.lt)
          have WC := Lib.hid (writes_any o.k o.i o.n o.a o.b o.c OI.out.2.1 OI.out.2.2.1 OI.out.2.2.2.2.2 SMO.out.1 SMO.out.2.1 SMO.out.2.2.1 SMO.out.2.2.2 w.heap.size g T (4 * t + 4) m AL cL AG cG AF cF AP cP AA cA gl pl al y.drew HP.out.c (HP.out.r.less (fun b hb => .inl hb)) (by omega))
          refine wp_region_noPanic ?_
          refine region_T (S := fun y => y.cell? ⟨g6, 0, none⟩ = some (.slice AL m.L.length cL) ∧ y.cell? ⟨g6, 1, none⟩ = some (.slice AG gl.length cG) ∧ y.cell? ⟨g6, 2, none⟩ = some (.slice AF m.fx.length cF) ∧ y.cell? ⟨g6, 3, none⟩ = some (.slice AP pl.length cP) ∧ y.cell? ⟨g6, 4, none⟩ = some (.slice AA al.length cA) ∧ y.cell? ⟨g6, 5, none⟩ = some (.int .i64 m.dep) ∧ y.cell? ⟨g6, 6, none⟩ = some (.int .i64 m.most) ∧ y.cell? ⟨g6, 7, none⟩ = some (.int .i64 m.err) ∧ y.cell? ⟨wr.heap.size, 0, none⟩ = some (.int .i64 o.k) ∧ y.cell? ⟨wr.heap.size, 1, none⟩ = some (.int .i64 o.i.op) ∧ y.cell? ⟨wr.heap.size, 2, none⟩ = some (.int .i64 o.i.a) ∧ y.cell? ⟨wr.heap.size, 3, none⟩ = some (.int .i64 o.i.b) ∧ y.cell? ⟨wr.heap.size, 4, none⟩ = some (.int .i64 o.i.c) ∧ y.cell? ⟨wr.heap.size, 5, none⟩ = some (.int .i64 o.i.n) ∧ y.cell? ⟨wr.heap.size, 6, none⟩ = some (.int .i64 o.n) ∧ y.cell? ⟨wr.heap.size, 7, none⟩ = some (.int .i64 o.a) ∧ y.cell? ⟨wr.heap.size, 8, none⟩ = some (.int .i64 o.b) ∧ y.cell? ⟨wr.heap.size, 9, none⟩ = some (.int .i64 o.c)) 7 (by kernel_rfl) L0 (fun hHeld => ?_)
          refine anyT_take (i := 0) (oi := _) (v := .pointer (some ⟨g, 0, none⟩)) rfl (by kernel_rfl) (by kernel_rfl) (by kernel_rfl) (by kernel_rfl) (fun _ _ _ h => h) (Or.inl ⟨by rfl, fun w hSw => by (try dsimp only at hSw); go_simp⟩) (by assumption) ?_
          try simp only [Act.put, List.setIfInBounds_toArray, List.set_cons_zero, List.set_cons_succ]
          refine anyT_take (i := 1) (oi := _) (v := .pointer (some ⟨g, 0, none⟩)) rfl (by kernel_rfl) (by kernel_rfl) (by kernel_rfl) (by kernel_rfl) (fun _ _ _ h => h) (Or.inl ⟨by rfl, fun w hSw => by (try dsimp only at hSw); go_simp⟩) (by assumption) ?_
          try simp only [Act.put, List.setIfInBounds_toArray, List.set_cons_zero, List.set_cons_succ]
          refine anyT_take (i := 2) (oi := _) (v := .agg #[.slice AL m.L.length cL, .slice AG gl.length cG, .slice AF m.fx.length cF, .slice AP pl.length cP, .slice AA al.length cA, .int .i64 m.dep, .int .i64 m.most, .int .i64 m.err]) rfl (by kernel_rfl) (by kernel_rfl) (by kernel_rfl) (by kernel_rfl) (fun _ _ _ h => h) (Or.inl ⟨by rfl, fun w hSw => by (try dsimp only at hSw); go_simp⟩) (by assumption) ?_
          try simp only [Act.put, List.setIfInBounds_toArray, List.set_cons_zero, List.set_cons_succ]
          refine anyT_take (i := 3) (oi := _) (v := .agg #[.int .i64 o.k, .int .i64 o.i.op, .int .i64 o.i.a, .int .i64 o.i.b, .int .i64 o.i.c, .int .i64 o.i.n, .int .i64 o.n, .int .i64 o.a, .int .i64 o.b, .int .i64 o.c]) rfl (by kernel_rfl) (by kernel_rfl) (by kernel_rfl) (by kernel_rfl) (fun _ _ _ h => h) (Or.inl ⟨by rfl, fun w hSw => by (try dsimp only at hSw); go_simp⟩) (by assumption) ?_
          try simp only [Act.put, List.setIfInBounds_toArray, List.set_cons_zero, List.set_cons_succ]
          refine anyT_take (i := 5) (oi := _) (v := .agg #[.int .i64 o.k, .int .i64 o.i.op, .int .i64 o.i.a, .int .i64 o.i.b, .int .i64 o.i.c, .int .i64 o.i.n, .int .i64 o.n, .int .i64 o.a, .int .i64 o.b, .int .i64 o.c]) rfl (by kernel_rfl) (by kernel_rfl) (by kernel_rfl) (by kernel_rfl) (fun _ _ _ h => h) (Or.inl ⟨by rfl, fun w hSw => by (try dsimp only at hSw); go_simp⟩) (by assumption) ?_
          try simp only [Act.put, List.setIfInBounds_toArray, List.set_cons_zero, List.set_cons_succ]
          clear L0
          refine anyT_ready (rs := [4]) (by kernel_rfl) (by simp) (ReadyT.cons (o := _) rfl (fun K hK => ?_) ReadyT.nil)
          go_simp
          go_at_call 23
          refine (WC.out).mono ?_
          rintro e y1 ⟨T1, AL2, cL2, AG2, cG2, AF2, cF2, AP2, cP2, AA2, cA2, gl2, pl2, al2, rfl, hc, hr, hk, ht⟩
          have HP := Lib.hid (HP.out.both hc hr hk ht (show 4 * t + 4 ≤ 4 * t + 4 + 2 by omega))
          have XO := Lib.hid (hk.whole XO.out NO.out)
          have NO := Lib.hid (show ¬ T1 wr.heap.size from fun e => by
            rcases ht _ e with h | h
            · exact NO.out h
            · have := GO.out
              have : y.drew.heap.size = y.heap.size := rfl
              omega)
          have GO := Lib.hid (show wr.heap.size < y1.heap.size from XO.out.lt)
          have S1 : y1.cell? ⟨g6, 0, none⟩ = some (.slice AL m.L.length cL) ∧ y1.cell? ⟨g6, 1, none⟩ = some (.slice AG gl.length cG) ∧ y1.cell? ⟨g6, 2, none⟩ = some (.slice AF m.fx.length cF) ∧ y1.cell? ⟨g6, 3, none⟩ = some (.slice AP pl.length cP) ∧ y1.cell? ⟨g6, 4, none⟩ = some (.slice AA al.length cA) ∧ y1.cell? ⟨g6, 5, none⟩ = some (.int .i64 m.dep) ∧ y1.cell? ⟨g6, 6, none⟩ = some (.int .i64 m.most) ∧ y1.cell? ⟨g6, 7, none⟩ = some (.int .i64 m.err) ∧ y1.cell? ⟨wr.heap.size, 0, none⟩ = some (.int .i64 o.k) ∧ y1.cell? ⟨wr.heap.size, 1, none⟩ = some (.int .i64 o.i.op) ∧ y1.cell? ⟨wr.heap.size, 2, none⟩ = some (.int .i64 o.i.a) ∧ y1.cell? ⟨wr.heap.size, 3, none⟩ = some (.int .i64 o.i.b) ∧ y1.cell? ⟨wr.heap.size, 4, none⟩ = some (.int .i64 o.i.c) ∧ y1.cell? ⟨wr.heap.size, 5, none⟩ = some (.int .i64 o.i.n) ∧ y1.cell? ⟨wr.heap.size, 6, none⟩ = some (.int .i64 o.n) ∧ y1.cell? ⟨wr.heap.size, 7, none⟩ = some (.int .i64 o.a) ∧ y1.cell? ⟨wr.heap.size, 8, none⟩ = some (.int .i64 o.b) ∧ y1.cell? ⟨wr.heap.size, 9, none⟩ = some (.int .i64 o.c) := ⟨HP.out.x6.cell 0, HP.out.x6.cell 1, HP.out.x6.cell 2, HP.out.x6.cell 3, HP.out.x6.cell 4, HP.out.x6.cell 5, HP.out.x6.cell 6, HP.out.x6.cell 7, XO.out.cell 0, XO.out.cell 1, XO.out.cell 2, XO.out.cell 3, XO.out.cell 4, XO.out.cell 5, XO.out.cell 6, XO.out.cell 7, XO.out.cell 8, XO.out.cell 9⟩
          have OC2 := Lib.hid (others_any o.k o.i o.n o.a o.b o.c OI.out.2.1 OI.out.2.2.1 OI.out.2.2.2.2.2 SMO.out.1 SMO.out.2.1 SMO.out.2.2.1 SMO.out.2.2.2 w.heap.size g T1 (4 * t + 4 + 2) (wrM o.k o.i o.n o.a o.b o.c m) AL2 cL2 AG2 cG2 AF2 cF2 AP2 cP2 AA2 cA2 gl2 pl2 al2 y1 HP.out.c (HP.out.r.less (fun b hb => .inl hb)) (by omega))
          clear hc hr hk ht WC
          refine hK.out _ _ S1 (fun hHeld => ?_)
          clear hK K
          try simp only [Act.put, List.setIfInBounds_toArray, List.set_cons_zero, List.set_cons_succ]
          generalize (wrM o.k o.i o.n o.a o.b o.c m) = m1 at *
          refine anyT_ready (rs := [6]) (by kernel_rfl) (by simp) (ReadyT.cons (o := _) rfl (fun K hK => ?_) ReadyT.nil)
          go_simp
          go_at_call 22
          refine (OC2.out).mono ?_
          rintro e y2 ⟨T2, AL3, cL3, AG3, cG3, AF3, cF3, AP3, cP3, AA3, cA3, gl3, pl3, al3, rfl, hc, hr, hk, ht⟩
          have HP := Lib.hid (HP.out.both hc hr hk ht (show 4 * t + 4 + 2 ≤ 4 * t + 4 + 2 + 2 by omega))
          have XO := Lib.hid (hk.whole XO.out NO.out)
          have S2 : y2.cell? ⟨g6, 0, none⟩ = some (.slice AL m.L.length cL) ∧ y2.cell? ⟨g6, 1, none⟩ = some (.slice AG gl.length cG) ∧ y2.cell? ⟨g6, 2, none⟩ = some (.slice AF m.fx.length cF) ∧ y2.cell? ⟨g6, 3, none⟩ = some (.slice AP pl.length cP) ∧ y2.cell? ⟨g6, 4, none⟩ = some (.slice AA al.length cA) ∧ y2.cell? ⟨g6, 5, none⟩ = some (.int .i64 m.dep) ∧ y2.cell? ⟨g6, 6, none⟩ = some (.int .i64 m.most) ∧ y2.cell? ⟨g6, 7, none⟩ = some (.int .i64 m.err) ∧ y2.cell? ⟨wr.heap.size, 0, none⟩ = some (.int .i64 o.k) ∧ y2.cell? ⟨wr.heap.size, 1, none⟩ = some (.int .i64 o.i.op) ∧ y2.cell? ⟨wr.heap.size, 2, none⟩ = some (.int .i64 o.i.a) ∧ y2.cell? ⟨wr.heap.size, 3, none⟩ = some (.int .i64 o.i.b) ∧ y2.cell? ⟨wr.heap.size, 4, none⟩ = some (.int .i64 o.i.c) ∧ y2.cell? ⟨wr.heap.size, 5, none⟩ = some (.int .i64 o.i.n) ∧ y2.cell? ⟨wr.heap.size, 6, none⟩ = some (.int .i64 o.n) ∧ y2.cell? ⟨wr.heap.size, 7, none⟩ = some (.int .i64 o.a) ∧ y2.cell? ⟨wr.heap.size, 8, none⟩ = some (.int .i64 o.b) ∧ y2.cell? ⟨wr.heap.size, 9, none⟩ = some (.int .i64 o.c) := ⟨HP.out.x6.cell 0, HP.out.x6.cell 1, HP.out.x6.cell 2, HP.out.x6.cell 3, HP.out.x6.cell 4, HP.out.x6.cell 5, HP.out.x6.cell 6, HP.out.x6.cell 7, XO.out.cell 0, XO.out.cell 1, XO.out.cell 2, XO.out.cell 3, XO.out.cell 4, XO.out.cell 5, XO.out.cell 6, XO.out.cell 7, XO.out.cell 8, XO.out.cell 9⟩
          clear hc hr hk ht OC2
          refine hK.out _ _ S2 (fun hHeld => ?_)
          clear hK K
          try simp only [Act.put, List.setIfInBounds_toArray, List.set_cons_zero, List.set_cons_succ]
          generalize (otM o.k o.n o.a o.b o.c m1) = m2 at *
          refine anyT_ready (rs := [7]) (by kernel_rfl) (by simp) (ReadyT.last (o := _) rfl (fun K hK => ?_))
          have H1 := Lib.hid (show (#[.slice AL3 m2.L.length cL3, .slice AG3 gl3.length cG3, .slice AF3 m2.fx.length cF3, .slice AP3 pl3.length cP3, .slice AA3 al3.length cA3, .int .i64 m2.dep, .int .i64 m2.most, .int .i64 m2.err] : Array Value).all (·.oneCell') = true from by simp [Value.oneCell'])
          refine wp_store_row rfT (.tmp 6) (.tmp 52) rfl (g6) #[.slice AL3 m2.L.length cL3, .slice AG3 gl3.length cG3, .slice AF3 m2.fx.length cF3, .slice AP3 pl3.length cP3, .slice AA3 al3.length cA3, .int .i64 m2.dep, .int .i64 m2.most, .int .i64 m2.err] rfl rfl rfT #[.slice AL m.L.length cL, .slice AG gl.length cG, .slice AF m.fx.length cF, .slice AP pl.length cP, .slice AA al.length cA, .int .i64 m.dep, .int .i64 m.most, .int .i64 m.err] HP.out.x6 S8 rfl H1.out ?_
          have HP := Lib.hid (HP.out.row #[.slice AL3 m2.L.length cL3, .slice AG3 gl3.length cG3, .slice AF3 m2.fx.length cF3, .slice AP3 pl3.length cP3, .slice AA3 al3.length cA3, .int .i64 m2.dep, .int .i64 m2.most, .int .i64 m2.err])
          refine hK.out _ _ trivial (fun _ => ?_)
          clear hK K
          try simp only [Act.put, List.setIfInBounds_toArray, List.set_cons_zero, List.set_cons_succ]
          refine anyT_done (by kernel_rfl) ?_ _
          refine NoPanic.normal ?_
          generalize y2.setRow g6 #[.slice AL3 m2.L.length cL3, .slice AG3 gl3.length cG3, .slice AF3 m2.fx.length cF3, .slice AP3 pl3.length cP3, .slice AA3 al3.length cA3, .int .i64 m2.dep, .int .i64 m2.most, .int .i64 m2.err] = y3 at *
          clear XO NO GO S1 S2 H1 hHeld
          by_cases hh : 0 ≤ hd
          case neg =>
            have d1 : decide ((0 : Int) ≤ hd) = false := decide_eq_false hh
            have CH := Lib.hid (show ∀ y, (y.cell? ⟨g6, 0, none⟩ = some (.slice AL3 m2.L.length cL3) ∧ y.cell? ⟨g6, 5, none⟩ = some (.int .i64 m2.dep) ∧ y.cell? ⟨g6, 7, none⟩ = some (.int .i64 m2.err) ∧ Pl w y g g6 T2 (4 * t + 4 + 2 + 2) m2 AL3 cL3 AG3 cG3 AF3 cF3 AP3 cP3 AA3 cA3 gl3 pl3 al3 #[.slice AL3 m2.L.length cL3, .slice AG3 gl3.length cG3, .slice AF3 m2.fx.length cF3, .slice AP3 pl3.length cP3, .slice AA3 al3.length cA3, .int .i64 m2.dep, .int .i64 m2.most, .int .i64 m2.err] Aw cw lw Ak ck lk) → Calls Tryd.prog 17 #[.pointer (some ⟨g, 0, none⟩)] y (fun e y' => e = .returned (.int .i64 m2.L.length) ∧ (y'.cell? ⟨g6, 0, none⟩ = some (.slice AL3 m2.L.length cL3) ∧ y'.cell? ⟨g6, 5, none⟩ = some (.int .i64 m2.dep) ∧ y'.cell? ⟨g6, 7, none⟩ = some (.int .i64 m2.err) ∧ Pl w y' g g6 T2 (4 * t + 4 + 2 + 2) m2 AL3 cL3 AG3 cG3 AF3 cF3 AP3 cP3 AA3 cA3 gl3 pl3 al3 #[.slice AL3 m2.L.length cL3, .slice AG3 gl3.length cG3, .slice AF3 m2.fx.length cF3, .slice AP3 pl3.length cP3, .slice AA3 al3.length cA3, .int .i64 m2.dep, .int .i64 m2.most, .int .i64 m2.err] Aw cw lw Ak ck lk)) from fun y hy => (here_any w.heap.size g T2 (4 * t + 4 + 2 + 2) m2.L.length m2 y hy.2.2.2.c).mono (fun e y' h => ⟨h.1, h.2 ▸ hy⟩))
            have CDp := Lib.hid (show ∀ y, (y.cell? ⟨g6, 0, none⟩ = some (.slice AL3 m2.L.length cL3) ∧ y.cell? ⟨g6, 5, none⟩ = some (.int .i64 m2.dep) ∧ y.cell? ⟨g6, 7, none⟩ = some (.int .i64 m2.err) ∧ Pl w y g g6 T2 (4 * t + 4 + 2 + 2) m2 AL3 cL3 AG3 cG3 AF3 cF3 AP3 cP3 AA3 cA3 gl3 pl3 al3 #[.slice AL3 m2.L.length cL3, .slice AG3 gl3.length cG3, .slice AF3 m2.fx.length cF3, .slice AP3 pl3.length cP3, .slice AA3 al3.length cA3, .int .i64 m2.dep, .int .i64 m2.most, .int .i64 m2.err] Aw cw lw Ak ck lk) → Calls Tryd.prog 25 #[.pointer (some ⟨g, 0, none⟩)] y (fun e y' => e = .returned (.int .i64 m2.dep) ∧ (y'.cell? ⟨g6, 0, none⟩ = some (.slice AL3 m2.L.length cL3) ∧ y'.cell? ⟨g6, 5, none⟩ = some (.int .i64 m2.dep) ∧ y'.cell? ⟨g6, 7, none⟩ = some (.int .i64 m2.err) ∧ Pl w y' g g6 T2 (4 * t + 4 + 2 + 2) m2 AL3 cL3 AG3 cG3 AF3 cF3 AP3 cP3 AA3 cA3 gl3 pl3 al3 #[.slice AL3 m2.L.length cL3, .slice AG3 gl3.length cG3, .slice AF3 m2.fx.length cF3, .slice AP3 pl3.length cP3, .slice AA3 al3.length cA3, .int .i64 m2.dep, .int .i64 m2.most, .int .i64 m2.err] Aw cw lw Ak ck lk)) from fun y hy => (depth_any w.heap.size g T2 (4 * t + 4 + 2 + 2) m2.L.length m2 y hy.2.2.2.c).mono (fun e y' h => ⟨h.1, h.2 ▸ hy⟩))
            have CE := Lib.hid (show ∀ y, (y.cell? ⟨g6, 0, none⟩ = some (.slice AL3 m2.L.length cL3) ∧ y.cell? ⟨g6, 5, none⟩ = some (.int .i64 m2.dep) ∧ y.cell? ⟨g6, 7, none⟩ = some (.int .i64 m2.err) ∧ Pl w y g g6 T2 (4 * t + 4 + 2 + 2) m2 AL3 cL3 AG3 cG3 AF3 cF3 AP3 cP3 AA3 cA3 gl3 pl3 al3 #[.slice AL3 m2.L.length cL3, .slice AG3 gl3.length cG3, .slice AF3 m2.fx.length cF3, .slice AP3 pl3.length cP3, .slice AA3 al3.length cA3, .int .i64 m2.dep, .int .i64 m2.most, .int .i64 m2.err] Aw cw lw Ak ck lk) → Calls Tryd.prog 26 #[.pointer (some ⟨g, 0, none⟩)] y (fun e y' => e = .returned (.int .i64 m2.err) ∧ (y'.cell? ⟨g6, 0, none⟩ = some (.slice AL3 m2.L.length cL3) ∧ y'.cell? ⟨g6, 5, none⟩ = some (.int .i64 m2.dep) ∧ y'.cell? ⟨g6, 7, none⟩ = some (.int .i64 m2.err) ∧ Pl w y' g g6 T2 (4 * t + 4 + 2 + 2) m2 AL3 cL3 AG3 cG3 AF3 cF3 AP3 cP3 AA3 cA3 gl3 pl3 al3 #[.slice AL3 m2.L.length cL3, .slice AG3 gl3.length cG3, .slice AF3 m2.fx.length cF3, .slice AP3 pl3.length cP3, .slice AA3 al3.length cA3, .int .i64 m2.dep, .int .i64 m2.most, .int .i64 m2.err] Aw cw lw Ak ck lk)) from fun y hy => (err_any w.heap.size g T2 (4 * t + 4 + 2 + 2) m2.L.length m2 y hy.2.2.2.c).mono (fun e y' h => ⟨h.1, h.2 ▸ hy⟩))
            have L0 : y3.drew.cell? ⟨g6, 0, none⟩ = some (.slice AL3 m2.L.length cL3) ∧ y3.drew.cell? ⟨g6, 5, none⟩ = some (.int .i64 m2.dep) ∧ y3.drew.cell? ⟨g6, 7, none⟩ = some (.int .i64 m2.err) ∧ Pl w y3.drew g g6 T2 (4 * t + 4 + 2 + 2) m2 AL3 cL3 AG3 cG3 AF3 cF3 AP3 cP3 AA3 cA3 gl3 pl3 al3 #[.slice AL3 m2.L.length cL3, .slice AG3 gl3.length cG3, .slice AF3 m2.fx.length cF3, .slice AP3 pl3.length cP3, .slice AA3 al3.length cA3, .int .i64 m2.dep, .int .i64 m2.most, .int .i64 m2.err] Aw cw lw Ak ck lk := ⟨HP.out.x6.cell 0, HP.out.x6.cell 5, HP.out.x6.cell 7, HP.out.below (Below.refl _ _).drew⟩
            go_wp2_with fail
            clear HP
            go_region_held3 (fun y => y.cell? ⟨g6, 0, none⟩ = some (.slice AL3 m2.L.length cL3) ∧ y.cell? ⟨g6, 5, none⟩ = some (.int .i64 m2.dep) ∧ y.cell? ⟨g6, 7, none⟩ = some (.int .i64 m2.err) ∧ Pl w y g g6 T2 (4 * t + 4 + 2 + 2) m2 AL3 cL3 AG3 cG3 AF3 cF3 AP3 cP3 AA3 cA3 gl3 pl3 al3 #[.slice AL3 m2.L.length cL3, .slice AG3 gl3.length cG3, .slice AF3 m2.fx.length cF3, .slice AP3 pl3.length cP3, .slice AA3 al3.length cA3, .int .i64 m2.dep, .int .i64 m2.most, .int .i64 m2.err] Aw cw lw Ak ck lk)
              (first
                | with_reducible assumption
                | with_reducible exact L0
                | fail)
              (first
                | (go_at_call 17; refine (CH.out _ (by assumption)).mono ?_; rintro e y0 ⟨rfl, hs0⟩)
                | (go_at_call 25; refine (CDp.out _ (by assumption)).mono ?_; rintro e y1 ⟨rfl, hs1⟩)
                | (go_at_call 26; refine (CE.out _ (by assumption)).mono ?_; rintro e y2 ⟨rfl, hs2⟩))
            have HP := Lib.hid hs2.2.2.2
            clear hs0 hs1 hs2 L0 CH CDp CE
            try clear hHeld
            go_wp2_with fail
            go_roundw
            case rel => exact ⟨t + 1, hd, T2, m2, AL3, cL3, AG3, cG3, AF3, cF3, AP3, cP3, AA3, cA3, gl3, pl3, al3, Aw, cw, lw, Ak, ck, lk, by omega, by omega, by go_num, rfl, by omega, by omega, rfl, rfl, HP.out.more (by omega)⟩
            case measure => simp [intOf]; omega
          case pos =>
            have d1 : decide ((0 : Int) ≤ hd) = true := decide_eq_true hh
            by_cases hq : hd + 2 ≤ t
            case neg =>
              have d2 : decide (hd + 2 ≤ (t : Int)) = false := decide_eq_false hq
              have CH := Lib.hid (show ∀ y, (y.cell? ⟨g6, 0, none⟩ = some (.slice AL3 m2.L.length cL3) ∧ y.cell? ⟨g6, 5, none⟩ = some (.int .i64 m2.dep) ∧ y.cell? ⟨g6, 7, none⟩ = some (.int .i64 m2.err) ∧ Pl w y g g6 T2 (4 * t + 4 + 2 + 2) m2 AL3 cL3 AG3 cG3 AF3 cF3 AP3 cP3 AA3 cA3 gl3 pl3 al3 #[.slice AL3 m2.L.length cL3, .slice AG3 gl3.length cG3, .slice AF3 m2.fx.length cF3, .slice AP3 pl3.length cP3, .slice AA3 al3.length cA3, .int .i64 m2.dep, .int .i64 m2.most, .int .i64 m2.err] Aw cw lw Ak ck lk) → Calls Tryd.prog 17 #[.pointer (some ⟨g, 0, none⟩)] y (fun e y' => e = .returned (.int .i64 m2.L.length) ∧ (y'.cell? ⟨g6, 0, none⟩ = some (.slice AL3 m2.L.length cL3) ∧ y'.cell? ⟨g6, 5, none⟩ = some (.int .i64 m2.dep) ∧ y'.cell? ⟨g6, 7, none⟩ = some (.int .i64 m2.err) ∧ Pl w y' g g6 T2 (4 * t + 4 + 2 + 2) m2 AL3 cL3 AG3 cG3 AF3 cF3 AP3 cP3 AA3 cA3 gl3 pl3 al3 #[.slice AL3 m2.L.length cL3, .slice AG3 gl3.length cG3, .slice AF3 m2.fx.length cF3, .slice AP3 pl3.length cP3, .slice AA3 al3.length cA3, .int .i64 m2.dep, .int .i64 m2.most, .int .i64 m2.err] Aw cw lw Ak ck lk)) from fun y hy => (here_any w.heap.size g T2 (4 * t + 4 + 2 + 2) m2.L.length m2 y hy.2.2.2.c).mono (fun e y' h => ⟨h.1, h.2 ▸ hy⟩))
              have CDp := Lib.hid (show ∀ y, (y.cell? ⟨g6, 0, none⟩ = some (.slice AL3 m2.L.length cL3) ∧ y.cell? ⟨g6, 5, none⟩ = some (.int .i64 m2.dep) ∧ y.cell? ⟨g6, 7, none⟩ = some (.int .i64 m2.err) ∧ Pl w y g g6 T2 (4 * t + 4 + 2 + 2) m2 AL3 cL3 AG3 cG3 AF3 cF3 AP3 cP3 AA3 cA3 gl3 pl3 al3 #[.slice AL3 m2.L.length cL3, .slice AG3 gl3.length cG3, .slice AF3 m2.fx.length cF3, .slice AP3 pl3.length cP3, .slice AA3 al3.length cA3, .int .i64 m2.dep, .int .i64 m2.most, .int .i64 m2.err] Aw cw lw Ak ck lk) → Calls Tryd.prog 25 #[.pointer (some ⟨g, 0, none⟩)] y (fun e y' => e = .returned (.int .i64 m2.dep) ∧ (y'.cell? ⟨g6, 0, none⟩ = some (.slice AL3 m2.L.length cL3) ∧ y'.cell? ⟨g6, 5, none⟩ = some (.int .i64 m2.dep) ∧ y'.cell? ⟨g6, 7, none⟩ = some (.int .i64 m2.err) ∧ Pl w y' g g6 T2 (4 * t + 4 + 2 + 2) m2 AL3 cL3 AG3 cG3 AF3 cF3 AP3 cP3 AA3 cA3 gl3 pl3 al3 #[.slice AL3 m2.L.length cL3, .slice AG3 gl3.length cG3, .slice AF3 m2.fx.length cF3, .slice AP3 pl3.length cP3, .slice AA3 al3.length cA3, .int .i64 m2.dep, .int .i64 m2.most, .int .i64 m2.err] Aw cw lw Ak ck lk)) from fun y hy => (depth_any w.heap.size g T2 (4 * t + 4 + 2 + 2) m2.L.length m2 y hy.2.2.2.c).mono (fun e y' h => ⟨h.1, h.2 ▸ hy⟩))
              have CE := Lib.hid (show ∀ y, (y.cell? ⟨g6, 0, none⟩ = some (.slice AL3 m2.L.length cL3) ∧ y.cell? ⟨g6, 5, none⟩ = some (.int .i64 m2.dep) ∧ y.cell? ⟨g6, 7, none⟩ = some (.int .i64 m2.err) ∧ Pl w y g g6 T2 (4 * t + 4 + 2 + 2) m2 AL3 cL3 AG3 cG3 AF3 cF3 AP3 cP3 AA3 cA3 gl3 pl3 al3 #[.slice AL3 m2.L.length cL3, .slice AG3 gl3.length cG3, .slice AF3 m2.fx.length cF3, .slice AP3 pl3.length cP3, .slice AA3 al3.length cA3, .int .i64 m2.dep, .int .i64 m2.most, .int .i64 m2.err] Aw cw lw Ak ck lk) → Calls Tryd.prog 26 #[.pointer (some ⟨g, 0, none⟩)] y (fun e y' => e = .returned (.int .i64 m2.err) ∧ (y'.cell? ⟨g6, 0, none⟩ = some (.slice AL3 m2.L.length cL3) ∧ y'.cell? ⟨g6, 5, none⟩ = some (.int .i64 m2.dep) ∧ y'.cell? ⟨g6, 7, none⟩ = some (.int .i64 m2.err) ∧ Pl w y' g g6 T2 (4 * t + 4 + 2 + 2) m2 AL3 cL3 AG3 cG3 AF3 cF3 AP3 cP3 AA3 cA3 gl3 pl3 al3 #[.slice AL3 m2.L.length cL3, .slice AG3 gl3.length cG3, .slice AF3 m2.fx.length cF3, .slice AP3 pl3.length cP3, .slice AA3 al3.length cA3, .int .i64 m2.dep, .int .i64 m2.most, .int .i64 m2.err] Aw cw lw Ak ck lk)) from fun y hy => (err_any w.heap.size g T2 (4 * t + 4 + 2 + 2) m2.L.length m2 y hy.2.2.2.c).mono (fun e y' h => ⟨h.1, h.2 ▸ hy⟩))
              have L0 : y3.drew.cell? ⟨g6, 0, none⟩ = some (.slice AL3 m2.L.length cL3) ∧ y3.drew.cell? ⟨g6, 5, none⟩ = some (.int .i64 m2.dep) ∧ y3.drew.cell? ⟨g6, 7, none⟩ = some (.int .i64 m2.err) ∧ Pl w y3.drew g g6 T2 (4 * t + 4 + 2 + 2) m2 AL3 cL3 AG3 cG3 AF3 cF3 AP3 cP3 AA3 cA3 gl3 pl3 al3 #[.slice AL3 m2.L.length cL3, .slice AG3 gl3.length cG3, .slice AF3 m2.fx.length cF3, .slice AP3 pl3.length cP3, .slice AA3 al3.length cA3, .int .i64 m2.dep, .int .i64 m2.most, .int .i64 m2.err] Aw cw lw Ak ck lk := ⟨HP.out.x6.cell 0, HP.out.x6.cell 5, HP.out.x6.cell 7, HP.out.below (Below.refl _ _).drew⟩
              go_wp2_with fail
              clear HP
              go_region_held3 (fun y => y.cell? ⟨g6, 0, none⟩ = some (.slice AL3 m2.L.length cL3) ∧ y.cell? ⟨g6, 5, none⟩ = some (.int .i64 m2.dep) ∧ y.cell? ⟨g6, 7, none⟩ = some (.int .i64 m2.err) ∧ Pl w y g g6 T2 (4 * t + 4 + 2 + 2) m2 AL3 cL3 AG3 cG3 AF3 cF3 AP3 cP3 AA3 cA3 gl3 pl3 al3 #[.slice AL3 m2.L.length cL3, .slice AG3 gl3.length cG3, .slice AF3 m2.fx.length cF3, .slice AP3 pl3.length cP3, .slice AA3 al3.length cA3, .int .i64 m2.dep, .int .i64 m2.most, .int .i64 m2.err] Aw cw lw Ak ck lk)
                (first
                  | with_reducible assumption
                  | with_reducible exact L0
                  | fail)
                (first
                  | (go_at_call 17; refine (CH.out _ (by assumption)).mono ?_; rintro e y0 ⟨rfl, hs0⟩)
                  | (go_at_call 25; refine (CDp.out _ (by assumption)).mono ?_; rintro e y1 ⟨rfl, hs1⟩)
                  | (go_at_call 26; refine (CE.out _ (by assumption)).mono ?_; rintro e y2 ⟨rfl, hs2⟩))
              have HP := Lib.hid hs2.2.2.2
              clear hs0 hs1 hs2 L0 CH CDp CE
              try clear hHeld
              go_wp2_with fail
              go_roundw
              case rel => exact ⟨t + 1, hd, T2, m2, AL3, cL3, AG3, cG3, AF3, cF3, AP3, cP3, AA3, cA3, gl3, pl3, al3, Aw, cw, lw, Ak, ck, lk, by omega, by omega, by go_num, rfl, by omega, by omega, rfl, rfl, HP.out.more (by omega)⟩
              case measure => simp [intOf]; omega
            case pos =>
              have d2 : decide (hd + 2 ≤ (t : Int)) = true := decide_eq_true hq
              have SH := Lib.hid (show_any (.slice Aw lw.length cw) lw w.heap.size g T2 (4 * t + 4 + 2 + 2) m2.L.length m2 y3 HP.out.c (by omega) (HP.out.fw.less (fun b hb => .inl hb)) HP.out.nw)
              go_wp2_with fail
              refine SH.out.mono ?_
              rintro e y4 ⟨rfl, T4, hc, hk, ht4⟩
              have HP := Lib.hid (HP.out.call hc hk ht4)
              have q4 : y4.cell? ⟨g6, 4, none⟩ = some (.slice AA3 al3.length cA3) := HP.out.x6.cell 4
              have qf : y4.frozen? ⟨g6, 4, none⟩ = false := HP.out.x6.free 4
              have HP := Lib.hid (show Pl w (y4.setCell ⟨g6, 4, none⟩ (.slice Ak lk.length ck)) g g6 T4 (4 * t + 4 + 2 + 2) m2 AL3 cL3 AG3 cG3 AF3 cF3 AP3 cP3 Ak ck gl3 pl3 lk #[.slice AL3 m2.L.length cL3, .slice AG3 gl3.length cG3, .slice AF3 m2.fx.length cF3, .slice AP3 pl3.length cP3, .slice Ak lk.length ck, .int .i64 m2.dep, .int .i64 m2.most, .int .i64 m2.err] Aw cw lw Ak ck lk from by
                have h9 := HP.out.cell 4 (.slice Ak lk.length ck)
                exact h9.active h9.fk h9.nk)
              clear hc hk ht4 SH
              have CH := Lib.hid (show ∀ y, (y.cell? ⟨g6, 0, none⟩ = some (.slice AL3 m2.L.length cL3) ∧ y.cell? ⟨g6, 5, none⟩ = some (.int .i64 m2.dep) ∧ y.cell? ⟨g6, 7, none⟩ = some (.int .i64 m2.err) ∧ Pl w y g g6 T4 (4 * t + 4 + 2 + 2) m2 AL3 cL3 AG3 cG3 AF3 cF3 AP3 cP3 Ak ck gl3 pl3 lk #[.slice AL3 m2.L.length cL3, .slice AG3 gl3.length cG3, .slice AF3 m2.fx.length cF3, .slice AP3 pl3.length cP3, .slice Ak lk.length ck, .int .i64 m2.dep, .int .i64 m2.most, .int .i64 m2.err] Aw cw lw Ak ck lk) → Calls Tryd.prog 17 #[.pointer (some ⟨g, 0, none⟩)] y (fun e y' => e = .returned (.int .i64 m2.L.length) ∧ (y'.cell? ⟨g6, 0, none⟩ = some (.slice AL3 m2.L.length cL3) ∧ y'.cell? ⟨g6, 5, none⟩ = some (.int .i64 m2.dep) ∧ y'.cell? ⟨g6, 7, none⟩ = some (.int .i64 m2.err) ∧ Pl w y' g g6 T4 (4 * t + 4 + 2 + 2) m2 AL3 cL3 AG3 cG3 AF3 cF3 AP3 cP3 Ak ck gl3 pl3 lk #[.slice AL3 m2.L.length cL3, .slice AG3 gl3.length cG3, .slice AF3 m2.fx.length cF3, .slice AP3 pl3.length cP3, .slice Ak lk.length ck, .int .i64 m2.dep, .int .i64 m2.most, .int .i64 m2.err] Aw cw lw Ak ck lk)) from fun y hy => (here_any w.heap.size g T4 (4 * t + 4 + 2 + 2) m2.L.length m2 y hy.2.2.2.c).mono (fun e y' h => ⟨h.1, h.2 ▸ hy⟩))
              have CDp := Lib.hid (show ∀ y, (y.cell? ⟨g6, 0, none⟩ = some (.slice AL3 m2.L.length cL3) ∧ y.cell? ⟨g6, 5, none⟩ = some (.int .i64 m2.dep) ∧ y.cell? ⟨g6, 7, none⟩ = some (.int .i64 m2.err) ∧ Pl w y g g6 T4 (4 * t + 4 + 2 + 2) m2 AL3 cL3 AG3 cG3 AF3 cF3 AP3 cP3 Ak ck gl3 pl3 lk #[.slice AL3 m2.L.length cL3, .slice AG3 gl3.length cG3, .slice AF3 m2.fx.length cF3, .slice AP3 pl3.length cP3, .slice Ak lk.length ck, .int .i64 m2.dep, .int .i64 m2.most, .int .i64 m2.err] Aw cw lw Ak ck lk) → Calls Tryd.prog 25 #[.pointer (some ⟨g, 0, none⟩)] y (fun e y' => e = .returned (.int .i64 m2.dep) ∧ (y'.cell? ⟨g6, 0, none⟩ = some (.slice AL3 m2.L.length cL3) ∧ y'.cell? ⟨g6, 5, none⟩ = some (.int .i64 m2.dep) ∧ y'.cell? ⟨g6, 7, none⟩ = some (.int .i64 m2.err) ∧ Pl w y' g g6 T4 (4 * t + 4 + 2 + 2) m2 AL3 cL3 AG3 cG3 AF3 cF3 AP3 cP3 Ak ck gl3 pl3 lk #[.slice AL3 m2.L.length cL3, .slice AG3 gl3.length cG3, .slice AF3 m2.fx.length cF3, .slice AP3 pl3.length cP3, .slice Ak lk.length ck, .int .i64 m2.dep, .int .i64 m2.most, .int .i64 m2.err] Aw cw lw Ak ck lk)) from fun y hy => (depth_any w.heap.size g T4 (4 * t + 4 + 2 + 2) m2.L.length m2 y hy.2.2.2.c).mono (fun e y' h => ⟨h.1, h.2 ▸ hy⟩))
              have CE := Lib.hid (show ∀ y, (y.cell? ⟨g6, 0, none⟩ = some (.slice AL3 m2.L.length cL3) ∧ y.cell? ⟨g6, 5, none⟩ = some (.int .i64 m2.dep) ∧ y.cell? ⟨g6, 7, none⟩ = some (.int .i64 m2.err) ∧ Pl w y g g6 T4 (4 * t + 4 + 2 + 2) m2 AL3 cL3 AG3 cG3 AF3 cF3 AP3 cP3 Ak ck gl3 pl3 lk #[.slice AL3 m2.L.length cL3, .slice AG3 gl3.length cG3, .slice AF3 m2.fx.length cF3, .slice AP3 pl3.length cP3, .slice Ak lk.length ck, .int .i64 m2.dep, .int .i64 m2.most, .int .i64 m2.err] Aw cw lw Ak ck lk) → Calls Tryd.prog 26 #[.pointer (some ⟨g, 0, none⟩)] y (fun e y' => e = .returned (.int .i64 m2.err) ∧ (y'.cell? ⟨g6, 0, none⟩ = some (.slice AL3 m2.L.length cL3) ∧ y'.cell? ⟨g6, 5, none⟩ = some (.int .i64 m2.dep) ∧ y'.cell? ⟨g6, 7, none⟩ = some (.int .i64 m2.err) ∧ Pl w y' g g6 T4 (4 * t + 4 + 2 + 2) m2 AL3 cL3 AG3 cG3 AF3 cF3 AP3 cP3 Ak ck gl3 pl3 lk #[.slice AL3 m2.L.length cL3, .slice AG3 gl3.length cG3, .slice AF3 m2.fx.length cF3, .slice AP3 pl3.length cP3, .slice Ak lk.length ck, .int .i64 m2.dep, .int .i64 m2.most, .int .i64 m2.err] Aw cw lw Ak ck lk)) from fun y hy => (err_any w.heap.size g T4 (4 * t + 4 + 2 + 2) m2.L.length m2 y hy.2.2.2.c).mono (fun e y' h => ⟨h.1, h.2 ▸ hy⟩))
              have L0 : (y4.setCell ⟨g6, 4, none⟩ (.slice Ak lk.length ck)).drew.cell? ⟨g6, 0, none⟩ = some (.slice AL3 m2.L.length cL3) ∧ (y4.setCell ⟨g6, 4, none⟩ (.slice Ak lk.length ck)).drew.cell? ⟨g6, 5, none⟩ = some (.int .i64 m2.dep) ∧ (y4.setCell ⟨g6, 4, none⟩ (.slice Ak lk.length ck)).drew.cell? ⟨g6, 7, none⟩ = some (.int .i64 m2.err) ∧ Pl w (y4.setCell ⟨g6, 4, none⟩ (.slice Ak lk.length ck)).drew g g6 T4 (4 * t + 4 + 2 + 2) m2 AL3 cL3 AG3 cG3 AF3 cF3 AP3 cP3 Ak ck gl3 pl3 lk #[.slice AL3 m2.L.length cL3, .slice AG3 gl3.length cG3, .slice AF3 m2.fx.length cF3, .slice AP3 pl3.length cP3, .slice Ak lk.length ck, .int .i64 m2.dep, .int .i64 m2.most, .int .i64 m2.err] Aw cw lw Ak ck lk := ⟨HP.out.x6.cell 0, HP.out.x6.cell 5, HP.out.x6.cell 7, HP.out.below (Below.refl _ _).drew⟩
              go_wp2_with fail
              clear HP
              go_region_held3 (fun y => y.cell? ⟨g6, 0, none⟩ = some (.slice AL3 m2.L.length cL3) ∧ y.cell? ⟨g6, 5, none⟩ = some (.int .i64 m2.dep) ∧ y.cell? ⟨g6, 7, none⟩ = some (.int .i64 m2.err) ∧ Pl w y g g6 T4 (4 * t + 4 + 2 + 2) m2 AL3 cL3 AG3 cG3 AF3 cF3 AP3 cP3 Ak ck gl3 pl3 lk #[.slice AL3 m2.L.length cL3, .slice AG3 gl3.length cG3, .slice AF3 m2.fx.length cF3, .slice AP3 pl3.length cP3, .slice Ak lk.length ck, .int .i64 m2.dep, .int .i64 m2.most, .int .i64 m2.err] Aw cw lw Ak ck lk)
                (first
                  | with_reducible assumption
                  | with_reducible exact L0
                  | fail)
                (first
                  | (go_at_call 17; refine (CH.out _ (by assumption)).mono ?_; rintro e y0 ⟨rfl, hs0⟩)
                  | (go_at_call 25; refine (CDp.out _ (by assumption)).mono ?_; rintro e y1 ⟨rfl, hs1⟩)
                  | (go_at_call 26; refine (CE.out _ (by assumption)).mono ?_; rintro e y2 ⟨rfl, hs2⟩))
              have HP := Lib.hid hs2.2.2.2
              clear hs0 hs1 hs2 L0 CH CDp CE
              try clear hHeld
              go_wp2_with fail
              go_roundw
              case rel => exact ⟨t + 1, (-1), T4, m2, AL3, cL3, AG3, cG3, AF3, cF3, AP3, cP3, Ak, ck, gl3, pl3, lk, Aw, cw, lw, Ak, ck, lk, by omega, by omega, by go_num, rfl, by omega, by omega, rfl, rfl, HP.out.more (by omega)⟩
              case measure => simp [intOf]; omega

        case pos =>
          have dk : (o.k == 14) = true := beq_iff_eq.2 hk
          clear hk
          have NG := Lib.hid (show wr.heap.size ≠ g6 from fun e => by
            have := HP0.out.x6.lt
            omega)
          by_cases hh0 : hd < 0
          case pos =>
            have dh : decide (hd < 0) = true := decide_eq_true hh0
            obtain ⟨o0, o1, o2, o3, o4, o5, o6, o7, o8, o9⟩ := cells10 XO.out
            simp only []
            go_at_K
            go_wp2_with fail
            have L0 : y.drew.cell? ⟨g6, 4, none⟩ = some (.slice AA al.length cA) := HP.out.x6.cell 4
            have HP := Lib.hid (HP.out.below (Below.refl _ _).drew)
            have XO := Lib.hid (XO.out.below (Below.refl y.heap.size y).drew XO.out.lt)
            have HDE := Lib.hid (hide_any w.heap.size g T (4 * t + 4) m.L.length m y.drew HP.out.c (by omega))
            clear o0 o1 o2 o3 o4 o5 o6 o7 o8 o9
            refine wp_region_noPanic ?_
            refine region_T (S := fun y => y.cell? ⟨g6, 4, none⟩ = some (.slice AA al.length cA)) 5 (by kernel_rfl) L0 (fun hHeld => ?_)
            refine anyT_take (i := 0) (oi := _) (v := .pointer (some ⟨g, 0, none⟩)) rfl (by kernel_rfl) (by kernel_rfl) (by kernel_rfl) (by kernel_rfl) (fun _ _ _ h => h) (Or.inl ⟨by rfl, fun w hSw => by (try dsimp only at hSw); go_simp⟩) (by assumption) ?_
            try simp only [Act.put, List.setIfInBounds_toArray, List.set_cons_zero, List.set_cons_succ]
            refine anyT_take (i := 2) (oi := _) (v := .pointer (some ⟨g6, 4, none⟩)) rfl (by kernel_rfl) (by kernel_rfl) (by kernel_rfl) (by kernel_rfl) (fun _ _ _ h => h) (Or.inl ⟨by rfl, fun w hSw => by (try dsimp only at hSw); go_simp⟩) (by assumption) ?_
            try simp only [Act.put, List.setIfInBounds_toArray, List.set_cons_zero, List.set_cons_succ]
            refine anyT_take (i := 3) (oi := _) (v := .slice AA al.length cA) rfl (by kernel_rfl) (by kernel_rfl) (by kernel_rfl) (by kernel_rfl) (fun _ _ _ h => h) (Or.inl ⟨by rfl, fun w hSw => by (try dsimp only at hSw); go_simp⟩) (by assumption) ?_
            try simp only [Act.put, List.setIfInBounds_toArray, List.set_cons_zero, List.set_cons_succ]
            clear L0
            refine anyT_ready (rs := [1]) (by kernel_rfl) (by simp) (ReadyT.cons (o := _) rfl (fun K hK => ?_) ReadyT.nil)
            go_simp
            go_at_call 21
            refine (HDE.out).mono ?_
            rintro e y1 ⟨vh, lh, Th, rfl, hc, hk, ht, hf, hlh⟩
            obtain ⟨Ah, ch, rfl⟩ := row_form hf.1
            have HP := Lib.hid (HP.out.call hc hk ht)
            have XO := Lib.hid (hk.whole XO.out NO.out)
            have NO := Lib.hid (show ¬ Th wr.heap.size from fun e => by
              rcases ht _ e with h | h
              · exact NO.out h
              · have := GO.out
                have : y.drew.heap.size = y.heap.size := rfl
                omega)
            have GO := Lib.hid (show wr.heap.size < y1.heap.size from XO.out.lt)
            have HFH := Lib.hid hf
            have HLH := Lib.hid hlh
            have S1 : y1.cell? ⟨g6, 4, none⟩ = some (.slice AA al.length cA) := HP.out.x6.cell 4
            clear hc hk ht hf hlh HDE
            refine hK.out _ _ S1 (fun hHeld => ?_)
            clear hK K
            try simp only [Act.put, List.setIfInBounds_toArray, List.set_cons_zero, List.set_cons_succ]
            refine anyT_ready (rs := [4]) (by kernel_rfl) (by simp) (ReadyT.cons (o := _) rfl (fun K hK => ?_) ReadyT.nil)
            go_simp
            refine hK.out _ _ S1 (fun hHeld => ?_)
            clear hK K
            try simp only [Act.put, List.setIfInBounds_toArray, List.set_cons_zero, List.set_cons_succ]
            refine anyT_ready (rs := [5]) (by kernel_rfl) (by simp) (ReadyT.last (o := _) rfl (fun K hK => ?_))
            go_simp
            refine hK.out _ _ trivial (fun _ => ?_)
            clear hK K
            try simp only [Act.put, List.setIfInBounds_toArray, List.set_cons_zero, List.set_cons_succ]
            refine anyT_done (by kernel_rfl) ?_ _
            refine NoPanic.normal ?_
            have qf : y1.frozen? ⟨g6, 4, none⟩ = false := HP.out.x6.free 4
            have HP := Lib.hid (show Pl w (y1.setCell ⟨g6, 4, none⟩ (.slice none 0 0)) g g6 Th (4 * t + 4) m AL cL AG cG AF cF AP cP none 0 gl pl [] #[.slice AL m.L.length cL, .slice AG gl.length cG, .slice AF m.fx.length cF, .slice AP pl.length cP, .slice none 0 0, .int .i64 m.dep, .int .i64 m.most, .int .i64 m.err] Ah ch lh AA cA al from by
              have h8 := HP.out
              have h9 := h8.cell 4 (.slice none 0 0)
              have K : KeptS (fun b => b = g6) y1 (y1.setCell ⟨g6, 4, none⟩ (.slice none 0 0)) := KeptS.set rfl
              have hw := HFH.out.withX h8.x3 h8.x6 (by decide)
              exact (h9.active (A2 := none) (c2 := 0) (l2 := []) (FarR.nil _ _ _ _) (Nat.zero_le _)).was (hw.later K (fun b hb e => hw.2 b hb (.inr (.inr e)))) HLH.out (h8.r.fA.later K (fun b hb e => h8.r.fA.2 b hb (.inr (.inr e)))) h8.r.la)
            obtain ⟨AN, cN, lN, hPN⟩ : ∃ (AN : Option Addr) (cN : Nat) (lN : List Int), Pl w (y1.setCell ⟨g6, 4, none⟩ (.slice none 0 0)) g g6 Th (4 * t + 4) m AL cL AG cG AF cF AP cP AN cN gl pl lN #[.slice AL m.L.length cL, .slice AG gl.length cG, .slice AF m.fx.length cF, .slice AP pl.length cP, .slice AN lN.length cN, .int .i64 m.dep, .int .i64 m.most, .int .i64 m.err] Ah ch lh AA cA al := ⟨none, 0, [], HP.out⟩
            have HP := Lib.hid hPN
            clear hPN
            have XO := Lib.hid (XO.out.far (p := ⟨g6, 4, none⟩) (fun e => NG.out e) (.slice none 0 0))
            have GO := Lib.hid (show wr.heap.size < (y1.setCell ⟨g6, 4, none⟩ (.slice none 0 0)).heap.size from XO.out.lt)
            obtain ⟨o0, o1, o2, o3, o4, o5, o6, o7, o8, o9⟩ := cells10 XO.out
            go_wp2_with fail
            clear S1 qf o0 o1 o2 o3 o4 o5 o6 o7 o8 o9 HFH HLH
            generalize (y1.setCell ⟨g6, 4, none⟩ (.slice none 0 0)) = yq at *
            have L0 : yq.drew.cell? ⟨g6, 0, none⟩ = some (.slice AL m.L.length cL) ∧ yq.drew.cell? ⟨g6, 1, none⟩ = some (.slice AG gl.length cG) ∧ yq.drew.cell? ⟨g6, 2, none⟩ = some (.slice AF m.fx.length cF) ∧ yq.drew.cell? ⟨g6, 3, none⟩ = some (.slice AP pl.length cP) ∧ yq.drew.cell? ⟨g6, 4, none⟩ = some (.slice AN lN.length cN) ∧ yq.drew.cell? ⟨g6, 5, none⟩ = some (.int .i64 m.dep) ∧ yq.drew.cell? ⟨g6, 6, none⟩ = some (.int .i64 m.most) ∧ yq.drew.cell? ⟨g6, 7, none⟩ = some (.int .i64 m.err) ∧ yq.drew.cell? ⟨wr.heap.size, 0, none⟩ = some (.int .i64 o.k) ∧ yq.drew.cell? ⟨wr.heap.size, 1, none⟩ = some (.int .i64 o.i.op) ∧ yq.drew.cell? ⟨wr.heap.size, 2, none⟩ = some (.int .i64 o.i.a) ∧ yq.drew.cell? ⟨wr.heap.size, 3, none⟩ = some (.int .i64 o.i.b) ∧ yq.drew.cell? ⟨wr.heap.size, 4, none⟩ = some (.int .i64 o.i.c) ∧ yq.drew.cell? ⟨wr.heap.size, 5, none⟩ = some (.int .i64 o.i.n) ∧ yq.drew.cell? ⟨wr.heap.size, 6, none⟩ = some (.int .i64 o.n) ∧ yq.drew.cell? ⟨wr.heap.size, 7, none⟩ = some (.int .i64 o.a) ∧ yq.drew.cell? ⟨wr.heap.size, 8, none⟩ = some (.int .i64 o.b) ∧ yq.drew.cell? ⟨wr.heap.size, 9, none⟩ = some (.int .i64 o.c) := ⟨HP.out.x6.cell 0, HP.out.x6.cell 1, HP.out.x6.cell 2, HP.out.x6.cell 3, HP.out.x6.cell 4, HP.out.x6.cell 5, HP.out.x6.cell 6, HP.out.x6.cell 7, XO.out.cell 0, XO.out.cell 1, XO.out.cell 2, XO.out.cell 3, XO.out.cell 4, XO.out.cell 5, XO.out.cell 6, XO.out.cell 7, XO.out.cell 8, XO.out.cell 9⟩
            have HP := Lib.hid (HP.out.below (Below.refl _ _).drew)
            have XO := Lib.hid (XO.out.below (Below.refl yq.heap.size yq).drew XO.out.lt)
            have WC := Lib.hid (writes_any o.k o.i o.n o.a o.b o.c OI.out.2.1 OI.out.2.2.1 OI.out.2.2.2.2.2 SMO.out.1 SMO.out.2.1 SMO.out.2.2.1 SMO.out.2.2.2 w.heap.size g Th (4 * t + 4) m AL cL AG cG AF cF AP cP AN cN gl pl lN yq.drew HP.out.c (HP.out.r.less (fun b hb => .inl hb)) (by omega))
            refine wp_region_noPanic ?_
            refine region_T (S := fun y => y.cell? ⟨g6, 0, none⟩ = some (.slice AL m.L.length cL) ∧ y.cell? ⟨g6, 1, none⟩ = some (.slice AG gl.length cG) ∧ y.cell? ⟨g6, 2, none⟩ = some (.slice AF m.fx.length cF) ∧ y.cell? ⟨g6, 3, none⟩ = some (.slice AP pl.length cP) ∧ y.cell? ⟨g6, 4, none⟩ = some (.slice AN lN.length cN) ∧ y.cell? ⟨g6, 5, none⟩ = some (.int .i64 m.dep) ∧ y.cell? ⟨g6, 6, none⟩ = some (.int .i64 m.most) ∧ y.cell? ⟨g6, 7, none⟩ = some (.int .i64 m.err) ∧ y.cell? ⟨wr.heap.size, 0, none⟩ = some (.int .i64 o.k) ∧ y.cell? ⟨wr.heap.size, 1, none⟩ = some (.int .i64 o.i.op) ∧ y.cell? ⟨wr.heap.size, 2, none⟩ = some (.int .i64 o.i.a) ∧ y.cell? ⟨wr.heap.size, 3, none⟩ = some (.int .i64 o.i.b) ∧ y.cell? ⟨wr.heap.size, 4, none⟩ = some (.int .i64 o.i.c) ∧ y.cell? ⟨wr.heap.size, 5, none⟩ = some (.int .i64 o.i.n) ∧ y.cell? ⟨wr.heap.size, 6, none⟩ = some (.int .i64 o.n) ∧ y.cell? ⟨wr.heap.size, 7, none⟩ = some (.int .i64 o.a) ∧ y.cell? ⟨wr.heap.size, 8, none⟩ = some (.int .i64 o.b) ∧ y.cell? ⟨wr.heap.size, 9, none⟩ = some (.int .i64 o.c)) 7 (by kernel_rfl) L0 (fun hHeld => ?_)
            refine anyT_take (i := 0) (oi := _) (v := .pointer (some ⟨g, 0, none⟩)) rfl (by kernel_rfl) (by kernel_rfl) (by kernel_rfl) (by kernel_rfl) (fun _ _ _ h => h) (Or.inl ⟨by rfl, fun w hSw => by (try dsimp only at hSw); go_simp⟩) (by assumption) ?_
            try simp only [Act.put, List.setIfInBounds_toArray, List.set_cons_zero, List.set_cons_succ]
            refine anyT_take (i := 1) (oi := _) (v := .pointer (some ⟨g, 0, none⟩)) rfl (by kernel_rfl) (by kernel_rfl) (by kernel_rfl) (by kernel_rfl) (fun _ _ _ h => h) (Or.inl ⟨by rfl, fun w hSw => by (try dsimp only at hSw); go_simp⟩) (by assumption) ?_
            try simp only [Act.put, List.setIfInBounds_toArray, List.set_cons_zero, List.set_cons_succ]
            refine anyT_take (i := 2) (oi := _) (v := .agg #[.slice AL m.L.length cL, .slice AG gl.length cG, .slice AF m.fx.length cF, .slice AP pl.length cP, .slice AN lN.length cN, .int .i64 m.dep, .int .i64 m.most, .int .i64 m.err]) rfl (by kernel_rfl) (by kernel_rfl) (by kernel_rfl) (by kernel_rfl) (fun _ _ _ h => h) (Or.inl ⟨by rfl, fun w hSw => by (try dsimp only at hSw); go_simp⟩) (by assumption) ?_
            try simp only [Act.put, List.setIfInBounds_toArray, List.set_cons_zero, List.set_cons_succ]
            refine anyT_take (i := 3) (oi := _) (v := .agg #[.int .i64 o.k, .int .i64 o.i.op, .int .i64 o.i.a, .int .i64 o.i.b, .int .i64 o.i.c, .int .i64 o.i.n, .int .i64 o.n, .int .i64 o.a, .int .i64 o.b, .int .i64 o.c]) rfl (by kernel_rfl) (by kernel_rfl) (by kernel_rfl) (by kernel_rfl) (fun _ _ _ h => h) (Or.inl ⟨by rfl, fun w hSw => by (try dsimp only at hSw); go_simp⟩) (by assumption) ?_
            try simp only [Act.put, List.setIfInBounds_toArray, List.set_cons_zero, List.set_cons_succ]
            refine anyT_take (i := 5) (oi := _) (v := .agg #[.int .i64 o.k, .int .i64 o.i.op, .int .i64 o.i.a, .int .i64 o.i.b, .int .i64 o.i.c, .int .i64 o.i.n, .int .i64 o.n, .int .i64 o.a, .int .i64 o.b, .int .i64 o.c]) rfl (by kernel_rfl) (by kernel_rfl) (by kernel_rfl) (by kernel_rfl) (fun _ _ _ h => h) (Or.inl ⟨by rfl, fun w hSw => by (try dsimp only at hSw); go_simp⟩) (by assumption) ?_
            try simp only [Act.put, List.setIfInBounds_toArray, List.set_cons_zero, List.set_cons_succ]
            clear L0
            refine anyT_ready (rs := [4]) (by kernel_rfl) (by simp) (ReadyT.cons (o := _) rfl (fun K hK => ?_) ReadyT.nil)
            go_simp
            go_at_call 23
            refine (WC.out).mono ?_
            rintro e y1 ⟨T1, AL2, cL2, AG2, cG2, AF2, cF2, AP2, cP2, AA2, cA2, gl2, pl2, al2, rfl, hc, hr, hk, ht⟩
            have HP := Lib.hid (HP.out.both hc hr hk ht (show 4 * t + 4 ≤ 4 * t + 4 + 2 by omega))
            have XO := Lib.hid (hk.whole XO.out NO.out)
            have NO := Lib.hid (show ¬ T1 wr.heap.size from fun e => by
              rcases ht _ e with h | h
              · exact NO.out h
              · have := GO.out
                have : yq.drew.heap.size = yq.heap.size := rfl
                omega)
            have GO := Lib.hid (show wr.heap.size < y1.heap.size from XO.out.lt)
            have S1 : y1.cell? ⟨g6, 0, none⟩ = some (.slice AL m.L.length cL) ∧ y1.cell? ⟨g6, 1, none⟩ = some (.slice AG gl.length cG) ∧ y1.cell? ⟨g6, 2, none⟩ = some (.slice AF m.fx.length cF) ∧ y1.cell? ⟨g6, 3, none⟩ = some (.slice AP pl.length cP) ∧ y1.cell? ⟨g6, 4, none⟩ = some (.slice AN lN.length cN) ∧ y1.cell? ⟨g6, 5, none⟩ = some (.int .i64 m.dep) ∧ y1.cell? ⟨g6, 6, none⟩ = some (.int .i64 m.most) ∧ y1.cell? ⟨g6, 7, none⟩ = some (.int .i64 m.err) ∧ y1.cell? ⟨wr.heap.size, 0, none⟩ = some (.int .i64 o.k) ∧ y1.cell? ⟨wr.heap.size, 1, none⟩ = some (.int .i64 o.i.op) ∧ y1.cell? ⟨wr.heap.size, 2, none⟩ = some (.int .i64 o.i.a) ∧ y1.cell? ⟨wr.heap.size, 3, none⟩ = some (.int .i64 o.i.b) ∧ y1.cell? ⟨wr.heap.size, 4, none⟩ = some (.int .i64 o.i.c) ∧ y1.cell? ⟨wr.heap.size, 5, none⟩ = some (.int .i64 o.i.n) ∧ y1.cell? ⟨wr.heap.size, 6, none⟩ = some (.int .i64 o.n) ∧ y1.cell? ⟨wr.heap.size, 7, none⟩ = some (.int .i64 o.a) ∧ y1.cell? ⟨wr.heap.size, 8, none⟩ = some (.int .i64 o.b) ∧ y1.cell? ⟨wr.heap.size, 9, none⟩ = some (.int .i64 o.c) := ⟨HP.out.x6.cell 0, HP.out.x6.cell 1, HP.out.x6.cell 2, HP.out.x6.cell 3, HP.out.x6.cell 4, HP.out.x6.cell 5, HP.out.x6.cell 6, HP.out.x6.cell 7, XO.out.cell 0, XO.out.cell 1, XO.out.cell 2, XO.out.cell 3, XO.out.cell 4, XO.out.cell 5, XO.out.cell 6, XO.out.cell 7, XO.out.cell 8, XO.out.cell 9⟩
            have OC2 := Lib.hid (others_any o.k o.i o.n o.a o.b o.c OI.out.2.1 OI.out.2.2.1 OI.out.2.2.2.2.2 SMO.out.1 SMO.out.2.1 SMO.out.2.2.1 SMO.out.2.2.2 w.heap.size g T1 (4 * t + 4 + 2) (wrM o.k o.i o.n o.a o.b o.c m) AL2 cL2 AG2 cG2 AF2 cF2 AP2 cP2 AA2 cA2 gl2 pl2 al2 y1 HP.out.c (HP.out.r.less (fun b hb => .inl hb)) (by omega))
            clear hc hr hk ht WC
            refine hK.out _ _ S1 (fun hHeld => ?_)
            clear hK K
            try simp only [Act.put, List.setIfInBounds_toArray, List.set_cons_zero, List.set_cons_succ]
            generalize (wrM o.k o.i o.n o.a o.b o.c m) = m1 at *
            refine anyT_ready (rs := [6]) (by kernel_rfl) (by simp) (ReadyT.cons (o := _) rfl (fun K hK => ?_) ReadyT.nil)
            go_simp
            go_at_call 22
            refine (OC2.out).mono ?_
            rintro e y2 ⟨T2, AL3, cL3, AG3, cG3, AF3, cF3, AP3, cP3, AA3, cA3, gl3, pl3, al3, rfl, hc, hr, hk, ht⟩
            have HP := Lib.hid (HP.out.both hc hr hk ht (show 4 * t + 4 + 2 ≤ 4 * t + 4 + 2 + 2 by omega))
            have XO := Lib.hid (hk.whole XO.out NO.out)
            have S2 : y2.cell? ⟨g6, 0, none⟩ = some (.slice AL m.L.length cL) ∧ y2.cell? ⟨g6, 1, none⟩ = some (.slice AG gl.length cG) ∧ y2.cell? ⟨g6, 2, none⟩ = some (.slice AF m.fx.length cF) ∧ y2.cell? ⟨g6, 3, none⟩ = some (.slice AP pl.length cP) ∧ y2.cell? ⟨g6, 4, none⟩ = some (.slice AN lN.length cN) ∧ y2.cell? ⟨g6, 5, none⟩ = some (.int .i64 m.dep) ∧ y2.cell? ⟨g6, 6, none⟩ = some (.int .i64 m.most) ∧ y2.cell? ⟨g6, 7, none⟩ = some (.int .i64 m.err) ∧ y2.cell? ⟨wr.heap.size, 0, none⟩ = some (.int .i64 o.k) ∧ y2.cell? ⟨wr.heap.size, 1, none⟩ = some (.int .i64 o.i.op) ∧ y2.cell? ⟨wr.heap.size, 2, none⟩ = some (.int .i64 o.i.a) ∧ y2.cell? ⟨wr.heap.size, 3, none⟩ = some (.int .i64 o.i.b) ∧ y2.cell? ⟨wr.heap.size, 4, none⟩ = some (.int .i64 o.i.c) ∧ y2.cell? ⟨wr.heap.size, 5, none⟩ = some (.int .i64 o.i.n) ∧ y2.cell? ⟨wr.heap.size, 6, none⟩ = some (.int .i64 o.n) ∧ y2.cell? ⟨wr.heap.size, 7, none⟩ = some (.int .i64 o.a) ∧ y2.cell? ⟨wr.heap.size, 8, none⟩ = some (.int .i64 o.b) ∧ y2.cell? ⟨wr.heap.size, 9, none⟩ = some (.int .i64 o.c) := ⟨HP.out.x6.cell 0, HP.out.x6.cell 1, HP.out.x6.cell 2, HP.out.x6.cell 3, HP.out.x6.cell 4, HP.out.x6.cell 5, HP.out.x6.cell 6, HP.out.x6.cell 7, XO.out.cell 0, XO.out.cell 1, XO.out.cell 2, XO.out.cell 3, XO.out.cell 4, XO.out.cell 5, XO.out.cell 6, XO.out.cell 7, XO.out.cell 8, XO.out.cell 9⟩
            clear hc hr hk ht OC2
            refine hK.out _ _ S2 (fun hHeld => ?_)
            clear hK K
            try simp only [Act.put, List.setIfInBounds_toArray, List.set_cons_zero, List.set_cons_succ]
            generalize (otM o.k o.n o.a o.b o.c m1) = m2 at *
            refine anyT_ready (rs := [7]) (by kernel_rfl) (by simp) (ReadyT.last (o := _) rfl (fun K hK => ?_))
            have H1 := Lib.hid (show (#[.slice AL3 m2.L.length cL3, .slice AG3 gl3.length cG3, .slice AF3 m2.fx.length cF3, .slice AP3 pl3.length cP3, .slice AA3 al3.length cA3, .int .i64 m2.dep, .int .i64 m2.most, .int .i64 m2.err] : Array Value).all (·.oneCell') = true from by simp [Value.oneCell'])
            refine wp_store_row rfT (.tmp 6) (.tmp 52) rfl (g6) #[.slice AL3 m2.L.length cL3, .slice AG3 gl3.length cG3, .slice AF3 m2.fx.length cF3, .slice AP3 pl3.length cP3, .slice AA3 al3.length cA3, .int .i64 m2.dep, .int .i64 m2.most, .int .i64 m2.err] rfl rfl rfT #[.slice AL m.L.length cL, .slice AG gl.length cG, .slice AF m.fx.length cF, .slice AP pl.length cP, .slice AN lN.length cN, .int .i64 m.dep, .int .i64 m.most, .int .i64 m.err] HP.out.x6 S8 rfl H1.out ?_
            have HP := Lib.hid (HP.out.row #[.slice AL3 m2.L.length cL3, .slice AG3 gl3.length cG3, .slice AF3 m2.fx.length cF3, .slice AP3 pl3.length cP3, .slice AA3 al3.length cA3, .int .i64 m2.dep, .int .i64 m2.most, .int .i64 m2.err])
            refine hK.out _ _ trivial (fun _ => ?_)
            clear hK K
            try simp only [Act.put, List.setIfInBounds_toArray, List.set_cons_zero, List.set_cons_succ]
            refine anyT_done (by kernel_rfl) ?_ _
            refine NoPanic.normal ?_
            generalize y2.setRow g6 #[.slice AL3 m2.L.length cL3, .slice AG3 gl3.length cG3, .slice AF3 m2.fx.length cF3, .slice AP3 pl3.length cP3, .slice AA3 al3.length cA3, .int .i64 m2.dep, .int .i64 m2.most, .int .i64 m2.err] = y3 at *
            clear XO NO GO S1 S2 H1 hHeld
            have d1 : decide ((0 : Int) ≤ t) = true := decide_eq_true (by omega)
            have d2 : decide ((t : Int) + 2 ≤ t) = false := decide_eq_false (by omega)
            have CH := Lib.hid (show ∀ y, (y.cell? ⟨g6, 0, none⟩ = some (.slice AL3 m2.L.length cL3) ∧ y.cell? ⟨g6, 5, none⟩ = some (.int .i64 m2.dep) ∧ y.cell? ⟨g6, 7, none⟩ = some (.int .i64 m2.err) ∧ Pl w y g g6 T2 (4 * t + 4 + 2 + 2) m2 AL3 cL3 AG3 cG3 AF3 cF3 AP3 cP3 AA3 cA3 gl3 pl3 al3 #[.slice AL3 m2.L.length cL3, .slice AG3 gl3.length cG3, .slice AF3 m2.fx.length cF3, .slice AP3 pl3.length cP3, .slice AA3 al3.length cA3, .int .i64 m2.dep, .int .i64 m2.most, .int .i64 m2.err] Ah ch lh AA cA al) → Calls Tryd.prog 17 #[.pointer (some ⟨g, 0, none⟩)] y (fun e y' => e = .returned (.int .i64 m2.L.length) ∧ (y'.cell? ⟨g6, 0, none⟩ = some (.slice AL3 m2.L.length cL3) ∧ y'.cell? ⟨g6, 5, none⟩ = some (.int .i64 m2.dep) ∧ y'.cell? ⟨g6, 7, none⟩ = some (.int .i64 m2.err) ∧ Pl w y' g g6 T2 (4 * t + 4 + 2 + 2) m2 AL3 cL3 AG3 cG3 AF3 cF3 AP3 cP3 AA3 cA3 gl3 pl3 al3 #[.slice AL3 m2.L.length cL3, .slice AG3 gl3.length cG3, .slice AF3 m2.fx.length cF3, .slice AP3 pl3.length cP3, .slice AA3 al3.length cA3, .int .i64 m2.dep, .int .i64 m2.most, .int .i64 m2.err] Ah ch lh AA cA al)) from fun y hy => (here_any w.heap.size g T2 (4 * t + 4 + 2 + 2) m2.L.length m2 y hy.2.2.2.c).mono (fun e y' h => ⟨h.1, h.2 ▸ hy⟩))
            have CDp := Lib.hid (show ∀ y, (y.cell? ⟨g6, 0, none⟩ = some (.slice AL3 m2.L.length cL3) ∧ y.cell? ⟨g6, 5, none⟩ = some (.int .i64 m2.dep) ∧ y.cell? ⟨g6, 7, none⟩ = some (.int .i64 m2.err) ∧ Pl w y g g6 T2 (4 * t + 4 + 2 + 2) m2 AL3 cL3 AG3 cG3 AF3 cF3 AP3 cP3 AA3 cA3 gl3 pl3 al3 #[.slice AL3 m2.L.length cL3, .slice AG3 gl3.length cG3, .slice AF3 m2.fx.length cF3, .slice AP3 pl3.length cP3, .slice AA3 al3.length cA3, .int .i64 m2.dep, .int .i64 m2.most, .int .i64 m2.err] Ah ch lh AA cA al) → Calls Tryd.prog 25 #[.pointer (some ⟨g, 0, none⟩)] y (fun e y' => e = .returned (.int .i64 m2.dep) ∧ (y'.cell? ⟨g6, 0, none⟩ = some (.slice AL3 m2.L.length cL3) ∧ y'.cell? ⟨g6, 5, none⟩ = some (.int .i64 m2.dep) ∧ y'.cell? ⟨g6, 7, none⟩ = some (.int .i64 m2.err) ∧ Pl w y' g g6 T2 (4 * t + 4 + 2 + 2) m2 AL3 cL3 AG3 cG3 AF3 cF3 AP3 cP3 AA3 cA3 gl3 pl3 al3 #[.slice AL3 m2.L.length cL3, .slice AG3 gl3.length cG3, .slice AF3 m2.fx.length cF3, .slice AP3 pl3.length cP3, .slice AA3 al3.length cA3, .int .i64 m2.dep, .int .i64 m2.most, .int .i64 m2.err] Ah ch lh AA cA al)) from fun y hy => (depth_any w.heap.size g T2 (4 * t + 4 + 2 + 2) m2.L.length m2 y hy.2.2.2.c).mono (fun e y' h => ⟨h.1, h.2 ▸ hy⟩))
            have CE := Lib.hid (show ∀ y, (y.cell? ⟨g6, 0, none⟩ = some (.slice AL3 m2.L.length cL3) ∧ y.cell? ⟨g6, 5, none⟩ = some (.int .i64 m2.dep) ∧ y.cell? ⟨g6, 7, none⟩ = some (.int .i64 m2.err) ∧ Pl w y g g6 T2 (4 * t + 4 + 2 + 2) m2 AL3 cL3 AG3 cG3 AF3 cF3 AP3 cP3 AA3 cA3 gl3 pl3 al3 #[.slice AL3 m2.L.length cL3, .slice AG3 gl3.length cG3, .slice AF3 m2.fx.length cF3, .slice AP3 pl3.length cP3, .slice AA3 al3.length cA3, .int .i64 m2.dep, .int .i64 m2.most, .int .i64 m2.err] Ah ch lh AA cA al) → Calls Tryd.prog 26 #[.pointer (some ⟨g, 0, none⟩)] y (fun e y' => e = .returned (.int .i64 m2.err) ∧ (y'.cell? ⟨g6, 0, none⟩ = some (.slice AL3 m2.L.length cL3) ∧ y'.cell? ⟨g6, 5, none⟩ = some (.int .i64 m2.dep) ∧ y'.cell? ⟨g6, 7, none⟩ = some (.int .i64 m2.err) ∧ Pl w y' g g6 T2 (4 * t + 4 + 2 + 2) m2 AL3 cL3 AG3 cG3 AF3 cF3 AP3 cP3 AA3 cA3 gl3 pl3 al3 #[.slice AL3 m2.L.length cL3, .slice AG3 gl3.length cG3, .slice AF3 m2.fx.length cF3, .slice AP3 pl3.length cP3, .slice AA3 al3.length cA3, .int .i64 m2.dep, .int .i64 m2.most, .int .i64 m2.err] Ah ch lh AA cA al)) from fun y hy => (err_any w.heap.size g T2 (4 * t + 4 + 2 + 2) m2.L.length m2 y hy.2.2.2.c).mono (fun e y' h => ⟨h.1, h.2 ▸ hy⟩))
            have L0 : y3.drew.cell? ⟨g6, 0, none⟩ = some (.slice AL3 m2.L.length cL3) ∧ y3.drew.cell? ⟨g6, 5, none⟩ = some (.int .i64 m2.dep) ∧ y3.drew.cell? ⟨g6, 7, none⟩ = some (.int .i64 m2.err) ∧ Pl w y3.drew g g6 T2 (4 * t + 4 + 2 + 2) m2 AL3 cL3 AG3 cG3 AF3 cF3 AP3 cP3 AA3 cA3 gl3 pl3 al3 #[.slice AL3 m2.L.length cL3, .slice AG3 gl3.length cG3, .slice AF3 m2.fx.length cF3, .slice AP3 pl3.length cP3, .slice AA3 al3.length cA3, .int .i64 m2.dep, .int .i64 m2.most, .int .i64 m2.err] Ah ch lh AA cA al := ⟨HP.out.x6.cell 0, HP.out.x6.cell 5, HP.out.x6.cell 7, HP.out.below (Below.refl _ _).drew⟩
            go_wp2_with fail
            clear HP
            go_region_held3 (fun y => y.cell? ⟨g6, 0, none⟩ = some (.slice AL3 m2.L.length cL3) ∧ y.cell? ⟨g6, 5, none⟩ = some (.int .i64 m2.dep) ∧ y.cell? ⟨g6, 7, none⟩ = some (.int .i64 m2.err) ∧ Pl w y g g6 T2 (4 * t + 4 + 2 + 2) m2 AL3 cL3 AG3 cG3 AF3 cF3 AP3 cP3 AA3 cA3 gl3 pl3 al3 #[.slice AL3 m2.L.length cL3, .slice AG3 gl3.length cG3, .slice AF3 m2.fx.length cF3, .slice AP3 pl3.length cP3, .slice AA3 al3.length cA3, .int .i64 m2.dep, .int .i64 m2.most, .int .i64 m2.err] Ah ch lh AA cA al)
              (first
                | with_reducible assumption
                | with_reducible exact L0
                | fail)
              (first
                | (go_at_call 17; refine (CH.out _ (by assumption)).mono ?_; rintro e y0 ⟨rfl, hs0⟩)
                | (go_at_call 25; refine (CDp.out _ (by assumption)).mono ?_; rintro e y1 ⟨rfl, hs1⟩)
                | (go_at_call 26; refine (CE.out _ (by assumption)).mono ?_; rintro e y2 ⟨rfl, hs2⟩))
            have HP := Lib.hid hs2.2.2.2
            clear hs0 hs1 hs2 L0 CH CDp CE
            try clear hHeld
            go_wp2_with fail
            go_roundw
            case rel => exact ⟨t + 1, (t : Int), T2, m2, AL3, cL3, AG3, cG3, AF3, cF3, AP3, cP3, AA3, cA3, gl3, pl3, al3, Ah, ch, lh, AA, cA, al, by omega, by omega, by go_num, rfl, by omega, by omega, rfl, rfl, HP.out.more (by omega)⟩
            case measure => simp [intOf]; omega

          case neg =>
            have dh : decide (hd < 0) = false := decide_eq_false hh0
            clear hh0
            obtain ⟨o0, o1, o2, o3, o4, o5, o6, o7, o8, o9⟩ := cells10 XO.out
            simp only []
            go_at_K
            go_wp2_with fail
            clear o0 o1 o2 o3 o4 o5 o6 o7 o8 o9
            have L0 : y.drew.cell? ⟨g6, 0, none⟩ = some (.slice AL m.L.length cL) ∧ y.drew.cell? ⟨g6, 1, none⟩ = some (.slice AG gl.length cG) ∧ y.drew.cell? ⟨g6, 2, none⟩ = some (.slice AF m.fx.length cF) ∧ y.drew.cell? ⟨g6, 3, none⟩ = some (.slice AP pl.length cP) ∧ y.drew.cell? ⟨g6, 4, none⟩ = some (.slice AA al.length cA) ∧ y.drew.cell? ⟨g6, 5, none⟩ = some (.int .i64 m.dep) ∧ y.drew.cell? ⟨g6, 6, none⟩ = some (.int .i64 m.most) ∧ y.drew.cell? ⟨g6, 7, none⟩ = some (.int .i64 m.err) ∧ y.drew.cell? ⟨wr.heap.size, 0, none⟩ = some (.int .i64 o.k) ∧ y.drew.cell? ⟨wr.heap.size, 1, none⟩ = some (.int .i64 o.i.op) ∧ y.drew.cell? ⟨wr.heap.size, 2, none⟩ = some (.int .i64 o.i.a) ∧ y.drew.cell? ⟨wr.heap.size, 3, none⟩ = some (.int .i64 o.i.b) ∧ y.drew.cell? ⟨wr.heap.size, 4, none⟩ = some (.int .i64 o.i.c) ∧ y.drew.cell? ⟨wr.heap.size, 5, none⟩ = some (.int .i64 o.i.n) ∧ y.drew.cell? ⟨wr.heap.size, 6, none⟩ = some (.int .i64 o.n) ∧ y.drew.cell? ⟨wr.heap.size, 7, none⟩ = some (.int .i64 o.a) ∧ y.drew.cell? ⟨wr.heap.size, 8, none⟩ = some (.int .i64 o.b) ∧ y.drew.cell? ⟨wr.heap.size, 9, none⟩ = some (.int .i64 o.c) := ⟨HP.out.x6.cell 0, HP.out.x6.cell 1, HP.out.x6.cell 2, HP.out.x6.cell 3, HP.out.x6.cell 4, HP.out.x6.cell 5, HP.out.x6.cell 6, HP.out.x6.cell 7, XO.out.cell 0, XO.out.cell 1, XO.out.cell 2, XO.out.cell 3, XO.out.cell 4, XO.out.cell 5, XO.out.cell 6, XO.out.cell 7, XO.out.cell 8, XO.out.cell 9⟩
            have HP := Lib.hid (HP.out.below (Below.refl _ _).drew)
            have XO := Lib.hid (XO.out.below (Below.refl y.heap.size y).drew XO.out.lt)
            have WC := Lib.hid (writes_any o.k o.i o.n o.a o.b o.c OI.out.2.1 OI.out.2.2.1 OI.out.2.2.2.2.2 SMO.out.1 SMO.out.2.1 SMO.out.2.2.1 SMO.out.2.2.2 w.heap.size g T (4 * t + 4) m AL cL AG cG AF cF AP cP AA cA gl pl al y.drew HP.out.c (HP.out.r.less (fun b hb => .inl hb)) (by omega))
            refine wp_region_noPanic ?_
            refine region_T (S := fun y => y.cell? ⟨g6, 0, none⟩ = some (.slice AL m.L.length cL) ∧ y.cell? ⟨g6, 1, none⟩ = some (.slice AG gl.length cG) ∧ y.cell? ⟨g6, 2, none⟩ = some (.slice AF m.fx.length cF) ∧ y.cell? ⟨g6, 3, none⟩ = some (.slice AP pl.length cP) ∧ y.cell? ⟨g6, 4, none⟩ = some (.slice AA al.length cA) ∧ y.cell? ⟨g6, 5, none⟩ = some (.int .i64 m.dep) ∧ y.cell? ⟨g6, 6, none⟩ = some (.int .i64 m.most) ∧ y.cell? ⟨g6, 7, none⟩ = some (.int .i64 m.err) ∧ y.cell? ⟨wr.heap.size, 0, none⟩ = some (.int .i64 o.k) ∧ y.cell? ⟨wr.heap.size, 1, none⟩ = some (.int .i64 o.i.op) ∧ y.cell? ⟨wr.heap.size, 2, none⟩ = some (.int .i64 o.i.a) ∧ y.cell? ⟨wr.heap.size, 3, none⟩ = some (.int .i64 o.i.b) ∧ y.cell? ⟨wr.heap.size, 4, none⟩ = some (.int .i64 o.i.c) ∧ y.cell? ⟨wr.heap.size, 5, none⟩ = some (.int .i64 o.i.n) ∧ y.cell? ⟨wr.heap.size, 6, none⟩ = some (.int .i64 o.n) ∧ y.cell? ⟨wr.heap.size, 7, none⟩ = some (.int .i64 o.a) ∧ y.cell? ⟨wr.heap.size, 8, none⟩ = some (.int .i64 o.b) ∧ y.cell? ⟨wr.heap.size, 9, none⟩ = some (.int .i64 o.c)) 7 (by kernel_rfl) L0 (fun hHeld => ?_)
            refine anyT_take (i := 0) (oi := _) (v := .pointer (some ⟨g, 0, none⟩)) rfl (by kernel_rfl) (by kernel_rfl) (by kernel_rfl) (by kernel_rfl) (fun _ _ _ h => h) (Or.inl ⟨by rfl, fun w hSw => by (try dsimp only at hSw); go_simp⟩) (by assumption) ?_
            try simp only [Act.put, List.setIfInBounds_toArray, List.set_cons_zero, List.set_cons_succ]
            refine anyT_take (i := 1) (oi := _) (v := .pointer (some ⟨g, 0, none⟩)) rfl (by kernel_rfl) (by kernel_rfl) (by kernel_rfl) (by kernel_rfl) (fun _ _ _ h => h) (Or.inl ⟨by rfl, fun w hSw => by (try dsimp only at hSw); go_simp⟩) (by assumption) ?_
            try simp only [Act.put, List.setIfInBounds_toArray, List.set_cons_zero, List.set_cons_succ]
            refine anyT_take (i := 2) (oi := _) (v := .agg #[.slice AL m.L.length cL, .slice AG gl.length cG, .slice AF m.fx.length cF, .slice AP pl.length cP, .slice AA al.length cA, .int .i64 m.dep, .int .i64 m.most, .int .i64 m.err]) rfl (by kernel_rfl) (by kernel_rfl) (by kernel_rfl) (by kernel_rfl) (fun _ _ _ h => h) (Or.inl ⟨by rfl, fun w hSw => by (try dsimp only at hSw); go_simp⟩) (by assumption) ?_
            try simp only [Act.put, List.setIfInBounds_toArray, List.set_cons_zero, List.set_cons_succ]
            refine anyT_take (i := 3) (oi := _) (v := .agg #[.int .i64 o.k, .int .i64 o.i.op, .int .i64 o.i.a, .int .i64 o.i.b, .int .i64 o.i.c, .int .i64 o.i.n, .int .i64 o.n, .int .i64 o.a, .int .i64 o.b, .int .i64 o.c]) rfl (by kernel_rfl) (by kernel_rfl) (by kernel_rfl) (by kernel_rfl) (fun _ _ _ h => h) (Or.inl ⟨by rfl, fun w hSw => by (try dsimp only at hSw); go_simp⟩) (by assumption) ?_
            try simp only [Act.put, List.setIfInBounds_toArray, List.set_cons_zero, List.set_cons_succ]
            refine anyT_take (i := 5) (oi := _) (v := .agg #[.int .i64 o.k, .int .i64 o.i.op, .int .i64 o.i.a, .int .i64 o.i.b, .int .i64 o.i.c, .int .i64 o.i.n, .int .i64 o.n, .int .i64 o.a, .int .i64 o.b, .int .i64 o.c]) rfl (by kernel_rfl) (by kernel_rfl) (by kernel_rfl) (by kernel_rfl) (fun _ _ _ h => h) (Or.inl ⟨by rfl, fun w hSw => by (try dsimp only at hSw); go_simp⟩) (by assumption) ?_
            try simp only [Act.put, List.setIfInBounds_toArray, List.set_cons_zero, List.set_cons_succ]
            clear L0
            refine anyT_ready (rs := [4]) (by kernel_rfl) (by simp) (ReadyT.cons (o := _) rfl (fun K hK => ?_) ReadyT.nil)
            go_simp
            go_at_call 23
            refine (WC.out).mono ?_
            rintro e y1 ⟨T1, AL2, cL2, AG2, cG2, AF2, cF2, AP2, cP2, AA2, cA2, gl2, pl2, al2, rfl, hc, hr, hk, ht⟩
            have HP := Lib.hid (HP.out.both hc hr hk ht (show 4 * t + 4 ≤ 4 * t + 4 + 2 by omega))
            have XO := Lib.hid (hk.whole XO.out NO.out)
            have NO := Lib.hid (show ¬ T1 wr.heap.size from fun e => by
              rcases ht _ e with h | h
              · exact NO.out h
              · have := GO.out
                have : y.drew.heap.size = y.heap.size := rfl
                omega)
            have GO := Lib.hid (show wr.heap.size < y1.heap.size from XO.out.lt)
            have S1 : y1.cell? ⟨g6, 0, none⟩ = some (.slice AL m.L.length cL) ∧ y1.cell? ⟨g6, 1, none⟩ = some (.slice AG gl.length cG) ∧ y1.cell? ⟨g6, 2, none⟩ = some (.slice AF m.fx.length cF) ∧ y1.cell? ⟨g6, 3, none⟩ = some (.slice AP pl.length cP) ∧ y1.cell? ⟨g6, 4, none⟩ = some (.slice AA al.length cA) ∧ y1.cell? ⟨g6, 5, none⟩ = some (.int .i64 m.dep) ∧ y1.cell? ⟨g6, 6, none⟩ = some (.int .i64 m.most) ∧ y1.cell? ⟨g6, 7, none⟩ = some (.int .i64 m.err) ∧ y1.cell? ⟨wr.heap.size, 0, none⟩ = some (.int .i64 o.k) ∧ y1.cell? ⟨wr.heap.size, 1, none⟩ = some (.int .i64 o.i.op) ∧ y1.cell? ⟨wr.heap.size, 2, none⟩ = some (.int .i64 o.i.a) ∧ y1.cell? ⟨wr.heap.size, 3, none⟩ = some (.int .i64 o.i.b) ∧ y1.cell? ⟨wr.heap.size, 4, none⟩ = some (.int .i64 o.i.c) ∧ y1.cell? ⟨wr.heap.size, 5, none⟩ = some (.int .i64 o.i.n) ∧ y1.cell? ⟨wr.heap.size, 6, none⟩ = some (.int .i64 o.n) ∧ y1.cell? ⟨wr.heap.size, 7, none⟩ = some (.int .i64 o.a) ∧ y1.cell? ⟨wr.heap.size, 8, none⟩ = some (.int .i64 o.b) ∧ y1.cell? ⟨wr.heap.size, 9, none⟩ = some (.int .i64 o.c) := ⟨HP.out.x6.cell 0, HP.out.x6.cell 1, HP.out.x6.cell 2, HP.out.x6.cell 3, HP.out.x6.cell 4, HP.out.x6.cell 5, HP.out.x6.cell 6, HP.out.x6.cell 7, XO.out.cell 0, XO.out.cell 1, XO.out.cell 2, XO.out.cell 3, XO.out.cell 4, XO.out.cell 5, XO.out.cell 6, XO.out.cell 7, XO.out.cell 8, XO.out.cell 9⟩
            have OC2 := Lib.hid (others_any o.k o.i o.n o.a o.b o.c OI.out.2.1 OI.out.2.2.1 OI.out.2.2.2.2.2 SMO.out.1 SMO.out.2.1 SMO.out.2.2.1 SMO.out.2.2.2 w.heap.size g T1 (4 * t + 4 + 2) (wrM o.k o.i o.n o.a o.b o.c m) AL2 cL2 AG2 cG2 AF2 cF2 AP2 cP2 AA2 cA2 gl2 pl2 al2 y1 HP.out.c (HP.out.r.less (fun b hb => .inl hb)) (by omega))
            clear hc hr hk ht WC
            refine hK.out _ _ S1 (fun hHeld => ?_)
            clear hK K
            try simp only [Act.put, List.setIfInBounds_toArray, List.set_cons_zero, List.set_cons_succ]
            generalize (wrM o.k o.i o.n o.a o.b o.c m) = m1 at *
            refine anyT_ready (rs := [6]) (by kernel_rfl) (by simp) (ReadyT.cons (o := _) rfl (fun K hK => ?_) ReadyT.nil)
            go_simp
            go_at_call 22
            refine (OC2.out).mono ?_
            rintro e y2 ⟨T2, AL3, cL3, AG3, cG3, AF3, cF3, AP3, cP3, AA3, cA3, gl3, pl3, al3, rfl, hc, hr, hk, ht⟩
            have HP := Lib.hid (HP.out.both hc hr hk ht (show 4 * t + 4 + 2 ≤ 4 * t + 4 + 2 + 2 by omega))
            have XO := Lib.hid (hk.whole XO.out NO.out)
            have S2 : y2.cell? ⟨g6, 0, none⟩ = some (.slice AL m.L.length cL) ∧ y2.cell? ⟨g6, 1, none⟩ = some (.slice AG gl.length cG) ∧ y2.cell? ⟨g6, 2, none⟩ = some (.slice AF m.fx.length cF) ∧ y2.cell? ⟨g6, 3, none⟩ = some (.slice AP pl.length cP) ∧ y2.cell? ⟨g6, 4, none⟩ = some (.slice AA al.length cA) ∧ y2.cell? ⟨g6, 5, none⟩ = some (.int .i64 m.dep) ∧ y2.cell? ⟨g6, 6, none⟩ = some (.int .i64 m.most) ∧ y2.cell? ⟨g6, 7, none⟩ = some (.int .i64 m.err) ∧ y2.cell? ⟨wr.heap.size, 0, none⟩ = some (.int .i64 o.k) ∧ y2.cell? ⟨wr.heap.size, 1, none⟩ = some (.int .i64 o.i.op) ∧ y2.cell? ⟨wr.heap.size, 2, none⟩ = some (.int .i64 o.i.a) ∧ y2.cell? ⟨wr.heap.size, 3, none⟩ = some (.int .i64 o.i.b) ∧ y2.cell? ⟨wr.heap.size, 4, none⟩ = some (.int .i64 o.i.c) ∧ y2.cell? ⟨wr.heap.size, 5, none⟩ = some (.int .i64 o.i.n) ∧ y2.cell? ⟨wr.heap.size, 6, none⟩ = some (.int .i64 o.n) ∧ y2.cell? ⟨wr.heap.size, 7, none⟩ = some (.int .i64 o.a) ∧ y2.cell? ⟨wr.heap.size, 8, none⟩ = some (.int .i64 o.b) ∧ y2.cell? ⟨wr.heap.size, 9, none⟩ = some (.int .i64 o.c) := ⟨HP.out.x6.cell 0, HP.out.x6.cell 1, HP.out.x6.cell 2, HP.out.x6.cell 3, HP.out.x6.cell 4, HP.out.x6.cell 5, HP.out.x6.cell 6, HP.out.x6.cell 7, XO.out.cell 0, XO.out.cell 1, XO.out.cell 2, XO.out.cell 3, XO.out.cell 4, XO.out.cell 5, XO.out.cell 6, XO.out.cell 7, XO.out.cell 8, XO.out.cell 9⟩
            clear hc hr hk ht OC2
            refine hK.out _ _ S2 (fun hHeld => ?_)
            clear hK K
            try simp only [Act.put, List.setIfInBounds_toArray, List.set_cons_zero, List.set_cons_succ]
            generalize (otM o.k o.n o.a o.b o.c m1) = m2 at *
            refine anyT_ready (rs := [7]) (by kernel_rfl) (by simp) (ReadyT.last (o := _) rfl (fun K hK => ?_))
            have H1 := Lib.hid (show (#[.slice AL3 m2.L.length cL3, .slice AG3 gl3.length cG3, .slice AF3 m2.fx.length cF3, .slice AP3 pl3.length cP3, .slice AA3 al3.length cA3, .int .i64 m2.dep, .int .i64 m2.most, .int .i64 m2.err] : Array Value).all (·.oneCell') = true from by simp [Value.oneCell'])
            refine wp_store_row rfT (.tmp 6) (.tmp 52) rfl (g6) #[.slice AL3 m2.L.length cL3, .slice AG3 gl3.length cG3, .slice AF3 m2.fx.length cF3, .slice AP3 pl3.length cP3, .slice AA3 al3.length cA3, .int .i64 m2.dep, .int .i64 m2.most, .int .i64 m2.err] rfl rfl rfT #[.slice AL m.L.length cL, .slice AG gl.length cG, .slice AF m.fx.length cF, .slice AP pl.length cP, .slice AA al.length cA, .int .i64 m.dep, .int .i64 m.most, .int .i64 m.err] HP.out.x6 S8 rfl H1.out ?_
            have HP := Lib.hid (HP.out.row #[.slice AL3 m2.L.length cL3, .slice AG3 gl3.length cG3, .slice AF3 m2.fx.length cF3, .slice AP3 pl3.length cP3, .slice AA3 al3.length cA3, .int .i64 m2.dep, .int .i64 m2.most, .int .i64 m2.err])
            refine hK.out _ _ trivial (fun _ => ?_)
            clear hK K
            try simp only [Act.put, List.setIfInBounds_toArray, List.set_cons_zero, List.set_cons_succ]
            refine anyT_done (by kernel_rfl) ?_ _
            refine NoPanic.normal ?_
            generalize y2.setRow g6 #[.slice AL3 m2.L.length cL3, .slice AG3 gl3.length cG3, .slice AF3 m2.fx.length cF3, .slice AP3 pl3.length cP3, .slice AA3 al3.length cA3, .int .i64 m2.dep, .int .i64 m2.most, .int .i64 m2.err] = y3 at *
            clear XO NO GO S1 S2 H1 hHeld
            by_cases hh : 0 ≤ hd
            case neg =>
              have d1 : decide ((0 : Int) ≤ hd) = false := decide_eq_false hh
              have CH := Lib.hid (show ∀ y, (y.cell? ⟨g6, 0, none⟩ = some (.slice AL3 m2.L.length cL3) ∧ y.cell? ⟨g6, 5, none⟩ = some (.int .i64 m2.dep) ∧ y.cell? ⟨g6, 7, none⟩ = some (.int .i64 m2.err) ∧ Pl w y g g6 T2 (4 * t + 4 + 2 + 2) m2 AL3 cL3 AG3 cG3 AF3 cF3 AP3 cP3 AA3 cA3 gl3 pl3 al3 #[.slice AL3 m2.L.length cL3, .slice AG3 gl3.length cG3, .slice AF3 m2.fx.length cF3, .slice AP3 pl3.length cP3, .slice AA3 al3.length cA3, .int .i64 m2.dep, .int .i64 m2.most, .int .i64 m2.err] Aw cw lw Ak ck lk) → Calls Tryd.prog 17 #[.pointer (some ⟨g, 0, none⟩)] y (fun e y' => e = .returned (.int .i64 m2.L.length) ∧ (y'.cell? ⟨g6, 0, none⟩ = some (.slice AL3 m2.L.length cL3) ∧ y'.cell? ⟨g6, 5, none⟩ = some (.int .i64 m2.dep) ∧ y'.cell? ⟨g6, 7, none⟩ = some (.int .i64 m2.err) ∧ Pl w y' g g6 T2 (4 * t + 4 + 2 + 2) m2 AL3 cL3 AG3 cG3 AF3 cF3 AP3 cP3 AA3 cA3 gl3 pl3 al3 #[.slice AL3 m2.L.length cL3, .slice AG3 gl3.length cG3, .slice AF3 m2.fx.length cF3, .slice AP3 pl3.length cP3, .slice AA3 al3.length cA3, .int .i64 m2.dep, .int .i64 m2.most, .int .i64 m2.err] Aw cw lw Ak ck lk)) from fun y hy => (here_any w.heap.size g T2 (4 * t + 4 + 2 + 2) m2.L.length m2 y hy.2.2.2.c).mono (fun e y' h => ⟨h.1, h.2 ▸ hy⟩))
              have CDp := Lib.hid (show ∀ y, (y.cell? ⟨g6, 0, none⟩ = some (.slice AL3 m2.L.length cL3) ∧ y.cell? ⟨g6, 5, none⟩ = some (.int .i64 m2.dep) ∧ y.cell? ⟨g6, 7, none⟩ = some (.int .i64 m2.err) ∧ Pl w y g g6 T2 (4 * t + 4 + 2 + 2) m2 AL3 cL3 AG3 cG3 AF3 cF3 AP3 cP3 AA3 cA3 gl3 pl3 al3 #[.slice AL3 m2.L.length cL3, .slice AG3 gl3.length cG3, .slice AF3 m2.fx.length cF3, .slice AP3 pl3.length cP3, .slice AA3 al3.length cA3, .int .i64 m2.dep, .int .i64 m2.most, .int .i64 m2.err] Aw cw lw Ak ck lk) → Calls Tryd.prog 25 #[.pointer (some ⟨g, 0, none⟩)] y (fun e y' => e = .returned (.int .i64 m2.dep) ∧ (y'.cell? ⟨g6, 0, none⟩ = some (.slice AL3 m2.L.length cL3) ∧ y'.cell? ⟨g6, 5, none⟩ = some (.int .i64 m2.dep) ∧ y'.cell? ⟨g6, 7, none⟩ = some (.int .i64 m2.err) ∧ Pl w y' g g6 T2 (4 * t + 4 + 2 + 2) m2 AL3 cL3 AG3 cG3 AF3 cF3 AP3 cP3 AA3 cA3 gl3 pl3 al3 #[.slice AL3 m2.L.length cL3, .slice AG3 gl3.length cG3, .slice AF3 m2.fx.length cF3, .slice AP3 pl3.length cP3, .slice AA3 al3.length cA3, .int .i64 m2.dep, .int .i64 m2.most, .int .i64 m2.err] Aw cw lw Ak ck lk)) from fun y hy => (depth_any w.heap.size g T2 (4 * t + 4 + 2 + 2) m2.L.length m2 y hy.2.2.2.c).mono (fun e y' h => ⟨h.1, h.2 ▸ hy⟩))
              have CE := Lib.hid (show ∀ y, (y.cell? ⟨g6, 0, none⟩ = some (.slice AL3 m2.L.length cL3) ∧ y.cell? ⟨g6, 5, none⟩ = some (.int .i64 m2.dep) ∧ y.cell? ⟨g6, 7, none⟩ = some (.int .i64 m2.err) ∧ Pl w y g g6 T2 (4 * t + 4 + 2 + 2) m2 AL3 cL3 AG3 cG3 AF3 cF3 AP3 cP3 AA3 cA3 gl3 pl3 al3 #[.slice AL3 m2.L.length cL3, .slice AG3 gl3.length cG3, .slice AF3 m2.fx.length cF3, .slice AP3 pl3.length cP3, .slice AA3 al3.length cA3, .int .i64 m2.dep, .int .i64 m2.most, .int .i64 m2.err] Aw cw lw Ak ck lk) → Calls Tryd.prog 26 #[.pointer (some ⟨g, 0, none⟩)] y (fun e y' => e = .returned (.int .i64 m2.err) ∧ (y'.cell? ⟨g6, 0, none⟩ = some (.slice AL3 m2.L.length cL3) ∧ y'.cell? ⟨g6, 5, none⟩ = some (.int .i64 m2.dep) ∧ y'.cell? ⟨g6, 7, none⟩ = some (.int .i64 m2.err) ∧ Pl w y' g g6 T2 (4 * t + 4 + 2 + 2) m2 AL3 cL3 AG3 cG3 AF3 cF3 AP3 cP3 AA3 cA3 gl3 pl3 al3 #[.slice AL3 m2.L.length cL3, .slice AG3 gl3.length cG3, .slice AF3 m2.fx.length cF3, .slice AP3 pl3.length cP3, .slice AA3 al3.length cA3, .int .i64 m2.dep, .int .i64 m2.most, .int .i64 m2.err] Aw cw lw Ak ck lk)) from fun y hy => (err_any w.heap.size g T2 (4 * t + 4 + 2 + 2) m2.L.length m2 y hy.2.2.2.c).mono (fun e y' h => ⟨h.1, h.2 ▸ hy⟩))
              have L0 : y3.drew.cell? ⟨g6, 0, none⟩ = some (.slice AL3 m2.L.length cL3) ∧ y3.drew.cell? ⟨g6, 5, none⟩ = some (.int .i64 m2.dep) ∧ y3.drew.cell? ⟨g6, 7, none⟩ = some (.int .i64 m2.err) ∧ Pl w y3.drew g g6 T2 (4 * t + 4 + 2 + 2) m2 AL3 cL3 AG3 cG3 AF3 cF3 AP3 cP3 AA3 cA3 gl3 pl3 al3 #[.slice AL3 m2.L.length cL3, .slice AG3 gl3.length cG3, .slice AF3 m2.fx.length cF3, .slice AP3 pl3.length cP3, .slice AA3 al3.length cA3, .int .i64 m2.dep, .int .i64 m2.most, .int .i64 m2.err] Aw cw lw Ak ck lk := ⟨HP.out.x6.cell 0, HP.out.x6.cell 5, HP.out.x6.cell 7, HP.out.below (Below.refl _ _).drew⟩
              go_wp2_with fail
              clear HP
              go_region_held3 (fun y => y.cell? ⟨g6, 0, none⟩ = some (.slice AL3 m2.L.length cL3) ∧ y.cell? ⟨g6, 5, none⟩ = some (.int .i64 m2.dep) ∧ y.cell? ⟨g6, 7, none⟩ = some (.int .i64 m2.err) ∧ Pl w y g g6 T2 (4 * t + 4 + 2 + 2) m2 AL3 cL3 AG3 cG3 AF3 cF3 AP3 cP3 AA3 cA3 gl3 pl3 al3 #[.slice AL3 m2.L.length cL3, .slice AG3 gl3.length cG3, .slice AF3 m2.fx.length cF3, .slice AP3 pl3.length cP3, .slice AA3 al3.length cA3, .int .i64 m2.dep, .int .i64 m2.most, .int .i64 m2.err] Aw cw lw Ak ck lk)
                (first
                  | with_reducible assumption
                  | with_reducible exact L0
                  | fail)
                (first
                  | (go_at_call 17; refine (CH.out _ (by assumption)).mono ?_; rintro e y0 ⟨rfl, hs0⟩)
                  | (go_at_call 25; refine (CDp.out _ (by assumption)).mono ?_; rintro e y1 ⟨rfl, hs1⟩)
                  | (go_at_call 26; refine (CE.out _ (by assumption)).mono ?_; rintro e y2 ⟨rfl, hs2⟩))
              have HP := Lib.hid hs2.2.2.2
              clear hs0 hs1 hs2 L0 CH CDp CE
              try clear hHeld
              go_wp2_with fail
              go_roundw
              case rel => exact ⟨t + 1, hd, T2, m2, AL3, cL3, AG3, cG3, AF3, cF3, AP3, cP3, AA3, cA3, gl3, pl3, al3, Aw, cw, lw, Ak, ck, lk, by omega, by omega, by go_num, rfl, by omega, by omega, rfl, rfl, HP.out.more (by omega)⟩
              case measure => simp [intOf]; omega
            case pos =>
              have d1 : decide ((0 : Int) ≤ hd) = true := decide_eq_true hh
              by_cases hq : hd + 2 ≤ t
              case neg =>
                have d2 : decide (hd + 2 ≤ (t : Int)) = false := decide_eq_false hq
                have CH := Lib.hid (show ∀ y, (y.cell? ⟨g6, 0, none⟩ = some (.slice AL3 m2.L.length cL3) ∧ y.cell? ⟨g6, 5, none⟩ = some (.int .i64 m2.dep) ∧ y.cell? ⟨g6, 7, none⟩ = some (.int .i64 m2.err) ∧ Pl w y g g6 T2 (4 * t + 4 + 2 + 2) m2 AL3 cL3 AG3 cG3 AF3 cF3 AP3 cP3 AA3 cA3 gl3 pl3 al3 #[.slice AL3 m2.L.length cL3, .slice AG3 gl3.length cG3, .slice AF3 m2.fx.length cF3, .slice AP3 pl3.length cP3, .slice AA3 al3.length cA3, .int .i64 m2.dep, .int .i64 m2.most, .int .i64 m2.err] Aw cw lw Ak ck lk) → Calls Tryd.prog 17 #[.pointer (some ⟨g, 0, none⟩)] y (fun e y' => e = .returned (.int .i64 m2.L.length) ∧ (y'.cell? ⟨g6, 0, none⟩ = some (.slice AL3 m2.L.length cL3) ∧ y'.cell? ⟨g6, 5, none⟩ = some (.int .i64 m2.dep) ∧ y'.cell? ⟨g6, 7, none⟩ = some (.int .i64 m2.err) ∧ Pl w y' g g6 T2 (4 * t + 4 + 2 + 2) m2 AL3 cL3 AG3 cG3 AF3 cF3 AP3 cP3 AA3 cA3 gl3 pl3 al3 #[.slice AL3 m2.L.length cL3, .slice AG3 gl3.length cG3, .slice AF3 m2.fx.length cF3, .slice AP3 pl3.length cP3, .slice AA3 al3.length cA3, .int .i64 m2.dep, .int .i64 m2.most, .int .i64 m2.err] Aw cw lw Ak ck lk)) from fun y hy => (here_any w.heap.size g T2 (4 * t + 4 + 2 + 2) m2.L.length m2 y hy.2.2.2.c).mono (fun e y' h => ⟨h.1, h.2 ▸ hy⟩))
                have CDp := Lib.hid (show ∀ y, (y.cell? ⟨g6, 0, none⟩ = some (.slice AL3 m2.L.length cL3) ∧ y.cell? ⟨g6, 5, none⟩ = some (.int .i64 m2.dep) ∧ y.cell? ⟨g6, 7, none⟩ = some (.int .i64 m2.err) ∧ Pl w y g g6 T2 (4 * t + 4 + 2 + 2) m2 AL3 cL3 AG3 cG3 AF3 cF3 AP3 cP3 AA3 cA3 gl3 pl3 al3 #[.slice AL3 m2.L.length cL3, .slice AG3 gl3.length cG3, .slice AF3 m2.fx.length cF3, .slice AP3 pl3.length cP3, .slice AA3 al3.length cA3, .int .i64 m2.dep, .int .i64 m2.most, .int .i64 m2.err] Aw cw lw Ak ck lk) → Calls Tryd.prog 25 #[.pointer (some ⟨g, 0, none⟩)] y (fun e y' => e = .returned (.int .i64 m2.dep) ∧ (y'.cell? ⟨g6, 0, none⟩ = some (.slice AL3 m2.L.length cL3) ∧ y'.cell? ⟨g6, 5, none⟩ = some (.int .i64 m2.dep) ∧ y'.cell? ⟨g6, 7, none⟩ = some (.int .i64 m2.err) ∧ Pl w y' g g6 T2 (4 * t + 4 + 2 + 2) m2 AL3 cL3 AG3 cG3 AF3 cF3 AP3 cP3 AA3 cA3 gl3 pl3 al3 #[.slice AL3 m2.L.length cL3, .slice AG3 gl3.length cG3, .slice AF3 m2.fx.length cF3, .slice AP3 pl3.length cP3, .slice AA3 al3.length cA3, .int .i64 m2.dep, .int .i64 m2.most, .int .i64 m2.err] Aw cw lw Ak ck lk)) from fun y hy => (depth_any w.heap.size g T2 (4 * t + 4 + 2 + 2) m2.L.length m2 y hy.2.2.2.c).mono (fun e y' h => ⟨h.1, h.2 ▸ hy⟩))
                have CE := Lib.hid (show ∀ y, (y.cell? ⟨g6, 0, none⟩ = some (.slice AL3 m2.L.length cL3) ∧ y.cell? ⟨g6, 5, none⟩ = some (.int .i64 m2.dep) ∧ y.cell? ⟨g6, 7, none⟩ = some (.int .i64 m2.err) ∧ Pl w y g g6 T2 (4 * t + 4 + 2 + 2) m2 AL3 cL3 AG3 cG3 AF3 cF3 AP3 cP3 AA3 cA3 gl3 pl3 al3 #[.slice AL3 m2.L.length cL3, .slice AG3 gl3.length cG3, .slice AF3 m2.fx.length cF3, .slice AP3 pl3.length cP3, .slice AA3 al3.length cA3, .int .i64 m2.dep, .int .i64 m2.most, .int .i64 m2.err] Aw cw lw Ak ck lk) → Calls Tryd.prog 26 #[.pointer (some ⟨g, 0, none⟩)] y (fun e y' => e = .returned (.int .i64 m2.err) ∧ (y'.cell? ⟨g6, 0, none⟩ = some (.slice AL3 m2.L.length cL3) ∧ y'.cell? ⟨g6, 5, none⟩ = some (.int .i64 m2.dep) ∧ y'.cell? ⟨g6, 7, none⟩ = some (.int .i64 m2.err) ∧ Pl w y' g g6 T2 (4 * t + 4 + 2 + 2) m2 AL3 cL3 AG3 cG3 AF3 cF3 AP3 cP3 AA3 cA3 gl3 pl3 al3 #[.slice AL3 m2.L.length cL3, .slice AG3 gl3.length cG3, .slice AF3 m2.fx.length cF3, .slice AP3 pl3.length cP3, .slice AA3 al3.length cA3, .int .i64 m2.dep, .int .i64 m2.most, .int .i64 m2.err] Aw cw lw Ak ck lk)) from fun y hy => (err_any w.heap.size g T2 (4 * t + 4 + 2 + 2) m2.L.length m2 y hy.2.2.2.c).mono (fun e y' h => ⟨h.1, h.2 ▸ hy⟩))
                have L0 : y3.drew.cell? ⟨g6, 0, none⟩ = some (.slice AL3 m2.L.length cL3) ∧ y3.drew.cell? ⟨g6, 5, none⟩ = some (.int .i64 m2.dep) ∧ y3.drew.cell? ⟨g6, 7, none⟩ = some (.int .i64 m2.err) ∧ Pl w y3.drew g g6 T2 (4 * t + 4 + 2 + 2) m2 AL3 cL3 AG3 cG3 AF3 cF3 AP3 cP3 AA3 cA3 gl3 pl3 al3 #[.slice AL3 m2.L.length cL3, .slice AG3 gl3.length cG3, .slice AF3 m2.fx.length cF3, .slice AP3 pl3.length cP3, .slice AA3 al3.length cA3, .int .i64 m2.dep, .int .i64 m2.most, .int .i64 m2.err] Aw cw lw Ak ck lk := ⟨HP.out.x6.cell 0, HP.out.x6.cell 5, HP.out.x6.cell 7, HP.out.below (Below.refl _ _).drew⟩
                go_wp2_with fail
                clear HP
                go_region_held3 (fun y => y.cell? ⟨g6, 0, none⟩ = some (.slice AL3 m2.L.length cL3) ∧ y.cell? ⟨g6, 5, none⟩ = some (.int .i64 m2.dep) ∧ y.cell? ⟨g6, 7, none⟩ = some (.int .i64 m2.err) ∧ Pl w y g g6 T2 (4 * t + 4 + 2 + 2) m2 AL3 cL3 AG3 cG3 AF3 cF3 AP3 cP3 AA3 cA3 gl3 pl3 al3 #[.slice AL3 m2.L.length cL3, .slice AG3 gl3.length cG3, .slice AF3 m2.fx.length cF3, .slice AP3 pl3.length cP3, .slice AA3 al3.length cA3, .int .i64 m2.dep, .int .i64 m2.most, .int .i64 m2.err] Aw cw lw Ak ck lk)
                  (first
                    | with_reducible assumption
                    | with_reducible exact L0
                    | fail)
                  (first
                    | (go_at_call 17; refine (CH.out _ (by assumption)).mono ?_; rintro e y0 ⟨rfl, hs0⟩)
                    | (go_at_call 25; refine (CDp.out _ (by assumption)).mono ?_; rintro e y1 ⟨rfl, hs1⟩)
                    | (go_at_call 26; refine (CE.out _ (by assumption)).mono ?_; rintro e y2 ⟨rfl, hs2⟩))
                have HP := Lib.hid hs2.2.2.2
                clear hs0 hs1 hs2 L0 CH CDp CE
                try clear hHeld
                go_wp2_with fail
                go_roundw
                case rel => exact ⟨t + 1, hd, T2, m2, AL3, cL3, AG3, cG3, AF3, cF3, AP3, cP3, AA3, cA3, gl3, pl3, al3, Aw, cw, lw, Ak, ck, lk, by omega, by omega, by go_num, rfl, by omega, by omega, rfl, rfl, HP.out.more (by omega)⟩
                case measure => simp [intOf]; omega
              case pos =>
                have d2 : decide (hd + 2 ≤ (t : Int)) = true := decide_eq_true hq
                have SH := Lib.hid (show_any (.slice Aw lw.length cw) lw w.heap.size g T2 (4 * t + 4 + 2 + 2) m2.L.length m2 y3 HP.out.c (by omega) (HP.out.fw.less (fun b hb => .inl hb)) HP.out.nw)
                go_wp2_with fail
                refine SH.out.mono ?_
                rintro e y4 ⟨rfl, T4, hc, hk, ht4⟩
                have HP := Lib.hid (HP.out.call hc hk ht4)
                have q4 : y4.cell? ⟨g6, 4, none⟩ = some (.slice AA3 al3.length cA3) := HP.out.x6.cell 4
                have qf : y4.frozen? ⟨g6, 4, none⟩ = false := HP.out.x6.free 4
                have HP := Lib.hid (show Pl w (y4.setCell ⟨g6, 4, none⟩ (.slice Ak lk.length ck)) g g6 T4 (4 * t + 4 + 2 + 2) m2 AL3 cL3 AG3 cG3 AF3 cF3 AP3 cP3 Ak ck gl3 pl3 lk #[.slice AL3 m2.L.length cL3, .slice AG3 gl3.length cG3, .slice AF3 m2.fx.length cF3, .slice AP3 pl3.length cP3, .slice Ak lk.length ck, .int .i64 m2.dep, .int .i64 m2.most, .int .i64 m2.err] Aw cw lw Ak ck lk from by
                  have h9 := HP.out.cell 4 (.slice Ak lk.length ck)
                  exact h9.active h9.fk h9.nk)
                clear hc hk ht4 SH
                have CH := Lib.hid (show ∀ y, (y.cell? ⟨g6, 0, none⟩ = some (.slice AL3 m2.L.length cL3) ∧ y.cell? ⟨g6, 5, none⟩ = some (.int .i64 m2.dep) ∧ y.cell? ⟨g6, 7, none⟩ = some (.int .i64 m2.err) ∧ Pl w y g g6 T4 (4 * t + 4 + 2 + 2) m2 AL3 cL3 AG3 cG3 AF3 cF3 AP3 cP3 Ak ck gl3 pl3 lk #[.slice AL3 m2.L.length cL3, .slice AG3 gl3.length cG3, .slice AF3 m2.fx.length cF3, .slice AP3 pl3.length cP3, .slice Ak lk.length ck, .int .i64 m2.dep, .int .i64 m2.most, .int .i64 m2.err] Aw cw lw Ak ck lk) → Calls Tryd.prog 17 #[.pointer (some ⟨g, 0, none⟩)] y (fun e y' => e = .returned (.int .i64 m2.L.length) ∧ (y'.cell? ⟨g6, 0, none⟩ = some (.slice AL3 m2.L.length cL3) ∧ y'.cell? ⟨g6, 5, none⟩ = some (.int .i64 m2.dep) ∧ y'.cell? ⟨g6, 7, none⟩ = some (.int .i64 m2.err) ∧ Pl w y' g g6 T4 (4 * t + 4 + 2 + 2) m2 AL3 cL3 AG3 cG3 AF3 cF3 AP3 cP3 Ak ck gl3 pl3 lk #[.slice AL3 m2.L.length cL3, .slice AG3 gl3.length cG3, .slice AF3 m2.fx.length cF3, .slice AP3 pl3.length cP3, .slice Ak lk.length ck, .int .i64 m2.dep, .int .i64 m2.most, .int .i64 m2.err] Aw cw lw Ak ck lk)) from fun y hy => (here_any w.heap.size g T4 (4 * t + 4 + 2 + 2) m2.L.length m2 y hy.2.2.2.c).mono (fun e y' h => ⟨h.1, h.2 ▸ hy⟩))
                have CDp := Lib.hid (show ∀ y, (y.cell? ⟨g6, 0, none⟩ = some (.slice AL3 m2.L.length cL3) ∧ y.cell? ⟨g6, 5, none⟩ = some (.int .i64 m2.dep) ∧ y.cell? ⟨g6, 7, none⟩ = some (.int .i64 m2.err) ∧ Pl w y g g6 T4 (4 * t + 4 + 2 + 2) m2 AL3 cL3 AG3 cG3 AF3 cF3 AP3 cP3 Ak ck gl3 pl3 lk #[.slice AL3 m2.L.length cL3, .slice AG3 gl3.length cG3, .slice AF3 m2.fx.length cF3, .slice AP3 pl3.length cP3, .slice Ak lk.length ck, .int .i64 m2.dep, .int .i64 m2.most, .int .i64 m2.err] Aw cw lw Ak ck lk) → Calls Tryd.prog 25 #[.pointer (some ⟨g, 0, none⟩)] y (fun e y' => e = .returned (.int .i64 m2.dep) ∧ (y'.cell? ⟨g6, 0, none⟩ = some (.slice AL3 m2.L.length cL3) ∧ y'.cell? ⟨g6, 5, none⟩ = some (.int .i64 m2.dep) ∧ y'.cell? ⟨g6, 7, none⟩ = some (.int .i64 m2.err) ∧ Pl w y' g g6 T4 (4 * t + 4 + 2 + 2) m2 AL3 cL3 AG3 cG3 AF3 cF3 AP3 cP3 Ak ck gl3 pl3 lk #[.slice AL3 m2.L.length cL3, .slice AG3 gl3.length cG3, .slice AF3 m2.fx.length cF3, .slice AP3 pl3.length cP3, .slice Ak lk.length ck, .int .i64 m2.dep, .int .i64 m2.most, .int .i64 m2.err] Aw cw lw Ak ck lk)) from fun y hy => (depth_any w.heap.size g T4 (4 * t + 4 + 2 + 2) m2.L.length m2 y hy.2.2.2.c).mono (fun e y' h => ⟨h.1, h.2 ▸ hy⟩))
                have CE := Lib.hid (show ∀ y, (y.cell? ⟨g6, 0, none⟩ = some (.slice AL3 m2.L.length cL3) ∧ y.cell? ⟨g6, 5, none⟩ = some (.int .i64 m2.dep) ∧ y.cell? ⟨g6, 7, none⟩ = some (.int .i64 m2.err) ∧ Pl w y g g6 T4 (4 * t + 4 + 2 + 2) m2 AL3 cL3 AG3 cG3 AF3 cF3 AP3 cP3 Ak ck gl3 pl3 lk #[.slice AL3 m2.L.length cL3, .slice AG3 gl3.length cG3, .slice AF3 m2.fx.length cF3, .slice AP3 pl3.length cP3, .slice Ak lk.length ck, .int .i64 m2.dep, .int .i64 m2.most, .int .i64 m2.err] Aw cw lw Ak ck lk) → Calls Tryd.prog 26 #[.pointer (some ⟨g, 0, none⟩)] y (fun e y' => e = .returned (.int .i64 m2.err) ∧ (y'.cell? ⟨g6, 0, none⟩ = some (.slice AL3 m2.L.length cL3) ∧ y'.cell? ⟨g6, 5, none⟩ = some (.int .i64 m2.dep) ∧ y'.cell? ⟨g6, 7, none⟩ = some (.int .i64 m2.err) ∧ Pl w y' g g6 T4 (4 * t + 4 + 2 + 2) m2 AL3 cL3 AG3 cG3 AF3 cF3 AP3 cP3 Ak ck gl3 pl3 lk #[.slice AL3 m2.L.length cL3, .slice AG3 gl3.length cG3, .slice AF3 m2.fx.length cF3, .slice AP3 pl3.length cP3, .slice Ak lk.length ck, .int .i64 m2.dep, .int .i64 m2.most, .int .i64 m2.err] Aw cw lw Ak ck lk)) from fun y hy => (err_any w.heap.size g T4 (4 * t + 4 + 2 + 2) m2.L.length m2 y hy.2.2.2.c).mono (fun e y' h => ⟨h.1, h.2 ▸ hy⟩))
                have L0 : (y4.setCell ⟨g6, 4, none⟩ (.slice Ak lk.length ck)).drew.cell? ⟨g6, 0, none⟩ = some (.slice AL3 m2.L.length cL3) ∧ (y4.setCell ⟨g6, 4, none⟩ (.slice Ak lk.length ck)).drew.cell? ⟨g6, 5, none⟩ = some (.int .i64 m2.dep) ∧ (y4.setCell ⟨g6, 4, none⟩ (.slice Ak lk.length ck)).drew.cell? ⟨g6, 7, none⟩ = some (.int .i64 m2.err) ∧ Pl w (y4.setCell ⟨g6, 4, none⟩ (.slice Ak lk.length ck)).drew g g6 T4 (4 * t + 4 + 2 + 2) m2 AL3 cL3 AG3 cG3 AF3 cF3 AP3 cP3 Ak ck gl3 pl3 lk #[.slice AL3 m2.L.length cL3, .slice AG3 gl3.length cG3, .slice AF3 m2.fx.length cF3, .slice AP3 pl3.length cP3, .slice Ak lk.length ck, .int .i64 m2.dep, .int .i64 m2.most, .int .i64 m2.err] Aw cw lw Ak ck lk := ⟨HP.out.x6.cell 0, HP.out.x6.cell 5, HP.out.x6.cell 7, HP.out.below (Below.refl _ _).drew⟩
                go_wp2_with fail
                clear HP
                go_region_held3 (fun y => y.cell? ⟨g6, 0, none⟩ = some (.slice AL3 m2.L.length cL3) ∧ y.cell? ⟨g6, 5, none⟩ = some (.int .i64 m2.dep) ∧ y.cell? ⟨g6, 7, none⟩ = some (.int .i64 m2.err) ∧ Pl w y g g6 T4 (4 * t + 4 + 2 + 2) m2 AL3 cL3 AG3 cG3 AF3 cF3 AP3 cP3 Ak ck gl3 pl3 lk #[.slice AL3 m2.L.length cL3, .slice AG3 gl3.length cG3, .slice AF3 m2.fx.length cF3, .slice AP3 pl3.length cP3, .slice Ak lk.length ck, .int .i64 m2.dep, .int .i64 m2.most, .int .i64 m2.err] Aw cw lw Ak ck lk)
                  (first
                    | with_reducible assumption
                    | with_reducible exact L0
                    | fail)
                  (first
                    | (go_at_call 17; refine (CH.out _ (by assumption)).mono ?_; rintro e y0 ⟨rfl, hs0⟩)
                    | (go_at_call 25; refine (CDp.out _ (by assumption)).mono ?_; rintro e y1 ⟨rfl, hs1⟩)
                    | (go_at_call 26; refine (CE.out _ (by assumption)).mono ?_; rintro e y2 ⟨rfl, hs2⟩))
                have HP := Lib.hid hs2.2.2.2
                clear hs0 hs1 hs2 L0 CH CDp CE
                try clear hHeld
                go_wp2_with fail
                go_roundw
                case rel => exact ⟨t + 1, (-1), T4, m2, AL3, cL3, AG3, cG3, AF3, cF3, AP3, cP3, Ak, ck, gl3, pl3, lk, Aw, cw, lw, Ak, ck, lk, by omega, by omega, by go_num, rfl, by omega, by omega, rfl, rfl, HP.out.more (by omega)⟩
                case measure => simp [intOf]; omega

end Go.Proofs.YtcijjmmckofckaaDoor

/- Emit: the answers' Words. -/
namespace Go.Proofs.YtcijjmmckofckaaDoor
open Go.ChangeShapes Go.WideShapes Go.ChangeAt Go.RowKit
set_option linter.unusedVariables false
set_option linter.unusedSimpArgs false

set_option maxHeartbeats 16000000 in
set_option maxRecDepth 100000 in
theorem refwords_any (T : Nat → Prop) (N : Nat) (m : Em) (AL : Option Addr) (cL : Nat) (AG : Option Addr) (cG : Nat) (AF : Option Addr) (cF : Nat) (AP : Option Addr) (cP : Nat) (AA : Option Addr) (cA : Nat) (gl pl al : List Int) (w : World) (h : RfR w T N m AL cL AG cG AF cF AP cP AA cA gl pl al) (hT : ∀ b, T b → b < w.heap.size) (hN : N ≤ 100000) :
    Calls Tryd.prog 11 #[.agg #[.slice AL m.L.length cL, .slice AG gl.length cG, .slice AF m.fx.length cF, .slice AP pl.length cP, .slice AA al.length cA, .int .i64 m.dep, .int .i64 m.most, .int .i64 m.err]] w fun e w' => ∃ A c, e = .returned (.slice A m.L.length c) ∧ Below w.heap.size w w' ∧ w'.ownsRow w.heap.size u4T 1 (.slice A m.L.length c) m.L.length (m.L.flatMap wdC) := by
  obtain ⟨i0, hi0, hz0, hz1, hz2⟩ := info_parts u4Info
  have BA := Lib.hid ((Below.refl w.heap.size w).alloc (Nat.le_refl _) (.cells #[.slice AL m.L.length cL, .slice AG gl.length cG, .slice AF m.fx.length cF, .slice AP pl.length cP, .slice AA al.length cA, .int .i64 m.dep, .int .i64 m.most, .int .i64 m.err] rfT))
  have XA := Lib.hid (Whole.made w rfT #[.slice AL m.L.length cL, .slice AG gl.length cG, .slice AF m.fx.length cF, .slice AP pl.length cP, .slice AA al.length cA, .int .i64 m.dep, .int .i64 m.most, .int .i64 m.err] _ rfl)
  have HL := Lib.hid (h.fL.below BA.out).1
  have GD := Lib.hid h.ok.good
  have hl16 : m.L.length ≤ 16384 := h.ok.len
  clear h hT hN
  go_enter Tryd.func11, Tryd.ntmps11
  go_wp2_with fail
  generalize (w.alloc (.cells #[.slice AL m.L.length cL, .slice AG gl.length cG, .slice AF m.fx.length cF, .slice AP pl.length cP, .slice AA al.length cA, .int .i64 m.dep, .int .i64 m.most, .int .i64 m.err] rfT)) = V at *
  go_loopw [3, 4] (fun v i wr => ∃ (t : Nat) (A : Option Addr) (c : Nat), t ≤ m.L.length ∧ i = .int .i64 t ∧ v = .slice A t c ∧ Below V.heap.size V wr ∧ wr.ownsRow V.heap.size u4T 1 (.slice A t c) t ((m.L.take t).flatMap wdC)) (fun _ i _ => m.L.length - (intOf i).toNat)
  case atStart => exact ⟨0, none, 0, Nat.zero_le _, rfl, rfl, Below.refl _ _, row_nil _ _ _ _⟩
  case round =>
    obtain ⟨t, A, c, ht, rfl, rfl, hb, ho⟩ := hrel
    have BR := Lib.hid hb
    have OR := Lib.hid ho
    have a0 : wr.cell? ⟨w.heap.size, 0, none⟩ = some (.slice AL m.L.length cL) := (XA.out.below hb XA.out.lt).cell 0
    clear hb ho
    by_cases hlt : t < m.L.length
    · have hI : (t : Int) < m.L.length := by omega
      have TK := Lib.hid (takeL m.L zIns hlt)
      have hrow := row_below HL.out BR.out
      obtain ⟨hcap, g2, rfl, _, _, hcell⟩ := row_cell (f := inC) (fun _ => rfl) zIns hrow rfl hlt
      have hgood := GD.out (m.L.getD t zIns) (by rw [List.getD_eq_getElem?_getD, List.getElem?_eq_getElem hlt]; exact List.getElem_mem hlt)
      have x0 := (hcell 0 (by decide)).1
      have x1 := (hcell 1 (by decide)).1
      have x2 := (hcell 2 (by decide)).1
      have x3 := (hcell 3 (by decide)).1
      have x4 := (hcell 4 (by decide)).1
      generalize m.L.getD t zIns = i at *
      replace x0 : wr.cell? ⟨g2, t * 5, none⟩ = some (.int .i64 i.op) := x0
      replace x1 : wr.cell? ⟨g2, t * 5 + 1, none⟩ = some (.int .i64 i.a) := x1
      replace x2 : wr.cell? ⟨g2, t * 5 + 2, none⟩ = some (.int .i64 i.b) := x2
      replace x3 : wr.cell? ⟨g2, t * 5 + 3, none⟩ = some (.int .i64 i.c) := x3
      replace x4 : wr.cell? ⟨g2, t * 5 + 4, none⟩ = some (.int .i64 i.n) := x4
      have EN := Lib.hid (refencode_any i.op i.a i.b i.c i.n wr)
      rw [encR_ok hgood] at EN
      unfold instrV at EN
      have hcp := hcap
      clear hcell hrow hgood hcap
      go_wp2_with fail
      refine EN.out.mono ?_
      rintro e y ⟨rfl, hb1⟩
      have BY := Lib.hid (BR.out.trans (hb1.mono BR.out.size))
      have B2 := Lib.hid ((Below.refl y.heap.size y).alloc (Nat.le_refl _) (.cells #[.int .u32 (wd i)] u4T))
      have O2 := Lib.hid (row_below (row_below OR.out hb1) B2.out)
      have NB := Lib.hid (cell_one_new y (.int .u32 (wd i)) u4T)
      have S2 := Lib.hid (show w.heap.size ≤ (y.alloc (.cells #[.int .u32 (wd i)] u4T)).heap.size from Nat.le_trans (Nat.le_of_lt XA.out.lt) (Nat.le_trans BY.out.size B2.out.size))
      have SV := Lib.hid (show V.heap.size ≤ (y.alloc (.cells #[.int .u32 (wd i)] u4T)).heap.size from Nat.le_trans BY.out.size B2.out.size)
      clear hb1 EN x0 x1 x2 x3 x4 a0 OR BR
      go_wp2_with (first | (at_builtin; refine wpList_append_own_at _ rfl _ _ 33 rfl V.heap.size u4T i0 _ 1 4 Tryd.underlying33 hi0 hz0 hz1 hz2 rfl (by decide) (.slice A t c) t ((m.L.take t).flatMap wdC) rfl O2.out ⟨y.heap.size, 0, none⟩ 1 1 [.int .u32 (wd i)] rfl rfl NB.out (wd_one i) (by unfold maxLen; omega) (by omega) SV.out ?_; intro v3 w3 ho3 hg3 hnl hat; obtain ⟨A', c', rfl⟩ := row_form ho3; have O3 := Lib.hid ho3; have G3 := Lib.hid hg3; clear ho3 hg3 hnl hat))
      have B3 := Lib.hid (show Below V.heap.size V w3 from KeptS.below (BY.out.trans (B2.out.mono BY.out.size)) (KeptS.grown (S := fun b => (Value.slice A t c).ownBlock = some b) G3.out (fun b hb => hb)) SV.out (fun b hb => (row_block O2.out hb).1))
      go_roundw
      case rel => exact ⟨t + 1, A', c', by omega, by go_num, rfl, B3.out, by rw [TK.out, List.flatMap_append, List.flatMap_singleton]; exact O3.out⟩
      case measure => simp [intOf]; omega
    · have hI : ¬ (t : Int) < m.L.length := by omega
      obtain rfl : t = m.L.length := by omega
      have OF := Lib.hid (show wr.ownsRow w.heap.size u4T 1 (.slice A m.L.length c) m.L.length (m.L.flatMap wdC) from by have := OR.out; rw [List.take_length] at this; exact row_more this BA.out.size)
      go_wp2_with fail
      go_ret
      exact ⟨A, c, rfl, BA.out.trans (BR.out.mono BA.out.size), OF.out⟩
end Go.Proofs.YtcijjmmckofckaaDoor

/- Emit: slices.Clone of words and of fixups; segments, Finish. -/
namespace Go.Proofs.YtcijjmmckofckaaDoor
open Go.ChangeShapes Go.WideShapes Go.ChangeAt Go.RowKit
set_option linter.unusedVariables false
set_option linter.unusedSimpArgs false

set_option maxHeartbeats 16000000 in
set_option maxRecDepth 100000 in
theorem wclone_any (v : Value) (B : Nat) (l : List Ins) (w : World) (h : LstV wdC B w v l) (hn : l.length * 4 ≤ 140737488355328) :
    Calls Tryd.prog 27 #[v] w fun e w' => ∃ v', e = .returned v' ∧ Below w.heap.size w w' ∧ w'.ownsRow w.heap.size u4T 1 v' l.length (l.flatMap wdC) := by
  obtain ⟨i0, hi, hz0, hz1, hz2⟩ := info_parts u4Info
  obtain ⟨A, c, rfl, hcell⟩ := h
  have HN := Lib.hid hn
  clear hn
  cases A with
  | none =>
    have hl : l = [] := Classical.byContradiction fun h => by
      obtain ⟨b, off, e, _⟩ := hcell h
      cases e
    subst hl
    have hnil : ∀ W : World, (binOp .eql 33 (.slice none 0 c) (.slice none 0 0)).run Tryd.prog W = .ok (.bool true) W := fun W => by
      simp only [binOp]
      simp [run_equal_slice_nil W 33 u4T none 0 c Tryd.underlying33]
    clear hcell
    go_enter Tryd.func27, Tryd.ntmps27
    go_wp2_with fail
    go_ret
    exact ⟨_, rfl, Below.refl _ _, row_nil _ _ _ _⟩
  | some a =>
    have hnil : ∀ W : World, (binOp .eql 33 (.slice (some a) l.length c) (.slice none 0 0)).run Tryd.prog W = .ok (.bool false) W := fun W => by
      simp only [binOp]
      simp [run_equal_slice_nil W 33 u4T (some a) l.length c Tryd.underlying33]
    have BA := Lib.hid ((Below.refl w.heap.size w).alloc (Nat.le_refl _) (.cells #[] u4T))
    have OE := Lib.hid (row_built (e := u4T) (sz := 1) w #[] 0 0 rfl (Nat.le_refl _) (Nat.zero_le _) w.heap.size (Nat.le_refl _) _ rfl [] rfl)
    have hzz : w.heap.size ≤ (w.alloc (.cells #[] u4T)).heap.size := BA.out.size
    have NC := Lib.hid (show ∀ (j : Nat) u, (l.flatMap wdC)[j]? = some u → (w.alloc (.cells #[] u4T)).cell? (a.add j) = some u from fun j u hj => by
      by_cases hp : l = []
      · subst hp
        simp at hj
      · obtain ⟨b, off, hA, _, hb, hc⟩ := hcell hp
        injection hA with hA
        subst hA
        rw [Go.WideShapes.add_plain]
        exact (BA.out.cell (p := ⟨b, off + j, none⟩) hb).trans (hc j u hj))
    clear hcell
    go_enter Tryd.func27, Tryd.ntmps27
    go_wp2_with (first | (at_builtin; refine wpList_append_own_at _ rfl _ _ 33 rfl w.heap.size u4T i0 _ 1 4 Tryd.underlying33 hi hz0 hz1 hz2 rfl (by decide) (.slice (some ⟨w.heap.size, 0, none⟩) 0 0) 0 [] rfl OE.out a l.length c (l.flatMap wdC) rfl (flat_len (f := wdC) (k := 1) (fun _ => rfl) l) NC.out (one_flat wd_one _) (by have := HN.out; unfold maxLen; omega) (by have := HN.out; omega) hzz ?_; intro v3 w3 ho3 hg3 hnl hat; have B3 := Lib.hid (BA.out.grown hg3 hzz (fun b hb => (World.ownsRow.lt OE.out b hb).1)); have O3 := Lib.hid ho3; clear ho3 hg3 hat hnl))
    go_ret
    exact ⟨_, rfl, B3.out, by have := O3.out; rwa [Nat.zero_add, List.nil_append] at this⟩

set_option maxHeartbeats 16000000 in
set_option maxRecDepth 100000 in
theorem fclone_any (v : Value) (B : Nat) (l : List Fxp) (w : World) (h : LstV fxC B w v l) (hn : l.length * 32 ≤ 140737488355328) :
    Calls Tryd.prog 28 #[v] w fun e w' => ∃ v', e = .returned v' ∧ Below w.heap.size w w' ∧ w'.ownsRow w.heap.size fxT 4 v' l.length (l.flatMap fxC) := by
  obtain ⟨i0, hi, hz0, hz1, hz2⟩ := info_parts fxInfo
  obtain ⟨A, c, rfl, hcell⟩ := h
  have HN := Lib.hid hn
  clear hn
  cases A with
  | none =>
    have hl : l = [] := Classical.byContradiction fun h => by
      obtain ⟨b, off, e, _⟩ := hcell h
      cases e
    subst hl
    have hnil : ∀ W : World, (binOp .eql 27 (.slice none 0 c) (.slice none 0 0)).run Tryd.prog W = .ok (.bool true) W := fun W => by
      simp only [binOp]
      simp [run_equal_slice_nil W 27 fxT none 0 c Tryd.underlying27]
    clear hcell
    go_enter Tryd.func28, Tryd.ntmps28
    go_wp2_with fail
    go_ret
    exact ⟨_, rfl, Below.refl _ _, row_nil _ _ _ _⟩
  | some a =>
    have hnil : ∀ W : World, (binOp .eql 27 (.slice (some a) l.length c) (.slice none 0 0)).run Tryd.prog W = .ok (.bool false) W := fun W => by
      simp only [binOp]
      simp [run_equal_slice_nil W 27 fxT (some a) l.length c Tryd.underlying27]
    have BA := Lib.hid ((Below.refl w.heap.size w).alloc (Nat.le_refl _) (.cells #[] fxT))
    have OE := Lib.hid (row_built (e := fxT) (sz := 4) w #[] 0 0 rfl (Nat.le_refl _) (Nat.zero_le _) w.heap.size (Nat.le_refl _) _ rfl [] rfl)
    have hzz : w.heap.size ≤ (w.alloc (.cells #[] fxT)).heap.size := BA.out.size
    have NC := Lib.hid (show ∀ (j : Nat) u, (l.flatMap fxC)[j]? = some u → (w.alloc (.cells #[] fxT)).cell? (a.add j) = some u from fun j u hj => by
      by_cases hp : l = []
      · subst hp
        simp at hj
      · obtain ⟨b, off, hA, _, hb, hc⟩ := hcell hp
        injection hA with hA
        subst hA
        rw [Go.WideShapes.add_plain]
        exact (BA.out.cell (p := ⟨b, off + j, none⟩) hb).trans (hc j u hj))
    clear hcell
    go_enter Tryd.func28, Tryd.ntmps28
    go_wp2_with (first | (at_builtin; refine wpList_append_own_at _ rfl _ _ 27 rfl w.heap.size fxT i0 _ 4 32 Tryd.underlying27 hi hz0 hz1 hz2 rfl (by decide) (.slice (some ⟨w.heap.size, 0, none⟩) 0 0) 0 [] rfl OE.out a l.length c (l.flatMap fxC) rfl (flat_len (f := fxC) (k := 4) (fun _ => rfl) l) NC.out (one_flat fx_one _) (by have := HN.out; unfold maxLen; omega) (by have := HN.out; omega) hzz ?_; intro v3 w3 ho3 hg3 hnl hat; have B3 := Lib.hid (BA.out.grown hg3 hzz (fun b hb => (World.ownsRow.lt OE.out b hb).1)); have O3 := Lib.hid ho3; clear ho3 hg3 hat hnl))
    go_ret
    exact ⟨_, rfl, B3.out, by have := O3.out; rwa [Nat.zero_add, List.nil_append] at this⟩

theorem row_beside17 {w w' : World} {B' g : Nat} {h : Option Nat} {v : Value} {n : Nat} {xs : List Value} (hv : w.ownsRow B' sgT 2 v n xs) (k : KeptS (BdS g h) w w') (ha : ∀ b, v.ownBlock = some b → b ≠ g ∧ h ≠ some b) : w'.ownsRow B' sgT 2 v n xs :=
  k.row hv (fun b hb hS => by
    rcases hS with e | e
    · exact (ha b hb).1 e
    · exact (ha b hb).2 e)

set_option maxHeartbeats 16000000 in
set_option maxRecDepth 100000 in
theorem segments_any (B g : Nat) (T : Nat → Prop) (N M : Nat) (m : Em) (w : World) (h : CdM w B g T N M m) (hN : N ≤ 100000) (hM : M ≤ 20000) :
    Calls Tryd.prog 29 #[.pointer (some ⟨g, 0, none⟩)] w fun e w' => ∃ v, ∃ l : List Sg, e = .returned v ∧ Below w.heap.size w w' ∧ w'.ownsRow w.heap.size sgT 2 v l.length (l.flatMap sgCells) := by
  obtain ⟨vw, vf, vp, vg, vm, ps, gs, ms, h⟩ := h
  have H := Lib.hid h
  have HN := Lib.hid hN
  have HM := Lib.hid hM
  have hb0 := (Below.refl w.heap.size w).alloc (Nat.le_refl _) (.cells #[.slice none 0 0] bdT)
  have B1 := Lib.hid hb0
  have D1 := Lib.hid (bd_new w w.heap.size w.heap.size rfl (Nat.le_refl _))
  have LS := Lib.hid (list7_any vw vf (.int .i64 m.err) (.int .i64 m.dep) (.int .i64 m.most) vp vg B g vm.ownBlock ms (w.alloc (.cells #[.slice none 0 0] bdT)) (h.below hb0).b7 (by have := h.ml; omega))
  have hml := Lib.hid h.ml
  clear h hN hM hb0
  go_enter Tryd.func29, Tryd.ntmps29
  go_wp2_with fail
  generalize w.alloc (.cells #[.slice none 0 0] bdT) = W at *
  refine LS.out.mono ?_
  rintro e w1 ⟨vl, rfl, hb, ho⟩
  obtain ⟨Al, cl, rfl⟩ := row_form ho
  have B2 := Lib.hid (B1.out.trans (hb.mono B1.out.size))
  have D2 := Lib.hid (D1.out.below hb)
  have V2 := Lib.hid (row_more ho B1.out.size)
  have A2 := Lib.hid (show ∀ b, (Value.slice Al ms.length cl).ownBlock = some b → b ≠ w.heap.size ∧ (none : Option Nat) ≠ some b from fun b hb => ⟨fun e => by
    have h1 := (row_block ho hb).1
    have h2 := D1.out.lt
    omega, fun e => by cases e⟩)
  clear hb ho LS D1
  generalize hl : ms = l at V2 A2 hml
  have hl5 : l.length ≤ 20000 := Nat.le_trans hml.out HM.out
  go_wp2_with fail
  go_loopw [12] (fun i wr => ∃ (t : Nat) (hh : Option Nat) (lm : List Sg), t ≤ l.length ∧ i = .int .i64 t ∧ Below w.heap.size w wr ∧ BdAt wr w.heap.size w.heap.size hh lm ∧ lm.length ≤ t ∧ wr.ownsRow w.heap.size sgT 2 (.slice Al l.length cl) l.length (l.flatMap sgCells) ∧ ∀ b, (Value.slice Al l.length cl).ownBlock = some b → b ≠ w.heap.size ∧ hh ≠ some b) (fun i _ => l.length - (intOf i).toNat)
  case atStart => exact ⟨0, none, [], Nat.zero_le _, rfl, B2.out, D2.out, Nat.le_refl _, V2.out, A2.out⟩
  case round =>
    obtain ⟨t, hh, lm, ht, rfl, hb, hd, hlm, hv, ha⟩ := hrel
    have HB := Lib.hid hb
    have HD := Lib.hid hd
    have HV := Lib.hid hv
    have HA := Lib.hid ha
    have LM := Lib.hid (show lm.length ≤ 20000 by omega)
    have LT := Lib.hid hlm
    clear hb hd hv ha hlm B2 D2 V2 A2
    by_cases hlt : t < l.length
    · have hI : (t : Int) < l.length := by omega
      obtain ⟨b1, o1, rfl, hbl, x0, x1⟩ := sg_at (LstV.own (k := 2) (fun _ => rfl) (by decide) zSg HV.out) hlt
      generalize l.getD t zSg = s at *
      obtain ⟨st, pd⟩ := s
      simp only at x0 x1
      have BA := Lib.hid ((Below.refl wr.heap.size wr).alloc (Nat.le_refl _) (.cells #[.int .i64 st, .int .i64 pd] sgT))
      have XS := Lib.hid (Whole.made wr sgT #[.int .i64 st, .int .i64 pd] _ rfl)
      have B3 := Lib.hid (HB.out.trans (BA.out.mono HB.out.size))
      have D3 := Lib.hid (HD.out.below BA.out)
      have V3 := Lib.hid (row_below HV.out BA.out)
      have H3 := Lib.hid (H.out.below B3.out)
      have s0 : (wr.alloc (.cells #[.int .i64 st, .int .i64 pd] sgT)).cell? ⟨wr.heap.size, 0, none⟩ = some (.int .i64 st) := XS.out.cell 0
      have s1 : (wr.alloc (.cells #[.int .i64 st, .int .i64 pd] sgT)).cell? ⟨wr.heap.size, 1, none⟩ = some (.int .i64 pd) := XS.out.cell 1
      have IP := Lib.hid (ispad_any pd B g T N M m vw vf vp vg vm ps gs ms (wr.alloc (.cells #[.int .i64 st, .int .i64 pd] sgT)) H3.out)
      by_cases hp : 0 ≤ pd ∧ pd < ps.length
      · rw [decide_eq_true hp] at IP
        obtain ⟨k, rfl⟩ := Int.eq_ofNat_of_zero_le hp.1
        have hk : k < ps.length := by omega
        have hkI : (k : Int) < ps.length := hp.2
        have hps : ps.length ≤ 100000 := Nat.le_trans H.out.np HN.out
        obtain ⟨Ap, cp, hvp⟩ := row_form H3.out.rp
        subst hvp
        obtain ⟨hcap, gp, rfl, _, _, hcell⟩ := row_cell (f := itC) (fun _ => rfl) (0 : Int) H3.out.rp rfl hk
        have p0 : (wr.alloc (.cells #[.int .i64 st, .int .i64 k] sgT)).cell? ⟨gp, k, none⟩ = some (.int .i64 (ps.getD k 0)) := by have := (hcell 0 (by decide)).1; rwa [Nat.mul_one, Nat.add_zero] at this
        have p5 : (wr.alloc (.cells #[.int .i64 st, .int .i64 k] sgT)).cell? ⟨g, 5, none⟩ = some (.slice (some ⟨gp, 0, none⟩) ps.length cp) := H3.out.whole.cell 5
        generalize ps.getD k 0 = pl at *
        have hcp := hcap
        clear hcell hp H3 hcap
        go_wp2_with fail
        generalize wr.alloc (.cells #[.int .i64 st, .int .i64 k] sgT) = y2 at *
        refine IP.out.mono ?_
        rintro e y2' ⟨rfl, rfl⟩
        clear IP
        go_wp2_with fail
        go_quiet (fail)
        rename_i nq
        have BQ := Lib.hid (below_drawn (Below.refl y2.heap.size y2) nq)
        have s2 := XS.out.drawn nq
        generalize hy3 : y2.drewN nq = y3 at *
        have B3 := Lib.hid (B3.out.trans (BQ.out.mono B3.out.size))
        have D3 := Lib.hid (D3.out.below BQ.out)
        have V3 := Lib.hid (row_below V3.out BQ.out)
        have s0 : y3.cell? ⟨wr.heap.size, 0, none⟩ = some (.int .i64 st) := s2.cell 0
        clear s2 hy3 p0 p5
        have MK := Lib.hid (mark_any st (pl) w.heap.size w.heap.size hh lm y3 D3.out B3.out.size (by have := LM.out; omega))
        go_wp2_with fail
        refine MK.out.mono ?_
        rintro e y4 ⟨rfl, hp⟩
        have B4 := Lib.hid (B3.out.trans ((hp.below D3.out B3.out.size).mono (Nat.le_refl _)))
        have ML := Lib.hid (mark_len lm st (pl))
        obtain ⟨h4, hd4, hk4, hm4⟩ := hp
        have D4 := Lib.hid hd4
        have V4 := Lib.hid (row_beside17 V3.out hk4 HA.out)
        have A4 := Lib.hid (show ∀ b, (Value.slice (some ⟨b1, o1, none⟩) l.length cl).ownBlock = some b → b ≠ w.heap.size ∧ h4 ≠ some b from fun b hb => ⟨(HA.out b hb).1, fun e => by
          rcases hm4 with h | ⟨b', h, hlt⟩
          · exact (HA.out b hb).2 (h.symm.trans e)
          · rw [h] at e
            injection e with e
            subst e
            have := (row_block V3.out hb).2.1
            omega⟩)
        clear hd4 hk4 hm4 MK B3 D3 V3 HA
        go_wp2_with fail
        go_roundw
        case rel => exact ⟨t + 1, h4, _, by omega, by go_num, B4.out, D4.out, by have := ML.out; have := LT.out; omega, V4.out, A4.out⟩
        case measure => simp [intOf]; omega
      · rw [decide_eq_false hp] at IP
        clear hp H3
        go_wp2_with fail
        generalize wr.alloc (.cells #[.int .i64 st, .int .i64 pd] sgT) = y3 at *
        refine IP.out.mono ?_
        rintro e y2' ⟨rfl, rfl⟩
        clear IP
        have MK := Lib.hid (mark_any st (-1) w.heap.size w.heap.size hh lm y3 D3.out B3.out.size (by have := LM.out; omega))
        go_wp2_with fail
        refine MK.out.mono ?_
        rintro e y4 ⟨rfl, hp⟩
        have B4 := Lib.hid (B3.out.trans ((hp.below D3.out B3.out.size).mono (Nat.le_refl _)))
        have ML := Lib.hid (mark_len lm st (-1))
        obtain ⟨h4, hd4, hk4, hm4⟩ := hp
        have D4 := Lib.hid hd4
        have V4 := Lib.hid (row_beside17 V3.out hk4 HA.out)
        have A4 := Lib.hid (show ∀ b, (Value.slice (some ⟨b1, o1, none⟩) l.length cl).ownBlock = some b → b ≠ w.heap.size ∧ h4 ≠ some b from fun b hb => ⟨(HA.out b hb).1, fun e => by
          rcases hm4 with h | ⟨b', h, hlt⟩
          · exact (HA.out b hb).2 (h.symm.trans e)
          · rw [h] at e
            injection e with e
            subst e
            have := (row_block V3.out hb).2.1
            omega⟩)
        clear hd4 hk4 hm4 MK B3 D3 V3 HA
        go_wp2_with fail
        go_roundw
        case rel => exact ⟨t + 1, h4, _, by omega, by go_num, B4.out, D4.out, by have := ML.out; have := LT.out; omega, V4.out, A4.out⟩
        case measure => simp [intOf]; omega
    · have hI : ¬ (t : Int) < l.length := by omega
      have LE := Lib.hid (list_any w.heap.size w.heap.size hh lm wr HD.out (by have := LM.out; omega))
      go_wp2_with fail
      refine LE.out.mono ?_
      rintro e y8 ⟨v8, rfl, hb8, ho8⟩
      have B8 := Lib.hid (HB.out.trans (hb8.mono HB.out.size))
      have O8 := Lib.hid (row_more ho8 HB.out.size)
      obtain ⟨A8, c8, hv8⟩ := row_form ho8
      subst hv8
      clear hb8 ho8 LE
      go_wp2_with fail
      go_ret
      exact ⟨_, lm, rfl, B8.out, O8.out⟩

abbrev resT : TypeId := 36

theorem setRow_kept17 {S : Nat → Prop} {w : World} {g : Nat} {t : TypeId} {cs us : Array Value} (h : Whole w g t cs) (hS : S g) : KeptS S w (w.setRow g us) :=
  KeptS.grown (h.setRow us).2 (fun b hb => by injection hb with hb; subst hb; exact hS)

theorem setRow_far17 {w : World} {g k : Nat} {t t' : TypeId} {cs us cs' : Array Value} (h : Whole w g t cs) (hk : Whole w k t' cs') (hne : k ≠ g) : Whole (w.setRow g us) k t' cs' :=
  ((h.setRow us).2.block _ hk.lt (fun e => by injection e with e; exact hne e)).trans hk

set_option maxHeartbeats 16000000 in
set_option maxRecDepth 100000 in
theorem finish_bad (B g : Nat) (T : Nat → Prop) (N M : Nat) (m : Em) (w : World) (h : CdM w B g T N M m) (hN : N ≤ 100000) (he : m.err ≠ 0) :
    Calls Tryd.prog 9 #[.pointer (some ⟨g, 0, none⟩)] w fun e w' => e = .returned (.tuple #[.agg #[.slice none 0 0, .slice none 0 0, .slice none 0 0], .int .i64 m.err]) ∧ Below w.heap.size w w' := by
  obtain ⟨vw, vf, vp, vg, vm, ps, gs, ms, h⟩ := h
  have hb0 := (Below.refl w.heap.size w).alloc (Nat.le_refl _) (.cells #[.slice none 0 0, .slice none 0 0, .slice none 0 0] resT)
  have B1 := Lib.hid hb0
  have X1 := Lib.hid (Whole.made w resT #[.slice none 0 0, .slice none 0 0, .slice none 0 0] _ rfl)
  have c2 : (w.alloc (.cells #[.slice none 0 0, .slice none 0 0, .slice none 0 0] resT)).cell? ⟨g, 2, none⟩ = some (.int .i64 m.err) := (h.below hb0).whole.cell 2
  have d : (m.err != 0) = true := by simpa using he
  have x0 : (w.alloc (.cells #[.slice none 0 0, .slice none 0 0, .slice none 0 0] resT)).cell? ⟨w.heap.size, 0, none⟩ = some (.slice none 0 0) := X1.out.cell 0
  have x1 : (w.alloc (.cells #[.slice none 0 0, .slice none 0 0, .slice none 0 0] resT)).cell? ⟨w.heap.size, 1, none⟩ = some (.slice none 0 0) := X1.out.cell 1
  have x2 : (w.alloc (.cells #[.slice none 0 0, .slice none 0 0, .slice none 0 0] resT)).cell? ⟨w.heap.size, 2, none⟩ = some (.slice none 0 0) := X1.out.cell 2
  clear h hN he hb0
  go_enter Tryd.func9, Tryd.ntmps9
  go_wp2_with fail
  go_region
  go_wp2_with fail
  refine bodyPost_ret (v := .tuple #[.agg #[.slice none 0 0, .slice none 0 0, .slice none 0 0], .int .i64 m.err]) ?_ rfl ⟨rfl, ?_⟩
  · simp [results, Tryd.results9, go_sem]
  · exact B1.out.drew

set_option maxHeartbeats 16000000 in
set_option maxRecDepth 100000 in
theorem finish_ok (B g : Nat) (T : Nat → Prop) (N M : Nat) (m : Em) (w : World) (h : CdM w B g T N M m) (hN : N ≤ 100000) (hM : M ≤ 20000) (he : m.err = 0) :
    Calls Tryd.prog 9 #[.pointer (some ⟨g, 0, none⟩)] w fun e w' => ∃ A1 c1 A2 c2 A3 n3 c3, e = .returned (.tuple #[.agg #[.slice A1 m.L.length c1, .slice A2 m.fx.length c2, .slice A3 n3 c3], .int .i64 0]) ∧ Below w.heap.size w w' ∧ w'.ownsRow w.heap.size u4T 1 (.slice A1 m.L.length c1) m.L.length (m.L.flatMap wdC) ∧ w'.ownsRow w.heap.size fxT 4 (.slice A2 m.fx.length c2) m.fx.length (m.fx.flatMap fxC) := by
  obtain ⟨vw, vf, vp, vg, vm, ps, gs, ms, h⟩ := h
  have hb0 := (Below.refl w.heap.size w).alloc (Nat.le_refl _) (.cells #[.slice none 0 0, .slice none 0 0, .slice none 0 0] resT)
  have BW := Lib.hid hb0
  have X0 := Whole.made w resT #[.slice none 0 0, .slice none 0 0, .slice none 0 0] _ rfl
  have c2 : (w.alloc (.cells #[.slice none 0 0, .slice none 0 0, .slice none 0 0] resT)).cell? ⟨g, 2, none⟩ = some (.int .i64 m.err) := (h.below hb0).whole.cell 2
  have d : (m.err != 0) = false := by simpa using he
  have H := Lib.hid h
  have HN := Lib.hid hN
  have HM := Lib.hid hM
  have gw := h.whole.lt
  have BV := Lib.hid (show Below w.heap.size w (w.alloc (.cells #[.slice none 0 0, .slice none 0 0, .slice none 0 0] resT)).drew from hb0.drew)
  have D0 := Lib.hid (Below.refl (w.alloc (.cells #[.slice none 0 0, .slice none 0 0, .slice none 0 0] resT)).drew.heap.size (w.alloc (.cells #[.slice none 0 0, .slice none 0 0, .slice none 0 0] resT)).drew)
  have X1 := Lib.hid (show Whole (w.alloc (.cells #[.slice none 0 0, .slice none 0 0, .slice none 0 0] resT)).drew w.heap.size resT #[.slice none 0 0, .slice none 0 0, .slice none 0 0] from X0)
  have SH := Lib.hid (fun y (hb : Below (w.alloc (.cells #[.slice none 0 0, .slice none 0 0, .slice none 0 0] resT)).drew.heap.size (w.alloc (.cells #[.slice none 0 0, .slice none 0 0, .slice none 0 0] resT)).drew y) => (show y.cell? ⟨g, 0, none⟩ = some vw ∧ y.cell? ⟨g, 1, none⟩ = some vf from by
    have h5 := (h.below (BV.out.trans (hb.mono BV.out.size))).whole
    exact ⟨h5.cell 0, h5.cell 1⟩))
  have L0 : (w.alloc (.cells #[.slice none 0 0, .slice none 0 0, .slice none 0 0] resT)).drew.cell? ⟨g, 0, none⟩ = some vw ∧ (w.alloc (.cells #[.slice none 0 0, .slice none 0 0, .slice none 0 0] resT)).drew.cell? ⟨g, 1, none⟩ = some vf := SH.out _ D0.out
  have SK := Lib.hid (show ∀ y : World, (y.cell? ⟨g, 0, none⟩ = some vw ∧ y.cell? ⟨g, 1, none⟩ = some vf) → ∀ {us : Array Value}, Whole y w.heap.size resT #[.slice none 0 0, .slice none 0 0, .slice none 0 0] → ((y.setRow w.heap.size us).cell? ⟨g, 0, none⟩ = some vw ∧ (y.setRow w.heap.size us).cell? ⟨g, 1, none⟩ = some vf) from fun y hy us hw => by
    have k := setRow_kept17 (S := fun b => b = w.heap.size) (us := us) hw rfl
    exact ⟨k.cell hy.1 (fun e => by omega), k.cell hy.2 (fun e => by omega)⟩)
  have CW := Lib.hid (wclone_any vw (w.alloc (.cells #[.slice none 0 0, .slice none 0 0, .slice none 0 0] resT)).drew.heap.size m.L (w.alloc (.cells #[.slice none 0 0, .slice none 0 0, .slice none 0 0] resT)).drew (LstV.own (k := 1) (fun _ => rfl) (by decide) zIns (h.below BV.out).rw) (by have := h.ok.len; omega))
  have BS := Lib.hid (show w.heap.size < (w.alloc (.cells #[.slice none 0 0, .slice none 0 0, .slice none 0 0] resT)).drew.heap.size from X1.out.lt)
  clear h hN hM he hb0 X0
  go_enter Tryd.func9, Tryd.ntmps9
  go_wp2_with fail
  refine wp_region_noPanic ?_
  refine wp_region_held_drew (S := fun y => y.cell? ⟨g, 0, none⟩ = some vw ∧ y.cell? ⟨g, 1, none⟩ = some vf) (by kernel_rfl) L0 (fun hHeld => ?_)
  clear L0
  refine wpAnyH_take (i := 0) (oi := _) (v := .pointer (some ⟨g, 0, none⟩)) rfl (by kernel_rfl) (by kernel_rfl) (by kernel_rfl) (fun _ _ _ h => h) (Or.inl ⟨by rfl, fun w hSw => by (try dsimp only at hSw); go_simp⟩) (by assumption) ?_
  try simp only [Act.put, List.getElem_toArray, List.getElem_cons_succ, List.getElem_cons_zero, List.setIfInBounds_toArray, List.set_cons_zero, List.set_cons_succ]
  refine wpAnyH_take (i := 1) (oi := _) (v := .pointer (some ⟨g, 0, none⟩)) rfl (by kernel_rfl) (by kernel_rfl) (by kernel_rfl) (fun _ _ _ h => h) (Or.inl ⟨by rfl, fun w hSw => by (try dsimp only at hSw); go_simp⟩) (by assumption) ?_
  try simp only [Act.put, List.getElem_toArray, List.getElem_cons_succ, List.getElem_cons_zero, List.setIfInBounds_toArray, List.set_cons_zero, List.set_cons_succ]
  refine wpAnyH_take (i := 2) (oi := _) (v := .pointer (some ⟨g, 0, none⟩)) rfl (by kernel_rfl) (by kernel_rfl) (by kernel_rfl) (fun _ _ _ h => h) (Or.inl ⟨by rfl, fun w hSw => by (try dsimp only at hSw); go_simp⟩) (by assumption) ?_
  try simp only [Act.put, List.getElem_toArray, List.getElem_cons_succ, List.getElem_cons_zero, List.setIfInBounds_toArray, List.set_cons_zero, List.set_cons_succ]
  refine wpAnyH_take (i := 3) (oi := _) (v := vw) rfl (by kernel_rfl) (by kernel_rfl) (by kernel_rfl) (fun _ _ _ h => h) (Or.inl ⟨by rfl, fun w hSw => by (try dsimp only at hSw); go_simp⟩) (by assumption) ?_
  try simp only [Act.put, List.getElem_toArray, List.getElem_cons_succ, List.getElem_cons_zero, List.setIfInBounds_toArray, List.set_cons_zero, List.set_cons_succ]
  refine wpAnyH_take (i := 5) (oi := _) (v := .pointer (some ⟨g, 0, none⟩)) rfl (by kernel_rfl) (by kernel_rfl) (by kernel_rfl) (fun _ _ _ h => h) (Or.inl ⟨by rfl, fun w hSw => by (try dsimp only at hSw); go_simp⟩) (by assumption) ?_
  try simp only [Act.put, List.getElem_toArray, List.getElem_cons_succ, List.getElem_cons_zero, List.setIfInBounds_toArray, List.set_cons_zero, List.set_cons_succ]
  refine wpAnyH_take (i := 6) (oi := _) (v := .pointer (some ⟨g, 0, none⟩)) rfl (by kernel_rfl) (by kernel_rfl) (by kernel_rfl) (fun _ _ _ h => h) (Or.inl ⟨by rfl, fun w hSw => by (try dsimp only at hSw); go_simp⟩) (by assumption) ?_
  try simp only [Act.put, List.getElem_toArray, List.getElem_cons_succ, List.getElem_cons_zero, List.setIfInBounds_toArray, List.set_cons_zero, List.set_cons_succ]
  refine wpAnyH_take (i := 7) (oi := _) (v := .pointer (some ⟨g, 1, none⟩)) rfl (by kernel_rfl) (by kernel_rfl) (by kernel_rfl) (fun _ _ _ h => h) (Or.inl ⟨by rfl, fun w hSw => by (try dsimp only at hSw); go_simp⟩) (by assumption) ?_
  try simp only [Act.put, List.getElem_toArray, List.getElem_cons_succ, List.getElem_cons_zero, List.setIfInBounds_toArray, List.set_cons_zero, List.set_cons_succ]
  refine wpAnyH_take (i := 8) (oi := _) (v := vf) rfl (by kernel_rfl) (by kernel_rfl) (by kernel_rfl) (fun _ _ _ h => h) (Or.inl ⟨by rfl, fun w hSw => by (try dsimp only at hSw); go_simp⟩) (by assumption) ?_
  try simp only [Act.put, List.getElem_toArray, List.getElem_cons_succ, List.getElem_cons_zero, List.setIfInBounds_toArray, List.set_cons_zero, List.set_cons_succ]
  refine wpAnyH_take (i := 10) (oi := _) (v := .pointer (some ⟨g, 0, none⟩)) rfl (by kernel_rfl) (by kernel_rfl) (by kernel_rfl) (fun _ _ _ h => h) (Or.inl ⟨by rfl, fun w hSw => by (try dsimp only at hSw); go_simp⟩) (by assumption) ?_
  try simp only [Act.put, List.getElem_toArray, List.getElem_cons_succ, List.getElem_cons_zero, List.setIfInBounds_toArray, List.set_cons_zero, List.set_cons_succ]
  refine wpAnyH_ready (rs := [4]) (by kernel_rfl) (by simp) (AllReadyH.cons (o := _) rfl (fun K hK => ?_) AllReadyH.nil)
  go_simp
  go_at_call 27
  refine (CW.out).mono ?_
  rintro e y1 ⟨v1, rfl, hb1, ho1⟩
  have D1 := Lib.hid (D0.out.trans (hb1.mono D0.out.size))
  have O1 := Lib.hid (row_more ho1 D0.out.size)
  have S1 := SH.out y1 D1.out
  have CF := Lib.hid (fclone_any vf y1.heap.size m.fx y1 (LstV.own (k := 4) (fun _ => rfl) (by decide) zFxp (H.out.below (BV.out.trans (D1.out.mono BV.out.size))).rf) (by have := H.out.nf; have := HN.out; omega))
  clear hb1 ho1 CW
  refine hK.out _ _ S1 (fun hHeld => ?_)
  clear hK K
  try simp only [Act.put, List.getElem_toArray, List.getElem_cons_succ, List.getElem_cons_zero, List.setIfInBounds_toArray, List.set_cons_zero, List.set_cons_succ]
  refine wpAnyH_ready (rs := [9]) (by kernel_rfl) (by simp) (AllReadyH.cons (o := _) rfl (fun K hK => ?_) AllReadyH.nil)
  go_simp
  go_at_call 28
  refine (CF.out).mono ?_
  rintro e y2 ⟨v2, rfl, hb2, ho2⟩
  have D2 := Lib.hid (D1.out.trans (hb2.mono D1.out.size))
  have P1 := Lib.hid (row_below O1.out hb2)
  have O2 := Lib.hid (row_more ho2 D1.out.size)
  have S2 := SH.out y2 D2.out
  have CS := Lib.hid (segments_any B g T N M m y2 ⟨_, _, _, _, _, _, _, _, H.out.below (BV.out.trans (D2.out.mono BV.out.size))⟩ HN.out HM.out)
  clear hb2 ho2 CF O1 S1
  refine hK.out _ _ S2 (fun hHeld => ?_)
  clear hK K
  try simp only [Act.put, List.getElem_toArray, List.getElem_cons_succ, List.getElem_cons_zero, List.setIfInBounds_toArray, List.set_cons_zero, List.set_cons_succ]
  refine wpAnyH_ready (rs := [11]) (by kernel_rfl) (by simp) (AllReadyH.cons (o := _) rfl (fun K hK => ?_) AllReadyH.nil)
  go_simp
  go_at_call 29
  refine (CS.out).mono ?_
  rintro e y3 ⟨v3, l3, rfl, hb3, ho3⟩
  have D3 := Lib.hid (D2.out.trans (hb3.mono D2.out.size))
  have P1 := Lib.hid (row_below P1.out hb3)
  have P2 := Lib.hid (row_below O2.out hb3)
  have S3 := SH.out y3 D3.out
  have Z3 := Lib.hid (X1.out.below D3.out X1.out.lt)
  obtain ⟨A1, c1, rfl⟩ := row_form P1.out
  obtain ⟨A2, c2, rfl⟩ := row_form P2.out
  obtain ⟨A3, c3, rfl⟩ := row_form ho3
  have SZ : (Tryd.prog.info? resT).map (·.size) = some 3 := by kernel_rfl
  clear hb3 CS O2 S2 ho3
  refine hK.out _ _ S3 (fun hHeld => ?_)
  clear hK K
  try simp only [Act.put, List.getElem_toArray, List.getElem_cons_succ, List.getElem_cons_zero, List.setIfInBounds_toArray, List.set_cons_zero, List.set_cons_succ]
  refine wpAnyH_take (i := 12) (oi := _) (v := .agg #[.slice A1 m.L.length c1, .slice A2 m.fx.length c2, .slice A3 l3.length c3]) rfl (by kernel_rfl) (by kernel_rfl) (by kernel_rfl) (fun _ _ _ h => h) (Or.inl ⟨by rfl, fun w hSw => by (try dsimp only at hSw); go_simp⟩) (by assumption) ?_
  try simp only [Act.put, List.getElem_toArray, List.getElem_cons_succ, List.getElem_cons_zero, List.setIfInBounds_toArray, List.set_cons_zero, List.set_cons_succ]
  refine wpAnyH_ready (rs := [13]) (by kernel_rfl) (by simp) (AllReadyH.cons (o := _) rfl (fun K hK => ?_) AllReadyH.nil)
  refine wp_store_row resT (.tmp 2) (.tmp 26) rfl (w.heap.size) #[.slice A1 m.L.length c1, .slice A2 m.fx.length c2, .slice A3 l3.length c3] rfl rfl resT #[.slice none 0 0, .slice none 0 0, .slice none 0 0] Z3.out SZ rfl (by simp [Value.oneCell']) ?_
  have SX := Lib.hid (Z3.out.setRow #[.slice A1 m.L.length c1, .slice A2 m.fx.length c2, .slice A3 l3.length c3]).1
  have SB := Lib.hid (show Below w.heap.size w (y3.setRow w.heap.size #[.slice A1 m.L.length c1, .slice A2 m.fx.length c2, .slice A3 l3.length c3]) from KeptS.below (BV.out.trans (D3.out.mono BV.out.size)) (setRow_kept17 (S := fun b => b = w.heap.size) (us := #[.slice A1 m.L.length c1, .slice A2 m.fx.length c2, .slice A3 l3.length c3]) Z3.out rfl) (Nat.le_trans BV.out.size D3.out.size) (fun b h => h ▸ Nat.le_refl _))
  have Q1 := Lib.hid (show (y3.setRow w.heap.size #[.slice A1 m.L.length c1, .slice A2 m.fx.length c2, .slice A3 l3.length c3]).ownsRow w.heap.size u4T 1 (.slice A1 m.L.length c1) m.L.length (m.L.flatMap wdC) from (setRow_kept17 (S := fun b => b = w.heap.size) (us := #[.slice A1 m.L.length c1, .slice A2 m.fx.length c2, .slice A3 l3.length c3]) Z3.out rfl).row (row_more P1.out (Nat.le_of_lt BS.out)) (fun b hb e => by have := (row_block P1.out hb).1; have := BS.out; omega))
  have Q2 := Lib.hid (show (y3.setRow w.heap.size #[.slice A1 m.L.length c1, .slice A2 m.fx.length c2, .slice A3 l3.length c3]).ownsRow w.heap.size fxT 4 (.slice A2 m.fx.length c2) m.fx.length (m.fx.flatMap fxC) from (setRow_kept17 (S := fun b => b = w.heap.size) (us := #[.slice A1 m.L.length c1, .slice A2 m.fx.length c2, .slice A3 l3.length c3]) Z3.out rfl).row (row_more P2.out (Nat.le_of_lt BS.out)) (fun b hb e => by have := (row_block P2.out hb).1; have := BS.out; omega))
  have S4 := SK.out _ S3 (us := #[.slice A1 m.L.length c1, .slice A2 m.fx.length c2, .slice A3 l3.length c3]) Z3.out
  generalize y3.setRow w.heap.size #[.slice A1 m.L.length c1, .slice A2 m.fx.length c2, .slice A3 l3.length c3] = y4 at *
  refine hK.out _ _ S4 (fun hHeld => ?_)
  clear hK K
  try simp only [Act.put, List.getElem_toArray, List.getElem_cons_succ, List.getElem_cons_zero, List.setIfInBounds_toArray, List.set_cons_zero, List.set_cons_succ]
  refine wpAnyH_ready (rs := [14]) (by kernel_rfl) (by simp) (AllReadyH.cons (o := _) rfl (fun K hK => ?_) AllReadyH.nil)
  go_simp
  refine hK.out _ _ S4 (fun hHeld => ?_)
  clear hK K
  try simp only [Act.put, List.getElem_toArray, List.getElem_cons_succ, List.getElem_cons_zero, List.setIfInBounds_toArray, List.set_cons_zero, List.set_cons_succ]
  refine wpAnyH_done (by kernel_rfl) ?_ _
  refine NoPanic.normal ?_
  try simp only [Act.put, List.getElem_toArray, List.getElem_cons_succ, List.getElem_cons_zero, List.setIfInBounds_toArray, List.set_cons_zero, List.set_cons_succ]
  have x0 : y4.cell? ⟨w.heap.size, 0, none⟩ = some (.slice A1 m.L.length c1) := SX.out.cell 0
  have x1 : y4.cell? ⟨w.heap.size, 1, none⟩ = some (.slice A2 m.fx.length c2) := SX.out.cell 1
  have x2 : y4.cell? ⟨w.heap.size, 2, none⟩ = some (.slice A3 l3.length c3) := SX.out.cell 2
  go_wp2_with fail
  refine bodyPost_ret (v := .tuple #[.agg #[.slice A1 m.L.length c1, .slice A2 m.fx.length c2, .slice A3 l3.length c3], .int .i64 0]) ?_ rfl ⟨A1, c1, A2, c2, A3, l3.length, c3, rfl, ?_, ?_, ?_⟩
  · simp [results, Tryd.results9, go_sem, x0, x1, x2]
  · exact SB.out
  · exact Q1.out
  · exact Q2.out
end Go.Proofs.YtcijjmmckofckaaDoor

/- Emit: the page's example; the law EmitMany. -/
namespace Go.Proofs.YtcijjmmckofckaaDoor
open Go.ChangeShapes Go.WideShapes Go.ChangeAt Go.RowKit
set_option linter.unusedVariables false
set_option linter.unusedSimpArgs false

theorem nums_of_row {w : World} {B : Nat} {A : Option Addr} {c : Nat} {L : List Ins} (h : w.ownsRow B u4T 1 (.slice A L.length c) L.length (L.flatMap wdC)) : Nums .u32 w A L.length (L.map wd) := by
  refine ⟨by simp, fun h0 => ?_⟩
  obtain ⟨hcap, g, rfl, _, hg, _⟩ := row_cell (f := wdC) (fun _ => rfl) zIns h rfl h0
  refine ⟨g, 0, rfl, hg, fun j hj => ?_⟩
  obtain ⟨_, g', e, _, _, hc⟩ := row_cell (f := wdC) (fun _ => rfl) zIns h rfl hj
  injection e with e
  injection e with e _ _
  subst e
  have := (hc 0 (by decide)).1
  rw [Nat.mul_one, Nat.add_zero] at this
  rw [Nat.zero_add, this]
  simp [wdC, List.getD_eq_getElem?_getD, hj]

theorem put_good {m : Em} {i : Ins} (hc : chk i = 0) (hr : m.L.length < 16384) : putE m i = ⟨m.L ++ [i], m.fx, m.dep, m.most, m.err⟩ := by
  unfold putE putF putI
  rw [if_pos hr, if_pos hc, if_pos hc]

theorem put_full {m : Em} {i : Ins} (hc : chk i = 0) (hr : ¬ m.L.length < 16384) : putE m i = failE m 242 := by
  unfold putE putF
  rw [if_neg hr, if_pos hc]

/-- A Code behind so many HALTs. -/
def manyE : Nat → Em
  | 0 => newE
  | t + 1 => putE (manyE t) ⟨1, 0, 0, 0, 0⟩

theorem many_lo : ∀ t, t ≤ 16384 → manyE t = ⟨List.replicate t hltI, [], 0, 0, 0⟩
  | 0, _ => rfl
  | t + 1, h => by
    rw [manyE, many_lo t (by omega), put_good (show chk ⟨1, 0, 0, 0, 0⟩ = 0 from chk_hlt) (by simp only [List.length_replicate]; omega), List.replicate_succ']
    rfl

theorem many_hi : ∀ t, manyE (16384 + (t + 1)) = ⟨List.replicate 16384 hltI, [], 0, 0, 242⟩
  | 0 => by
    rw [show 16384 + (0 + 1) = 16384 + 1 from rfl, manyE, many_lo 16384 (by omega), put_full (show chk ⟨1, 0, 0, 0, 0⟩ = 0 from chk_hlt) (by simp only [List.length_replicate]; omega)]
    rfl
  | t + 1 => by
    rw [show 16384 + (t + 1 + 1) = (16384 + (t + 1)) + 1 from rfl, manyE, many_hi t, put_full (show chk ⟨1, 0, 0, 0, 0⟩ = 0 from chk_hlt) (by simp only [List.length_replicate]; omega)]
    rfl

theorem CdM.after {w w' : World} {B g : Nat} {T : Nat → Prop} {N M N' M' : Nat} {m m' : Em} (h : CdM w B g T N M m) (q : CdPM w w' B g T N' M' m') : Below B w w' ∧ ∃ T', CdM w' B g T' N' M' m' := by
  obtain ⟨T', h', k, _⟩ := q
  obtain ⟨_, _, _, _, _, _, _, _, h⟩ := h
  exact ⟨KeptS.below (Below.refl B w) k (Nat.le_of_lt (Nat.lt_of_le_of_lt (h.frm g h.tg).1 h.whole.lt)) (fun b hb => (h.frm b hb).1), T', h'⟩

def awE : Em := putE (patchE (putE (putE newE ⟨22, 0, 0, 0, 0⟩) ⟨1, 0, 0, 0, 0⟩) 0 1) ⟨1, 0, 0, 0, 0⟩

theorem awE_is : awE = ⟨[⟨22, 0, 0, 0, 1⟩, hltI, hltI], [], 0, 0, 0⟩ := by rfl

set_option maxHeartbeats 16000000 in
set_option maxRecDepth 100000 in
theorem words17_same (A1 A2 : Option Addr) (n c1 c2 : Nat) (zs : List Int) (w : World) (h1 : Nums .u32 w A1 n zs) (h2 : Nums .u32 w A2 n zs) (hn : n ≤ 1000000) :
    Calls Tryd.prog 10 #[.slice A1 n c1, .slice A2 n c2] w fun e w' => e = .returned (.bool true) ∧ Below w.heap.size w w' := by
  have H1 := Lib.hid h1
  have H2 := Lib.hid h2
  clear h1 h2
  go_enter Tryd.func10, Tryd.ntmps10
  go_wp2_with fail
  go_loopw [5] (fun i wr => ∃ t q : Nat, t ≤ n ∧ i = .int .i64 t ∧ wr = w.drewN q) (fun i _ => n - (intOf i).toNat)
  case atStart => exact ⟨0, 0, Nat.zero_le _, rfl, rfl⟩
  case round =>
    obtain ⟨t, q, ht, rfl, rfl⟩ := hrel
    by_cases hlt : t < n
    · have hI : (t : Int) < n := by omega
      obtain ⟨ba, oa, rfl, _, ha⟩ := H1.out.2 (by omega)
      obtain ⟨bb, ob, rfl, _, hb⟩ := H2.out.2 (by omega)
      have u0 := ha t hlt
      have v0 := hb t hlt
      clear ha hb
      generalize zs.getD t 0 = z at *
      go_wp2_with fail
      go_quiet (fail)
      go_wp2_with fail
      go_roundw
      case rel => exact ⟨t + 1, _, by omega, by go_num, rfl⟩
      case measure => simp [intOf]; omega
    · have hI : ¬ (t : Int) < n := by omega
      go_wp2_with fail
      go_ret
      exact ⟨rfl, below_drawn (Below.refl _ _) q⟩

set_option maxHeartbeats 16000000 in
set_option maxRecDepth 100000 in
theorem awake17_any (w : World) (hS : ShapesIn w) :
    Calls Tryd.prog 6 #[] w fun e w' => e = .returned (.bool true) ∧ Below w.heap.size w w' := by
  have NE := Lib.hid (enew_any w.heap.size 0 w (Nat.le_refl _) hS hS.lt)
  clear hS
  go_enter Tryd.func6, Tryd.ntmps6
  go_wp2_with fail
  refine NE.out.mono ?_
  rintro e y1 ⟨g, T1, rfl, hc, hb, _⟩
  have C1 := Lib.hid hc
  have B1 := Lib.hid hb
  clear hc hb NE
  have PX := Lib.hid (jump_any 22 0 (by unfold I64; omega) (by unfold I64; omega) w.heap.size g T1 0 newE y1 C1.out (by omega))
  go_wp2_with fail
  refine PX.out.mono ?_
  rintro e y2 ⟨rfl, hp⟩
  have BC := Lib.hid (C1.out.after hp)
  obtain ⟨T2, hc⟩ := BC.out.2
  have C2 := Lib.hid hc
  have B2 := Lib.hid (B1.out.trans BC.out.1)
  clear PX hp hc BC B1 C1
  have E1 := Lib.hid (show ((putE newE ⟨22, 0, 0, 0, 0⟩).L.length : Int) - 1 = 0 from rfl)
  try rw [E1.out]
  have PX := Lib.hid (reg_any 1 0 (by unfold I64; omega) (by unfold I64; omega) w.heap.size g T2 0 _ y2 C2.out (by omega))
  go_wp2_with fail
  refine PX.out.mono ?_
  rintro e y3 ⟨rfl, hp⟩
  have BC := Lib.hid (C2.out.after hp)
  obtain ⟨T3, hc⟩ := BC.out.2
  have C3 := Lib.hid hc
  have B3 := Lib.hid (B2.out.trans BC.out.1)
  clear PX hp hc BC B2 C2
  have PX := Lib.hid (land_any 0 (by omega) (by omega) w.heap.size g T3 0 _ y3 C3.out (by omega))
  go_wp2_with fail
  refine PX.out.mono ?_
  rintro e y4 ⟨rfl, hp⟩
  have BC := Lib.hid (C3.out.after hp)
  obtain ⟨T4, hc⟩ := BC.out.2
  have C4 := Lib.hid hc
  have B4 := Lib.hid (B3.out.trans BC.out.1)
  clear PX hp hc BC B3 C3
  have PX := Lib.hid (reg_any 1 0 (by unfold I64; omega) (by unfold I64; omega) w.heap.size g T4 0 _ y4 C4.out (by omega))
  go_wp2_with fail
  refine PX.out.mono ?_
  rintro e y5 ⟨rfl, hp⟩
  have BC := Lib.hid (C4.out.after hp)
  obtain ⟨T5, hc⟩ := BC.out.2
  have C5 := Lib.hid hc
  have B5 := Lib.hid (B4.out.trans BC.out.1)
  clear PX hp hc BC B4 C4
  have C6 := Lib.hid (show CdM y5 w.heap.size g T5 0 3 awE from C5.out)
  rw [awE_is] at C6
  have FE := Lib.hid (finish_ok w.heap.size g T5 0 3 _ y5 C6.out (by omega) (by omega) rfl)
  clear C5 C6
  generalize (putE (patchE _ _ _) _).L.length = z5
  generalize (putE _ _).L.length = z3
  go_wp2_with fail
  refine FE.out.mono ?_
  rintro e y6 ⟨A1, c1, A2, c2, A3, n3, c3, rfl, hb6, ho6, _⟩
  have B6 := Lib.hid (B5.out.trans (hb6.mono B5.out.size))
  have N6 := Lib.hid (nums_of_row (L := [⟨22, 0, 0, 0, 1⟩, hltI, hltI]) ho6)
  have XR := Lib.hid (Whole.made y6 resT #[.slice A1 3 c1, .slice A2 0 c2, .slice A3 n3 c3] _ rfl)
  have XL := Lib.hid (Whole.made (y6.alloc (.cells #[.slice A1 3 c1, .slice A2 0 c2, .slice A3 n3 c3] resT)) u4T #[.int .u32 369098753, .int .u32 16777216, .int .u32 16777216] (y6.heap.size + 1) (by simp))
  have BA := Lib.hid (((Below.refl y6.heap.size y6).alloc (Nat.le_refl _) (.cells #[.slice A1 3 c1, .slice A2 0 c2, .slice A3 n3 c3] resT)).alloc (Nat.le_trans (Nat.le_refl _) ((Below.refl y6.heap.size y6).alloc (Nat.le_refl _) (.cells #[.slice A1 3 c1, .slice A2 0 c2, .slice A3 n3 c3] resT)).size) (.cells #[.int .u32 369098753, .int .u32 16777216, .int .u32 16777216] u4T))
  have WS := Lib.hid (words17_same A1 (some ⟨y6.heap.size + 1, 0, none⟩) 3 c1 3 [369098753, 16777216, 16777216] ((y6.alloc (.cells #[.slice A1 3 c1, .slice A2 0 c2, .slice A3 n3 c3] resT)).alloc (.cells #[.int .u32 369098753, .int .u32 16777216, .int .u32 16777216] u4T)) (N6.out.below BA.out) ⟨rfl, fun _ => ⟨_, 0, rfl, XL.out.lt, fun j hj => by
    rw [Nat.zero_add, XL.out.cell j]
    match j, hj with
    | 0, _ => rfl
    | 1, _ => rfl
    | 2, _ => rfl⟩⟩ (by omega))
  have r0 : (y6.alloc (.cells #[.slice A1 3 c1, .slice A2 0 c2, .slice A3 n3 c3] resT)).cell? ⟨y6.heap.size, 0, none⟩ = some (.slice A1 3 c1) := XR.out.cell 0
  clear FE hb6 ho6 N6 XL
  go_wp2_with fail
  refine WS.out.mono ?_
  rintro e y8 ⟨rfl, hb8⟩
  have B8 := Lib.hid (B6.out.trans ((BA.out.trans (hb8.mono BA.out.size)).mono B6.out.size))
  clear WS hb8 r0 XR BA B6 B5
  go_wp2_with fail
  go_ret
  exact ⟨rfl, B8.out⟩

set_option maxHeartbeats 16000000 in
set_option maxRecDepth 100000 in
theorem emitmany_walk (w : World) (hS : ShapesIn w) (n : Int) (h0 : 0 ≤ n) (h1 : n ≤ 65535) :
    Calls Tryd.prog 5 #[.int .u16 n] w fun e w' => e = .returned (.bool true) ∧ Below w.heap.size w w' := by
  have AW := Lib.hid (awake17_any w hS)
  have NE := Lib.hid (fun y (hb : Below w.heap.size w y) => enew_any w.heap.size 0 y hb.size (hS.below hb (Nat.le_refl _)) hS.lt)
  clear hS
  obtain ⟨k, hk, hk2⟩ : ∃ k : Nat, n.tmod 17000 = (k : Int) ∧ k < 17000 := ⟨(n % 17000).toNat, by rw [Int.tmod_eq_emod_of_nonneg h0]; omega, by omega⟩
  go_enter Tryd.func5, Tryd.ntmps5
  go_wp2_with fail
  refine AW.out.mono ?_
  rintro e y0 ⟨rfl, hb0⟩
  have NE1 := Lib.hid (NE.out y0 hb0)
  have B0 := Lib.hid hb0
  clear hb0 AW NE
  go_wp2_with fail
  refine NE1.out.mono ?_
  rintro e y1 ⟨g, T1, rfl, hc, hb, _⟩
  have C1 := Lib.hid (show CdAt y1 w.heap.size g T1 0 (manyE 0) from hc)
  have B1 := Lib.hid (B0.out.trans (hb.mono B0.out.size))
  clear hc hb NE1 B0
  go_wp2_with fail
  go_loopw [5] (fun i wr => ∃ t : Nat, t ≤ k ∧ i = .int .i64 t ∧ Below w.heap.size w wr ∧ ∃ T, CdAt wr w.heap.size g T 0 (manyE t)) (fun i _ => k - (intOf i).toNat)
  case atStart => exact ⟨0, Nat.zero_le _, rfl, B1.out, T1, C1.out⟩
  case round =>
    obtain ⟨t, ht, rfl, hb, T, hc⟩ := hrel
    have BR := Lib.hid hb
    have CR := Lib.hid hc
    clear hb hc B1 C1
    by_cases hlt : t < k
    · have hI : (t : Int) < k := by omega
      have RE := Lib.hid (reg_any 1 0 (by unfold I64; omega) (by unfold I64; omega) w.heap.size g T 0 (manyE t) wr CR.out (by omega))
      go_wp2_with fail
      refine RE.out.mono ?_
      rintro e y2 ⟨rfl, hp⟩
      have BC := Lib.hid (CR.out.after hp)
      obtain ⟨T2, hc⟩ := BC.out.2
      have C2 := Lib.hid hc
      have B2 := Lib.hid (BR.out.trans BC.out.1)
      clear hp hc BC RE BR CR
      go_wp2_with fail
      go_roundw
      case rel => exact ⟨t + 1, by omega, by go_num, B2.out, T2, C2.out⟩
      case measure => simp [intOf]; omega
    · have hI : ¬ (t : Int) < k := by omega
      obtain rfl : t = k := by omega
      by_cases hm : 16384 < t
      · have dm : decide ((16384 : Int) < t) = true := decide_eq_true (by omega)
        obtain ⟨q, rfl⟩ : ∃ q, t = 16384 + (q + 1) := ⟨t - 16385, by omega⟩
        rw [many_hi] at CR
        have FE := Lib.hid (finish_bad w.heap.size g T 0 _ _ wr CR.out (by omega) (by decide))
        go_wp2_with fail
        refine FE.out.mono ?_
        rintro e y3 ⟨rfl, hb3⟩
        have BA := Lib.hid ((Below.refl y3.heap.size y3).alloc (Nat.le_refl _) (.cells #[.slice none 0 0, .slice none 0 0, .slice none 0 0] resT))
        have XR := Lib.hid (Whole.made y3 resT #[.slice none 0 0, .slice none 0 0, .slice none 0 0] _ rfl)
        have r0 : (y3.alloc (.cells #[.slice none 0 0, .slice none 0 0, .slice none 0 0] resT)).cell? ⟨y3.heap.size, 0, none⟩ = some (.slice none 0 0) := XR.out.cell 0
        have BV := Lib.hid (BR.out.trans ((hb3.trans (BA.out.mono hb3.size)).mono BR.out.size))
        have HE := Lib.hid (here_any w.heap.size g T 0 _ _ (y3.alloc (.cells #[.slice none 0 0, .slice none 0 0, .slice none 0 0] resT)) (CR.out.below (hb3.trans (BA.out.mono hb3.size))))
        have HL := Lib.hid (show ((List.replicate 16384 hltI).length : Int) = 16384 from by rw [List.length_replicate]; rfl)
        simp only [] at HE
        rw [HL.out] at HE
        clear hb3 FE CR BR BA XR
        go_wp2_with fail
        refine HE.out.mono ?_
        rintro e y4 ⟨rfl, rfl⟩
        go_wp2_with fail
        go_ret
        exact ⟨rfl, BV.out⟩
      · have dm : decide ((16384 : Int) < t) = false := decide_eq_false (by omega)
        rw [many_lo t (by omega)] at CR
        have FE := Lib.hid (finish_ok w.heap.size g T 0 _ _ wr CR.out (by omega) (by simp only [List.length_replicate]; omega) rfl)
        have HL := Lib.hid (show (List.replicate t hltI).length = t from List.length_replicate)
        rw [HL.out] at FE
        go_wp2_with fail
        refine FE.out.mono ?_
        rintro e y3 ⟨A1, c1, A2, c2, A3, n3, c3, rfl, hb3, _, _⟩
        have BA := Lib.hid ((Below.refl y3.heap.size y3).alloc (Nat.le_refl _) (.cells #[.slice A1 t c1, .slice A2 0 c2, .slice A3 n3 c3] resT))
        have XR := Lib.hid (Whole.made y3 resT #[.slice A1 t c1, .slice A2 0 c2, .slice A3 n3 c3] _ rfl)
        have r0 : (y3.alloc (.cells #[.slice A1 t c1, .slice A2 0 c2, .slice A3 n3 c3] resT)).cell? ⟨y3.heap.size, 0, none⟩ = some (.slice A1 t c1) := XR.out.cell 0
        have BV := Lib.hid (BR.out.trans ((hb3.trans (BA.out.mono hb3.size)).mono BR.out.size))
        clear hb3 FE CR BR BA XR
        go_wp2_with fail
        go_ret
        exact ⟨rfl, BV.out⟩
end Go.Proofs.YtcijjmmckofckaaDoor

/- Emit: the law EmitPlays. -/
namespace Go.Proofs.YtcijjmmckofckaaDoor
open Go.ChangeShapes Go.WideShapes Go.ChangeAt Go.RowKit
set_option linter.unusedVariables false
set_option linter.unusedSimpArgs false

set_option maxHeartbeats 16000000 in
set_option maxRecDepth 100000 in
theorem emitplays_walk (w : World) (hS : ShapesIn w) (A : Option Addr) (l : List Opp) (c : Nat) (hO : LstV opCells w.heap.size w (.slice A l.length c) l) (hg : ∀ o ∈ l, OppIn o) (hl : l.length ≤ maxLen) :
    Calls Tryd.prog 3 #[.slice A l.length c] w fun e w' => e = .returned (.bool true) ∧ Below w.heap.size w w' := by
  have AW := Lib.hid (awake17_any w hS)
  have PA := Lib.hid (fun y (hb : Below w.heap.size w y) => played_any A l c y (by
    obtain ⟨A', c', e, h⟩ := hO.below hb
    exact ⟨A', c', e, fun hn => by
      obtain ⟨b, off, h1, h2, h3, h4⟩ := h hn
      exact ⟨b, off, h1, h3, h3, h4⟩⟩) hg hl (hS.below hb (Nat.le_refl _)))
  clear hO hg hS hl
  go_enter Tryd.func3, Tryd.ntmps3
  go_wp2_with fail
  refine AW.out.mono ?_
  rintro e y0 ⟨rfl, hb0⟩
  have PX := Lib.hid (PA.out y0 hb0)
  have B0 := Lib.hid hb0
  clear hb0 AW PA
  go_wp2_with fail
  refine PX.out.mono ?_
  rintro e yb ⟨g, T, m, AL, cL, AG, cG, AF, cF, AP, cP, AA, cA, gl, pl, al, rfl, hc, hr, hb⟩
  have BB := Lib.hid (B0.out.trans (hb.mono B0.out.size))
  have CB := Lib.hid hc
  have RB := Lib.hid hr
  have B1 := Lib.hid ((Below.refl yb.heap.size yb).alloc (Nat.le_refl _) (.cells #[.slice AL m.L.length cL, .slice AG gl.length cG, .slice AF m.fx.length cF, .slice AP pl.length cP, .slice AA al.length cA, .int .i64 m.dep, .int .i64 m.most, .int .i64 m.err] rfT))
  have X1 := Lib.hid (Whole.made yb rfT #[.slice AL m.L.length cL, .slice AG gl.length cG, .slice AF m.fx.length cF, .slice AP pl.length cP, .slice AA al.length cA, .int .i64 m.dep, .int .i64 m.most, .int .i64 m.err] _ rfl)
  clear hc hr hb PX
  go_wp2_with fail
  have V0 := Lib.hid (rfl : (0 : Nat) = 0)
  have FB := Lib.hid (show ∀ b, T b → y0.heap.size ≤ b ∧ b < yb.heap.size from by
    obtain ⟨_, _, _, _, _, _, _, _, h0⟩ := CB.out
    exact h0.frm)
  have NB := Lib.hid (show ¬ T yb.heap.size from fun e => by have := (FB.out _ e).2; omega)
  have FB := Lib.hid (fun b hb => Nat.le_trans B0.out.size (FB.out b hb).1)
  have BB := Lib.hid (BB.out.trans (B1.out.drew.mono BB.out.size))
  have CB := Lib.hid (CB.out.below B1.out.drew)
  have RB := Lib.hid (RB.out.below B1.out.drew)
  have X1 := Lib.hid (show Whole (yb.alloc (.cells #[.slice AL m.L.length cL, .slice AG gl.length cG, .slice AF m.fx.length cF, .slice AP pl.length cP, .slice AA al.length cA, .int .i64 m.dep, .int .i64 m.most, .int .i64 m.err] rfT)).drew yb.heap.size rfT #[.slice AL m.L.length cL, .slice AG gl.length cG, .slice AF m.fx.length cF, .slice AP pl.length cP, .slice AA al.length cA, .int .i64 m.dep, .int .i64 m.most, .int .i64 m.err] from X1.out)
  have GX := Lib.hid (show yb.heap.size < (yb.alloc (.cells #[.slice AL m.L.length cL, .slice AG gl.length cG, .slice AF m.fx.length cF, .slice AP pl.length cP, .slice AA al.length cA, .int .i64 m.dep, .int .i64 m.most, .int .i64 m.err] rfT)).drew.heap.size from X1.out.lt)
  have L0 : (yb.alloc (.cells #[.slice AL m.L.length cL, .slice AG gl.length cG, .slice AF m.fx.length cF, .slice AP pl.length cP, .slice AA al.length cA, .int .i64 m.dep, .int .i64 m.most, .int .i64 m.err] rfT)).drew.cell? ⟨yb.heap.size, 5, none⟩ = some (.int .i64 m.dep) ∧ (yb.alloc (.cells #[.slice AL m.L.length cL, .slice AG gl.length cG, .slice AF m.fx.length cF, .slice AP pl.length cP, .slice AA al.length cA, .int .i64 m.dep, .int .i64 m.most, .int .i64 m.err] rfT)).drew.cell? ⟨yb.heap.size, 6, none⟩ = some (.int .i64 m.most) := ⟨X1.out.cell 5, X1.out.cell 6⟩
  clear B1
  refine wp_region_noPanic ?_
  refine wp_region_held_drew (S := fun y => y.cell? ⟨yb.heap.size, 5, none⟩ = some (.int .i64 m.dep) ∧ y.cell? ⟨yb.heap.size, 6, none⟩ = some (.int .i64 m.most)) (by kernel_rfl) L0 (fun hHeld => ?_)
  refine wpAnyH_take (i := 0) (oi := _) (v := .bool true) rfl (by kernel_rfl) (by kernel_rfl) (by kernel_rfl) (fun _ _ _ h => h) (Or.inl ⟨by rfl, fun w hSw => by (try dsimp only at hSw); go_simp⟩) (by assumption) ?_
  try simp only [Act.put, List.getElem_toArray, List.getElem_cons_succ, List.getElem_cons_zero, List.setIfInBounds_toArray, List.set_cons_zero, List.set_cons_succ]
  refine wpAnyH_take (i := 1) (oi := _) (v := .bool false) rfl (by kernel_rfl) (by kernel_rfl) (by kernel_rfl) (fun _ _ _ h => h) (Or.inl ⟨by rfl, fun w hSw => by (try dsimp only at hSw); go_simp⟩) (by assumption) ?_
  try simp only [Act.put, List.getElem_toArray, List.getElem_cons_succ, List.getElem_cons_zero, List.setIfInBounds_toArray, List.set_cons_zero, List.set_cons_succ]
  refine wpAnyH_take (i := 2) (oi := _) (v := .bool false) rfl (by kernel_rfl) (by kernel_rfl) (by kernel_rfl) (fun _ _ _ h => h) (Or.inl ⟨by rfl, fun w hSw => by (try dsimp only at hSw); go_simp⟩) (by assumption) ?_
  try simp only [Act.put, List.getElem_toArray, List.getElem_cons_succ, List.getElem_cons_zero, List.setIfInBounds_toArray, List.set_cons_zero, List.set_cons_succ]
  refine wpAnyH_take (i := 3) (oi := _) (v := .pointer (some ⟨g, 0, none⟩)) rfl (by kernel_rfl) (by kernel_rfl) (by kernel_rfl) (fun _ _ _ h => h) (Or.inl ⟨by rfl, fun w hSw => by (try dsimp only at hSw); go_simp⟩) (by assumption) ?_
  try simp only [Act.put, List.getElem_toArray, List.getElem_cons_succ, List.getElem_cons_zero, List.setIfInBounds_toArray, List.set_cons_zero, List.set_cons_succ]
  refine wpAnyH_take (i := 5) (oi := _) (v := .pointer (some ⟨yb.heap.size, 6, none⟩)) rfl (by kernel_rfl) (by kernel_rfl) (by kernel_rfl) (fun _ _ _ h => h) (Or.inl ⟨by rfl, fun w hSw => by (try dsimp only at hSw); go_simp⟩) (by assumption) ?_
  try simp only [Act.put, List.getElem_toArray, List.getElem_cons_succ, List.getElem_cons_zero, List.setIfInBounds_toArray, List.set_cons_zero, List.set_cons_succ]
  refine wpAnyH_take (i := 6) (oi := _) (v := .int .i64 m.most) rfl (by kernel_rfl) (by kernel_rfl) (by kernel_rfl) (fun _ _ _ h => h) (Or.inl ⟨by rfl, fun w hSw => by (try dsimp only at hSw); go_simp⟩) (by assumption) ?_
  try simp only [Act.put, List.getElem_toArray, List.getElem_cons_succ, List.getElem_cons_zero, List.setIfInBounds_toArray, List.set_cons_zero, List.set_cons_succ]
  clear L0
  refine wpAnyH_ready (rs := [4]) (by kernel_rfl) (by simp) (AllReadyH.cons (o := _) rfl (fun K hK => ?_) AllReadyH.nil)
  go_simp
  go_at_call 8
  refine ((most_any y0.heap.size g T 400 m.L.length m _ CB.out)).mono ?_
  rintro e y2 ⟨rfl, hp⟩
  obtain ⟨T2, hc2, hk2, ht2⟩ := hp
  have X1 := Lib.hid (hk2.whole X1.out NB.out)
  have BB := Lib.hid (KeptS.below BB.out hk2 BB.out.size FB.out)
  have NB := Lib.hid (show ¬ T2 yb.heap.size from fun e => by
    rcases ht2 _ e with h | h
    · exact NB.out h
    · have := GX.out
      omega)
  have GX := Lib.hid (show yb.heap.size < y2.heap.size from X1.out.lt)
  have KR := Lib.hid (RB.out.kept hk2 ht2)
  have CB := Lib.hid hc2
  have S1 : y2.cell? ⟨yb.heap.size, 5, none⟩ = some (.int .i64 m.dep) ∧ y2.cell? ⟨yb.heap.size, 6, none⟩ = some (.int .i64 m.most) := ⟨X1.out.cell 5, X1.out.cell 6⟩
  clear hc2 hk2 ht2
  refine hK.out _ _ S1 (fun hHeld => ?_)
  clear hK K
  try simp only [Act.put, List.getElem_toArray, List.getElem_cons_succ, List.getElem_cons_zero, List.setIfInBounds_toArray, List.set_cons_zero, List.set_cons_succ]
  refine wpAnyH_take (i := 7) (oi := _) (v := .bool false) rfl (by kernel_rfl) (by kernel_rfl) (by kernel_rfl) (fun _ _ _ h => h) (Or.inl ⟨by rfl, fun w hSw => by (try dsimp only at hSw); go_simp⟩) (by assumption) ?_
  try simp only [Act.put, List.getElem_toArray, List.getElem_cons_succ, List.getElem_cons_zero, List.setIfInBounds_toArray, List.set_cons_zero, List.set_cons_succ]
  refine wpAnyH_take (i := 8) (oi := _) (v := .bool false) rfl (by kernel_rfl) (by kernel_rfl) (by kernel_rfl) (fun _ _ _ h => h) (Or.inl ⟨by rfl, fun w hSw => by (try dsimp only at hSw); go_simp⟩) (by assumption) ?_
  try simp only [Act.put, List.getElem_toArray, List.getElem_cons_succ, List.getElem_cons_zero, List.setIfInBounds_toArray, List.set_cons_zero, List.set_cons_succ]
  refine wpAnyH_take (i := 9) (oi := _) (v := .bool false) rfl (by kernel_rfl) (by kernel_rfl) (by kernel_rfl) (fun _ _ _ h => h) (Or.inl ⟨by rfl, fun w hSw => by (try dsimp only at hSw); go_simp⟩) (by assumption) ?_
  try simp only [Act.put, List.getElem_toArray, List.getElem_cons_succ, List.getElem_cons_zero, List.setIfInBounds_toArray, List.set_cons_zero, List.set_cons_succ]
  refine wpAnyH_take (i := 10) (oi := _) (v := .pointer (some ⟨g, 0, none⟩)) rfl (by kernel_rfl) (by kernel_rfl) (by kernel_rfl) (fun _ _ _ h => h) (Or.inl ⟨by rfl, fun w hSw => by (try dsimp only at hSw); go_simp⟩) (by assumption) ?_
  try simp only [Act.put, List.getElem_toArray, List.getElem_cons_succ, List.getElem_cons_zero, List.setIfInBounds_toArray, List.set_cons_zero, List.set_cons_succ]
  refine wpAnyH_take (i := 12) (oi := _) (v := .pointer (some ⟨yb.heap.size, 5, none⟩)) rfl (by kernel_rfl) (by kernel_rfl) (by kernel_rfl) (fun _ _ _ h => h) (Or.inl ⟨by rfl, fun w hSw => by (try dsimp only at hSw); go_simp⟩) (by assumption) ?_
  try simp only [Act.put, List.getElem_toArray, List.getElem_cons_succ, List.getElem_cons_zero, List.setIfInBounds_toArray, List.set_cons_zero, List.set_cons_succ]
  refine wpAnyH_take (i := 13) (oi := _) (v := .int .i64 m.dep) rfl (by kernel_rfl) (by kernel_rfl) (by kernel_rfl) (fun _ _ _ h => h) (Or.inl ⟨by rfl, fun w hSw => by (try dsimp only at hSw); go_simp⟩) (by assumption) ?_
  try simp only [Act.put, List.getElem_toArray, List.getElem_cons_succ, List.getElem_cons_zero, List.setIfInBounds_toArray, List.set_cons_zero, List.set_cons_succ]
  refine wpAnyH_ready (rs := [11]) (by kernel_rfl) (by simp) (AllReadyH.cons (o := _) rfl (fun K hK => ?_) AllReadyH.nil)
  go_simp
  go_at_call 8
  refine ((most_any y0.heap.size g T2 400 m.L.length ⟨m.L, m.fx, m.dep, m.dep, m.err⟩ _ CB.out)).mono ?_
  rintro e y3 ⟨rfl, hp⟩
  obtain ⟨T3, hc3, hk3, ht3⟩ := hp
  have FB2 := Lib.hid (show ∀ b, T2 b → w.heap.size ≤ b from by
    obtain ⟨_, _, _, _, _, _, _, _, h0⟩ := CB.out
    exact fun b hb => Nat.le_trans B0.out.size (h0.frm b hb).1)
  have X1 := Lib.hid (hk3.whole X1.out NB.out)
  have BB := Lib.hid (KeptS.below BB.out hk3 BB.out.size FB2.out)
  have KR := Lib.hid (KR.out.kept hk3 ht3)
  have CB := Lib.hid hc3
  have S2 : y3.cell? ⟨yb.heap.size, 5, none⟩ = some (.int .i64 m.dep) ∧ y3.cell? ⟨yb.heap.size, 6, none⟩ = some (.int .i64 m.most) := ⟨X1.out.cell 5, X1.out.cell 6⟩
  clear hc3 hk3 ht3
  refine hK.out _ _ S2 (fun hHeld => ?_)
  clear hK K
  try simp only [Act.put, List.getElem_toArray, List.getElem_cons_succ, List.getElem_cons_zero, List.setIfInBounds_toArray, List.set_cons_zero, List.set_cons_succ]
  refine wpAnyH_take (i := 14) (oi := _) (v := .bool false) rfl (by kernel_rfl) (by kernel_rfl) (by kernel_rfl) (fun _ _ _ h => h) (Or.inl ⟨by rfl, fun w hSw => by (try dsimp only at hSw); go_simp⟩) (by assumption) ?_
  try simp only [Act.put, List.getElem_toArray, List.getElem_cons_succ, List.getElem_cons_zero, List.setIfInBounds_toArray, List.set_cons_zero, List.set_cons_succ]
  refine wpAnyH_take (i := 15) (oi := _) (v := .bool false) rfl (by kernel_rfl) (by kernel_rfl) (by kernel_rfl) (fun _ _ _ h => h) (Or.inl ⟨by rfl, fun w hSw => by (try dsimp only at hSw); go_simp⟩) (by assumption) ?_
  try simp only [Act.put, List.getElem_toArray, List.getElem_cons_succ, List.getElem_cons_zero, List.setIfInBounds_toArray, List.set_cons_zero, List.set_cons_succ]
  refine wpAnyH_done (by kernel_rfl) ?_ _
  refine NoPanic.normal ?_
  go_wp2_with fail
  by_cases he : m.err = 0
  case neg =>
    have FE := Lib.hid (finish_bad y0.heap.size g T3 400 m.L.length ⟨m.L, m.fx, m.dep, m.dep, m.err⟩ y3 CB.out (by omega) he)
    have d : (m.err != 0) = true := by simpa using he
    clear he
    go_wp2_with fail
    refine FE.out.mono ?_
    rintro e y4 ⟨rfl, hb4⟩
    have B4 := Lib.hid (hb4.alloc hb4.size (.cells #[.slice none 0 0, .slice none 0 0, .slice none 0 0] resT))
    have XR := Lib.hid (Whole.made y4 resT #[.slice none 0 0, .slice none 0 0, .slice none 0 0] _ rfl)
    have X1 := Lib.hid (X1.out.below B4.out X1.out.lt)
    have BF := Lib.hid (BB.out.trans (B4.out.mono BB.out.size))
    have r0 : (y4.alloc (.cells #[.slice none 0 0, .slice none 0 0, .slice none 0 0] resT)).cell? ⟨y4.heap.size, 0, none⟩ = some (.slice none 0 0) := XR.out.cell 0
    have x7 : (y4.alloc (.cells #[.slice none 0 0, .slice none 0 0, .slice none 0 0] resT)).cell? ⟨yb.heap.size, 7, none⟩ = some (.int .i64 m.err) := X1.out.cell 7
    clear hb4 FE S1 S2
    go_wp2_with fail
    go_ret
    exact ⟨rfl, BF.out⟩
  case pos =>
    have FE := Lib.hid (finish_ok y0.heap.size g T3 400 m.L.length ⟨m.L, m.fx, m.dep, m.dep, m.err⟩ y3 CB.out (by omega) (by have := KR.out.ok.len; omega) he)
    have d : (m.err != 0) = false := by simpa using he
    clear he
    go_wp2_with fail
    refine FE.out.mono ?_
    rintro e y4 ⟨Aw, cw, Af, cf, A3, n3, c3, rfl, hb4, hw4, hf4⟩
    have BR := Lib.hid ((Below.refl y4.heap.size y4).alloc (Nat.le_refl _) (.cells #[.slice Aw m.L.length cw, .slice Af m.fx.length cf, .slice A3 n3 c3] resT))
    have B4 := Lib.hid (hb4.alloc hb4.size (.cells #[.slice Aw m.L.length cw, .slice Af m.fx.length cf, .slice A3 n3 c3] resT))
    have XR := Lib.hid (Whole.made y4 resT #[.slice Aw m.L.length cw, .slice Af m.fx.length cf, .slice A3 n3 c3] _ rfl)
    have X1 := Lib.hid (X1.out.below B4.out X1.out.lt)
    have BF := Lib.hid (BB.out.trans (B4.out.mono BB.out.size))
    have NW := Lib.hid ((nums_of_row hw4).below (BR.out.drew))
    have FW := Lib.hid (row_below hf4 BR.out.drew)
    have KR := Lib.hid ((KR.out.below hb4).below BR.out.drew)
    have x7 : (y4.alloc (.cells #[.slice Aw m.L.length cw, .slice Af m.fx.length cf, .slice A3 n3 c3] resT)).cell? ⟨yb.heap.size, 7, none⟩ = some (.int .i64 m.err) := X1.out.cell 7
    have L0 : (y4.alloc (.cells #[.slice Aw m.L.length cw, .slice Af m.fx.length cf, .slice A3 n3 c3] resT)).drew.cell? ⟨y4.heap.size, 0, none⟩ = some (.slice Aw m.L.length cw) ∧ (y4.alloc (.cells #[.slice Aw m.L.length cw, .slice Af m.fx.length cf, .slice A3 n3 c3] resT)).drew.cell? ⟨y4.heap.size, 1, none⟩ = some (.slice Af m.fx.length cf) ∧ (y4.alloc (.cells #[.slice Aw m.L.length cw, .slice Af m.fx.length cf, .slice A3 n3 c3] resT)).drew.cell? ⟨yb.heap.size, 0, none⟩ = some (.slice AL m.L.length cL) ∧ (y4.alloc (.cells #[.slice Aw m.L.length cw, .slice Af m.fx.length cf, .slice A3 n3 c3] resT)).drew.cell? ⟨yb.heap.size, 1, none⟩ = some (.slice AG gl.length cG) ∧ (y4.alloc (.cells #[.slice Aw m.L.length cw, .slice Af m.fx.length cf, .slice A3 n3 c3] resT)).drew.cell? ⟨yb.heap.size, 2, none⟩ = some (.slice AF m.fx.length cF) ∧ (y4.alloc (.cells #[.slice Aw m.L.length cw, .slice Af m.fx.length cf, .slice A3 n3 c3] resT)).drew.cell? ⟨yb.heap.size, 3, none⟩ = some (.slice AP pl.length cP) ∧ (y4.alloc (.cells #[.slice Aw m.L.length cw, .slice Af m.fx.length cf, .slice A3 n3 c3] resT)).drew.cell? ⟨yb.heap.size, 4, none⟩ = some (.slice AA al.length cA) ∧ (y4.alloc (.cells #[.slice Aw m.L.length cw, .slice Af m.fx.length cf, .slice A3 n3 c3] resT)).drew.cell? ⟨yb.heap.size, 5, none⟩ = some (.int .i64 m.dep) ∧ (y4.alloc (.cells #[.slice Aw m.L.length cw, .slice Af m.fx.length cf, .slice A3 n3 c3] resT)).drew.cell? ⟨yb.heap.size, 6, none⟩ = some (.int .i64 m.most) ∧ (y4.alloc (.cells #[.slice Aw m.L.length cw, .slice Af m.fx.length cf, .slice A3 n3 c3] resT)).drew.cell? ⟨yb.heap.size, 7, none⟩ = some (.int .i64 m.err) := ⟨XR.out.cell 0, XR.out.cell 1, X1.out.cell 0, X1.out.cell 1, X1.out.cell 2, X1.out.cell 3, X1.out.cell 4, X1.out.cell 5, X1.out.cell 6, X1.out.cell 7⟩
    have TL := Lib.hid (show ∀ b, T3 b → b < (y4.alloc (.cells #[.slice Aw m.L.length cw, .slice Af m.fx.length cf, .slice A3 n3 c3] resT)).drew.heap.size from by
      obtain ⟨_, _, _, _, _, _, _, _, h0⟩ := CdM.below CB.out (hb4.trans (BR.out.drew.mono hb4.size))
      exact fun b hb => (h0.frm b hb).2)
    have WR := Lib.hid (refwords_any T3 400 m AL cL AG cG AF cF AP cP AA cA gl pl al (y4.alloc (.cells #[.slice Aw m.L.length cw, .slice Af m.fx.length cf, .slice A3 n3 c3] resT)).drew KR.out TL.out (by omega))
    have hl16 : m.L.length ≤ 16384 := KR.out.ok.len
    have hfx : m.fx.length ≤ 400 := KR.out.lf
    have XR := Lib.hid (show Whole (y4.alloc (.cells #[.slice Aw m.L.length cw, .slice Af m.fx.length cf, .slice A3 n3 c3] resT)).drew y4.heap.size resT #[.slice Aw m.L.length cw, .slice Af m.fx.length cf, .slice A3 n3 c3] from XR.out)
    have X1 := Lib.hid (show Whole (y4.alloc (.cells #[.slice Aw m.L.length cw, .slice Af m.fx.length cf, .slice A3 n3 c3] resT)).drew yb.heap.size rfT #[.slice AL m.L.length cL, .slice AG gl.length cG, .slice AF m.fx.length cF, .slice AP pl.length cP, .slice AA al.length cA, .int .i64 m.dep, .int .i64 m.most, .int .i64 m.err] from X1.out)
    have BF := Lib.hid BF.out.drew
    clear hb4 hw4 hf4 FE S1 S2
    go_wp2_with fail
    clear x7
    refine wp_region_noPanic ?_
    refine wp_region_held_drew (S := fun y => y.cell? ⟨y4.heap.size, 0, none⟩ = some (.slice Aw m.L.length cw) ∧ y.cell? ⟨y4.heap.size, 1, none⟩ = some (.slice Af m.fx.length cf) ∧ y.cell? ⟨yb.heap.size, 0, none⟩ = some (.slice AL m.L.length cL) ∧ y.cell? ⟨yb.heap.size, 1, none⟩ = some (.slice AG gl.length cG) ∧ y.cell? ⟨yb.heap.size, 2, none⟩ = some (.slice AF m.fx.length cF) ∧ y.cell? ⟨yb.heap.size, 3, none⟩ = some (.slice AP pl.length cP) ∧ y.cell? ⟨yb.heap.size, 4, none⟩ = some (.slice AA al.length cA) ∧ y.cell? ⟨yb.heap.size, 5, none⟩ = some (.int .i64 m.dep) ∧ y.cell? ⟨yb.heap.size, 6, none⟩ = some (.int .i64 m.most) ∧ y.cell? ⟨yb.heap.size, 7, none⟩ = some (.int .i64 m.err)) (by kernel_rfl) L0 (fun hHeld => ?_)
    refine wpAnyH_take (i := 0) (oi := _) (v := .int .i64 0) rfl (by kernel_rfl) (by kernel_rfl) (by kernel_rfl) (fun _ _ _ h => h) (Or.inl ⟨by rfl, fun w hSw => by (try dsimp only at hSw); go_simp⟩) (by assumption) ?_
    try simp only [Act.put, List.getElem_toArray, List.getElem_cons_succ, List.getElem_cons_zero, List.setIfInBounds_toArray, List.set_cons_zero, List.set_cons_succ]
    refine wpAnyH_take (i := 1) (oi := _) (v := .bool false) rfl (by kernel_rfl) (by kernel_rfl) (by kernel_rfl) (fun _ _ _ h => h) (Or.inl ⟨by rfl, fun w hSw => by (try dsimp only at hSw); go_simp⟩) (by assumption) ?_
    try simp only [Act.put, List.getElem_toArray, List.getElem_cons_succ, List.getElem_cons_zero, List.setIfInBounds_toArray, List.set_cons_zero, List.set_cons_succ]
    refine wpAnyH_take (i := 2) (oi := _) (v := .bool false) rfl (by kernel_rfl) (by kernel_rfl) (by kernel_rfl) (fun _ _ _ h => h) (Or.inl ⟨by rfl, fun w hSw => by (try dsimp only at hSw); go_simp⟩) (by assumption) ?_
    try simp only [Act.put, List.getElem_toArray, List.getElem_cons_succ, List.getElem_cons_zero, List.setIfInBounds_toArray, List.set_cons_zero, List.set_cons_succ]
    refine wpAnyH_take (i := 3) (oi := _) (v := .pointer (some ⟨y4.heap.size, 0, none⟩)) rfl (by kernel_rfl) (by kernel_rfl) (by kernel_rfl) (fun _ _ _ h => h) (Or.inl ⟨by rfl, fun w hSw => by (try dsimp only at hSw); go_simp⟩) (by assumption) ?_
    try simp only [Act.put, List.getElem_toArray, List.getElem_cons_succ, List.getElem_cons_zero, List.setIfInBounds_toArray, List.set_cons_zero, List.set_cons_succ]
    refine wpAnyH_take (i := 4) (oi := _) (v := .slice Aw m.L.length cw) rfl (by kernel_rfl) (by kernel_rfl) (by kernel_rfl) (fun _ _ _ h => h) (Or.inl ⟨by rfl, fun w hSw => by (try dsimp only at hSw); go_simp⟩) (by assumption) ?_
    try simp only [Act.put, List.getElem_toArray, List.getElem_cons_succ, List.getElem_cons_zero, List.setIfInBounds_toArray, List.set_cons_zero, List.set_cons_succ]
    refine wpAnyH_take (i := 5) (oi := _) (v := .agg #[.slice AL m.L.length cL, .slice AG gl.length cG, .slice AF m.fx.length cF, .slice AP pl.length cP, .slice AA al.length cA, .int .i64 m.dep, .int .i64 m.most, .int .i64 m.err]) rfl (by kernel_rfl) (by kernel_rfl) (by kernel_rfl) (fun _ _ _ h => h) (Or.inl ⟨by rfl, fun w hSw => by (try dsimp only at hSw); go_simp⟩) (by assumption) ?_
    try simp only [Act.put, List.getElem_toArray, List.getElem_cons_succ, List.getElem_cons_zero, List.setIfInBounds_toArray, List.set_cons_zero, List.set_cons_succ]
    clear L0
    refine wpAnyH_ready (rs := [6]) (by kernel_rfl) (by simp) (AllReadyH.cons (o := _) rfl (fun K hK => ?_) AllReadyH.nil)
    go_simp
    go_at_call 11
    refine (WR.out).mono ?_
    rintro e y5 ⟨Ar, cr, rfl, hb5, ho5⟩
    have BF := Lib.hid (BF.out.trans (hb5.mono BF.out.size))
    have XR := Lib.hid (XR.out.below hb5 XR.out.lt)
    have X1 := Lib.hid (X1.out.below hb5 X1.out.lt)
    have NW := Lib.hid (NW.out.below hb5)
    have FW := Lib.hid (row_below FW.out hb5)
    have KR := Lib.hid (KR.out.below hb5)
    have WS := Lib.hid (words17_same Aw Ar m.L.length cw cr (m.L.map wd) y5 NW.out (nums_of_row ho5) (by have := KR.out.ok.len; omega))
    have S1 : y5.cell? ⟨y4.heap.size, 0, none⟩ = some (.slice Aw m.L.length cw) ∧ y5.cell? ⟨y4.heap.size, 1, none⟩ = some (.slice Af m.fx.length cf) ∧ y5.cell? ⟨yb.heap.size, 0, none⟩ = some (.slice AL m.L.length cL) ∧ y5.cell? ⟨yb.heap.size, 1, none⟩ = some (.slice AG gl.length cG) ∧ y5.cell? ⟨yb.heap.size, 2, none⟩ = some (.slice AF m.fx.length cF) ∧ y5.cell? ⟨yb.heap.size, 3, none⟩ = some (.slice AP pl.length cP) ∧ y5.cell? ⟨yb.heap.size, 4, none⟩ = some (.slice AA al.length cA) ∧ y5.cell? ⟨yb.heap.size, 5, none⟩ = some (.int .i64 m.dep) ∧ y5.cell? ⟨yb.heap.size, 6, none⟩ = some (.int .i64 m.most) ∧ y5.cell? ⟨yb.heap.size, 7, none⟩ = some (.int .i64 m.err) := ⟨XR.out.cell 0, XR.out.cell 1, X1.out.cell 0, X1.out.cell 1, X1.out.cell 2, X1.out.cell 3, X1.out.cell 4, X1.out.cell 5, X1.out.cell 6, X1.out.cell 7⟩
    clear hb5 ho5 WR
    refine hK.out _ _ S1 (fun hHeld => ?_)
    clear hK K
    try simp only [Act.put, List.getElem_toArray, List.getElem_cons_succ, List.getElem_cons_zero, List.setIfInBounds_toArray, List.set_cons_zero, List.set_cons_succ]
    refine wpAnyH_ready (rs := [7]) (by kernel_rfl) (by simp) (AllReadyH.cons (o := _) rfl (fun K hK => ?_) AllReadyH.nil)
    go_simp
    go_at_call 10
    refine (WS.out).mono ?_
    rintro e y6 ⟨rfl, hb6⟩
    have BF := Lib.hid (BF.out.trans (hb6.mono BF.out.size))
    have XR := Lib.hid (XR.out.below hb6 XR.out.lt)
    have X1 := Lib.hid (X1.out.below hb6 X1.out.lt)
    have FW := Lib.hid (row_below FW.out hb6)
    have KR := Lib.hid (KR.out.below hb6)
    have S2 : y6.cell? ⟨y4.heap.size, 0, none⟩ = some (.slice Aw m.L.length cw) ∧ y6.cell? ⟨y4.heap.size, 1, none⟩ = some (.slice Af m.fx.length cf) ∧ y6.cell? ⟨yb.heap.size, 0, none⟩ = some (.slice AL m.L.length cL) ∧ y6.cell? ⟨yb.heap.size, 1, none⟩ = some (.slice AG gl.length cG) ∧ y6.cell? ⟨yb.heap.size, 2, none⟩ = some (.slice AF m.fx.length cF) ∧ y6.cell? ⟨yb.heap.size, 3, none⟩ = some (.slice AP pl.length cP) ∧ y6.cell? ⟨yb.heap.size, 4, none⟩ = some (.slice AA al.length cA) ∧ y6.cell? ⟨yb.heap.size, 5, none⟩ = some (.int .i64 m.dep) ∧ y6.cell? ⟨yb.heap.size, 6, none⟩ = some (.int .i64 m.most) ∧ y6.cell? ⟨yb.heap.size, 7, none⟩ = some (.int .i64 m.err) := ⟨XR.out.cell 0, XR.out.cell 1, X1.out.cell 0, X1.out.cell 1, X1.out.cell 2, X1.out.cell 3, X1.out.cell 4, X1.out.cell 5, X1.out.cell 6, X1.out.cell 7⟩
    clear hb6 WS NW
    refine hK.out _ _ S2 (fun hHeld => ?_)
    clear hK K
    try simp only [Act.put, List.getElem_toArray, List.getElem_cons_succ, List.getElem_cons_zero, List.setIfInBounds_toArray, List.set_cons_zero, List.set_cons_succ]
    refine wpAnyH_take (i := 8) (oi := _) (v := .bool false) rfl (by kernel_rfl) (by kernel_rfl) (by kernel_rfl) (fun _ _ _ h => h) (Or.inl ⟨by rfl, fun w hSw => by (try dsimp only at hSw); go_simp⟩) (by assumption) ?_
    try simp only [Act.put, List.getElem_toArray, List.getElem_cons_succ, List.getElem_cons_zero, List.setIfInBounds_toArray, List.set_cons_zero, List.set_cons_succ]
    refine wpAnyH_take (i := 9) (oi := _) (v := .bool false) rfl (by kernel_rfl) (by kernel_rfl) (by kernel_rfl) (fun _ _ _ h => h) (Or.inl ⟨by rfl, fun w hSw => by (try dsimp only at hSw); go_simp⟩) (by assumption) ?_
    try simp only [Act.put, List.getElem_toArray, List.getElem_cons_succ, List.getElem_cons_zero, List.setIfInBounds_toArray, List.set_cons_zero, List.set_cons_succ]
    refine wpAnyH_take (i := 10) (oi := _) (v := .bool false) rfl (by kernel_rfl) (by kernel_rfl) (by kernel_rfl) (fun _ _ _ h => h) (Or.inl ⟨by rfl, fun w hSw => by (try dsimp only at hSw); go_simp⟩) (by assumption) ?_
    try simp only [Act.put, List.getElem_toArray, List.getElem_cons_succ, List.getElem_cons_zero, List.setIfInBounds_toArray, List.set_cons_zero, List.set_cons_succ]
    refine wpAnyH_take (i := 11) (oi := _) (v := .pointer (some ⟨y4.heap.size, 1, none⟩)) rfl (by kernel_rfl) (by kernel_rfl) (by kernel_rfl) (fun _ _ _ h => h) (Or.inl ⟨by rfl, fun w hSw => by (try dsimp only at hSw); go_simp⟩) (by assumption) ?_
    try simp only [Act.put, List.getElem_toArray, List.getElem_cons_succ, List.getElem_cons_zero, List.setIfInBounds_toArray, List.set_cons_zero, List.set_cons_succ]
    refine wpAnyH_take (i := 12) (oi := _) (v := .slice Af m.fx.length cf) rfl (by kernel_rfl) (by kernel_rfl) (by kernel_rfl) (fun _ _ _ h => h) (Or.inl ⟨by rfl, fun w hSw => by (try dsimp only at hSw); go_simp⟩) (by assumption) ?_
    try simp only [Act.put, List.getElem_toArray, List.getElem_cons_succ, List.getElem_cons_zero, List.setIfInBounds_toArray, List.set_cons_zero, List.set_cons_succ]
    refine wpAnyH_take (i := 13) (oi := _) (v := .int .i64 m.fx.length) rfl (by kernel_rfl) (by kernel_rfl) (by kernel_rfl) (fun _ _ _ h => h) (Or.inl ⟨by rfl, fun w hSw => by (try dsimp only at hSw); go_simp⟩) (by assumption) ?_
    try simp only [Act.put, List.getElem_toArray, List.getElem_cons_succ, List.getElem_cons_zero, List.setIfInBounds_toArray, List.set_cons_zero, List.set_cons_succ]
    refine wpAnyH_take (i := 14) (oi := _) (v := .pointer (some ⟨yb.heap.size, 2, none⟩)) rfl (by kernel_rfl) (by kernel_rfl) (by kernel_rfl) (fun _ _ _ h => h) (Or.inl ⟨by rfl, fun w hSw => by (try dsimp only at hSw); go_simp⟩) (by assumption) ?_
    try simp only [Act.put, List.getElem_toArray, List.getElem_cons_succ, List.getElem_cons_zero, List.setIfInBounds_toArray, List.set_cons_zero, List.set_cons_succ]
    refine wpAnyH_take (i := 15) (oi := _) (v := .slice AF m.fx.length cF) rfl (by kernel_rfl) (by kernel_rfl) (by kernel_rfl) (fun _ _ _ h => h) (Or.inl ⟨by rfl, fun w hSw => by (try dsimp only at hSw); go_simp⟩) (by assumption) ?_
    try simp only [Act.put, List.getElem_toArray, List.getElem_cons_succ, List.getElem_cons_zero, List.setIfInBounds_toArray, List.set_cons_zero, List.set_cons_succ]
    refine wpAnyH_take (i := 16) (oi := _) (v := .int .i64 m.fx.length) rfl (by kernel_rfl) (by kernel_rfl) (by kernel_rfl) (fun _ _ _ h => h) (Or.inl ⟨by rfl, fun w hSw => by (try dsimp only at hSw); go_simp⟩) (by assumption) ?_
    try simp only [Act.put, List.getElem_toArray, List.getElem_cons_succ, List.getElem_cons_zero, List.setIfInBounds_toArray, List.set_cons_zero, List.set_cons_succ]
    refine wpAnyH_take (i := 17) (oi := _) (v := .bool false) rfl (by kernel_rfl) (by kernel_rfl) (by kernel_rfl) (fun _ _ _ h => h) (Or.inl ⟨by rfl, fun w hSw => by (try dsimp only at hSw); go_simp⟩) (by assumption) ?_
    try simp only [Act.put, List.getElem_toArray, List.getElem_cons_succ, List.getElem_cons_zero, List.setIfInBounds_toArray, List.set_cons_zero, List.set_cons_succ]
    refine wpAnyH_take (i := 18) (oi := _) (v := .bool false) rfl (by kernel_rfl) (by kernel_rfl) (by kernel_rfl) (fun _ _ _ h => h) (Or.inl ⟨by rfl, fun w hSw => by (try dsimp only at hSw); go_simp⟩) (by assumption) ?_
    try simp only [Act.put, List.getElem_toArray, List.getElem_cons_succ, List.getElem_cons_zero, List.setIfInBounds_toArray, List.set_cons_zero, List.set_cons_succ]
    refine wpAnyH_done (by kernel_rfl) ?_ _
    refine NoPanic.normal ?_
    clear S1 S2
    have FF := Lib.hid KR.out.fF.1
    clear KR
    go_wp2_with fail
    go_loopw [8] (fun i wr => ∃ t : Nat, t ≤ m.fx.length ∧ i = .int .i64 t ∧ Below y6.heap.size y6 wr) (fun i _ => m.fx.length - (intOf i).toNat)
    case atStart => exact ⟨0, Nat.zero_le _, rfl, Below.refl _ _⟩
    case round =>
      obtain ⟨t, ht, rfl, hb⟩ := hrel
      have BW := Lib.hid hb
      have a2 : wr.cell? ⟨yb.heap.size, 2, none⟩ = some (.slice AF m.fx.length cF) := (X1.out.below hb X1.out.lt).cell 2
      have r1 : wr.cell? ⟨y4.heap.size, 1, none⟩ = some (.slice Af m.fx.length cf) := (XR.out.below hb XR.out.lt).cell 1
      clear hb
      by_cases hlt : t < m.fx.length
      · have hI : (t : Int) < m.fx.length := by omega
        have f1 := row_below FW.out BW.out
        have f2 := row_below FF.out BW.out
        obtain ⟨hc1, g5, rfl, _, _, hcell1⟩ := row_cell (f := fxC) (fun _ => rfl) zFxp f1 rfl hlt
        obtain ⟨hc2, g7, rfl, _, _, hcell2⟩ := row_cell (f := fxC) (fun _ => rfl) zFxp f2 rfl hlt
        have u0 := (hcell1 0 (by decide)).1
        have u1 := (hcell1 1 (by decide)).1
        have u2 := (hcell1 2 (by decide)).1
        have u3 := (hcell1 3 (by decide)).1
        have v0 := (hcell2 0 (by decide)).1
        have v1 := (hcell2 1 (by decide)).1
        have v2 := (hcell2 2 (by decide)).1
        have v3 := (hcell2 3 (by decide)).1
        generalize m.fx.getD t zFxp = x at *
        obtain ⟨p, q, r, s⟩ := x
        replace u0 : wr.cell? ⟨g5, t * 4, none⟩ = some (.int .i64 p) := u0
        replace u1 : wr.cell? ⟨g5, t * 4 + 1, none⟩ = some (.int .i64 q) := u1
        replace u2 : wr.cell? ⟨g5, t * 4 + 2, none⟩ = some (.int .i64 r) := u2
        replace u3 : wr.cell? ⟨g5, t * 4 + 3, none⟩ = some (.int .i64 s) := u3
        replace v0 : wr.cell? ⟨g7, t * 4, none⟩ = some (.int .i64 p) := v0
        replace v1 : wr.cell? ⟨g7, t * 4 + 1, none⟩ = some (.int .i64 q) := v1
        replace v2 : wr.cell? ⟨g7, t * 4 + 2, none⟩ = some (.int .i64 r) := v2
        replace v3 : wr.cell? ⟨g7, t * 4 + 3, none⟩ = some (.int .i64 s) := v3
        have hcp1 := hc1
        have hcp2 := hc2
        clear hcell1 hcell2 f1 f2 hc1 hc2
        go_wp2_with fail
        go_quiet (fail)
        rename_i nq
        have BQ := Lib.hid (below_drawn BW.out nq)
        go_wp2_with fail
        go_roundw
        case rel => exact ⟨t + 1, by omega, by go_num, BQ.out⟩
        case measure => simp [intOf]; omega
      · have hI : ¬ (t : Int) < m.fx.length := by omega
        go_wp2_with fail
        go_ret
        exact ⟨rfl, BF.out.trans (BW.out.mono BF.out.size)⟩
end Go.Proofs.YtcijjmmckofckaaDoor
