/- Emit: the answers' Code; now, Fail. -/
import Derived.Test.YtcijjmmckofckaaDoorEmtB
import Derived.Test.YtcijjmmckofckaaDoorInstrD
import Derived.Test.YtcijjmmckofckaaDoorHeldTail
import Derived.Test.YtcijjmmckofckaaDoorRowSet
namespace Go.Proofs.YtcijjmmckofckaaDoor
open Go.ChangeShapes Go.WideShapes Go.ChangeAt Go.RowKit
set_option linter.unusedVariables false
set_option linter.unusedSimpArgs false

abbrev rfT : TypeId := 29

abbrev rnT : TypeId := 51

theorem rnInfo : (Tryd.prog.info? rnT).map (fun i => (i.zero, i.size, i.bytes)) = some (some (.agg #[.int .i64 0, .int .i64 0, .int .i64 0, .int .i64 0, .int .i64 0]), 5, 40) := by kernel_rfl

theorem KeptS.mono {S S' : Nat → Prop} {w w' : World} (k : KeptS S w w') (h : ∀ b, S b → S' b) : KeptS S' w w' := ⟨k.os, k.tape, k.output, k.size, fun b hb hs => k.block b hb (fun hs' => hs (h b hs'))⟩

theorem FarR.fresh {w w' : World} {T : Nat → Prop} {e : TypeId} {k n : Nat} {v : Value} {xs : List Value} (h : w'.ownsRow w.heap.size e k v n xs) (hT : ∀ b, T b → b < w.heap.size) : FarR w' T e k v n xs :=
  ⟨row_more h (Nat.zero_le _), fun b hb ht => by
    have h1 := (row_block h hb).1
    have h2 := hT b ht
    omega⟩

theorem FarR.less {w : World} {T T' : Nat → Prop} {e : TypeId} {k n : Nat} {v : Value} {xs : List Value} (h : FarR w T e k v n xs) (hT : ∀ b, T' b → T b) : FarR w T' e k v n xs := ⟨h.1, fun b hb ht => h.2 b hb (hT b ht)⟩

theorem FarR.boxed {w : World} {T : Nat → Prop} {e : TypeId} {k n : Nat} {v : Value} {xs : List Value} (h : FarR w T e k v n xs) (j : Nat) : FarR w (fun b => T b ∨ (w.heap.size ≤ b ∧ b < w.heap.size + j)) e k v n xs :=
  ⟨h.1, fun b hb ht => by
    rcases ht with ht | ht
    · exact h.2 b hb ht
    · have := (row_block h.1 hb).2.1
      omega⟩

theorem cells8 {w : World} {g : Nat} {t : TypeId} {v0 v1 v2 v3 v4 v5 v6 v7 : Value} (h : Whole w g t #[v0, v1, v2, v3, v4, v5, v6, v7]) : w.cell? ⟨g, 0, none⟩ = some v0 ∧ w.cell? ⟨g, 1, none⟩ = some v1 ∧ w.cell? ⟨g, 2, none⟩ = some v2 ∧ w.cell? ⟨g, 3, none⟩ = some v3 ∧ w.cell? ⟨g, 4, none⟩ = some v4 ∧ w.cell? ⟨g, 5, none⟩ = some v5 ∧ w.cell? ⟨g, 6, none⟩ = some v6 ∧ w.cell? ⟨g, 7, none⟩ = some v7 := ⟨h.cell 0, h.cell 1, h.cell 2, h.cell 3, h.cell 4, h.cell 5, h.cell 6, h.cell 7⟩

theorem cells10 {w : World} {g : Nat} {t : TypeId} {v0 v1 v2 v3 v4 v5 v6 v7 v8 v9 : Value} (h : Whole w g t #[v0, v1, v2, v3, v4, v5, v6, v7, v8, v9]) : w.cell? ⟨g, 0, none⟩ = some v0 ∧ w.cell? ⟨g, 1, none⟩ = some v1 ∧ w.cell? ⟨g, 2, none⟩ = some v2 ∧ w.cell? ⟨g, 3, none⟩ = some v3 ∧ w.cell? ⟨g, 4, none⟩ = some v4 ∧ w.cell? ⟨g, 5, none⟩ = some v5 ∧ w.cell? ⟨g, 6, none⟩ = some v6 ∧ w.cell? ⟨g, 7, none⟩ = some v7 ∧ w.cell? ⟨g, 8, none⟩ = some v8 ∧ w.cell? ⟨g, 9, none⟩ = some v9 := ⟨h.cell 0, h.cell 1, h.cell 2, h.cell 3, h.cell 4, h.cell 5, h.cell 6, h.cell 7, h.cell 8, h.cell 9⟩

/-- The answers' Code in memory, none of its rows in blocks of T. -/
structure RfR (w : World) (T : Nat → Prop) (N : Nat) (m : Em) (AL : Option Addr) (cL : Nat) (AG : Option Addr) (cG : Nat) (AF : Option Addr) (cF : Nat) (AP : Option Addr) (cP : Nat) (AA : Option Addr) (cA : Nat) (gl pl al : List Int) : Prop where
  fL : FarR w T rnT 5 (.slice AL m.L.length cL) m.L.length (m.L.flatMap inC)
  fG : FarR w T itT 1 (.slice AG gl.length cG) gl.length (gl.flatMap itC)
  fF : FarR w T fxT 4 (.slice AF m.fx.length cF) m.fx.length (m.fx.flatMap fxC)
  fP : FarR w T itT 1 (.slice AP pl.length cP) pl.length (pl.flatMap itC)
  fA : FarR w T itT 1 (.slice AA al.length cA) al.length (al.flatMap itC)
  lg : gl.length ≤ m.L.length
  lp : pl.length ≤ N
  la : al.length ≤ N
  lf : m.fx.length ≤ N
  ok : EmOk m
  nm : m.most ≤ N

theorem RfR.later {w w' : World} {T S : Nat → Prop} {N : Nat} {m : Em} {AL : Option Addr} {cL : Nat} {AG : Option Addr} {cG : Nat} {AF : Option Addr} {cF : Nat} {AP : Option Addr} {cP : Nat} {AA : Option Addr} {cA : Nat} {gl pl al : List Int} (h : RfR w T N m AL cL AG cG AF cF AP cP AA cA gl pl al) (K : KeptS S w w') (hS : ∀ b, S b → T b) : RfR w' T N m AL cL AG cG AF cF AP cP AA cA gl pl al :=
  ⟨h.fL.later K (fun b hb hs => h.fL.2 b hb (hS b hs)), h.fG.later K (fun b hb hs => h.fG.2 b hb (hS b hs)), h.fF.later K (fun b hb hs => h.fF.2 b hb (hS b hs)), h.fP.later K (fun b hb hs => h.fP.2 b hb (hS b hs)), h.fA.later K (fun b hb hs => h.fA.2 b hb (hS b hs)), h.lg, h.lp, h.la, h.lf, h.ok, h.nm⟩

theorem RfR.below {w w' : World} {T : Nat → Prop} {N : Nat} {m : Em} {AL : Option Addr} {cL : Nat} {AG : Option Addr} {cG : Nat} {AF : Option Addr} {cF : Nat} {AP : Option Addr} {cP : Nat} {AA : Option Addr} {cA : Nat} {gl pl al : List Int} (h : RfR w T N m AL cL AG cG AF cF AP cP AA cA gl pl al) (hb : Below w.heap.size w w') : RfR w' T N m AL cL AG cG AF cF AP cP AA cA gl pl al :=
  h.later (S := fun _ => False) (KeptS.ofBelow hb) (fun _ h => h.elim)

theorem RfR.less {w : World} {T T' : Nat → Prop} {N : Nat} {m : Em} {AL : Option Addr} {cL : Nat} {AG : Option Addr} {cG : Nat} {AF : Option Addr} {cF : Nat} {AP : Option Addr} {cP : Nat} {AA : Option Addr} {cA : Nat} {gl pl al : List Int} (h : RfR w T N m AL cL AG cG AF cF AP cP AA cA gl pl al) (hT : ∀ b, T' b → T b) : RfR w T' N m AL cL AG cG AF cF AP cP AA cA gl pl al :=
  ⟨h.fL.less hT, h.fG.less hT, h.fF.less hT, h.fP.less hT, h.fA.less hT, h.lg, h.lp, h.la, h.lf, h.ok, h.nm⟩

theorem RfR.boxed {w : World} {T : Nat → Prop} {N : Nat} {m : Em} {AL : Option Addr} {cL : Nat} {AG : Option Addr} {cG : Nat} {AF : Option Addr} {cF : Nat} {AP : Option Addr} {cP : Nat} {AA : Option Addr} {cA : Nat} {gl pl al : List Int} (h : RfR w T N m AL cL AG cG AF cF AP cP AA cA gl pl al) (j : Nat) : RfR w (fun b => T b ∨ (w.heap.size ≤ b ∧ b < w.heap.size + j)) N m AL cL AG cG AF cF AP cP AA cA gl pl al :=
  ⟨h.fL.boxed j, h.fG.boxed j, h.fF.boxed j, h.fP.boxed j, h.fA.boxed j, h.lg, h.lp, h.la, h.lf, h.ok, h.nm⟩

theorem RfR.more {w : World} {T : Nat → Prop} {N N' : Nat} {m : Em} {AL : Option Addr} {cL : Nat} {AG : Option Addr} {cG : Nat} {AF : Option Addr} {cF : Nat} {AP : Option Addr} {cP : Nat} {AA : Option Addr} {cA : Nat} {gl pl al : List Int} (h : RfR w T N m AL cL AG cG AF cF AP cP AA cA gl pl al) (hN : N ≤ N') : RfR w T N' m AL cL AG cG AF cF AP cP AA cA gl pl al :=
  { h with lp := Nat.le_trans h.lp hN, la := Nat.le_trans h.la hN, lf := Nat.le_trans h.lf hN, nm := by have := h.nm; omega }

/-- .. behind a call of the Code's. -/
theorem RfR.kept {w w' : World} {T T' : Nat → Prop} {N : Nat} {m : Em} {AL : Option Addr} {cL : Nat} {AG : Option Addr} {cG : Nat} {AF : Option Addr} {cF : Nat} {AP : Option Addr} {cP : Nat} {AA : Option Addr} {cA : Nat} {gl pl al : List Int} (h : RfR w T N m AL cL AG cG AF cF AP cP AA cA gl pl al) (K : KeptS T w w') (hT : ∀ b, T' b → T b ∨ w.heap.size ≤ b) : RfR w' T' N m AL cL AG cG AF cF AP cP AA cA gl pl al :=
  ⟨h.fL.kept K hT, h.fG.kept K hT, h.fF.kept K hT, h.fP.kept K hT, h.fA.kept K hT, h.lg, h.lp, h.la, h.lf, h.ok, h.nm⟩

/-- What a function of the answers returns. -/
def RfP (T : Nat → Prop) (N : Nat) (w : World) (m : Em) (e : Ending) (w' : World) : Prop :=
  ∃ AL cL AG cG AF cF AP cP AA cA gl pl al, e = .returned (.agg #[.slice AL m.L.length cL, .slice AG gl.length cG, .slice AF m.fx.length cF, .slice AP pl.length cP, .slice AA al.length cA, .int .i64 m.dep, .int .i64 m.most, .int .i64 m.err]) ∧ RfR w' T N m AL cL AG cG AF cF AP cP AA cA gl pl al ∧ Below w.heap.size w w'

/-- The boxes of a function that was entered at the world w. -/
structure Bx2 (w W : World) (t0 t1 : TypeId) (d0 d1 : Array Value) : Prop where
  b : Below w.heap.size w W
  x0 : Whole W (w.heap.size) t0 d0
  x1 : Whole W (w.heap.size + 1) t1 d1

theorem Bx2.below {w W : World} {t0 t1 : TypeId} {d0 d1 : Array Value} (h : Bx2 w W t0 t1 d0 d1) {W' : World} (hb : Below W.heap.size W W') : Bx2 w W' t0 t1 d0 d1 := ⟨h.b.trans (hb.mono h.b.size), h.x0.below hb h.x0.lt, h.x1.below hb h.x1.lt⟩

theorem Bx2.grown {w W : World} {t0 t1 : TypeId} {d0 d1 : Array Value} (h : Bx2 w W t0 t1 d0 d1) {W' : World} {r : Option Nat} (hg : W.grownBy W' r) (hr : ∀ b, r = some b → w.heap.size + 2 ≤ b) : Bx2 w W' t0 t1 d0 d1 :=
  ⟨KeptS.below h.b (KeptS.grown (S := fun b => r = some b) hg (fun b hb => hb)) h.b.size (fun b hb => by have := hr b hb; omega), (hg.block _ h.x0.lt (fun e => by have := hr _ e.symm; omega)).trans h.x0, (hg.block _ h.x1.lt (fun e => by have := hr _ e.symm; omega)).trans h.x1⟩

theorem Bx2.set0 {w W : World} {t0 t1 : TypeId} {d0 d1 : Array Value} (h : Bx2 w W t0 t1 d0 d1) (n : Nat) (u : Value) : Bx2 w (W.setCell ⟨w.heap.size, n, none⟩ u) t0 t1 (d0.setIfInBounds n u) d1 :=
  ⟨h.b.setCell (p := ⟨w.heap.size, n, none⟩) (by show w.heap.size ≤ w.heap.size; omega) u, h.x0.store n u, h.x1.far (p := ⟨w.heap.size, n, none⟩) (by show w.heap.size + 1 ≠ w.heap.size; omega) u⟩

theorem Bx2.row0 {w W : World} {t0 t1 : TypeId} {d0 d1 : Array Value} (h : Bx2 w W t0 t1 d0 d1) (us : Array Value) : Bx2 w (W.setRow (w.heap.size) us) t0 t1 us d1 :=
  ⟨KeptS.below h.b (KeptS.grown (S := fun b => b = w.heap.size) (h.x0.setRow us).2 (fun b hb => by injection hb with hb; exact hb.symm)) h.b.size (fun b hb => by omega), (h.x0.setRow us).1, ((h.x0.setRow us).2.block _ h.x1.lt (fun e => by injection e with e; omega)).trans h.x1⟩

theorem Bx2.kept0 {w W : World} {t0 t1 : TypeId} {d0 d1 : Array Value} (h : Bx2 w W t0 t1 d0 d1) (us : Array Value) : KeptS (fun b => w.heap.size ≤ b ∧ b < w.heap.size + 2) W (W.setRow (w.heap.size) us) :=
  KeptS.grown (h.x0.setRow us).2 (fun b hb => by injection hb with hb; omega)

theorem Bx2.set1 {w W : World} {t0 t1 : TypeId} {d0 d1 : Array Value} (h : Bx2 w W t0 t1 d0 d1) (n : Nat) (u : Value) : Bx2 w (W.setCell ⟨w.heap.size + 1, n, none⟩ u) t0 t1 d0 (d1.setIfInBounds n u) :=
  ⟨h.b.setCell (p := ⟨w.heap.size + 1, n, none⟩) (by show w.heap.size ≤ w.heap.size + 1; omega) u, h.x0.far (p := ⟨w.heap.size + 1, n, none⟩) (by show w.heap.size ≠ w.heap.size + 1; omega) u, h.x1.store n u⟩

theorem Bx2.row1 {w W : World} {t0 t1 : TypeId} {d0 d1 : Array Value} (h : Bx2 w W t0 t1 d0 d1) (us : Array Value) : Bx2 w (W.setRow (w.heap.size + 1) us) t0 t1 d0 us :=
  ⟨KeptS.below h.b (KeptS.grown (S := fun b => b = w.heap.size + 1) (h.x1.setRow us).2 (fun b hb => by injection hb with hb; exact hb.symm)) h.b.size (fun b hb => by omega), ((h.x1.setRow us).2.block _ h.x0.lt (fun e => by injection e with e; omega)).trans h.x0, (h.x1.setRow us).1⟩

theorem Bx2.kept1 {w W : World} {t0 t1 : TypeId} {d0 d1 : Array Value} (h : Bx2 w W t0 t1 d0 d1) (us : Array Value) : KeptS (fun b => w.heap.size ≤ b ∧ b < w.heap.size + 2) W (W.setRow (w.heap.size + 1) us) :=
  KeptS.grown (h.x1.setRow us).2 (fun b hb => by injection hb with hb; omega)

/-- The boxes of a function that was entered at the world w. -/
structure Bx3 (w W : World) (t0 t1 t2 : TypeId) (d0 d1 d2 : Array Value) : Prop where
  b : Below w.heap.size w W
  x0 : Whole W (w.heap.size) t0 d0
  x1 : Whole W (w.heap.size + 1) t1 d1
  x2 : Whole W (w.heap.size + 1 + 1) t2 d2

theorem Bx3.below {w W : World} {t0 t1 t2 : TypeId} {d0 d1 d2 : Array Value} (h : Bx3 w W t0 t1 t2 d0 d1 d2) {W' : World} (hb : Below W.heap.size W W') : Bx3 w W' t0 t1 t2 d0 d1 d2 := ⟨h.b.trans (hb.mono h.b.size), h.x0.below hb h.x0.lt, h.x1.below hb h.x1.lt, h.x2.below hb h.x2.lt⟩

theorem Bx3.grown {w W : World} {t0 t1 t2 : TypeId} {d0 d1 d2 : Array Value} (h : Bx3 w W t0 t1 t2 d0 d1 d2) {W' : World} {r : Option Nat} (hg : W.grownBy W' r) (hr : ∀ b, r = some b → w.heap.size + 3 ≤ b) : Bx3 w W' t0 t1 t2 d0 d1 d2 :=
  ⟨KeptS.below h.b (KeptS.grown (S := fun b => r = some b) hg (fun b hb => hb)) h.b.size (fun b hb => by have := hr b hb; omega), (hg.block _ h.x0.lt (fun e => by have := hr _ e.symm; omega)).trans h.x0, (hg.block _ h.x1.lt (fun e => by have := hr _ e.symm; omega)).trans h.x1, (hg.block _ h.x2.lt (fun e => by have := hr _ e.symm; omega)).trans h.x2⟩

theorem Bx3.set0 {w W : World} {t0 t1 t2 : TypeId} {d0 d1 d2 : Array Value} (h : Bx3 w W t0 t1 t2 d0 d1 d2) (n : Nat) (u : Value) : Bx3 w (W.setCell ⟨w.heap.size, n, none⟩ u) t0 t1 t2 (d0.setIfInBounds n u) d1 d2 :=
  ⟨h.b.setCell (p := ⟨w.heap.size, n, none⟩) (by show w.heap.size ≤ w.heap.size; omega) u, h.x0.store n u, h.x1.far (p := ⟨w.heap.size, n, none⟩) (by show w.heap.size + 1 ≠ w.heap.size; omega) u, h.x2.far (p := ⟨w.heap.size, n, none⟩) (by show w.heap.size + 1 + 1 ≠ w.heap.size; omega) u⟩

theorem Bx3.row0 {w W : World} {t0 t1 t2 : TypeId} {d0 d1 d2 : Array Value} (h : Bx3 w W t0 t1 t2 d0 d1 d2) (us : Array Value) : Bx3 w (W.setRow (w.heap.size) us) t0 t1 t2 us d1 d2 :=
  ⟨KeptS.below h.b (KeptS.grown (S := fun b => b = w.heap.size) (h.x0.setRow us).2 (fun b hb => by injection hb with hb; exact hb.symm)) h.b.size (fun b hb => by omega), (h.x0.setRow us).1, ((h.x0.setRow us).2.block _ h.x1.lt (fun e => by injection e with e; omega)).trans h.x1, ((h.x0.setRow us).2.block _ h.x2.lt (fun e => by injection e with e; omega)).trans h.x2⟩

theorem Bx3.kept0 {w W : World} {t0 t1 t2 : TypeId} {d0 d1 d2 : Array Value} (h : Bx3 w W t0 t1 t2 d0 d1 d2) (us : Array Value) : KeptS (fun b => w.heap.size ≤ b ∧ b < w.heap.size + 3) W (W.setRow (w.heap.size) us) :=
  KeptS.grown (h.x0.setRow us).2 (fun b hb => by injection hb with hb; omega)

theorem Bx3.set1 {w W : World} {t0 t1 t2 : TypeId} {d0 d1 d2 : Array Value} (h : Bx3 w W t0 t1 t2 d0 d1 d2) (n : Nat) (u : Value) : Bx3 w (W.setCell ⟨w.heap.size + 1, n, none⟩ u) t0 t1 t2 d0 (d1.setIfInBounds n u) d2 :=
  ⟨h.b.setCell (p := ⟨w.heap.size + 1, n, none⟩) (by show w.heap.size ≤ w.heap.size + 1; omega) u, h.x0.far (p := ⟨w.heap.size + 1, n, none⟩) (by show w.heap.size ≠ w.heap.size + 1; omega) u, h.x1.store n u, h.x2.far (p := ⟨w.heap.size + 1, n, none⟩) (by show w.heap.size + 1 + 1 ≠ w.heap.size + 1; omega) u⟩

theorem Bx3.row1 {w W : World} {t0 t1 t2 : TypeId} {d0 d1 d2 : Array Value} (h : Bx3 w W t0 t1 t2 d0 d1 d2) (us : Array Value) : Bx3 w (W.setRow (w.heap.size + 1) us) t0 t1 t2 d0 us d2 :=
  ⟨KeptS.below h.b (KeptS.grown (S := fun b => b = w.heap.size + 1) (h.x1.setRow us).2 (fun b hb => by injection hb with hb; exact hb.symm)) h.b.size (fun b hb => by omega), ((h.x1.setRow us).2.block _ h.x0.lt (fun e => by injection e with e; omega)).trans h.x0, (h.x1.setRow us).1, ((h.x1.setRow us).2.block _ h.x2.lt (fun e => by injection e with e; omega)).trans h.x2⟩

theorem Bx3.kept1 {w W : World} {t0 t1 t2 : TypeId} {d0 d1 d2 : Array Value} (h : Bx3 w W t0 t1 t2 d0 d1 d2) (us : Array Value) : KeptS (fun b => w.heap.size ≤ b ∧ b < w.heap.size + 3) W (W.setRow (w.heap.size + 1) us) :=
  KeptS.grown (h.x1.setRow us).2 (fun b hb => by injection hb with hb; omega)

theorem Bx3.set2 {w W : World} {t0 t1 t2 : TypeId} {d0 d1 d2 : Array Value} (h : Bx3 w W t0 t1 t2 d0 d1 d2) (n : Nat) (u : Value) : Bx3 w (W.setCell ⟨w.heap.size + 1 + 1, n, none⟩ u) t0 t1 t2 d0 d1 (d2.setIfInBounds n u) :=
  ⟨h.b.setCell (p := ⟨w.heap.size + 1 + 1, n, none⟩) (by show w.heap.size ≤ w.heap.size + 1 + 1; omega) u, h.x0.far (p := ⟨w.heap.size + 1 + 1, n, none⟩) (by show w.heap.size ≠ w.heap.size + 1 + 1; omega) u, h.x1.far (p := ⟨w.heap.size + 1 + 1, n, none⟩) (by show w.heap.size + 1 ≠ w.heap.size + 1 + 1; omega) u, h.x2.store n u⟩

theorem Bx3.row2 {w W : World} {t0 t1 t2 : TypeId} {d0 d1 d2 : Array Value} (h : Bx3 w W t0 t1 t2 d0 d1 d2) (us : Array Value) : Bx3 w (W.setRow (w.heap.size + 1 + 1) us) t0 t1 t2 d0 d1 us :=
  ⟨KeptS.below h.b (KeptS.grown (S := fun b => b = w.heap.size + 1 + 1) (h.x2.setRow us).2 (fun b hb => by injection hb with hb; exact hb.symm)) h.b.size (fun b hb => by omega), ((h.x2.setRow us).2.block _ h.x0.lt (fun e => by injection e with e; omega)).trans h.x0, ((h.x2.setRow us).2.block _ h.x1.lt (fun e => by injection e with e; omega)).trans h.x1, (h.x2.setRow us).1⟩

theorem Bx3.kept2 {w W : World} {t0 t1 t2 : TypeId} {d0 d1 d2 : Array Value} (h : Bx3 w W t0 t1 t2 d0 d1 d2) (us : Array Value) : KeptS (fun b => w.heap.size ≤ b ∧ b < w.heap.size + 3) W (W.setRow (w.heap.size + 1 + 1) us) :=
  KeptS.grown (h.x2.setRow us).2 (fun b hb => by injection hb with hb; omega)

set_option maxHeartbeats 16000000 in
set_option maxRecDepth 100000 in
theorem now_any (T : Nat → Prop) (N : Nat) (m : Em) (AL : Option Addr) (cL : Nat) (AG : Option Addr) (cG : Nat) (AF : Option Addr) (cF : Nat) (AP : Option Addr) (cP : Nat) (AA : Option Addr) (cA : Nat) (gl pl al : List Int) (w : World) (h : RfR w T N m AL cL AG cG AF cF AP cP AA cA gl pl al) (hT : ∀ b, T b → b < w.heap.size) (hN : N ≤ 100000) :
    Calls Tryd.prog 64 #[.agg #[.slice AL m.L.length cL, .slice AG gl.length cG, .slice AF m.fx.length cF, .slice AP pl.length cP, .slice AA al.length cA, .int .i64 m.dep, .int .i64 m.most, .int .i64 m.err]] w fun e w' => (∃ p : Int, e = .returned (.int .i64 p)) ∧ Below w.heap.size w w' := by
  have B1 := Lib.hid ((Below.refl w.heap.size w).alloc (Nat.le_refl _) (.cells #[.slice AL m.L.length cL, .slice AG gl.length cG, .slice AF m.fx.length cF, .slice AP pl.length cP, .slice AA al.length cA, .int .i64 m.dep, .int .i64 m.most, .int .i64 m.err] rfT))
  have X1 := Lib.hid (Whole.made w rfT #[.slice AL m.L.length cL, .slice AG gl.length cG, .slice AF m.fx.length cF, .slice AP pl.length cP, .slice AA al.length cA, .int .i64 m.dep, .int .i64 m.most, .int .i64 m.err] _ rfl)
  have a4 : (w.alloc (.cells #[.slice AL m.L.length cL, .slice AG gl.length cG, .slice AF m.fx.length cF, .slice AP pl.length cP, .slice AA al.length cA, .int .i64 m.dep, .int .i64 m.most, .int .i64 m.err] rfT)).cell? ⟨w.heap.size, 4, none⟩ = some (.slice AA al.length cA) := X1.out.cell 4
  have hO := (h.fA.below B1.out).1
  have hl := h.la
  clear h hT
  generalize hlen : al.length = n at *
  rcases n with _ | k
  · clear hO
    go_enter Tryd.func64, Tryd.ntmps64
    go_wp2_with fail
    go_ret
    exact ⟨⟨_, rfl⟩, B1.out⟩
  · obtain ⟨hcap, g2, rfl, _, _, hcell⟩ := row_cell (f := itC) (fun _ => rfl) (0 : Int) hO hlen (Nat.lt_succ_self k)
    have x0 := (hcell 0 (by decide)).1
    rw [Nat.mul_one, Nat.add_zero] at x0
    have x0 : (w.alloc (.cells #[.slice AL m.L.length cL, .slice AG gl.length cG, .slice AF m.fx.length cF, .slice AP pl.length cP, .slice (some ⟨g2, 0, none⟩) (k + 1) cA, .int .i64 m.dep, .int .i64 m.most, .int .i64 m.err] rfT)).cell? ⟨g2, k, none⟩ = some (.int .i64 (al.getD k 0)) := x0
    generalize al.getD k 0 = z at *
    have hk : k + 1 ≤ 100000 := by omega
    clear hcell hO hlen hl hN
    go_enter Tryd.func64, Tryd.ntmps64
    go_wp2_with fail
    go_ret
    exact ⟨⟨_, rfl⟩, B1.out⟩

set_option maxHeartbeats 16000000 in
set_option maxRecDepth 100000 in
theorem reffail_set (x : Int) (T : Nat → Prop) (N : Nat) (m : Em) (AL : Option Addr) (cL : Nat) (AG : Option Addr) (cG : Nat) (AF : Option Addr) (cF : Nat) (AP : Option Addr) (cP : Nat) (AA : Option Addr) (cA : Nat) (gl pl al : List Int) (w : World) (h : RfR w T N m AL cL AG cG AF cF AP cP AA cA gl pl al) (hT : ∀ b, T b → b < w.heap.size) (hN : N ≤ 100000) (he : m.err = 0) :
    Calls Tryd.prog 46 #[.agg #[.slice AL m.L.length cL, .slice AG gl.length cG, .slice AF m.fx.length cF, .slice AP pl.length cP, .slice AA al.length cA, .int .i64 m.dep, .int .i64 m.most, .int .i64 m.err], .int .i64 x] w (RfP T N w (failE m x)) := by
  have b1 := (Below.refl w.heap.size w).alloc (Nat.le_refl _) (.cells #[.slice AL m.L.length cL, .slice AG gl.length cG, .slice AF m.fx.length cF, .slice AP pl.length cP, .slice AA al.length cA, .int .i64 m.dep, .int .i64 m.most, .int .i64 m.err] rfT)
  have BX := Lib.hid (show Bx2 w ((w.alloc (.cells #[.slice AL m.L.length cL, .slice AG gl.length cG, .slice AF m.fx.length cF, .slice AP pl.length cP, .slice AA al.length cA, .int .i64 m.dep, .int .i64 m.most, .int .i64 m.err] rfT)).alloc (.cells #[.slice none 0 0, .slice none 0 0, .slice none 0 0, .slice none 0 0, .slice none 0 0, .int .i64 0, .int .i64 0, .int .i64 0] rfT)) rfT rfT #[.slice AL m.L.length cL, .slice AG gl.length cG, .slice AF m.fx.length cF, .slice AP pl.length cP, .slice AA al.length cA, .int .i64 m.dep, .int .i64 m.most, .int .i64 m.err] #[.slice none 0 0, .slice none 0 0, .slice none 0 0, .slice none 0 0, .slice none 0 0, .int .i64 0, .int .i64 0, .int .i64 0] from ⟨b1.alloc b1.size (.cells #[.slice none 0 0, .slice none 0 0, .slice none 0 0, .slice none 0 0, .slice none 0 0, .int .i64 0, .int .i64 0, .int .i64 0] rfT), (Whole.made w rfT #[.slice AL m.L.length cL, .slice AG gl.length cG, .slice AF m.fx.length cF, .slice AP pl.length cP, .slice AA al.length cA, .int .i64 m.dep, .int .i64 m.most, .int .i64 m.err] _ rfl).alloc _, Whole.made (w.alloc (.cells #[.slice AL m.L.length cL, .slice AG gl.length cG, .slice AF m.fx.length cF, .slice AP pl.length cP, .slice AA al.length cA, .int .i64 m.dep, .int .i64 m.most, .int .i64 m.err] rfT)) rfT #[.slice none 0 0, .slice none 0 0, .slice none 0 0, .slice none 0 0, .slice none 0 0, .int .i64 0, .int .i64 0, .int .i64 0] _ (by simp)⟩)
  have S8 : (Tryd.prog.info? rfT).map (·.size) = some 8 := by kernel_rfl
  have HR := Lib.hid (h.boxed 2)
  clear h hT hN b1
  obtain ⟨a0, a1, a2, a3, a4, a5, a6, a7⟩ := cells8 BX.out.x0
  have zff7 : ((w.alloc (.cells #[.slice AL m.L.length cL, .slice AG gl.length cG, .slice AF m.fx.length cF, .slice AP pl.length cP, .slice AA al.length cA, .int .i64 m.dep, .int .i64 m.most, .int .i64 m.err] rfT)).alloc (.cells #[.slice none 0 0, .slice none 0 0, .slice none 0 0, .slice none 0 0, .slice none 0 0, .int .i64 0, .int .i64 0, .int .i64 0] rfT)).frozen? ⟨w.heap.size, 7, none⟩ = false := BX.out.x0.free 7
  have d : (m.err == 0) = true := beq_iff_eq.2 he
  have b2 := (Below.refl w.heap.size w).alloc (Nat.le_refl _) (.cells #[.slice AL m.L.length cL, .slice AG gl.length cG, .slice AF m.fx.length cF, .slice AP pl.length cP, .slice AA al.length cA, .int .i64 m.dep, .int .i64 m.most, .int .i64 x] rfT)
  have BY := Lib.hid (show Bx2 w ((w.alloc (.cells #[.slice AL m.L.length cL, .slice AG gl.length cG, .slice AF m.fx.length cF, .slice AP pl.length cP, .slice AA al.length cA, .int .i64 m.dep, .int .i64 m.most, .int .i64 x] rfT)).alloc (.cells #[.slice none 0 0, .slice none 0 0, .slice none 0 0, .slice none 0 0, .slice none 0 0, .int .i64 0, .int .i64 0, .int .i64 0] rfT)) rfT rfT #[.slice AL m.L.length cL, .slice AG gl.length cG, .slice AF m.fx.length cF, .slice AP pl.length cP, .slice AA al.length cA, .int .i64 m.dep, .int .i64 m.most, .int .i64 x] #[.slice none 0 0, .slice none 0 0, .slice none 0 0, .slice none 0 0, .slice none 0 0, .int .i64 0, .int .i64 0, .int .i64 0] from ⟨b2.alloc b2.size (.cells #[.slice none 0 0, .slice none 0 0, .slice none 0 0, .slice none 0 0, .slice none 0 0, .int .i64 0, .int .i64 0, .int .i64 0] rfT), (Whole.made w rfT #[.slice AL m.L.length cL, .slice AG gl.length cG, .slice AF m.fx.length cF, .slice AP pl.length cP, .slice AA al.length cA, .int .i64 m.dep, .int .i64 m.most, .int .i64 x] _ rfl).alloc _, Whole.made (w.alloc (.cells #[.slice AL m.L.length cL, .slice AG gl.length cG, .slice AF m.fx.length cF, .slice AP pl.length cP, .slice AA al.length cA, .int .i64 m.dep, .int .i64 m.most, .int .i64 x] rfT)) rfT #[.slice none 0 0, .slice none 0 0, .slice none 0 0, .slice none 0 0, .slice none 0 0, .int .i64 0, .int .i64 0, .int .i64 0] _ (by simp)⟩)
  obtain ⟨u0, u1, u2, u3, u4, u5, u6, u7⟩ := cells8 BY.out.x0
  clear b2
  have H1 := Lib.hid (show (#[.slice AL m.L.length cL, .slice AG gl.length cG, .slice AF m.fx.length cF, .slice AP pl.length cP, .slice AA al.length cA, .int .i64 m.dep, .int .i64 m.most, .int .i64 x] : Array Value).all (·.oneCell') = true from by simp [Value.oneCell'])
  have FE := Lib.hid (show failE m x = ⟨m.L, m.fx, m.dep, m.most, x⟩ from by unfold failE; rw [if_pos he])
  go_enter Tryd.func46, Tryd.ntmps46
  repeat (first | (go_big_may; first | (refine wpList_store_row rfl rfT (.tmp 4) (.tmp 10) rfl (w.heap.size + 1) #[.slice AL m.L.length cL, .slice AG gl.length cG, .slice AF m.fx.length cF, .slice AP pl.length cP, .slice AA al.length cA, .int .i64 m.dep, .int .i64 m.most, .int .i64 x] rfl rfl rfT #[.slice none 0 0, .slice none 0 0, .slice none 0 0, .slice none 0 0, .slice none 0 0, .int .i64 0, .int .i64 0, .int .i64 0] BY.out.x1 S8 rfl H1.out ?_; generalize hZZ : (((w.alloc (.cells #[.slice AL m.L.length cL, .slice AG gl.length cG, .slice AF m.fx.length cF, .slice AP pl.length cP, .slice AA al.length cA, .int .i64 m.dep, .int .i64 m.most, .int .i64 x] rfT)).alloc (.cells #[.slice none 0 0, .slice none 0 0, .slice none 0 0, .slice none 0 0, .slice none 0 0, .int .i64 0, .int .i64 0, .int .i64 0] rfT))).setRow (w.heap.size + 1) #[.slice AL m.L.length cL, .slice AG gl.length cG, .slice AF m.fx.length cF, .slice AP pl.length cP, .slice AA al.length cA, .int .i64 m.dep, .int .i64 m.most, .int .i64 x] = ZZ; have HZZ := Lib.hid hZZ; clear hZZ)) | go_values | go_skip | go_guarded | go_step | go_upon)
  have RZ := Lib.hid (show RfR ZZ (fun b => T b ∨ (w.heap.size ≤ b ∧ b < w.heap.size + 2)) N (failE m x) AL cL AG cG AF cF AP cP AA cA gl pl al from by
    rw [FE.out, ← HZZ.out]
    have h0 := (HR.out.below BY.out.b : RfR ((w.alloc (.cells #[.slice AL m.L.length cL, .slice AG gl.length cG, .slice AF m.fx.length cF, .slice AP pl.length cP, .slice AA al.length cA, .int .i64 m.dep, .int .i64 m.most, .int .i64 x] rfT)).alloc (.cells #[.slice none 0 0, .slice none 0 0, .slice none 0 0, .slice none 0 0, .slice none 0 0, .int .i64 0, .int .i64 0, .int .i64 0] rfT)) (fun b => T b ∨ (w.heap.size ≤ b ∧ b < w.heap.size + 2)) N m AL cL AG cG AF cF AP cP AA cA gl pl al)
    have h1 := h0.later (BY.out.kept1 #[.slice AL m.L.length cL, .slice AG gl.length cG, .slice AF m.fx.length cF, .slice AP pl.length cP, .slice AA al.length cA, .int .i64 m.dep, .int .i64 m.most, .int .i64 x]) (fun b hb => .inr hb)
    exact ⟨h1.fL, h1.fG, h1.fF, h1.fP, h1.fA, h1.lg, h1.lp, h1.la, h1.lf, ⟨h1.ok.good, h1.ok.len, h1.ok.d0, h1.ok.dm⟩, h1.nm⟩)
  have BZ := Lib.hid (show Bx2 w ZZ _ _ _ #[.slice AL m.L.length cL, .slice AG gl.length cG, .slice AF m.fx.length cF, .slice AP pl.length cP, .slice AA al.length cA, .int .i64 m.dep, .int .i64 m.most, .int .i64 x] from HZZ.out ▸ BY.out.row1 #[.slice AL m.L.length cL, .slice AG gl.length cG, .slice AF m.fx.length cF, .slice AP pl.length cP, .slice AA al.length cA, .int .i64 m.dep, .int .i64 m.most, .int .i64 x])
  rw [FE.out] at RZ ⊢
  obtain ⟨z0, z1, z2, z3, z4, z5, z6, z7⟩ := cells8 BZ.out.x1
  refine bodyPost_ret (v := .agg #[.slice AL m.L.length cL, .slice AG gl.length cG, .slice AF m.fx.length cF, .slice AP pl.length cP, .slice AA al.length cA, .int .i64 m.dep, .int .i64 m.most, .int .i64 x]) ?_ rfl ⟨_, _, _, _, _, _, _, _, _, _, _, _, _, rfl, RZ.out.less (fun b hb => .inl hb), BZ.out.b⟩
  simp [results, Tryd.results46, go_sem, z0, z1, z2, z3, z4, z5, z6, z7]

set_option maxHeartbeats 16000000 in
set_option maxRecDepth 100000 in
theorem reffail_not (x : Int) (T : Nat → Prop) (N : Nat) (m : Em) (AL : Option Addr) (cL : Nat) (AG : Option Addr) (cG : Nat) (AF : Option Addr) (cF : Nat) (AP : Option Addr) (cP : Nat) (AA : Option Addr) (cA : Nat) (gl pl al : List Int) (w : World) (h : RfR w T N m AL cL AG cG AF cF AP cP AA cA gl pl al) (hT : ∀ b, T b → b < w.heap.size) (hN : N ≤ 100000) (he : m.err ≠ 0) :
    Calls Tryd.prog 46 #[.agg #[.slice AL m.L.length cL, .slice AG gl.length cG, .slice AF m.fx.length cF, .slice AP pl.length cP, .slice AA al.length cA, .int .i64 m.dep, .int .i64 m.most, .int .i64 m.err], .int .i64 x] w (RfP T N w (failE m x)) := by
  have b1 := (Below.refl w.heap.size w).alloc (Nat.le_refl _) (.cells #[.slice AL m.L.length cL, .slice AG gl.length cG, .slice AF m.fx.length cF, .slice AP pl.length cP, .slice AA al.length cA, .int .i64 m.dep, .int .i64 m.most, .int .i64 m.err] rfT)
  have BX := Lib.hid (show Bx2 w ((w.alloc (.cells #[.slice AL m.L.length cL, .slice AG gl.length cG, .slice AF m.fx.length cF, .slice AP pl.length cP, .slice AA al.length cA, .int .i64 m.dep, .int .i64 m.most, .int .i64 m.err] rfT)).alloc (.cells #[.slice none 0 0, .slice none 0 0, .slice none 0 0, .slice none 0 0, .slice none 0 0, .int .i64 0, .int .i64 0, .int .i64 0] rfT)) rfT rfT #[.slice AL m.L.length cL, .slice AG gl.length cG, .slice AF m.fx.length cF, .slice AP pl.length cP, .slice AA al.length cA, .int .i64 m.dep, .int .i64 m.most, .int .i64 m.err] #[.slice none 0 0, .slice none 0 0, .slice none 0 0, .slice none 0 0, .slice none 0 0, .int .i64 0, .int .i64 0, .int .i64 0] from ⟨b1.alloc b1.size (.cells #[.slice none 0 0, .slice none 0 0, .slice none 0 0, .slice none 0 0, .slice none 0 0, .int .i64 0, .int .i64 0, .int .i64 0] rfT), (Whole.made w rfT #[.slice AL m.L.length cL, .slice AG gl.length cG, .slice AF m.fx.length cF, .slice AP pl.length cP, .slice AA al.length cA, .int .i64 m.dep, .int .i64 m.most, .int .i64 m.err] _ rfl).alloc _, Whole.made (w.alloc (.cells #[.slice AL m.L.length cL, .slice AG gl.length cG, .slice AF m.fx.length cF, .slice AP pl.length cP, .slice AA al.length cA, .int .i64 m.dep, .int .i64 m.most, .int .i64 m.err] rfT)) rfT #[.slice none 0 0, .slice none 0 0, .slice none 0 0, .slice none 0 0, .slice none 0 0, .int .i64 0, .int .i64 0, .int .i64 0] _ (by simp)⟩)
  have S8 : (Tryd.prog.info? rfT).map (·.size) = some 8 := by kernel_rfl
  have HR := Lib.hid (h.boxed 2)
  clear h hT hN b1
  obtain ⟨a0, a1, a2, a3, a4, a5, a6, a7⟩ := cells8 BX.out.x0
  have zff7 : ((w.alloc (.cells #[.slice AL m.L.length cL, .slice AG gl.length cG, .slice AF m.fx.length cF, .slice AP pl.length cP, .slice AA al.length cA, .int .i64 m.dep, .int .i64 m.most, .int .i64 m.err] rfT)).alloc (.cells #[.slice none 0 0, .slice none 0 0, .slice none 0 0, .slice none 0 0, .slice none 0 0, .int .i64 0, .int .i64 0, .int .i64 0] rfT)).frozen? ⟨w.heap.size, 7, none⟩ = false := BX.out.x0.free 7
  have d : (m.err == 0) = false := beq_eq_false_iff_ne.2 he
  have BY := BX
  have H1 := Lib.hid (show (#[.slice AL m.L.length cL, .slice AG gl.length cG, .slice AF m.fx.length cF, .slice AP pl.length cP, .slice AA al.length cA, .int .i64 m.dep, .int .i64 m.most, .int .i64 m.err] : Array Value).all (·.oneCell') = true from by simp [Value.oneCell'])
  have FE := Lib.hid (show failE m x = ⟨m.L, m.fx, m.dep, m.most, m.err⟩ from by unfold failE; rw [if_neg he])
  go_enter Tryd.func46, Tryd.ntmps46
  repeat (first | (go_big_may; first | (refine wpList_store_row rfl rfT (.tmp 4) (.tmp 10) rfl (w.heap.size + 1) #[.slice AL m.L.length cL, .slice AG gl.length cG, .slice AF m.fx.length cF, .slice AP pl.length cP, .slice AA al.length cA, .int .i64 m.dep, .int .i64 m.most, .int .i64 m.err] rfl rfl rfT #[.slice none 0 0, .slice none 0 0, .slice none 0 0, .slice none 0 0, .slice none 0 0, .int .i64 0, .int .i64 0, .int .i64 0] BY.out.x1 S8 rfl H1.out ?_; generalize hZZ : (((w.alloc (.cells #[.slice AL m.L.length cL, .slice AG gl.length cG, .slice AF m.fx.length cF, .slice AP pl.length cP, .slice AA al.length cA, .int .i64 m.dep, .int .i64 m.most, .int .i64 m.err] rfT)).alloc (.cells #[.slice none 0 0, .slice none 0 0, .slice none 0 0, .slice none 0 0, .slice none 0 0, .int .i64 0, .int .i64 0, .int .i64 0] rfT))).setRow (w.heap.size + 1) #[.slice AL m.L.length cL, .slice AG gl.length cG, .slice AF m.fx.length cF, .slice AP pl.length cP, .slice AA al.length cA, .int .i64 m.dep, .int .i64 m.most, .int .i64 m.err] = ZZ; have HZZ := Lib.hid hZZ; clear hZZ)) | go_values | go_skip | go_guarded | go_step | go_upon)
  have RZ := Lib.hid (show RfR ZZ (fun b => T b ∨ (w.heap.size ≤ b ∧ b < w.heap.size + 2)) N (failE m x) AL cL AG cG AF cF AP cP AA cA gl pl al from by
    rw [FE.out, ← HZZ.out]
    have h0 := (HR.out.below BY.out.b : RfR ((w.alloc (.cells #[.slice AL m.L.length cL, .slice AG gl.length cG, .slice AF m.fx.length cF, .slice AP pl.length cP, .slice AA al.length cA, .int .i64 m.dep, .int .i64 m.most, .int .i64 m.err] rfT)).alloc (.cells #[.slice none 0 0, .slice none 0 0, .slice none 0 0, .slice none 0 0, .slice none 0 0, .int .i64 0, .int .i64 0, .int .i64 0] rfT)) (fun b => T b ∨ (w.heap.size ≤ b ∧ b < w.heap.size + 2)) N m AL cL AG cG AF cF AP cP AA cA gl pl al)
    have h1 := h0.later (BY.out.kept1 #[.slice AL m.L.length cL, .slice AG gl.length cG, .slice AF m.fx.length cF, .slice AP pl.length cP, .slice AA al.length cA, .int .i64 m.dep, .int .i64 m.most, .int .i64 m.err]) (fun b hb => .inr hb)
    exact ⟨h1.fL, h1.fG, h1.fF, h1.fP, h1.fA, h1.lg, h1.lp, h1.la, h1.lf, ⟨h1.ok.good, h1.ok.len, h1.ok.d0, h1.ok.dm⟩, h1.nm⟩)
  have BZ := Lib.hid (show Bx2 w ZZ _ _ _ #[.slice AL m.L.length cL, .slice AG gl.length cG, .slice AF m.fx.length cF, .slice AP pl.length cP, .slice AA al.length cA, .int .i64 m.dep, .int .i64 m.most, .int .i64 m.err] from HZZ.out ▸ BY.out.row1 #[.slice AL m.L.length cL, .slice AG gl.length cG, .slice AF m.fx.length cF, .slice AP pl.length cP, .slice AA al.length cA, .int .i64 m.dep, .int .i64 m.most, .int .i64 m.err])
  rw [FE.out] at RZ ⊢
  obtain ⟨z0, z1, z2, z3, z4, z5, z6, z7⟩ := cells8 BZ.out.x1
  refine bodyPost_ret (v := .agg #[.slice AL m.L.length cL, .slice AG gl.length cG, .slice AF m.fx.length cF, .slice AP pl.length cP, .slice AA al.length cA, .int .i64 m.dep, .int .i64 m.most, .int .i64 m.err]) ?_ rfl ⟨_, _, _, _, _, _, _, _, _, _, _, _, _, rfl, RZ.out.less (fun b hb => .inl hb), BZ.out.b⟩
  simp [results, Tryd.results46, go_sem, z0, z1, z2, z3, z4, z5, z6, z7]

theorem reffail_any (x : Int) (T : Nat → Prop) (N : Nat) (m : Em) (AL : Option Addr) (cL : Nat) (AG : Option Addr) (cG : Nat) (AF : Option Addr) (cF : Nat) (AP : Option Addr) (cP : Nat) (AA : Option Addr) (cA : Nat) (gl pl al : List Int) (w : World) (h : RfR w T N m AL cL AG cG AF cF AP cP AA cA gl pl al) (hT : ∀ b, T b → b < w.heap.size) (hN : N ≤ 100000) :
    Calls Tryd.prog 46 #[.agg #[.slice AL m.L.length cL, .slice AG gl.length cG, .slice AF m.fx.length cF, .slice AP pl.length cP, .slice AA al.length cA, .int .i64 m.dep, .int .i64 m.most, .int .i64 m.err], .int .i64 x] w (RfP T N w (failE m x)) := by
  by_cases he : m.err = 0
  · exact reffail_set x T N m AL cL AG cG AF cF AP cP AA cA gl pl al w h hT hN he
  · exact reffail_not x T N m AL cL AG cG AF cF AP cP AA cA gl pl al w h hT hN he
end Go.Proofs.YtcijjmmckofckaaDoor
