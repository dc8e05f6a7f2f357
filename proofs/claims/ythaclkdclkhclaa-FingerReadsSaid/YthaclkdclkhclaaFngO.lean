/- Finger: the answers' Take: what is kept. -/
import Derived.Test.YthaclkdclkhclaaFngN
namespace Go.Proofs.Ythaclkdclkhclaa
open Go.ChangeShapes Go.WideShapes Go.ChangeAt Go.RowKit
set_option linter.unusedVariables false
set_option linter.unusedSimpArgs false

/-- Within a round of Take: the reader's box p, the export's box x, the row of its parameters. -/
structure TxF (V wr w : World) (p x : Nat) (A : Option Addr) (n c : Nat) (zs : List Int) (err : Int) (xc : Array Value) (pv : Value) (ps : List (Int × Bool)) : Prop where
  VW : Below V.heap.size V w
  RV : RfV V A n c zs err
  RN : n ≤ 1000000
  Rp : Whole w p rfT #[.slice A n c, .int .i64 err]
  X : Whole w x pE xc
  P : w.ownsRow wr.heap.size pP 2 pv ps.length (ps.flatMap parCells)
  K : KeptS (fun b => b = p) wr w
  Vp : V.heap.size ≤ p
  lp : p < wr.heap.size
  lx : wr.heap.size ≤ x

section
variable {V wr w w' : World} {p x : Nat} {A A' : Option Addr} {n c n' c' : Nat} {zs zs' : List Int} {err err' : Int} {xc : Array Value} {pv pv' : Value} {ps : List (Int × Bool)}

theorem TxF.call (h : TxF V wr w p x A n c zs err xc pv ps) (hb : Below w.heap.size w w') : TxF V wr w' p x A n c zs err xc pv ps :=
  ⟨h.VW.trans (hb.mono h.VW.size), h.RV, h.RN, h.Rp.below hb h.Rp.lt, h.X.below hb h.X.lt, row_below h.P hb, h.K.trans (S' := fun _ => False) (KeptS.ofBelow hb) (fun i hi => hi.elim), h.Vp, h.lp, h.lx⟩

theorem TxF.setp (h : TxF V wr w p x A n c zs err xc pv ps) (hr : RfV V A' n' c' zs' err') (hn : n' ≤ 1000000) : TxF V wr (w.setRow p #[.slice A' n' c', .int .i64 err']) p x A' n' c' zs' err' xc pv ps := by
  have s := h.Rp.setRow #[.slice A' n' c', .int .i64 err']
  have hk : KeptS (fun b => b = p) w (w.setRow p #[.slice A' n' c', .int .i64 err']) := KeptS.grown s.2 (fun b hb => by injection hb with hb; exact hb.symm)
  exact ⟨h.VW.grown s.2 h.VW.size (fun b hb => by injection hb with hb; have := h.Vp; omega), hr, hn, s.1, hk.whole h.X (by have := h.lp; have := h.lx; show ¬ x = p; omega), hk.row h.P (fun b hb hs => by subst hs; exact row_ne h.P h.Rp (fun _ _ e => by injection e with _ e _; exact absurd e (by decide)) hb), h.K.trans hk (fun i hi => .inl hi), h.Vp, h.lp, h.lx⟩

theorem TxF.put (h : TxF V wr w p x A n c zs err xc pv ps) (i : Nat) (u : Value) : TxF V wr (w.setCell ⟨x, i, none⟩ u) p x A n c zs err (xc.setIfInBounds i u) pv ps := by
  have hk : KeptS (fun b => b = x) w (w.setCell ⟨x, i, none⟩ u) := KeptS.set rfl
  exact ⟨h.VW.grown (grown_set w x i u) h.VW.size (fun b hb => by injection hb with hb; have := h.Vp; have := h.lp; have := h.lx; omega), h.RV, h.RN, hk.whole h.Rp (by have := h.lp; have := h.lx; show ¬ p = x; omega), h.X.store i u, hk.row h.P (fun b hb hs => by subst hs; exact row_ne h.P h.X (fun _ _ e => by injection e with _ e _; exact absurd e (by decide)) hb), h.K.trans hk (fun i hi => .inr (by have := h.lx; omega)), h.Vp, h.lp, h.lx⟩

theorem TxF.far (h : TxF V wr w p x A n c zs err xc pv ps) {y i : Nat} {u : Value} (hy : wr.heap.size ≤ y) (hx : x ≠ y) (ho : pv.ownBlock ≠ some y) : TxF V wr (w.setCell ⟨y, i, none⟩ u) p x A n c zs err xc pv ps := by
  have hk : KeptS (fun b => b = y) w (w.setCell ⟨y, i, none⟩ u) := KeptS.set rfl
  exact ⟨h.VW.grown (grown_set w y i u) h.VW.size (fun b hb => by injection hb with hb; have := h.Vp; have := h.lp; omega), h.RV, h.RN, hk.whole h.Rp (by have := h.lp; show ¬ p = y; omega), hk.whole h.X hx, hk.row h.P (fun b hb hs => by subst hs; exact ho hb), h.K.trans hk (fun i hi => .inr (by omega)), h.Vp, h.lp, h.lx⟩

theorem TxF.grown (h : TxF V wr w p x A n c zs err xc pv ps) {q : Int × Bool} (hg : w.grownBy w' pv.ownBlock) (ho : w'.ownsRow wr.heap.size pP 2 pv' (ps.length + 1) (ps.flatMap parCells ++ parCells q)) : TxF V wr w' p x A n c zs err xc pv' (ps ++ [q]) := by
  have hne : ∀ b, pv.ownBlock = some b → wr.heap.size ≤ b := fun b hb => (World.ownsRow.lt h.P b hb).1
  have hk : KeptS (fun b => pv.ownBlock = some b) w w' := KeptS.grown hg (fun b hb => hb)
  refine ⟨h.VW.grown hg h.VW.size (fun b hb => by have := hne b hb; have := h.Vp; have := h.lp; omega), h.RV, h.RN, hk.whole h.Rp (fun hs => ?_), hk.whole h.X (fun hs => ?_), by rw [List.length_append, List.flatMap_append, List.length_singleton, List.flatMap_singleton]; exact ho, h.K.trans hk (fun i hi => .inr (hne i hi)), h.Vp, h.lp, h.lx⟩
  · have := hne p hs
    have := h.lp
    omega
  · exact row_ne h.P h.X (fun _ _ e => by injection e with _ e _; exact absurd e (by decide)) hs
end

/-- Between the rounds of Take: the reader's box, the result's box behind it, the list. -/
structure TkF (V w0 w : World) (A : Option Addr) (n c : Nat) (zs : List Int) (err : Int) (lv : Value) (l : List Exx) : Prop where
  VW : Below V.heap.size V w
  RV : RfV V A n c zs err
  RN : n ≤ 1000000
  Rp : Whole w w0.heap.size rfT #[.slice A n c, .int .i64 err]
  Rq : Whole w (w0.heap.size + 1) rfT #[.slice none 0 0, .int .i64 0]
  L : RowE w 0 w0.heap.size lv l
  B : Below w0.heap.size w0 w
  Vp : V.heap.size ≤ w0.heap.size

/-- A list beside a store into a box of another type. -/
theorem RowE.keepBox {w w' : World} {B' p : Nat} {v : Value} {l : List Exx} {cs : Array Value} (h : RowE w 0 B' v l) (hp : Whole w p rfT cs) (k : KeptS (fun b => b = p) w w') : RowE w' 0 B' v l := by
  refine ⟨k.row h.row (fun b hb hs => ?_), fun x hx => (h.par x hx).keep (Nat.le_refl _) k.size (fun b hb ht => k.block b hb (fun hs => ?_))⟩
  · subst hs
    exact row_ne h.row hp (fun _ _ e => by injection e with _ e _; exact absurd e (by decide)) hb
  · subst hs
    rcases ht with ht | ⟨cs', fz, e⟩
    · omega
    · have hp : w.heap[b]? = some (.cells _ rfT (0, 0)) := hp
      rw [hp] at e
      injection e with e
      injection e with _ e _
      exact absurd e (by decide)

theorem TkF.round {V w0 wr w : World} {x : Nat} {A A' : Option Addr} {n c n' c' : Nat} {zs zs' : List Int} {err err' : Int} {lv : Value} {l : List Exx} {xc : Array Value} {pv : Value} {ps : List (Int × Bool)} (h : TkF V w0 wr A n c zs err lv l) (t : TxF V wr w w0.heap.size x A' n' c' zs' err' xc pv ps) : TkF V w0 w A' n' c' zs' err' lv l :=
  ⟨t.VW, t.RV, t.RN, t.Rp, t.K.whole h.Rq (by show ¬ _ = _; omega), h.L.keepBox h.Rp t.K, KeptS.below h.B t.K h.B.size (fun i hi => by have hi : i = _ := hi; omega), h.Vp⟩

theorem TkF.setp {V w0 w : World} {A A' : Option Addr} {n c n' c' : Nat} {zs zs' : List Int} {err err' : Int} {lv : Value} {l : List Exx} (h : TkF V w0 w A n c zs err lv l) (hr : RfV V A' n' c' zs' err') (hn : n' ≤ 1000000) : TkF V w0 (w.setRow w0.heap.size #[.slice A' n' c', .int .i64 err']) A' n' c' zs' err' lv l := by
  have s := h.Rp.setRow #[.slice A' n' c', .int .i64 err']
  have hk : KeptS (fun b => b = w0.heap.size) w (w.setRow w0.heap.size #[.slice A' n' c', .int .i64 err']) := KeptS.grown s.2 (fun b hb => by injection hb with hb; exact hb.symm)
  exact ⟨h.VW.grown s.2 h.VW.size (fun b hb => by injection hb with hb; have := h.Vp; omega), hr, hn, s.1, hk.whole h.Rq (by show ¬ _ = _; omega), h.L.keepBox h.Rp hk, h.B.grown s.2 h.B.size (fun b hb => by injection hb with hb; omega), h.Vp⟩

theorem TkF.call {V w0 w w' : World} {A : Option Addr} {n c : Nat} {zs : List Int} {err : Int} {lv : Value} {l : List Exx} (h : TkF V w0 w A n c zs err lv l) (hb : Below w.heap.size w w') : TkF V w0 w' A n c zs err lv l :=
  ⟨h.VW.trans (hb.mono h.VW.size), h.RV, h.RN, h.Rp.below hb h.Rp.lt, h.Rq.below hb h.Rq.lt, h.L.below hb, h.B.trans (hb.mono h.B.size), h.Vp⟩

theorem TkF.grown {V w0 w w' : World} {A : Option Addr} {n c : Nat} {zs : List Int} {err : Int} {lv lv' : Value} {l : List Exx} {x : Exx} (h : TkF V w0 w A n c zs err lv l) (hp : ParV 0 w x.2 x.1.ps) (hg : w.grownBy w' lv.ownBlock) (ho : w'.ownsRow w0.heap.size pE 5 lv' (l.length + 1) (l.flatMap exCells ++ exCells x)) : TkF V w0 w' A n c zs err lv' (l ++ [x]) := by
  have hne : ∀ b, lv.ownBlock = some b → w0.heap.size ≤ b := fun b hb => (World.ownsRow.lt h.L.row b hb).1
  have hk : KeptS (fun b => lv.ownBlock = some b) w w' := KeptS.grown hg (fun b hb => hb)
  refine ⟨h.VW.grown hg h.VW.size (fun b hb => by have := hne b hb; have := h.Vp; omega), h.RV, h.RN, hk.whole h.Rp (fun hs => ?_), hk.whole h.Rq (fun hs => ?_), h.L.grown (Nat.zero_le _) hp hg ho, h.B.grown hg h.B.size hne, h.Vp⟩
  · exact row_ne h.L.row h.Rp (fun _ _ e => by injection e with _ e _; exact absurd e (by decide)) hs
  · exact row_ne h.L.row h.Rq (fun _ _ e => by injection e with _ e _; exact absurd e (by decide)) hs
end Go.Proofs.Ythaclkdclkhclaa
