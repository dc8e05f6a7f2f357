/- Emit: a Code in memory, and what a call leaves of it. -/
import Derived.Test.YtcijjmmckofckaaDoorEmtC
import Derived.Test.YtcijjmmckofckaaDoorRowSet
namespace Go.Proofs.YtcijjmmckofckaaDoor
open Go.ChangeShapes Go.WideShapes Go.ChangeAt Go.RowKit
set_option linter.unusedVariables false
set_option linter.unusedSimpArgs false

/-- An own row that lies outside what calls may change. -/
def FarR (w : World) (T : Nat → Prop) (e : TypeId) (k : Nat) (v : Value) (n : Nat) (xs : List Value) : Prop := w.ownsRow 0 e k v n xs ∧ ∀ b, v.ownBlock = some b → ¬ T b

/-- A Code at block g, its lists in blocks of T, from B on. -/
structure CdR (w : World) (B g : Nat) (T : Nat → Prop) (N M : Nat) (m : Em) (vw vf vp vg vm : Value) (ps gs : List Int) (ms : List Sg) : Prop where
  whole : Whole w g cdT #[vw, vf, .int .i64 m.err, .int .i64 m.dep, .int .i64 m.most, vp, vg, vm]
  rw : w.ownsRow B u4T 1 vw m.L.length (m.L.flatMap wdC)
  rf : w.ownsRow B fxT 4 vf m.fx.length (m.fx.flatMap fxC)
  rp : w.ownsRow B itT 1 vp ps.length (ps.flatMap itC)
  rg : w.ownsRow B itT 1 vg gs.length (gs.flatMap itC)
  rm : w.ownsRow B sgT 2 vm ms.length (ms.flatMap sgCells)
  tg : T g
  tw : ∀ b, vw.ownBlock = some b → T b
  tf : ∀ b, vf.ownBlock = some b → T b
  tp : ∀ b, vp.ownBlock = some b → T b
  tq : ∀ b, vg.ownBlock = some b → T b
  tm : ∀ b, vm.ownBlock = some b → T b
  apart : ∀ b, vp.ownBlock = some b → vg.ownBlock ≠ some b
  frm : ∀ b, T b → B ≤ b ∧ b < w.heap.size
  shp : ShapesIn w
  low : 0 < B
  ok : EmOk m
  ml : ms.length ≤ M
  np : ps.length ≤ N
  ng : gs.length ≤ N
  nf : m.fx.length ≤ N
  nm : m.most ≤ N

def CdM (w : World) (B g : Nat) (T : Nat → Prop) (N M : Nat) (m : Em) : Prop := ∃ vw vf vp vg vm ps gs ms, CdR w B g T N M m vw vf vp vg vm ps gs ms

/-- A Code as a call finds it. -/
abbrev CdAt (w : World) (B g : Nat) (T : Nat → Prop) (N : Nat) (m : Em) : Prop := CdM w B g T N m.L.length m

/-- What a call leaves. -/
def CdPM (w w' : World) (B g : Nat) (T : Nat → Prop) (N M : Nat) (m : Em) : Prop := ∃ T', CdM w' B g T' N M m ∧ KeptS T w w' ∧ ∀ b, T' b → T b ∨ w.heap.size ≤ b

abbrev CdPost (w w' : World) (B g : Nat) (T : Nat → Prop) (N : Nat) (m : Em) : Prop := CdPM w w' B g T N m.L.length m

theorem ShapesIn.kept {S : Nat → Prop} {w w' : World} (h : ShapesIn w) (k : KeptS S w w') (hs : ¬ S 0) : ShapesIn w' := fun i => by
  have e := k.block _ h.lt hs
  have h0 := h i
  simp only [World.cell?] at h0 ⊢
  rw [e]
  exact h0

theorem CdR.later {w : World} {B g : Nat} {T : Nat → Prop} {N M : Nat} {m : Em} {vw vf vp vg vm : Value} {ps gs : List Int} {ms : List Sg} {S : Nat → Prop} {w' : World} (h : CdR w B g T N M m vw vf vp vg vm ps gs ms) (k : KeptS S w w') (hS : ∀ b, S b → ¬ T b) (hB : ∀ b, S b → B ≤ b) : CdR w' B g T N M m vw vf vp vg vm ps gs ms :=
  ⟨k.whole h.whole (fun e => hS _ e h.tg), k.row h.rw (fun b hb e => hS b e (h.tw b hb)), k.row h.rf (fun b hb e => hS b e (h.tf b hb)), k.row h.rp (fun b hb e => hS b e (h.tp b hb)), k.row h.rg (fun b hb e => hS b e (h.tq b hb)), k.row h.rm (fun b hb e => hS b e (h.tm b hb)), h.tg, h.tw, h.tf, h.tp, h.tq, h.tm, h.apart, fun b hb => ⟨(h.frm b hb).1, Nat.lt_of_lt_of_le (h.frm b hb).2 k.size⟩, h.shp.kept k (fun e => absurd (hB _ e) (by have := h.low; omega)), h.low, h.ok, h.ml, h.np, h.ng, h.nf, h.nm⟩

theorem CdM.later {w w' : World} {B g : Nat} {T : Nat → Prop} {N M : Nat} {m : Em} {S : Nat → Prop} (h : CdM w B g T N M m) (k : KeptS S w w') (hS : ∀ b, S b → ¬ T b) (hB : ∀ b, S b → B ≤ b) : CdM w' B g T N M m := by
  obtain ⟨vw, vf, vp, vg, vm, ps, gs, ms, h⟩ := h
  exact ⟨vw, vf, vp, vg, vm, ps, gs, ms, h.later k hS hB⟩

theorem CdM.below {w w' : World} {B g : Nat} {T : Nat → Prop} {N M : Nat} {m : Em} (h : CdM w B g T N M m) (hb : Below w.heap.size w w') : CdM w' B g T N M m :=
  h.later (S := fun _ => False) (KeptS.ofBelow hb) (fun _ h => h.elim) (fun _ h => h.elim)

theorem CdM.more {w : World} {B g : Nat} {T : Nat → Prop} {N N' M M' : Nat} {m : Em} (h : CdM w B g T N M m) (hN : N ≤ N') (hM : M ≤ M') : CdM w B g T N' M' m := by
  obtain ⟨vw, vf, vp, vg, vm, ps, gs, ms, h⟩ := h
  exact ⟨vw, vf, vp, vg, vm, ps, gs, ms, { h with ml := Nat.le_trans h.ml hM, np := Nat.le_trans h.np hN, ng := Nat.le_trans h.ng hN, nf := Nat.le_trans h.nf hN, nm := by have := h.nm; omega }⟩

theorem CdPM.refl {w w' : World} {B g : Nat} {T : Nat → Prop} {N M : Nat} {m : Em} (h : CdM w B g T N M m) (hb : Below w.heap.size w w') : CdPM w w' B g T N M m := ⟨T, h.below hb, KeptS.ofBelow hb, fun b hb => .inl hb⟩

theorem CdPM.trans {w w1 w2 : World} {B g : Nat} {T T1 : Nat → Prop} {N M : Nat} {m : Em} (k : KeptS T w w1) (ht : ∀ b, T1 b → T b ∨ w.heap.size ≤ b) (h : CdPM w1 w2 B g T1 N M m) : CdPM w w2 B g T N M m := by
  obtain ⟨T2, h2, k2, t2⟩ := h
  refine ⟨T2, h2, k.trans k2 ht, fun b hb => ?_⟩
  rcases t2 b hb with h | h
  · exact ht b h
  · exact .inr (Nat.le_trans k.size h)

theorem CdPM.before {w0 w w' : World} {B g : Nat} {T : Nat → Prop} {N M : Nat} {m : Em} (hb : Below w0.heap.size w0 w) (h : CdPM w w' B g T N M m) : CdPM w0 w' B g T N M m := CdPM.trans (KeptS.ofBelow hb) (fun b hb => .inl hb) h

theorem CdPM.after {w w' w'' : World} {B g : Nat} {T : Nat → Prop} {N M : Nat} {m : Em} (h : CdPM w w' B g T N M m) (hb : Below w'.heap.size w' w'') : CdPM w w'' B g T N M m := by
  obtain ⟨T', h, k, t⟩ := h
  exact ⟨T', h.below hb, k.trans (S' := fun _ => False) (KeptS.ofBelow hb) (fun _ h => h.elim), t⟩

theorem CdPM.more {w w' : World} {B g : Nat} {T : Nat → Prop} {N N' M M' : Nat} {m : Em} (h : CdPM w w' B g T N M m) (hN : N ≤ N') (hM : M ≤ M') : CdPM w w' B g T N' M' m := by
  obtain ⟨T', h, k, t⟩ := h
  exact ⟨T', h.more hN hM, k, t⟩

/-- An own row's block is not the Code's. -/
theorem CdR.ne {w : World} {B g : Nat} {T : Nat → Prop} {N M : Nat} {m : Em} {vw vf vp vg vm : Value} {ps gs : List Int} {ms : List Sg} (h : CdR w B g T N M m vw vf vp vg vm ps gs ms) {e : TypeId} {sz n : Nat} {v : Value} {xs : List Value} {B' : Nat} (hr : w.ownsRow B' e sz v n xs) (he : e ≠ cdT) : v.ownBlock ≠ some g :=
  row_ne hr h.whole (fun c fz e' => by injection e' with _ e' _; exact he e'.symm)

theorem CdR.free3 {w : World} {B g : Nat} {T : Nat → Prop} {N M : Nat} {m : Em} {vw vf vp vg vm : Value} {ps gs : List Int} {ms : List Sg} (h : CdR w B g T N M m vw vf vp vg vm ps gs ms) {w3 : World} {r : Option Nat} (hg : w.grownBy w3 r) (hr : r ≠ some g) (j : Nat) : w3.frozen? ⟨g, j, none⟩ = false := by
  have hW : Whole w3 g cdT _ := (hg.block g h.whole.lt (fun e => hr e.symm)).trans h.whole
  exact hW.free j

theorem CdR.cell3 {w : World} {B g : Nat} {T : Nat → Prop} {N M : Nat} {m : Em} {vw vf vp vg vm : Value} {ps gs : List Int} {ms : List Sg} (h : CdR w B g T N M m vw vf vp vg vm ps gs ms) {w3 : World} {r : Option Nat} (hg : w.grownBy w3 r) (hr : r ≠ some g) (j : Nat) : w3.cell? ⟨g, j, none⟩ = #[vw, vf, .int .i64 m.err, .int .i64 m.dep, .int .i64 m.most, vp, vg, vm][j]? := by
  have hW : Whole w3 g cdT _ := (hg.block g h.whole.lt (fun e => hr e.symm)).trans h.whole
  exact hW.cell j

theorem apart_some {a b : Option Nat} (h : a = none ∨ a ≠ b) : ∀ x, a = some x → b ≠ some x := fun x hx hb => by
  rcases h with h | h
  · rw [h] at hx; cases hx
  · exact h (hx.trans hb.symm)

theorem CdR.setE {w : World} {B g : Nat} {T : Nat → Prop} {N M : Nat} {m : Em} {vw vf vp vg vm : Value} {ps gs : List Int} {ms : List Sg} (h : CdR w B g T N M m vw vf vp vg vm ps gs ms) (e : Int)  : CdR (w.setCell ⟨g, 2, none⟩ (.int .i64 e)) B g T N M ⟨m.L, m.fx, m.dep, m.most, e⟩ vw vf vp vg vm ps gs ms := by
  have k : KeptS (fun b => b = g) w (w.setCell ⟨g, 2, none⟩ (.int .i64 e)) := KeptS.set (S := fun b => b = g) rfl
  exact ⟨(h.whole.store 2 (.int .i64 e)), k.row h.rw (fun b hb e => h.ne h.rw (by decide) (e ▸ hb)), k.row h.rf (fun b hb e => h.ne h.rf (by decide) (e ▸ hb)), k.row h.rp (fun b hb e => h.ne h.rp (by decide) (e ▸ hb)), k.row h.rg (fun b hb e => h.ne h.rg (by decide) (e ▸ hb)), k.row h.rm (fun b hb e => h.ne h.rm (by decide) (e ▸ hb)), h.tg, h.tw, h.tf, h.tp, h.tq, h.tm, h.apart, fun b hb => ⟨(h.frm b hb).1, Nat.lt_of_lt_of_le (h.frm b hb).2 k.size⟩, h.shp.kept k (fun e => absurd (h.frm _ h.tg).1 (by have := h.low; omega)), h.low, ⟨h.ok.good, h.ok.len, h.ok.d0, h.ok.dm⟩, h.ml, h.np, h.ng, h.nf, h.nm⟩

theorem CdR.setEP {w : World} {B g : Nat} {T : Nat → Prop} {N M : Nat} {m : Em} {vw vf vp vg vm : Value} {ps gs : List Int} {ms : List Sg} (h : CdR w B g T N M m vw vf vp vg vm ps gs ms) (e : Int)  : CdPM w (w.setCell ⟨g, 2, none⟩ (.int .i64 e)) B g T N M ⟨m.L, m.fx, m.dep, m.most, e⟩ :=
  ⟨T, ⟨_, _, _, _, _, _, _, _, h.setE e⟩, KeptS.set h.tg, fun b hb => .inl hb⟩

theorem CdR.setM {w : World} {B g : Nat} {T : Nat → Prop} {N M : Nat} {m : Em} {vw vf vp vg vm : Value} {ps gs : List Int} {ms : List Sg} (h : CdR w B g T N M m vw vf vp vg vm ps gs ms) (x : Int) (hx : m.dep ≤ x) (hn : x ≤ N) : CdR (w.setCell ⟨g, 4, none⟩ (.int .i64 x)) B g T N M ⟨m.L, m.fx, m.dep, x, m.err⟩ vw vf vp vg vm ps gs ms := by
  have k : KeptS (fun b => b = g) w (w.setCell ⟨g, 4, none⟩ (.int .i64 x)) := KeptS.set (S := fun b => b = g) rfl
  exact ⟨(h.whole.store 4 (.int .i64 x)), k.row h.rw (fun b hb e => h.ne h.rw (by decide) (e ▸ hb)), k.row h.rf (fun b hb e => h.ne h.rf (by decide) (e ▸ hb)), k.row h.rp (fun b hb e => h.ne h.rp (by decide) (e ▸ hb)), k.row h.rg (fun b hb e => h.ne h.rg (by decide) (e ▸ hb)), k.row h.rm (fun b hb e => h.ne h.rm (by decide) (e ▸ hb)), h.tg, h.tw, h.tf, h.tp, h.tq, h.tm, h.apart, fun b hb => ⟨(h.frm b hb).1, Nat.lt_of_lt_of_le (h.frm b hb).2 k.size⟩, h.shp.kept k (fun e => absurd (h.frm _ h.tg).1 (by have := h.low; omega)), h.low, ⟨h.ok.good, h.ok.len, h.ok.d0, hx⟩, h.ml, h.np, h.ng, h.nf, hn⟩

theorem CdR.setMP {w : World} {B g : Nat} {T : Nat → Prop} {N M : Nat} {m : Em} {vw vf vp vg vm : Value} {ps gs : List Int} {ms : List Sg} (h : CdR w B g T N M m vw vf vp vg vm ps gs ms) (x : Int) (hx : m.dep ≤ x) (hn : x ≤ N) : CdPM w (w.setCell ⟨g, 4, none⟩ (.int .i64 x)) B g T N M ⟨m.L, m.fx, m.dep, x, m.err⟩ :=
  ⟨T, ⟨_, _, _, _, _, _, _, _, h.setM x hx hn⟩, KeptS.set h.tg, fun b hb => .inl hb⟩

theorem CdR.setDM {w : World} {B g : Nat} {T : Nat → Prop} {N M : Nat} {m : Em} {vw vf vp vg vm : Value} {ps gs : List Int} {ms : List Sg} (h : CdR w B g T N M m vw vf vp vg vm ps gs ms) (d x : Int) (hd : 0 ≤ d) (hx : d ≤ x) (hn : x ≤ N) : CdR ((w.setCell ⟨g, 3, none⟩ (.int .i64 d)).setCell ⟨g, 4, none⟩ (.int .i64 x)) B g T N M ⟨m.L, m.fx, d, x, m.err⟩ vw vf vp vg vm ps gs ms := by
  have k : KeptS (fun b => b = g) w ((w.setCell ⟨g, 3, none⟩ (.int .i64 d)).setCell ⟨g, 4, none⟩ (.int .i64 x)) := (KeptS.set (S := fun b => b = g) rfl).trans (KeptS.set (S := fun b => b = g) rfl) (fun _ h => .inl h)
  exact ⟨((h.whole.store 3 (.int .i64 d)).store 4 (.int .i64 x)), k.row h.rw (fun b hb e => h.ne h.rw (by decide) (e ▸ hb)), k.row h.rf (fun b hb e => h.ne h.rf (by decide) (e ▸ hb)), k.row h.rp (fun b hb e => h.ne h.rp (by decide) (e ▸ hb)), k.row h.rg (fun b hb e => h.ne h.rg (by decide) (e ▸ hb)), k.row h.rm (fun b hb e => h.ne h.rm (by decide) (e ▸ hb)), h.tg, h.tw, h.tf, h.tp, h.tq, h.tm, h.apart, fun b hb => ⟨(h.frm b hb).1, Nat.lt_of_lt_of_le (h.frm b hb).2 k.size⟩, h.shp.kept k (fun e => absurd (h.frm _ h.tg).1 (by have := h.low; omega)), h.low, ⟨h.ok.good, h.ok.len, hd, hx⟩, h.ml, h.np, h.ng, h.nf, hn⟩

theorem CdR.setDMP {w : World} {B g : Nat} {T : Nat → Prop} {N M : Nat} {m : Em} {vw vf vp vg vm : Value} {ps gs : List Int} {ms : List Sg} (h : CdR w B g T N M m vw vf vp vg vm ps gs ms) (d x : Int) (hd : 0 ≤ d) (hx : d ≤ x) (hn : x ≤ N) : CdPM w ((w.setCell ⟨g, 3, none⟩ (.int .i64 d)).setCell ⟨g, 4, none⟩ (.int .i64 x)) B g T N M ⟨m.L, m.fx, d, x, m.err⟩ :=
  ⟨T, ⟨_, _, _, _, _, _, _, _, h.setDM d x hd hx hn⟩, (KeptS.set h.tg).trans (KeptS.set h.tg) (fun _ h => .inl h), fun b hb => .inl hb⟩

theorem CdR.setW {w : World} {B g : Nat} {T : Nat → Prop} {N M : Nat} {m : Em} {vw vf vp vg vm : Value} {ps gs : List Int} {ms : List Sg} (h : CdR w B g T N M m vw vf vp vg vm ps gs ms) {w3 : World} {v' : Value} {L' : List Ins} (hg : w.grownBy w3 vw.ownBlock) (ho : w3.ownsRow B u4T 1 v' L'.length (L'.flatMap wdC)) (hat : v'.ownBlock = vw.ownBlock ∨ v'.ownBlock = some w.heap.size) (hok : EmOk ⟨L', m.fx, m.dep, m.most, m.err⟩) : CdR (w3.setCell ⟨g, 0, none⟩ v') B g (fun b => T b ∨ v'.ownBlock = some b) N M ⟨L', m.fx, m.dep, m.most, m.err⟩ v' vf vp vg vm ps gs ms := by
  have k1 : KeptS (fun b => vw.ownBlock = some b) w w3 := KeptS.grown hg (fun b hb => hb)
  have hW3 := k1.whole h.whole (fun e => h.ne h.rw (by decide) e)
  have k2 : KeptS (fun b => b = g) w3 (w3.setCell ⟨g, 0, none⟩ v') := KeptS.set rfl
  have hne : v'.ownBlock ≠ some g := row_ne ho hW3 (fun c fz e' => by injection e' with _ e' _; exact absurd e' (by decide))
  have k3 : KeptS T w (w3.setCell ⟨g, 0, none⟩ v') := (KeptS.grown hg (fun b hb => h.tw b hb)).trans (KeptS.set h.tg) (fun _ h => .inl h)
  refine ⟨(hW3.store 0 v'), k2.row ho (fun b hb e => hne (e ▸ hb)), k2.row (k1.row h.rf (fun b hb => fun e2 => apart_some (row_apart h.rf h.rw (by decide)) b hb e2)) (fun b hb e => h.ne h.rf (by decide) (e ▸ hb)), k2.row (k1.row h.rp (fun b hb => fun e2 => apart_some (row_apart h.rp h.rw (by decide)) b hb e2)) (fun b hb e => h.ne h.rp (by decide) (e ▸ hb)), k2.row (k1.row h.rg (fun b hb => fun e2 => apart_some (row_apart h.rg h.rw (by decide)) b hb e2)) (fun b hb e => h.ne h.rg (by decide) (e ▸ hb)), k2.row (k1.row h.rm (fun b hb => fun e2 => apart_some (row_apart h.rm h.rw (by decide)) b hb e2)) (fun b hb e => h.ne h.rm (by decide) (e ▸ hb)), .inl h.tg, fun b hb => .inr hb, fun b hb => .inl (h.tf b hb), fun b hb => .inl (h.tp b hb), fun b hb => .inl (h.tq b hb), fun b hb => .inl (h.tm b hb), h.apart, fun b hb => ?_, h.shp.kept k3 (fun e => absurd (h.frm _ e).1 (by have := h.low; omega)), h.low, hok, h.ml, h.np, h.ng, h.nf, h.nm⟩
  · rcases hb with hb | hb
    · exact ⟨(h.frm b hb).1, Nat.lt_of_lt_of_le (h.frm b hb).2 k3.size⟩
    · exact ⟨(row_block ho hb).1, Nat.lt_of_lt_of_le (row_block ho hb).2.1 k2.size⟩

theorem CdR.setWP {w : World} {B g : Nat} {T : Nat → Prop} {N M : Nat} {m : Em} {vw vf vp vg vm : Value} {ps gs : List Int} {ms : List Sg} (h : CdR w B g T N M m vw vf vp vg vm ps gs ms) {w3 : World} {v' : Value} {L' : List Ins} (hg : w.grownBy w3 vw.ownBlock) (ho : w3.ownsRow B u4T 1 v' L'.length (L'.flatMap wdC)) (hat : v'.ownBlock = vw.ownBlock ∨ v'.ownBlock = some w.heap.size) (hok : EmOk ⟨L', m.fx, m.dep, m.most, m.err⟩) : CdPM w (w3.setCell ⟨g, 0, none⟩ v') B g T N M ⟨L', m.fx, m.dep, m.most, m.err⟩ :=
  ⟨_, ⟨_, _, _, _, _, _, _, _, h.setW hg ho hat hok⟩, (KeptS.grown hg (fun b hb => h.tw b hb)).trans (KeptS.set h.tg) (fun _ h => .inl h), fun b hb => by
    rcases hb with hb | hb
    · exact .inl hb
    · rcases hat with h1 | h1
      · exact .inl (h.tw b (h1 ▸ hb))
      · rw [h1] at hb; injection hb with hb; exact .inr (by omega)⟩

theorem CdR.setF {w : World} {B g : Nat} {T : Nat → Prop} {N M : Nat} {m : Em} {vw vf vp vg vm : Value} {ps gs : List Int} {ms : List Sg} (h : CdR w B g T N M m vw vf vp vg vm ps gs ms) {w3 : World} {v' : Value} {L' : List Fxp} (hg : w.grownBy w3 vf.ownBlock) (ho : w3.ownsRow B fxT 4 v' L'.length (L'.flatMap fxC)) (hat : v'.ownBlock = vf.ownBlock ∨ v'.ownBlock = some w.heap.size) (hok : L'.length ≤ N) : CdR (w3.setCell ⟨g, 1, none⟩ v') B g (fun b => T b ∨ v'.ownBlock = some b) N M ⟨m.L, L', m.dep, m.most, m.err⟩ vw v' vp vg vm ps gs ms := by
  have k1 : KeptS (fun b => vf.ownBlock = some b) w w3 := KeptS.grown hg (fun b hb => hb)
  have hW3 := k1.whole h.whole (fun e => h.ne h.rf (by decide) e)
  have k2 : KeptS (fun b => b = g) w3 (w3.setCell ⟨g, 1, none⟩ v') := KeptS.set rfl
  have hne : v'.ownBlock ≠ some g := row_ne ho hW3 (fun c fz e' => by injection e' with _ e' _; exact absurd e' (by decide))
  have k3 : KeptS T w (w3.setCell ⟨g, 1, none⟩ v') := (KeptS.grown hg (fun b hb => h.tf b hb)).trans (KeptS.set h.tg) (fun _ h => .inl h)
  refine ⟨(hW3.store 1 v'), k2.row (k1.row h.rw (fun b hb => fun e2 => apart_some (row_apart h.rw h.rf (by decide)) b hb e2)) (fun b hb e => h.ne h.rw (by decide) (e ▸ hb)), k2.row ho (fun b hb e => hne (e ▸ hb)), k2.row (k1.row h.rp (fun b hb => fun e2 => apart_some (row_apart h.rp h.rf (by decide)) b hb e2)) (fun b hb e => h.ne h.rp (by decide) (e ▸ hb)), k2.row (k1.row h.rg (fun b hb => fun e2 => apart_some (row_apart h.rg h.rf (by decide)) b hb e2)) (fun b hb e => h.ne h.rg (by decide) (e ▸ hb)), k2.row (k1.row h.rm (fun b hb => fun e2 => apart_some (row_apart h.rm h.rf (by decide)) b hb e2)) (fun b hb e => h.ne h.rm (by decide) (e ▸ hb)), .inl h.tg, fun b hb => .inl (h.tw b hb), fun b hb => .inr hb, fun b hb => .inl (h.tp b hb), fun b hb => .inl (h.tq b hb), fun b hb => .inl (h.tm b hb), h.apart, fun b hb => ?_, h.shp.kept k3 (fun e => absurd (h.frm _ e).1 (by have := h.low; omega)), h.low, ⟨h.ok.good, h.ok.len, h.ok.d0, h.ok.dm⟩, h.ml, h.np, h.ng, hok, h.nm⟩
  · rcases hb with hb | hb
    · exact ⟨(h.frm b hb).1, Nat.lt_of_lt_of_le (h.frm b hb).2 k3.size⟩
    · exact ⟨(row_block ho hb).1, Nat.lt_of_lt_of_le (row_block ho hb).2.1 k2.size⟩

theorem CdR.setFP {w : World} {B g : Nat} {T : Nat → Prop} {N M : Nat} {m : Em} {vw vf vp vg vm : Value} {ps gs : List Int} {ms : List Sg} (h : CdR w B g T N M m vw vf vp vg vm ps gs ms) {w3 : World} {v' : Value} {L' : List Fxp} (hg : w.grownBy w3 vf.ownBlock) (ho : w3.ownsRow B fxT 4 v' L'.length (L'.flatMap fxC)) (hat : v'.ownBlock = vf.ownBlock ∨ v'.ownBlock = some w.heap.size) (hok : L'.length ≤ N) : CdPM w (w3.setCell ⟨g, 1, none⟩ v') B g T N M ⟨m.L, L', m.dep, m.most, m.err⟩ :=
  ⟨_, ⟨_, _, _, _, _, _, _, _, h.setF hg ho hat hok⟩, (KeptS.grown hg (fun b hb => h.tf b hb)).trans (KeptS.set h.tg) (fun _ h => .inl h), fun b hb => by
    rcases hb with hb | hb
    · exact .inl hb
    · rcases hat with h1 | h1
      · exact .inl (h.tf b (h1 ▸ hb))
      · rw [h1] at hb; injection hb with hb; exact .inr (by omega)⟩

theorem CdR.setP {w : World} {B g : Nat} {T : Nat → Prop} {N M : Nat} {m : Em} {vw vf vp vg vm : Value} {ps gs : List Int} {ms : List Sg} (h : CdR w B g T N M m vw vf vp vg vm ps gs ms) {w3 : World} {v' : Value} {L' : List Int} (hg : w.grownBy w3 vp.ownBlock) (ho : w3.ownsRow B itT 1 v' L'.length (L'.flatMap itC)) (hat : v'.ownBlock = vp.ownBlock ∨ v'.ownBlock = some w.heap.size) (hok : L'.length ≤ N) : CdR (w3.setCell ⟨g, 5, none⟩ v') B g (fun b => T b ∨ v'.ownBlock = some b) N M m vw vf v' vg vm L' gs ms := by
  have k1 : KeptS (fun b => vp.ownBlock = some b) w w3 := KeptS.grown hg (fun b hb => hb)
  have hW3 := k1.whole h.whole (fun e => h.ne h.rp (by decide) e)
  have k2 : KeptS (fun b => b = g) w3 (w3.setCell ⟨g, 5, none⟩ v') := KeptS.set rfl
  have hne : v'.ownBlock ≠ some g := row_ne ho hW3 (fun c fz e' => by injection e' with _ e' _; exact absurd e' (by decide))
  have k3 : KeptS T w (w3.setCell ⟨g, 5, none⟩ v') := (KeptS.grown hg (fun b hb => h.tp b hb)).trans (KeptS.set h.tg) (fun _ h => .inl h)
  refine ⟨(hW3.store 5 v'), k2.row (k1.row h.rw (fun b hb => fun e2 => apart_some (row_apart h.rw h.rp (by decide)) b hb e2)) (fun b hb e => h.ne h.rw (by decide) (e ▸ hb)), k2.row (k1.row h.rf (fun b hb => fun e2 => apart_some (row_apart h.rf h.rp (by decide)) b hb e2)) (fun b hb e => h.ne h.rf (by decide) (e ▸ hb)), k2.row ho (fun b hb e => hne (e ▸ hb)), k2.row (k1.row h.rg (fun b hb => fun e2 => h.apart b e2 hb)) (fun b hb e => h.ne h.rg (by decide) (e ▸ hb)), k2.row (k1.row h.rm (fun b hb => fun e2 => apart_some (row_apart h.rm h.rp (by decide)) b hb e2)) (fun b hb e => h.ne h.rm (by decide) (e ▸ hb)), .inl h.tg, fun b hb => .inl (h.tw b hb), fun b hb => .inl (h.tf b hb), fun b hb => .inr hb, fun b hb => .inl (h.tq b hb), fun b hb => .inl (h.tm b hb), ?_, fun b hb => ?_, h.shp.kept k3 (fun e => absurd (h.frm _ e).1 (by have := h.low; omega)), h.low, h.ok, h.ml, hok, h.ng, h.nf, h.nm⟩
  · exact fun b hb e => by
      rcases hat with h1 | h1
      · exact h.apart b (h1 ▸ hb) e
      · rw [h1] at hb; injection hb with hb; exact absurd (row_block h.rg e).2.1 (by omega)
  · rcases hb with hb | hb
    · exact ⟨(h.frm b hb).1, Nat.lt_of_lt_of_le (h.frm b hb).2 k3.size⟩
    · exact ⟨(row_block ho hb).1, Nat.lt_of_lt_of_le (row_block ho hb).2.1 k2.size⟩

theorem CdR.setPP {w : World} {B g : Nat} {T : Nat → Prop} {N M : Nat} {m : Em} {vw vf vp vg vm : Value} {ps gs : List Int} {ms : List Sg} (h : CdR w B g T N M m vw vf vp vg vm ps gs ms) {w3 : World} {v' : Value} {L' : List Int} (hg : w.grownBy w3 vp.ownBlock) (ho : w3.ownsRow B itT 1 v' L'.length (L'.flatMap itC)) (hat : v'.ownBlock = vp.ownBlock ∨ v'.ownBlock = some w.heap.size) (hok : L'.length ≤ N) : CdPM w (w3.setCell ⟨g, 5, none⟩ v') B g T N M m :=
  ⟨_, ⟨_, _, _, _, _, _, _, _, h.setP hg ho hat hok⟩, (KeptS.grown hg (fun b hb => h.tp b hb)).trans (KeptS.set h.tg) (fun _ h => .inl h), fun b hb => by
    rcases hb with hb | hb
    · exact .inl hb
    · rcases hat with h1 | h1
      · exact .inl (h.tp b (h1 ▸ hb))
      · rw [h1] at hb; injection hb with hb; exact .inr (by omega)⟩

theorem CdR.setG {w : World} {B g : Nat} {T : Nat → Prop} {N M : Nat} {m : Em} {vw vf vp vg vm : Value} {ps gs : List Int} {ms : List Sg} (h : CdR w B g T N M m vw vf vp vg vm ps gs ms) {w3 : World} {v' : Value} {L' : List Int} (hg : w.grownBy w3 vg.ownBlock) (ho : w3.ownsRow B itT 1 v' L'.length (L'.flatMap itC)) (hat : v'.ownBlock = vg.ownBlock ∨ v'.ownBlock = some w.heap.size) (hok : L'.length ≤ N) : CdR (w3.setCell ⟨g, 6, none⟩ v') B g (fun b => T b ∨ v'.ownBlock = some b) N M m vw vf vp v' vm ps L' ms := by
  have k1 : KeptS (fun b => vg.ownBlock = some b) w w3 := KeptS.grown hg (fun b hb => hb)
  have hW3 := k1.whole h.whole (fun e => h.ne h.rg (by decide) e)
  have k2 : KeptS (fun b => b = g) w3 (w3.setCell ⟨g, 6, none⟩ v') := KeptS.set rfl
  have hne : v'.ownBlock ≠ some g := row_ne ho hW3 (fun c fz e' => by injection e' with _ e' _; exact absurd e' (by decide))
  have k3 : KeptS T w (w3.setCell ⟨g, 6, none⟩ v') := (KeptS.grown hg (fun b hb => h.tq b hb)).trans (KeptS.set h.tg) (fun _ h => .inl h)
  refine ⟨(hW3.store 6 v'), k2.row (k1.row h.rw (fun b hb => fun e2 => apart_some (row_apart h.rw h.rg (by decide)) b hb e2)) (fun b hb e => h.ne h.rw (by decide) (e ▸ hb)), k2.row (k1.row h.rf (fun b hb => fun e2 => apart_some (row_apart h.rf h.rg (by decide)) b hb e2)) (fun b hb e => h.ne h.rf (by decide) (e ▸ hb)), k2.row (k1.row h.rp (fun b hb => fun e2 => h.apart b hb e2)) (fun b hb e => h.ne h.rp (by decide) (e ▸ hb)), k2.row ho (fun b hb e => hne (e ▸ hb)), k2.row (k1.row h.rm (fun b hb => fun e2 => apart_some (row_apart h.rm h.rg (by decide)) b hb e2)) (fun b hb e => h.ne h.rm (by decide) (e ▸ hb)), .inl h.tg, fun b hb => .inl (h.tw b hb), fun b hb => .inl (h.tf b hb), fun b hb => .inl (h.tp b hb), fun b hb => .inr hb, fun b hb => .inl (h.tm b hb), ?_, fun b hb => ?_, h.shp.kept k3 (fun e => absurd (h.frm _ e).1 (by have := h.low; omega)), h.low, h.ok, h.ml, h.np, hok, h.nf, h.nm⟩
  · exact fun b hb e => by
      rcases hat with h1 | h1
      · exact h.apart b hb (h1 ▸ e)
      · rw [h1] at e; injection e with e; exact absurd (row_block h.rp hb).2.1 (by omega)
  · rcases hb with hb | hb
    · exact ⟨(h.frm b hb).1, Nat.lt_of_lt_of_le (h.frm b hb).2 k3.size⟩
    · exact ⟨(row_block ho hb).1, Nat.lt_of_lt_of_le (row_block ho hb).2.1 k2.size⟩

theorem CdR.setGP {w : World} {B g : Nat} {T : Nat → Prop} {N M : Nat} {m : Em} {vw vf vp vg vm : Value} {ps gs : List Int} {ms : List Sg} (h : CdR w B g T N M m vw vf vp vg vm ps gs ms) {w3 : World} {v' : Value} {L' : List Int} (hg : w.grownBy w3 vg.ownBlock) (ho : w3.ownsRow B itT 1 v' L'.length (L'.flatMap itC)) (hat : v'.ownBlock = vg.ownBlock ∨ v'.ownBlock = some w.heap.size) (hok : L'.length ≤ N) : CdPM w (w3.setCell ⟨g, 6, none⟩ v') B g T N M m :=
  ⟨_, ⟨_, _, _, _, _, _, _, _, h.setG hg ho hat hok⟩, (KeptS.grown hg (fun b hb => h.tq b hb)).trans (KeptS.set h.tg) (fun _ h => .inl h), fun b hb => by
    rcases hb with hb | hb
    · exact .inl hb
    · rcases hat with h1 | h1
      · exact .inl (h.tq b (h1 ▸ hb))
      · rw [h1] at hb; injection hb with hb; exact .inr (by omega)⟩

/-- The Builder in a Code. -/
theorem CdR.b7 {w : World} {B g : Nat} {T : Nat → Prop} {N M : Nat} {m : Em} {vw vf vp vg vm : Value} {ps gs : List Int} {ms : List Sg} (h : CdR w B g T N M m vw vf vp vg vm ps gs ms) : B7At w B g vw vf (.int .i64 m.err) (.int .i64 m.dep) (.int .i64 m.most) vp vg vm.ownBlock ms := ⟨vm, h.whole, h.rm, rfl, (h.frm g h.tg).1⟩

theorem CdR.mark {w : World} {B g : Nat} {T : Nat → Prop} {N M : Nat} {m : Em} {vw vf vp vg vm : Value} {ps gs : List Int} {ms : List Sg} (h : CdR w B g T N M m vw vf vp vg vm ps gs ms) {w' : World} {ms' : List Sg} (q : B7Post w w' B g vw vf (.int .i64 m.err) (.int .i64 m.dep) (.int .i64 m.most) vp vg vm.ownBlock ms') (hl : ms'.length ≤ ms.length + 1) : CdPM w w' B g T N (M + 1) m := by
  obtain ⟨h', ⟨v, h1, h2, h3, h4⟩, k, ht⟩ := q
  have kT : KeptS T w w' := ⟨k.os, k.tape, k.output, k.size, fun b hb hn => k.block b hb (fun hs => hn (by
    rcases hs with rfl | hs
    · exact h.tg
    · exact h.tm b hs))⟩
  have hk : ∀ {e : TypeId} {sz n : Nat} {u : Value} {xs : List Value}, w.ownsRow B e sz u n xs → e ≠ cdT → e ≠ sgT → w'.ownsRow B e sz u n xs := fun hr h5 h6 => k.row hr (fun b hb hs => by
    rcases hs with rfl | hs
    · exact h.ne hr h5 hb
    · exact apart_some (row_apart hr h.rm h6) b hb hs)
  refine ⟨fun b => T b ∨ v.ownBlock = some b, ⟨vw, vf, vp, vg, v, ps, gs, ms', ⟨h1, hk h.rw (by decide) (by decide), hk h.rf (by decide) (by decide), hk h.rp (by decide) (by decide), hk h.rg (by decide) (by decide), h2, .inl h.tg, fun b hb => .inl (h.tw b hb), fun b hb => .inl (h.tf b hb), fun b hb => .inl (h.tp b hb), fun b hb => .inl (h.tq b hb), fun b hb => .inr hb, h.apart, fun b hb => ?_, h.shp.kept kT (fun e => absurd (h.frm _ e).1 (by have := h.low; omega)), h.low, h.ok, by have := h.ml; omega, h.np, h.ng, h.nf, h.nm⟩⟩, kT, fun b hb => ?_⟩
  · rcases hb with hb | hb
    · exact ⟨(h.frm b hb).1, Nat.lt_of_lt_of_le (h.frm b hb).2 k.size⟩
    · exact ⟨(row_block h2 hb).1, (row_block h2 hb).2.1⟩
  · rcases hb with hb | hb
    · exact .inl hb
    · rw [h3] at hb
      rcases ht with e | ⟨c, e, hc⟩
      · exact .inl (h.tm b (e ▸ hb))
      · rw [e] at hb; injection hb with hb; exact .inr (by omega)

theorem FarR.later {w w' : World} {T S : Nat → Prop} {e : TypeId} {k n : Nat} {v : Value} {xs : List Value} (h : FarR w T e k v n xs) (K : KeptS S w w') (hS : ∀ b, v.ownBlock = some b → ¬ S b) : FarR w' T e k v n xs := ⟨K.row h.1 hS, h.2⟩

theorem FarR.below {w w' : World} {T : Nat → Prop} {e : TypeId} {k n : Nat} {v : Value} {xs : List Value} (h : FarR w T e k v n xs) (hb : Below w.heap.size w w') : FarR w' T e k v n xs := ⟨row_below h.1 hb, h.2⟩

/-- Behind a call of the Code's. -/
theorem FarR.kept {w w' : World} {T T' : Nat → Prop} {e : TypeId} {k n : Nat} {v : Value} {xs : List Value} (h : FarR w T e k v n xs) (K : KeptS T w w') (hT : ∀ b, T' b → T b ∨ w.heap.size ≤ b) : FarR w' T' e k v n xs :=
  ⟨K.row h.1 h.2, fun b hb ht => by
    rcases hT b ht with h1 | h1
    · exact h.2 b hb h1
    · exact absurd (row_block h.1 hb).2.1 (by omega)⟩

theorem FarR.nil (w : World) (T : Nat → Prop) (e : TypeId) (k : Nat) : FarR w T e k (.slice none 0 0) 0 [] := ⟨row_nil w 0 e k, fun b hb => by simp [Value.ownBlock] at hb⟩
end Go.Proofs.YtcijjmmckofckaaDoor
