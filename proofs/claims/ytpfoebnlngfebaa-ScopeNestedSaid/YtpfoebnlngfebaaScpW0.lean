/- Scopes: what stores into boxes of the answers' scopes leave; what the law's do leaves. -/
import Derived.Test.YtpfoebnlngfebaaScpM
import Derived.Test.YtpfoebnlngfebaaScpV
import Derived.Test.YtpfoebnlngfebaaRowSet
namespace Go.Proofs.Ytpfoebnlngfebaa
open Go.ChangeShapes Go.WideShapes Go.ChangeAt Go.RowKit
set_option linter.unusedVariables false
set_option linter.unusedSimpArgs false

abbrev oT : TypeId := 57

/-- Some boxes of the answers' scopes. -/
def Boxes (w : World) (B : Nat) (S : Nat → Prop) : Prop := ∀ k, S k → B ≤ k ∧ ∃ cs, w.heap[k]? = some (.cells cs rS (0, 0))

theorem Boxes.not {w : World} {B : Nat} {S : Nat → Prop} (h : Boxes w B S) {k : Nat} {t : TypeId} {cs : Array Value} (hw : Whole w k t cs) (ht : t ≠ rS) : ¬ S k := fun hs => by
  obtain ⟨_, cs', e⟩ := h k hs
  unfold Whole at hw
  rw [hw] at e
  injection e with e
  injection e with _ e _
  exact ht e

theorem RowO.boxesE {E : TypeId} {S : Nat → Prop} {w w' : World} {B B' : Nat} {v : Value} {l : List Ox} (h : RowO E w B B' v l) (hE : E ≠ rS) (K : KeptS S w w') (hS : Boxes w B S) : RowO E w' B B' v l :=
  ⟨row_boxes h.row hE K hS, fun x hx => (h.par x hx).boxes K hS⟩

theorem TabAt.boxes {S : Nat → Prop} {w w' : World} {B : Nat} {T : Tb} {s : Stt} (h : TabAt w B T s) (K : KeptS S w w') (hS : Boxes w B S) : TabAt w' B T s :=
  ⟨K.whole h.blk (hS.not h.blk (by decide)), h.le, fun i hi => (h.rows i hi).boxesE (by decide) K hS, h.same, h.apart, row_boxes h.mods (by decide) K hS, fun m hm => (h.mrows m hm).boxesE (by decide) K hS, h.mapart, h.msame⟩

theorem ChPost.boxes {B : Nat} {T : Tb} {w w1 w2 : World} {s : Stt} {S : Nat → Prop} (h : ChPost B T w s w1) (K : KeptS S w1 w2) (hS : Boxes w1 B S) (hw : ∀ k, S k → w.heap.size ≤ k) : ChPost B T w s w2 := by
  obtain ⟨T', hp, hT, hK, hO⟩ := h
  exact ⟨T', hp, hT.boxes K hS, hK.trans K (fun i hi => .inr (hw i hi)), hO⟩

/-- A box that came behind the scopes is none of their blocks. -/
theorem TabAt.notOwn {w : World} {B : Nat} {T : Tb} {s : Stt} (h : TabAt w B T s) {k : Nat} {t : TypeId} {cs : Array Value} (hw : Whole w k t cs) (h1 : t ≠ pS) (h2 : t ≠ pO) (h3 : t ≠ pL) : ¬ Own T k := fun ho => by
  obtain ⟨_, _, cs', t', ht, e⟩ := h.own ho
  unfold Whole at hw
  rw [hw] at e
  injection e with e
  injection e with _ e _
  subst e
  rcases ht with ht | ht | ht
  · exact h1 ht
  · exact h2 ht
  · exact h3 ht

/-- What a call at both leaves: both are the same scopes. -/
def DoPost (B : Nat) (T : Tb) (w : World) (r : Stt) (e : Ending) (w' : World) : Prop :=
  ∃ AL cL lx AM cM mx, e = .returned (.tuple #[.agg #[.slice AL r.L.length cL, .int .i64 r.lev, .slice AM r.mods.length cM], .bool true]) ∧ RefIn w' B AL cL lx AM cM mx r ∧ ChPost B T w r w'

/-- The two boxes of do, stored into at last. -/
theorem two_boxes {w w1 : World} {B g1 g2 : Nat} {c1 c2 : Array Value} (hB : B ≤ w.heap.size) (h1 : Whole w1 g1 rS c1) (h2 : Whole w1 g2 rS c2) (hg1 : w.heap.size ≤ g1) (hg2 : w.heap.size ≤ g2) : Boxes w1 B (fun k => k = g1 ∨ k = g2) ∧ ∀ k, (k = g1 ∨ k = g2) → w.heap.size ≤ k :=
  ⟨fun k hk => by
    rcases hk with rfl | rfl
    · exact ⟨Nat.le_trans hB hg1, _, h1⟩
    · exact ⟨Nat.le_trans hB hg2, _, h2⟩, fun k hk => by rcases hk with rfl | rfl <;> assumption⟩

theorem setRow_kept {S : Nat → Prop} {w : World} {g : Nat} {t : TypeId} {cs us : Array Value} (h : Whole w g t cs) (hS : S g) : KeptS S w (w.setRow g us) :=
  KeptS.grown (h.setRow us).2 (fun b hb => by injection hb with hb; subst hb; exact hS)

theorem setRow_far {w : World} {g k : Nat} {t t' : TypeId} {cs us cs' : Array Value} (h : Whole w g t cs) (hk : Whole w k t' cs') (hne : k ≠ g) : Whole (w.setRow g us) k t' cs' :=
  ((h.setRow us).2.block _ hk.lt (fun e => by injection e with e; exact hne e)).trans hk
end Go.Proofs.Ytpfoebnlngfebaa
