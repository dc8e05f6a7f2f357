/- Finger: the answers' Reader: fail, Byte, Left. -/
import Derived.Test.YtdakooipelligaaFngB
namespace Go.Proofs.Ytdakooipelligaa
open Go.ChangeShapes Go.WideShapes Go.ChangeAt Go.RowKit
set_option linter.unusedVariables false
set_option linter.unusedSimpArgs false

abbrev rfT : TypeId := 9997

theorem set_two {w : World} {g : Nat} {t : TypeId} {c0 c1 : Value} (h : Whole w g t #[c0, c1]) (u0 u1 : Value) :
    Whole ((w.setCell ⟨g, 0, none⟩ u0).setCell ⟨g, 1, none⟩ u1) g t #[u0, u1] ∧ w.grownBy ((w.setCell ⟨g, 0, none⟩ u0).setCell ⟨g, 1, none⟩ u1) (some g) :=
  ⟨((h.store 0 u0).store 1 u1), ((grown_set w g 0 u0).trans (grown_set _ g 1 u1))⟩

/-- A reader of the answers': what is left (in slice A n c), its error. -/
structure RfV (w : World) (A : Option Addr) (n c : Nat) (zs : List Int) (err : Int) : Prop where
  ok : err = 0 → Nums .u8 w A n zs ∧ n ≤ c
  bad : err ≠ 0 → zs = []

theorem RfV.below {w w' : World} {A : Option Addr} {n c : Nat} {zs : List Int} {err : Int} (h : RfV w A n c zs err) (hb : Below w.heap.size w w') : RfV w' A n c zs err :=
  ⟨fun e => ⟨(h.ok e).1.below hb, (h.ok e).2⟩, h.bad⟩

theorem RfV.next {w : World} {A A' : Option Addr} {n c : Nat} {b : Int} {r : List Int} (h : RfV w A n c (b :: r) 0) (ha : ∀ g off, A = some ⟨g, off, none⟩ → 1 < c → A' = some ⟨g, off + 1, none⟩) : RfV w A' (n - 1) (c - 1) r 0 :=
  ⟨fun _ => by
    obtain ⟨⟨hl, hc⟩, hn⟩ := h.ok rfl
    rw [List.length_cons] at hl
    refine ⟨⟨by omega, fun h0 => ?_⟩, by omega⟩
    obtain ⟨g, off, rfl, hlt, hcell⟩ := hc (by omega)
    refine ⟨g, off + 1, ha _ _ rfl (by omega), hlt, fun j hj => ?_⟩
    have := hcell (j + 1) (by omega)
    rw [show off + 1 + j = off + (j + 1) by omega, this]
    rfl, fun h => absurd rfl h⟩

end Go.Proofs.Ytdakooipelligaa