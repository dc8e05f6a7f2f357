/- Scopes: the laws' calls, later; what played leaves. -/
import Derived.Test.YtpfoebnlngfebaaScpX
import Derived.Test.YtpfoebnlngfebaaScpW4
namespace Go.Proofs.Ytpfoebnlngfebaa
open Go.ChangeShapes Go.WideShapes Go.ChangeAt Go.RowKit
set_option linter.unusedVariables false
set_option linter.unusedSimpArgs false

theorem OpGood.later {w w' : World} {o : OpP} (h : OpGood w.heap.size w o) (hb : Below w.heap.size w w') : OpGood w.heap.size w' o :=
  ⟨h.par.below hb, h.ok, h.exs.below hb, h.eok, h.elen⟩

theorem OpPs.later {w w' : World} {A : Option Addr} {n : Nat} {f : Nat → OpP} (h : OpPs w w.heap.size A n f) (hb : Below w.heap.size w w') : OpPs w' w.heap.size A n f :=
  ⟨fun hn => by
    obtain ⟨b, off, rfl, hlt, _, hc⟩ := h.1 hn
    exact ⟨b, off, rfl, hlt, Nat.lt_of_lt_of_le hlt hb.size, fun j hj r u hu => (hb.cell (p := ⟨b, off + (j * 11 + r), none⟩) hlt).trans (hc j hj r u hu)⟩, fun j hj => (h.2 j hj).later hb⟩

/-- What played leaves: the same scopes at both. -/
def PlayedPost (B : Nat) (w : World) (e : Ending) (w' : World) : Prop :=
  ∃ p AL cL AM cM, ∃ s : Stt, e = .returned (.tuple #[.pointer (some ⟨p, 0, none⟩), .agg #[.slice AL s.L.length cL, .int .i64 s.lev, .slice AM s.mods.length cM], .bool true]) ∧
    ∃ T lx mx k, T.p = p ∧ k ≤ 100 ∧ Inv k s ∧ TabAt w' B T s ∧ RefIn w' B AL cL lx AM cM mx s ∧ Below B w w'

theorem names_len {k : Nat} {s : Stt} (h : Inv k s) : (namesP s).length ≤ k := by
  unfold namesP
  rw [List.length_map]
  exact Nat.le_trans (List.length_filter_le _ _) h.len

theorem RefIn.start (w : World) (B : Nat) : RefIn w B none 0 [] none 0 [] st0 :=
  ⟨RowO.nil _ _ _ _, rfl, row_nil _ _ _ _, fun m h => (List.not_mem_nil h).elim, rfl⟩
end Go.Proofs.Ytpfoebnlngfebaa
