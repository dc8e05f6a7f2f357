/- Scan: the page's example. -/
import Derived.Test.YtbkagnhficmdhaaDoorScnU
namespace Go.Proofs.YtbkagnhficmdhaaDoor
open Go.ChangeShapes Go.WideShapes Go.ChangeAt Go.RowKit
set_option linter.unusedVariables false
set_option linter.unusedSimpArgs false

abbrev exS : ByteArray := ⟨#[120, 32, 58, 61, 32, 36, 70, 70]⟩

theorem ex_all : allP exS = ([⟨1, 0, 1, ⟨#[120]⟩, 0⟩, ⟨6, 2, 4, ⟨#[58, 61]⟩, 0⟩, ⟨2, 5, 8, ⟨#[36, 70, 70]⟩, 255⟩, ⟨0, 8, 8, ⟨#[]⟩, 0⟩], 0, 0) := by kernel_rfl

theorem own_block {w : World} {base : Nat} {e : TypeId} {sz : Nat} {v : Value} {n : Nat} {xs : List Value} (h : w.ownsRow base e sz v n xs) (hn : 0 < n) :
    ∃ b c, v = .slice (some ⟨b, 0, none⟩) n c ∧ base ≤ b ∧ ∀ j, j < n * sz → w.cell? ⟨b, j, none⟩ = xs[j]? := by
  have h' := h
  rcases h.2 with ⟨_, h0⟩ | ⟨g, cap, cur, rfl, hb, _⟩
  · omega
  · exact ⟨g, cap, rfl, hb, fun j hj => World.ownsRow.cellAt h' j hj⟩

set_option maxHeartbeats 4000000 in
set_option maxRecDepth 100000 in
theorem awake08_any (w : World) : Calls Tryd.prog 8 #[] w fun e w' => e = .returned (.bool true) ∧ Below w.heap.size w w' := by
  have A := Lib.hid (all_any exS w (by decide))
  rw [ex_all] at A
  unfold AllPost at A
  go_enter Tryd.func8, Tryd.ntmps8
  go_wp2_with fail
  refine A.out.mono ?_
  rintro e w1 ⟨v, rfl, hB, hO⟩
  obtain ⟨b, c, rfl, hb, hc⟩ := own_block hO (by decide)
  have B := Lib.hid hB
  have c0 : w1.cell? ⟨b, 0, none⟩ = some (.int .i64 1) := hc 0 (by decide)
  have c5 : w1.cell? ⟨b, 5, none⟩ = some (.int .i64 6) := hc 5 (by decide)
  have c10 : w1.cell? ⟨b, 10, none⟩ = some (.int .i64 2) := hc 10 (by decide)
  have c14 : w1.cell? ⟨b, 14, none⟩ = some (.int .i32 255) := hc 14 (by decide)
  have c15 : w1.cell? ⟨b, 15, none⟩ = some (.int .i64 0) := hc 15 (by decide)
  clear hO hc hB A
  go_wp2_with fail
  go_ret
  exact ⟨rfl, B.out⟩
end Go.Proofs.YtbkagnhficmdhaaDoor
