/- Scopes: New, Level, Open. -/
import Derived.Test.YtpfoebnlngfebaaScpC
import Derived.BigRegion
import Derived.BigQuiet
namespace Go.Proofs.Ytpfoebnlngfebaa
open Go.ChangeShapes Go.WideShapes Go.ChangeAt Go.RowKit
set_option linter.unusedVariables false
set_option linter.unusedSimpArgs false

def tab0 (p : Nat) : Tb := ⟨p, fun _ => .slice none 0 0, fun _ => [], .slice none 0 0, []⟩

theorem tab0_at (w : World) (B p : Nat) (hB : B ≤ p) (h : Whole w p pS (tbCells (fun _ => .slice none 0 0) 0 (.slice none 0 0))) : TabAt w B (tab0 p) st0 := by
  refine ⟨h, hB, fun i _ => RowO.nil _ _ _ _, fun i _ => rfl, fun i j _ _ _ b hb => ?_, row_nil _ _ _ _, fun m hm => (List.not_mem_nil hm).elim, fun m hm => (List.not_mem_nil hm).elim, rfl⟩
  simp [tab0, Value.ownBlock] at hb

theorem zero_scopes : ∀ w : World, (zeroValue pS).run Try.prog w = .ok (.agg (tbCells (fun _ => .slice none 0 0) 0 (.slice none 0 0))) w := fun w => by kernel_rfl

set_option maxHeartbeats 4000000 in
set_option maxRecDepth 100000 in
theorem new_any (B : Nat) (w : World) (hB : B ≤ w.heap.size) :
    Calls Try.prog 20 #[] w fun e w' => e = .returned (.pointer (some ⟨w.heap.size, 0, none⟩)) ∧ TabAt w' B (tab0 w.heap.size) st0 ∧ Below w.heap.size w w' := by
  have hz := zero_scopes
  generalize hC : tbCells (fun _ => .slice none 0 0) 0 (.slice none 0 0) = C at *
  go_enter Try.func20, Try.ntmps20
  go_wp2_with fail
  go_ret
  refine ⟨rfl, tab0_at _ B _ hB (by rw [hC]; exact Whole.made w pS _ _ rfl), (Below.refl w.heap.size w).alloc (Nat.le_refl _) _⟩

set_option maxHeartbeats 4000000 in
set_option maxRecDepth 100000 in
theorem level_any (B : Nat) (T : Tb) (s : Stt) (w : World) (h : TabAt w B T s) :
    Calls Try.prog 16 #[.pointer (some ⟨T.p, 0, none⟩)] w fun e w' => e = .returned (.int .i64 s.lev) ∧ w' = w := by
  have u0 : w.cell? ⟨T.p, 65, none⟩ = some (.int .i64 s.lev) := (h.blk.cell 65).trans tb_lev
  clear h
  go_enter Try.func16, Try.ntmps16
  go_wp2_with fail
  go_ret
  exact ⟨rfl, rfl⟩

/-- The level alone is another one. -/
theorem TabAt.level {w : World} {B : Nat} {T : Tb} {s : Stt} (h : TabAt w B T s) (l : Nat) : TabAt (w.setCell ⟨T.p, 65, none⟩ (.int .i64 l)) B T { s with lev := l } := by
  have K : KeptS (fun k => k = T.p) w (w.setCell ⟨T.p, 65, none⟩ (.int .i64 l)) := KeptS.set rfl
  have hp : ∀ {v ps}, ParV B w v ps → ParV B (w.setCell ⟨T.p, 65, none⟩ (.int .i64 l)) v ps := fun hp => hp.set h.blk (by decide) h.le
  have hr : ∀ {v : Value} {l' : List Ox}, RowO pO w B B v l' → RowO pO (w.setCell ⟨T.p, 65, none⟩ (.int .i64 l)) B B v l' := fun hr =>
    ⟨K.row hr.row (fun b hb e => by
      subst e
      exact row_ne hr.row h.blk (fun _ _ h => by injection h with _ h; exact absurd h (by decide)) hb), fun x hx => hp (hr.par x hx)⟩
  refine ⟨?_, h.le, fun i hi => hr (h.rows i hi), h.same, h.apart, K.row h.mods (fun b hb e => ?_), fun m hm => hr (h.mrows m hm), h.mapart, h.msame⟩
  · have := h.blk.store 65 (.int .i64 l)
    rwa [tb_set_lev] at this
  · subst e
    exact row_ne h.mods h.blk (fun _ _ h => by injection h with _ h; exact absurd h (by decide)) hb

theorem TabAt.chLevel {w : World} {B : Nat} {T : Tb} {s : Stt} (h : TabAt w B T s) (l : Nat) : ChPost B T w { s with lev := l } (w.setCell ⟨T.p, 65, none⟩ (.int .i64 l)) :=
  ⟨T, rfl, h.level l, KeptS.set (.inl rfl), fun k hk => .inl hk⟩

theorem TabAt.chSame {w w' : World} {B : Nat} {T : Tb} {s : Stt} (h : TabAt w B T s) (hb : Below w.heap.size w w') : ChPost B T w s w' :=
  ⟨T, rfl, h.below hb, KeptS.ofBelow hb, fun k hk => .inl hk⟩

set_option maxHeartbeats 4000000 in
set_option maxRecDepth 100000 in
theorem open_any (B : Nat) (T : Tb) (s : Stt) (w : World) (h : TabAt w B T s) (hl : s.lev ≤ 64) :
    Calls Try.prog 17 #[.pointer (some ⟨T.p, 0, none⟩)] w fun e w' => e = .returned (.int .i64 (openP s).2) ∧ ChPost B T w (openP s).1 w' := by
  have u0 : w.cell? ⟨T.p, 65, none⟩ = some (.int .i64 s.lev) := (h.blk.cell 65).trans tb_lev
  have f0 : w.frozen? ⟨T.p, 65, none⟩ = false := h.blk.free 65
  by_cases h64 : 64 ≤ s.lev
  · have OP : openP s = (s, 240) := if_pos h64
    rw [OP]
    have HC := Lib.hid (h.chSame (Below.refl _ _))
    have d : decide ((64 : Int) ≤ s.lev) = true := decide_eq_true (by omega)
    clear h OP f0
    go_enter Try.func17, Try.ntmps17
    go_wp2_with fail
    go_ret
    exact ⟨rfl, HC.out⟩
  · have OP : openP s = ({ s with lev := s.lev + 1 }, 0) := if_neg h64
    rw [OP]
    have HC := Lib.hid (h.chLevel (s.lev + 1))
    rw [show ((s.lev + 1 : Nat) : Int) = (s.lev : Int) + 1 by omega] at HC
    have d : decide ((64 : Int) ≤ s.lev) = false := decide_eq_false (by omega)
    have hlt : (s.lev : Int) < 64 := by omega
    clear h OP
    go_enter Try.func17, Try.ntmps17
    go_wp2_with fail
    go_ret
    exact ⟨rfl, HC.out⟩
end Go.Proofs.Ytpfoebnlngfebaa
