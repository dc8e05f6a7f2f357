/- CpuXC MemS in one. -/
import Derived.Test.YtlmokkopaididaaDoorCpuXZ
import Derived.Test.YtlmokkopaididaaDoorCpuKN

/- The laws of package cpu: two machines side by side. -/
namespace Go.Proofs.YtlmokkopaididaaDoor
open Go.ChangeShapes Go.WideShapes Go.ChangeAt Go.RowKit
set_option linter.unusedVariables false

section
variable {w w' : World} {B p q h m : Nat} {e0 e1 e2 e3 e4 : Int} {v : Value} {A : Option Addr} {mi cap : Nat} {inp : List Int} {s : St} {L : List Nat}

theorem Mach.other (M : Mach w B p q h m e0 e1 e2 e3 e4 v A mi cap inp s) (hb : But L w w') (hp : p ∉ L) (hq : q ∉ L) (hh : h ∉ L) (ho : ∀ b, v.ownBlock = some b → b ∉ L) (hi : ∀ b off, A = some ⟨b, off, none⟩ → b ∉ L) : Mach w' B p q h m e0 e1 e2 e3 e4 v A mi cap inp s :=
  { cpu := hb.cpu M.cpu hp, mem := hb.whole M.mem hq, wds := hb.whole M.wds hh, outs := M.outs.but hb ho, inps := M.inps.but hb hi, pq := M.pq, ph := M.ph, qh := M.qh, vp := M.vp, vq := M.vq, vh := M.vh, ia := M.ia, lp := M.lp, lh := M.lh, lw := Nat.le_trans M.lw hb.size }

theorem whole_ne {g1 g2 : Nat} {t1 t2 : TypeId} {c1 c2 : Array Value} (h1 : Whole w g1 t1 c1) (h2 : Whole w g2 t2 c2) (ht : t1 ≠ t2) : g1 ≠ g2 := by
  rintro rfl
  have := h1.symm.trans h2
  simp at this
  exact ht this.2

theorem Outs.ne_of {evs : List (Int × Int)} (h : Outs w B v evs) {g : Nat} {t : TypeId} {c : Array Value} (hw : Whole w g t c) (ht : 87 ≠ t) : ∀ b, v.ownBlock = some b → b ≠ g := by
  rintro b hb rfl
  rcases h.2 with ⟨rfl, _⟩ | ⟨g, cap, cur, rfl, _, a3, _⟩
  · simp [Value.ownBlock] at hb
  · simp [Value.ownBlock] at hb
    subst hb
    have := a3.symm.trans hw
    simp at this
    exact ht this.2
end
end Go.Proofs.YtlmokkopaididaaDoor

/- Package memory: Differ. -/
namespace Go.Proofs.YtlmokkopaididaaDoor
open Go.ChangeShapes Go.WideShapes Go.ChangeAt Go.RowKit
set_option linter.unusedVariables false

/-- Where two lists of words differ first, or not at all. -/
def DiffersAt (n : Nat) (ws vs : List Int) (r : Int) (b : Bool) : Prop :=
  (∃ j, j < n ∧ (∀ t, t < j → ws.getD t 0 = vs.getD t 0) ∧ ws.getD j 0 ≠ vs.getD j 0 ∧ r = 4 * j ∧ b = true) ∨ ((∀ t, t < n → ws.getD t 0 = vs.getD t 0) ∧ r = 0 ∧ b = false)

def DifferPost (n : Nat) (ws vs : List Int) (w : World) (e : Ending) (w' : World) : Prop := ∃ r b, e = .returned (.tuple #[.int .u32 r, .bool b]) ∧ DiffersAt n ws vs r b ∧ Below w.heap.size w w'

set_option maxHeartbeats 8000000 in
set_option maxRecDepth 100000 in
theorem differ_any (p h q h2 n : Nat) (e0 e1 e2 e3 e4 : Int) (ws vs : List Int) (w : World) (hm : Whole w p 93 (memCells e0 e1 e2 e3 e4 h n)) (hq : Whole w q 93 (memCells e0 e1 e2 e3 e4 h2 n)) (hw : Whole w h 22 (words ws)) (hv : Whole w h2 22 (words vs)) (hn : ws.length = n) (hn' : vs.length = n) (hn2 : n ≤ 1000000) (hws : ∀ z ∈ ws, U32 z) (hvs : ∀ z ∈ vs, U32 z) :
    Calls Tryd.prog 21 #[.pointer (some ⟨p, 0, none⟩), .pointer (some ⟨q, 0, none⟩)] w (DifferPost n ws vs w) := by
  have EQ5 : ∀ w, (Op.equalIn 10000 91 (.agg #[.int .u32 e0, .int .u32 e1, .int .u32 e2, .int .u32 e3, .int .u32 e4]) (.agg #[.int .u32 e0, .int .u32 e1, .int .u32 e2, .int .u32 e3, .int .u32 e4])).run Tryd.prog w = .ok true w := fun w => run_equalIn_arr5 (d := 9998) Tryd.underlying91 Tryd.underlying22 (by kernel_rfl) e0 e1 e2 e3 e4 w
  have a0 : w.cell? ⟨p, 0, none⟩ = some (.int .u32 e0) := hm.cell 0
  have b0 : w.cell? ⟨q, 0, none⟩ = some (.int .u32 e0) := hq.cell 0
  have a1 : w.cell? ⟨p, 1, none⟩ = some (.int .u32 e1) := hm.cell 1
  have b1 : w.cell? ⟨q, 1, none⟩ = some (.int .u32 e1) := hq.cell 1
  have a2 : w.cell? ⟨p, 2, none⟩ = some (.int .u32 e2) := hm.cell 2
  have b2 : w.cell? ⟨q, 2, none⟩ = some (.int .u32 e2) := hq.cell 2
  have a3 : w.cell? ⟨p, 3, none⟩ = some (.int .u32 e3) := hm.cell 3
  have b3 : w.cell? ⟨q, 3, none⟩ = some (.int .u32 e3) := hq.cell 3
  have a4 : w.cell? ⟨p, 4, none⟩ = some (.int .u32 e4) := hm.cell 4
  have b4 : w.cell? ⟨q, 4, none⟩ = some (.int .u32 e4) := hq.cell 4
  have M := Lib.hid hm
  have Q := Lib.hid hq
  have HW := Lib.hid hw
  have HV := Lib.hid hv
  have UW := Lib.hid hws
  have UV := Lib.hid hvs
  clear hm hq hw hv hws hvs
  go_enter Tryd.func21, Tryd.ntmps21
  go_wp2_with fail
  go_quiet (fail)
  have M1 := Lib.hid (M.out.drawn nq)
  have Q1 := Lib.hid (Q.out.drawn nq)
  have W1 := Lib.hid (HW.out.drawn nq)
  have V1 := Lib.hid (HV.out.drawn nq)
  have B1 := Lib.hid (below_drawn (Below.refl w.heap.size w) nq)
  clear a0 a1 a2 a3 a4 b0 b1 b2 b3 b4 M Q HW HV
  generalize w.drewN nq = w1 at *
  have a5 : w1.cell? ⟨p, 5, none⟩ = some (.slice (some ⟨h, 0, none⟩) n n) := M1.out.cell 5
  have b5 : w1.cell? ⟨q, 5, none⟩ = some (.slice (some ⟨h2, 0, none⟩) n n) := Q1.out.cell 5
  go_wp2_with fail
  go_loop [22] (fun i => ∃ j : Nat, j ≤ n ∧ i = .int .i64 j ∧ Hid (∀ t, t < j → ws.getD t 0 = vs.getD t 0)) (fun i => n - (intOf i).toNat)
  case atStart => exact ⟨0, Nat.zero_le _, rfl, fun t ht => absurd ht (Nat.not_lt_zero _)⟩
  case round =>
    obtain ⟨j, hj, rfl, HJ⟩ := hrel
    by_cases hlt : j < n
    · have c0 := W1.out.word (k := j) (by omega)
      have d0 := V1.out.word (k := j) (by omega)
      obtain ⟨x0, x1⟩ := wordOfs UW.out j
      obtain ⟨y0, y1⟩ := wordOfs UV.out j
      by_cases he : ws.getD j 0 = vs.getD j 0
      · have HJ2 : Hid (∀ t, t < j + 1 → ws.getD t 0 = vs.getD t 0) := fun t ht => by
          rcases Nat.lt_or_ge t j with h | h
          · exact HJ.out t h
          · obtain rfl : t = j := by omega
            exact he
        rw [← he] at d0 y0 y1
        clear he HJ
        generalize ws.getD j 0 = x at *
        go_wp2_with fail
        go_round
        case rel => exact ⟨j + 1, by omega, by go_num, HJ2⟩
        case measure => simp [intOf]; omega
      · have hne : (ws.getD j 0 != vs.getD j 0) = true := by simpa using he
        have HE := Lib.hid (show DiffersAt n ws vs (4 * j) true from .inl ⟨j, hlt, HJ.out, he, rfl, rfl⟩)
        clear he HJ
        generalize ws.getD j 0 = x at *
        generalize vs.getD j 0 = y at *
        go_wp2_with fail
        go_ret2
        exact ⟨4 * j, true, by simp; try omega, HE.out, B1.out⟩
    · obtain rfl : j = n := by omega
      go_wp2_with fail
      go_ret2
      exact ⟨0, false, rfl, .inr ⟨HJ.out, rfl, rfl⟩, B1.out⟩
end Go.Proofs.YtlmokkopaididaaDoor
