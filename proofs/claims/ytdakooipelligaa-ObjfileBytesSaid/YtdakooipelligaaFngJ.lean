/- Finger: the answers' TakeCount. -/
import Derived.Test.YtdakooipelligaaFngI
import Derived.Test.YtdakooipelligaaCdcH
import Derived.Test.YtdakooipelligaaRowSet
import Derived.Deep.RegionHeld3
import Derived.BigRegion
import Derived.Lib.MinMax
namespace Go.Proofs.Ytdakooipelligaa
open Go.ChangeShapes Go.WideShapes Go.ChangeAt Go.RowKit
set_option linter.unusedVariables false
set_option linter.unusedSimpArgs false

/-- What a reader of the answers' leaves: a number, what is left, the error. -/
def RcPost (V w : World) (x : Value) (zs : List Int) (err : Int) (e : Ending) (w' : World) : Prop :=
  ∃ A n c, e = .returned (.tuple #[.agg #[.slice A n c, .int .i64 err], x]) ∧ RfV V A n c zs err ∧ n ≤ 1000000 ∧ Below w.heap.size w w'

theorem RfV.none {w : World} {A : Option Addr} {n c : Nat} {err : Int} (h : err ≠ 0) : RfV w A n c [] err := ⟨fun e => absurd e h, fun _ => rfl⟩

/-- A reader stored behind a call, with a box of its own beside. -/
theorem rc_step {w wr w1 : World} {p B : Nat} {o0 o1 r0 r1 : Value} (hM : Whole wr p rfT #[o0, o1]) (hR : Whole wr (p + 1) rfT #[r0, r1]) (hB : Below B w wr) (hb : Below wr.heap.size wr w1) (hp : B ≤ p) (hz : B ≤ wr.heap.size) (D e1 : Value) :
    (Whole (w1.alloc (.cells #[D, e1] rfT)) p rfT #[o0, o1] ∧ Whole (w1.alloc (.cells #[D, e1] rfT)) w1.heap.size rfT #[D, e1]) ∧
    (Whole (((w1.alloc (.cells #[D, e1] rfT)).setCell ⟨p, 0, none⟩ D).setCell ⟨p, 1, none⟩ e1) p rfT #[D, e1] ∧ Whole (((w1.alloc (.cells #[D, e1] rfT)).setCell ⟨p, 0, none⟩ D).setCell ⟨p, 1, none⟩ e1) (p + 1) rfT #[r0, r1] ∧ Below B w (((w1.alloc (.cells #[D, e1] rfT)).setCell ⟨p, 0, none⟩ D).setCell ⟨p, 1, none⟩ e1)) ∧
    ∀ b, b < w1.heap.size → b ≠ p → (((w1.alloc (.cells #[D, e1] rfT)).setCell ⟨p, 0, none⟩ D).setCell ⟨p, 1, none⟩ e1).heap[b]? = w1.heap[b]? := by
  have m1 := (hM.below hb hM.lt).alloc (.cells #[D, e1] rfT)
  have r1 := (hR.below hb hR.lt).alloc (.cells #[D, e1] rfT)
  have s := set_two m1 D e1
  have q := (Below.refl w1.heap.size w1).alloc (Nat.le_refl _) (.cells #[D, e1] rfT)
  have q1 : Below B w (w1.alloc (.cells #[D, e1] rfT)) := (hB.trans (hb.mono hz)).trans (q.mono (Nat.le_trans hz hb.size))
  refine ⟨⟨m1, Whole.made w1 rfT #[D, e1] _ rfl⟩, ⟨s.1, (s.2.block (p + 1) r1.lt (by intro e; injection e with e; omega)).trans r1, q1.grown s.2 (Nat.le_trans (Nat.le_trans hz hb.size) q.size) (fun b hb => by injection hb with hb; omega)⟩, fun b hb hne => ?_⟩
  rw [s.2.block b (Nat.lt_of_lt_of_le hb q.size) (by intro e; injection e with e; omega), q.block b hb]

/-- A reader stored as the result. -/
theorem rc_ret {w w1 : World} {p B : Nat} {r0 r1 : Value} (hR : Whole w1 p rfT #[r0, r1]) (hB : Below B w w1) (hp : B ≤ p) (hz : B ≤ w1.heap.size) (D e1 : Value) :
    Whole ((w1.setCell ⟨p, 0, none⟩ D).setCell ⟨p, 1, none⟩ e1) p rfT #[D, e1] ∧ Below B w ((w1.setCell ⟨p, 0, none⟩ D).setCell ⟨p, 1, none⟩ e1) ∧ w1.grownBy ((w1.setCell ⟨p, 0, none⟩ D).setCell ⟨p, 1, none⟩ e1) (some p) := by
  have s := set_two hR D e1
  exact ⟨s.1, hB.grown s.2 hz (fun b hb => by injection hb with hb; omega), s.2⟩

theorem mul7 (x : Int) (k : Nat) (h0 : 0 ≤ x) (h1 : x ≤ 127) (hk : k ≤ 8) : wrap64 (x * (128 : Int) ^ k) = ((x.toNat * 128 ^ k : Nat) : Int) := by
  obtain ⟨n, rfl⟩ := Int.eq_ofNat_of_zero_le h0
  have hle : (128 : Nat) ^ k ≤ 128 ^ 8 := Nat.pow_le_pow_right (by decide) hk
  have h2 : n * 128 ^ k ≤ 127 * 128 ^ 8 := Nat.mul_le_mul (by omega) hle
  have e : ((n : Int) * (128 : Int) ^ k) = ((n * 128 ^ k : Nat) : Int) := by simp
  rw [Int.toNat_natCast, e]
  exact IntWalk.wrap64_in _ (by omega)

theorem by7 (k : Nat) (hk : k + 1 ≤ 8) : wrap64 ((128 : Int) ^ k * 128) = (128 : Int) ^ (k + 1) := by
  have hle : (128 : Nat) ^ (k + 1) ≤ 128 ^ 8 := Nat.pow_le_pow_right (by decide) hk
  have e : ((128 : Int) ^ k * 128) = ((128 ^ (k + 1) : Nat) : Int) := by rw [Nat.pow_succ]; simp
  have e2 : ((128 : Int) ^ (k + 1)) = ((128 ^ (k + 1) : Nat) : Int) := by simp
  rw [e, e2]
  generalize (128 : Nat) ^ (k + 1) = z at *
  exact IntWalk.wrap64_in _ (by omega)

end Go.Proofs.Ytdakooipelligaa