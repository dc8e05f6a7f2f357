/- Types: the program's at. -/
import Derived.Test.YtabkldahgjicbaaTypA
namespace Go.Proofs.Ytabkldahgjicbaa
open Go.ChangeShapes Go.WideShapes Go.ChangeAt Go.RowKit
set_option linter.unusedVariables false
set_option linter.unusedSimpArgs false

theorem getX_in {L : List Tx} {t : Nat} (ht : t < L.length) : getX L t = L.getD t zX := if_pos ⟨by omega, by omega⟩

theorem getX_out {L : List Tx} {id : Int} (h : ¬ (0 ≤ id ∧ id < L.length)) : getX L id = zX := if_neg h

set_option maxHeartbeats 4000000 in
set_option maxRecDepth 100000 in
theorem at_any (p B : Nat) (v : Value) (L : List Tx) (id : Int) (w : World) (h : TabAt w B p v L) (hn : L.length ≤ 4096) (x : Tx) (hx : x = getX L id) :
    Calls Try.prog 26 #[.pointer (some ⟨p, 0, none⟩), .int .i64 id] w fun e w' => e = .returned (.agg #[.int .i64 x.1.kind, .int .i64 x.1.len, .int .i64 x.1.base, .int .i64 x.1.size, .bool x.1.opn, x.2]) ∧ Below w.heap.size w w' := by
  obtain ⟨A, c, rfl⟩ := row_form h.rows.rows
  have hb0 := (Below.refl w.heap.size w).alloc (Nat.le_refl _) (.cells #[.int .i64 0, .int .i64 0, .int .i64 0, .int .i64 0, .bool false, .slice none 0 0] pT)
  have BA := Lib.hid hb0
  have u0 : (w.alloc (.cells #[.int .i64 0, .int .i64 0, .int .i64 0, .int .i64 0, .bool false, .slice none 0 0] pT)).cell? ⟨p, 0, none⟩ = some (.slice A L.length c) := (h.below hb0).blk.cell 0
  by_cases hin : 0 ≤ id ∧ id < L.length
  case neg =>
    have e : x = zX := hx.trans (getX_out hin)
    subst e
    have Q := Whole.made w pT #[.int .i64 0, .int .i64 0, .int .i64 0, .int .i64 0, .bool false, .slice none 0 0] _ rfl
    have q0 := Q.cell 0
    have q1 := Q.cell 1
    have q2 := Q.cell 2
    have q3 := Q.cell 3
    have q4 := Q.cell 4
    have q5 := Q.cell 5
    have Z0 := Lib.hid (And.intro q0 (And.intro q1 (And.intro q2 (And.intro q3 (And.intro q4 q5)))))
    clear hx h hb0 Q q0 q1 q2 q3 q4 q5
    by_cases h0 : id < 0
    · have d0 : decide (id < 0) = true := decide_eq_true h0
      clear hin
      go_enter Try.func26, Try.ntmps26
      go_wp2_with fail
      obtain ⟨q0, q1, q2, q3, q4, q5⟩ := Z0.out
      refine bodyPost_ret (v := .agg #[.int .i64 0, .int .i64 0, .int .i64 0, .int .i64 0, .bool false, .slice none 0 0]) ?_ rfl ⟨rfl, BA.out⟩
      simp [results, Try.results26, go_sem, q0, q1, q2, q3, q4, q5]
    · have d0 : decide (id < 0) = false := decide_eq_false h0
      have d1 : decide ((L.length : Int) ≤ id) = true := decide_eq_true (by omega)
      clear hin
      go_enter Try.func26, Try.ntmps26
      go_wp2_with fail
      obtain ⟨q0, q1, q2, q3, q4, q5⟩ := Z0.out
      refine bodyPost_ret (v := .agg #[.int .i64 0, .int .i64 0, .int .i64 0, .int .i64 0, .bool false, .slice none 0 0]) ?_ rfl ⟨rfl, BA.out⟩
      simp [results, Try.results26, go_sem, q0, q1, q2, q3, q4, q5]
  case pos =>
    obtain ⟨t, rfl⟩ : ∃ t : Nat, id = t := ⟨id.toNat, by omega⟩
    have ht : t < L.length := by omega
    have htI : (t : Int) < L.length := by omega
    rw [getX_in ht] at hx
    obtain ⟨hc, g, rfl, _, hgl, hg⟩ := row_cell (f := txCells) (fun _ => rfl) zX h.rows.rows rfl ht
    rw [← hx] at hg
    have d0 : decide ((t : Int) < 0) = false := decide_eq_false (by omega)
    have d1 : decide ((L.length : Int) ≤ t) = false := decide_eq_false (by omega)
    obtain ⟨⟨k, ln, bs, sz, op, fds⟩, fv⟩ := x
    have hcell : ∀ j, j < 6 → (w.alloc (.cells #[.int .i64 0, .int .i64 0, .int .i64 0, .int .i64 0, .bool false, .slice none 0 0] pT)).cell? ⟨g, t * 6 + j, none⟩ = (txCells (⟨k, ln, bs, sz, op, fds⟩, fv))[j]? := fun j hj => (hb0.cell (p := ⟨g, t * 6 + j, none⟩) hgl).trans (hg j hj).1
    have x0 : (w.alloc (.cells #[.int .i64 0, .int .i64 0, .int .i64 0, .int .i64 0, .bool false, .slice none 0 0] pT)).cell? ⟨g, t * 6, none⟩ = some (.int .i64 k) := hcell 0 (by decide)
    have x1 : (w.alloc (.cells #[.int .i64 0, .int .i64 0, .int .i64 0, .int .i64 0, .bool false, .slice none 0 0] pT)).cell? ⟨g, t * 6 + 1, none⟩ = some (.int .i64 ln) := hcell 1 (by decide)
    have x2 : (w.alloc (.cells #[.int .i64 0, .int .i64 0, .int .i64 0, .int .i64 0, .bool false, .slice none 0 0] pT)).cell? ⟨g, t * 6 + 2, none⟩ = some (.int .i64 bs) := hcell 2 (by decide)
    have x3 : (w.alloc (.cells #[.int .i64 0, .int .i64 0, .int .i64 0, .int .i64 0, .bool false, .slice none 0 0] pT)).cell? ⟨g, t * 6 + 3, none⟩ = some (.int .i64 sz) := hcell 3 (by decide)
    have x4 : (w.alloc (.cells #[.int .i64 0, .int .i64 0, .int .i64 0, .int .i64 0, .bool false, .slice none 0 0] pT)).cell? ⟨g, t * 6 + 4, none⟩ = some (.bool op) := hcell 4 (by decide)
    have x5 : (w.alloc (.cells #[.int .i64 0, .int .i64 0, .int .i64 0, .int .i64 0, .bool false, .slice none 0 0] pT)).cell? ⟨g, t * 6 + 5, none⟩ = some fv := hcell 5 (by decide)
    obtain ⟨Af, cf, hfv⟩ := row_form (h.rows.get t)
    rw [getX_in ht, ← hx] at hfv
    have hfv : fv = .slice Af fds.length cf := hfv
    subst hfv
    have BA2 := Lib.hid ((Below.refl w.heap.size w).alloc (Nat.le_refl _) (.cells #[.int .i64 k, .int .i64 ln, .int .i64 bs, .int .i64 sz, .bool op, .slice Af fds.length cf] pT))
    have Q := Whole.made w pT #[.int .i64 k, .int .i64 ln, .int .i64 bs, .int .i64 sz, .bool op, .slice Af fds.length cf] _ rfl
    have q0 := Q.cell 0
    have q1 := Q.cell 1
    have q2 := Q.cell 2
    have q3 := Q.cell 3
    have q4 := Q.cell 4
    have q5 := Q.cell 5
    have Z0 := Lib.hid (And.intro q0 (And.intro q1 (And.intro q2 (And.intro q3 (And.intro q4 q5)))))
    clear hcell hg h hb0 hx Q q0 q1 q2 q3 q4 q5 hin
    go_enter Try.func26, Try.ntmps26
    go_wp2_with fail
    obtain ⟨q0, q1, q2, q3, q4, q5⟩ := Z0.out
    refine bodyPost_ret (v := .agg #[.int .i64 k, .int .i64 ln, .int .i64 bs, .int .i64 sz, .bool op, .slice Af fds.length cf]) ?_ rfl ⟨rfl, BA2.out⟩
    simp [results, Try.results26, go_sem, q0, q1, q2, q3, q4, q5]
end Go.Proofs.Ytabkldahgjicbaa
