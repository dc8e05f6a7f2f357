/- Types: the answers' Get, Whole, Simple, Ordered, Takes, Equals. -/
import Derived.Test.YtabkldahgjicbaaTypC
namespace Go.Proofs.Ytabkldahgjicbaa
open Go.ChangeShapes Go.WideShapes Go.ChangeAt Go.RowKit
set_option linter.unusedVariables false
set_option linter.unusedSimpArgs false

set_option maxHeartbeats 4000000 in
set_option maxRecDepth 100000 in
theorem refget_any (B : Nat) (v : Value) (L : List Tx) (id : Int) (w : World) (h : RowsX rT rF w B v L) (hn : L.length ≤ 4096) (x : Tx) (hx : x = getX L id) :
    Calls Try.prog 12 #[v, .int .i64 id] w fun e w' => e = .returned (.agg #[.int .i64 x.1.kind, .int .i64 x.1.len, .int .i64 x.1.base, .int .i64 x.1.size, .bool x.1.opn, x.2]) ∧ Below w.heap.size w w' := by
  obtain ⟨A, c, rfl⟩ := row_form h.rows
  have hb0 := (Below.refl w.heap.size w).alloc (Nat.le_refl _) (.cells #[.int .i64 0, .int .i64 0, .int .i64 0, .int .i64 0, .bool false, .slice none 0 0] rT)
  have BA := Lib.hid hb0
  by_cases hin : 0 ≤ id ∧ id < L.length
  case neg =>
    have e : x = zX := hx.trans (getX_out hin)
    subst e
    have Q := Whole.made w rT #[.int .i64 0, .int .i64 0, .int .i64 0, .int .i64 0, .bool false, .slice none 0 0] _ rfl
    have q0 := Q.cell 0
    have q1 := Q.cell 1
    have q2 := Q.cell 2
    have q3 := Q.cell 3
    have q4 := Q.cell 4
    have q5 := Q.cell 5
    have Z0 := Lib.hid (And.intro q0 (And.intro q1 (And.intro q2 (And.intro q3 (And.intro q4 q5)))))
    clear hx h hb0 Q q0 q1 q2 q3 q4 q5
    by_cases h0 : id < 0
    · have d0 : decide (id < 0) = true := decide_eq_true h0
      clear hin
      go_enter Try.func12, Try.ntmps12
      go_wp2_with fail
      obtain ⟨q0, q1, q2, q3, q4, q5⟩ := Z0.out
      refine bodyPost_ret (v := .agg #[.int .i64 0, .int .i64 0, .int .i64 0, .int .i64 0, .bool false, .slice none 0 0]) ?_ rfl ⟨rfl, BA.out⟩
      simp [results, Try.results12, go_sem, q0, q1, q2, q3, q4, q5]
    · have d0 : decide (id < 0) = false := decide_eq_false h0
      have d1 : decide ((L.length : Int) ≤ id) = true := decide_eq_true (by omega)
      clear hin
      go_enter Try.func12, Try.ntmps12
      go_wp2_with fail
      obtain ⟨q0, q1, q2, q3, q4, q5⟩ := Z0.out
      refine bodyPost_ret (v := .agg #[.int .i64 0, .int .i64 0, .int .i64 0, .int .i64 0, .bool false, .slice none 0 0]) ?_ rfl ⟨rfl, BA.out⟩
      simp [results, Try.results12, go_sem, q0, q1, q2, q3, q4, q5]
  case pos =>
    obtain ⟨t, rfl⟩ : ∃ t : Nat, id = t := ⟨id.toNat, by omega⟩
    have ht : t < L.length := by omega
    have htI : (t : Int) < L.length := by omega
    rw [getX_in ht] at hx
    obtain ⟨hc, g, rfl, _, hgl, hg⟩ := row_cell (f := txCells) (fun _ => rfl) zX h.rows rfl ht
    rw [← hx] at hg
    have d0 : decide ((t : Int) < 0) = false := decide_eq_false (by omega)
    have d1 : decide ((L.length : Int) ≤ t) = false := decide_eq_false (by omega)
    obtain ⟨⟨k, ln, bs, sz, op, fds⟩, fv⟩ := x
    have hcell : ∀ j, j < 6 → (w.alloc (.cells #[.int .i64 0, .int .i64 0, .int .i64 0, .int .i64 0, .bool false, .slice none 0 0] rT)).cell? ⟨g, t * 6 + j, none⟩ = (txCells (⟨k, ln, bs, sz, op, fds⟩, fv))[j]? := fun j hj => (hb0.cell (p := ⟨g, t * 6 + j, none⟩) hgl).trans (hg j hj).1
    have x0 : (w.alloc (.cells #[.int .i64 0, .int .i64 0, .int .i64 0, .int .i64 0, .bool false, .slice none 0 0] rT)).cell? ⟨g, t * 6, none⟩ = some (.int .i64 k) := hcell 0 (by decide)
    have x1 : (w.alloc (.cells #[.int .i64 0, .int .i64 0, .int .i64 0, .int .i64 0, .bool false, .slice none 0 0] rT)).cell? ⟨g, t * 6 + 1, none⟩ = some (.int .i64 ln) := hcell 1 (by decide)
    have x2 : (w.alloc (.cells #[.int .i64 0, .int .i64 0, .int .i64 0, .int .i64 0, .bool false, .slice none 0 0] rT)).cell? ⟨g, t * 6 + 2, none⟩ = some (.int .i64 bs) := hcell 2 (by decide)
    have x3 : (w.alloc (.cells #[.int .i64 0, .int .i64 0, .int .i64 0, .int .i64 0, .bool false, .slice none 0 0] rT)).cell? ⟨g, t * 6 + 3, none⟩ = some (.int .i64 sz) := hcell 3 (by decide)
    have x4 : (w.alloc (.cells #[.int .i64 0, .int .i64 0, .int .i64 0, .int .i64 0, .bool false, .slice none 0 0] rT)).cell? ⟨g, t * 6 + 4, none⟩ = some (.bool op) := hcell 4 (by decide)
    have x5 : (w.alloc (.cells #[.int .i64 0, .int .i64 0, .int .i64 0, .int .i64 0, .bool false, .slice none 0 0] rT)).cell? ⟨g, t * 6 + 5, none⟩ = some fv := hcell 5 (by decide)
    obtain ⟨Af, cf, hfv⟩ := row_form (h.get t)
    rw [getX_in ht, ← hx] at hfv
    have hfv : fv = .slice Af fds.length cf := hfv
    subst hfv
    have BA2 := Lib.hid ((Below.refl w.heap.size w).alloc (Nat.le_refl _) (.cells #[.int .i64 k, .int .i64 ln, .int .i64 bs, .int .i64 sz, .bool op, .slice Af fds.length cf] rT))
    have Q := Whole.made w rT #[.int .i64 k, .int .i64 ln, .int .i64 bs, .int .i64 sz, .bool op, .slice Af fds.length cf] _ rfl
    have q0 := Q.cell 0
    have q1 := Q.cell 1
    have q2 := Q.cell 2
    have q3 := Q.cell 3
    have q4 := Q.cell 4
    have q5 := Q.cell 5
    have Z0 := Lib.hid (And.intro q0 (And.intro q1 (And.intro q2 (And.intro q3 (And.intro q4 q5)))))
    clear hcell hg h hb0 hx Q q0 q1 q2 q3 q4 q5 hin
    go_enter Try.func12, Try.ntmps12
    go_wp2_with fail
    obtain ⟨q0, q1, q2, q3, q4, q5⟩ := Z0.out
    refine bodyPost_ret (v := .agg #[.int .i64 k, .int .i64 ln, .int .i64 bs, .int .i64 sz, .bool op, .slice Af fds.length cf]) ?_ rfl ⟨rfl, BA2.out⟩
    simp [results, Try.results12, go_sem, q0, q1, q2, q3, q4, q5]

set_option maxHeartbeats 4000000 in
set_option maxRecDepth 100000 in
theorem refwhole_any (B : Nat) (v : Value) (L : List Tx) (id : Int) (w : World) (h : RowsX rT rF w B v L) (hn : L.length ≤ 4096) (x : Tx) (hx : x = getX L id) :
    Calls Try.prog 44 #[v, .int .i64 id] w fun e w' => e = .returned (.bool (wholeB x.1)) ∧ Below w.heap.size w w' := by
  have AT := Lib.hid (refget_any B v L id w h hn x hx)
  obtain ⟨k, ln, bs, sz, op, fds, Af, cf, hX⟩ := h.parts id
  obtain rfl := hx.trans hX
  clear hX
  clear h hx
  have WB := Lib.hid (show wholeB ⟨k, ln, bs, sz, op, fds⟩ = (k != 0 && k != 4 && !op) from rfl)
  show Calls Try.prog 44 _ w fun e w' => e = .returned (.bool (wholeB ⟨k, ln, bs, sz, op, fds⟩)) ∧ _
  generalize wholeB ⟨k, ln, bs, sz, op, fds⟩ = r at *
  go_enter Try.func44, Try.ntmps44
  go_wp2_with fail
  refine AT.out.mono ?_
  rintro e w1 ⟨rfl, hb1⟩
  have B1 := Lib.hid (hb1.alloc hb1.size (.cells #[.int .i64 k, .int .i64 ln, .int .i64 bs, .int .i64 sz, .bool op, .slice Af fds.length cf] rT))
  have Q := Lib.hid (Whole.made w1 rT #[.int .i64 k, .int .i64 ln, .int .i64 bs, .int .i64 sz, .bool op, .slice Af fds.length cf] _ rfl)
  have q0 : (w1.alloc (.cells #[.int .i64 k, .int .i64 ln, .int .i64 bs, .int .i64 sz, .bool op, .slice Af fds.length cf] rT)).cell? ⟨w1.heap.size, 0, none⟩ = some (.int .i64 k) := Q.out.cell 0
  have q4 : (w1.alloc (.cells #[.int .i64 k, .int .i64 ln, .int .i64 bs, .int .i64 sz, .bool op, .slice Af fds.length cf] rT)).cell? ⟨w1.heap.size, 4, none⟩ = some (.bool op) := Q.out.cell 4
  clear hb1 AT Q
  cases h0 : (k != 0) with
  | false =>
    have HR := Lib.hid (show r = false by rw [WB.out, h0]; rfl)
    clear WB
    go_wp2_with fail
    go_ret
    exact ⟨by rw [HR.out]; rfl, B1.out⟩
  | true =>
    cases h4 : (k != 4) with
    | false =>
      have HR := Lib.hid (show r = false by rw [WB.out, h0, h4]; rfl)
      clear WB
      go_wp2_with fail
      go_ret
      exact ⟨by rw [HR.out]; rfl, B1.out⟩
    | true =>
      have HR := Lib.hid (show r = !op by rw [WB.out, h0, h4]; rfl)
      clear WB
      go_wp2_with fail
      go_ret
      exact ⟨by rw [HR.out]; rfl, B1.out⟩

set_option maxHeartbeats 4000000 in
set_option maxRecDepth 100000 in
theorem reford_any (B : Nat) (v : Value) (L : List Tx) (id : Int) (w : World) (h : RowsX rT rF w B v L) (hn : L.length ≤ 4096) (x : Tx) (hx : x = getX L id) :
    Calls Try.prog 20 #[v, .int .i64 id] w fun e w' => e = .returned (.bool (orderedB x.1)) ∧ Below w.heap.size w w' := by
  have AT := Lib.hid (refget_any B v L id w h hn x hx)
  obtain ⟨k, ln, bs, sz, op, fds, Af, cf, hX⟩ := h.parts id
  obtain rfl := hx.trans hX
  clear hX
  obtain ⟨fv, hfv⟩ : ∃ fv, fv = Value.slice Af fds.length cf := ⟨_, rfl⟩
  rw [← hfv] at AT
  clear hfv
  have f0 := field_r0 k ln bs sz op fv
  have f4 := field_r4 k ln bs sz op fv
  clear h hx
  have WB := Lib.hid (show orderedB ⟨k, ln, bs, sz, op, fds⟩ = (k == 1 || k == 3) from rfl)
  show Calls Try.prog 20 _ w fun e w' => e = .returned (.bool (orderedB ⟨k, ln, bs, sz, op, fds⟩)) ∧ _
  generalize orderedB ⟨k, ln, bs, sz, op, fds⟩ = r at *
  go_enter Try.func20, Try.ntmps20
  go_wp2_with fail
  refine AT.out.mono ?_
  rintro e w1 ⟨rfl, hb1⟩
  have B1 := Lib.hid hb1
  clear hb1 AT
  cases h1 : (k == 1) <;> cases h3 : (k == 3)
  all_goals
    have HR := Lib.hid WB.out
    rw [h1, h3] at HR
    clear WB
    go_wp2_with fail
    go_ret
    exact ⟨by rw [HR.out]; rfl, B1.out⟩


def simpleR (x : Ty) : Bool := (decide (1 ≤ x.kind) && decide (x.kind ≤ 4)) || x.kind == 7

theorem simple_same (x : Ty) : simpleR x = simpleB x := by
  unfold simpleR simpleB
  rw [Bool.eq_iff_iff]
  simp only [Bool.or_eq_true, Bool.and_eq_true, decide_eq_true_eq, beq_iff_eq]
  omega

set_option maxHeartbeats 4000000 in
set_option maxRecDepth 100000 in
theorem refsimple_any (B : Nat) (v : Value) (L : List Tx) (id : Int) (w : World) (h : RowsX rT rF w B v L) (hn : L.length ≤ 4096) (x : Tx) (hx : x = getX L id) :
    Calls Try.prog 14 #[v, .int .i64 id] w fun e w' => e = .returned (.bool (simpleR x.1)) ∧ Below w.heap.size w w' := by
  have AT := Lib.hid (refget_any B v L id w h hn x hx)
  obtain ⟨k, ln, bs, sz, op, fds, Af, cf, hX⟩ := h.parts id
  obtain rfl := hx.trans hX
  clear hX
  obtain ⟨fv, hfv⟩ : ∃ fv, fv = Value.slice Af fds.length cf := ⟨_, rfl⟩
  rw [← hfv] at AT
  clear hfv
  have f0 := field_r0 k ln bs sz op fv
  clear h hx
  have WB := Lib.hid (show simpleR ⟨k, ln, bs, sz, op, fds⟩ = ((decide (1 ≤ k) && decide (k ≤ 4)) || k == 7) from rfl)
  show Calls Try.prog 14 _ w fun e w' => e = .returned (.bool (simpleR ⟨k, ln, bs, sz, op, fds⟩)) ∧ _
  generalize simpleR ⟨k, ln, bs, sz, op, fds⟩ = r at *
  go_enter Try.func14, Try.ntmps14
  go_wp2_with fail
  refine AT.out.mono ?_
  rintro e w1 ⟨rfl, hb1⟩
  have B1 := Lib.hid hb1
  clear hb1 AT
  cases h1 : decide (1 ≤ k) <;> cases h4 : decide (k ≤ 4) <;> cases h7 : (k == 7)
  all_goals
    have HR := Lib.hid WB.out
    rw [h1, h4, h7] at HR
    clear WB
    go_wp2_with fail
    go_ret
    exact ⟨by rw [HR.out]; rfl, B1.out⟩

def takesR (L : List Ty) (a b : Int) : Bool := if a = b then (simpleR (getT L a) && a != 4) else ((getT L a).kind == 7 && b == 4)

def equalsR (L : List Ty) (a b : Int) : Bool := takesR L a b || takesR L b a || (a == 4 && b == 4)

set_option maxHeartbeats 4000000 in
set_option maxRecDepth 100000 in
theorem reftakes_any (B : Nat) (v : Value) (L : List Tx) (a b : Int) (w : World) (h : RowsX rT rF w B v L) (hn : L.length ≤ 4096) :
    Calls Try.prog 16 #[v, .int .i64 a, .int .i64 b] w fun e w' => e = .returned (.bool (takesR (L.map (·.1)) a b)) ∧ Below w.heap.size w w' := by
  have AT := Lib.hid (refget_any B v L a w h hn _ rfl)
  have SM := Lib.hid (refsimple_any B v L a w h hn _ rfl)
  have TB := Lib.hid (show takesR (L.map (·.1)) a b = if a = b then (simpleR (getT (L.map (·.1)) a) && a != 4) else ((getT (L.map (·.1)) a).kind == 7 && b == 4) from rfl)
  rw [← getX_fst] at TB
  generalize getX L a = x at *
  generalize takesR (L.map (·.1)) a b = r at *
  obtain ⟨⟨k, ln, bs, sz, op, fds⟩, fv⟩ := x
  have f0 := field_r0 k ln bs sz op fv
  clear h
  show Calls Try.prog 16 _ w fun e w' => e = .returned (.bool r) ∧ _
  by_cases hab : a = b
  · have HR := Lib.hid (TB.out.trans (if_pos hab))
    have d4 : (a == b) = true := beq_iff_eq.2 hab
    clear TB AT hab
    generalize simpleR ⟨k, ln, bs, sz, op, fds⟩ = sm at *
    cases sm <;> cases h4 : (a != 4)
    all_goals
      rw [h4] at HR
      go_enter Try.func16, Try.ntmps16
      go_wp2_with fail
      refine SM.out.mono ?_
      rintro e w1 ⟨rfl, hb1⟩
      have B1 := Lib.hid hb1
      clear hb1 SM
      go_wp2_with fail
      go_ret
      exact ⟨by rw [HR.out]; rfl, B1.out⟩
  · have HR := Lib.hid (TB.out.trans (if_neg hab))
    have d4 : (a == b) = false := beq_eq_false_iff_ne.2 hab
    clear TB SM hab
    cases h7 : (k == 7) <;> cases h4 : (b == 4)
    all_goals
      have HR2 := Lib.hid (show r = ((k == 7) && (b == 4)) from HR.out)
      rw [h7, h4] at HR2
      clear HR
      go_enter Try.func16, Try.ntmps16
      go_wp2_with fail
      refine AT.out.mono ?_
      rintro e w1 ⟨rfl, hb1⟩
      have B1 := Lib.hid hb1
      clear hb1 AT
      go_wp2_with fail
      go_ret
      exact ⟨by rw [HR2.out]; rfl, B1.out⟩

set_option maxHeartbeats 4000000 in
set_option maxRecDepth 100000 in
theorem refequals_any (B : Nat) (v : Value) (L : List Tx) (a b : Int) (w : World) (h : RowsX rT rF w B v L) (hn : L.length ≤ 4096) :
    Calls Try.prog 18 #[v, .int .i64 a, .int .i64 b] w fun e w' => e = .returned (.bool (equalsR (L.map (·.1)) a b)) ∧ Below w.heap.size w w' := by
  have T1 := Lib.hid (reftakes_any B v L a b w h hn)
  have T2 := Lib.hid (fun w' (hb : Below w.heap.size w w') => reftakes_any B v L b a w' (h.below hb) hn)
  have EB := Lib.hid (show equalsR (L.map (·.1)) a b = (takesR (L.map (·.1)) a b || takesR (L.map (·.1)) b a || (a == 4 && b == 4)) from rfl)
  generalize takesR (L.map (·.1)) a b = r1 at *
  generalize takesR (L.map (·.1)) b a = r2 at *
  generalize equalsR (L.map (·.1)) a b = r at *
  clear h
  cases r1 with
  | true =>
    clear T2
    go_enter Try.func18, Try.ntmps18
    go_wp2_with fail
    refine T1.out.mono ?_
    rintro e w1 ⟨rfl, hb1⟩
    have B1 := Lib.hid hb1
    clear hb1 T1
    go_wp2_with fail
    go_ret
    exact ⟨by rw [EB.out]; rfl, B1.out⟩
  | false =>
    cases r2 with
    | true =>
      go_enter Try.func18, Try.ntmps18
      go_wp2_with fail
      refine T1.out.mono ?_
      rintro e w1 ⟨rfl, hb1⟩
      have B1 := Lib.hid hb1
      clear hb1 T1
      go_wp2_with fail
      refine (T2.out w1 B1.out).mono ?_
      rintro e w2 ⟨rfl, hb2⟩
      have B2 := Lib.hid (B1.out.trans (hb2.mono B1.out.size))
      clear hb2 T2
      go_wp2_with fail
      go_ret
      exact ⟨by rw [EB.out]; rfl, B2.out⟩
    | false =>
      cases ha : (a == 4) <;> cases hbb : (b == 4)
      all_goals
        rw [ha, hbb] at EB
        go_enter Try.func18, Try.ntmps18
        go_wp2_with fail
        refine T1.out.mono ?_
        rintro e w1 ⟨rfl, hb1⟩
        have B1 := Lib.hid hb1
        clear hb1 T1
        go_wp2_with fail
        refine (T2.out w1 B1.out).mono ?_
        rintro e w2 ⟨rfl, hb2⟩
        have B2 := Lib.hid (B1.out.trans (hb2.mono B1.out.size))
        clear hb2 T2
        go_wp2_with fail
        go_ret
        exact ⟨by rw [EB.out]; rfl, B2.out⟩
end Go.Proofs.Ytabkldahgjicbaa
