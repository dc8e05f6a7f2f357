/- Types: the program's complete, isOpen, Len, Simple, Takes, Equals, Ordered. -/
import Derived.Test.YtabkldahgjicbaaTypB
namespace Go.Proofs.Ytabkldahgjicbaa
open Go.ChangeShapes Go.WideShapes Go.ChangeAt Go.RowKit
set_option linter.unusedVariables false
set_option linter.unusedSimpArgs false

/-- Whether something may be of a type. -/
def wholeB (x : Ty) : Bool := x.kind != 0 && x.kind != 4 && !x.opn

def simpleB (x : Ty) : Bool := x.kind == 1 || x.kind == 2 || x.kind == 3 || x.kind == 4 || x.kind == 7

def orderedB (x : Ty) : Bool := x.kind == 1 || x.kind == 3

/-- As the program says it. -/
def takesB (L : List Ty) (a b : Int) : Bool := if b = 4 then (getT L a).kind == 7 else (a == b && simpleB (getT L a))

def equalsB (L : List Ty) (a b : Int) : Bool := takesB L a b || takesB L b a || (a == 4 && b == 4)

set_option maxHeartbeats 4000000 in
set_option maxRecDepth 100000 in
theorem len_any (p B : Nat) (v : Value) (L : List Tx) (w : World) (h : TabAt w B p v L) :
    Calls Try.prog 21 #[.pointer (some ⟨p, 0, none⟩)] w fun e w' => e = .returned (.int .i64 L.length) ∧ w = w' := by
  obtain ⟨A, c, rfl⟩ := row_form h.rows.rows
  have u0 : w.cell? ⟨p, 0, none⟩ = some (.slice A L.length c) := h.blk.cell 0
  clear h
  go_enter Try.func21, Try.ntmps21
  go_wp2_with fail
  go_ret
  exact ⟨rfl, rfl⟩

set_option maxHeartbeats 4000000 in
set_option maxRecDepth 100000 in
theorem isopen_any (p B : Nat) (v : Value) (L : List Tx) (id : Int) (w : World) (h : TabAt w B p v L) (hn : L.length ≤ 4096) (x : Tx) (hx : x = getX L id) :
    Calls Try.prog 46 #[.pointer (some ⟨p, 0, none⟩), .int .i64 id] w fun e w' => e = .returned (.bool x.1.opn) ∧ Below w.heap.size w w' := by
  have AT := Lib.hid (at_any p B v L id w h hn x hx)
  obtain ⟨k, ln, bs, sz, op, fds, Af, cf, hX⟩ := h.rows.parts id
  obtain rfl := hx.trans hX
  clear hX
  obtain ⟨fv, hfv⟩ : ∃ fv, fv = Value.slice Af fds.length cf := ⟨_, rfl⟩
  rw [← hfv] at AT
  clear hfv
  have f0 := field_p0 k ln bs sz op fv
  have f4 := field_p4 k ln bs sz op fv
  clear h hx
  go_enter Try.func46, Try.ntmps46
  go_wp2_with fail
  refine AT.out.mono ?_
  rintro e w1 ⟨rfl, hb1⟩
  have B1 := Lib.hid hb1
  clear hb1 AT
  go_wp2_with fail
  go_ret
  exact ⟨rfl, B1.out⟩

set_option maxHeartbeats 4000000 in
set_option maxRecDepth 100000 in
theorem complete_any (p B : Nat) (v : Value) (L : List Tx) (id : Int) (w : World) (h : TabAt w B p v L) (hn : L.length ≤ 4096) (x : Tx) (hx : x = getX L id) :
    Calls Try.prog 30 #[.pointer (some ⟨p, 0, none⟩), .int .i64 id] w fun e w' => e = .returned (.bool (wholeB x.1)) ∧ Below w.heap.size w w' := by
  have AT := Lib.hid (at_any p B v L id w h hn x hx)
  obtain ⟨k, ln, bs, sz, op, fds, Af, cf, hX⟩ := h.rows.parts id
  obtain rfl := hx.trans hX
  clear hX
  clear h hx
  have WB := Lib.hid (show wholeB ⟨k, ln, bs, sz, op, fds⟩ = (k != 0 && k != 4 && !op) from rfl)
  show Calls Try.prog 30 _ w fun e w' => e = .returned (.bool (wholeB ⟨k, ln, bs, sz, op, fds⟩)) ∧ _
  generalize wholeB ⟨k, ln, bs, sz, op, fds⟩ = r at *
  go_enter Try.func30, Try.ntmps30
  go_wp2_with fail
  refine AT.out.mono ?_
  rintro e w1 ⟨rfl, hb1⟩
  have B1 := Lib.hid (hb1.alloc hb1.size (.cells #[.int .i64 k, .int .i64 ln, .int .i64 bs, .int .i64 sz, .bool op, .slice Af fds.length cf] pT))
  have Q := Lib.hid (Whole.made w1 pT #[.int .i64 k, .int .i64 ln, .int .i64 bs, .int .i64 sz, .bool op, .slice Af fds.length cf] _ rfl)
  have q0 : (w1.alloc (.cells #[.int .i64 k, .int .i64 ln, .int .i64 bs, .int .i64 sz, .bool op, .slice Af fds.length cf] pT)).cell? ⟨w1.heap.size, 0, none⟩ = some (.int .i64 k) := Q.out.cell 0
  have q4 : (w1.alloc (.cells #[.int .i64 k, .int .i64 ln, .int .i64 bs, .int .i64 sz, .bool op, .slice Af fds.length cf] pT)).cell? ⟨w1.heap.size, 4, none⟩ = some (.bool op) := Q.out.cell 4
  clear hb1 AT Q
  cases h0 : (k != 0) with
  | false =>
    have HR := Lib.hid (show r = false by rw [WB.out, h0]; rfl)
    clear WB
    go_wp2_with fail
    go_ret
    exact ⟨by rw [HR.out]; rfl, B1.out⟩
  | true =>
    cases h4 : (k != 4) with
    | false =>
      have HR := Lib.hid (show r = false by rw [WB.out, h0, h4]; rfl)
      clear WB
      go_wp2_with fail
      go_ret
      exact ⟨by rw [HR.out]; rfl, B1.out⟩
    | true =>
      have HR := Lib.hid (show r = !op by rw [WB.out, h0, h4]; rfl)
      clear WB
      go_wp2_with fail
      go_ret
      exact ⟨by rw [HR.out]; rfl, B1.out⟩

set_option maxHeartbeats 4000000 in
set_option maxRecDepth 100000 in
theorem simple_any (p B : Nat) (v : Value) (L : List Tx) (id : Int) (w : World) (h : TabAt w B p v L) (hn : L.length ≤ 4096) (x : Tx) (hx : x = getX L id) :
    Calls Try.prog 13 #[.pointer (some ⟨p, 0, none⟩), .int .i64 id] w fun e w' => e = .returned (.bool (simpleB x.1)) ∧ Below w.heap.size w w' := by
  have AT := Lib.hid (at_any p B v L id w h hn x hx)
  obtain ⟨k, ln, bs, sz, op, fds, Af, cf, hX⟩ := h.rows.parts id
  obtain rfl := hx.trans hX
  clear hX
  obtain ⟨fv, hfv⟩ : ∃ fv, fv = Value.slice Af fds.length cf := ⟨_, rfl⟩
  rw [← hfv] at AT
  clear hfv
  have f0 := field_p0 k ln bs sz op fv
  have f4 := field_p4 k ln bs sz op fv
  clear h hx
  have WB := Lib.hid (show simpleB ⟨k, ln, bs, sz, op, fds⟩ = (k == 1 || k == 2 || k == 3 || k == 4 || k == 7) from rfl)
  show Calls Try.prog 13 _ w fun e w' => e = .returned (.bool (simpleB ⟨k, ln, bs, sz, op, fds⟩)) ∧ _
  generalize simpleB ⟨k, ln, bs, sz, op, fds⟩ = r at *
  go_enter Try.func13, Try.ntmps13
  go_wp2_with fail
  refine AT.out.mono ?_
  rintro e w1 ⟨rfl, hb1⟩
  have B1 := Lib.hid hb1
  clear hb1 AT
  cases h1 : (k == 1) <;> cases h2 : (k == 2) <;> cases h3 : (k == 3) <;> cases h4 : (k == 4) <;> cases h7 : (k == 7)
  all_goals
    have HR := Lib.hid WB.out
    rw [h1, h2, h3, h4, h7] at HR
    clear WB
    go_wp2_with fail
    go_ret
    exact ⟨by rw [HR.out]; rfl, B1.out⟩

set_option maxHeartbeats 4000000 in
set_option maxRecDepth 100000 in
theorem ordered_any (p B : Nat) (v : Value) (L : List Tx) (id : Int) (w : World) (h : TabAt w B p v L) (hn : L.length ≤ 4096) (x : Tx) (hx : x = getX L id) :
    Calls Try.prog 19 #[.pointer (some ⟨p, 0, none⟩), .int .i64 id] w fun e w' => e = .returned (.bool (orderedB x.1)) ∧ Below w.heap.size w w' := by
  have AT := Lib.hid (at_any p B v L id w h hn x hx)
  obtain ⟨k, ln, bs, sz, op, fds, Af, cf, hX⟩ := h.rows.parts id
  obtain rfl := hx.trans hX
  clear hX
  obtain ⟨fv, hfv⟩ : ∃ fv, fv = Value.slice Af fds.length cf := ⟨_, rfl⟩
  rw [← hfv] at AT
  clear hfv
  have f0 := field_p0 k ln bs sz op fv
  have f4 := field_p4 k ln bs sz op fv
  clear h hx
  have WB := Lib.hid (show orderedB ⟨k, ln, bs, sz, op, fds⟩ = (k == 1 || k == 3) from rfl)
  show Calls Try.prog 19 _ w fun e w' => e = .returned (.bool (orderedB ⟨k, ln, bs, sz, op, fds⟩)) ∧ _
  generalize orderedB ⟨k, ln, bs, sz, op, fds⟩ = r at *
  go_enter Try.func19, Try.ntmps19
  go_wp2_with fail
  refine AT.out.mono ?_
  rintro e w1 ⟨rfl, hb1⟩
  have B1 := Lib.hid hb1
  clear hb1 AT
  cases h1 : (k == 1) <;> cases h3 : (k == 3)
  all_goals
    have HR := Lib.hid WB.out
    rw [h1, h3] at HR
    clear WB
    go_wp2_with fail
    go_ret
    exact ⟨by rw [HR.out]; rfl, B1.out⟩

set_option maxHeartbeats 4000000 in
set_option maxRecDepth 100000 in
theorem takes_any (p B : Nat) (v : Value) (L : List Tx) (a b : Int) (w : World) (h : TabAt w B p v L) (hn : L.length ≤ 4096) :
    Calls Try.prog 15 #[.pointer (some ⟨p, 0, none⟩), .int .i64 a, .int .i64 b] w fun e w' => e = .returned (.bool (takesB (L.map (·.1)) a b)) ∧ Below w.heap.size w w' := by
  have AT := Lib.hid (at_any p B v L a w h hn _ rfl)
  have SM := Lib.hid (simple_any p B v L a w h hn _ rfl)
  have TB := Lib.hid (show takesB (L.map (·.1)) a b = if b = 4 then (getT (L.map (·.1)) a).kind == 7 else (a == b && simpleB (getT (L.map (·.1)) a)) from rfl)
  rw [← getX_fst] at TB
  generalize getX L a = x at *
  generalize takesB (L.map (·.1)) a b = r at *
  obtain ⟨⟨k, ln, bs, sz, op, fds⟩, fv⟩ := x
  have f0 := field_p0 k ln bs sz op fv
  have f4 := field_p4 k ln bs sz op fv
  clear h
  by_cases h4 : b = 4
  · have HR := Lib.hid (TB.out.trans (if_pos h4))
    subst h4
    clear TB SM
    go_enter Try.func15, Try.ntmps15
    go_wp2_with fail
    refine AT.out.mono ?_
    rintro e w1 ⟨rfl, hb1⟩
    have B1 := Lib.hid hb1
    clear hb1 AT
    go_wp2_with fail
    go_ret
    exact ⟨by rw [HR.out]; rfl, B1.out⟩
  · have HR := Lib.hid (TB.out.trans (if_neg h4))
    have d4 : (b == 4) = false := beq_eq_false_iff_ne.2 h4
    clear TB AT h4
    show Calls Try.prog 15 _ w fun e w' => e = .returned (.bool r) ∧ _
    generalize simpleB ⟨k, ln, bs, sz, op, fds⟩ = sm at *
    cases hab : (a == b) with
    | false =>
      rw [hab] at HR
      clear SM
      go_enter Try.func15, Try.ntmps15
      go_wp2_with fail
      go_ret
      exact ⟨by rw [HR.out]; rfl, Below.refl _ _⟩
    | true =>
      rw [hab] at HR
      go_enter Try.func15, Try.ntmps15
      go_wp2_with fail
      refine SM.out.mono ?_
      rintro e w1 ⟨rfl, hb1⟩
      have B1 := Lib.hid hb1
      clear hb1 SM
      go_wp2_with fail
      go_ret
      exact ⟨by rw [HR.out]; rfl, B1.out⟩

set_option maxHeartbeats 4000000 in
set_option maxRecDepth 100000 in
theorem equals_any (p B : Nat) (v : Value) (L : List Tx) (a b : Int) (w : World) (h : TabAt w B p v L) (hn : L.length ≤ 4096) :
    Calls Try.prog 17 #[.pointer (some ⟨p, 0, none⟩), .int .i64 a, .int .i64 b] w fun e w' => e = .returned (.bool (equalsB (L.map (·.1)) a b)) ∧ Below w.heap.size w w' := by
  have T1 := Lib.hid (takes_any p B v L a b w h hn)
  have T2 := Lib.hid (fun w' (hb : Below w.heap.size w w') => takes_any p B v L b a w' (h.below hb) hn)
  have EB := Lib.hid (show equalsB (L.map (·.1)) a b = (takesB (L.map (·.1)) a b || takesB (L.map (·.1)) b a || (a == 4 && b == 4)) from rfl)
  generalize takesB (L.map (·.1)) a b = r1 at *
  generalize takesB (L.map (·.1)) b a = r2 at *
  generalize equalsB (L.map (·.1)) a b = r at *
  clear h
  cases r1 with
  | true =>
    clear T2
    go_enter Try.func17, Try.ntmps17
    go_wp2_with fail
    refine T1.out.mono ?_
    rintro e w1 ⟨rfl, hb1⟩
    have B1 := Lib.hid hb1
    clear hb1 T1
    go_wp2_with fail
    go_ret
    exact ⟨by rw [EB.out]; rfl, B1.out⟩
  | false =>
    cases r2 with
    | true =>
      go_enter Try.func17, Try.ntmps17
      go_wp2_with fail
      refine T1.out.mono ?_
      rintro e w1 ⟨rfl, hb1⟩
      have B1 := Lib.hid hb1
      clear hb1 T1
      go_wp2_with fail
      refine (T2.out w1 B1.out).mono ?_
      rintro e w2 ⟨rfl, hb2⟩
      have B2 := Lib.hid (B1.out.trans (hb2.mono B1.out.size))
      clear hb2 T2
      go_wp2_with fail
      go_ret
      exact ⟨by rw [EB.out]; rfl, B2.out⟩
    | false =>
      cases ha : (a == 4) <;> cases hbb : (b == 4)
      all_goals
        rw [ha, hbb] at EB
        go_enter Try.func17, Try.ntmps17
        go_wp2_with fail
        refine T1.out.mono ?_
        rintro e w1 ⟨rfl, hb1⟩
        have B1 := Lib.hid hb1
        clear hb1 T1
        go_wp2_with fail
        refine (T2.out w1 B1.out).mono ?_
        rintro e w2 ⟨rfl, hb2⟩
        have B2 := Lib.hid (B1.out.trans (hb2.mono B1.out.size))
        clear hb2 T2
        go_wp2_with fail
        go_ret
        exact ⟨by rw [EB.out]; rfl, B2.out⟩
end Go.Proofs.Ytabkldahgjicbaa
