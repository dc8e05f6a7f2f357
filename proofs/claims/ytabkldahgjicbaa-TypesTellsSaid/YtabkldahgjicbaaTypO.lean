/- Types: the answers' Array, Open, Pointer. -/
import Derived.Test.YtabkldahgjicbaaTypN
namespace Go.Proofs.Ytabkldahgjicbaa
open Go.ChangeShapes Go.WideShapes Go.ChangeAt Go.RowKit
set_option linter.unusedVariables false
set_option linter.unusedSimpArgs false

theorem RefPost.after {B : Nat} {w w1 : World} {r : List Ty × Int × Int} {e : Ending} {w' : World} (hb : Below w.heap.size w w1) (h : RefPost B w1 r e w') : RefPost B w r e w' := by
  obtain ⟨v', M', h1, h2, h3, h4⟩ := h
  exact ⟨v', M', h1, h2, h3, hb.trans (h4.mono hb.size)⟩

theorem RefPost.same {B : Nat} {w w1 : World} {v : Value} {L : List Tx} {r : List Ty × Int × Int} (h : RowsX rT rF w B v L) (hb : Below w.heap.size w w1) (hr : r.1 = L.map (·.1)) : RefPost B w r (.returned (.tuple #[v, .int .i64 r.2.1, .int .i64 r.2.2])) w1 :=
  ⟨v, L, rfl, hr.symm, h.below hb, hb⟩

set_option maxHeartbeats 8000000 in
set_option maxRecDepth 100000 in
theorem refarray_any (B : Nat) (v : Value) (L : List Tx) (n b : Int) (w : World) (h : RowsX rT rF w B v L) (hB : B ≤ w.heap.size) (hn : L.length ≤ 4096) (hS : SizesOk (L.map (·.1))) :
    Calls Try.prog 32 #[v, .int .i64 n, .int .i64 b] w (RefPost B w (arrayP (L.map (·.1)) n b)) := by
  have CP := Lib.hid (refwhole_any B v L b w h hn _ rfl)
  have AT := Lib.hid (fun w' (hb : Below w.heap.size w w') => refget_any B v L b w' (h.below hb) hn _ rfl)
  have hs := hS.get b
  have AP := Lib.hid (show arrayP (L.map (·.1)) n b = if wholeB (getT (L.map (·.1)) b) = false then (L.map (·.1), 0, 91) else if n < 1 ∨ 16384 < n ∨ 16384 < n * (getT (L.map (·.1)) b).size then (L.map (·.1), 0, 90) else addP (L.map (·.1)) ⟨5, n, b, n * (getT (L.map (·.1)) b).size, false, []⟩ from rfl)
  rw [← getX_fst] at AP hs
  have SAME := Lib.hid (fun (r : List Ty × Int × Int) w1 (hb : Below w.heap.size w w1) hr => RefPost.same (r := r) h hb hr)
  have AD := Lib.hid (fun w1 (hb : Below w.heap.size w w1) s => refadd_any B v L 5 n b s false w1 (h.below hb) (Nat.le_trans hB hb.size) hn)
  obtain ⟨k, ln, bs, sz, op, fds, Af, cf, hX⟩ := h.parts b
  have FP := Lib.hid (field_r3 k ln bs sz op (.slice Af fds.length cf))
  rw [hX] at CP AT AP hs
  simp only at CP AT AP hs
  generalize arrayP (L.map (·.1)) n b = r at *
  generalize wholeB ⟨k, ln, bs, sz, op, fds⟩ = wb at *
  obtain ⟨A, c, rfl⟩ := row_form h.rows
  clear hX h
  cases wb with
  | false =>
    have HR := Lib.hid (AP.out.trans (if_pos rfl))
    clear AP AT FP AD
    go_enter Try.func32, Try.ntmps32
    go_wp2_with fail
    refine CP.out.mono ?_
    rintro e w1 ⟨rfl, hb1⟩
    have B1 := Lib.hid hb1
    clear hb1 CP
    go_wp2_with fail
    go_ret3
    have := SAME.out r _ B1.out (by rw [HR.out])
    rw [HR.out] at this ⊢
    exact this
  | true =>
    have A2 := Lib.hid (AP.out.trans (if_neg (by decide)))
    clear AP
    by_cases h1 : n < 1
    · have HR := Lib.hid (A2.out.trans (if_pos (.inl h1)))
      have d1 : decide (n < 1) = true := decide_eq_true h1
      clear A2 AT FP AD h1
      go_enter Try.func32, Try.ntmps32
      go_wp2_with fail
      refine CP.out.mono ?_
      rintro e w1 ⟨rfl, hb1⟩
      have B1 := Lib.hid hb1
      clear hb1 CP
      go_wp2_with fail
      go_ret3
      have := SAME.out r _ B1.out (by rw [HR.out])
      rw [HR.out] at this ⊢
      exact this
    have d1 : decide (n < 1) = false := decide_eq_false h1
    by_cases h2 : 16384 < n
    · have HR := Lib.hid (A2.out.trans (if_pos (.inr (.inl h2))))
      have d2 : decide (16384 < n) = true := decide_eq_true h2
      clear A2 AT FP AD h2 h1
      go_enter Try.func32, Try.ntmps32
      go_wp2_with fail
      refine CP.out.mono ?_
      rintro e w1 ⟨rfl, hb1⟩
      have B1 := Lib.hid hb1
      clear hb1 CP
      go_wp2_with fail
      go_ret3
      have := SAME.out r _ B1.out (by rw [HR.out])
      rw [HR.out] at this ⊢
      exact this
    have d2 : decide (16384 < n) = false := decide_eq_false h2
    have hm0 : 0 ≤ n * sz := Int.mul_nonneg (by omega) hs.1
    have hm1 : n * sz ≤ 16384 * 16384 := Int.mul_le_mul (by omega) hs.2 hs.1 (by decide)
    have hm2 : n * sz ≤ 268435456 := hm1
    have hwr : IntKind.i64.wrap (n * sz) = n * sz := by
      generalize n * sz = m at *
      simp [IntKind.wrap, IntKind.bits, IntKind.signed]
      omega
    by_cases h3 : 16384 < n * sz
    · have HR := Lib.hid (A2.out.trans (if_pos (.inr (.inr h3))))
      have d3 : decide (16384 < n * sz) = true := decide_eq_true h3
      clear A2 AD h2 h1 h3 hs hm0 hm1 hm2
      go_enter Try.func32, Try.ntmps32
      go_wp2_with fail
      refine CP.out.mono ?_
      rintro e w1 ⟨rfl, hb1⟩
      have B1 := Lib.hid hb1
      clear hb1 CP
      go_wp2_with fail
      refine (AT.out _ B1.out).mono ?_
      rintro e w2 ⟨rfl, hb2⟩
      have B2 := Lib.hid (B1.out.trans (hb2.mono B1.out.size))
      clear hb2 AT B1
      have f3 := FP.out
      go_wp2_with fail
      go_ret3
      have := SAME.out r _ B2.out (by rw [HR.out])
      rw [HR.out] at this ⊢
      exact this
    · have HR := Lib.hid (A2.out.trans (if_neg (fun h => by rcases h with h | h | h <;> omega)))
      have d3 : decide (16384 < n * sz) = false := decide_eq_false h3
      clear A2 h2 h1 h3 hs hm0 hm1 hm2 SAME
      have AD2 := Lib.hid (fun w1 (hb : Below w.heap.size w w1) => AD.out w1 hb (n * sz))
      clear AD
      rw [← HR.out] at AD2
      clear HR
      go_enter Try.func32, Try.ntmps32
      go_wp2_with fail
      refine CP.out.mono ?_
      rintro e w1 ⟨rfl, hb1⟩
      have B1 := Lib.hid hb1
      clear hb1 CP
      go_wp2_with fail
      refine (AT.out _ B1.out).mono ?_
      rintro e w2 ⟨rfl, hb2⟩
      have B2 := Lib.hid (B1.out.trans (hb2.mono B1.out.size))
      clear hb2 B1
      have f3 := FP.out
      go_wp2_with fail
      refine (AT.out _ B2.out).mono ?_
      rintro e w3 ⟨rfl, hb3⟩
      have B3 := Lib.hid (B2.out.trans (hb3.mono B2.out.size))
      clear hb3 AT B2
      go_wp2_with fail
      refine (AD2.out _ B3.out).mono ?_
      rintro e w4 ⟨v', L', rfl, hL, hT, hK⟩
      have T3 := Lib.hid hT
      have K3 := Lib.hid hK
      have E3 := Lib.hid hL
      clear hT hK hL AD2
      go_wp2_with fail
      go_ret3
      exact ⟨v', L', rfl, E3.out, T3.out, B3.out.trans (K3.out.mono B3.out.size)⟩

set_option maxHeartbeats 8000000 in
set_option maxRecDepth 100000 in
theorem refopen_any (B : Nat) (v : Value) (L : List Tx) (w : World) (h : RowsX rT rF w B v L) (hB : B ≤ w.heap.size) (hn : L.length ≤ 4096) :
    Calls Try.prog 34 #[v] w (RefPost B w (openP (L.map (·.1)))) := by
  have AD := Lib.hid (refadd_any B v L 6 0 0 0 true w h hB hn)
  obtain ⟨A, c, rfl⟩ := row_form h.rows
  clear h
  unfold openP
  generalize addP (L.map (·.1)) ⟨6, 0, 0, 0, true, []⟩ = r at *
  go_enter Try.func34, Try.ntmps34
  go_wp2_with fail
  refine AD.out.mono ?_
  rintro e w3 ⟨v', L', rfl, hL, hT, hK⟩
  have T3 := Lib.hid hT
  have K3 := Lib.hid hK
  have E3 := Lib.hid hL
  clear hT hK hL AD
  go_wp2_with fail
  go_ret3
  exact ⟨v', L', rfl, E3.out, T3.out, K3.out⟩

set_option maxHeartbeats 8000000 in
set_option maxRecDepth 100000 in
theorem refpointer_any (B : Nat) (v : Value) (L : List Tx) (b : Int) (w : World) (h : RowsX rT rF w B v L) (hB : B ≤ w.heap.size) (hn : L.length ≤ 4096) :
    Calls Try.prog 40 #[v, .int .i64 b] w (RefPost B w (pointerP (L.map (·.1)) b)) := by
  have AT := Lib.hid (refget_any B v L b _ h hn _ rfl)
  have AP := Lib.hid (show pointerP (L.map (·.1)) b = if (getT (L.map (·.1)) b).kind ≠ 6 then (L.map (·.1), 0, 91) else if 0 ≤ idxF (ptrTo b) (L.map (·.1)) 0 then (L.map (·.1), idxF (ptrTo b) (L.map (·.1)) 0, 0) else addP (L.map (·.1)) ⟨7, 0, b, 4, false, []⟩ from rfl)
  rw [← getX_fst] at AP
  have SAME := Lib.hid (fun (r : List Ty × Int × Int) w1 (hb : Below w.heap.size w w1) hr => RefPost.same (r := r) h hb hr)
  have AD := Lib.hid (fun w1 (hb : Below w.heap.size w w1) => refadd_any B v L 7 0 b 4 false w1 (h.below hb) (Nat.le_trans hB hb.size) hn)
  have HH := Lib.hid (fun w1 (hb : Below w.heap.size w w1) => h.below hb)
  obtain ⟨A, c, rfl⟩ := row_form h.rows
  obtain ⟨k, ln, bs, sz, op, fds, Af, cf, hX⟩ := h.parts b
  have FP := Lib.hid (field_r0 k ln bs sz op (.slice Af fds.length cf))
  rw [hX] at AT AP
  simp only at AT AP
  generalize pointerP (L.map (·.1)) b = r at *
  have hib := idxF_bound (ptrTo b) (L.map (·.1)) 0
  rw [List.length_map] at hib
  have RR := Lib.hid (show idxF (ptrTo b) ((L.map (·.1)).drop 0) 0 = idxF (ptrTo b) (L.map (·.1)) 0 from rfl)
  generalize idxF (ptrTo b) (L.map (·.1)) 0 = ix at *
  clear hX h
  by_cases hk : k = 6
  case neg =>
    have HR := Lib.hid (AP.out.trans (if_pos hk))
    have d1 : (k != 6) = true := by simpa using hk
    clear AP hk AD
    go_enter Try.func40, Try.ntmps40
    go_wp2_with fail
    refine AT.out.mono ?_
    rintro e w1 ⟨rfl, hb1⟩
    have B1 := Lib.hid hb1
    clear hb1 AT
    have f0 := FP.out
    go_wp2_with fail
    go_ret3
    have := SAME.out r _ B1.out (by rw [HR.out])
    rw [HR.out] at this ⊢
    exact this
  case pos =>
  subst hk
  have A2 := Lib.hid (AP.out.trans (if_neg (by decide)))
  clear AP
  go_enter Try.func40, Try.ntmps40
  go_wp2_with fail
  refine AT.out.mono ?_
  rintro e w1 ⟨rfl, hb1⟩
  have B1 := Lib.hid hb1
  have H1 := Lib.hid (HH.out w1 hb1)
  clear hb1 AT HH
  have f0 := FP.out
  go_wp2_with fail
  clear f0
  go_loop [7] (fun i => ∃ t : Nat, t ≤ L.length ∧ i = .int .i64 t ∧ idxF (ptrTo b) ((L.map (·.1)).drop t) t = ix) (fun i => L.length - (intOf i).toNat)
  case atStart => exact ⟨0, Nat.zero_le _, rfl, RR.out⟩
  case round =>
    obtain ⟨t, ht, rfl, hr⟩ := hrel
    have HI := Lib.hid hr
    clear hr RR
    by_cases hlt : t < L.length
    · have hI : (t : Int) < L.length := by omega
      obtain ⟨hcap, g, rfl, _, hgl, hg⟩ := row_cell (f := txCells) (fun _ => rfl) zX H1.out.rows rfl hlt
      have E := Lib.hid (HI.out.symm.trans (idxF_at (ptrTo b) (L.map (·.1)) t zT (by rw [List.length_map]; exact hlt)))
      have e0 : (L.map (·.1)).getD t zT = (L.getD t zX).1 := by simp [List.getD, hlt]
      rw [e0] at E
      generalize L.getD t zX = x at *
      obtain ⟨⟨k, l2, b2, s2, o2, fd2⟩, fv2⟩ := x
      have x0 : w1.cell? ⟨g, t * 6, none⟩ = some (.int .i64 k) := (hg 0 (by decide)).1
      have x2 : w1.cell? ⟨g, t * 6 + 2, none⟩ = some (.int .i64 b2) := (hg 2 (by decide)).1
      have NI := Lib.hid (show ptrTo b ⟨k, l2, b2, s2, o2, fd2⟩ = (k == 7 && b2 == b) from rfl)
      clear hg HI e0
      cases h7 : (k == 7) with
      | false =>
        have HX := Lib.hid (E.out.trans (if_neg (by rw [NI.out, h7]; simp)))
        clear E NI
        go_wp2_with fail
        go_round
        case rel => exact ⟨t + 1, by omega, by go_num, HX.out.symm⟩
        case measure => simp [intOf]; omega
      | true =>
        cases hq : (b2 == b) with
        | false =>
          have HX := Lib.hid (E.out.trans (if_neg (by rw [NI.out, h7, hq]; decide)))
          clear E NI
          go_wp2_with fail
          go_round
          case rel => exact ⟨t + 1, by omega, by go_num, HX.out.symm⟩
          case measure => simp [intOf]; omega
        | true =>
          have HX := Lib.hid (E.out.trans (if_pos (by rw [NI.out, h7, hq]; rfl)))
          have HR := Lib.hid (show r = (L.map (·.1), (t : Int), 0) from A2.out.trans (by rw [HX.out, if_pos (by omega)]))
          clear E NI HX A2
          go_wp2_with fail
          go_ret3
          have := SAME.out r _ B1.out (by rw [HR.out])
          rw [HR.out] at this ⊢
          exact this
    · have hI : ¬ (t : Int) < L.length := by omega
      have hix : ix = -1 := by
        rw [← HI.out, List.drop_of_length_le (by rw [List.length_map]; omega)]
        rfl
      have HR := Lib.hid (A2.out.trans (if_neg (by rw [hix]; decide)))
      rw [← HR.out] at AD
      clear A2 HI hix HR SAME
      go_wp2_with fail
      refine (AD.out _ B1.out).mono ?_
      rintro e w4 ⟨v', L', rfl, hL, hT, hK⟩
      have T3 := Lib.hid hT
      have K3 := Lib.hid hK
      have E3 := Lib.hid hL
      clear hT hK hL AD
      go_wp2_with fail
      go_ret3
      exact ⟨v', L', rfl, E3.out, T3.out, B1.out.trans (K3.out.mono B1.out.size)⟩
end Go.Proofs.Ytabkldahgjicbaa
