/- Types: the program's Array, Open, Pointer. -/
import Derived.Test.YtabkldahgjicbaaTypF
namespace Go.Proofs.Ytabkldahgjicbaa
open Go.ChangeShapes Go.WideShapes Go.ChangeAt Go.RowKit
set_option linter.unusedVariables false
set_option linter.unusedSimpArgs false

def arrayP (L : List Ty) (n b : Int) : List Ty × Int × Int :=
  if wholeB (getT L b) = false then (L, 0, 91)
  else if n < 1 ∨ 16384 < n ∨ 16384 < n * (getT L b).size then (L, 0, 90)
  else addP L ⟨5, n, b, n * (getT L b).size, false, []⟩

def openP (L : List Ty) : List Ty × Int × Int := addP L ⟨6, 0, 0, 0, true, []⟩

def pointerP (L : List Ty) (b : Int) : List Ty × Int × Int :=
  if (getT L b).kind ≠ 6 then (L, 0, 91)
  else if 0 ≤ idxF (ptrTo b) L 0 then (L, idxF (ptrTo b) L 0, 0)
  else addP L ⟨7, 0, b, 4, false, []⟩

/-- The sizes are such as may be. -/
def SizesOk (L : List Ty) : Prop := ∀ x ∈ L, 0 ≤ x.size ∧ x.size ≤ 16384

theorem SizesOk.get {L : List Ty} (h : SizesOk L) (id : Int) : 0 ≤ (getT L id).size ∧ (getT L id).size ≤ 16384 := by
  unfold getT
  split
  · rename_i hh
    have : id.toNat < L.length := by omega
    rw [List.getD_eq_getElem?_getD, List.getElem?_eq_getElem this]
    exact h _ (List.getElem_mem this)
  · exact ⟨Int.le_refl _, by decide⟩

theorem ChPost.after {B p : Nat} {w w1 : World} {r : List Ty × Int × Int} {e : Ending} {w' : World} (hb : Below w.heap.size w w1) (h : ChPost B p w1 r e w') : ChPost B p w r e w' := by
  obtain ⟨v', L', h1, h2, h3, h4⟩ := h
  exact ⟨v', L', h1, h2, h3, (KeptT.ofBelow hb).trans h4⟩

theorem ChPost.same {B p : Nat} {w w1 : World} {v : Value} {L : List Tx} {r : List Ty × Int × Int} (h : TabAt w B p v L) (hb : Below w.heap.size w w1) (hr : r.1 = L.map (·.1)) : ChPost B p w r (.returned (.tuple #[.int .i64 r.2.1, .int .i64 r.2.2])) w1 :=
  ⟨v, L, rfl, hr.symm, h.below hb, KeptT.ofBelow hb⟩

set_option maxHeartbeats 8000000 in
set_option maxRecDepth 100000 in
theorem array_any (p B : Nat) (v : Value) (L : List Tx) (n b : Int) (w : World) (h : TabAt w B p v L) (hB : B ≤ w.heap.size) (hn : L.length ≤ 4096) (hS : SizesOk (L.map (·.1))) :
    Calls Try.prog 23 #[.pointer (some ⟨p, 0, none⟩), .int .i64 n, .int .i64 b] w (ChPost B p w (arrayP (L.map (·.1)) n b)) := by
  have CP := Lib.hid (complete_any p B v L b w h hn _ rfl)
  have AT := Lib.hid (fun w' (hb : Below w.heap.size w w') => at_any p B v L b w' (h.below hb) hn _ rfl)
  have hs := hS.get b
  have AP := Lib.hid (show arrayP (L.map (·.1)) n b = if wholeB (getT (L.map (·.1)) b) = false then (L.map (·.1), 0, 91) else if n < 1 ∨ 16384 < n ∨ 16384 < n * (getT (L.map (·.1)) b).size then (L.map (·.1), 0, 90) else addP (L.map (·.1)) ⟨5, n, b, n * (getT (L.map (·.1)) b).size, false, []⟩ from rfl)
  rw [← getX_fst] at AP hs
  have SAME := Lib.hid (fun (r : List Ty × Int × Int) w1 (hb : Below w.heap.size w w1) hr => ChPost.same (r := r) h hb hr)
  have AD := Lib.hid (fun w1 (hb : Below w.heap.size w w1) s => add_any p B v L 5 n b s false w1 (h.below hb) (Nat.le_trans hB hb.size) hn)
  obtain ⟨k, ln, bs, sz, op, fds, Af, cf, hX⟩ := h.rows.parts b
  have FP := Lib.hid (field_p3 k ln bs sz op (.slice Af fds.length cf))
  rw [hX] at CP AT AP hs
  simp only at CP AT AP hs
  generalize arrayP (L.map (·.1)) n b = r at *
  generalize wholeB ⟨k, ln, bs, sz, op, fds⟩ = wb at *
  clear hX h
  cases wb with
  | false =>
    have HR := Lib.hid (AP.out.trans (if_pos rfl))
    clear AP AT FP AD
    go_enter Try.func23, Try.ntmps23
    go_wp2_with fail
    refine CP.out.mono ?_
    rintro e w1 ⟨rfl, hb1⟩
    have B1 := Lib.hid hb1
    clear hb1 CP
    go_wp2_with fail
    go_ret2
    have := SAME.out r _ B1.out (by rw [HR.out])
    rw [HR.out] at this ⊢
    exact this
  | true =>
    have A2 := Lib.hid (AP.out.trans (if_neg (by decide)))
    clear AP
    by_cases h1 : n < 1
    · have HR := Lib.hid (A2.out.trans (if_pos (.inl h1)))
      have d1 : decide (n < 1) = true := decide_eq_true h1
      clear A2 AT FP AD h1
      go_enter Try.func23, Try.ntmps23
      go_wp2_with fail
      refine CP.out.mono ?_
      rintro e w1 ⟨rfl, hb1⟩
      have B1 := Lib.hid hb1
      clear hb1 CP
      go_wp2_with fail
      go_ret2
      have := SAME.out r _ B1.out (by rw [HR.out])
      rw [HR.out] at this ⊢
      exact this
    have d1 : decide (n < 1) = false := decide_eq_false h1
    by_cases h2 : 16384 < n
    · have HR := Lib.hid (A2.out.trans (if_pos (.inr (.inl h2))))
      have d2 : decide (16384 < n) = true := decide_eq_true h2
      clear A2 AT FP AD h2 h1
      go_enter Try.func23, Try.ntmps23
      go_wp2_with fail
      refine CP.out.mono ?_
      rintro e w1 ⟨rfl, hb1⟩
      have B1 := Lib.hid hb1
      clear hb1 CP
      go_wp2_with fail
      go_ret2
      have := SAME.out r _ B1.out (by rw [HR.out])
      rw [HR.out] at this ⊢
      exact this
    have d2 : decide (16384 < n) = false := decide_eq_false h2
    have hm0 : 0 ≤ n * sz := Int.mul_nonneg (by omega) hs.1
    have hm1 : n * sz ≤ 16384 * 16384 := Int.mul_le_mul (by omega) hs.2 hs.1 (by decide)
    have hm2 : n * sz ≤ 268435456 := hm1
    have hwr : IntKind.i64.wrap (n * sz) = n * sz := by
      generalize n * sz = m at *
      simp [IntKind.wrap, IntKind.bits, IntKind.signed]
      omega
    by_cases h3 : 16384 < n * sz
    · have HR := Lib.hid (A2.out.trans (if_pos (.inr (.inr h3))))
      have d3 : decide (16384 < n * sz) = true := decide_eq_true h3
      clear A2 AD h2 h1 h3 hs hm0 hm1 hm2
      go_enter Try.func23, Try.ntmps23
      go_wp2_with fail
      refine CP.out.mono ?_
      rintro e w1 ⟨rfl, hb1⟩
      have B1 := Lib.hid hb1
      clear hb1 CP
      go_wp2_with fail
      refine (AT.out _ B1.out).mono ?_
      rintro e w2 ⟨rfl, hb2⟩
      have B2 := Lib.hid (B1.out.trans (hb2.mono B1.out.size))
      clear hb2 AT B1
      have f3 := FP.out
      go_wp2_with fail
      go_ret2
      have := SAME.out r _ B2.out (by rw [HR.out])
      rw [HR.out] at this ⊢
      exact this
    · have HR := Lib.hid (A2.out.trans (if_neg (fun h => by rcases h with h | h | h <;> omega)))
      have d3 : decide (16384 < n * sz) = false := decide_eq_false h3
      clear A2 h2 h1 h3 hs hm0 hm1 hm2 SAME
      have AD2 := Lib.hid (fun w1 (hb : Below w.heap.size w w1) => AD.out w1 hb (n * sz))
      clear AD
      rw [← HR.out] at AD2
      clear HR
      go_enter Try.func23, Try.ntmps23
      go_wp2_with fail
      refine CP.out.mono ?_
      rintro e w1 ⟨rfl, hb1⟩
      have B1 := Lib.hid hb1
      clear hb1 CP
      go_wp2_with fail
      refine (AT.out _ B1.out).mono ?_
      rintro e w2 ⟨rfl, hb2⟩
      have B2 := Lib.hid (B1.out.trans (hb2.mono B1.out.size))
      clear hb2 AT B1
      have f3 := FP.out
      go_wp2_with fail
      refine (AD2.out _ B2.out).mono ?_
      rintro e w3 ⟨v', L', rfl, hL, hT, hK⟩
      have T3 := Lib.hid hT
      have K3 := Lib.hid hK
      have E3 := Lib.hid hL
      clear hT hK hL AD2
      go_wp2_with fail
      go_ret2
      exact ⟨v', L', rfl, E3.out, T3.out, (KeptT.ofBelow B2.out).trans K3.out⟩

set_option maxHeartbeats 8000000 in
set_option maxRecDepth 100000 in
theorem open_any (p B : Nat) (v : Value) (L : List Tx) (w : World) (h : TabAt w B p v L) (hB : B ≤ w.heap.size) (hn : L.length ≤ 4096) :
    Calls Try.prog 33 #[.pointer (some ⟨p, 0, none⟩)] w (ChPost B p w (openP (L.map (·.1)))) := by
  have AD := Lib.hid (add_any p B v L 6 0 0 0 true w h hB hn)
  clear h
  unfold openP
  generalize addP (L.map (·.1)) ⟨6, 0, 0, 0, true, []⟩ = r at *
  go_enter Try.func33, Try.ntmps33
  go_wp2_with fail
  refine AD.out.mono ?_
  rintro e w3 ⟨v', L', rfl, hL, hT, hK⟩
  have T3 := Lib.hid hT
  have K3 := Lib.hid hK
  have E3 := Lib.hid hL
  clear hT hK hL AD
  go_wp2_with fail
  go_ret2
  exact ⟨v', L', rfl, E3.out, T3.out, K3.out⟩

set_option maxHeartbeats 8000000 in
set_option maxRecDepth 100000 in
theorem pointer_any (p B : Nat) (v : Value) (L : List Tx) (b : Int) (w : World) (h : TabAt w B p v L) (hB : B ≤ w.heap.size) (hn : L.length ≤ 4096) :
    Calls Try.prog 39 #[.pointer (some ⟨p, 0, none⟩), .int .i64 b] w (ChPost B p w (pointerP (L.map (·.1)) b)) := by
  have hb0 := (Below.refl w.heap.size w).alloc (Nat.le_refl _) (.cells #[.int .i64 b] 3)
  have Q := Lib.hid (Whole.made w 3 #[.int .i64 b] _ rfl)
  have AT := Lib.hid (at_any p B v L b _ (h.below hb0) hn _ rfl)
  have AP := Lib.hid (show pointerP (L.map (·.1)) b = if (getT (L.map (·.1)) b).kind ≠ 6 then (L.map (·.1), 0, 91) else if 0 ≤ idxF (ptrTo b) (L.map (·.1)) 0 then (L.map (·.1), idxF (ptrTo b) (L.map (·.1)) 0, 0) else addP (L.map (·.1)) ⟨7, 0, b, 4, false, []⟩ from rfl)
  rw [← getX_fst] at AP
  have SAME := Lib.hid (fun (r : List Ty × Int × Int) w1 (hb : Below w.heap.size w w1) hr => ChPost.same (r := r) h hb hr)
  have AD := Lib.hid (fun w1 (hb : Below w.heap.size w w1) => add_any p B v L 7 0 b 4 false w1 (h.below hb) (Nat.le_trans hB hb.size) hn)
  have FN := Lib.hid (fun w1 (hb : Below (w.alloc (.cells #[.int .i64 b] 3)).heap.size (w.alloc (.cells #[.int .i64 b] 3)) w1) => find_ptr b w.heap.size v B L w1 ((h.below hb0).below hb).rows hn ((Q.out.below hb Q.out.lt).cell 0))
  have BA := Lib.hid hb0
  have q0 : (w.alloc (.cells #[.int .i64 b] 3)).cell? ⟨w.heap.size, 0, none⟩ = some (.int .i64 b) := Q.out.cell 0
  obtain ⟨A, c, rfl⟩ := row_form h.rows.rows
  have TB := Lib.hid (fun w1 (hb : Below w.heap.size w w1) => show w1.cell? ⟨p, 0, none⟩ = some (.slice A L.length c) from (h.below hb).blk.cell 0)
  obtain ⟨k, ln, bs, sz, op, fds, Af, cf, hX⟩ := h.rows.parts b
  have FP := Lib.hid (field_p0 k ln bs sz op (.slice Af fds.length cf))
  rw [hX] at AT AP
  simp only at AT AP
  generalize pointerP (L.map (·.1)) b = r at *
  have hib := idxF_bound (ptrTo b) (L.map (·.1)) 0
  rw [List.length_map] at hib
  generalize idxF (ptrTo b) (L.map (·.1)) 0 = ix at *
  generalize hV : w.alloc (.cells #[.int .i64 b] 3) = V at *
  have HV := Lib.hid hV
  clear hX h hb0 hV
  by_cases hk : k = 6
  case neg =>
    have HR := Lib.hid (AP.out.trans (if_pos hk))
    have d1 : (k != 6) = true := by simpa using hk
    clear AP hk AD FN TB
    go_enter Try.func39, Try.ntmps39
    rw [← HV.out] at q0 AT BA
    go_wp2_with fail
    refine AT.out.mono ?_
    rintro e w1 ⟨rfl, hb1⟩
    have B1 := Lib.hid (BA.out.trans (hb1.mono BA.out.size))
    clear hb1 AT BA q0
    have f0 := FP.out
    go_wp2_with fail
    go_ret2
    have := SAME.out r _ B1.out (by rw [HR.out])
    rw [HR.out] at this ⊢
    exact this
  case pos =>
    subst hk
    have A2 := Lib.hid (AP.out.trans (if_neg (by decide)))
    clear AP
    by_cases hix : 0 ≤ ix
    · have HR := Lib.hid (A2.out.trans (if_pos hix))
      have d1 : decide (0 ≤ ix) = true := decide_eq_true hix
      clear A2 hix hib AD
      go_enter Try.func39, Try.ntmps39
      rw [← HV.out] at q0 AT BA FN
      go_wp2_with fail
      refine AT.out.mono ?_
      rintro e w1 ⟨rfl, hb1⟩
      have B1 := Lib.hid (BA.out.trans (hb1.mono BA.out.size))
      have F1 := Lib.hid (FN.out _ hb1)
      have q1 : w1.cell? ⟨w.heap.size, 0, none⟩ = some (.int .i64 b) := (hb1.cell (p := ⟨w.heap.size, 0, none⟩) (by simp)).trans q0
      have t1 := TB.out _ B1.out
      clear hb1 AT BA q0 FN
      have f0 := FP.out
      go_wp2_with fail
      refine F1.out.mono ?_
      rintro e w2 ⟨rfl, hb2⟩
      have B2 := Lib.hid (B1.out.trans (hb2.mono B1.out.size))
      have q2 : w2.cell? ⟨w.heap.size, 0, none⟩ = some (.int .i64 b) := (hb2.cell (p := ⟨w.heap.size, 0, none⟩) (block_lt q1)).trans q1
      clear hb2 F1 B1 q1 t1
      go_wp2_with fail
      go_ret2
      have := SAME.out r _ B2.out (by rw [HR.out])
      rw [HR.out] at this ⊢
      exact this
    · have HR := Lib.hid (A2.out.trans (if_neg hix))
      have d1 : decide (0 ≤ ix) = false := decide_eq_false hix
      rw [← HR.out] at AD
      clear A2 hix hib SAME HR
      go_enter Try.func39, Try.ntmps39
      rw [← HV.out] at q0 AT BA FN
      go_wp2_with fail
      refine AT.out.mono ?_
      rintro e w1 ⟨rfl, hb1⟩
      have B1 := Lib.hid (BA.out.trans (hb1.mono BA.out.size))
      have F1 := Lib.hid (FN.out _ hb1)
      have q1 : w1.cell? ⟨w.heap.size, 0, none⟩ = some (.int .i64 b) := (hb1.cell (p := ⟨w.heap.size, 0, none⟩) (by simp)).trans q0
      have t1 := TB.out _ B1.out
      clear hb1 AT BA q0 FN
      have f0 := FP.out
      go_wp2_with fail
      refine F1.out.mono ?_
      rintro e w2 ⟨rfl, hb2⟩
      have B2 := Lib.hid (B1.out.trans (hb2.mono B1.out.size))
      have q2 : w2.cell? ⟨w.heap.size, 0, none⟩ = some (.int .i64 b) := (hb2.cell (p := ⟨w.heap.size, 0, none⟩) (block_lt q1)).trans q1
      clear hb2 F1 B1 q1 t1
      go_wp2_with fail
      refine (AD.out _ B2.out).mono ?_
      rintro e w3 ⟨v', L', rfl, hL, hT, hK⟩
      have T3 := Lib.hid hT
      have K3 := Lib.hid hK
      have E3 := Lib.hid hL
      clear hT hK hL AD
      go_wp2_with fail
      go_ret2
      exact ⟨v', L', rfl, E3.out, T3.out, (KeptT.ofBelow B2.out).trans K3.out⟩
end Go.Proofs.Ytabkldahgjicbaa
