/- Types: the answers' put, Close. -/
import Derived.Test.YtabkldahgjicbaaTypO
namespace Go.Proofs.Ytabkldahgjicbaa
open Go.ChangeShapes Go.WideShapes Go.ChangeAt Go.RowKit
set_option linter.unusedVariables false
set_option linter.unusedSimpArgs false

/-- A whole type stored into a row, cell by cell. -/
theorem put_six (L : List Tx) (t : Nat) (ht : t < L.length) (k ln bs sz : Int) (op : Bool) (fds : List Fd) (fv : Value) :
    (((((((L.flatMap txCells).set (t * 6) (.int .i64 k)).set (t * 6 + 1) (.int .i64 ln)).set (t * 6 + 2) (.int .i64 bs)).set (t * 6 + 3) (.int .i64 sz)).set (t * 6 + 4) (.bool op)).set (t * 6 + 5) fv) = (L.set t (⟨k, ln, bs, sz, op, fds⟩, fv)).flatMap txCells := by
  obtain ⟨⟨k0, l0, b0, s0, o0, f0⟩, v0⟩ : Tx := L.getD t zX
  have g : ∀ (y : Tx), (L.set t y).getD t zX = y := fun y => by rw [getD_set _ _ _ _ _ ht, if_pos rfl]
  have hl : ∀ (y : Tx), t < (L.set t y).length := fun y => by rw [List.length_set]; exact ht
  have e0 := flat_set txCells 6 (fun _ => rfl) zX (⟨k, (L.getD t zX).1.len, (L.getD t zX).1.base, (L.getD t zX).1.size, (L.getD t zX).1.opn, fds⟩, (L.getD t zX).2) 0 (.int .i64 k) L t ht (by decide) rfl
  have e1 := flat_set txCells 6 (fun _ => rfl) zX (⟨k, ln, (L.getD t zX).1.base, (L.getD t zX).1.size, (L.getD t zX).1.opn, fds⟩, (L.getD t zX).2) 1 (.int .i64 ln) _ t (hl (⟨k, (L.getD t zX).1.len, (L.getD t zX).1.base, (L.getD t zX).1.size, (L.getD t zX).1.opn, fds⟩, (L.getD t zX).2)) (by decide) (by rw [g]; rfl)
  have e2 := flat_set txCells 6 (fun _ => rfl) zX (⟨k, ln, bs, (L.getD t zX).1.size, (L.getD t zX).1.opn, fds⟩, (L.getD t zX).2) 2 (.int .i64 bs) _ t (hl (⟨k, ln, (L.getD t zX).1.base, (L.getD t zX).1.size, (L.getD t zX).1.opn, fds⟩, (L.getD t zX).2)) (by decide) (by rw [g]; rfl)
  have e3 := flat_set txCells 6 (fun _ => rfl) zX (⟨k, ln, bs, sz, (L.getD t zX).1.opn, fds⟩, (L.getD t zX).2) 3 (.int .i64 sz) _ t (hl (⟨k, ln, bs, (L.getD t zX).1.size, (L.getD t zX).1.opn, fds⟩, (L.getD t zX).2)) (by decide) (by rw [g]; rfl)
  have e4 := flat_set txCells 6 (fun _ => rfl) zX (⟨k, ln, bs, sz, op, fds⟩, (L.getD t zX).2) 4 (.bool op) _ t (hl (⟨k, ln, bs, sz, (L.getD t zX).1.opn, fds⟩, (L.getD t zX).2)) (by decide) (by rw [g]; rfl)
  have e5 := flat_set txCells 6 (fun _ => rfl) zX (⟨k, ln, bs, sz, op, fds⟩, fv) 5 fv _ t (hl (⟨k, ln, bs, sz, op, fds⟩, (L.getD t zX).2)) (by decide) (by rw [g]; rfl)
  rw [List.set_set] at e1 e2 e3 e4 e5
  rw [Nat.add_zero] at e0
  rw [e0, e1, e2, e3, e4, e5]

theorem rF_rT : rF ≠ rT := by decide

set_option maxHeartbeats 8000000 in
set_option maxRecDepth 100000 in
theorem refput_any (B : Nat) (v : Value) (L : List Tx) (t : Nat) (k ln bs sz : Int) (op : Bool) (fds : List Fd) (Af : Option Addr) (m cf : Nat) (w : World) (h : RowsX rT rF w B v L) (hf : w.ownsRow B rF 3 (.slice Af m cf) fds.length (fds.flatMap Fd.cells)) (hB : B ≤ w.heap.size) (hn : L.length ≤ 4096) (ht : t < L.length) :
    Calls Try.prog 47 #[v, .int .i64 t, .agg #[.int .i64 k, .int .i64 ln, .int .i64 bs, .int .i64 sz, .bool op, .slice Af m cf]] w fun e w' => ∃ v', e = .returned v' ∧ RowsX rT rF w' B v' (L.set t (⟨k, ln, bs, sz, op, fds⟩, .slice Af m cf)) ∧ Below w.heap.size w w' := by
  obtain ⟨i0, hi, hz0, hz1, hz2⟩ := info_parts rT_info
  obtain ⟨A, c, rfl⟩ := row_form h.rows
  have htI : (t : Int) < L.length := by omega
  have ba := (Below.refl w.heap.size w).alloc (Nat.le_refl _) (.cells #[.int .i64 k, .int .i64 ln, .int .i64 bs, .int .i64 sz, .bool op, .slice Af m cf] rT)
  have Q := Lib.hid (Whole.made w rT #[.int .i64 k, .int .i64 ln, .int .i64 bs, .int .i64 sz, .bool op, .slice Af m cf] _ rfl)
  have BA := Lib.hid ba
  have H := Lib.hid h
  have HF := Lib.hid hf
  clear ba h hf
  go_enter Try.func47, Try.ntmps47
  have hVs : w.heap.size ≤ (w.alloc (.cells #[.int .i64 k, .int .i64 ln, .int .i64 bs, .int .i64 sz, .bool op, .slice Af m cf] rT)).heap.size := BA.out.size
  have SV := Lib.hid (show (w.alloc (.cells #[.int .i64 k, .int .i64 ln, .int .i64 bs, .int .i64 sz, .bool op, .slice Af m cf] rT)).heap.size = w.heap.size + 1 by simp)
  have bE := (BA.out.trans (((Below.refl _ (w.alloc (.cells #[.int .i64 k, .int .i64 ln, .int .i64 bs, .int .i64 sz, .bool op, .slice Af m cf] rT))).alloc (Nat.le_refl _) (.cells #[] rT)).mono hVs))
  have BE := Lib.hid bE
  have HE := Lib.hid (H.out.below bE)
  have OE := Lib.hid (row_built (e := rT) (sz := 6) (w.alloc (.cells #[.int .i64 k, .int .i64 ln, .int .i64 bs, .int .i64 sz, .bool op, .slice Af m cf] rT)) #[] 0 0 rfl (Nat.le_refl _) (Nat.zero_le _) (w.heap.size + 1) (by rw [SV.out]; omega) (w.heap.size + 1) (by rw [SV.out]) [] rfl)
  have ZE : w.heap.size + 1 ≤ ((w.alloc (.cells #[.int .i64 k, .int .i64 ln, .int .i64 bs, .int .i64 sz, .bool op, .slice Af m cf] rT)).alloc (.cells #[] rT)).heap.size := by simp
  have QE := Lib.hid (Q.out.alloc (.cells #[] rT))
  have hN : 0 + L.length ≤ maxLen := by unfold maxLen; omega
  clear bE hVs SV
  go_wp2_with (first | (at_builtin; refine wp_app_any _ rfl _ _ 25 rfl (w.heap.size + 1) rT i0 _ 6 64 Try.underlying25 hi hz0 hz1 hz2 rfl (by decide) (.slice (some ⟨w.heap.size + 1, 0, none⟩) 0 0) 0 [] rfl OE.out _ L.length _ rfl HE.out.rows HE.out.one hN (by omega) ZE ?_; intro v3 w3 ho3 hg3 hat; rw [Nat.zero_add, List.nil_append] at ho3; have hform := row_form ho3; obtain ⟨A3, c3, rfl⟩ := hform; have B3 := Lib.hid (BE.out.grown hg3 (by omega) (fun b hb => by have := (World.ownsRow.lt OE.out b hb).1; omega)); have Q3 := Lib.hid (show Whole w3 w.heap.size rT #[.int .i64 k, .int .i64 ln, .int .i64 bs, .int .i64 sz, .bool op, .slice Af m cf] from (hg3.block w.heap.size QE.out.lt (fun e => by have := (World.ownsRow.lt OE.out _ e.symm).1; omega)).trans QE.out); have O3 := Lib.hid ho3; have RC := row_cell (f := txCells) (fun _ => rfl) zX ho3 rfl ht; have q0 : w3.cell? ⟨w.heap.size, 0, none⟩ = some (.int .i64 k) := Q3.out.cell 0; have q1 : w3.cell? ⟨w.heap.size, 1, none⟩ = some (.int .i64 ln) := Q3.out.cell 1; have q2 : w3.cell? ⟨w.heap.size, 2, none⟩ = some (.int .i64 bs) := Q3.out.cell 2; have q3 : w3.cell? ⟨w.heap.size, 3, none⟩ = some (.int .i64 sz) := Q3.out.cell 3; have q4 : w3.cell? ⟨w.heap.size, 4, none⟩ = some (.bool op) := Q3.out.cell 4; have q5 : w3.cell? ⟨w.heap.size, 5, none⟩ = some (.slice Af m cf) := Q3.out.cell 5; obtain ⟨hc3, g, rfl, hBg, hgl, hg⟩ := RC; have RG := Lib.hid hBg; have RL := Lib.hid hgl; clear hBg hgl; generalize L.getD t zX = y0 at hg; obtain ⟨⟨k0, l0, b0, s0, o0, f0⟩, v0⟩ := y0; have x0 : w3.cell? ⟨g, t * 6, none⟩ = some (.int .i64 k0) := (hg 0 (by decide)).1; have x1 : w3.cell? ⟨g, t * 6 + 1, none⟩ = some (.int .i64 l0) := (hg 1 (by decide)).1; have x2 : w3.cell? ⟨g, t * 6 + 2, none⟩ = some (.int .i64 b0) := (hg 2 (by decide)).1; have x3 : w3.cell? ⟨g, t * 6 + 3, none⟩ = some (.int .i64 s0) := (hg 3 (by decide)).1; have x4 : w3.cell? ⟨g, t * 6 + 4, none⟩ = some (.bool o0) := (hg 4 (by decide)).1; have x5 : w3.cell? ⟨g, t * 6 + 5, none⟩ = some v0 := (hg 5 (by decide)).1; have z0 : w3.frozen? ⟨g, t * 6, none⟩ = false := (hg 0 (by decide)).2; have z1 := (hg 1 (by decide)).2; have z2 := (hg 2 (by decide)).2; have z3 := (hg 3 (by decide)).2; have z4 := (hg 4 (by decide)).2; have z5 := (hg 5 (by decide)).2; clear ho3 hg3 hat hg))
  go_ret
  have R := row_set (row_set (row_set (row_set (row_set (row_set O3.out (j := t * 6) (.int .i64 k)) (j := t * 6 + 1) (.int .i64 ln)) (j := t * 6 + 2) (.int .i64 bs)) (j := t * 6 + 3) (.int .i64 sz)) (j := t * 6 + 4) (.bool op)) (j := t * 6 + 5) (.slice Af m cf)
  rw [put_six L t ht k ln bs sz op fds (.slice Af m cf)] at R
  have G := ((((((grown_set w3 g (t * 6) (.int .i64 k)).trans (grown_set _ g (t * 6 + 1) (.int .i64 ln))).trans (grown_set _ g (t * 6 + 2) (.int .i64 bs))).trans (grown_set _ g (t * 6 + 3) (.int .i64 sz))).trans (grown_set _ g (t * 6 + 4) (.bool op))).trans (grown_set _ g (t * 6 + 5) (.slice Af m cf)))
  have hRG := RG.out
  refine ⟨.slice (some ⟨g, 0, none⟩) L.length c3, rfl, ⟨?_, fun y hy => ?_⟩, B3.out.grown G B3.out.size (fun b hb => by injection hb with hb; omega)⟩
  · rw [List.length_set]
    exact row_more R (by omega)
  · rcases List.mem_or_eq_of_mem_set hy with hy | rfl
    · have h1 := row_below (H.out.fds y hy) B3.out
      exact World.ownsRow.kept h1 G (row_apart h1 O3.out rF_rT)
    · have h1 := row_below HF.out B3.out
      exact World.ownsRow.kept h1 G (row_apart h1 O3.out rF_rT)

/-- What a call of the answers' leaves, where it answers the error's number alone. -/
def RefPost1 (B : Nat) (w : World) (r : List Ty × Int) (e : Ending) (w' : World) : Prop :=
  ∃ v' M', e = .returned (.tuple #[v', .int .i64 r.2]) ∧ M'.map (·.1) = r.1 ∧ RowsX rT rF w' B v' M' ∧ Below w.heap.size w w'

theorem RefPost1.same {B : Nat} {w w1 : World} {v : Value} {L : List Tx} {r : List Ty × Int} (h : RowsX rT rF w B v L) (hb : Below w.heap.size w w1) (hr : r.1 = L.map (·.1)) : RefPost1 B w r (.returned (.tuple #[v, .int .i64 r.2])) w1 :=
  ⟨v, L, rfl, hr.symm, h.below hb, hb⟩

set_option maxHeartbeats 8000000 in
set_option maxRecDepth 100000 in
theorem refclose_any (B : Nat) (v : Value) (L : List Tx) (id : Int) (w : World) (h : RowsX rT rF w B v L) (hB : B ≤ w.heap.size) (hn : L.length ≤ 4096) (hO : (getT (L.map (·.1)) id).opn = true → (getT (L.map (·.1)) id).kind = 6) :
    Calls Try.prog 38 #[v, .int .i64 id] w (RefPost1 B w (closeP (L.map (·.1)) id)) := by
  have AT := Lib.hid (refget_any B v L id w h hn _ rfl)
  have CP := Lib.hid (show closeP (L.map (·.1)) id = if (getT (L.map (·.1)) id).opn = false then (L.map (·.1), 111) else ((L.map (·.1)).set id.toNat { getT (L.map (·.1)) id with opn := false }, 0) from rfl)
  rw [← getX_fst] at CP hO
  have SAME := Lib.hid (fun (r : List Ty × Int) w1 (hb : Below w.heap.size w w1) hr => RefPost1.same (r := r) h hb hr)
  generalize closeP (L.map (·.1)) id = r at *
  obtain ⟨k, ln, bs, sz, op, fds, Af, cf, hP⟩ := h.parts id
  have hfr := h.get id
  have PU := Lib.hid (fun (t : Nat) (ht : t < L.length) w1 (hb : Below w.heap.size w w1) (hfr' : w.ownsRow B rF 3 (.slice Af fds.length cf) fds.length (fds.flatMap Fd.cells)) => refput_any B v L t k ln bs sz false fds Af fds.length cf w1 (h.below hb) (row_below hfr' hb) (Nat.le_trans hB hb.size) hn ht)
  obtain ⟨A, c, rfl⟩ := row_form h.rows
  have b2 := fun w1 => (Below.refl (World.heap w1).size w1).alloc (Nat.le_refl _) (.cells #[.int .i64 k, .int .i64 ln, .int .i64 bs, .int .i64 sz, .bool op, .slice Af fds.length cf] rT)
  have BB := Lib.hid b2
  clear b2
  cases op with
  | false =>
    have HR := Lib.hid (CP.out.trans (if_pos (by rw [hP])))
    rw [hP] at AT
    clear CP h hP hO hfr PU
    cases h6 : (k != 6)
    all_goals
      go_enter Try.func38, Try.ntmps38
      go_wp2_with fail
      refine AT.out.mono ?_
      rintro e w1 ⟨rfl, hb1⟩
      have X2 := Lib.hid (Whole.made w1 rT #[.int .i64 k, .int .i64 ln, .int .i64 bs, .int .i64 sz, .bool false, .slice Af fds.length cf] _ rfl)
      have B2 := Lib.hid (hb1.trans ((BB.out w1).mono hb1.size))
      have x0 : (w1.alloc (.cells #[.int .i64 k, .int .i64 ln, .int .i64 bs, .int .i64 sz, .bool false, .slice Af fds.length cf] rT)).cell? ⟨w1.heap.size, 0, none⟩ = some (.int .i64 k) := X2.out.cell 0
      have x4 : (w1.alloc (.cells #[.int .i64 k, .int .i64 ln, .int .i64 bs, .int .i64 sz, .bool false, .slice Af fds.length cf] rT)).cell? ⟨w1.heap.size, 4, none⟩ = some (.bool false) := X2.out.cell 4
      clear hb1 AT X2
      go_wp2_with fail
      go_ret2
      have := SAME.out r _ B2.out (by rw [HR.out])
      rw [HR.out] at this ⊢
      exact this
  | true =>
    have HR := Lib.hid (CP.out.trans (if_neg (by rw [hP]; simp)))
    have hk : k = 6 := by
      have := hO (by rw [hP])
      rw [hP] at this
      exact this
    obtain ⟨t, rfl, ht, hX⟩ := getX_there (L := L) (id := id) (fun e => by rw [e] at hP; cases hP)
    have htI : (t : Int) < L.length := by omega
    rw [hP] at AT HR hfr
    have PU2 := Lib.hid (fun w1 (hb : Below w.heap.size w w1) => PU.out t ht w1 hb hfr)
    subst hk
    clear CP h hP hO hfr hX SAME PU
    go_enter Try.func38, Try.ntmps38
    go_wp2_with fail
    refine AT.out.mono ?_
    rintro e w1 ⟨rfl, hb1⟩
    have X2 := Lib.hid (Whole.made w1 rT #[.int .i64 6, .int .i64 ln, .int .i64 bs, .int .i64 sz, .bool true, .slice Af fds.length cf] _ rfl)
    have B2 := Lib.hid (hb1.trans ((BB.out w1).mono hb1.size))
    have B3 := Lib.hid (hb1.trans (((Below.refl w1.heap.size w1).alloc (Nat.le_refl _) (.cells #[.int .i64 6, .int .i64 ln, .int .i64 bs, .int .i64 sz, .bool false, .slice Af fds.length cf] rT)).mono hb1.size))
    have x0 : (w1.alloc (.cells #[.int .i64 6, .int .i64 ln, .int .i64 bs, .int .i64 sz, .bool true, .slice Af fds.length cf] rT)).cell? ⟨w1.heap.size, 0, none⟩ = some (.int .i64 6) := X2.out.cell 0
    have x4 : (w1.alloc (.cells #[.int .i64 6, .int .i64 ln, .int .i64 bs, .int .i64 sz, .bool true, .slice Af fds.length cf] rT)).cell? ⟨w1.heap.size, 4, none⟩ = some (.bool true) := X2.out.cell 4
    have z4 : (w1.alloc (.cells #[.int .i64 6, .int .i64 ln, .int .i64 bs, .int .i64 sz, .bool true, .slice Af fds.length cf] rT)).frozen? ⟨w1.heap.size, 4, none⟩ = false := X2.out.free 4
    clear hb1 AT
    go_wp2_with fail
    refine (PU2.out _ B3.out).mono ?_
    rintro e w4 ⟨v', rfl, hR4, hb4⟩
    have R4 := Lib.hid hR4
    have B4 := Lib.hid (B3.out.trans (hb4.mono B3.out.size))
    clear hR4 hb4 PU2 X2 B2
    go_wp2_with fail
    go_ret2
    exact ⟨v', _, by rw [HR.out]; rfl, by rw [HR.out]; simp [List.map_set], R4.out, B4.out⟩
end Go.Proofs.Ytabkldahgjicbaa
