/- Types: which field has a name; the first type for which something holds. -/
import Derived.Test.YtabkldahgjicbaaTypC
namespace Go.Proofs.Ytabkldahgjicbaa
open Go.ChangeShapes Go.WideShapes Go.ChangeAt Go.RowKit
set_option linter.unusedVariables false
set_option linter.unusedSimpArgs false

/-- The first one for which it holds, from k on; -1. -/
def idxF {α : Type} (q : α → Bool) : List α → Nat → Int
  | [], _ => -1
  | x :: l, k => if q x then k else idxF q l (k + 1)

theorem idxF_cons {α : Type} (q : α → Bool) (x : α) (l : List α) (k : Nat) : idxF q (x :: l) k = if q x then (k : Int) else idxF q l (k + 1) := rfl

/-- From a place within the list. -/
theorem idxF_at {α : Type} (q : α → Bool) (l : List α) (t : Nat) (d : α) (ht : t < l.length) : idxF q (l.drop t) t = if q (l.getD t d) then (t : Int) else idxF q (l.drop (t + 1)) (t + 1) := by
  have e : l.getD t d = l[t] := by rw [List.getD_eq_getElem?_getD, List.getElem?_eq_getElem ht]; rfl
  rw [e, List.drop_eq_getElem_cons ht, idxF_cons]

theorem idxF_bound {α : Type} (q : α → Bool) : ∀ (l : List α) (k : Nat), idxF q l k = -1 ∨ ((k : Int) ≤ idxF q l k ∧ idxF q l k < k + l.length)
  | [], k => .inl rfl
  | x :: l, k => by
    rw [idxF_cons]
    split
    · right
      simp
      omega
    · rcases idxF_bound q l (k + 1) with h | ⟨h1, h2⟩
      · exact .inl h
      · right
        simp
        omega

def nameIs (s : ByteArray) (f : Fd) : Bool := f.name.toList == s.toList

set_option maxHeartbeats 4000000 in
set_option maxRecDepth 100000 in
theorem pred_field (s : ByteArray) (q : Nat) (f : Fd) (w : World) (hc : w.cell? ⟨q, 0, none⟩ = some (.string s)) :
    Calls Try.prog 42 #[.agg #[.string f.name, .int .i64 f.ty, .int .i64 f.off], .pointer (some ⟨q, 0, none⟩)] w fun e w' => e = .returned (.bool (nameIs s f)) ∧ Below w.heap.size w w' := by
  obtain ⟨nm, ty, off⟩ := f
  have hlt := block_lt hc
  have BA := Lib.hid ((Below.refl w.heap.size w).alloc (Nat.le_refl _) (.cells #[.string nm, .int .i64 ty, .int .i64 off] pF))
  have c1 : (w.alloc (.cells #[.string nm, .int .i64 ty, .int .i64 off] pF)).cell? ⟨q, 0, none⟩ = some (.string s) := (BA.out.cell (p := ⟨q, 0, none⟩) hlt).trans hc
  have Q := Lib.hid (Whole.made w pF #[.string nm, .int .i64 ty, .int .i64 off] _ rfl)
  have c2 : (w.alloc (.cells #[.string nm, .int .i64 ty, .int .i64 off] pF)).cell? ⟨w.heap.size, 0, none⟩ = some (.string nm) := Q.out.cell 0
  clear hc hlt
  go_enter Try.func42, Try.ntmps42
  go_wp2_with fail
  go_ret
  exact ⟨rfl, BA.out⟩

set_option maxHeartbeats 4000000 in
set_option maxRecDepth 100000 in
theorem find_field (s : ByteArray) (q : Nat) (v : Value) (B : Nat) (fds : List Fd) (w : World) (h : w.ownsRow B pF 3 v fds.length (fds.flatMap Fd.cells)) (hn : fds.length ≤ 1000000) (hc : w.cell? ⟨q, 0, none⟩ = some (.string s)) :
    Calls Try.prog 41 #[v, .func (.func 42) #[] #[.pointer (some ⟨q, 0, none⟩)]] w fun e w' => e = .returned (.int .i64 (idxF (nameIs s) fds 0)) ∧ Below w.heap.size w w' := by
  obtain ⟨A, c, rfl⟩ := row_form h
  have H := Lib.hid h
  have hlt := block_lt hc
  have HC := Lib.hid (fun W (hb : Below w.heap.size w W) => (hb.cell (p := ⟨q, 0, none⟩) hlt).trans hc)
  have RR := Lib.hid (show idxF (nameIs s) (fds.drop 0) 0 = idxF (nameIs s) fds 0 from rfl)
  clear h hc hlt
  generalize idxF (nameIs s) fds 0 = r at *
  go_enter Try.func41, Try.ntmps41
  go_wp2_with fail
  go_loopw [5, 8] (fun _ i wr => ∃ t : Nat, t ≤ fds.length ∧ i = .int .i64 t ∧ Below w.heap.size w wr ∧ idxF (nameIs s) (fds.drop t) t = r) (fun _ i _ => fds.length - (intOf i).toNat)
  case atStart => exact ⟨0, Nat.zero_le _, rfl, Below.refl _ _, RR.out⟩
  case round =>
    obtain ⟨t, ht, rfl, hb, hr⟩ := hrel
    have BW := Lib.hid hb
    have HR := Lib.hid hr
    clear hb hr RR
    by_cases hlt : t < fds.length
    · have hI : (t : Int) < fds.length := by omega
      obtain ⟨hcap, g, rfl, _, hgl, hg⟩ := row_cell (f := Fd.cells) (fun _ => rfl) zF H.out rfl hlt
      have E := Lib.hid (HR.out.symm.trans (idxF_at (nameIs s) fds t zF hlt))
      generalize fds.getD t zF = f at *
      have PF := Lib.hid (pred_field s q f wr (HC.out wr BW.out))
      have k : ∀ i, wr.cell? ⟨g, i, none⟩ = w.cell? ⟨g, i, none⟩ := fun i => BW.out.cell (p := ⟨g, i, none⟩) hgl
      have x0 : wr.cell? ⟨g, t * 3, none⟩ = some (.string f.name) := (k _).trans (hg 0 (by decide)).1
      have x1 : wr.cell? ⟨g, t * 3 + 1, none⟩ = some (.int .i64 f.ty) := (k _).trans (hg 1 (by decide)).1
      have x2 : wr.cell? ⟨g, t * 3 + 2, none⟩ = some (.int .i64 f.off) := (k _).trans (hg 2 (by decide)).1
      clear k hg HR
      go_wp2_with fail
      refine PF.out.mono ?_
      rintro e w2 ⟨rfl, hb2⟩
      have B2 := Lib.hid (BW.out.trans (hb2.mono BW.out.size))
      clear hb2 PF x0 x1 x2
      cases hq : nameIs s f with
      | true =>
        have HR2 := Lib.hid (E.out.trans (if_pos hq))
        clear E hq
        go_wp2_with fail
        go_ret
        exact ⟨by rw [HR2.out]; rfl, B2.out⟩
      | false =>
        have HR2 := Lib.hid (E.out.trans (if_neg (by rw [hq]; decide)))
        clear E hq
        go_wp2_with fail
        go_roundw
        case rel => exact ⟨t + 1, by omega, by go_num, B2.out, HR2.out.symm⟩
        case measure => simp [intOf]; omega
    · have hI : ¬ (t : Int) < fds.length := by omega
      have hR2 : r = -1 := by
        rw [← HR.out, List.drop_of_length_le (by omega)]
        rfl
      clear HR
      subst hR2
      go_wp2_with fail
      go_ret
      exact ⟨rfl, BW.out⟩

set_option maxHeartbeats 4000000 in
set_option maxRecDepth 100000 in
/-- Which field has a name. -/
theorem indexof_any (s : ByteArray) (v : Value) (B : Nat) (fds : List Fd) (w : World) (h : w.ownsRow B pF 3 v fds.length (fds.flatMap Fd.cells)) (hn : fds.length ≤ 1000000) :
    Calls Try.prog 27 #[v, .string s] w fun e w' => e = .returned (.int .i64 (idxF (nameIs s) fds 0)) ∧ Below w.heap.size w w' := by
  have BA := Lib.hid ((Below.refl w.heap.size w).alloc (Nat.le_refl _) (.cells #[.string s] 9))
  have FF := Lib.hid (find_field s w.heap.size v B fds (w.alloc (.cells #[.string s] 9)) (row_below h BA.out) hn ((Whole.made w 9 #[.string s] _ rfl).cell 0))
  generalize idxF (nameIs s) fds 0 = r at *
  clear h
  go_enter Try.func27, Try.ntmps27
  go_wp2_with fail
  refine FF.out.mono ?_
  rintro e w2 ⟨rfl, hb2⟩
  have B2 := Lib.hid (BA.out.trans (hb2.mono BA.out.size))
  clear hb2 FF
  go_wp2_with fail
  go_ret
  exact ⟨rfl, B2.out⟩

/-- A pointer to this record. -/
def ptrTo (b : Int) (x : Ty) : Bool := x.kind == 7 && x.base == b

set_option maxHeartbeats 4000000 in
set_option maxRecDepth 100000 in
theorem pred_ptr (b : Int) (q : Nat) (k ln bs sz : Int) (op : Bool) (fds : List Fd) (Af : Option Addr) (m cf : Nat) (w : World) (hc : w.cell? ⟨q, 0, none⟩ = some (.int .i64 b)) :
    Calls Try.prog 49 #[.agg #[.int .i64 k, .int .i64 ln, .int .i64 bs, .int .i64 sz, .bool op, .slice Af m cf], .pointer (some ⟨q, 0, none⟩)] w fun e w' => e = .returned (.bool (ptrTo b ⟨k, ln, bs, sz, op, fds⟩)) ∧ Below w.heap.size w w' := by
  have hlt := block_lt hc
  have BA := Lib.hid ((Below.refl w.heap.size w).alloc (Nat.le_refl _) (.cells #[.int .i64 k, .int .i64 ln, .int .i64 bs, .int .i64 sz, .bool op, .slice Af m cf] pT))
  have c1 : (w.alloc (.cells #[.int .i64 k, .int .i64 ln, .int .i64 bs, .int .i64 sz, .bool op, .slice Af m cf] pT)).cell? ⟨q, 0, none⟩ = some (.int .i64 b) := (BA.out.cell (p := ⟨q, 0, none⟩) hlt).trans hc
  have Q := Lib.hid (Whole.made w pT #[.int .i64 k, .int .i64 ln, .int .i64 bs, .int .i64 sz, .bool op, .slice Af m cf] _ rfl)
  have c2 : (w.alloc (.cells #[.int .i64 k, .int .i64 ln, .int .i64 bs, .int .i64 sz, .bool op, .slice Af m cf] pT)).cell? ⟨w.heap.size, 0, none⟩ = some (.int .i64 k) := Q.out.cell 0
  have c3 : (w.alloc (.cells #[.int .i64 k, .int .i64 ln, .int .i64 bs, .int .i64 sz, .bool op, .slice Af m cf] pT)).cell? ⟨w.heap.size, 2, none⟩ = some (.int .i64 bs) := Q.out.cell 2
  have PT := Lib.hid (show ptrTo b ⟨k, ln, bs, sz, op, fds⟩ = (k == 7 && bs == b) from rfl)
  generalize ptrTo b ⟨k, ln, bs, sz, op, fds⟩ = r at *
  clear hc hlt Q
  cases h7 : (k == 7)
  all_goals
    rw [h7] at PT
    go_enter Try.func49, Try.ntmps49
    go_wp2_with fail
    go_ret
    exact ⟨by rw [PT.out]; rfl, BA.out⟩

set_option maxHeartbeats 4000000 in
set_option maxRecDepth 100000 in
theorem find_ptr (b : Int) (q : Nat) (v : Value) (B : Nat) (L : List Tx) (w : World) (h : RowsX pT pF w B v L) (hn : L.length ≤ 4096) (hc : w.cell? ⟨q, 0, none⟩ = some (.int .i64 b)) :
    Calls Try.prog 48 #[v, .func (.func 49) #[] #[.pointer (some ⟨q, 0, none⟩)]] w fun e w' => e = .returned (.int .i64 (idxF (ptrTo b) (L.map (·.1)) 0)) ∧ Below w.heap.size w w' := by
  obtain ⟨A, c, rfl⟩ := row_form h.rows
  have H := Lib.hid h
  have hlt := block_lt hc
  have HC := Lib.hid (fun W (hb : Below w.heap.size w W) => (hb.cell (p := ⟨q, 0, none⟩) hlt).trans hc)
  have RR := Lib.hid (show idxF (ptrTo b) ((L.map (·.1)).drop 0) 0 = idxF (ptrTo b) (L.map (·.1)) 0 from rfl)
  clear h hc hlt
  generalize idxF (ptrTo b) (L.map (·.1)) 0 = r at *
  go_enter Try.func48, Try.ntmps48
  go_wp2_with fail
  go_loopw [5, 8] (fun _ i wr => ∃ t : Nat, t ≤ L.length ∧ i = .int .i64 t ∧ Below w.heap.size w wr ∧ idxF (ptrTo b) ((L.map (·.1)).drop t) t = r) (fun _ i _ => L.length - (intOf i).toNat)
  case atStart => exact ⟨0, Nat.zero_le _, rfl, Below.refl _ _, RR.out⟩
  case round =>
    obtain ⟨t, ht, rfl, hb, hr⟩ := hrel
    have BW := Lib.hid hb
    have HR := Lib.hid hr
    clear hb hr RR
    by_cases hlt : t < L.length
    · have hI : (t : Int) < L.length := by omega
      obtain ⟨hcap, g, rfl, _, hgl, hg⟩ := row_cell (f := txCells) (fun _ => rfl) zX H.out.rows rfl hlt
      have E := HR.out.symm.trans (idxF_at (ptrTo b) (L.map (·.1)) t zT (by rw [List.length_map]; exact hlt))
      rw [show (L.map (·.1)).getD t zT = (L.getD t zX).1 by simp [List.getD, hlt]] at E
      have hP := H.out.parts t
      rw [getX_in hlt] at hP
      obtain ⟨k, ln, bs, sz, op, fds, Af, cf, hX⟩ := hP
      rw [hX] at E hg
      have E2 := Lib.hid E
      have PF := Lib.hid (pred_ptr b q k ln bs sz op fds Af fds.length cf wr (HC.out wr BW.out))
      have kk : ∀ i, wr.cell? ⟨g, i, none⟩ = w.cell? ⟨g, i, none⟩ := fun i => BW.out.cell (p := ⟨g, i, none⟩) hgl
      have x0 : wr.cell? ⟨g, t * 6, none⟩ = some (.int .i64 k) := (kk _).trans (hg 0 (by decide)).1
      have x1 : wr.cell? ⟨g, t * 6 + 1, none⟩ = some (.int .i64 ln) := (kk _).trans (hg 1 (by decide)).1
      have x2 : wr.cell? ⟨g, t * 6 + 2, none⟩ = some (.int .i64 bs) := (kk _).trans (hg 2 (by decide)).1
      have x3 : wr.cell? ⟨g, t * 6 + 3, none⟩ = some (.int .i64 sz) := (kk _).trans (hg 3 (by decide)).1
      have x4 : wr.cell? ⟨g, t * 6 + 4, none⟩ = some (.bool op) := (kk _).trans (hg 4 (by decide)).1
      have x5 : wr.cell? ⟨g, t * 6 + 5, none⟩ = some (.slice Af fds.length cf) := (kk _).trans (hg 5 (by decide)).1
      clear kk hg HR E hX
      go_wp2_with fail
      refine PF.out.mono ?_
      rintro e w2 ⟨rfl, hb2⟩
      have B2 := Lib.hid (BW.out.trans (hb2.mono BW.out.size))
      clear hb2 PF x0 x1 x2 x3 x4 x5
      cases hq : ptrTo b ⟨k, ln, bs, sz, op, fds⟩ with
      | true =>
        have HR2 := Lib.hid (E2.out.trans (if_pos hq))
        clear E2 hq
        go_wp2_with fail
        go_ret
        exact ⟨by rw [HR2.out]; rfl, B2.out⟩
      | false =>
        have HR2 := Lib.hid (E2.out.trans (if_neg (by rw [hq]; decide)))
        clear E2 hq
        go_wp2_with fail
        go_roundw
        case rel => exact ⟨t + 1, by omega, by go_num, B2.out, HR2.out.symm⟩
        case measure => simp [intOf]; omega
    · have hI : ¬ (t : Int) < L.length := by omega
      have hR2 : r = -1 := by
        rw [← HR.out, List.drop_of_length_le (by rw [List.length_map]; omega)]
        rfl
      clear HR
      subst hR2
      go_wp2_with fail
      go_ret
      exact ⟨rfl, BW.out⟩
end Go.Proofs.Ytabkldahgjicbaa
