/- Scopes: which object has a name. -/
import Derived.Test.YtpfoebnlngfebaaScpB
namespace Go.Proofs.Ytpfoebnlngfebaa
open Go.ChangeShapes Go.WideShapes Go.ChangeAt Go.RowKit
set_option linter.unusedVariables false
set_option linter.unusedSimpArgs false

set_option maxHeartbeats 4000000 in
set_option maxRecDepth 100000 in
theorem pred_name (s : ByteArray) (q : Nat) (nm : ByteArray) (kd ty lv nn md : Int) (ou : Bool) (ps : List (Int × Bool)) (Ap : Option Addr) (cp : Nat) (w : World) (hc : w.cell? ⟨q, 0, none⟩ = some (.string s)) :
    Calls Try.prog 40 #[.agg #[.string nm, .int .i64 kd, .int .i64 ty, .int .i64 lv, .int .i32 nn, .int .i64 md, .bool ou, .slice Ap ps.length cp], .pointer (some ⟨q, 0, none⟩)] w fun e w' => e = .returned (.bool (nameIs s ⟨nm, kd, ty, lv, nn, md, ou, ps⟩)) ∧ Below w.heap.size w w' := by
  have hlt := block_lt hc
  have BA := Lib.hid ((Below.refl w.heap.size w).alloc (Nat.le_refl _) (.cells #[.string nm, .int .i64 kd, .int .i64 ty, .int .i64 lv, .int .i32 nn, .int .i64 md, .bool ou, .slice Ap ps.length cp] pO))
  have c1 : (w.alloc (.cells #[.string nm, .int .i64 kd, .int .i64 ty, .int .i64 lv, .int .i32 nn, .int .i64 md, .bool ou, .slice Ap ps.length cp] pO)).cell? ⟨q, 0, none⟩ = some (.string s) := (BA.out.cell (p := ⟨q, 0, none⟩) hlt).trans hc
  have Q := Lib.hid (Whole.made w pO #[.string nm, .int .i64 kd, .int .i64 ty, .int .i64 lv, .int .i32 nn, .int .i64 md, .bool ou, .slice Ap ps.length cp] _ rfl)
  have c2 : (w.alloc (.cells #[.string nm, .int .i64 kd, .int .i64 ty, .int .i64 lv, .int .i32 nn, .int .i64 md, .bool ou, .slice Ap ps.length cp] pO)).cell? ⟨w.heap.size, 0, none⟩ = some (.string nm) := Q.out.cell 0
  clear hc hlt
  go_enter Try.func40, Try.ntmps40
  go_wp2_with fail
  go_ret
  exact ⟨rfl, BA.out⟩

set_option maxHeartbeats 8000000 in
set_option maxRecDepth 100000 in
theorem find_name (s : ByteArray) (q : Nat) (v : Value) (B B' : Nat) (l : List Ox) (w : World) (h : RowO pO w B B' v l) (hn : l.length ≤ maxLen) (hc : w.cell? ⟨q, 0, none⟩ = some (.string s)) :
    Calls Try.prog 39 #[v, .func (.func 40) #[] #[.pointer (some ⟨q, 0, none⟩)]] w fun e w' => e = .returned (.int .i64 (idxF (nameIs s) (l.map (·.1)) 0)) ∧ Below w.heap.size w w' := by
  unfold maxLen at hn
  obtain ⟨A, c, rfl⟩ := row_form h.row
  have H := Lib.hid h
  have hlt := block_lt hc
  have HC := Lib.hid (fun W (hb : Below w.heap.size w W) => (hb.cell (p := ⟨q, 0, none⟩) hlt).trans hc)
  have RR := Lib.hid (show idxF (nameIs s) ((l.map (·.1)).drop 0) 0 = idxF (nameIs s) (l.map (·.1)) 0 from rfl)
  clear h hc hlt
  generalize idxF (nameIs s) (l.map (·.1)) 0 = r at *
  go_enter Try.func39, Try.ntmps39
  go_wp2_with fail
  go_loopw [5, 8] (fun _ i wr => ∃ t : Nat, t ≤ l.length ∧ i = .int .i64 t ∧ Below w.heap.size w wr ∧ idxF (nameIs s) ((l.map (·.1)).drop t) t = r) (fun _ i _ => l.length - (intOf i).toNat)
  case atStart => exact ⟨0, Nat.zero_le _, rfl, Below.refl _ _, RR.out⟩
  case round =>
    obtain ⟨t, ht, rfl, hb, hr⟩ := hrel
    have BW := Lib.hid hb
    have HR := Lib.hid hr
    clear hb hr RR
    by_cases hlt : t < l.length
    · have hI : (t : Int) < l.length := by omega
      obtain ⟨g, rfl, hcap, _, hgl, nm, kd, ty, lv, nn, md, ou, ps, Ap, cp, hX, _, hg⟩ := (H.out.below BW.out).at hlt
      have E := HR.out.symm.trans (idxF_at (nameIs s) (l.map (·.1)) t zO (by rw [List.length_map]; exact hlt))
      rw [show (l.map (·.1)).getD t zO = (l.getD t zX).1 by simp [List.getD, hlt], hX] at E
      have E2 := Lib.hid E
      have PF := Lib.hid (pred_name s q nm kd ty lv nn md ou ps Ap cp wr (HC.out wr BW.out))
      have x0 : wr.cell? ⟨g, t * 8, none⟩ = some (.string nm) := (hg 0 _ rfl).1
      have x1 : wr.cell? ⟨g, t * 8 + 1, none⟩ = some (.int .i64 kd) := (hg 1 _ rfl).1
      have x2 : wr.cell? ⟨g, t * 8 + 2, none⟩ = some (.int .i64 ty) := (hg 2 _ rfl).1
      have x3 : wr.cell? ⟨g, t * 8 + 3, none⟩ = some (.int .i64 lv) := (hg 3 _ rfl).1
      have x4 : wr.cell? ⟨g, t * 8 + 4, none⟩ = some (.int .i32 nn) := (hg 4 _ rfl).1
      have x5 : wr.cell? ⟨g, t * 8 + 5, none⟩ = some (.int .i64 md) := (hg 5 _ rfl).1
      have x6 : wr.cell? ⟨g, t * 8 + 6, none⟩ = some (.bool ou) := (hg 6 _ rfl).1
      have x7 : wr.cell? ⟨g, t * 8 + 7, none⟩ = some (.slice Ap ps.length cp) := (hg 7 _ rfl).1
      clear hg HR E hX
      go_wp2_with fail
      refine PF.out.mono ?_
      rintro e w2 ⟨rfl, hb2⟩
      have B2 := Lib.hid (BW.out.trans (hb2.mono BW.out.size))
      clear hb2 PF x0 x1 x2 x3 x4 x5 x6 x7
      cases hq : nameIs s ⟨nm, kd, ty, lv, nn, md, ou, ps⟩ with
      | true =>
        have HR2 := Lib.hid (E2.out.trans (if_pos hq))
        clear E2 hq
        go_wp2_with fail
        go_ret
        exact ⟨by rw [HR2.out]; rfl, B2.out⟩
      | false =>
        have HR2 := Lib.hid (E2.out.trans (if_neg (by rw [hq]; decide)))
        clear E2 hq
        go_wp2_with fail
        go_roundw
        case rel => exact ⟨t + 1, by omega, by go_num, B2.out, HR2.out.symm⟩
        case measure => simp [intOf]; omega
    · have hI : ¬ (t : Int) < l.length := by omega
      have hR2 : r = -1 := by
        rw [← HR.out, List.drop_of_length_le (by rw [List.length_map]; omega)]
        rfl
      clear HR
      subst hR2
      go_wp2_with fail
      go_ret
      exact ⟨rfl, BW.out⟩

set_option maxHeartbeats 4000000 in
set_option maxRecDepth 100000 in
/-- Which object has a name. -/
theorem indexof_any (s : ByteArray) (v : Value) (B B' : Nat) (l : List Ox) (w : World) (h : RowO pO w B B' v l) (hn : l.length ≤ maxLen) :
    Calls Try.prog 27 #[v, .string s] w fun e w' => e = .returned (.int .i64 (idxF (nameIs s) (l.map (·.1)) 0)) ∧ Below w.heap.size w w' := by
  have BA := Lib.hid ((Below.refl w.heap.size w).alloc (Nat.le_refl _) (.cells #[.string s] 9))
  have FF := Lib.hid (find_name s w.heap.size v B B' l (w.alloc (.cells #[.string s] 9)) (h.below BA.out) hn ((Whole.made w 9 #[.string s] _ rfl).cell 0))
  generalize idxF (nameIs s) (l.map (·.1)) 0 = r at *
  clear h
  go_enter Try.func27, Try.ntmps27
  go_wp2_with fail
  refine FF.out.mono ?_
  rintro e w2 ⟨rfl, hb2⟩
  have B2 := Lib.hid (BA.out.trans (hb2.mono BA.out.size))
  clear hb2 FF
  go_wp2_with fail
  go_ret
  exact ⟨rfl, B2.out⟩
end Go.Proofs.Ytpfoebnlngfebaa
