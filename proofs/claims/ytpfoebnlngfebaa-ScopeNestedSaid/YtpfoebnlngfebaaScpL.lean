/- Scopes: the answers' scopes in memory; at, Open. -/
import Derived.Test.YtpfoebnlngfebaaScpK
namespace Go.Proofs.Ytpfoebnlngfebaa
open Go.ChangeShapes Go.WideShapes Go.ChangeAt Go.RowKit
set_option linter.unusedVariables false
set_option linter.unusedSimpArgs false

/-- The answers' scopes in memory. -/
structure RefIn (w : World) (B : Nat) (AL : Option Addr) (cL : Nat) (lx : List Ox) (AM : Option Addr) (cM : Nat) (mx : List (Value × List Ox)) (s : Stt) : Prop where
  rows : RowO rO w B B (.slice AL s.L.length cL) lx
  same : lx.map (·.1) = s.L
  mods : w.ownsRow B rL 1 (.slice AM s.mods.length cM) s.mods.length (mx.map (·.1))
  mrows : ∀ m ∈ mx, RowO rO w B B m.1 m.2
  msame : mx.map (fun m => m.2.map (·.1)) = s.mods

theorem RefIn.len {w : World} {B : Nat} {AL : Option Addr} {cL : Nat} {lx : List Ox} {AM : Option Addr} {cM : Nat} {mx : List (Value × List Ox)} {s : Stt} (h : RefIn w B AL cL lx AM cM mx s) : lx.length = s.L.length ∧ mx.length = s.mods.length := by
  constructor
  · rw [← h.same, List.length_map]
  · rw [← h.msame, List.length_map]

theorem RefIn.below {w w' : World} {B : Nat} {AL : Option Addr} {cL : Nat} {lx : List Ox} {AM : Option Addr} {cM : Nat} {mx : List (Value × List Ox)} {s : Stt} (h : RefIn w B AL cL lx AM cM mx s) (hb : Below w.heap.size w w') : RefIn w' B AL cL lx AM cM mx s :=
  ⟨h.rows.below hb, h.same, row_below h.mods hb, fun m hm => (h.mrows m hm).below hb, h.msame⟩

theorem TabAt.keepRef {w w' : World} {B : Nat} {T : Tb} {s' : Stt} (h : TabAt w B T s') (k : KeptS (Own T) w w') {AL : Option Addr} {cL : Nat} {lx : List Ox} {AM : Option Addr} {cM : Nat} {mx : List (Value × List Ox)} {s : Stt} (hr : RefIn w B AL cL lx AM cM mx s) : RefIn w' B AL cL lx AM cM mx s :=
  ⟨h.keepRow k hr.rows (h.ne hr.rows.row (by decide) (by decide) (by decide)), hr.same, k.row hr.mods (h.ne hr.mods (by decide) (by decide) (by decide)), fun m hm => h.keepRow k (hr.mrows m hm) (h.ne (hr.mrows m hm).row (by decide) (by decide) (by decide)), hr.msame⟩

/-- The answers' scopes that a call returns. -/
def RefPost (B : Nat) (w : World) (r : Stt × Int) (e : Ending) (w' : World) : Prop :=
  ∃ AL cL lx AM cM mx, e = .returned (.tuple #[.agg #[.slice AL r.1.L.length cL, .int .i64 r.1.lev, .slice AM r.1.mods.length cM], .int .i64 r.2]) ∧ RefIn w' B AL cL lx AM cM mx r.1 ∧ Below w.heap.size w w'

set_option maxHeartbeats 16000000 in
set_option maxRecDepth 100000 in
theorem at_any (B : Nat) (AL : Option Addr) (cL : Nat) (lx : List Ox) (AM : Option Addr) (cM : Nat) (mx : List (Value × List Ox)) (s : Stt) (n : Int) (nm : ByteArray) (w : World) (h : RefIn w B AL cL lx AM cM mx s) (hlen : s.L.length ≤ 1000) :
    Calls Try.prog 28 #[.agg #[.slice AL s.L.length cL, .int .i64 s.lev, .slice AM s.mods.length cM], .int .i64 n, .string nm] w fun e w' => e = .returned (.int .i64 (idxF (atP n nm) s.L 0)) ∧ Below w.heap.size w w' := by
  have b0 := (Below.refl w.heap.size w).alloc (Nat.le_refl _) (.cells #[.slice AL s.L.length cL, .int .i64 s.lev, .slice AM s.mods.length cM] rS)
  have BV := Lib.hid b0
  have XV := Lib.hid (Whole.made w rS #[.slice AL s.L.length cL, .int .i64 s.lev, .slice AM s.mods.length cM] _ rfl)
  have HR := Lib.hid (h.below b0).rows
  have HS := Lib.hid h.same
  have HL := Lib.hid h.len.1
  have hl1 := h.len.1
  have RR := Lib.hid (show idxF (atP n nm) (s.L.drop 0) 0 = idxF (atP n nm) s.L 0 from rfl)
  clear h b0
  generalize idxF (atP n nm) s.L 0 = r at *
  go_enter Try.func28, Try.ntmps28
  go_wp2_with fail
  generalize (w.alloc (.cells #[.slice AL s.L.length cL, .int .i64 s.lev, .slice AM s.mods.length cM] rS)) = V at *
  go_loopw [7] (fun i wr => ∃ t : Nat, t ≤ s.L.length ∧ i = .int .i64 t ∧ Below V.heap.size V wr ∧ idxF (atP n nm) (s.L.drop t) t = r) (fun i _ => s.L.length - (intOf i).toNat)
  case atStart => exact ⟨0, Nat.zero_le _, rfl, Below.refl _ _, RR.out⟩
  case round =>
    obtain ⟨t, ht, rfl, hb, hr⟩ := hrel
    have BW := Lib.hid hb
    have HRR := Lib.hid hr
    have b1 : wr.cell? ⟨w.heap.size, 0, none⟩ = some (.slice AL s.L.length cL) := (XV.out.below hb XV.out.lt).cell 0
    clear hb hr RR
    by_cases hlt : t < s.L.length
    · have hI : (t : Int) < s.L.length := by omega
      have hrow := HR.out.below BW.out
      rw [← HL.out] at hrow
      obtain ⟨g, rfl, hcap, _, hgl, nm', kd, ty, lv, nn, md, ou, ps, Ap, cp, hX, hpar, hg⟩ := hrow.at (show t < lx.length by omega)
      have E := HRR.out.symm.trans (idxF_at (atP n nm) s.L t zO hlt)
      rw [← HS.out] at E
      have hlx : t < lx.length := by omega
      rw [show (lx.map (·.1)).getD t zO = (lx.getD t zX).1 by simp [List.getD, hlx], hX, HS.out] at E
      have E2 := Lib.hid E
      have x0 : wr.cell? ⟨g, t * 8, none⟩ = some (.string nm') := (hg 0 _ rfl).1
      have x3 : wr.cell? ⟨g, t * 8 + 3, none⟩ = some (.int .i64 lv) := (hg 3 _ rfl).1
      clear hg hrow HRR E hX hpar
      have PA := Lib.hid (show atP n nm ⟨nm', kd, ty, lv, nn, md, ou, ps⟩ = (lv == n && (nm'.toList == nm.toList)) from rfl)
      cases h1 : (lv == n) with
      | false =>
        have HR2 := Lib.hid (E2.out.trans (if_neg (by rw [PA.out, h1]; simp)))
        clear E2 PA
        go_wp2_with fail
        go_roundw
        case rel => exact ⟨t + 1, by omega, by go_num, BW.out, HR2.out.symm⟩
        case measure => simp [intOf]; omega
      | true =>
        cases h2 : (nm'.toList == nm.toList) with
        | false =>
          have HR2 := Lib.hid (E2.out.trans (if_neg (by rw [PA.out, h1, h2]; simp)))
          clear E2 PA
          go_wp2_with fail
          go_roundw
          case rel => exact ⟨t + 1, by omega, by go_num, BW.out, HR2.out.symm⟩
          case measure => simp [intOf]; omega
        | true =>
          have HR2 := Lib.hid (E2.out.trans (if_pos (by rw [PA.out, h1, h2]; rfl)))
          clear E2 PA
          go_wp2_with fail
          go_ret
          exact ⟨by rw [HR2.out]; rfl, BV.out.trans (BW.out.mono BV.out.size)⟩
    · have hI : ¬ (t : Int) < s.L.length := by omega
      have hR2 : r = -1 := by
        rw [← HRR.out, List.drop_of_length_le (by omega)]
        rfl
      clear HRR
      subst hR2
      go_wp2_with fail
      go_ret
      exact ⟨rfl, BV.out.trans (BW.out.mono BV.out.size)⟩

set_option maxHeartbeats 16000000 in
set_option maxRecDepth 100000 in
theorem refopen_any (B : Nat) (AL : Option Addr) (cL : Nat) (lx : List Ox) (AM : Option Addr) (cM : Nat) (mx : List (Value × List Ox)) (s : Stt) (w : World) (h : RefIn w B AL cL lx AM cM mx s) (hl : s.lev ≤ 64) :
    Calls Try.prog 29 #[.agg #[.slice AL s.L.length cL, .int .i64 s.lev, .slice AM s.mods.length cM]] w (RefPost B w (openP s)) := by
  unfold RefPost
  by_cases h64 : 64 ≤ s.lev
  · have OP : openP s = (s, 240) := if_pos h64
    rw [OP]
    have d : decide ((64 : Int) ≤ s.lev) = true := decide_eq_true (by omega)
    have b1 := (Below.refl w.heap.size w).alloc (Nat.le_refl _) (.cells #[.slice AL s.L.length cL, .int .i64 s.lev, .slice AM s.mods.length cM] rS)
    have b2 := b1.alloc b1.size (.cells #[.slice AL s.L.length cL, .int .i64 s.lev, .slice AM s.mods.length cM] rS)
    have BV := Lib.hid b2
    have HV := Lib.hid (h.below b2)
    have X2 := Lib.hid (Whole.made (w.alloc (.cells #[.slice AL s.L.length cL, .int .i64 s.lev, .slice AM s.mods.length cM] rS)) rS #[.slice AL s.L.length cL, .int .i64 s.lev, .slice AM s.mods.length cM] (w.heap.size + 1) (by simp))
    clear h b1 b2 OP
    go_enter Try.func29, Try.ntmps29
    go_wp2_with fail
    have x0 : ((w.alloc (.cells #[.slice AL s.L.length cL, .int .i64 s.lev, .slice AM s.mods.length cM] rS)).alloc (.cells #[.slice AL s.L.length cL, .int .i64 s.lev, .slice AM s.mods.length cM] rS)).cell? ⟨w.heap.size + 1, 0, none⟩ = some (.slice AL s.L.length cL) := X2.out.cell 0
    have x1 : ((w.alloc (.cells #[.slice AL s.L.length cL, .int .i64 s.lev, .slice AM s.mods.length cM] rS)).alloc (.cells #[.slice AL s.L.length cL, .int .i64 s.lev, .slice AM s.mods.length cM] rS)).cell? ⟨w.heap.size + 1, 1, none⟩ = some (.int .i64 s.lev) := X2.out.cell 1
    have x2 : ((w.alloc (.cells #[.slice AL s.L.length cL, .int .i64 s.lev, .slice AM s.mods.length cM] rS)).alloc (.cells #[.slice AL s.L.length cL, .int .i64 s.lev, .slice AM s.mods.length cM] rS)).cell? ⟨w.heap.size + 1, 2, none⟩ = some (.slice AM s.mods.length cM) := X2.out.cell 2
    refine bodyPost_ret (v := .tuple #[.agg #[.slice AL s.L.length cL, .int .i64 s.lev, .slice AM s.mods.length cM], .int .i64 240]) ?_ rfl ⟨_, _, _, _, _, _, rfl, HV.out, BV.out⟩
    clear X2 BV HV
    generalize ((w.alloc (.cells #[.slice AL s.L.length cL, .int .i64 s.lev, .slice AM s.mods.length cM] rS)).alloc (.cells #[.slice AL s.L.length cL, .int .i64 s.lev, .slice AM s.mods.length cM] rS)) = Z at *
    simp [results, Try.results29, go_sem, x0, x1, x2]
  · have OP : openP s = ({ s with lev := s.lev + 1 }, 0) := if_neg h64
    rw [OP]
    have d : decide ((64 : Int) ≤ s.lev) = false := decide_eq_false (by omega)
    have hlt : (s.lev : Int) < 64 := by omega
    have b1 := (Below.refl w.heap.size w).alloc (Nat.le_refl _) (.cells #[.slice AL s.L.length cL, .int .i64 (s.lev + 1), .slice AM s.mods.length cM] rS)
    have b2 := b1.alloc b1.size (.cells #[.slice AL s.L.length cL, .int .i64 (s.lev + 1), .slice AM s.mods.length cM] rS)
    have BV := Lib.hid b2
    have HV := Lib.hid (h.below b2)
    have HW := Lib.hid (show RefIn _ B AL cL lx AM cM mx { s with lev := s.lev + 1 } from ⟨HV.out.rows, HV.out.same, HV.out.mods, HV.out.mrows, HV.out.msame⟩)
    have X2 := Lib.hid (Whole.made (w.alloc (.cells #[.slice AL s.L.length cL, .int .i64 (s.lev + 1), .slice AM s.mods.length cM] rS)) rS #[.slice AL s.L.length cL, .int .i64 (s.lev + 1), .slice AM s.mods.length cM] (w.heap.size + 1) (by simp))
    clear h b1 b2 OP HV
    go_enter Try.func29, Try.ntmps29
    go_wp2_with fail
    have x0 : ((w.alloc (.cells #[.slice AL s.L.length cL, .int .i64 (s.lev + 1), .slice AM s.mods.length cM] rS)).alloc (.cells #[.slice AL s.L.length cL, .int .i64 (s.lev + 1), .slice AM s.mods.length cM] rS)).cell? ⟨w.heap.size + 1, 0, none⟩ = some (.slice AL s.L.length cL) := X2.out.cell 0
    have x1 : ((w.alloc (.cells #[.slice AL s.L.length cL, .int .i64 (s.lev + 1), .slice AM s.mods.length cM] rS)).alloc (.cells #[.slice AL s.L.length cL, .int .i64 (s.lev + 1), .slice AM s.mods.length cM] rS)).cell? ⟨w.heap.size + 1, 1, none⟩ = some (.int .i64 (s.lev + 1)) := X2.out.cell 1
    have x2 : ((w.alloc (.cells #[.slice AL s.L.length cL, .int .i64 (s.lev + 1), .slice AM s.mods.length cM] rS)).alloc (.cells #[.slice AL s.L.length cL, .int .i64 (s.lev + 1), .slice AM s.mods.length cM] rS)).cell? ⟨w.heap.size + 1, 2, none⟩ = some (.slice AM s.mods.length cM) := X2.out.cell 2
    refine bodyPost_ret (v := .tuple #[.agg #[.slice AL s.L.length cL, .int .i64 (s.lev + 1), .slice AM s.mods.length cM], .int .i64 0]) ?_ rfl ⟨_, _, _, _, _, _, rfl, HW.out, BV.out⟩
    clear X2 BV HW
    generalize ((w.alloc (.cells #[.slice AL s.L.length cL, .int .i64 (s.lev + 1), .slice AM s.mods.length cM] rS)).alloc (.cells #[.slice AL s.L.length cL, .int .i64 (s.lev + 1), .slice AM s.mods.length cM] rS)) = Z at *
    simp [results, Try.results29, go_sem, x0, x1, x2]
end Go.Proofs.Ytpfoebnlngfebaa
