/- Scopes: Declare whole; the program's Find. -/
import Derived.Test.YtpfoebnlngfebaaScpF
namespace Go.Proofs.Ytpfoebnlngfebaa
open Go.ChangeShapes Go.WideShapes Go.ChangeAt Go.RowKit
set_option linter.unusedVariables false
set_option linter.unusedSimpArgs false

theorem decl_any (B : Nat) (T : Tb) (s : Stt) (nm : ByteArray) (kd ty lv nn md : Int) (ou : Bool) (ps : List (Int × Bool)) (Ap : Option Addr) (cp : Nat) (w : World) (h : TabAt w B T s) (hp : ParV B w (.slice Ap ps.length cp) ps) (hB : B ≤ w.heap.size) (hl : s.lev ≤ 64) (hlen : s.L.length ≤ 1000) (hs : nm.size ≤ 140737488355328) (hn : ps.length * 16 ≤ 140737488355328) :
    Calls Try.prog 18 #[.pointer (some ⟨T.p, 0, none⟩), .agg #[.string nm, .int .i64 kd, .int .i64 ty, .int .i64 lv, .int .i32 nn, .int .i64 md, .bool ou, .slice Ap ps.length cp]] w fun e w' => e = .returned (.int .i64 (declP s ⟨nm, kd, ty, lv, nn, md, ou, ps⟩).2) ∧ ChPost B T w (declP s ⟨nm, kd, ty, lv, nn, md, ou, ps⟩).1 w' := by
  by_cases hb : nm.size = 0 ∨ 32 < nm.size
  · exact decl_name B T s nm kd ty lv nn md ou ps Ap cp w h hp hB hl hlen hs hn hb
  · cases hh : hasP s s.lev nm with
    | none => exact decl_ok B T s nm kd ty lv nn md ou ps Ap cp w h hp hB hl hlen hs hn hb hh
    | some x => exact decl_twice B T s nm kd ty lv nn md ou ps Ap cp w h hp hB hl hlen hs hn hb (by rw [hh]; rfl)

/-- What Find and Member leave. -/
def FoundPost (B : Nat) (w : World) (r : Option Ob) (e : Ending) (w' : World) : Prop :=
  ∃ Aq cq, e = .returned (.tuple #[.agg #[.string (r.getD zO).nm, .int .i64 (r.getD zO).kd, .int .i64 (r.getD zO).ty, .int .i64 (r.getD zO).lv, .int .i32 (r.getD zO).nn, .int .i64 (r.getD zO).md, .bool (r.getD zO).ou, .slice Aq (r.getD zO).ps.length cq], .int .i64 (codeOf r)]) ∧ Below w.heap.size w w' ∧ ParV B w' (.slice Aq (r.getD zO).ps.length cq) (r.getD zO).ps

theorem hasP_mem {s : Stt} {i : Nat} {nm : ByteArray} {x : Ob} (h : hasP s i nm = some x) : x ∈ s.L := (List.mem_filter.1 (List.mem_of_find?_eq_some h)).1

set_option maxHeartbeats 16000000 in
set_option maxRecDepth 100000 in
theorem find_any (B : Nat) (T : Tb) (s : Stt) (nm : ByteArray) (w : World) (h : TabAt w B T s) (hB : B ≤ w.heap.size) (hl : s.lev ≤ 64) (hlen : s.L.length ≤ 1000) (hok : ∀ x ∈ s.L, ObOk x) :
    Calls Try.prog 11 #[.pointer (some ⟨T.p, 0, none⟩), .string nm] w (FoundPost B w (findP s nm)) := by
  have H := Lib.hid h
  have HB := Lib.hid hB
  have HL := Lib.hid (And.intro hl hlen)
  have HO := Lib.hid hok
  have bV := (Below.refl w.heap.size w).alloc (Nat.le_refl _) (.cells #[.string ⟨#[]⟩, .int .i64 0, .int .i64 0, .int .i64 0, .int .i32 0, .int .i64 0, .bool false, .slice none 0 0] pO)
  have BV := Lib.hid bV
  have XV := Lib.hid (Whole.made w pO #[.string ⟨#[]⟩, .int .i64 0, .int .i64 0, .int .i64 0, .int .i32 0, .int .i64 0, .bool false, .slice none 0 0] _ rfl)
  have u65 : (w.alloc (.cells #[.string ⟨#[]⟩, .int .i64 0, .int .i64 0, .int .i64 0, .int .i32 0, .int .i64 0, .bool false, .slice none 0 0] pO)).cell? ⟨T.p, 65, none⟩ = some (.int .i64 s.lev) := ((h.below bV).blk.cell 65).trans tb_lev
  have RR := Lib.hid (show findN s nm (s.lev + 1) = findP s nm from rfl)
  clear h hB hok bV hlen
  generalize findP s nm = r at *
  unfold FoundPost
  go_enter Try.func11, Try.ntmps11
  go_wp2_with fail
  generalize (w.alloc (.cells #[.string ⟨#[]⟩, .int .i64 0, .int .i64 0, .int .i64 0, .int .i32 0, .int .i64 0, .bool false, .slice none 0 0] pO)) = V at *
  clear u65
  go_loopw [6, 7] (fun i _ wr => ∃ k : Nat, k ≤ s.lev + 1 ∧ i = .int .i64 ((k : Int) - 1) ∧ Below w.heap.size w wr ∧ Whole wr w.heap.size pO #[.string ⟨#[]⟩, .int .i64 0, .int .i64 0, .int .i64 0, .int .i32 0, .int .i64 0, .bool false, .slice none 0 0] ∧ findN s nm k = r) (fun i _ _ => (intOf i + 1).toNat)
  case atStart => exact ⟨s.lev + 1, Nat.le_refl _, by congr 1; omega, BV.out, XV.out, RR.out⟩
  case round =>
    clear BV XV RR
    obtain ⟨k, hk, rfl, hb, hx, hr⟩ := hrel
    have BW := Lib.hid hb
    have XW := Lib.hid hx
    have HR := Lib.hid hr
    clear hb hx hr
    cases k with
    | zero =>
      rw [show (((0 : Nat) : Int) - 1) = -1 from rfl]
      have hrn : r = none := HR.out.symm
      clear HR
      subst hrn
      have s0 : wr.cell? ⟨w.heap.size, 0, none⟩ = some (.string ⟨#[]⟩) := XW.out.cell 0
      have t0 : wr.frozen? ⟨w.heap.size, 0, none⟩ = false := XW.out.free 0
      have s1 : wr.cell? ⟨w.heap.size, 1, none⟩ = some (.int .i64 0) := XW.out.cell 1
      have t1 : wr.frozen? ⟨w.heap.size, 1, none⟩ = false := XW.out.free 1
      have s2 : wr.cell? ⟨w.heap.size, 2, none⟩ = some (.int .i64 0) := XW.out.cell 2
      have t2 : wr.frozen? ⟨w.heap.size, 2, none⟩ = false := XW.out.free 2
      have s3 : wr.cell? ⟨w.heap.size, 3, none⟩ = some (.int .i64 0) := XW.out.cell 3
      have t3 : wr.frozen? ⟨w.heap.size, 3, none⟩ = false := XW.out.free 3
      have s4 : wr.cell? ⟨w.heap.size, 4, none⟩ = some (.int .i32 0) := XW.out.cell 4
      have t4 : wr.frozen? ⟨w.heap.size, 4, none⟩ = false := XW.out.free 4
      have s5 : wr.cell? ⟨w.heap.size, 5, none⟩ = some (.int .i64 0) := XW.out.cell 5
      have t5 : wr.frozen? ⟨w.heap.size, 5, none⟩ = false := XW.out.free 5
      have s6 : wr.cell? ⟨w.heap.size, 6, none⟩ = some (.bool false) := XW.out.cell 6
      have t6 : wr.frozen? ⟨w.heap.size, 6, none⟩ = false := XW.out.free 6
      have s7 : wr.cell? ⟨w.heap.size, 7, none⟩ = some (.slice none 0 0) := XW.out.cell 7
      have t7 : wr.frozen? ⟨w.heap.size, 7, none⟩ = false := XW.out.free 7
      have SX := Lib.hid (set_eight XW.out (.string ⟨#[]⟩) (.int .i64 0) (.int .i64 0) (.int .i64 0) (.int .i32 0) (.int .i64 0) (.bool false) (.slice none 0 0))
      go_wp2_with fail
      clear s0 s1 s2 s3 s4 s5 s6 s7 t0 t1 t2 t3 t4 t5 t6 t7
      have B5 := Lib.hid (show Below w.heap.size w ((((((((wr.setCell ⟨w.heap.size, 0, none⟩ (.string ⟨#[]⟩)).setCell ⟨w.heap.size, 1, none⟩ (.int .i64 0)).setCell ⟨w.heap.size, 2, none⟩ (.int .i64 0)).setCell ⟨w.heap.size, 3, none⟩ (.int .i64 0)).setCell ⟨w.heap.size, 4, none⟩ (.int .i32 0)).setCell ⟨w.heap.size, 5, none⟩ (.int .i64 0)).setCell ⟨w.heap.size, 6, none⟩ (.bool false)).setCell ⟨w.heap.size, 7, none⟩ (.slice none 0 0)) from BW.out.grown SX.out.2 BW.out.size (fun b hb => by injection hb with hb; omega))
      have W9 := SX.out.1
      have x0 : ((((((((wr.setCell ⟨w.heap.size, 0, none⟩ (.string ⟨#[]⟩)).setCell ⟨w.heap.size, 1, none⟩ (.int .i64 0)).setCell ⟨w.heap.size, 2, none⟩ (.int .i64 0)).setCell ⟨w.heap.size, 3, none⟩ (.int .i64 0)).setCell ⟨w.heap.size, 4, none⟩ (.int .i32 0)).setCell ⟨w.heap.size, 5, none⟩ (.int .i64 0)).setCell ⟨w.heap.size, 6, none⟩ (.bool false)).setCell ⟨w.heap.size, 7, none⟩ (.slice none 0 0)).cell? ⟨w.heap.size, 0, none⟩ = some (.string ⟨#[]⟩) := W9.cell 0
      have x1 : ((((((((wr.setCell ⟨w.heap.size, 0, none⟩ (.string ⟨#[]⟩)).setCell ⟨w.heap.size, 1, none⟩ (.int .i64 0)).setCell ⟨w.heap.size, 2, none⟩ (.int .i64 0)).setCell ⟨w.heap.size, 3, none⟩ (.int .i64 0)).setCell ⟨w.heap.size, 4, none⟩ (.int .i32 0)).setCell ⟨w.heap.size, 5, none⟩ (.int .i64 0)).setCell ⟨w.heap.size, 6, none⟩ (.bool false)).setCell ⟨w.heap.size, 7, none⟩ (.slice none 0 0)).cell? ⟨w.heap.size, 1, none⟩ = some (.int .i64 0) := W9.cell 1
      have x2 : ((((((((wr.setCell ⟨w.heap.size, 0, none⟩ (.string ⟨#[]⟩)).setCell ⟨w.heap.size, 1, none⟩ (.int .i64 0)).setCell ⟨w.heap.size, 2, none⟩ (.int .i64 0)).setCell ⟨w.heap.size, 3, none⟩ (.int .i64 0)).setCell ⟨w.heap.size, 4, none⟩ (.int .i32 0)).setCell ⟨w.heap.size, 5, none⟩ (.int .i64 0)).setCell ⟨w.heap.size, 6, none⟩ (.bool false)).setCell ⟨w.heap.size, 7, none⟩ (.slice none 0 0)).cell? ⟨w.heap.size, 2, none⟩ = some (.int .i64 0) := W9.cell 2
      have x3 : ((((((((wr.setCell ⟨w.heap.size, 0, none⟩ (.string ⟨#[]⟩)).setCell ⟨w.heap.size, 1, none⟩ (.int .i64 0)).setCell ⟨w.heap.size, 2, none⟩ (.int .i64 0)).setCell ⟨w.heap.size, 3, none⟩ (.int .i64 0)).setCell ⟨w.heap.size, 4, none⟩ (.int .i32 0)).setCell ⟨w.heap.size, 5, none⟩ (.int .i64 0)).setCell ⟨w.heap.size, 6, none⟩ (.bool false)).setCell ⟨w.heap.size, 7, none⟩ (.slice none 0 0)).cell? ⟨w.heap.size, 3, none⟩ = some (.int .i64 0) := W9.cell 3
      have x4 : ((((((((wr.setCell ⟨w.heap.size, 0, none⟩ (.string ⟨#[]⟩)).setCell ⟨w.heap.size, 1, none⟩ (.int .i64 0)).setCell ⟨w.heap.size, 2, none⟩ (.int .i64 0)).setCell ⟨w.heap.size, 3, none⟩ (.int .i64 0)).setCell ⟨w.heap.size, 4, none⟩ (.int .i32 0)).setCell ⟨w.heap.size, 5, none⟩ (.int .i64 0)).setCell ⟨w.heap.size, 6, none⟩ (.bool false)).setCell ⟨w.heap.size, 7, none⟩ (.slice none 0 0)).cell? ⟨w.heap.size, 4, none⟩ = some (.int .i32 0) := W9.cell 4
      have x5 : ((((((((wr.setCell ⟨w.heap.size, 0, none⟩ (.string ⟨#[]⟩)).setCell ⟨w.heap.size, 1, none⟩ (.int .i64 0)).setCell ⟨w.heap.size, 2, none⟩ (.int .i64 0)).setCell ⟨w.heap.size, 3, none⟩ (.int .i64 0)).setCell ⟨w.heap.size, 4, none⟩ (.int .i32 0)).setCell ⟨w.heap.size, 5, none⟩ (.int .i64 0)).setCell ⟨w.heap.size, 6, none⟩ (.bool false)).setCell ⟨w.heap.size, 7, none⟩ (.slice none 0 0)).cell? ⟨w.heap.size, 5, none⟩ = some (.int .i64 0) := W9.cell 5
      have x6 : ((((((((wr.setCell ⟨w.heap.size, 0, none⟩ (.string ⟨#[]⟩)).setCell ⟨w.heap.size, 1, none⟩ (.int .i64 0)).setCell ⟨w.heap.size, 2, none⟩ (.int .i64 0)).setCell ⟨w.heap.size, 3, none⟩ (.int .i64 0)).setCell ⟨w.heap.size, 4, none⟩ (.int .i32 0)).setCell ⟨w.heap.size, 5, none⟩ (.int .i64 0)).setCell ⟨w.heap.size, 6, none⟩ (.bool false)).setCell ⟨w.heap.size, 7, none⟩ (.slice none 0 0)).cell? ⟨w.heap.size, 6, none⟩ = some (.bool false) := W9.cell 6
      have x7 : ((((((((wr.setCell ⟨w.heap.size, 0, none⟩ (.string ⟨#[]⟩)).setCell ⟨w.heap.size, 1, none⟩ (.int .i64 0)).setCell ⟨w.heap.size, 2, none⟩ (.int .i64 0)).setCell ⟨w.heap.size, 3, none⟩ (.int .i64 0)).setCell ⟨w.heap.size, 4, none⟩ (.int .i32 0)).setCell ⟨w.heap.size, 5, none⟩ (.int .i64 0)).setCell ⟨w.heap.size, 6, none⟩ (.bool false)).setCell ⟨w.heap.size, 7, none⟩ (.slice none 0 0)).cell? ⟨w.heap.size, 7, none⟩ = some (.slice none 0 0) := W9.cell 7
      refine bodyPost_ret (v := .tuple #[.agg #[.string ⟨#[]⟩, .int .i64 0, .int .i64 0, .int .i64 0, .int .i32 0, .int .i64 0, .bool false, .slice none 0 0], .int .i64 110]) ?_ rfl ⟨none, 0, rfl, B5.out, ParV.nil _ _⟩
      clear B5 SX W9
      generalize ((((((((wr.setCell ⟨w.heap.size, 0, none⟩ (.string ⟨#[]⟩)).setCell ⟨w.heap.size, 1, none⟩ (.int .i64 0)).setCell ⟨w.heap.size, 2, none⟩ (.int .i64 0)).setCell ⟨w.heap.size, 3, none⟩ (.int .i64 0)).setCell ⟨w.heap.size, 4, none⟩ (.int .i32 0)).setCell ⟨w.heap.size, 5, none⟩ (.int .i64 0)).setCell ⟨w.heap.size, 6, none⟩ (.bool false)).setCell ⟨w.heap.size, 7, none⟩ (.slice none 0 0)) = Z at *
      simp [results, Try.results11, go_sem, x0, x1, x2, x3, x4, x5, x6, x7]
    | succ m =>
      rw [show (((m + 1 : Nat) : Int) - 1) = (m : Int) by omega]
      have hm : m < 65 := by have := HL.out.1; omega
      have hmI : (m : Int) < 65 := by omega
      have hmI0 : (0 : Int) ≤ m := by omega
      have HM := Lib.hid hm
      obtain ⟨A, c, hrv⟩ := row_form (H.out.rows m hm).row
      have hrow := H.out.rows m hm
      rw [hrv] at hrow
      have hrl : (T.rx m).length = (s.row m).length := by rw [← H.out.same m hm, List.length_map]
      have hrl2 : (s.row m).length ≤ s.L.length := List.length_filter_le _ _
      have hr1 : (T.rx m).length ≤ 1000 := by have := HL.out.2; omega
      have HROW := Lib.hid hrow
      have IX := Lib.hid (indexof_any nm (.slice A (T.rx m).length c) B B (T.rx m) wr (hrow.below BW.out) (by unfold maxLen; omega))
      have um : wr.cell? ⟨T.p, m, none⟩ = some (.slice A (T.rx m).length c) := by rw [← hrv]; exact ((H.out.below BW.out).blk.cell m).trans (tb_row hm)
      have HRV := Lib.hid hrv
      clear hrow hrl hrl2 hrv hm
      go_wp2_with fail
      refine IX.out.mono ?_
      rintro e w2 ⟨rfl, hb2⟩
      have B2 := Lib.hid (BW.out.trans (hb2.mono BW.out.size))
      have X2 := Lib.hid (XW.out.below hb2 XW.out.lt)
      clear hb2 IX um BW XW
      rcases has_idx H.out HM.out nm with ⟨h1, h2⟩ | ⟨n, h0, h1, h2⟩
      · rw [h2]
        have HR2 := Lib.hid (show findN s nm m = r from by
          have h := HR.out
          unfold findN at h
          rw [h1] at h
          exact h)
        clear h1 h2 HR HROW
        go_wp2_with fail
        go_roundw
        case rel => exact ⟨m, by omega, rfl, B2.out, X2.out, HR2.out⟩
        case measure => simp [intOf]
      · rw [h1]
        have hrs : some ((T.rx m).getD n zX).1 = r := by
          have h := HR.out
          unfold findN at h
          rw [h2] at h
          exact h
        have hobk := HO.out _ (hasP_mem h2)
        obtain ⟨g, hA, hcap, _, hgl, nm', kd, ty, lv, nn, md, ou, ps, Ap, cp, hX, hpar, hg⟩ := (HROW.out.below B2.out).at h0
        subst hA
        rw [hX] at hrs hobk
        subst hrs
        have OW := Lib.hid (own_any nm' kd ty lv nn md ou ps Ap cp B w2 hpar (Nat.le_trans HB.out B2.out.size) hobk.1 hobk.2)
        have um : w2.cell? ⟨T.p, m, none⟩ = some (.slice (some ⟨g, 0, none⟩) (T.rx m).length c) := by rw [← HRV.out]; exact ((H.out.below B2.out).blk.cell m).trans (tb_row HM.out)
        have hn0 : (n : Int) < (T.rx m).length := by omega
        have x0 : w2.cell? ⟨g, n * 8, none⟩ = some (.string nm') := (hg 0 _ rfl).1
        have x1 : w2.cell? ⟨g, n * 8 + 1, none⟩ = some (.int .i64 kd) := (hg 1 _ rfl).1
        have x2 : w2.cell? ⟨g, n * 8 + 2, none⟩ = some (.int .i64 ty) := (hg 2 _ rfl).1
        have x3 : w2.cell? ⟨g, n * 8 + 3, none⟩ = some (.int .i64 lv) := (hg 3 _ rfl).1
        have x4 : w2.cell? ⟨g, n * 8 + 4, none⟩ = some (.int .i32 nn) := (hg 4 _ rfl).1
        have x5 : w2.cell? ⟨g, n * 8 + 5, none⟩ = some (.int .i64 md) := (hg 5 _ rfl).1
        have x6 : w2.cell? ⟨g, n * 8 + 6, none⟩ = some (.bool ou) := (hg 6 _ rfl).1
        have x7 : w2.cell? ⟨g, n * 8 + 7, none⟩ = some (.slice Ap ps.length cp) := (hg 7 _ rfl).1
        clear hg hX hpar HROW HR h1 h2 h0 hobk
        go_wp2_with fail
        clear x0 x1 x2 x3 x4 x5 x6 x7 um
        refine OW.out.mono ?_
        rintro e w3 ⟨Aq, cq, rfl, hb3, hp3⟩
        have B3 := Lib.hid (B2.out.trans (hb3.mono B2.out.size))
        have X3 := Lib.hid (X2.out.below hb3 X2.out.lt)
        have HP3 := Lib.hid hp3
        clear hb3 hp3 OW B2 X2
        have s0 : w3.cell? ⟨w.heap.size, 0, none⟩ = some (.string ⟨#[]⟩) := X3.out.cell 0
        have t0 : w3.frozen? ⟨w.heap.size, 0, none⟩ = false := X3.out.free 0
        have s1 : w3.cell? ⟨w.heap.size, 1, none⟩ = some (.int .i64 0) := X3.out.cell 1
        have t1 : w3.frozen? ⟨w.heap.size, 1, none⟩ = false := X3.out.free 1
        have s2 : w3.cell? ⟨w.heap.size, 2, none⟩ = some (.int .i64 0) := X3.out.cell 2
        have t2 : w3.frozen? ⟨w.heap.size, 2, none⟩ = false := X3.out.free 2
        have s3 : w3.cell? ⟨w.heap.size, 3, none⟩ = some (.int .i64 0) := X3.out.cell 3
        have t3 : w3.frozen? ⟨w.heap.size, 3, none⟩ = false := X3.out.free 3
        have s4 : w3.cell? ⟨w.heap.size, 4, none⟩ = some (.int .i32 0) := X3.out.cell 4
        have t4 : w3.frozen? ⟨w.heap.size, 4, none⟩ = false := X3.out.free 4
        have s5 : w3.cell? ⟨w.heap.size, 5, none⟩ = some (.int .i64 0) := X3.out.cell 5
        have t5 : w3.frozen? ⟨w.heap.size, 5, none⟩ = false := X3.out.free 5
        have s6 : w3.cell? ⟨w.heap.size, 6, none⟩ = some (.bool false) := X3.out.cell 6
        have t6 : w3.frozen? ⟨w.heap.size, 6, none⟩ = false := X3.out.free 6
        have s7 : w3.cell? ⟨w.heap.size, 7, none⟩ = some (.slice none 0 0) := X3.out.cell 7
        have t7 : w3.frozen? ⟨w.heap.size, 7, none⟩ = false := X3.out.free 7
        have SX := Lib.hid (set_eight X3.out (.string nm') (.int .i64 kd) (.int .i64 ty) (.int .i64 lv) (.int .i32 nn) (.int .i64 md) (.bool ou) (.slice Aq ps.length cq))
        go_wp2_with fail
        clear s0 s1 s2 s3 s4 s5 s6 s7 t0 t1 t2 t3 t4 t5 t6 t7
        have B5 := Lib.hid (show Below w.heap.size w ((((((((w3.setCell ⟨w.heap.size, 0, none⟩ (.string nm')).setCell ⟨w.heap.size, 1, none⟩ (.int .i64 kd)).setCell ⟨w.heap.size, 2, none⟩ (.int .i64 ty)).setCell ⟨w.heap.size, 3, none⟩ (.int .i64 lv)).setCell ⟨w.heap.size, 4, none⟩ (.int .i32 nn)).setCell ⟨w.heap.size, 5, none⟩ (.int .i64 md)).setCell ⟨w.heap.size, 6, none⟩ (.bool ou)).setCell ⟨w.heap.size, 7, none⟩ (.slice Aq ps.length cq)) from B3.out.grown SX.out.2 B3.out.size (fun b hb => by injection hb with hb; omega))
        have P5 := Lib.hid (HP3.out.grown X3.out (by decide) HB.out SX.out.2)
        have W9 := SX.out.1
        have x0 : ((((((((w3.setCell ⟨w.heap.size, 0, none⟩ (.string nm')).setCell ⟨w.heap.size, 1, none⟩ (.int .i64 kd)).setCell ⟨w.heap.size, 2, none⟩ (.int .i64 ty)).setCell ⟨w.heap.size, 3, none⟩ (.int .i64 lv)).setCell ⟨w.heap.size, 4, none⟩ (.int .i32 nn)).setCell ⟨w.heap.size, 5, none⟩ (.int .i64 md)).setCell ⟨w.heap.size, 6, none⟩ (.bool ou)).setCell ⟨w.heap.size, 7, none⟩ (.slice Aq ps.length cq)).cell? ⟨w.heap.size, 0, none⟩ = some (.string nm') := W9.cell 0
        have x1 : ((((((((w3.setCell ⟨w.heap.size, 0, none⟩ (.string nm')).setCell ⟨w.heap.size, 1, none⟩ (.int .i64 kd)).setCell ⟨w.heap.size, 2, none⟩ (.int .i64 ty)).setCell ⟨w.heap.size, 3, none⟩ (.int .i64 lv)).setCell ⟨w.heap.size, 4, none⟩ (.int .i32 nn)).setCell ⟨w.heap.size, 5, none⟩ (.int .i64 md)).setCell ⟨w.heap.size, 6, none⟩ (.bool ou)).setCell ⟨w.heap.size, 7, none⟩ (.slice Aq ps.length cq)).cell? ⟨w.heap.size, 1, none⟩ = some (.int .i64 kd) := W9.cell 1
        have x2 : ((((((((w3.setCell ⟨w.heap.size, 0, none⟩ (.string nm')).setCell ⟨w.heap.size, 1, none⟩ (.int .i64 kd)).setCell ⟨w.heap.size, 2, none⟩ (.int .i64 ty)).setCell ⟨w.heap.size, 3, none⟩ (.int .i64 lv)).setCell ⟨w.heap.size, 4, none⟩ (.int .i32 nn)).setCell ⟨w.heap.size, 5, none⟩ (.int .i64 md)).setCell ⟨w.heap.size, 6, none⟩ (.bool ou)).setCell ⟨w.heap.size, 7, none⟩ (.slice Aq ps.length cq)).cell? ⟨w.heap.size, 2, none⟩ = some (.int .i64 ty) := W9.cell 2
        have x3 : ((((((((w3.setCell ⟨w.heap.size, 0, none⟩ (.string nm')).setCell ⟨w.heap.size, 1, none⟩ (.int .i64 kd)).setCell ⟨w.heap.size, 2, none⟩ (.int .i64 ty)).setCell ⟨w.heap.size, 3, none⟩ (.int .i64 lv)).setCell ⟨w.heap.size, 4, none⟩ (.int .i32 nn)).setCell ⟨w.heap.size, 5, none⟩ (.int .i64 md)).setCell ⟨w.heap.size, 6, none⟩ (.bool ou)).setCell ⟨w.heap.size, 7, none⟩ (.slice Aq ps.length cq)).cell? ⟨w.heap.size, 3, none⟩ = some (.int .i64 lv) := W9.cell 3
        have x4 : ((((((((w3.setCell ⟨w.heap.size, 0, none⟩ (.string nm')).setCell ⟨w.heap.size, 1, none⟩ (.int .i64 kd)).setCell ⟨w.heap.size, 2, none⟩ (.int .i64 ty)).setCell ⟨w.heap.size, 3, none⟩ (.int .i64 lv)).setCell ⟨w.heap.size, 4, none⟩ (.int .i32 nn)).setCell ⟨w.heap.size, 5, none⟩ (.int .i64 md)).setCell ⟨w.heap.size, 6, none⟩ (.bool ou)).setCell ⟨w.heap.size, 7, none⟩ (.slice Aq ps.length cq)).cell? ⟨w.heap.size, 4, none⟩ = some (.int .i32 nn) := W9.cell 4
        have x5 : ((((((((w3.setCell ⟨w.heap.size, 0, none⟩ (.string nm')).setCell ⟨w.heap.size, 1, none⟩ (.int .i64 kd)).setCell ⟨w.heap.size, 2, none⟩ (.int .i64 ty)).setCell ⟨w.heap.size, 3, none⟩ (.int .i64 lv)).setCell ⟨w.heap.size, 4, none⟩ (.int .i32 nn)).setCell ⟨w.heap.size, 5, none⟩ (.int .i64 md)).setCell ⟨w.heap.size, 6, none⟩ (.bool ou)).setCell ⟨w.heap.size, 7, none⟩ (.slice Aq ps.length cq)).cell? ⟨w.heap.size, 5, none⟩ = some (.int .i64 md) := W9.cell 5
        have x6 : ((((((((w3.setCell ⟨w.heap.size, 0, none⟩ (.string nm')).setCell ⟨w.heap.size, 1, none⟩ (.int .i64 kd)).setCell ⟨w.heap.size, 2, none⟩ (.int .i64 ty)).setCell ⟨w.heap.size, 3, none⟩ (.int .i64 lv)).setCell ⟨w.heap.size, 4, none⟩ (.int .i32 nn)).setCell ⟨w.heap.size, 5, none⟩ (.int .i64 md)).setCell ⟨w.heap.size, 6, none⟩ (.bool ou)).setCell ⟨w.heap.size, 7, none⟩ (.slice Aq ps.length cq)).cell? ⟨w.heap.size, 6, none⟩ = some (.bool ou) := W9.cell 6
        have x7 : ((((((((w3.setCell ⟨w.heap.size, 0, none⟩ (.string nm')).setCell ⟨w.heap.size, 1, none⟩ (.int .i64 kd)).setCell ⟨w.heap.size, 2, none⟩ (.int .i64 ty)).setCell ⟨w.heap.size, 3, none⟩ (.int .i64 lv)).setCell ⟨w.heap.size, 4, none⟩ (.int .i32 nn)).setCell ⟨w.heap.size, 5, none⟩ (.int .i64 md)).setCell ⟨w.heap.size, 6, none⟩ (.bool ou)).setCell ⟨w.heap.size, 7, none⟩ (.slice Aq ps.length cq)).cell? ⟨w.heap.size, 7, none⟩ = some (.slice Aq ps.length cq) := W9.cell 7
        refine bodyPost_ret (v := .tuple #[.agg #[.string nm', .int .i64 kd, .int .i64 ty, .int .i64 lv, .int .i32 nn, .int .i64 md, .bool ou, .slice Aq ps.length cq], .int .i64 0]) ?_ rfl ⟨Aq, cq, rfl, B5.out, P5.out⟩
        clear B5 SX W9 P5
        generalize ((((((((w3.setCell ⟨w.heap.size, 0, none⟩ (.string nm')).setCell ⟨w.heap.size, 1, none⟩ (.int .i64 kd)).setCell ⟨w.heap.size, 2, none⟩ (.int .i64 ty)).setCell ⟨w.heap.size, 3, none⟩ (.int .i64 lv)).setCell ⟨w.heap.size, 4, none⟩ (.int .i32 nn)).setCell ⟨w.heap.size, 5, none⟩ (.int .i64 md)).setCell ⟨w.heap.size, 6, none⟩ (.bool ou)).setCell ⟨w.heap.size, 7, none⟩ (.slice Aq ps.length cq)) = Z at *
        simp [results, Try.results11, go_sem, x0, x1, x2, x3, x4, x5, x6, x7]
end Go.Proofs.Ytpfoebnlngfebaa
