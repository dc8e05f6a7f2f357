/- Scopes: the program's Member whole. -/
import Derived.Test.YtpfoebnlngfebaaScpJ0
namespace Go.Proofs.Ytpfoebnlngfebaa
open Go.ChangeShapes Go.WideShapes Go.ChangeAt Go.RowKit
set_option linter.unusedVariables false
set_option linter.unusedSimpArgs false

set_option maxHeartbeats 16000000 in
set_option maxRecDepth 100000 in
theorem member_in (B : Nat) (T : Tb) (s : Stt) (t : Nat) (nm : ByteArray) (w : World) (h : TabAt w B T s) (hB : B ≤ w.heap.size) (hml : s.mods.length ≤ 64) (hok : ∀ m ∈ s.mods, (∀ x ∈ m, ObOk x) ∧ m.length * 64 ≤ 140737488355328) (ht : t < s.mods.length) :
    Calls Try.prog 13 #[.pointer (some ⟨T.p, 0, none⟩), .int .i64 ((t : Int) + 1), .string nm] w (FoundPost B w (memberP s ((t : Int) + 1) nm)) := by
  rw [memberP_in nm ht]
  have bV := (Below.refl w.heap.size w).alloc (Nat.le_refl _) (.cells #[.string ⟨#[]⟩, .int .i64 0, .int .i64 0, .int .i64 0, .int .i32 0, .int .i64 0, .bool false, .slice none 0 0] pO)
  have BV := Lib.hid bV
  have XV := Lib.hid (Whole.made w pO #[.string ⟨#[]⟩, .int .i64 0, .int .i64 0, .int .i64 0, .int .i32 0, .int .i64 0, .bool false, .slice none 0 0] _ rfl)
  obtain ⟨g, cm, A, c, l, hmv, hcell, hrow, hlm⟩ := (h.below bV).mod ht
  have hokm := hok (s.mods.getD t []) (by rw [List.getD_eq_getElem?_getD, List.getElem?_eq_getElem ht]; exact List.getElem_mem ht)
  rw [hlm] at hokm ⊢
  rw [List.length_map] at hokm
  have u66 : (w.alloc (.cells #[.string ⟨#[]⟩, .int .i64 0, .int .i64 0, .int .i64 0, .int .i32 0, .int .i64 0, .bool false, .slice none 0 0] pO)).cell? ⟨T.p, 66, none⟩ = some (.slice (some ⟨g, 0, none⟩) s.mods.length cm) := by rw [← hmv]; exact ((h.below bV).blk.cell 66).trans tb_mod
  have h1 : ¬ ((t : Int) + 1 < 1) := by omega
  have h2 : ¬ ((s.mods.length : Int) < (t : Int) + 1) := by omega
  have h3 : (t : Int) < s.mods.length := by omega
  have HO := Lib.hid hokm
  have HR := Lib.hid hrow
  have HB := Lib.hid hB
  have IX := Lib.hid (indexof_any nm (.slice A l.length c) B B l (w.alloc (.cells #[.string ⟨#[]⟩, .int .i64 0, .int .i64 0, .int .i64 0, .int .i32 0, .int .i64 0, .bool false, .slice none 0 0] pO)) hrow (by have := hokm.2; unfold maxLen; omega))
  have hIF := idxF_find (nameIs nm) zO (l.map (·.1)) 0
  have HIF := Lib.hid hIF
  have hll : l.length * 64 ≤ 140737488355328 := hokm.2
  clear h bV hmv hok hB hlm hokm hrow hIF
  generalize idxF (nameIs nm) (l.map (·.1)) 0 = xi at *
  generalize hfd : (l.map (·.1)).find? (nameIs nm) = fd at *
  unfold FoundPost
  go_enter Try.func13, Try.ntmps13
  go_wp2_with fail
  generalize (w.alloc (.cells #[.string ⟨#[]⟩, .int .i64 0, .int .i64 0, .int .i64 0, .int .i32 0, .int .i64 0, .bool false, .slice none 0 0] pO)) = V at *
  refine IX.out.mono ?_
  rintro e w2 ⟨rfl, hb2⟩
  have B2 := Lib.hid (BV.out.trans (hb2.mono BV.out.size))
  have X2 := Lib.hid (XV.out.below hb2 XV.out.lt)
  have R2 := Lib.hid (HR.out.below hb2)
  clear hb2 IX u66 hcell BV XV HR
  rcases HIF.out with ⟨hn, rfl⟩ | ⟨n, h0, hn1, hn2, _⟩
  · subst hn
    clear HIF
    have s0 : w2.cell? ⟨w.heap.size, 0, none⟩ = some (.string ⟨#[]⟩) := X2.out.cell 0
    have t0 : w2.frozen? ⟨w.heap.size, 0, none⟩ = false := X2.out.free 0
    have s1 : w2.cell? ⟨w.heap.size, 1, none⟩ = some (.int .i64 0) := X2.out.cell 1
    have t1 : w2.frozen? ⟨w.heap.size, 1, none⟩ = false := X2.out.free 1
    have s2 : w2.cell? ⟨w.heap.size, 2, none⟩ = some (.int .i64 0) := X2.out.cell 2
    have t2 : w2.frozen? ⟨w.heap.size, 2, none⟩ = false := X2.out.free 2
    have s3 : w2.cell? ⟨w.heap.size, 3, none⟩ = some (.int .i64 0) := X2.out.cell 3
    have t3 : w2.frozen? ⟨w.heap.size, 3, none⟩ = false := X2.out.free 3
    have s4 : w2.cell? ⟨w.heap.size, 4, none⟩ = some (.int .i32 0) := X2.out.cell 4
    have t4 : w2.frozen? ⟨w.heap.size, 4, none⟩ = false := X2.out.free 4
    have s5 : w2.cell? ⟨w.heap.size, 5, none⟩ = some (.int .i64 0) := X2.out.cell 5
    have t5 : w2.frozen? ⟨w.heap.size, 5, none⟩ = false := X2.out.free 5
    have s6 : w2.cell? ⟨w.heap.size, 6, none⟩ = some (.bool false) := X2.out.cell 6
    have t6 : w2.frozen? ⟨w.heap.size, 6, none⟩ = false := X2.out.free 6
    have s7 : w2.cell? ⟨w.heap.size, 7, none⟩ = some (.slice none 0 0) := X2.out.cell 7
    have t7 : w2.frozen? ⟨w.heap.size, 7, none⟩ = false := X2.out.free 7
    have SX := Lib.hid (set_eight X2.out (.string ⟨#[]⟩) (.int .i64 0) (.int .i64 0) (.int .i64 0) (.int .i32 0) (.int .i64 0) (.bool false) (.slice none 0 0))
    go_wp2_with fail
    clear s0 s1 s2 s3 s4 s5 s6 s7 t0 t1 t2 t3 t4 t5 t6 t7
    have B5 := Lib.hid (show Below w.heap.size w ((((((((w2.setCell ⟨w.heap.size, 0, none⟩ (.string ⟨#[]⟩)).setCell ⟨w.heap.size, 1, none⟩ (.int .i64 0)).setCell ⟨w.heap.size, 2, none⟩ (.int .i64 0)).setCell ⟨w.heap.size, 3, none⟩ (.int .i64 0)).setCell ⟨w.heap.size, 4, none⟩ (.int .i32 0)).setCell ⟨w.heap.size, 5, none⟩ (.int .i64 0)).setCell ⟨w.heap.size, 6, none⟩ (.bool false)).setCell ⟨w.heap.size, 7, none⟩ (.slice none 0 0)) from B2.out.grown SX.out.2 B2.out.size (fun b hb => by injection hb with hb; omega))
    have W9 := SX.out.1
    have x0 : ((((((((w2.setCell ⟨w.heap.size, 0, none⟩ (.string ⟨#[]⟩)).setCell ⟨w.heap.size, 1, none⟩ (.int .i64 0)).setCell ⟨w.heap.size, 2, none⟩ (.int .i64 0)).setCell ⟨w.heap.size, 3, none⟩ (.int .i64 0)).setCell ⟨w.heap.size, 4, none⟩ (.int .i32 0)).setCell ⟨w.heap.size, 5, none⟩ (.int .i64 0)).setCell ⟨w.heap.size, 6, none⟩ (.bool false)).setCell ⟨w.heap.size, 7, none⟩ (.slice none 0 0)).cell? ⟨w.heap.size, 0, none⟩ = some (.string ⟨#[]⟩) := W9.cell 0
    have x1 : ((((((((w2.setCell ⟨w.heap.size, 0, none⟩ (.string ⟨#[]⟩)).setCell ⟨w.heap.size, 1, none⟩ (.int .i64 0)).setCell ⟨w.heap.size, 2, none⟩ (.int .i64 0)).setCell ⟨w.heap.size, 3, none⟩ (.int .i64 0)).setCell ⟨w.heap.size, 4, none⟩ (.int .i32 0)).setCell ⟨w.heap.size, 5, none⟩ (.int .i64 0)).setCell ⟨w.heap.size, 6, none⟩ (.bool false)).setCell ⟨w.heap.size, 7, none⟩ (.slice none 0 0)).cell? ⟨w.heap.size, 1, none⟩ = some (.int .i64 0) := W9.cell 1
    have x2 : ((((((((w2.setCell ⟨w.heap.size, 0, none⟩ (.string ⟨#[]⟩)).setCell ⟨w.heap.size, 1, none⟩ (.int .i64 0)).setCell ⟨w.heap.size, 2, none⟩ (.int .i64 0)).setCell ⟨w.heap.size, 3, none⟩ (.int .i64 0)).setCell ⟨w.heap.size, 4, none⟩ (.int .i32 0)).setCell ⟨w.heap.size, 5, none⟩ (.int .i64 0)).setCell ⟨w.heap.size, 6, none⟩ (.bool false)).setCell ⟨w.heap.size, 7, none⟩ (.slice none 0 0)).cell? ⟨w.heap.size, 2, none⟩ = some (.int .i64 0) := W9.cell 2
    have x3 : ((((((((w2.setCell ⟨w.heap.size, 0, none⟩ (.string ⟨#[]⟩)).setCell ⟨w.heap.size, 1, none⟩ (.int .i64 0)).setCell ⟨w.heap.size, 2, none⟩ (.int .i64 0)).setCell ⟨w.heap.size, 3, none⟩ (.int .i64 0)).setCell ⟨w.heap.size, 4, none⟩ (.int .i32 0)).setCell ⟨w.heap.size, 5, none⟩ (.int .i64 0)).setCell ⟨w.heap.size, 6, none⟩ (.bool false)).setCell ⟨w.heap.size, 7, none⟩ (.slice none 0 0)).cell? ⟨w.heap.size, 3, none⟩ = some (.int .i64 0) := W9.cell 3
    have x4 : ((((((((w2.setCell ⟨w.heap.size, 0, none⟩ (.string ⟨#[]⟩)).setCell ⟨w.heap.size, 1, none⟩ (.int .i64 0)).setCell ⟨w.heap.size, 2, none⟩ (.int .i64 0)).setCell ⟨w.heap.size, 3, none⟩ (.int .i64 0)).setCell ⟨w.heap.size, 4, none⟩ (.int .i32 0)).setCell ⟨w.heap.size, 5, none⟩ (.int .i64 0)).setCell ⟨w.heap.size, 6, none⟩ (.bool false)).setCell ⟨w.heap.size, 7, none⟩ (.slice none 0 0)).cell? ⟨w.heap.size, 4, none⟩ = some (.int .i32 0) := W9.cell 4
    have x5 : ((((((((w2.setCell ⟨w.heap.size, 0, none⟩ (.string ⟨#[]⟩)).setCell ⟨w.heap.size, 1, none⟩ (.int .i64 0)).setCell ⟨w.heap.size, 2, none⟩ (.int .i64 0)).setCell ⟨w.heap.size, 3, none⟩ (.int .i64 0)).setCell ⟨w.heap.size, 4, none⟩ (.int .i32 0)).setCell ⟨w.heap.size, 5, none⟩ (.int .i64 0)).setCell ⟨w.heap.size, 6, none⟩ (.bool false)).setCell ⟨w.heap.size, 7, none⟩ (.slice none 0 0)).cell? ⟨w.heap.size, 5, none⟩ = some (.int .i64 0) := W9.cell 5
    have x6 : ((((((((w2.setCell ⟨w.heap.size, 0, none⟩ (.string ⟨#[]⟩)).setCell ⟨w.heap.size, 1, none⟩ (.int .i64 0)).setCell ⟨w.heap.size, 2, none⟩ (.int .i64 0)).setCell ⟨w.heap.size, 3, none⟩ (.int .i64 0)).setCell ⟨w.heap.size, 4, none⟩ (.int .i32 0)).setCell ⟨w.heap.size, 5, none⟩ (.int .i64 0)).setCell ⟨w.heap.size, 6, none⟩ (.bool false)).setCell ⟨w.heap.size, 7, none⟩ (.slice none 0 0)).cell? ⟨w.heap.size, 6, none⟩ = some (.bool false) := W9.cell 6
    have x7 : ((((((((w2.setCell ⟨w.heap.size, 0, none⟩ (.string ⟨#[]⟩)).setCell ⟨w.heap.size, 1, none⟩ (.int .i64 0)).setCell ⟨w.heap.size, 2, none⟩ (.int .i64 0)).setCell ⟨w.heap.size, 3, none⟩ (.int .i64 0)).setCell ⟨w.heap.size, 4, none⟩ (.int .i32 0)).setCell ⟨w.heap.size, 5, none⟩ (.int .i64 0)).setCell ⟨w.heap.size, 6, none⟩ (.bool false)).setCell ⟨w.heap.size, 7, none⟩ (.slice none 0 0)).cell? ⟨w.heap.size, 7, none⟩ = some (.slice none 0 0) := W9.cell 7
    refine bodyPost_ret (v := .tuple #[.agg #[.string ⟨#[]⟩, .int .i64 0, .int .i64 0, .int .i64 0, .int .i32 0, .int .i64 0, .bool false, .slice none 0 0], .int .i64 110]) ?_ rfl ⟨none, 0, rfl, B5.out, ParV.nil _ _⟩
    clear B5 SX W9
    generalize ((((((((w2.setCell ⟨w.heap.size, 0, none⟩ (.string ⟨#[]⟩)).setCell ⟨w.heap.size, 1, none⟩ (.int .i64 0)).setCell ⟨w.heap.size, 2, none⟩ (.int .i64 0)).setCell ⟨w.heap.size, 3, none⟩ (.int .i64 0)).setCell ⟨w.heap.size, 4, none⟩ (.int .i32 0)).setCell ⟨w.heap.size, 5, none⟩ (.int .i64 0)).setCell ⟨w.heap.size, 6, none⟩ (.bool false)).setCell ⟨w.heap.size, 7, none⟩ (.slice none 0 0)) = Z at *
    simp [results, Try.results13, go_sem, x0, x1, x2, x3, x4, x5, x6, x7]
  · rw [List.length_map] at h0
    rw [Nat.zero_add] at hn1
    subst hn1
    rw [show (l.map (·.1)).getD n zO = (l.getD n zX).1 by simp [List.getD, h0]] at hn2
    have hob : ObOk (l.getD n zX).1 := HO.out.1 _ (List.mem_map.2 ⟨l.getD n zX, by rw [List.getD_eq_getElem?_getD, List.getElem?_eq_getElem h0]; exact List.getElem_mem h0, rfl⟩)
    obtain ⟨g2, hA, hcap, _, hgl, nm', kd, ty, lv, nn, md, ou, ps, Ap, cp, hX, hpar, hg⟩ := R2.out.at h0
    subst hA
    rw [hX] at hob hn2
    subst hn2
    have OW := Lib.hid (own_any nm' kd ty lv nn md ou ps Ap cp B w2 hpar (Nat.le_trans HB.out B2.out.size) hob.1 hob.2)
    have hn0 : (n : Int) < l.length := by omega
    have x0 : w2.cell? ⟨g2, n * 8, none⟩ = some (.string nm') := (hg 0 _ rfl).1
    have x1 : w2.cell? ⟨g2, n * 8 + 1, none⟩ = some (.int .i64 kd) := (hg 1 _ rfl).1
    have x2 : w2.cell? ⟨g2, n * 8 + 2, none⟩ = some (.int .i64 ty) := (hg 2 _ rfl).1
    have x3 : w2.cell? ⟨g2, n * 8 + 3, none⟩ = some (.int .i64 lv) := (hg 3 _ rfl).1
    have x4 : w2.cell? ⟨g2, n * 8 + 4, none⟩ = some (.int .i32 nn) := (hg 4 _ rfl).1
    have x5 : w2.cell? ⟨g2, n * 8 + 5, none⟩ = some (.int .i64 md) := (hg 5 _ rfl).1
    have x6 : w2.cell? ⟨g2, n * 8 + 6, none⟩ = some (.bool ou) := (hg 6 _ rfl).1
    have x7 : w2.cell? ⟨g2, n * 8 + 7, none⟩ = some (.slice Ap ps.length cp) := (hg 7 _ rfl).1
    clear hg hX hpar hob HIF R2 h0 hfd HO
    go_wp2_with fail
    clear x0 x1 x2 x3 x4 x5 x6 x7
    refine OW.out.mono ?_
    rintro e w3 ⟨Aq, cq, rfl, hb3, hp3⟩
    have B3 := Lib.hid (B2.out.trans (hb3.mono B2.out.size))
    have X3 := Lib.hid (X2.out.below hb3 X2.out.lt)
    have HP3 := Lib.hid hp3
    clear hb3 hp3 OW B2 X2
    have s0 : w3.cell? ⟨w.heap.size, 0, none⟩ = some (.string ⟨#[]⟩) := X3.out.cell 0
    have t0 : w3.frozen? ⟨w.heap.size, 0, none⟩ = false := X3.out.free 0
    have s1 : w3.cell? ⟨w.heap.size, 1, none⟩ = some (.int .i64 0) := X3.out.cell 1
    have t1 : w3.frozen? ⟨w.heap.size, 1, none⟩ = false := X3.out.free 1
    have s2 : w3.cell? ⟨w.heap.size, 2, none⟩ = some (.int .i64 0) := X3.out.cell 2
    have t2 : w3.frozen? ⟨w.heap.size, 2, none⟩ = false := X3.out.free 2
    have s3 : w3.cell? ⟨w.heap.size, 3, none⟩ = some (.int .i64 0) := X3.out.cell 3
    have t3 : w3.frozen? ⟨w.heap.size, 3, none⟩ = false := X3.out.free 3
    have s4 : w3.cell? ⟨w.heap.size, 4, none⟩ = some (.int .i32 0) := X3.out.cell 4
    have t4 : w3.frozen? ⟨w.heap.size, 4, none⟩ = false := X3.out.free 4
    have s5 : w3.cell? ⟨w.heap.size, 5, none⟩ = some (.int .i64 0) := X3.out.cell 5
    have t5 : w3.frozen? ⟨w.heap.size, 5, none⟩ = false := X3.out.free 5
    have s6 : w3.cell? ⟨w.heap.size, 6, none⟩ = some (.bool false) := X3.out.cell 6
    have t6 : w3.frozen? ⟨w.heap.size, 6, none⟩ = false := X3.out.free 6
    have s7 : w3.cell? ⟨w.heap.size, 7, none⟩ = some (.slice none 0 0) := X3.out.cell 7
    have t7 : w3.frozen? ⟨w.heap.size, 7, none⟩ = false := X3.out.free 7
    have SX := Lib.hid (set_eight X3.out (.string nm') (.int .i64 kd) (.int .i64 ty) (.int .i64 lv) (.int .i32 nn) (.int .i64 md) (.bool ou) (.slice Aq ps.length cq))
    go_wp2_with fail
    clear s0 s1 s2 s3 s4 s5 s6 s7 t0 t1 t2 t3 t4 t5 t6 t7
    have B5 := Lib.hid (show Below w.heap.size w ((((((((w3.setCell ⟨w.heap.size, 0, none⟩ (.string nm')).setCell ⟨w.heap.size, 1, none⟩ (.int .i64 kd)).setCell ⟨w.heap.size, 2, none⟩ (.int .i64 ty)).setCell ⟨w.heap.size, 3, none⟩ (.int .i64 lv)).setCell ⟨w.heap.size, 4, none⟩ (.int .i32 nn)).setCell ⟨w.heap.size, 5, none⟩ (.int .i64 md)).setCell ⟨w.heap.size, 6, none⟩ (.bool ou)).setCell ⟨w.heap.size, 7, none⟩ (.slice Aq ps.length cq)) from B3.out.grown SX.out.2 B3.out.size (fun b hb => by injection hb with hb; omega))
    have P5 := Lib.hid (HP3.out.grown X3.out (by decide) HB.out SX.out.2)
    have W9 := SX.out.1
    have x0 : ((((((((w3.setCell ⟨w.heap.size, 0, none⟩ (.string nm')).setCell ⟨w.heap.size, 1, none⟩ (.int .i64 kd)).setCell ⟨w.heap.size, 2, none⟩ (.int .i64 ty)).setCell ⟨w.heap.size, 3, none⟩ (.int .i64 lv)).setCell ⟨w.heap.size, 4, none⟩ (.int .i32 nn)).setCell ⟨w.heap.size, 5, none⟩ (.int .i64 md)).setCell ⟨w.heap.size, 6, none⟩ (.bool ou)).setCell ⟨w.heap.size, 7, none⟩ (.slice Aq ps.length cq)).cell? ⟨w.heap.size, 0, none⟩ = some (.string nm') := W9.cell 0
    have x1 : ((((((((w3.setCell ⟨w.heap.size, 0, none⟩ (.string nm')).setCell ⟨w.heap.size, 1, none⟩ (.int .i64 kd)).setCell ⟨w.heap.size, 2, none⟩ (.int .i64 ty)).setCell ⟨w.heap.size, 3, none⟩ (.int .i64 lv)).setCell ⟨w.heap.size, 4, none⟩ (.int .i32 nn)).setCell ⟨w.heap.size, 5, none⟩ (.int .i64 md)).setCell ⟨w.heap.size, 6, none⟩ (.bool ou)).setCell ⟨w.heap.size, 7, none⟩ (.slice Aq ps.length cq)).cell? ⟨w.heap.size, 1, none⟩ = some (.int .i64 kd) := W9.cell 1
    have x2 : ((((((((w3.setCell ⟨w.heap.size, 0, none⟩ (.string nm')).setCell ⟨w.heap.size, 1, none⟩ (.int .i64 kd)).setCell ⟨w.heap.size, 2, none⟩ (.int .i64 ty)).setCell ⟨w.heap.size, 3, none⟩ (.int .i64 lv)).setCell ⟨w.heap.size, 4, none⟩ (.int .i32 nn)).setCell ⟨w.heap.size, 5, none⟩ (.int .i64 md)).setCell ⟨w.heap.size, 6, none⟩ (.bool ou)).setCell ⟨w.heap.size, 7, none⟩ (.slice Aq ps.length cq)).cell? ⟨w.heap.size, 2, none⟩ = some (.int .i64 ty) := W9.cell 2
    have x3 : ((((((((w3.setCell ⟨w.heap.size, 0, none⟩ (.string nm')).setCell ⟨w.heap.size, 1, none⟩ (.int .i64 kd)).setCell ⟨w.heap.size, 2, none⟩ (.int .i64 ty)).setCell ⟨w.heap.size, 3, none⟩ (.int .i64 lv)).setCell ⟨w.heap.size, 4, none⟩ (.int .i32 nn)).setCell ⟨w.heap.size, 5, none⟩ (.int .i64 md)).setCell ⟨w.heap.size, 6, none⟩ (.bool ou)).setCell ⟨w.heap.size, 7, none⟩ (.slice Aq ps.length cq)).cell? ⟨w.heap.size, 3, none⟩ = some (.int .i64 lv) := W9.cell 3
    have x4 : ((((((((w3.setCell ⟨w.heap.size, 0, none⟩ (.string nm')).setCell ⟨w.heap.size, 1, none⟩ (.int .i64 kd)).setCell ⟨w.heap.size, 2, none⟩ (.int .i64 ty)).setCell ⟨w.heap.size, 3, none⟩ (.int .i64 lv)).setCell ⟨w.heap.size, 4, none⟩ (.int .i32 nn)).setCell ⟨w.heap.size, 5, none⟩ (.int .i64 md)).setCell ⟨w.heap.size, 6, none⟩ (.bool ou)).setCell ⟨w.heap.size, 7, none⟩ (.slice Aq ps.length cq)).cell? ⟨w.heap.size, 4, none⟩ = some (.int .i32 nn) := W9.cell 4
    have x5 : ((((((((w3.setCell ⟨w.heap.size, 0, none⟩ (.string nm')).setCell ⟨w.heap.size, 1, none⟩ (.int .i64 kd)).setCell ⟨w.heap.size, 2, none⟩ (.int .i64 ty)).setCell ⟨w.heap.size, 3, none⟩ (.int .i64 lv)).setCell ⟨w.heap.size, 4, none⟩ (.int .i32 nn)).setCell ⟨w.heap.size, 5, none⟩ (.int .i64 md)).setCell ⟨w.heap.size, 6, none⟩ (.bool ou)).setCell ⟨w.heap.size, 7, none⟩ (.slice Aq ps.length cq)).cell? ⟨w.heap.size, 5, none⟩ = some (.int .i64 md) := W9.cell 5
    have x6 : ((((((((w3.setCell ⟨w.heap.size, 0, none⟩ (.string nm')).setCell ⟨w.heap.size, 1, none⟩ (.int .i64 kd)).setCell ⟨w.heap.size, 2, none⟩ (.int .i64 ty)).setCell ⟨w.heap.size, 3, none⟩ (.int .i64 lv)).setCell ⟨w.heap.size, 4, none⟩ (.int .i32 nn)).setCell ⟨w.heap.size, 5, none⟩ (.int .i64 md)).setCell ⟨w.heap.size, 6, none⟩ (.bool ou)).setCell ⟨w.heap.size, 7, none⟩ (.slice Aq ps.length cq)).cell? ⟨w.heap.size, 6, none⟩ = some (.bool ou) := W9.cell 6
    have x7 : ((((((((w3.setCell ⟨w.heap.size, 0, none⟩ (.string nm')).setCell ⟨w.heap.size, 1, none⟩ (.int .i64 kd)).setCell ⟨w.heap.size, 2, none⟩ (.int .i64 ty)).setCell ⟨w.heap.size, 3, none⟩ (.int .i64 lv)).setCell ⟨w.heap.size, 4, none⟩ (.int .i32 nn)).setCell ⟨w.heap.size, 5, none⟩ (.int .i64 md)).setCell ⟨w.heap.size, 6, none⟩ (.bool ou)).setCell ⟨w.heap.size, 7, none⟩ (.slice Aq ps.length cq)).cell? ⟨w.heap.size, 7, none⟩ = some (.slice Aq ps.length cq) := W9.cell 7
    refine bodyPost_ret (v := .tuple #[.agg #[.string nm', .int .i64 kd, .int .i64 ty, .int .i64 lv, .int .i32 nn, .int .i64 md, .bool ou, .slice Aq ps.length cq], .int .i64 0]) ?_ rfl ⟨Aq, cq, rfl, B5.out, P5.out⟩
    clear B5 SX W9 P5
    generalize ((((((((w3.setCell ⟨w.heap.size, 0, none⟩ (.string nm')).setCell ⟨w.heap.size, 1, none⟩ (.int .i64 kd)).setCell ⟨w.heap.size, 2, none⟩ (.int .i64 ty)).setCell ⟨w.heap.size, 3, none⟩ (.int .i64 lv)).setCell ⟨w.heap.size, 4, none⟩ (.int .i32 nn)).setCell ⟨w.heap.size, 5, none⟩ (.int .i64 md)).setCell ⟨w.heap.size, 6, none⟩ (.bool ou)).setCell ⟨w.heap.size, 7, none⟩ (.slice Aq ps.length cq)) = Z at *
    simp [results, Try.results13, go_sem, x0, x1, x2, x3, x4, x5, x6, x7]

theorem member_any (B : Nat) (T : Tb) (s : Stt) (m : Int) (nm : ByteArray) (w : World) (h : TabAt w B T s) (hB : B ≤ w.heap.size) (hml : s.mods.length ≤ 64) (hok : ∀ m ∈ s.mods, (∀ x ∈ m, ObOk x) ∧ m.length * 64 ≤ 140737488355328) :
    Calls Try.prog 13 #[.pointer (some ⟨T.p, 0, none⟩), .int .i64 m, .string nm] w (FoundPost B w (memberP s m nm)) := by
  by_cases hb : m < 1 ∨ (s.mods.length : Int) < m
  · exact member_out B T s m nm w h hB hml hok hb
  · obtain ⟨t, rfl⟩ : ∃ t : Nat, m = (t : Int) + 1 := ⟨(m - 1).toNat, by omega⟩
    exact member_in B T s t nm w h hB hml hok (by omega)
end Go.Proofs.Ytpfoebnlngfebaa
