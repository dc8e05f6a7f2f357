/- Scopes: the program's Names. -/
import Derived.Test.YtpfoebnlngfebaaScpJ
import Derived.Test.YtpfoebnlngfebaaRowSet
namespace Go.Proofs.Ytpfoebnlngfebaa
open Go.ChangeShapes Go.WideShapes Go.ChangeAt Go.RowKit
set_option linter.unusedVariables false
set_option linter.unusedSimpArgs false

abbrev pStr : TypeId := 9

theorem pStr_info : (Try.prog.info? pStr).map (fun i => (i.zero, i.size, i.bytes)) = some (some (.string ⟨#[]⟩), 1, 16) := by kernel_rfl


set_option maxHeartbeats 16000000 in
set_option maxRecDepth 100000 in
theorem names_any (B : Nat) (T : Tb) (s : Stt) (w : World) (h : TabAt w B T s) (hl : s.lev ≤ 64) (hlen : s.L.length ≤ 1000) (hok : ∀ x ∈ s.L, ObOk x) :
    Calls Try.prog 23 #[.pointer (some ⟨T.p, 0, none⟩)] w fun e w' => ∃ v, e = .returned v ∧ w'.ownsRow w.heap.size pStr 1 v (namesP s).length ((namesP s).map Value.string) ∧ Below w.heap.size w w' := by
  have hi : s.lev < 65 := by omega
  have hI : (s.lev : Int) < 65 := by omega
  have u65 : w.cell? ⟨T.p, 65, none⟩ = some (.int .i64 s.lev) := (h.blk.cell 65).trans tb_lev
  obtain ⟨A, c, hrv⟩ := row_form (h.rows s.lev hi).row
  have hrow := h.rows s.lev hi
  rw [hrv] at hrow
  have ur : w.cell? ⟨T.p, s.lev, none⟩ = some (.slice A (T.rx s.lev).length c) := by rw [← hrv]; exact (h.blk.cell s.lev).trans (tb_row hi)
  have hsm := h.same s.lev hi
  have hrl : (T.rx s.lev).length = (s.row s.lev).length := by rw [← hsm, List.length_map]
  have hrl2 : (s.row s.lev).length ≤ s.L.length := List.length_filter_le _ _
  have hr1 : (T.rx s.lev).length ≤ 1000 := by omega
  have hns : namesP s = (T.rx s.lev).map (fun x => x.1.nm) := by
    unfold namesP
    rw [← hsm, List.map_map]
    rfl
  have hnl : (namesP s).length = (T.rx s.lev).length := by rw [hns, List.length_map]
  have hoks : ∀ x ∈ T.rx s.lev, x.1.nm.size ≤ 140737488355328 := fun x hx => (hok x.1 (List.mem_filter.1 (by rw [show s.L.filter (fun y => y.lv == (s.lev : Int)) = s.row s.lev from rfl, ← hsm]; exact List.mem_map.2 ⟨x, hx, rfl⟩)).1).1
  have HR := Lib.hid hrow
  have HN := Lib.hid (And.intro hns hnl)
  have HO := Lib.hid hoks
  obtain ⟨i0, hi0, hz0, hz1, hz2⟩ := info_parts pStr_info
  have B0 := Lib.hid (fun nq => below_drawn (Below.refl w.heap.size w) nq)
  clear hrow hsm hrl hrl2 hns hnl hok hoks h hrv hlen
  generalize T.rx s.lev = l at *
  generalize namesP s = ns at *
  go_enter Try.func23, Try.ntmps23
  go_wp2_with fail
  go_quiet (fail)
  rename_i nq
  have BV := Lib.hid (B0.out nq)
  clear u65 ur B0
  generalize hV : w.drewN nq = V at *
  clear hV
  go_wp2_with fail
  go_loopw [3, 5, 16] (fun o _ i wr => ∃ t : Nat, t ≤ l.length ∧ i = .int .i64 t ∧ wr.ownsRow w.heap.size pStr 1 o t ((ns.take t).map Value.string) ∧ Below w.heap.size w wr) (fun _ _ i _ => l.length - (intOf i).toNat)
  case atStart => exact ⟨0, Nat.zero_le _, rfl, row_nil _ _ _ _, BV.out⟩
  case round =>
    clear BV
    obtain ⟨t, ht, rfl, ho, hb⟩ := hrel
    obtain ⟨A3, c3, rfl⟩ := row_form ho
    have BW := Lib.hid hb
    have OW := Lib.hid ho
    clear hb ho
    by_cases hlt : t < l.length
    · have hI : (t : Int) < l.length := by omega
      obtain ⟨g, rfl, hcap, _, hgl, nm, kd, ty, lv, nn, md, ou, ps, Ap, cp, hX, hpar, hg⟩ := (HR.out.below BW.out).at hlt
      have hsz := HO.out _ (show l.getD t zX ∈ l by rw [List.getD_eq_getElem?_getD, List.getElem?_eq_getElem hlt]; exact List.getElem_mem hlt)
      rw [hX] at hsz
      have HT := Lib.hid (show ns.take (t + 1) = ns.take t ++ [nm] from by
        have hl := HN.out.2
        have e : ns.getD t ⟨#[]⟩ = nm := by
          rw [HN.out.1]
          have : (l.map (fun x => x.1.nm)).getD t ⟨#[]⟩ = (l.getD t zX).1.nm := by simp [List.getD, hlt]
          rw [this, hX]
        rw [List.take_add_one, ← e, List.getD_eq_getElem?_getD, List.getElem?_eq_getElem (by omega)]
        rfl)
      have x0 : wr.cell? ⟨g, t * 8, none⟩ = some (.string nm) := (hg 0 _ rfl).1
      have x1 : wr.cell? ⟨g, t * 8 + 1, none⟩ = some (.int .i64 kd) := (hg 1 _ rfl).1
      have x2 : wr.cell? ⟨g, t * 8 + 2, none⟩ = some (.int .i64 ty) := (hg 2 _ rfl).1
      have x3 : wr.cell? ⟨g, t * 8 + 3, none⟩ = some (.int .i64 lv) := (hg 3 _ rfl).1
      have x4 : wr.cell? ⟨g, t * 8 + 4, none⟩ = some (.int .i32 nn) := (hg 4 _ rfl).1
      have x5 : wr.cell? ⟨g, t * 8 + 5, none⟩ = some (.int .i64 md) := (hg 5 _ rfl).1
      have x6 : wr.cell? ⟨g, t * 8 + 6, none⟩ = some (.bool ou) := (hg 6 _ rfl).1
      have x7 : wr.cell? ⟨g, t * 8 + 7, none⟩ = some (.slice Ap ps.length cp) := (hg 7 _ rfl).1
      have b1 := (Below.refl wr.heap.size wr).alloc (Nat.le_refl _) (.cells #[.string nm, .int .i64 kd, .int .i64 ty, .int .i64 lv, .int .i32 nn, .int .i64 md, .bool ou, .slice Ap ps.length cp] pO)
      have BB := Lib.hid b1
      have q0 : (wr.alloc (.cells #[.string nm, .int .i64 kd, .int .i64 ty, .int .i64 lv, .int .i32 nn, .int .i64 md, .bool ou, .slice Ap ps.length cp] pO)).cell? ⟨wr.heap.size, 0, none⟩ = some (.string nm) := (Whole.made wr pO #[.string nm, .int .i64 kd, .int .i64 ty, .int .i64 lv, .int .i32 nn, .int .i64 md, .bool ou, .slice Ap ps.length cp] _ rfl).cell 0
      have CL := Lib.hid (sclone_any nm (wr.alloc (.cells #[.string nm, .int .i64 kd, .int .i64 ty, .int .i64 lv, .int .i32 nn, .int .i64 md, .bool ou, .slice Ap ps.length cp] pO)) hsz)
      clear hg hpar hX hsz b1
      go_wp2_with fail
      clear x0 x1 x2 x3 x4 x5 x6 x7 q0
      refine CL.out.mono ?_
      rintro e y1 ⟨rfl, hb1⟩
      have b12 := BB.out.trans (hb1.mono BB.out.size)
      have b2 := b12.trans (((Below.refl y1.heap.size y1).alloc (Nat.le_refl _) (.cells #[.string nm] pStr)).mono b12.size)
      have OY := Lib.hid (row_below OW.out b2)
      have BY := Lib.hid (BW.out.trans (b2.mono BW.out.size))
      have hbase : w.heap.size ≤ (y1.alloc (.cells #[.string nm] pStr)).heap.size := BY.out.size
      have NC := Lib.hid (show ∀ (j : Nat) u, ([.string nm] : List Value)[j]? = some u → (y1.alloc (.cells #[.string nm] pStr)).cell? ((⟨y1.heap.size, 0, none⟩ : Addr).add j) = some u from fun j u hj => by
        rw [Go.WideShapes.add_plain, Nat.zero_add]
        exact ((Whole.made y1 pStr #[.string nm] y1.heap.size rfl).cell j).trans (by simpa using hj))
      clear hb1 b12 b2 CL BB OW BW
      go_wp2_with (first | (at_builtin; refine wpList_append_own_at _ rfl _ _ 59 rfl w.heap.size pStr i0 _ 1 16 Try.underlying59 hi0 hz0 hz1 hz2 rfl (by decide) (.slice A3 t c3) t _ rfl OY.out ⟨y1.heap.size, 0, none⟩ 1 1 [.string nm] rfl rfl NC.out (fun u hu => by obtain rfl := List.mem_singleton.1 hu; rfl) (by unfold maxLen; omega) (by omega) hbase ?_; intro v3 w3 ho3 hg3 hnl hat; have B3 := Lib.hid (BY.out.grown hg3 hbase (fun b hb => (World.ownsRow.lt OY.out b hb).1)); have O3 := Lib.hid (And.intro ho3 hg3); clear ho3 hg3 hnl hat))
      go_roundw
      case rel =>
        refine ⟨t + 1, by omega, by go_num, ?_, B3.out⟩
        rw [HT.out, List.map_append]
        exact O3.out.1
      case measure => simp [intOf]; omega
    · have hI : ¬ (t : Int) < l.length := by omega
      obtain rfl : t = l.length := by omega
      go_wp2_with fail
      go_ret
      refine ⟨_, rfl, ?_, BW.out⟩
      have := OW.out
      rw [← HN.out.2, List.take_length] at this
      rw [← HN.out.2]
      exact this

/-- Exports lie in an own row. -/
structure RowE (w : World) (B B' : Nat) (v : Value) (l : List Exx) : Prop where
  row : w.ownsRow B' pE 5 v l.length (l.flatMap exCells)
  par : ∀ x ∈ l, ParV B w x.2 x.1.ps

theorem RowE.below {w w' : World} {B B' : Nat} {v : Value} {l : List Exx} (h : RowE w B B' v l) (hb : Below w.heap.size w w') : RowE w' B B' v l :=
  ⟨row_below h.row hb, fun x hx => (h.par x hx).below hb⟩

theorem RowE.nil (w : World) (B B' : Nat) : RowE w B B' (.slice none 0 0) [] := ⟨row_nil _ _ _ _, fun _ h => (List.not_mem_nil h).elim⟩

/-- One export more. -/
theorem RowE.grown {w w' : World} {B B' : Nat} {v v' : Value} {l : List Exx} {x : Exx} (h : RowE w B B' v l) (hB : B ≤ B') (hp : ParV B w x.2 x.1.ps) (hg : w.grownBy w' v.ownBlock) (ho : w'.ownsRow B' pE 5 v' (l.length + 1) (l.flatMap exCells ++ exCells x)) : RowE w' B B' v' (l ++ [x]) := by
  have hk : ∀ {v : Value} {ps : List (Int × Bool)}, ParV B w v ps → ParV B w' v ps := fun hp => hp.keep (Nat.le_refl _) hg.size fun b hb hh => hg.block b hb fun e => by
    obtain ⟨h1, _, cs, e1⟩ := row_block h.row e.symm
    rcases hh with hh | ⟨cs', fz, hh⟩
    · omega
    · rw [e1] at hh
      injection hh with hh
      injection hh with _ hh _
      exact absurd hh (by decide)
  refine ⟨by rw [List.length_append, List.flatMap_append, List.length_singleton, List.flatMap_singleton]; exact ho, fun y hy => ?_⟩
  rcases List.mem_append.1 hy with hy | hy
  · exact hk (h.par y hy)
  · obtain rfl := List.mem_singleton.1 hy
    exact hk hp

theorem filter_take {α : Type} (p : α → Bool) (l : List α) (t : Nat) (d : α) (ht : t < l.length) : (l.take (t + 1)).filter p = (l.take t).filter p ++ (if p (l.getD t d) then [l.getD t d] else []) := by
  have e : l.take (t + 1) = l.take t ++ [l.getD t d] := by
    rw [List.take_add_one, List.getD_eq_getElem?_getD, List.getElem?_eq_getElem ht]
    rfl
  rw [e, List.filter_append, List.filter_cons]
  rfl

set_option maxHeartbeats 16000000 in
set_option maxRecDepth 100000 in
theorem exports_any (B : Nat) (T : Tb) (s : Stt) (w : World) (h : TabAt w B T s) (hB : B ≤ w.heap.size) (hlen : s.L.length ≤ 1000) (hok : ∀ x ∈ s.L, ObOk x) :
    Calls Try.prog 9 #[.pointer (some ⟨T.p, 0, none⟩)] w fun e w' => ∃ v, e = .returned v ∧ ∃ l, RowE w' B w.heap.size v l ∧ l.map (·.1) = exportsP s ∧ Below w.heap.size w w' := by
  obtain ⟨A, c, hrv⟩ := row_form (h.rows 0 (by decide)).row
  have hrow := h.rows 0 (by decide)
  rw [hrv] at hrow
  have ur : w.cell? ⟨T.p, 0, none⟩ = some (.slice A (T.rx 0).length c) := by rw [← hrv]; exact (h.blk.cell 0).trans (tb_row (by decide))
  have hsm := h.same 0 (by decide)
  have hrl : (T.rx 0).length = (s.row 0).length := by rw [← hsm, List.length_map]
  have hrl2 : (s.row 0).length ≤ s.L.length := List.length_filter_le _ _
  have hr1 : (T.rx 0).length ≤ 1000 := by omega
  have hxs : exportsP s = (((T.rx 0).map (·.1)).filter (·.ou)).map obEx := by
    unfold exportsP
    rw [← hsm]
  have hoks : ∀ x ∈ T.rx 0, ObOk x.1 := fun x hx => hok x.1 (List.mem_filter.1 (by rw [show s.L.filter (fun y => y.lv == ((0 : Nat) : Int)) = s.row 0 from rfl, ← hsm]; exact List.mem_map.2 ⟨x, hx, rfl⟩)).1
  have HR := Lib.hid hrow
  have HX := Lib.hid hxs
  have HO := Lib.hid hoks
  have HB := Lib.hid hB
  obtain ⟨i0, hi0, hz0, hz1, hz2⟩ := info_parts pE_info
  clear hrow hsm hrl hrl2 hxs hok hoks h hrv hlen hB
  generalize T.rx 0 = l at *
  generalize exportsP s = xs at *
  go_enter Try.func9, Try.ntmps9
  go_wp2_with fail
  go_loopw [3, 5, 12] (fun o _ i wr => ∃ (t : Nat) (le : List Exx), t ≤ l.length ∧ i = .int .i64 t ∧ le.length ≤ t ∧ RowE wr B w.heap.size o le ∧ le.map (·.1) = (((l.take t).map (·.1)).filter (·.ou)).map obEx ∧ Below w.heap.size w wr) (fun _ _ i _ => l.length - (intOf i).toNat)
  case atStart => exact ⟨0, [], Nat.zero_le _, rfl, Nat.le_refl _, RowE.nil _ _ _, rfl, Below.refl _ _⟩
  case round =>
    clear ur
    obtain ⟨t, le, ht, rfl, hlt2, ho, hm, hb⟩ := hrel
    obtain ⟨A3, c3, rfl⟩ := row_form ho.row
    have BW := Lib.hid hb
    have OW := Lib.hid ho
    have HM := Lib.hid hm
    clear hb ho hm
    by_cases hlt : t < l.length
    · have hI : (t : Int) < l.length := by omega
      obtain ⟨g, rfl, hcap, _, hgl, nm, kd, ty, lv, nn, md, ou, ps, Ap, cp, hX, hpar, hg⟩ := (HR.out.below BW.out).at hlt
      have hok1 := HO.out _ (show l.getD t zX ∈ l by rw [List.getD_eq_getElem?_getD, List.getElem?_eq_getElem hlt]; exact List.getElem_mem hlt)
      have hft := filter_take (α := Ob) (·.ou) (l.map (·.1)) t zO (by rw [List.length_map]; exact hlt)
      rw [show (l.map (·.1)).getD t zO = (l.getD t zX).1 by simp [List.getD, hlt], hX] at hft
      rw [hX] at hok1
      rw [← List.map_take, ← List.map_take] at hft
      have HT := Lib.hid hft
      have x0 : wr.cell? ⟨g, t * 8, none⟩ = some (.string nm) := (hg 0 _ rfl).1
      have x1 : wr.cell? ⟨g, t * 8 + 1, none⟩ = some (.int .i64 kd) := (hg 1 _ rfl).1
      have x2 : wr.cell? ⟨g, t * 8 + 2, none⟩ = some (.int .i64 ty) := (hg 2 _ rfl).1
      have x3 : wr.cell? ⟨g, t * 8 + 3, none⟩ = some (.int .i64 lv) := (hg 3 _ rfl).1
      have x4 : wr.cell? ⟨g, t * 8 + 4, none⟩ = some (.int .i32 nn) := (hg 4 _ rfl).1
      have x5 : wr.cell? ⟨g, t * 8 + 5, none⟩ = some (.int .i64 md) := (hg 5 _ rfl).1
      have x6 : wr.cell? ⟨g, t * 8 + 6, none⟩ = some (.bool ou) := (hg 6 _ rfl).1
      have x7 : wr.cell? ⟨g, t * 8 + 7, none⟩ = some (.slice Ap ps.length cp) := (hg 7 _ rfl).1
      have b1 := (Below.refl wr.heap.size wr).alloc (Nat.le_refl _) (.cells #[.string nm, .int .i64 kd, .int .i64 ty, .int .i64 lv, .int .i32 nn, .int .i64 md, .bool ou, .slice Ap ps.length cp] pO)
      have XB := Lib.hid (Whole.made wr pO #[.string nm, .int .i64 kd, .int .i64 ty, .int .i64 lv, .int .i32 nn, .int .i64 md, .bool ou, .slice Ap ps.length cp] _ rfl)
      have BB := Lib.hid (BW.out.trans (b1.mono BW.out.size))
      have OB := Lib.hid (OW.out.below b1)
      have hwq : w.heap.size ≤ wr.heap.size := BW.out.size
      have HWQ := Lib.hid hwq
      have OWN := Lib.hid (own_any nm kd ty lv nn md ou ps Ap cp B (wr.alloc (.cells #[.string nm, .int .i64 kd, .int .i64 ty, .int .i64 lv, .int .i32 nn, .int .i64 md, .bool ou, .slice Ap ps.length cp] pO)) (hpar.below b1) (Nat.le_trans HB.out BB.out.size) hok1.1 hok1.2)
      have s0 : (wr.alloc (.cells #[.string nm, .int .i64 kd, .int .i64 ty, .int .i64 lv, .int .i32 nn, .int .i64 md, .bool ou, .slice Ap ps.length cp] pO)).cell? ⟨wr.heap.size, 0, none⟩ = some (.string nm) := XB.out.cell 0
      have s1 : (wr.alloc (.cells #[.string nm, .int .i64 kd, .int .i64 ty, .int .i64 lv, .int .i32 nn, .int .i64 md, .bool ou, .slice Ap ps.length cp] pO)).cell? ⟨wr.heap.size, 1, none⟩ = some (.int .i64 kd) := XB.out.cell 1
      have s2 : (wr.alloc (.cells #[.string nm, .int .i64 kd, .int .i64 ty, .int .i64 lv, .int .i32 nn, .int .i64 md, .bool ou, .slice Ap ps.length cp] pO)).cell? ⟨wr.heap.size, 2, none⟩ = some (.int .i64 ty) := XB.out.cell 2
      have s3 : (wr.alloc (.cells #[.string nm, .int .i64 kd, .int .i64 ty, .int .i64 lv, .int .i32 nn, .int .i64 md, .bool ou, .slice Ap ps.length cp] pO)).cell? ⟨wr.heap.size, 3, none⟩ = some (.int .i64 lv) := XB.out.cell 3
      have s4 : (wr.alloc (.cells #[.string nm, .int .i64 kd, .int .i64 ty, .int .i64 lv, .int .i32 nn, .int .i64 md, .bool ou, .slice Ap ps.length cp] pO)).cell? ⟨wr.heap.size, 4, none⟩ = some (.int .i32 nn) := XB.out.cell 4
      have s5 : (wr.alloc (.cells #[.string nm, .int .i64 kd, .int .i64 ty, .int .i64 lv, .int .i32 nn, .int .i64 md, .bool ou, .slice Ap ps.length cp] pO)).cell? ⟨wr.heap.size, 5, none⟩ = some (.int .i64 md) := XB.out.cell 5
      have s6 : (wr.alloc (.cells #[.string nm, .int .i64 kd, .int .i64 ty, .int .i64 lv, .int .i32 nn, .int .i64 md, .bool ou, .slice Ap ps.length cp] pO)).cell? ⟨wr.heap.size, 6, none⟩ = some (.bool ou) := XB.out.cell 6
      have s7 : (wr.alloc (.cells #[.string nm, .int .i64 kd, .int .i64 ty, .int .i64 lv, .int .i32 nn, .int .i64 md, .bool ou, .slice Ap ps.length cp] pO)).cell? ⟨wr.heap.size, 7, none⟩ = some (.slice Ap ps.length cp) := XB.out.cell 7
      clear hg hpar hX hft b1 hwq BW OW hok1
      cases ou with
      | false =>
        go_wp2_with fail
        clear x0 x1 x2 x3 x4 x5 x6 x7 s0 s1 s2 s3 s4 s5 s6 s7
        have BB2 := Lib.hid BB.out
        go_roundw
        case rel => exact ⟨t + 1, le, by omega, by go_num, by omega, OB.out, by rw [HT.out]; exact HM.out.trans (congrArg (List.map obEx) (List.append_nil _).symm), BB.out⟩
        case measure => simp [intOf]; omega
      | true =>
        go_wp2_with fail
        clear x0 x1 x2 x3 x4 x5 x6 x7 s0 s1 s2 s3 s4 s5 s6 s7
        obtain ⟨V1, hV1⟩ : ∃ V1, V1 = (wr.alloc (.cells #[.string nm, .int .i64 kd, .int .i64 ty, .int .i64 lv, .int .i32 nn, .int .i64 md, .bool true, .slice Ap ps.length cp] pO)) := ⟨_, rfl⟩
        rw [← hV1] at XB BB OB OWN ⊢
        clear hV1
        generalize wr.heap.size = q at *
        refine OWN.out.mono ?_
        rintro e y1 ⟨Aq, cq, rfl, hb1, hp1⟩
        have YB := Lib.hid (XB.out.below hb1 XB.out.lt)
        have BY := Lib.hid (BB.out.trans (hb1.mono BB.out.size))
        have OY := Lib.hid (OB.out.below hb1)
        have PY := Lib.hid hp1
        have SX := Lib.hid (YB.out.setRow #[.string nm, .int .i64 kd, .int .i64 ty, .int .i64 lv, .int .i32 nn, .int .i64 md, .bool true, .slice Aq ps.length cq])
        have H1 := Lib.hid (show (#[.string nm, .int .i64 kd, .int .i64 ty, .int .i64 lv, .int .i32 nn, .int .i64 md, .bool true, .slice Aq ps.length cq] : Array Value).all (·.oneCell') = true from by simp [Value.oneCell'])
        have HZ : (Try.prog.info? pO).map (·.size) = some 8 := by kernel_rfl
        have x0 : (y1.setRow q #[.string nm, .int .i64 kd, .int .i64 ty, .int .i64 lv, .int .i32 nn, .int .i64 md, .bool true, .slice Aq ps.length cq]).cell? ⟨q, 0, none⟩ = some (.string nm) := SX.out.1.cell 0
        have x1 : (y1.setRow q #[.string nm, .int .i64 kd, .int .i64 ty, .int .i64 lv, .int .i32 nn, .int .i64 md, .bool true, .slice Aq ps.length cq]).cell? ⟨q, 1, none⟩ = some (.int .i64 kd) := SX.out.1.cell 1
        have x2 : (y1.setRow q #[.string nm, .int .i64 kd, .int .i64 ty, .int .i64 lv, .int .i32 nn, .int .i64 md, .bool true, .slice Aq ps.length cq]).cell? ⟨q, 2, none⟩ = some (.int .i64 ty) := SX.out.1.cell 2
        have x3 : (y1.setRow q #[.string nm, .int .i64 kd, .int .i64 ty, .int .i64 lv, .int .i32 nn, .int .i64 md, .bool true, .slice Aq ps.length cq]).cell? ⟨q, 3, none⟩ = some (.int .i64 lv) := SX.out.1.cell 3
        have x4 : (y1.setRow q #[.string nm, .int .i64 kd, .int .i64 ty, .int .i64 lv, .int .i32 nn, .int .i64 md, .bool true, .slice Aq ps.length cq]).cell? ⟨q, 4, none⟩ = some (.int .i32 nn) := SX.out.1.cell 4
        have x5 : (y1.setRow q #[.string nm, .int .i64 kd, .int .i64 ty, .int .i64 lv, .int .i32 nn, .int .i64 md, .bool true, .slice Aq ps.length cq]).cell? ⟨q, 5, none⟩ = some (.int .i64 md) := SX.out.1.cell 5
        have x6 : (y1.setRow q #[.string nm, .int .i64 kd, .int .i64 ty, .int .i64 lv, .int .i32 nn, .int .i64 md, .bool true, .slice Aq ps.length cq]).cell? ⟨q, 6, none⟩ = some (.bool true) := SX.out.1.cell 6
        have x7 : (y1.setRow q #[.string nm, .int .i64 kd, .int .i64 ty, .int .i64 lv, .int .i32 nn, .int .i64 md, .bool true, .slice Aq ps.length cq]).cell? ⟨q, 7, none⟩ = some (.slice Aq ps.length cq) := SX.out.1.cell 7
        go_wp2_with (first | (refine wpList_store_row rfl pO (.tmp 5) (.tmp 19) rfl q #[.string nm, .int .i64 kd, .int .i64 ty, .int .i64 lv, .int .i32 nn, .int .i64 md, .bool true, .slice Aq ps.length cq] rfl rfl pO #[.string nm, .int .i64 kd, .int .i64 ty, .int .i64 lv, .int .i32 nn, .int .i64 md, .bool true, .slice Ap ps.length cp] YB.out HZ rfl H1.out ?_; have K := Lib.hid (KeptS.grown (S := fun k => k = q) SX.out.2 (fun b hb => (Option.some.inj hb).symm)); have PZ := Lib.hid (PY.out.grown YB.out (by decide) (Nat.le_trans HB.out HWQ.out) SX.out.2); have BZ := Lib.hid (show Below w.heap.size w (y1.setRow q #[.string nm, .int .i64 kd, .int .i64 ty, .int .i64 lv, .int .i32 nn, .int .i64 md, .bool true, .slice Aq ps.length cq]) from BY.out.grown SX.out.2 BY.out.size (fun b hb => by injection hb with hb; have := HWQ.out; omega)); have OZ := Lib.hid (show RowE (y1.setRow q #[.string nm, .int .i64 kd, .int .i64 ty, .int .i64 lv, .int .i32 nn, .int .i64 md, .bool true, .slice Aq ps.length cq]) B w.heap.size (.slice A3 le.length c3) le from ⟨K.out.row OY.out.row (fun b hb e => by (subst e; exact row_ne OY.out.row YB.out (fun _ _ h => by (injection h with _ h; exact absurd h (by decide))) hb)), fun x hx => (OY.out.par x hx).grown YB.out (by decide) (Nat.le_trans HB.out HWQ.out) SX.out.2⟩); clear SX YB PY BY OY K; generalize (y1.setRow q #[.string nm, .int .i64 kd, .int .i64 ty, .int .i64 lv, .int .i32 nn, .int .i64 md, .bool true, .slice Aq ps.length cq]) = Z at *; have b2 := (Below.refl Z.heap.size Z).alloc (Nat.le_refl _) (.cells #[.string nm, .int .i64 kd, .int .i64 ty, .int .i32 nn, .slice Aq ps.length cq] pE); have B2 := Lib.hid (BZ.out.trans (b2.mono BZ.out.size)); have O2 := Lib.hid (OZ.out.below b2); have P2 := Lib.hid (PZ.out.below b2); have HBASE := Lib.hid (show w.heap.size ≤ (Z.alloc (.cells #[.string nm, .int .i64 kd, .int .i64 ty, .int .i32 nn, .slice Aq ps.length cq] pE)).heap.size from B2.out.size); have NC := Lib.hid (show ∀ (j : Nat) u, ([.string nm, .int .i64 kd, .int .i64 ty, .int .i32 nn, .slice Aq ps.length cq] : List Value)[j]? = some u → (Z.alloc (.cells #[.string nm, .int .i64 kd, .int .i64 ty, .int .i32 nn, .slice Aq ps.length cq] pE)).cell? ((⟨Z.heap.size, 0, none⟩ : Addr).add j) = some u from fun j u hj => by (rw [Go.WideShapes.add_plain, Nat.zero_add]; exact ((Whole.made Z pE #[.string nm, .int .i64 kd, .int .i64 ty, .int .i32 nn, .slice Aq ps.length cq] _ rfl).cell j).trans (by simpa using hj))); clear b2 BZ OZ PZ) | (at_builtin; refine wpList_append_own_at _ rfl _ _ 32 rfl w.heap.size pE i0 _ 5 64 Try.underlying32 hi0 hz0 hz1 hz2 rfl (by decide) (.slice A3 le.length c3) le.length _ rfl O2.out.row ⟨Z.heap.size, 0, none⟩ 1 1 [.string nm, .int .i64 kd, .int .i64 ty, .int .i32 nn, .slice Aq ps.length cq] rfl rfl NC.out (fun u hu => by simp at hu; rcases hu with rfl | rfl | rfl | rfl | rfl <;> rfl) (by unfold maxLen; omega) (by omega) HBASE.out ?_; intro v3 w3 ho3 hg3 hnl hat; have B3 := Lib.hid (B2.out.grown hg3 HBASE.out (fun b hb => (World.ownsRow.lt O2.out.row b hb).1)); have O3 := Lib.hid (O2.out.grown (x := (⟨nm, kd, ty, nn, ps⟩, .slice Aq ps.length cq)) HB.out P2.out hg3 ho3); clear ho3 hg3 hnl hat))
        go_roundw
        case rel =>
          refine ⟨t + 1, le ++ [(⟨nm, kd, ty, nn, ps⟩, .slice Aq ps.length cq)], by omega, by go_num, by rw [List.length_append, List.length_singleton]; omega, ?_, ?_, B3.out⟩
          · exact O3.out
          · rw [HT.out, List.map_append, List.map_append, HM.out]
            rfl
        case measure => simp [intOf]; omega
    · have hI : ¬ (t : Int) < l.length := by omega
      obtain rfl : t = l.length := by omega
      go_wp2_with fail
      go_ret
      refine ⟨_, rfl, le, OW.out, ?_, BW.out⟩
      have := HM.out
      rw [List.take_length] at this
      rw [HX.out]
      exact this
end Go.Proofs.Ytpfoebnlngfebaa
