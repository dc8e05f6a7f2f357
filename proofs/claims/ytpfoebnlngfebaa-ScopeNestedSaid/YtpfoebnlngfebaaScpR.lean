/- Scopes: the answers' Names, Exports. -/
import Derived.Test.YtpfoebnlngfebaaScpN
import Derived.Test.YtpfoebnlngfebaaRowSet
namespace Go.Proofs.Ytpfoebnlngfebaa
open Go.ChangeShapes Go.WideShapes Go.ChangeAt Go.RowKit
set_option linter.unusedVariables false
set_option linter.unusedSimpArgs false

set_option maxHeartbeats 16000000 in
set_option maxRecDepth 100000 in
theorem refnames_any (B : Nat) (AL : Option Addr) (cL : Nat) (lx : List Ox) (AM : Option Addr) (cM : Nat) (mx : List (Value × List Ox)) (s : Stt) (w : World) (h : RefIn w B AL cL lx AM cM mx s) (hlen : s.L.length ≤ 1000) :
    Calls Try.prog 24 #[.agg #[.slice AL s.L.length cL, .int .i64 s.lev, .slice AM s.mods.length cM]] w fun e w' => ∃ v, e = .returned v ∧ w'.ownsRow w.heap.size pStr 1 v (namesP s).length ((namesP s).map Value.string) ∧ Below w.heap.size w w' := by
  have b1 := (Below.refl w.heap.size w).alloc (Nat.le_refl _) (.cells #[.slice AL s.L.length cL, .int .i64 s.lev, .slice AM s.mods.length cM] rS)
  have BV := Lib.hid b1
  have XV := Lib.hid (Whole.made w rS #[.slice AL s.L.length cL, .int .i64 s.lev, .slice AM s.mods.length cM] _ rfl)
  have H0 := Lib.hid h
  have HL := Lib.hid h.len.1
  obtain ⟨i0, hi0, hz0, hz1, hz2⟩ := info_parts pStr_info
  have HN := Lib.hid (show namesP s = (s.L.filter (fun x => x.lv == (s.lev : Int))).map (·.nm) from rfl)
  clear h b1
  generalize namesP s = ns at *
  go_enter Try.func24, Try.ntmps24
  go_wp2_with fail
  generalize (w.alloc (.cells #[.slice AL s.L.length cL, .int .i64 s.lev, .slice AM s.mods.length cM] rS)) = V at *
  have BV2 := Lib.hid BV.out.size
  go_loopw [3, 4] (fun o i wr => ∃ (t : Nat) (lo : List ByteArray), t ≤ s.L.length ∧ i = .int .i64 t ∧ lo.length ≤ t ∧ wr.ownsRow w.heap.size pStr 1 o lo.length (lo.map Value.string) ∧ lo = ((s.L.take t).filter (fun x => x.lv == (s.lev : Int))).map (·.nm) ∧ Below w.heap.size w wr ∧ Whole wr w.heap.size rS #[.slice AL s.L.length cL, .int .i64 s.lev, .slice AM s.mods.length cM]) (fun _ i _ => s.L.length - (intOf i).toNat)
  case atStart => exact ⟨0, [], Nat.zero_le _, rfl, Nat.le_refl _, row_nil _ _ _ _, rfl, BV.out, XV.out⟩
  case round =>
    obtain ⟨t, lo, ht, rfl, hlt2, ho, hm, hb, hx⟩ := hrel
    obtain ⟨A3, c3, rfl⟩ := row_form ho
    have BW := Lib.hid hb
    have OW := Lib.hid ho
    have HM := Lib.hid hm
    have XB := Lib.hid hx
    have q0 : wr.cell? ⟨w.heap.size, 0, none⟩ = some (.slice AL s.L.length cL) := XB.out.cell 0
    have q1 : wr.cell? ⟨w.heap.size, 1, none⟩ = some (.int .i64 s.lev) := XB.out.cell 1
    clear hb ho hm hx
    by_cases hlt : t < s.L.length
    · have hI : (t : Int) < s.L.length := by omega
      have hrow := H0.out.rows.below BW.out
      rw [← HL.out] at hrow
      have hlx2 : t < lx.length := by rw [HL.out]; exact hlt
      obtain ⟨g, rfl, hcap, _, hgl, nm, kd, ty, lv, nn, md, ou, ps, Ap, cp, hX, hpar, hg⟩ := hrow.at hlx2
      have hgd : s.L.getD t zO = ⟨nm, kd, ty, lv, nn, md, ou, ps⟩ := by
        rw [← H0.out.same, show (lx.map (·.1)).getD t zO = (lx.getD t zX).1 by simp [List.getD, hlx2], hX]
      have hft := filter_take (fun x : Ob => x.lv == (s.lev : Int)) s.L t zO hlt
      rw [hgd] at hft
      have HT := Lib.hid hft
      have B0 := Lib.hid (fun nq => below_drawn (Below.refl wr.heap.size wr) nq)
      have x3 : wr.cell? ⟨g, t * 8 + 3, none⟩ = some (.int .i64 lv) := (hg 3 _ rfl).1
      have HG0 := Lib.hid (fun nq => show (wr.drewN nq).cell? ⟨g, t * 8, none⟩ = some (.string nm) from (hg 0 _ rfl).1)
      clear hg hrow hX hpar hft hgd
      cases hlv : (lv == (s.lev : Int)) with
      | true =>
        go_wp2_with fail
        go_quiet (fail)
        rename_i nq
        have BY := Lib.hid (BW.out.trans ((B0.out nq).mono BW.out.size))
        have OY := Lib.hid (row_below OW.out (B0.out nq))
        have XY := Lib.hid (XB.out.drawn nq)
        have x0 := HG0.out nq
        have HC := Lib.hid (show lo ++ [nm] = ((s.L.take (t + 1)).filter (fun x => x.lv == (s.lev : Int))).map (·.nm) from by
          rw [HT.out, List.map_append, ← HM.out]
          show lo ++ [nm] = lo ++ (if (lv == (s.lev : Int)) = true then [_] else []).map (fun x : Ob => x.nm)
          rw [if_pos hlv]
          rfl)
        clear q0 q1 x3 HG0 B0 XB OW BW HT HM
        generalize wr.drewN nq = y at *
        have q0 : y.cell? ⟨w.heap.size, 0, none⟩ = some (.slice (some ⟨g, 0, none⟩) s.L.length cL) := XY.out.cell 0
        have b2 := (Below.refl y.heap.size y).alloc (Nat.le_refl _) (.cells #[.string nm] pStr)
        have BY2 := Lib.hid (BY.out.trans (b2.mono BY.out.size))
        have OY2 := Lib.hid (row_below OY.out b2)
        have XY2 := Lib.hid (XY.out.below b2 XY.out.lt)
        have HBASE := Lib.hid (show w.heap.size ≤ (y.alloc (.cells #[.string nm] pStr)).heap.size from BY2.out.size)
        have NC := Lib.hid (show ∀ (j : Nat) u, ([.string nm] : List Value)[j]? = some u → (y.alloc (.cells #[.string nm] pStr)).cell? ((⟨y.heap.size, 0, none⟩ : Addr).add j) = some u from fun j u hj => by
          rw [Go.WideShapes.add_plain, Nat.zero_add]
          exact ((Whole.made y pStr #[.string nm] _ rfl).cell j).trans (by simpa using hj))
        have NE := Lib.hid (row_ne OY2.out XY2.out (fun _ _ h => by injection h with _ h; exact absurd h (by decide)))
        clear b2 BY OY
        go_wp2_with (first | (at_builtin; refine wpList_append_own_at _ rfl _ _ 59 rfl w.heap.size pStr i0 _ 1 16 Try.underlying59 hi0 hz0 hz1 hz2 rfl (by decide) (.slice A3 lo.length c3) lo.length _ rfl OY2.out ⟨y.heap.size, 0, none⟩ 1 1 [.string nm] rfl rfl NC.out (fun u hu => by obtain rfl := List.mem_singleton.1 hu; rfl) (by unfold maxLen; omega) (by omega) HBASE.out ?_; intro v3 w3 ho3 hg3 hnl hat; have B3 := Lib.hid (BY2.out.grown hg3 HBASE.out (fun b hb => (World.ownsRow.lt OY2.out b hb).1)); have O3 := Lib.hid ho3; have X3 := Lib.hid ((hg3.block w.heap.size XY2.out.lt (fun e => NE.out e.symm)).trans XY2.out); clear ho3 hg3 hnl hat))
        go_roundw
        case rel => exact ⟨t + 1, lo ++ [nm], by omega, by go_num, by rw [List.length_append, List.length_singleton]; omega, by rw [List.length_append, List.length_singleton, List.map_append]; exact O3.out, HC.out, B3.out, X3.out⟩
        case measure => simp [intOf]; omega
      | false =>
        have HF := Lib.hid (show lo = ((s.L.take (t + 1)).filter (fun x => x.lv == (s.lev : Int))).map (·.nm) from by
          rw [HT.out, List.map_append, ← HM.out]
          show lo = lo ++ (if (lv == (s.lev : Int)) = true then [_] else []).map (fun x : Ob => x.nm)
          rw [if_neg (by rw [hlv]; decide)]
          exact (List.append_nil _).symm)
        clear HT HG0
        go_wp2_with fail
        go_quiet (fail)
        rename_i nq
        go_wp2_with fail
        go_roundw
        case rel => exact ⟨t + 1, lo, by omega, by go_num, by omega, row_below OW.out (B0.out nq), HF.out, BW.out.trans ((B0.out nq).mono BW.out.size), XB.out.drawn nq⟩
        case measure => simp [intOf]; omega
    · have hI : ¬ (t : Int) < s.L.length := by omega
      obtain rfl : t = s.L.length := by omega
      rw [List.take_length, ← HN.out] at HM
      have hm := HM.out
      go_wp2_with fail
      go_ret
      exact ⟨_, rfl, by rw [← HM.out]; exact OW.out, BW.out⟩
end Go.Proofs.Ytpfoebnlngfebaa
