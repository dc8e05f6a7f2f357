/- Scopes: the answers' Exports. -/
import Derived.Test.YtpfoebnlngfebaaScpR
namespace Go.Proofs.Ytpfoebnlngfebaa
open Go.ChangeShapes Go.WideShapes Go.ChangeAt Go.RowKit
set_option linter.unusedVariables false
set_option linter.unusedSimpArgs false

theorem if_filter (b : Bool) (x : Ob) : (((if b = true then [x] else []) : List Ob).filter (·.ou)).map obEx = if (b && x.ou) = true then [obEx x] else [] := by
  cases b <;> cases h : x.ou <;> simp [h]

set_option maxHeartbeats 16000000 in
set_option maxRecDepth 100000 in
theorem refexports_any (B : Nat) (AL : Option Addr) (cL : Nat) (lx : List Ox) (AM : Option Addr) (cM : Nat) (mx : List (Value × List Ox)) (s : Stt) (w : World) (h : RefIn w B AL cL lx AM cM mx s) (hB : B ≤ w.heap.size) (hlen : s.L.length ≤ 1000) :
    Calls Try.prog 10 #[.agg #[.slice AL s.L.length cL, .int .i64 s.lev, .slice AM s.mods.length cM]] w fun e w' => ∃ v, e = .returned v ∧ ∃ l, RowE w' B w.heap.size v l ∧ l.map (·.1) = exportsP s ∧ Below w.heap.size w w' := by
  have b1 := (Below.refl w.heap.size w).alloc (Nat.le_refl _) (.cells #[.slice AL s.L.length cL, .int .i64 s.lev, .slice AM s.mods.length cM] rS)
  have BV := Lib.hid b1
  have XV := Lib.hid (Whole.made w rS #[.slice AL s.L.length cL, .int .i64 s.lev, .slice AM s.mods.length cM] _ rfl)
  have H0 := Lib.hid h
  have HB := Lib.hid hB
  have HL := Lib.hid h.len.1
  obtain ⟨i0, hi0, hz0, hz1, hz2⟩ := info_parts pE_info
  have HN := Lib.hid (show exportsP s = ((s.L.filter (fun x => x.lv == ((0 : Nat) : Int))).filter (·.ou)).map obEx from rfl)
  clear h b1 hB
  generalize exportsP s = xs at *
  go_enter Try.func10, Try.ntmps10
  go_wp2_with fail
  generalize (w.alloc (.cells #[.slice AL s.L.length cL, .int .i64 s.lev, .slice AM s.mods.length cM] rS)) = V at *
  go_loopw [3, 4, 5] (fun o i _ wr => ∃ (t : Nat) (le : List Exx), t ≤ s.L.length ∧ i = .int .i64 t ∧ le.length ≤ t ∧ RowE wr B w.heap.size o le ∧ le.map (·.1) = (((s.L.take t).filter (fun x => x.lv == ((0 : Nat) : Int))).filter (·.ou)).map obEx ∧ Below w.heap.size w wr ∧ Whole wr w.heap.size rS #[.slice AL s.L.length cL, .int .i64 s.lev, .slice AM s.mods.length cM]) (fun _ i _ _ => s.L.length - (intOf i).toNat)
  case atStart => exact ⟨0, [], Nat.zero_le _, rfl, Nat.le_refl _, RowE.nil _ _ _, rfl, BV.out, XV.out⟩
  case round =>
    obtain ⟨t, le, ht, rfl, hlt2, ho, hm, hb, hx⟩ := hrel
    obtain ⟨A3, c3, rfl⟩ := row_form ho.row
    have BW := Lib.hid hb
    have OW := Lib.hid ho
    have HM := Lib.hid hm
    have XW := Lib.hid hx
    have q0 : wr.cell? ⟨w.heap.size, 0, none⟩ = some (.slice AL s.L.length cL) := XW.out.cell 0
    clear hb ho hm hx
    by_cases hlt : t < s.L.length
    · have hI : (t : Int) < s.L.length := by omega
      have hrow := H0.out.rows.below BW.out
      rw [← HL.out] at hrow
      have hlx2 : t < lx.length := by rw [HL.out]; exact hlt
      obtain ⟨g, rfl, hcap, _, hgl, nm, kd, ty, lv, nn, md, ou, ps, Ap, cp, hX, hpar, hg⟩ := hrow.at hlx2
      have hgd : s.L.getD t zO = ⟨nm, kd, ty, lv, nn, md, ou, ps⟩ := by
        rw [← H0.out.same, show (lx.map (·.1)).getD t zO = (lx.getD t zX).1 by simp [List.getD, hlx2], hX]
      have hft := filter_take (fun x : Ob => x.lv == ((0 : Nat) : Int)) s.L t zO hlt
      rw [hgd] at hft
      have HT := Lib.hid hft
      have HP := Lib.hid hpar
      have x0 : wr.cell? ⟨g, t * 8, none⟩ = some (.string nm) := (hg 0 _ rfl).1
      have x1 : wr.cell? ⟨g, t * 8 + 1, none⟩ = some (.int .i64 kd) := (hg 1 _ rfl).1
      have x2 : wr.cell? ⟨g, t * 8 + 2, none⟩ = some (.int .i64 ty) := (hg 2 _ rfl).1
      have x3 : wr.cell? ⟨g, t * 8 + 3, none⟩ = some (.int .i64 lv) := (hg 3 _ rfl).1
      have x4 : wr.cell? ⟨g, t * 8 + 4, none⟩ = some (.int .i32 nn) := (hg 4 _ rfl).1
      have x5 : wr.cell? ⟨g, t * 8 + 5, none⟩ = some (.int .i64 md) := (hg 5 _ rfl).1
      have x6 : wr.cell? ⟨g, t * 8 + 6, none⟩ = some (.bool ou) := (hg 6 _ rfl).1
      have x7 : wr.cell? ⟨g, t * 8 + 7, none⟩ = some (.slice Ap ps.length cp) := (hg 7 _ rfl).1
      have b1 := (Below.refl wr.heap.size wr).alloc (Nat.le_refl _) (.cells #[.string nm, .int .i64 kd, .int .i64 ty, .int .i64 lv, .int .i32 nn, .int .i64 md, .bool ou, .slice Ap ps.length cp] rO)
      have BB := Lib.hid (BW.out.trans (b1.mono BW.out.size))
      have OB := Lib.hid (OW.out.below b1)
      have PB := Lib.hid (hpar.below b1)
      have XB := Lib.hid (XW.out.below b1 XW.out.lt)
      have XX := Lib.hid (Whole.made wr rO #[.string nm, .int .i64 kd, .int .i64 ty, .int .i64 lv, .int .i32 nn, .int .i64 md, .bool ou, .slice Ap ps.length cp] _ rfl)
      have s0 : (wr.alloc (.cells #[.string nm, .int .i64 kd, .int .i64 ty, .int .i64 lv, .int .i32 nn, .int .i64 md, .bool ou, .slice Ap ps.length cp] rO)).cell? ⟨wr.heap.size, 0, none⟩ = some (.string nm) := XX.out.cell 0
      have s1 : (wr.alloc (.cells #[.string nm, .int .i64 kd, .int .i64 ty, .int .i64 lv, .int .i32 nn, .int .i64 md, .bool ou, .slice Ap ps.length cp] rO)).cell? ⟨wr.heap.size, 1, none⟩ = some (.int .i64 kd) := XX.out.cell 1
      have s2 : (wr.alloc (.cells #[.string nm, .int .i64 kd, .int .i64 ty, .int .i64 lv, .int .i32 nn, .int .i64 md, .bool ou, .slice Ap ps.length cp] rO)).cell? ⟨wr.heap.size, 2, none⟩ = some (.int .i64 ty) := XX.out.cell 2
      have s3 : (wr.alloc (.cells #[.string nm, .int .i64 kd, .int .i64 ty, .int .i64 lv, .int .i32 nn, .int .i64 md, .bool ou, .slice Ap ps.length cp] rO)).cell? ⟨wr.heap.size, 3, none⟩ = some (.int .i64 lv) := XX.out.cell 3
      have s4 : (wr.alloc (.cells #[.string nm, .int .i64 kd, .int .i64 ty, .int .i64 lv, .int .i32 nn, .int .i64 md, .bool ou, .slice Ap ps.length cp] rO)).cell? ⟨wr.heap.size, 4, none⟩ = some (.int .i32 nn) := XX.out.cell 4
      have s5 : (wr.alloc (.cells #[.string nm, .int .i64 kd, .int .i64 ty, .int .i64 lv, .int .i32 nn, .int .i64 md, .bool ou, .slice Ap ps.length cp] rO)).cell? ⟨wr.heap.size, 5, none⟩ = some (.int .i64 md) := XX.out.cell 5
      have s6 : (wr.alloc (.cells #[.string nm, .int .i64 kd, .int .i64 ty, .int .i64 lv, .int .i32 nn, .int .i64 md, .bool ou, .slice Ap ps.length cp] rO)).cell? ⟨wr.heap.size, 6, none⟩ = some (.bool ou) := XX.out.cell 6
      have s7 : (wr.alloc (.cells #[.string nm, .int .i64 kd, .int .i64 ty, .int .i64 lv, .int .i32 nn, .int .i64 md, .bool ou, .slice Ap ps.length cp] rO)).cell? ⟨wr.heap.size, 7, none⟩ = some (.slice Ap ps.length cp) := XX.out.cell 7
      clear hg hrow hX hpar hft hgd b1 BW OW XW
      cases hlv : (lv == (0 : Int)) with
      | false =>
        have HF := Lib.hid (show le.map (·.1) = (((s.L.take (t + 1)).filter (fun x => x.lv == ((0 : Nat) : Int))).filter (·.ou)).map obEx from by
          rw [HT.out, List.filter_append, List.map_append, HM.out]
          rw [if_filter, if_neg (by show ¬ ((lv == (0 : Int)) && ou) = true; rw [hlv]; simp)]; exact (List.append_nil _).symm)
        clear HT
        go_wp2_with fail
        clear x0 x1 x2 x3 x4 x5 x6 x7 s0 s1 s2 s3 s4 s5 s6 s7
        go_roundw
        case rel => exact ⟨t + 1, le, by omega, by go_num, by omega, OB.out, HF.out, BB.out, XB.out⟩
        case measure => simp [intOf]; omega
      | true =>
        cases ou with
        | false =>
          have HF := Lib.hid (show le.map (·.1) = (((s.L.take (t + 1)).filter (fun x => x.lv == ((0 : Nat) : Int))).filter (·.ou)).map obEx from by
            rw [HT.out, List.filter_append, List.map_append, HM.out]
            rw [if_filter, if_neg (by show ¬ ((lv == (0 : Int)) && false) = true; simp)]; exact (List.append_nil _).symm)
          clear HT
          go_wp2_with fail
          clear x0 x1 x2 x3 x4 x5 x6 x7 s0 s1 s2 s3 s4 s5 s6 s7
          go_roundw
          case rel => exact ⟨t + 1, le, by omega, by go_num, by omega, OB.out, HF.out, BB.out, XB.out⟩
          case measure => simp [intOf]; omega
        | true =>
          have HC := Lib.hid (show (le ++ [((⟨nm, kd, ty, nn, ps⟩ : Ex), Value.slice Ap ps.length cp)]).map (·.1) = (((s.L.take (t + 1)).filter (fun x => x.lv == ((0 : Nat) : Int))).filter (·.ou)).map obEx from by
            rw [HT.out, List.filter_append, List.map_append, List.map_append, HM.out, if_filter, if_pos (by show ((lv == (0 : Int)) && true) = true; rw [hlv]; rfl)]
            rfl)
          clear HT
          obtain ⟨Z, hZ⟩ : ∃ Z, Z = (wr.alloc (.cells #[.string nm, .int .i64 kd, .int .i64 ty, .int .i64 lv, .int .i32 nn, .int .i64 md, .bool true, .slice Ap ps.length cp] rO)) := ⟨_, rfl⟩
          rw [← hZ] at BB OB PB XB XX s0 s1 s2 s3 s4 s5 s6 s7
          have b2 := (Below.refl Z.heap.size Z).alloc (Nat.le_refl _) (.cells #[.string nm, .int .i64 kd, .int .i64 ty, .int .i32 nn, .slice Ap ps.length cp] pE)
          have B2 := Lib.hid (BB.out.trans (b2.mono BB.out.size))
          have O2 := Lib.hid (OB.out.below b2)
          have P2 := Lib.hid (PB.out.below b2)
          have X2 := Lib.hid (XB.out.below b2 XB.out.lt)
          have HBASE := Lib.hid (show w.heap.size ≤ (Z.alloc (.cells #[.string nm, .int .i64 kd, .int .i64 ty, .int .i32 nn, .slice Ap ps.length cp] pE)).heap.size from B2.out.size)
          have NC := Lib.hid (show ∀ (j : Nat) u, ([.string nm, .int .i64 kd, .int .i64 ty, .int .i32 nn, .slice Ap ps.length cp] : List Value)[j]? = some u → (Z.alloc (.cells #[.string nm, .int .i64 kd, .int .i64 ty, .int .i32 nn, .slice Ap ps.length cp] pE)).cell? ((⟨wr.heap.size + 1, 0, none⟩ : Addr).add j) = some u from fun j u hj => by
            rw [Go.WideShapes.add_plain, Nat.zero_add]
            exact ((Whole.made Z pE #[.string nm, .int .i64 kd, .int .i64 ty, .int .i32 nn, .slice Ap ps.length cp] (wr.heap.size + 1) (by rw [hZ]; simp)).cell j).trans (by simpa using hj))
          have NE := Lib.hid (row_ne O2.out.row X2.out (fun _ _ h => by injection h with _ h; exact absurd h (by decide)))
          clear b2
          rw [hZ] at s0 s1 s2 s3 s4 s5 s6 s7 B2 O2 P2 X2 HBASE NC
          clear hZ
          go_wp2_with (first | (at_builtin; refine wpList_append_own_at _ rfl _ _ 32 rfl w.heap.size pE i0 _ 5 64 Try.underlying32 hi0 hz0 hz1 hz2 rfl (by decide) (.slice A3 le.length c3) le.length _ rfl O2.out.row ⟨wr.heap.size + 1, 0, none⟩ 1 1 [.string nm, .int .i64 kd, .int .i64 ty, .int .i32 nn, .slice Ap ps.length cp] rfl rfl NC.out (fun u hu => by simp at hu; rcases hu with rfl | rfl | rfl | rfl | rfl <;> rfl) (by unfold maxLen; omega) (by omega) HBASE.out ?_; intro v3 w3 ho3 hg3 hnl hat; have B3 := Lib.hid (B2.out.grown hg3 HBASE.out (fun b hb => (World.ownsRow.lt O2.out.row b hb).1)); have O3 := Lib.hid (O2.out.grown (x := (⟨nm, kd, ty, nn, ps⟩, .slice Ap ps.length cp)) HB.out P2.out hg3 ho3); have X3 := Lib.hid ((hg3.block w.heap.size X2.out.lt (fun e => NE.out e.symm)).trans X2.out); clear ho3 hg3 hnl hat))
          go_roundw
          case rel => exact ⟨t + 1, _, by omega, by go_num, by rw [List.length_append, List.length_singleton]; omega, O3.out, HC.out, B3.out, X3.out⟩
          case measure => simp [intOf]; omega
    · have hI : ¬ (t : Int) < s.L.length := by omega
      obtain rfl : t = s.L.length := by omega
      rw [List.take_length, ← HN.out] at HM
      go_wp2_with fail
      go_ret
      exact ⟨_, rfl, le, OW.out, HM.out, BW.out⟩
end Go.Proofs.Ytpfoebnlngfebaa
