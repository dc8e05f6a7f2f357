/- Finger: the answers' TakeNumber, TakeText. -/
import Derived.Test.YthmjniedfiabhaaFngJ
namespace Go.Proofs.Ythmjniedfiabhaa
open Go.ChangeShapes Go.WideShapes Go.ChangeAt Go.RowKit
set_option linter.unusedVariables false
set_option linter.unusedSimpArgs false

theorem groupsP_err {zs : List Int} {err : Int} {most : Nat} (hz : err ≠ 0 → zs = []) (h : (groupsP zs err most).2.2 ≠ 0) : (groupsP zs err most).1 = 0 ∧ (groupsP zs err most).2.1 = [] := by
  by_cases h0 : err = 0
  · cases ht : takeG 0 zs with
    | error e =>
      rw [groupsP_bad ht]
      exact ⟨rfl, rfl⟩
    | ok p =>
      obtain ⟨n, r⟩ := p
      by_cases hn : most < n
      · rw [groupsP_big ht hn]
        exact ⟨rfl, rfl⟩
      · rw [groupsP_ok ht hn] at h
        exact absurd h0 h
  · rw [hz h0, groupsP_bad (takeG_nil 0)]
    exact ⟨rfl, rfl⟩

set_option maxHeartbeats 8000000 in
set_option maxRecDepth 100000 in
theorem reftake_text (most : Nat) (A : Option Addr) (n c : Nat) (zs : List Int) (err : Int) (V w : World) (hV : Below V.heap.size V w) (h : RfV V A n c zs err) (hn : n ≤ 1000000) (hb : Byt zs) (hm : most ≤ 9223372036854775807) :
    Calls Try.prog 64 #[.agg #[.slice A n c, .int .i64 err], .int .i64 most] w (RcPost V w (.string (textP zs err most).1) (textP zs err most).2.1 (textP zs err most).2.2) := by
  have X1 := Lib.hid ((Whole.made w rfT #[.slice A n c, .int .i64 err] _ rfl).alloc (.cells #[.slice none 0 0, .int .i64 0] rfT))
  have X2 := Lib.hid (Whole.made (w.alloc (.cells #[.slice A n c, .int .i64 err] rfT)) rfT #[.slice none 0 0, .int .i64 0] (w.heap.size + 1) (by simp))
  have B2 := Lib.hid (((Below.refl w.heap.size w).alloc (Nat.le_refl _) (.cells #[.slice A n c, .int .i64 err] rfT)).alloc (by simp) (.cells #[.slice none 0 0, .int .i64 0] rfT))
  have q0 : ((w.alloc (.cells #[.slice A n c, .int .i64 err] rfT)).alloc (.cells #[.slice none 0 0, .int .i64 0] rfT)).cell? ⟨w.heap.size, 0, none⟩ = some (.slice A n c) := X1.out.cell 0
  have q1 : ((w.alloc (.cells #[.slice A n c, .int .i64 err] rfT)).alloc (.cells #[.slice none 0 0, .int .i64 0] rfT)).cell? ⟨w.heap.size, 1, none⟩ = some (.int .i64 err) := X1.out.cell 1
  have C := Lib.hid (reftake_count most A n c zs err V ((w.alloc (.cells #[.slice A n c, .int .i64 err] rfT)).alloc (.cells #[.slice none 0 0, .int .i64 0] rfT)) (hV.trans (B2.out.mono hV.size)) h hn hb hm)
  have hle : (groupsP zs err most).1 ≤ most := groupsP_le zs err most
  have GE := Lib.hid (fun hh => groupsP_err (most := most) h.bad hh)
  have PY := Lib.hid (fun n r e' (hh : groupsP zs err most = (n, r, e')) hn => textP_yes hh hn)
  have PN := Lib.hid (fun n r e' (hh : groupsP zs err most = (n, r, e')) hn => textP_no hh hn)
  have VW := Lib.hid (hV.trans (B2.out.mono hV.size))
  generalize textP zs err most = tp at *
  generalize groupsP zs err most = p at *
  obtain ⟨m, r, e1⟩ := p
  have hle : m ≤ 9223372036854775807 := Nat.le_trans hle hm
  clear h hV hb hn
  by_cases he : e1 = 0
  · subst he
    clear GE
    by_cases hnl : m ≤ r.length
    · have P := Lib.hid (PY.out m r 0 rfl hnl)
      clear PY PN
      go_enter Try.func64, Try.ntmps64
      go_wp2_with fail
      clear q0 q1
      refine C.out.mono ?_
      rintro e w1 ⟨A1, n1, c1, rfl, hrv, hn1, hb⟩
      obtain ⟨⟨hl1, hc1⟩, hcap⟩ := hrv.ok rfl
      subst hl1
      have VB := Lib.hid (VW.out.trans (hb.mono VW.out.size))
      obtain ⟨A2, hs2, ha2⟩ := slice_hi A1 r.length c1 m (by omega)
      obtain ⟨A3, hs3, ha3⟩ := slice_lo A1 r.length c1 m hnl
      have NH := Lib.hid (show Nums .u8 V A2 m (r.take m) from ⟨by rw [List.length_take]; omega, fun h0 => by
        obtain ⟨g, off, h1, hlt, hcell⟩ := hc1 (by omega)
        refine ⟨g, off, ha2 _ _ h1, hlt, fun j hj => ?_⟩
        rw [hcell j (by omega)]
        simp [List.getD, hj]⟩)
      have RV3 := Lib.hid (show RfV V A3 (r.length - m) (c1 - m) (r.drop m) 0 from ⟨fun _ => ⟨⟨by rw [List.length_drop], fun h0 => by
        obtain ⟨g, off, h1, hlt, hcell⟩ := hc1 (by omega)
        refine ⟨g, off + m, ha3 _ _ h1 (by omega), hlt, fun j hj => ?_⟩
        rw [Nat.add_assoc, hcell (m + j) (by omega)]
        simp [List.getD]⟩, by omega⟩, fun h => absurd rfl h⟩)
      have CV : ∀ W : World, Below V.heap.size V W → (convert bsT 9 (.slice A2 m c1)).run Try.prog W = .ok (.string (strOfNums (r.take m))) W := fun W hW => convert_bytes W A2 m c1 _ (NH.out.below hW)
      have RN3 := Lib.hid (show r.length - m ≤ 1000000 by omega)
      have hlen : r.length ≤ 1000000 := hn1
      clear hrv hc1 ha2 ha3
      have RR := Lib.hid ((X2.out.below hb X2.out.lt).alloc (.cells #[.slice A1 r.length c1, .int .i64 0] rfT))
      have BZ := Lib.hid ((B2.out.trans (hb.mono B2.out.size)).alloc (Nat.le_trans B2.out.size hb.size) (.cells #[.slice A1 r.length c1, .int .i64 0] rfT))
      have NB := Lib.hid (Whole.made w1 rfT #[.slice A1 r.length c1, .int .i64 0] _ rfl)
      have nx0 : (w1.alloc (.cells #[.slice A1 r.length c1, .int .i64 0] rfT)).cell? ⟨w1.heap.size, 0, none⟩ = some (.slice A1 r.length c1) := NB.out.cell 0
      have nx1 : (w1.alloc (.cells #[.slice A1 r.length c1, .int .i64 0] rfT)).cell? ⟨w1.heap.size, 1, none⟩ = some (.int .i64 0) := NB.out.cell 1
      have CV1 := CV (w1.alloc (.cells #[.slice A1 r.length c1, .int .i64 0] rfT)) (VB.out.trans (((Below.refl w1.heap.size w1).alloc (Nat.le_refl _) _).mono VB.out.size))
      generalize r.length - m = n3 at *
      generalize c1 - m = c3 at *
      have NB3 := Lib.hid (Whole.made w1 rfT #[.slice A3 n3 c3, .int .i64 0] _ rfl)
      have RR3 := Lib.hid ((X2.out.below hb X2.out.lt).alloc (.cells #[.slice A3 n3 c3, .int .i64 0] rfT))
      have BZ3 := Lib.hid ((B2.out.trans (hb.mono B2.out.size)).alloc (Nat.le_trans B2.out.size hb.size) (.cells #[.slice A3 n3 c3, .int .i64 0] rfT))
      clear RR BZ CV
      have RR := Lib.hid RR3.out
      have BZ := Lib.hid BZ3.out
      have nz0 : (w1.alloc (.cells #[.slice A3 n3 c3, .int .i64 0] rfT)).cell? ⟨w1.heap.size, 0, none⟩ = some (.slice A3 n3 c3) := NB3.out.cell 0
      have nz1 : (w1.alloc (.cells #[.slice A3 n3 c3, .int .i64 0] rfT)).cell? ⟨w1.heap.size, 1, none⟩ = some (.int .i64 0) := NB3.out.cell 1
      have RT := Lib.hid (rc_ret RR.out BZ.out (Nat.le_succ _) BZ.out.size (.slice A3 n3 c3) (.int .i64 0))
      have r0 : (w1.alloc (.cells #[.slice A3 n3 c3, .int .i64 0] rfT)).cell? ⟨w.heap.size + 1, 0, none⟩ = some (.slice none 0 0) := RR.out.cell 0
      have fr0 : (w1.alloc (.cells #[.slice A3 n3 c3, .int .i64 0] rfT)).frozen? ⟨w.heap.size + 1, 0, none⟩ = false := RR.out.free 0
      have r1 : (w1.alloc (.cells #[.slice A3 n3 c3, .int .i64 0] rfT)).cell? ⟨w.heap.size + 1, 1, none⟩ = some (.int .i64 0) := RR.out.cell 1
      have fr1 : (w1.alloc (.cells #[.slice A3 n3 c3, .int .i64 0] rfT)).frozen? ⟨w.heap.size + 1, 1, none⟩ = false := RR.out.free 1
      have s0 : (((w1.alloc (.cells #[.slice A3 n3 c3, .int .i64 0] rfT)).setCell ⟨w.heap.size + 1, 0, none⟩ (.slice A3 n3 c3)).setCell ⟨w.heap.size + 1, 1, none⟩ (.int .i64 0)).cell? ⟨w.heap.size + 1, 0, none⟩ = some (.slice A3 n3 c3) := RT.out.1.cell 0
      have s1 : (((w1.alloc (.cells #[.slice A3 n3 c3, .int .i64 0] rfT)).setCell ⟨w.heap.size + 1, 0, none⟩ (.slice A3 n3 c3)).setCell ⟨w.heap.size + 1, 1, none⟩ (.int .i64 0)).cell? ⟨w.heap.size + 1, 1, none⟩ = some (.int .i64 0) := RT.out.1.cell 1
      clear hb C X1 X2 B2
      have hmI : ¬ (r.length : Int) < m := by omega
      go_wp2_with fail
      rw [P.out]
      refine bodyPost_ret (v := .tuple #[.agg #[.slice A3 n3 c3, .int .i64 0], .string (strOfNums (r.take m))]) ?_ rfl ⟨A3, n3, c3, rfl, RV3.out, RN3.out, RT.out.2.1⟩
      simp [results, Try.results64, go_sem, s0, s1]
    · have P := Lib.hid (PN.out m r 0 rfl hnl)
      rw [show errP 0 120 = 120 from rfl] at P
      have F := Lib.hid (fun (W : World) A1 n1 c1 => reffail_any A1 n1 c1 0 120 W)
      rw [show errP 0 120 = 120 from rfl] at F
      clear PY PN
      go_enter Try.func64, Try.ntmps64
      go_wp2_with fail
      clear q0 q1
      refine C.out.mono ?_
      rintro e w1 ⟨A1, n1, c1, rfl, hrv, hn1, hb⟩
      obtain ⟨⟨hl1, hc1⟩, hcap⟩ := hrv.ok rfl
      subst hl1
      have hmI : (r.length : Int) < m := by omega
      have hlen : r.length ≤ 1000000 := hn1
      clear hrv hc1
      have RR := Lib.hid ((X2.out.below hb X2.out.lt).alloc (.cells #[.slice A1 r.length c1, .int .i64 0] rfT))
      have BZ := Lib.hid ((B2.out.trans (hb.mono B2.out.size)).alloc (Nat.le_trans B2.out.size hb.size) (.cells #[.slice A1 r.length c1, .int .i64 0] rfT))
      have NB := Lib.hid (Whole.made w1 rfT #[.slice A1 r.length c1, .int .i64 0] _ rfl)
      have nx0 : (w1.alloc (.cells #[.slice A1 r.length c1, .int .i64 0] rfT)).cell? ⟨w1.heap.size, 0, none⟩ = some (.slice A1 r.length c1) := NB.out.cell 0
      have nx1 : (w1.alloc (.cells #[.slice A1 r.length c1, .int .i64 0] rfT)).cell? ⟨w1.heap.size, 1, none⟩ = some (.int .i64 0) := NB.out.cell 1
      clear hb C X1 X2 B2
      have F1 := Lib.hid (F.out (w1.alloc (.cells #[.slice A1 r.length c1, .int .i64 0] rfT)) A1 r.length c1)
      clear F
      go_wp2_with fail
      clear nx0 nx1
      refine F1.out.mono ?_
      rintro e w2 ⟨rfl, hb⟩
      replace RR := Lib.hid (RR.out.below hb RR.out.lt)
      replace BZ := Lib.hid (BZ.out.trans (hb.mono BZ.out.size))
      clear hb F1
      have RT := Lib.hid (rc_ret RR.out BZ.out (Nat.le_succ _) BZ.out.size (.slice A1 r.length c1) (.int .i64 120))
      have r0 : w2.cell? ⟨w.heap.size + 1, 0, none⟩ = some (.slice none 0 0) := RR.out.cell 0
      have fr0 : w2.frozen? ⟨w.heap.size + 1, 0, none⟩ = false := RR.out.free 0
      have r1 : w2.cell? ⟨w.heap.size + 1, 1, none⟩ = some (.int .i64 0) := RR.out.cell 1
      have fr1 : w2.frozen? ⟨w.heap.size + 1, 1, none⟩ = false := RR.out.free 1
      have s0 : ((w2.setCell ⟨w.heap.size + 1, 0, none⟩ (.slice A1 r.length c1)).setCell ⟨w.heap.size + 1, 1, none⟩ (.int .i64 120)).cell? ⟨w.heap.size + 1, 0, none⟩ = some (.slice A1 r.length c1) := RT.out.1.cell 0
      have s1 : ((w2.setCell ⟨w.heap.size + 1, 0, none⟩ (.slice A1 r.length c1)).setCell ⟨w.heap.size + 1, 1, none⟩ (.int .i64 120)).cell? ⟨w.heap.size + 1, 1, none⟩ = some (.int .i64 120) := RT.out.1.cell 1
      go_wp2_with fail
      rw [P.out]
      refine bodyPost_ret (v := .tuple #[.agg #[.slice A1 r.length c1, .int .i64 120], .string ⟨#[]⟩]) ?_ rfl ⟨A1, r.length, c1, rfl, RfV.none (by decide), hlen, RT.out.2.1⟩
      simp [results, Try.results64, go_sem, s0, s1]
  · obtain ⟨h1, h2⟩ := GE.out he
    obtain rfl : m = 0 := h1
    obtain rfl : r = [] := h2
    have P := Lib.hid (PY.out 0 [] e1 rfl (Nat.le_refl _))
    have hne : (e1 != 0) = true := by simp [he]
    have HH := Lib.hid he
    clear PY PN GE he
    go_enter Try.func64, Try.ntmps64
    go_wp2_with fail
    clear q0 q1
    refine C.out.mono ?_
    rintro e w1 ⟨A1, n1, c1, rfl, hrv, hn1, hb⟩
    have RR := Lib.hid ((X2.out.below hb X2.out.lt).alloc (.cells #[.slice A1 n1 c1, .int .i64 e1] rfT))
    have BZ := Lib.hid ((B2.out.trans (hb.mono B2.out.size)).alloc (Nat.le_trans B2.out.size hb.size) (.cells #[.slice A1 n1 c1, .int .i64 e1] rfT))
    have NB := Lib.hid (Whole.made w1 rfT #[.slice A1 n1 c1, .int .i64 e1] _ rfl)
    have nx0 : (w1.alloc (.cells #[.slice A1 n1 c1, .int .i64 e1] rfT)).cell? ⟨w1.heap.size, 0, none⟩ = some (.slice A1 n1 c1) := NB.out.cell 0
    have nx1 : (w1.alloc (.cells #[.slice A1 n1 c1, .int .i64 e1] rfT)).cell? ⟨w1.heap.size, 1, none⟩ = some (.int .i64 e1) := NB.out.cell 1
    have RT := Lib.hid (rc_ret RR.out BZ.out (Nat.le_succ _) BZ.out.size (.slice A1 n1 c1) (.int .i64 e1))
    have r0 : (w1.alloc (.cells #[.slice A1 n1 c1, .int .i64 e1] rfT)).cell? ⟨w.heap.size + 1, 0, none⟩ = some (.slice none 0 0) := RR.out.cell 0
    have fr0 : (w1.alloc (.cells #[.slice A1 n1 c1, .int .i64 e1] rfT)).frozen? ⟨w.heap.size + 1, 0, none⟩ = false := RR.out.free 0
    have r1 : (w1.alloc (.cells #[.slice A1 n1 c1, .int .i64 e1] rfT)).cell? ⟨w.heap.size + 1, 1, none⟩ = some (.int .i64 0) := RR.out.cell 1
    have fr1 : (w1.alloc (.cells #[.slice A1 n1 c1, .int .i64 e1] rfT)).frozen? ⟨w.heap.size + 1, 1, none⟩ = false := RR.out.free 1
    have s0 : (((w1.alloc (.cells #[.slice A1 n1 c1, .int .i64 e1] rfT)).setCell ⟨w.heap.size + 1, 0, none⟩ (.slice A1 n1 c1)).setCell ⟨w.heap.size + 1, 1, none⟩ (.int .i64 e1)).cell? ⟨w.heap.size + 1, 0, none⟩ = some (.slice A1 n1 c1) := RT.out.1.cell 0
    have s1 : (((w1.alloc (.cells #[.slice A1 n1 c1, .int .i64 e1] rfT)).setCell ⟨w.heap.size + 1, 0, none⟩ (.slice A1 n1 c1)).setCell ⟨w.heap.size + 1, 1, none⟩ (.int .i64 e1)).cell? ⟨w.heap.size + 1, 1, none⟩ = some (.int .i64 e1) := RT.out.1.cell 1
    clear hb hrv C X1 X2 B2
    go_wp2_with fail
    rw [P.out]
    refine bodyPost_ret (v := .tuple #[.agg #[.slice A1 n1 c1, .int .i64 e1], .string ⟨#[]⟩]) ?_ rfl ⟨A1, n1, c1, rfl, RfV.none HH.out, hn1, RT.out.2.1⟩
    simp [results, Try.results64, go_sem, s0, s1]
end Go.Proofs.Ythmjniedfiabhaa
