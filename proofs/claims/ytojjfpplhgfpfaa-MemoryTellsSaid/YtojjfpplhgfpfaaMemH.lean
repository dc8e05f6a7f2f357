/- The answers' memory: with. -/
import Derived.Test.YtojjfpplhgfpfaaMemF
namespace Go.Proofs.Ytojjfpplhgfpfaa
open Go.ChangeShapes Go.WideShapes Go.ChangeAt Go.RowKit
set_option linter.unusedVariables false

theorem splice_step {ws zs : List Int} {k j : Nat} (hk : k + zs.length ≤ ws.length) (hj : j < zs.length) : (splice ws k (zs.take j)).set (k + j) (zs.getD j 0) = splice ws k (zs.take (j + 1)) := by
  have e1 : (zs.take j).length = j := by rw [List.length_take]; omega
  have e2 : (zs.take (j + 1)).length = j + 1 := by rw [List.length_take]; omega
  have e3 : ws.drop (k + j) = ws[k + j] :: ws.drop (k + (j + 1)) := List.drop_eq_getElem_cons (by omega)
  have e4 : zs.take (j + 1) = zs.take j ++ [zs.getD j 0] := by
    rw [List.take_succ_eq_append_getElem hj]
    simp [List.getD, hj]
  have e5 : (ws.take k).length = k := by rw [List.length_take]; omega
  unfold splice
  rw [e2, e1, e3, e4, List.set_append_right _ _ (by omega), List.set_append_right _ _ (by omega), e5, e1]
  simp

theorem splice_zero (ws zs : List Int) (k : Nat) : splice ws k (zs.take 0) = ws := by
  rw [List.take_zero, splice_nil]

set_option maxHeartbeats 8000000 in
set_option maxRecDepth 100000 in
theorem with_any (h n k : Nat) (e0 e1 e2 e3 e4 : Int) (ws : List Int) (A : Option Addr) (m c : Nat) (zs : List Int) (w : World) (hw : Whole w h 22 (words ws)) (hn : ws.length = n) (hn2 : n ≤ 1000000) (hz : Nums .u32 w A m zs) (hkm : k + m ≤ n) :
    Calls Try.prog 34 #[.agg (memCells e0 e1 e2 e3 e4 h n), .int .i64 k, .slice A m c] w fun e w' => ∃ h', e = .returned (.agg (memCells e0 e1 e2 e3 e4 h' n)) ∧ Whole w' h' 22 (words (splice ws k zs)) ∧ w.heap.size ≤ h' ∧ Below w.heap.size w w' := by
  have hzl := hz.1
  unfold memCells
  have hmake := run_make_words (P := Try.prog) rowU32 .i64 n hn2 ((w.alloc (.cells #[.int .u32 e0, .int .u32 e1, .int .u32 e2, .int .u32 e3, .int .u32 e4, .slice (some ⟨h, 0, none⟩) n n] 32)).alloc (.cells #[.int .u32 0, .int .u32 0, .int .u32 0, .int .u32 0, .int .u32 0, .slice none 0 0] 32))
  have hsz : ((w.alloc (.cells #[.int .u32 e0, .int .u32 e1, .int .u32 e2, .int .u32 e3, .int .u32 e4, .slice (some ⟨h, 0, none⟩) n n] 32)).alloc (.cells #[.int .u32 0, .int .u32 0, .int .u32 0, .int .u32 0, .int .u32 0, .slice none 0 0] 32)).heap.size = w.heap.size + 2 := by simp
  rw [hsz] at hmake
  have Q0 := (Whole.made w 32 #[.int .u32 e0, .int .u32 e1, .int .u32 e2, .int .u32 e3, .int .u32 e4, .slice (some ⟨h, 0, none⟩) n n] _ rfl).alloc (.cells #[.int .u32 0, .int .u32 0, .int .u32 0, .int .u32 0, .int .u32 0, .slice none 0 0] 32)
  have T0 := Whole.made (w.alloc (.cells #[.int .u32 e0, .int .u32 e1, .int .u32 e2, .int .u32 e3, .int .u32 e4, .slice (some ⟨h, 0, none⟩) n n] 32)) 32 #[.int .u32 0, .int .u32 0, .int .u32 0, .int .u32 0, .int .u32 0, .slice none 0 0] (w.heap.size + 1) (by simp)
  have H0 := (hw.alloc (.cells #[.int .u32 e0, .int .u32 e1, .int .u32 e2, .int .u32 e3, .int .u32 e4, .slice (some ⟨h, 0, none⟩) n n] 32)).alloc (.cells #[.int .u32 0, .int .u32 0, .int .u32 0, .int .u32 0, .int .u32 0, .slice none 0 0] 32)
  have B0 := ((Below.refl w.heap.size w).alloc (Nat.le_refl _) (.cells #[.int .u32 e0, .int .u32 e1, .int .u32 e2, .int .u32 e3, .int .u32 e4, .slice (some ⟨h, 0, none⟩) n n] 32)).alloc (by simp) (.cells #[.int .u32 0, .int .u32 0, .int .u32 0, .int .u32 0, .int .u32 0, .slice none 0 0] 32)
  have q5a : ((w.alloc (.cells #[.int .u32 e0, .int .u32 e1, .int .u32 e2, .int .u32 e3, .int .u32 e4, .slice (some ⟨h, 0, none⟩) n n] 32)).alloc (.cells #[.int .u32 0, .int .u32 0, .int .u32 0, .int .u32 0, .int .u32 0, .slice none 0 0] 32)).cell? ⟨w.heap.size, 5, none⟩ = some (.slice (some ⟨h, 0, none⟩) n n) := Q0.cell 5
  have Q1 := Q0.alloc (.cells (words (List.replicate n 0)) 22)
  have T1 := T0.alloc (.cells (words (List.replicate n 0)) 22)
  have H1 := H0.alloc (.cells (words (List.replicate n 0)) 22)
  have D1 := Whole.made ((w.alloc (.cells #[.int .u32 e0, .int .u32 e1, .int .u32 e2, .int .u32 e3, .int .u32 e4, .slice (some ⟨h, 0, none⟩) n n] 32)).alloc (.cells #[.int .u32 0, .int .u32 0, .int .u32 0, .int .u32 0, .int .u32 0, .slice none 0 0] 32)) 22 (words (List.replicate n 0)) (w.heap.size + 2) hsz.symm
  have B1 := B0.alloc (by rw [hsz]; omega) (.cells (words (List.replicate n 0)) 22)
  have hN := H1.nums
  rw [hn] at hN
  have q5b := Q1.cell 5
  clear Q0 T0 H0 B0
  generalize ((w.alloc (.cells #[.int .u32 e0, .int .u32 e1, .int .u32 e2, .int .u32 e3, .int .u32 e4, .slice (some ⟨h, 0, none⟩) n n] 32)).alloc (.cells #[.int .u32 0, .int .u32 0, .int .u32 0, .int .u32 0, .int .u32 0, .slice none 0 0] 32)).alloc (.cells (words (List.replicate n 0)) 22) = w2 at *
  have hcopy := run_copy_all (P := Try.prog) (dT := 30) (sT := 30) (ty := 3) (elem := 22) (dCap := n) (c := n) Try.underlying30 (by kernel_rfl) D1 hN (by simp)
  have O1 := Only.setRow w2 (w.heap.size + 2) (words ws)
  have Q2 := Lib.hid (Q1.only (by omega) O1)
  have T2 := Lib.hid (T1.only (by omega) O1)
  have D2 := Lib.hid (D1.setRow (words ws))
  have B2 := Lib.hid (B1.trans (O1.below (by omega) (by have := D1.lt; omega)))
  have q5c : w2.cell? ⟨w.heap.size, 5, none⟩ = some (.slice (some ⟨h, 0, none⟩) n n) := q5b
  have HZ := Lib.hid hz
  clear Q1 T1 H1 D1 B1 hN q5b O1 hw hz
  generalize w2.setRow (w.heap.size + 2) (words ws) = w3 at *
  go_enter Try.func34, Try.ntmps34
  go_wp2_with fail
  go_loopw [8] (fun i wr => ∃ j : Nat, j ≤ m ∧ i = .int .i64 j ∧ Hid (Whole wr (w.heap.size + 2) 22 (words (splice ws k (zs.take j)))) ∧ Hid (Whole wr w.heap.size 32 #[.int .u32 e0, .int .u32 e1, .int .u32 e2, .int .u32 e3, .int .u32 e4, .slice (some ⟨h, 0, none⟩) n n]) ∧ Hid (Whole wr (w.heap.size + 1) 32 #[.int .u32 0, .int .u32 0, .int .u32 0, .int .u32 0, .int .u32 0, .slice none 0 0]) ∧ Hid (Below w.heap.size w wr)) (fun i _ => m - (intOf i).toNat)
  case atStart => exact ⟨0, Nat.zero_le _, rfl, by show Whole _ _ _ _; rw [splice_zero]; exact D2.out, Q2.out, T2.out, B2.out⟩
  case round =>
    obtain ⟨j, hj, rfl, HD, HQ, HT, HB⟩ := hrel
    by_cases hlt : j < m
    · obtain ⟨_, hc⟩ := HZ.out.below HB.out
      obtain ⟨b, off, rfl, hb, hcell⟩ := hc (by omega)
      have hc1 := hcell j hlt
      have hlen : (splice ws k (zs.take j)).length = n := by rw [length_splice _ _ _ (by rw [List.length_take]; omega)]; exact hn
      have c0 := HD.out.word (k := k + j) (by omega)
      have f0 : ∀ i, wr.frozen? ⟨w.heap.size + 2, i, none⟩ = false := HD.out.free
      have HS := Lib.hid (HD.out.store (k + j) (.int .u32 (zs.getD j 0)))
      rw [words_set, splice_step (by omega) (by omega)] at HS
      have HQ2 := Lib.hid (HQ.out.far (p := ⟨w.heap.size + 2, k + j, none⟩) (by show w.heap.size ≠ w.heap.size + 2; omega) (.int .u32 (zs.getD j 0)))
      have HT2 := Lib.hid (HT.out.far (p := ⟨w.heap.size + 2, k + j, none⟩) (by show w.heap.size + 1 ≠ w.heap.size + 2; omega) (.int .u32 (zs.getD j 0)))
      have HB2 := Lib.hid (HB.out.setCell (p := ⟨w.heap.size + 2, k + j, none⟩) (by show w.heap.size ≤ w.heap.size + 2; omega) (.int .u32 (zs.getD j 0)))
      clear hc hcell hlen HD HQ HT HB
      generalize zs.getD j 0 = z at *
      generalize (splice ws k (zs.take j)).getD (k + j) 0 = z' at *
      go_wp2_with fail
      go_roundw
      case rel => exact ⟨j + 1, by omega, by go_num, HS, HQ2, HT2, HB2⟩
      case measure => simp [intOf]; omega
    · obtain rfl : j = m := by omega
      rw [List.take_of_length_le (by omega : zs.length ≤ j)] at HD
      clear hmake hcopy q5a q5c
      have q0 : wr.cell? ⟨w.heap.size, 0, none⟩ = some (.int .u32 e0) := HQ.out.cell 0
      have q1 : wr.cell? ⟨w.heap.size, 1, none⟩ = some (.int .u32 e1) := HQ.out.cell 1
      have q2 : wr.cell? ⟨w.heap.size, 2, none⟩ = some (.int .u32 e2) := HQ.out.cell 2
      have q3 : wr.cell? ⟨w.heap.size, 3, none⟩ = some (.int .u32 e3) := HQ.out.cell 3
      have q4 : wr.cell? ⟨w.heap.size, 4, none⟩ = some (.int .u32 e4) := HQ.out.cell 4
      have q5 : wr.cell? ⟨w.heap.size, 5, none⟩ = some (.slice (some ⟨h, 0, none⟩) n n) := HQ.out.cell 5
      have t0 : wr.cell? ⟨w.heap.size + 1, 0, none⟩ = some (.int .u32 0) := HT.out.cell 0
      have t1 : wr.cell? ⟨w.heap.size + 1, 1, none⟩ = some (.int .u32 0) := HT.out.cell 1
      have t2 : wr.cell? ⟨w.heap.size + 1, 2, none⟩ = some (.int .u32 0) := HT.out.cell 2
      have t3 : wr.cell? ⟨w.heap.size + 1, 3, none⟩ = some (.int .u32 0) := HT.out.cell 3
      have t4 : wr.cell? ⟨w.heap.size + 1, 4, none⟩ = some (.int .u32 0) := HT.out.cell 4
      have t5 : wr.cell? ⟨w.heap.size + 1, 5, none⟩ = some (.slice none 0 0) := HT.out.cell 5
      have tf : ∀ i, wr.frozen? ⟨w.heap.size + 1, i, none⟩ = false := HT.out.free
      have qf : ∀ i, wr.frozen? ⟨w.heap.size, i, none⟩ = false := HQ.out.free
      have n1 : w.heap.size + 1 ≠ w.heap.size := by omega
      have n2 : w.heap.size + 2 ≠ w.heap.size := by omega
      have n3 : w.heap.size + 2 ≠ w.heap.size + 1 := by omega
      go_wp2_with fail

      have TU := Lib.hid (show Whole (((((((wr.setCell ⟨w.heap.size, 5, none⟩ (.slice (some ⟨w.heap.size + 2, 0, none⟩) n n)).setCell ⟨w.heap.size + 1, 0, none⟩ (.int .u32 e0)).setCell ⟨w.heap.size + 1, 1, none⟩ (.int .u32 e1)).setCell ⟨w.heap.size + 1, 2, none⟩ (.int .u32 e2)).setCell ⟨w.heap.size + 1, 3, none⟩ (.int .u32 e3)).setCell ⟨w.heap.size + 1, 4, none⟩ (.int .u32 e4)).setCell ⟨w.heap.size + 1, 5, none⟩ (.slice (some ⟨w.heap.size + 2, 0, none⟩) n n)) (w.heap.size + 1) 32 (memCells e0 e1 e2 e3 e4 (w.heap.size + 2) n) from (((((((HT.out.far (p := ⟨w.heap.size, 5, none⟩) n1 _).store 0 (.int .u32 e0)).store 1 (.int .u32 e1)).store 2 (.int .u32 e2)).store 3 (.int .u32 e3)).store 4 (.int .u32 e4)).store 5 (.slice (some ⟨w.heap.size + 2, 0, none⟩) n n)))
      have WU := Lib.hid (show Whole (((((((wr.setCell ⟨w.heap.size, 5, none⟩ (.slice (some ⟨w.heap.size + 2, 0, none⟩) n n)).setCell ⟨w.heap.size + 1, 0, none⟩ (.int .u32 e0)).setCell ⟨w.heap.size + 1, 1, none⟩ (.int .u32 e1)).setCell ⟨w.heap.size + 1, 2, none⟩ (.int .u32 e2)).setCell ⟨w.heap.size + 1, 3, none⟩ (.int .u32 e3)).setCell ⟨w.heap.size + 1, 4, none⟩ (.int .u32 e4)).setCell ⟨w.heap.size + 1, 5, none⟩ (.slice (some ⟨w.heap.size + 2, 0, none⟩) n n)) (w.heap.size + 2) 22 _ from (((((((HD.out.far (p := ⟨w.heap.size, 5, none⟩) n2 _).far (p := ⟨w.heap.size + 1, 0, none⟩) n3 _).far (p := ⟨w.heap.size + 1, 1, none⟩) n3 _).far (p := ⟨w.heap.size + 1, 2, none⟩) n3 _).far (p := ⟨w.heap.size + 1, 3, none⟩) n3 _).far (p := ⟨w.heap.size + 1, 4, none⟩) n3 _).far (p := ⟨w.heap.size + 1, 5, none⟩) n3 _))
      have BU := Lib.hid (show Below w.heap.size w (((((((wr.setCell ⟨w.heap.size, 5, none⟩ (.slice (some ⟨w.heap.size + 2, 0, none⟩) n n)).setCell ⟨w.heap.size + 1, 0, none⟩ (.int .u32 e0)).setCell ⟨w.heap.size + 1, 1, none⟩ (.int .u32 e1)).setCell ⟨w.heap.size + 1, 2, none⟩ (.int .u32 e2)).setCell ⟨w.heap.size + 1, 3, none⟩ (.int .u32 e3)).setCell ⟨w.heap.size + 1, 4, none⟩ (.int .u32 e4)).setCell ⟨w.heap.size + 1, 5, none⟩ (.slice (some ⟨w.heap.size + 2, 0, none⟩) n n)) from (((((((HB.out.setCell (p := ⟨w.heap.size, 5, none⟩) (Nat.le_refl _) _).setCell (p := ⟨w.heap.size + 1, 0, none⟩) (Nat.le_succ _) _).setCell (p := ⟨w.heap.size + 1, 1, none⟩) (Nat.le_succ _) _).setCell (p := ⟨w.heap.size + 1, 2, none⟩) (Nat.le_succ _) _).setCell (p := ⟨w.heap.size + 1, 3, none⟩) (Nat.le_succ _) _).setCell (p := ⟨w.heap.size + 1, 4, none⟩) (Nat.le_succ _) _).setCell (p := ⟨w.heap.size + 1, 5, none⟩) (Nat.le_succ _) _))
      clear q0 q1 q2 q3 q4 q5 t0 t1 t2 t3 t4 t5 tf
      generalize (((((((wr.setCell ⟨w.heap.size, 5, none⟩ (.slice (some ⟨w.heap.size + 2, 0, none⟩) n n)).setCell ⟨w.heap.size + 1, 0, none⟩ (.int .u32 e0)).setCell ⟨w.heap.size + 1, 1, none⟩ (.int .u32 e1)).setCell ⟨w.heap.size + 1, 2, none⟩ (.int .u32 e2)).setCell ⟨w.heap.size + 1, 3, none⟩ (.int .u32 e3)).setCell ⟨w.heap.size + 1, 4, none⟩ (.int .u32 e4)).setCell ⟨w.heap.size + 1, 5, none⟩ (.slice (some ⟨w.heap.size + 2, 0, none⟩) n n)) = V at *
      have t0 : V.cell? ⟨w.heap.size + 1, 0, none⟩ = some (.int .u32 e0) := TU.out.cell 0
      have t1 : V.cell? ⟨w.heap.size + 1, 1, none⟩ = some (.int .u32 e1) := TU.out.cell 1
      have t2 : V.cell? ⟨w.heap.size + 1, 2, none⟩ = some (.int .u32 e2) := TU.out.cell 2
      have t3 : V.cell? ⟨w.heap.size + 1, 3, none⟩ = some (.int .u32 e3) := TU.out.cell 3
      have t4 : V.cell? ⟨w.heap.size + 1, 4, none⟩ = some (.int .u32 e4) := TU.out.cell 4
      have t5 : V.cell? ⟨w.heap.size + 1, 5, none⟩ = some (.slice (some ⟨w.heap.size + 2, 0, none⟩) n n) := TU.out.cell 5
      go_wp2_with fail
      exact bodyPost_ret (v := .agg (memCells e0 e1 e2 e3 e4 (w.heap.size + 2) n)) (by simp [results, Try.results34, go_sem, t0, t1, t2, t3, t4, t5, memCells]) rfl ⟨w.heap.size + 2, rfl, WU.out, by omega, BU.out⟩
end Go.Proofs.Ytojjfpplhgfpfaa
