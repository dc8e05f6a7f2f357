/- MemF MemH MemI MemG MemT in one. -/
import Derived.Test.YtinpdgjbiimgkaaDoorMemE
import Derived.Test.YtinpdgjbiimgkaaDoorLift
import Derived.Deep.Slices
import Derived.Deep.Strs
import Derived.Test.YtinpdgjbiimgkaaDoorLaid

/- The answers' memory: Load, Fetch, Part. -/
namespace Go.Proofs.YtinpdgjbiimgkaaDoor
open Go.ChangeShapes Go.WideShapes Go.ChangeAt Go.RowKit
set_option linter.unusedVariables false

set_option maxHeartbeats 4000000 in
theorem refload_any (h n : Nat) (e0 e1 e2 e3 e4 at_ : Int) (ws : List Int) (w : World) (ha : U32 at_) (hw : Whole w h 22 (words ws)) (hn : ws.length = n) (hn2 : n ≤ 1000000) (hl : e4 = 4 * n) (hws : ∀ z ∈ ws, U32 z) :
    Calls Tryd.prog 41 #[.agg (memCells e0 e1 e2 e3 e4 h n), .int .u32 at_] w fun e w' => e = .returned (.tuple #[.int .u32 (readVal at_ e4 ws), .int .i64 (checkRes at_ e4)]) ∧ Below w.heap.size w w' := by
  obtain ⟨a0, a1⟩ := ha
  have hlt := hw.lt
  unfold memCells
  by_cases hm4 : at_ % 4 = 0
  · have d1 : (at_ % 4 != 0) = false := by simpa using hm4
    obtain ⟨k, hk⟩ := Int.eq_ofNat_of_zero_le (show 0 ≤ at_ / 4 by omega)
    have hk2 : k ≤ 1073741823 := by omega
    by_cases hp : n ≤ k
    · have hR : checkRes at_ e4 = 31 := checkRes_place hm4 (by omega)
      have hV : readVal at_ e4 ws = 0 := by unfold readVal; rw [hR]; rfl
      have d2 : decide (n ≤ k) = true := decide_eq_true (by omega)
      rw [hR, hV]
      clear hR hV hp hm4 hw hws hl
      go_enter Tryd.func41, Tryd.ntmps41
      go_wp2_with fail
      go_ret2
      exact ⟨rfl, (Below.refl _ _).alloc (Nat.le_refl _) _⟩
    · have hR : checkRes at_ e4 = 0 := checkRes_ok hm4 (by omega)
      have hV : readVal at_ e4 ws = ws.getD k 0 := by unfold readVal; rw [hR, hk]; rfl
      have d2 : decide (n ≤ k) = false := decide_eq_false (by omega)
      have hkn : k < n := by omega
      rw [hR, hV]
      obtain ⟨v0, v1⟩ := wordOfs hws k
      have c0 := (hw.alloc (.cells #[.int .u32 e0, .int .u32 e1, .int .u32 e2, .int .u32 e3, .int .u32 e4, .slice (some ⟨h, 0, none⟩) n n] 41)).word (k := k) (by omega)
      clear hR hV hp hm4 hw hws hl
      generalize ws.getD k 0 = v at *
      go_enter Tryd.func41, Tryd.ntmps41
      go_wp2_with fail
      go_ret2
      exact ⟨rfl, (Below.refl _ _).alloc (Nat.le_refl _) _⟩
  · have hR : checkRes at_ e4 = 30 := checkRes_align hm4
    have hV : readVal at_ e4 ws = 0 := by unfold readVal; rw [hR]; rfl
    have d1 : (at_ % 4 != 0) = true := by simpa using hm4
    rw [hR, hV]
    clear hR hV hm4 hw hws hl
    go_enter Tryd.func41, Tryd.ntmps41
    go_wp2_with fail
    go_ret2
    exact ⟨rfl, (Below.refl _ _).alloc (Nat.le_refl _) _⟩

set_option maxHeartbeats 4000000 in
theorem reffetch_any (h n : Nat) (e0 e1 e2 e3 e4 at_ : Int) (ws : List Int) (w : World) (ha : U32 at_) (hw : Whole w h 22 (words ws)) (hn : ws.length = n) (hn2 : n ≤ 1000000) (hl : e4 = 4 * n) (hws : ∀ z ∈ ws, U32 z) (h04 : e0 ≤ e4) :
    Calls Tryd.prog 23 #[.agg (memCells e0 e1 e2 e3 e4 h n), .int .u32 at_] w fun e w' => e = .returned (.tuple #[.int .u32 (readVal at_ e0 ws), .int .i64 (checkRes at_ e0)]) ∧ Below w.heap.size w w' := by
  have hlt := hw.lt
  have hC := fun w h' => refload_any h n e0 e1 e2 e3 e4 at_ ws w ha h' hn hn2 hl hws
  have HW := Lib.hid (hw.alloc (.cells #[.int .u32 e0, .int .u32 e1, .int .u32 e2, .int .u32 e3, .int .u32 e4, .slice (some ⟨h, 0, none⟩) n n] 41))
  have C := Lib.hid hC
  obtain ⟨a0, a1⟩ := ha
  clear hC hw hws
  unfold memCells at *
  by_cases hz : checkRes at_ e4 = 0
  · obtain ⟨z0, z1⟩ := checkRes_zero hz
    by_cases hp : e0 ≤ at_
    · have hR : checkRes at_ e0 = 31 := checkRes_place z0 hp
      have hV : readVal at_ e0 ws = 0 := by unfold readVal; rw [hR]; rfl
      have d2 : decide (e0 ≤ at_) = true := decide_eq_true hp
      rw [hR, hV]
      rw [hz] at C
      generalize readVal at_ e4 ws = v at *
      clear hR hV hp z0 z1 hz hl
      go_enter Tryd.func23, Tryd.ntmps23
      go_wp2_with fail
      refine (C.out _ HW.out).mono ?_
      rintro e w1 ⟨rfl, hb1⟩
      obtain ⟨hk1, hf1⟩ := kept_cells hb1
      have B1 := Lib.hid (((Below.refl _ _).alloc (Nat.le_refl _) _).trans (hb1.mono (show w.heap.size ≤ _ by simp)))
      clear hb1
      go_wp2_with fail
      go_ret2
      exact ⟨rfl, B1.out⟩
    · have hR : checkRes at_ e0 = 0 := checkRes_ok z0 (by omega)
      have hV : readVal at_ e0 ws = readVal at_ e4 ws := by unfold readVal; rw [hR, hz]
      have d2 : decide (e0 ≤ at_) = false := decide_eq_false hp
      rw [hR, hV]
      rw [hz] at C
      clear hV
      generalize readVal at_ e4 ws = v at *
      clear hR hp z0 z1 hz hl
      go_enter Tryd.func23, Tryd.ntmps23
      go_wp2_with fail
      refine (C.out _ HW.out).mono ?_
      rintro e w1 ⟨rfl, hb1⟩
      obtain ⟨hk1, hf1⟩ := kept_cells hb1
      have B1 := Lib.hid (((Below.refl _ _).alloc (Nat.le_refl _) _).trans (hb1.mono (show w.heap.size ≤ _ by simp)))
      clear hb1
      go_wp2_with fail
      go_ret2
      exact ⟨rfl, B1.out⟩
  · have hR : checkRes at_ e0 = checkRes at_ e4 := by
      by_cases hm : at_ % 4 = 0
      · have : e4 ≤ at_ := by
          rcases Int.lt_or_le at_ e4 with h1 | h1
          · exact absurd (checkRes_ok hm h1) hz
          · exact h1
        rw [checkRes_place hm (by omega), checkRes_place hm this]
      · rw [checkRes_align hm, checkRes_align hm]
    have hV : readVal at_ e0 ws = readVal at_ e4 ws := by unfold readVal; rw [hR]
    have d2 : (checkRes at_ e4 == 0) = false := by simpa using hz
    rw [hR, hV]
    clear hR hV
    generalize readVal at_ e4 ws = v at *
    generalize checkRes at_ e4 = er at *
    clear hz hl
    go_enter Tryd.func23, Tryd.ntmps23
    go_wp2_with fail
    refine (C.out _ HW.out).mono ?_
    rintro e w1 ⟨rfl, hb1⟩
    obtain ⟨hk1, hf1⟩ := kept_cells hb1
    have B1 := Lib.hid (((Below.refl _ _).alloc (Nat.le_refl _) _).trans (hb1.mono (show w.heap.size ≤ _ by simp)))
    clear hb1
    go_wp2_with fail
    go_ret2
    exact ⟨rfl, B1.out⟩

end Go.Proofs.YtinpdgjbiimgkaaDoor

/- The answers' memory: with. -/
namespace Go.Proofs.YtinpdgjbiimgkaaDoor
open Go.ChangeShapes Go.WideShapes Go.ChangeAt Go.RowKit
set_option linter.unusedVariables false

theorem splice_step {ws zs : List Int} {k j : Nat} (hk : k + zs.length ≤ ws.length) (hj : j < zs.length) : (splice ws k (zs.take j)).set (k + j) (zs.getD j 0) = splice ws k (zs.take (j + 1)) := by
  have e1 : (zs.take j).length = j := by rw [List.length_take]; omega
  have e2 : (zs.take (j + 1)).length = j + 1 := by rw [List.length_take]; omega
  have e3 : ws.drop (k + j) = ws[k + j] :: ws.drop (k + (j + 1)) := List.drop_eq_getElem_cons (by omega)
  have e4 : zs.take (j + 1) = zs.take j ++ [zs.getD j 0] := by
    rw [List.take_succ_eq_append_getElem hj]
    simp [List.getD, hj]
  have e5 : (ws.take k).length = k := by rw [List.length_take]; omega
  unfold splice
  rw [e2, e1, e3, e4, List.set_append_right _ _ (by omega), List.set_append_right _ _ (by omega), e5, e1]
  simp

theorem splice_zero (ws zs : List Int) (k : Nat) : splice ws k (zs.take 0) = ws := by
  rw [List.take_zero, splice_nil]

set_option maxHeartbeats 8000000 in
set_option maxRecDepth 100000 in
theorem with_any (h n k : Nat) (e0 e1 e2 e3 e4 : Int) (ws : List Int) (A : Option Addr) (m c : Nat) (zs : List Int) (w : World) (hw : Whole w h 22 (words ws)) (hn : ws.length = n) (hn2 : n ≤ 1000000) (hz : Nums .u32 w A m zs) (hkm : k + m ≤ n) :
    Calls Tryd.prog 35 #[.agg (memCells e0 e1 e2 e3 e4 h n), .int .i64 k, .slice A m c] w fun e w' => ∃ h', e = .returned (.agg (memCells e0 e1 e2 e3 e4 h' n)) ∧ Whole w' h' 22 (words (splice ws k zs)) ∧ w.heap.size ≤ h' ∧ Below w.heap.size w w' := by
  have hzl := hz.1
  unfold memCells
  have hmake := run_make_words (P := Tryd.prog) rowU32 .i64 n hn2 ((w.alloc (.cells #[.int .u32 e0, .int .u32 e1, .int .u32 e2, .int .u32 e3, .int .u32 e4, .slice (some ⟨h, 0, none⟩) n n] 41)).alloc (.cells #[.int .u32 0, .int .u32 0, .int .u32 0, .int .u32 0, .int .u32 0, .slice none 0 0] 41))
  have hsz : ((w.alloc (.cells #[.int .u32 e0, .int .u32 e1, .int .u32 e2, .int .u32 e3, .int .u32 e4, .slice (some ⟨h, 0, none⟩) n n] 41)).alloc (.cells #[.int .u32 0, .int .u32 0, .int .u32 0, .int .u32 0, .int .u32 0, .slice none 0 0] 41)).heap.size = w.heap.size + 2 := by simp
  rw [hsz] at hmake
  have Q0 := (Whole.made w 41 #[.int .u32 e0, .int .u32 e1, .int .u32 e2, .int .u32 e3, .int .u32 e4, .slice (some ⟨h, 0, none⟩) n n] _ rfl).alloc (.cells #[.int .u32 0, .int .u32 0, .int .u32 0, .int .u32 0, .int .u32 0, .slice none 0 0] 41)
  have T0 := Whole.made (w.alloc (.cells #[.int .u32 e0, .int .u32 e1, .int .u32 e2, .int .u32 e3, .int .u32 e4, .slice (some ⟨h, 0, none⟩) n n] 41)) 41 #[.int .u32 0, .int .u32 0, .int .u32 0, .int .u32 0, .int .u32 0, .slice none 0 0] (w.heap.size + 1) (by simp)
  have H0 := (hw.alloc (.cells #[.int .u32 e0, .int .u32 e1, .int .u32 e2, .int .u32 e3, .int .u32 e4, .slice (some ⟨h, 0, none⟩) n n] 41)).alloc (.cells #[.int .u32 0, .int .u32 0, .int .u32 0, .int .u32 0, .int .u32 0, .slice none 0 0] 41)
  have B0 := ((Below.refl w.heap.size w).alloc (Nat.le_refl _) (.cells #[.int .u32 e0, .int .u32 e1, .int .u32 e2, .int .u32 e3, .int .u32 e4, .slice (some ⟨h, 0, none⟩) n n] 41)).alloc (by simp) (.cells #[.int .u32 0, .int .u32 0, .int .u32 0, .int .u32 0, .int .u32 0, .slice none 0 0] 41)
  have q5a : ((w.alloc (.cells #[.int .u32 e0, .int .u32 e1, .int .u32 e2, .int .u32 e3, .int .u32 e4, .slice (some ⟨h, 0, none⟩) n n] 41)).alloc (.cells #[.int .u32 0, .int .u32 0, .int .u32 0, .int .u32 0, .int .u32 0, .slice none 0 0] 41)).cell? ⟨w.heap.size, 5, none⟩ = some (.slice (some ⟨h, 0, none⟩) n n) := Q0.cell 5
  have Q1 := Q0.alloc (.cells (words (List.replicate n 0)) 22)
  have T1 := T0.alloc (.cells (words (List.replicate n 0)) 22)
  have H1 := H0.alloc (.cells (words (List.replicate n 0)) 22)
  have D1 := Whole.made ((w.alloc (.cells #[.int .u32 e0, .int .u32 e1, .int .u32 e2, .int .u32 e3, .int .u32 e4, .slice (some ⟨h, 0, none⟩) n n] 41)).alloc (.cells #[.int .u32 0, .int .u32 0, .int .u32 0, .int .u32 0, .int .u32 0, .slice none 0 0] 41)) 22 (words (List.replicate n 0)) (w.heap.size + 2) hsz.symm
  have B1 := B0.alloc (by rw [hsz]; omega) (.cells (words (List.replicate n 0)) 22)
  have hN := H1.nums
  rw [hn] at hN
  have q5b := Q1.cell 5
  clear Q0 T0 H0 B0
  generalize ((w.alloc (.cells #[.int .u32 e0, .int .u32 e1, .int .u32 e2, .int .u32 e3, .int .u32 e4, .slice (some ⟨h, 0, none⟩) n n] 41)).alloc (.cells #[.int .u32 0, .int .u32 0, .int .u32 0, .int .u32 0, .int .u32 0, .slice none 0 0] 41)).alloc (.cells (words (List.replicate n 0)) 22) = w2 at *
  have hcopy := run_copy_all (P := Tryd.prog) (dT := 27) (sT := 27) (ty := 3) (elem := 22) (dCap := n) (c := n) Tryd.underlying27 (by kernel_rfl) D1 hN (by simp)
  have O1 := Only.setRow w2 (w.heap.size + 2) (words ws)
  have Q2 := Lib.hid (Q1.only (by omega) O1)
  have T2 := Lib.hid (T1.only (by omega) O1)
  have D2 := Lib.hid (D1.setRow (words ws))
  have B2 := Lib.hid (B1.trans (O1.below (by omega) (by have := D1.lt; omega)))
  have q5c : w2.cell? ⟨w.heap.size, 5, none⟩ = some (.slice (some ⟨h, 0, none⟩) n n) := q5b
  have HZ := Lib.hid hz
  clear Q1 T1 H1 D1 B1 hN q5b O1 hw hz
  generalize w2.setRow (w.heap.size + 2) (words ws) = w3 at *
  go_enter Tryd.func35, Tryd.ntmps35
  go_wp2_with fail
  go_loopw [8] (fun i wr => ∃ j : Nat, j ≤ m ∧ i = .int .i64 j ∧ Hid (Whole wr (w.heap.size + 2) 22 (words (splice ws k (zs.take j)))) ∧ Hid (Whole wr w.heap.size 41 #[.int .u32 e0, .int .u32 e1, .int .u32 e2, .int .u32 e3, .int .u32 e4, .slice (some ⟨h, 0, none⟩) n n]) ∧ Hid (Whole wr (w.heap.size + 1) 41 #[.int .u32 0, .int .u32 0, .int .u32 0, .int .u32 0, .int .u32 0, .slice none 0 0]) ∧ Hid (Below w.heap.size w wr)) (fun i _ => m - (intOf i).toNat)
  case atStart => exact ⟨0, Nat.zero_le _, rfl, by show Whole _ _ _ _; rw [splice_zero]; exact D2.out, Q2.out, T2.out, B2.out⟩
  case round =>
    obtain ⟨j, hj, rfl, HD, HQ, HT, HB⟩ := hrel
    by_cases hlt : j < m
    · obtain ⟨_, hc⟩ := HZ.out.below HB.out
      obtain ⟨b, off, rfl, hb, hcell⟩ := hc (by omega)
      have hc1 := hcell j hlt
      have hlen : (splice ws k (zs.take j)).length = n := by rw [length_splice _ _ _ (by rw [List.length_take]; omega)]; exact hn
      have c0 := HD.out.word (k := k + j) (by omega)
      have f0 : ∀ i, wr.frozen? ⟨w.heap.size + 2, i, none⟩ = false := HD.out.free
      have HS := Lib.hid (HD.out.store (k + j) (.int .u32 (zs.getD j 0)))
      rw [words_set, splice_step (by omega) (by omega)] at HS
      have HQ2 := Lib.hid (HQ.out.far (p := ⟨w.heap.size + 2, k + j, none⟩) (by show w.heap.size ≠ w.heap.size + 2; omega) (.int .u32 (zs.getD j 0)))
      have HT2 := Lib.hid (HT.out.far (p := ⟨w.heap.size + 2, k + j, none⟩) (by show w.heap.size + 1 ≠ w.heap.size + 2; omega) (.int .u32 (zs.getD j 0)))
      have HB2 := Lib.hid (HB.out.setCell (p := ⟨w.heap.size + 2, k + j, none⟩) (by show w.heap.size ≤ w.heap.size + 2; omega) (.int .u32 (zs.getD j 0)))
      clear hc hcell hlen HD HQ HT HB
      generalize zs.getD j 0 = z at *
      generalize (splice ws k (zs.take j)).getD (k + j) 0 = z' at *
      go_wp2_with fail
      go_roundw
      case rel => exact ⟨j + 1, by omega, by go_num, HS, HQ2, HT2, HB2⟩
      case measure => simp [intOf]; omega
    · obtain rfl : j = m := by omega
      rw [List.take_of_length_le (by omega : zs.length ≤ j)] at HD
      clear hmake hcopy q5a q5c
      have q0 : wr.cell? ⟨w.heap.size, 0, none⟩ = some (.int .u32 e0) := HQ.out.cell 0
      have q1 : wr.cell? ⟨w.heap.size, 1, none⟩ = some (.int .u32 e1) := HQ.out.cell 1
      have q2 : wr.cell? ⟨w.heap.size, 2, none⟩ = some (.int .u32 e2) := HQ.out.cell 2
      have q3 : wr.cell? ⟨w.heap.size, 3, none⟩ = some (.int .u32 e3) := HQ.out.cell 3
      have q4 : wr.cell? ⟨w.heap.size, 4, none⟩ = some (.int .u32 e4) := HQ.out.cell 4
      have q5 : wr.cell? ⟨w.heap.size, 5, none⟩ = some (.slice (some ⟨h, 0, none⟩) n n) := HQ.out.cell 5
      have t0 : wr.cell? ⟨w.heap.size + 1, 0, none⟩ = some (.int .u32 0) := HT.out.cell 0
      have t1 : wr.cell? ⟨w.heap.size + 1, 1, none⟩ = some (.int .u32 0) := HT.out.cell 1
      have t2 : wr.cell? ⟨w.heap.size + 1, 2, none⟩ = some (.int .u32 0) := HT.out.cell 2
      have t3 : wr.cell? ⟨w.heap.size + 1, 3, none⟩ = some (.int .u32 0) := HT.out.cell 3
      have t4 : wr.cell? ⟨w.heap.size + 1, 4, none⟩ = some (.int .u32 0) := HT.out.cell 4
      have t5 : wr.cell? ⟨w.heap.size + 1, 5, none⟩ = some (.slice none 0 0) := HT.out.cell 5
      have tf : ∀ i, wr.frozen? ⟨w.heap.size + 1, i, none⟩ = false := HT.out.free
      have qf : ∀ i, wr.frozen? ⟨w.heap.size, i, none⟩ = false := HQ.out.free
      have n1 : w.heap.size + 1 ≠ w.heap.size := by omega
      have n2 : w.heap.size + 2 ≠ w.heap.size := by omega
      have n3 : w.heap.size + 2 ≠ w.heap.size + 1 := by omega
      go_wp2_with fail

      have TU := Lib.hid (show Whole (((((((wr.setCell ⟨w.heap.size, 5, none⟩ (.slice (some ⟨w.heap.size + 2, 0, none⟩) n n)).setCell ⟨w.heap.size + 1, 0, none⟩ (.int .u32 e0)).setCell ⟨w.heap.size + 1, 1, none⟩ (.int .u32 e1)).setCell ⟨w.heap.size + 1, 2, none⟩ (.int .u32 e2)).setCell ⟨w.heap.size + 1, 3, none⟩ (.int .u32 e3)).setCell ⟨w.heap.size + 1, 4, none⟩ (.int .u32 e4)).setCell ⟨w.heap.size + 1, 5, none⟩ (.slice (some ⟨w.heap.size + 2, 0, none⟩) n n)) (w.heap.size + 1) 41 (memCells e0 e1 e2 e3 e4 (w.heap.size + 2) n) from (((((((HT.out.far (p := ⟨w.heap.size, 5, none⟩) n1 _).store 0 (.int .u32 e0)).store 1 (.int .u32 e1)).store 2 (.int .u32 e2)).store 3 (.int .u32 e3)).store 4 (.int .u32 e4)).store 5 (.slice (some ⟨w.heap.size + 2, 0, none⟩) n n)))
      have WU := Lib.hid (show Whole (((((((wr.setCell ⟨w.heap.size, 5, none⟩ (.slice (some ⟨w.heap.size + 2, 0, none⟩) n n)).setCell ⟨w.heap.size + 1, 0, none⟩ (.int .u32 e0)).setCell ⟨w.heap.size + 1, 1, none⟩ (.int .u32 e1)).setCell ⟨w.heap.size + 1, 2, none⟩ (.int .u32 e2)).setCell ⟨w.heap.size + 1, 3, none⟩ (.int .u32 e3)).setCell ⟨w.heap.size + 1, 4, none⟩ (.int .u32 e4)).setCell ⟨w.heap.size + 1, 5, none⟩ (.slice (some ⟨w.heap.size + 2, 0, none⟩) n n)) (w.heap.size + 2) 22 _ from (((((((HD.out.far (p := ⟨w.heap.size, 5, none⟩) n2 _).far (p := ⟨w.heap.size + 1, 0, none⟩) n3 _).far (p := ⟨w.heap.size + 1, 1, none⟩) n3 _).far (p := ⟨w.heap.size + 1, 2, none⟩) n3 _).far (p := ⟨w.heap.size + 1, 3, none⟩) n3 _).far (p := ⟨w.heap.size + 1, 4, none⟩) n3 _).far (p := ⟨w.heap.size + 1, 5, none⟩) n3 _))
      have BU := Lib.hid (show Below w.heap.size w (((((((wr.setCell ⟨w.heap.size, 5, none⟩ (.slice (some ⟨w.heap.size + 2, 0, none⟩) n n)).setCell ⟨w.heap.size + 1, 0, none⟩ (.int .u32 e0)).setCell ⟨w.heap.size + 1, 1, none⟩ (.int .u32 e1)).setCell ⟨w.heap.size + 1, 2, none⟩ (.int .u32 e2)).setCell ⟨w.heap.size + 1, 3, none⟩ (.int .u32 e3)).setCell ⟨w.heap.size + 1, 4, none⟩ (.int .u32 e4)).setCell ⟨w.heap.size + 1, 5, none⟩ (.slice (some ⟨w.heap.size + 2, 0, none⟩) n n)) from (((((((HB.out.setCell (p := ⟨w.heap.size, 5, none⟩) (Nat.le_refl _) _).setCell (p := ⟨w.heap.size + 1, 0, none⟩) (Nat.le_succ _) _).setCell (p := ⟨w.heap.size + 1, 1, none⟩) (Nat.le_succ _) _).setCell (p := ⟨w.heap.size + 1, 2, none⟩) (Nat.le_succ _) _).setCell (p := ⟨w.heap.size + 1, 3, none⟩) (Nat.le_succ _) _).setCell (p := ⟨w.heap.size + 1, 4, none⟩) (Nat.le_succ _) _).setCell (p := ⟨w.heap.size + 1, 5, none⟩) (Nat.le_succ _) _))
      clear q0 q1 q2 q3 q4 q5 t0 t1 t2 t3 t4 t5 tf
      generalize (((((((wr.setCell ⟨w.heap.size, 5, none⟩ (.slice (some ⟨w.heap.size + 2, 0, none⟩) n n)).setCell ⟨w.heap.size + 1, 0, none⟩ (.int .u32 e0)).setCell ⟨w.heap.size + 1, 1, none⟩ (.int .u32 e1)).setCell ⟨w.heap.size + 1, 2, none⟩ (.int .u32 e2)).setCell ⟨w.heap.size + 1, 3, none⟩ (.int .u32 e3)).setCell ⟨w.heap.size + 1, 4, none⟩ (.int .u32 e4)).setCell ⟨w.heap.size + 1, 5, none⟩ (.slice (some ⟨w.heap.size + 2, 0, none⟩) n n)) = V at *
      have t0 : V.cell? ⟨w.heap.size + 1, 0, none⟩ = some (.int .u32 e0) := TU.out.cell 0
      have t1 : V.cell? ⟨w.heap.size + 1, 1, none⟩ = some (.int .u32 e1) := TU.out.cell 1
      have t2 : V.cell? ⟨w.heap.size + 1, 2, none⟩ = some (.int .u32 e2) := TU.out.cell 2
      have t3 : V.cell? ⟨w.heap.size + 1, 3, none⟩ = some (.int .u32 e3) := TU.out.cell 3
      have t4 : V.cell? ⟨w.heap.size + 1, 4, none⟩ = some (.int .u32 e4) := TU.out.cell 4
      have t5 : V.cell? ⟨w.heap.size + 1, 5, none⟩ = some (.slice (some ⟨w.heap.size + 2, 0, none⟩) n n) := TU.out.cell 5
      go_wp2_with fail
      exact bodyPost_ret (v := .agg (memCells e0 e1 e2 e3 e4 (w.heap.size + 2) n)) (by simp [results, Tryd.results35, go_sem, t0, t1, t2, t3, t4, t5, memCells]) rfl ⟨w.heap.size + 2, rfl, WU.out, by omega, BU.out⟩
end Go.Proofs.YtinpdgjbiimgkaaDoor

/- The answers' memory: Store, Fill. -/
namespace Go.Proofs.YtinpdgjbiimgkaaDoor
open Go.ChangeShapes Go.WideShapes Go.ChangeAt Go.RowKit
set_option linter.unusedVariables false

set_option maxHeartbeats 8000000 in
set_option maxRecDepth 100000 in
theorem refstore_err (h n : Nat) (e0 e1 e2 e3 e4 at_ v : Int) (ws : List Int) (w : World) (ha : U32 at_) (hv : U32 v) (hw : Whole w h 22 (words ws)) (hn : ws.length = n) (hn2 : n ≤ 1000000) (hl : e4 = 4 * n) (hws : ∀ z ∈ ws, U32 z) (er : Int) (he : checkRes at_ e4 = er) (h0 : er ≠ 0) :
    Calls Tryd.prog 46 #[.agg (memCells e0 e1 e2 e3 e4 h n), .int .u32 at_, .int .u32 v] w (fun e w' => ∃ h', e = .returned (.tuple #[.agg (memCells e0 e1 e2 e3 e4 h' n), .int .i64 er]) ∧ Whole w' h' 22 (words ws) ∧ (h' = h ∨ w.heap.size ≤ h') ∧ Below w.heap.size w w') := by
  have hC := fun w h' => refload_any h n e0 e1 e2 e3 e4 at_ ws w ha h' hn hn2 hl hws
  obtain ⟨a0, a1⟩ := ha
  unfold memCells at *
  have hsz : ((w.alloc (.cells #[.int .u32 e0, .int .u32 e1, .int .u32 e2, .int .u32 e3, .int .u32 e4, .slice (some ⟨h, 0, none⟩) n n] 41)).alloc (.cells #[.int .u32 0, .int .u32 0, .int .u32 0, .int .u32 0, .int .u32 0, .slice none 0 0] 41)).heap.size = w.heap.size + 2 := by simp
  have Q0 := Lib.hid ((Whole.made w 41 #[.int .u32 e0, .int .u32 e1, .int .u32 e2, .int .u32 e3, .int .u32 e4, .slice (some ⟨h, 0, none⟩) n n] _ rfl).alloc (.cells #[.int .u32 0, .int .u32 0, .int .u32 0, .int .u32 0, .int .u32 0, .slice none 0 0] 41))
  have T0 := Lib.hid (Whole.made (w.alloc (.cells #[.int .u32 e0, .int .u32 e1, .int .u32 e2, .int .u32 e3, .int .u32 e4, .slice (some ⟨h, 0, none⟩) n n] 41)) 41 #[.int .u32 0, .int .u32 0, .int .u32 0, .int .u32 0, .int .u32 0, .slice none 0 0] (w.heap.size + 1) (by simp))
  have H0 := Lib.hid ((hw.alloc (.cells #[.int .u32 e0, .int .u32 e1, .int .u32 e2, .int .u32 e3, .int .u32 e4, .slice (some ⟨h, 0, none⟩) n n] 41)).alloc (.cells #[.int .u32 0, .int .u32 0, .int .u32 0, .int .u32 0, .int .u32 0, .slice none 0 0] 41))
  have B0 := Lib.hid (((Below.refl w.heap.size w).alloc (Nat.le_refl _) (.cells #[.int .u32 e0, .int .u32 e1, .int .u32 e2, .int .u32 e3, .int .u32 e4, .slice (some ⟨h, 0, none⟩) n n] 41)).alloc (by simp) (.cells #[.int .u32 0, .int .u32 0, .int .u32 0, .int .u32 0, .int .u32 0, .slice none 0 0] 41))
  have hlt := hw.lt
  have n1 : w.heap.size + 1 ≠ w.heap.size := by omega
  have nh : h ≠ w.heap.size + 1 := by omega
  simp only [he] at hC
  have d1 : (er != 0) = true := by simpa using h0
  clear he h0
  have C := Lib.hid hC
  clear hC hw hws hl
  generalize readVal at_ e4 ws = rv at *
  go_enter Tryd.func46, Tryd.ntmps46
  go_wp2_with fail
  generalize ((w.alloc (.cells #[.int .u32 e0, .int .u32 e1, .int .u32 e2, .int .u32 e3, .int .u32 e4, .slice (some ⟨h, 0, none⟩) n n] 41)).alloc (.cells #[.int .u32 0, .int .u32 0, .int .u32 0, .int .u32 0, .int .u32 0, .slice none 0 0] 41)) = w1 at *
  refine (C.out _ H0.out).mono ?_
  rintro e w2 ⟨rfl, hb2⟩
  have Q2 := Lib.hid (Q0.out.below hb2 Q0.out.lt)
  have T2 := Lib.hid (T0.out.below hb2 T0.out.lt)
  have H2 := Lib.hid (H0.out.below hb2 H0.out.lt)
  have B2 := Lib.hid (B0.out.trans (hb2.mono B0.out.size))
  clear hb2 Q0 T0 H0 B0
  have q0 : w2.cell? ⟨w.heap.size, 0, none⟩ = some (.int .u32 e0) := Q2.out.cell 0
  have q1 : w2.cell? ⟨w.heap.size, 1, none⟩ = some (.int .u32 e1) := Q2.out.cell 1
  have q2 : w2.cell? ⟨w.heap.size, 2, none⟩ = some (.int .u32 e2) := Q2.out.cell 2
  have q3 : w2.cell? ⟨w.heap.size, 3, none⟩ = some (.int .u32 e3) := Q2.out.cell 3
  have q4 : w2.cell? ⟨w.heap.size, 4, none⟩ = some (.int .u32 e4) := Q2.out.cell 4
  have q5 : w2.cell? ⟨w.heap.size, 5, none⟩ = some (.slice (some ⟨h, 0, none⟩) n n) := Q2.out.cell 5
  have t0 : w2.cell? ⟨w.heap.size + 1, 0, none⟩ = some (.int .u32 0) := T2.out.cell 0
  have t1 : w2.cell? ⟨w.heap.size + 1, 1, none⟩ = some (.int .u32 0) := T2.out.cell 1
  have t2 : w2.cell? ⟨w.heap.size + 1, 2, none⟩ = some (.int .u32 0) := T2.out.cell 2
  have t3 : w2.cell? ⟨w.heap.size + 1, 3, none⟩ = some (.int .u32 0) := T2.out.cell 3
  have t4 : w2.cell? ⟨w.heap.size + 1, 4, none⟩ = some (.int .u32 0) := T2.out.cell 4
  have t5 : w2.cell? ⟨w.heap.size + 1, 5, none⟩ = some (.slice none 0 0) := T2.out.cell 5
  have tf : ∀ i, w2.frozen? ⟨w.heap.size + 1, i, none⟩ = false := T2.out.free

  go_wp2_with fail
  have TU := Lib.hid (show Whole ((((((w2.setCell ⟨w.heap.size + 1, 0, none⟩ (.int .u32 e0)).setCell ⟨w.heap.size + 1, 1, none⟩ (.int .u32 e1)).setCell ⟨w.heap.size + 1, 2, none⟩ (.int .u32 e2)).setCell ⟨w.heap.size + 1, 3, none⟩ (.int .u32 e3)).setCell ⟨w.heap.size + 1, 4, none⟩ (.int .u32 e4)).setCell ⟨w.heap.size + 1, 5, none⟩ (.slice (some ⟨h, 0, none⟩) n n)) (w.heap.size + 1) 41 (memCells e0 e1 e2 e3 e4 (h) n) from ((((((T2.out.store 0 (.int .u32 e0)).store 1 (.int .u32 e1)).store 2 (.int .u32 e2)).store 3 (.int .u32 e3)).store 4 (.int .u32 e4)).store 5 (.slice (some ⟨h, 0, none⟩) n n)))
  have WU := Lib.hid (show Whole ((((((w2.setCell ⟨w.heap.size + 1, 0, none⟩ (.int .u32 e0)).setCell ⟨w.heap.size + 1, 1, none⟩ (.int .u32 e1)).setCell ⟨w.heap.size + 1, 2, none⟩ (.int .u32 e2)).setCell ⟨w.heap.size + 1, 3, none⟩ (.int .u32 e3)).setCell ⟨w.heap.size + 1, 4, none⟩ (.int .u32 e4)).setCell ⟨w.heap.size + 1, 5, none⟩ (.slice (some ⟨h, 0, none⟩) n n)) (h) 22 _ from ((((((H2.out.far (p := ⟨w.heap.size + 1, 0, none⟩) nh _).far (p := ⟨w.heap.size + 1, 1, none⟩) nh _).far (p := ⟨w.heap.size + 1, 2, none⟩) nh _).far (p := ⟨w.heap.size + 1, 3, none⟩) nh _).far (p := ⟨w.heap.size + 1, 4, none⟩) nh _).far (p := ⟨w.heap.size + 1, 5, none⟩) nh _))
  have BU := Lib.hid (show Below w.heap.size w ((((((w2.setCell ⟨w.heap.size + 1, 0, none⟩ (.int .u32 e0)).setCell ⟨w.heap.size + 1, 1, none⟩ (.int .u32 e1)).setCell ⟨w.heap.size + 1, 2, none⟩ (.int .u32 e2)).setCell ⟨w.heap.size + 1, 3, none⟩ (.int .u32 e3)).setCell ⟨w.heap.size + 1, 4, none⟩ (.int .u32 e4)).setCell ⟨w.heap.size + 1, 5, none⟩ (.slice (some ⟨h, 0, none⟩) n n)) from ((((((B2.out.setCell (p := ⟨w.heap.size + 1, 0, none⟩) (Nat.le_succ _) _).setCell (p := ⟨w.heap.size + 1, 1, none⟩) (Nat.le_succ _) _).setCell (p := ⟨w.heap.size + 1, 2, none⟩) (Nat.le_succ _) _).setCell (p := ⟨w.heap.size + 1, 3, none⟩) (Nat.le_succ _) _).setCell (p := ⟨w.heap.size + 1, 4, none⟩) (Nat.le_succ _) _).setCell (p := ⟨w.heap.size + 1, 5, none⟩) (Nat.le_succ _) _))
  clear q0 q1 q2 q3 q4 q5 t0 t1 t2 t3 t4 t5 tf
  generalize ((((((w2.setCell ⟨w.heap.size + 1, 0, none⟩ (.int .u32 e0)).setCell ⟨w.heap.size + 1, 1, none⟩ (.int .u32 e1)).setCell ⟨w.heap.size + 1, 2, none⟩ (.int .u32 e2)).setCell ⟨w.heap.size + 1, 3, none⟩ (.int .u32 e3)).setCell ⟨w.heap.size + 1, 4, none⟩ (.int .u32 e4)).setCell ⟨w.heap.size + 1, 5, none⟩ (.slice (some ⟨h, 0, none⟩) n n)) = V at *
  have t0 : V.cell? ⟨w.heap.size + 1, 0, none⟩ = some (.int .u32 e0) := TU.out.cell 0
  have t1 : V.cell? ⟨w.heap.size + 1, 1, none⟩ = some (.int .u32 e1) := TU.out.cell 1
  have t2 : V.cell? ⟨w.heap.size + 1, 2, none⟩ = some (.int .u32 e2) := TU.out.cell 2
  have t3 : V.cell? ⟨w.heap.size + 1, 3, none⟩ = some (.int .u32 e3) := TU.out.cell 3
  have t4 : V.cell? ⟨w.heap.size + 1, 4, none⟩ = some (.int .u32 e4) := TU.out.cell 4
  have t5 : V.cell? ⟨w.heap.size + 1, 5, none⟩ = some (.slice (some ⟨h, 0, none⟩) n n) := TU.out.cell 5
  go_wp2_with fail
  exact bodyPost_ret (v := .tuple #[.agg (memCells e0 e1 e2 e3 e4 (h) n), .int .i64 er]) (by simp [results, Tryd.results46, go_sem, t0, t1, t2, t3, t4, t5, memCells]) rfl ⟨h, rfl, WU.out, .inl rfl, BU.out⟩

set_option maxHeartbeats 8000000 in
set_option maxRecDepth 100000 in
theorem refstore_write (h n : Nat) (e0 e1 e2 e3 e4 at_ v : Int) (ws : List Int) (w : World) (ha : U32 at_) (hv : U32 v) (hw : Whole w h 22 (words ws)) (hn : ws.length = n) (hn2 : n ≤ 1000000) (hl : e4 = 4 * n) (hws : ∀ z ∈ ws, U32 z) (he : checkRes at_ e4 = 0) (hlt1 : at_ < e1) :
    Calls Tryd.prog 46 #[.agg (memCells e0 e1 e2 e3 e4 h n), .int .u32 at_, .int .u32 v] w (fun e w' => ∃ h', e = .returned (.tuple #[.agg (memCells e0 e1 e2 e3 e4 h' n), .int .i64 32]) ∧ Whole w' h' 22 (words ws) ∧ (h' = h ∨ w.heap.size ≤ h') ∧ Below w.heap.size w w') := by
  have hC := fun w h' => refload_any h n e0 e1 e2 e3 e4 at_ ws w ha h' hn hn2 hl hws
  obtain ⟨a0, a1⟩ := ha
  unfold memCells at *
  have hsz : ((w.alloc (.cells #[.int .u32 e0, .int .u32 e1, .int .u32 e2, .int .u32 e3, .int .u32 e4, .slice (some ⟨h, 0, none⟩) n n] 41)).alloc (.cells #[.int .u32 0, .int .u32 0, .int .u32 0, .int .u32 0, .int .u32 0, .slice none 0 0] 41)).heap.size = w.heap.size + 2 := by simp
  have Q0 := Lib.hid ((Whole.made w 41 #[.int .u32 e0, .int .u32 e1, .int .u32 e2, .int .u32 e3, .int .u32 e4, .slice (some ⟨h, 0, none⟩) n n] _ rfl).alloc (.cells #[.int .u32 0, .int .u32 0, .int .u32 0, .int .u32 0, .int .u32 0, .slice none 0 0] 41))
  have T0 := Lib.hid (Whole.made (w.alloc (.cells #[.int .u32 e0, .int .u32 e1, .int .u32 e2, .int .u32 e3, .int .u32 e4, .slice (some ⟨h, 0, none⟩) n n] 41)) 41 #[.int .u32 0, .int .u32 0, .int .u32 0, .int .u32 0, .int .u32 0, .slice none 0 0] (w.heap.size + 1) (by simp))
  have H0 := Lib.hid ((hw.alloc (.cells #[.int .u32 e0, .int .u32 e1, .int .u32 e2, .int .u32 e3, .int .u32 e4, .slice (some ⟨h, 0, none⟩) n n] 41)).alloc (.cells #[.int .u32 0, .int .u32 0, .int .u32 0, .int .u32 0, .int .u32 0, .slice none 0 0] 41))
  have B0 := Lib.hid (((Below.refl w.heap.size w).alloc (Nat.le_refl _) (.cells #[.int .u32 e0, .int .u32 e1, .int .u32 e2, .int .u32 e3, .int .u32 e4, .slice (some ⟨h, 0, none⟩) n n] 41)).alloc (by simp) (.cells #[.int .u32 0, .int .u32 0, .int .u32 0, .int .u32 0, .int .u32 0, .slice none 0 0] 41))
  have hlt := hw.lt
  have n1 : w.heap.size + 1 ≠ w.heap.size := by omega
  have nh : h ≠ w.heap.size + 1 := by omega
  simp only [he] at hC
  have d1 : decide (at_ < e1) = true := decide_eq_true hlt1
  clear he hlt1
  have C := Lib.hid hC
  clear hC hw hws hl
  generalize readVal at_ e4 ws = rv at *
  go_enter Tryd.func46, Tryd.ntmps46
  go_wp2_with fail
  generalize ((w.alloc (.cells #[.int .u32 e0, .int .u32 e1, .int .u32 e2, .int .u32 e3, .int .u32 e4, .slice (some ⟨h, 0, none⟩) n n] 41)).alloc (.cells #[.int .u32 0, .int .u32 0, .int .u32 0, .int .u32 0, .int .u32 0, .slice none 0 0] 41)) = w1 at *
  refine (C.out _ H0.out).mono ?_
  rintro e w2 ⟨rfl, hb2⟩
  have Q2 := Lib.hid (Q0.out.below hb2 Q0.out.lt)
  have T2 := Lib.hid (T0.out.below hb2 T0.out.lt)
  have H2 := Lib.hid (H0.out.below hb2 H0.out.lt)
  have B2 := Lib.hid (B0.out.trans (hb2.mono B0.out.size))
  clear hb2 Q0 T0 H0 B0
  have q0 : w2.cell? ⟨w.heap.size, 0, none⟩ = some (.int .u32 e0) := Q2.out.cell 0
  have q1 : w2.cell? ⟨w.heap.size, 1, none⟩ = some (.int .u32 e1) := Q2.out.cell 1
  have q2 : w2.cell? ⟨w.heap.size, 2, none⟩ = some (.int .u32 e2) := Q2.out.cell 2
  have q3 : w2.cell? ⟨w.heap.size, 3, none⟩ = some (.int .u32 e3) := Q2.out.cell 3
  have q4 : w2.cell? ⟨w.heap.size, 4, none⟩ = some (.int .u32 e4) := Q2.out.cell 4
  have q5 : w2.cell? ⟨w.heap.size, 5, none⟩ = some (.slice (some ⟨h, 0, none⟩) n n) := Q2.out.cell 5
  have t0 : w2.cell? ⟨w.heap.size + 1, 0, none⟩ = some (.int .u32 0) := T2.out.cell 0
  have t1 : w2.cell? ⟨w.heap.size + 1, 1, none⟩ = some (.int .u32 0) := T2.out.cell 1
  have t2 : w2.cell? ⟨w.heap.size + 1, 2, none⟩ = some (.int .u32 0) := T2.out.cell 2
  have t3 : w2.cell? ⟨w.heap.size + 1, 3, none⟩ = some (.int .u32 0) := T2.out.cell 3
  have t4 : w2.cell? ⟨w.heap.size + 1, 4, none⟩ = some (.int .u32 0) := T2.out.cell 4
  have t5 : w2.cell? ⟨w.heap.size + 1, 5, none⟩ = some (.slice none 0 0) := T2.out.cell 5
  have tf : ∀ i, w2.frozen? ⟨w.heap.size + 1, i, none⟩ = false := T2.out.free

  go_wp2_with fail
  have TU := Lib.hid (show Whole ((((((w2.setCell ⟨w.heap.size + 1, 0, none⟩ (.int .u32 e0)).setCell ⟨w.heap.size + 1, 1, none⟩ (.int .u32 e1)).setCell ⟨w.heap.size + 1, 2, none⟩ (.int .u32 e2)).setCell ⟨w.heap.size + 1, 3, none⟩ (.int .u32 e3)).setCell ⟨w.heap.size + 1, 4, none⟩ (.int .u32 e4)).setCell ⟨w.heap.size + 1, 5, none⟩ (.slice (some ⟨h, 0, none⟩) n n)) (w.heap.size + 1) 41 (memCells e0 e1 e2 e3 e4 (h) n) from ((((((T2.out.store 0 (.int .u32 e0)).store 1 (.int .u32 e1)).store 2 (.int .u32 e2)).store 3 (.int .u32 e3)).store 4 (.int .u32 e4)).store 5 (.slice (some ⟨h, 0, none⟩) n n)))
  have WU := Lib.hid (show Whole ((((((w2.setCell ⟨w.heap.size + 1, 0, none⟩ (.int .u32 e0)).setCell ⟨w.heap.size + 1, 1, none⟩ (.int .u32 e1)).setCell ⟨w.heap.size + 1, 2, none⟩ (.int .u32 e2)).setCell ⟨w.heap.size + 1, 3, none⟩ (.int .u32 e3)).setCell ⟨w.heap.size + 1, 4, none⟩ (.int .u32 e4)).setCell ⟨w.heap.size + 1, 5, none⟩ (.slice (some ⟨h, 0, none⟩) n n)) (h) 22 _ from ((((((H2.out.far (p := ⟨w.heap.size + 1, 0, none⟩) nh _).far (p := ⟨w.heap.size + 1, 1, none⟩) nh _).far (p := ⟨w.heap.size + 1, 2, none⟩) nh _).far (p := ⟨w.heap.size + 1, 3, none⟩) nh _).far (p := ⟨w.heap.size + 1, 4, none⟩) nh _).far (p := ⟨w.heap.size + 1, 5, none⟩) nh _))
  have BU := Lib.hid (show Below w.heap.size w ((((((w2.setCell ⟨w.heap.size + 1, 0, none⟩ (.int .u32 e0)).setCell ⟨w.heap.size + 1, 1, none⟩ (.int .u32 e1)).setCell ⟨w.heap.size + 1, 2, none⟩ (.int .u32 e2)).setCell ⟨w.heap.size + 1, 3, none⟩ (.int .u32 e3)).setCell ⟨w.heap.size + 1, 4, none⟩ (.int .u32 e4)).setCell ⟨w.heap.size + 1, 5, none⟩ (.slice (some ⟨h, 0, none⟩) n n)) from ((((((B2.out.setCell (p := ⟨w.heap.size + 1, 0, none⟩) (Nat.le_succ _) _).setCell (p := ⟨w.heap.size + 1, 1, none⟩) (Nat.le_succ _) _).setCell (p := ⟨w.heap.size + 1, 2, none⟩) (Nat.le_succ _) _).setCell (p := ⟨w.heap.size + 1, 3, none⟩) (Nat.le_succ _) _).setCell (p := ⟨w.heap.size + 1, 4, none⟩) (Nat.le_succ _) _).setCell (p := ⟨w.heap.size + 1, 5, none⟩) (Nat.le_succ _) _))
  clear q0 q1 q2 q3 q4 q5 t0 t1 t2 t3 t4 t5 tf
  generalize ((((((w2.setCell ⟨w.heap.size + 1, 0, none⟩ (.int .u32 e0)).setCell ⟨w.heap.size + 1, 1, none⟩ (.int .u32 e1)).setCell ⟨w.heap.size + 1, 2, none⟩ (.int .u32 e2)).setCell ⟨w.heap.size + 1, 3, none⟩ (.int .u32 e3)).setCell ⟨w.heap.size + 1, 4, none⟩ (.int .u32 e4)).setCell ⟨w.heap.size + 1, 5, none⟩ (.slice (some ⟨h, 0, none⟩) n n)) = V at *
  have t0 : V.cell? ⟨w.heap.size + 1, 0, none⟩ = some (.int .u32 e0) := TU.out.cell 0
  have t1 : V.cell? ⟨w.heap.size + 1, 1, none⟩ = some (.int .u32 e1) := TU.out.cell 1
  have t2 : V.cell? ⟨w.heap.size + 1, 2, none⟩ = some (.int .u32 e2) := TU.out.cell 2
  have t3 : V.cell? ⟨w.heap.size + 1, 3, none⟩ = some (.int .u32 e3) := TU.out.cell 3
  have t4 : V.cell? ⟨w.heap.size + 1, 4, none⟩ = some (.int .u32 e4) := TU.out.cell 4
  have t5 : V.cell? ⟨w.heap.size + 1, 5, none⟩ = some (.slice (some ⟨h, 0, none⟩) n n) := TU.out.cell 5
  go_wp2_with fail
  exact bodyPost_ret (v := .tuple #[.agg (memCells e0 e1 e2 e3 e4 (h) n), .int .i64 32]) (by simp [results, Tryd.results46, go_sem, t0, t1, t2, t3, t4, t5, memCells]) rfl ⟨h, rfl, WU.out, .inl rfl, BU.out⟩

set_option maxHeartbeats 8000000 in
set_option maxRecDepth 100000 in
theorem refstore_ok (h n k : Nat) (e0 e1 e2 e3 e4 at_ v : Int) (ws : List Int) (w : World) (ha : U32 at_) (hv : U32 v) (hw : Whole w h 22 (words ws)) (hn : ws.length = n) (hn2 : n ≤ 1000000) (hl : e4 = 4 * n) (hws : ∀ z ∈ ws, U32 z) (he : checkRes at_ e4 = 0) (hge : ¬ at_ < e1) (hk : at_ / 4 = (k : Int)) (hkn : k < n) :
    Calls Tryd.prog 46 #[.agg (memCells e0 e1 e2 e3 e4 h n), .int .u32 at_, .int .u32 v] w (fun e w' => ∃ h', e = .returned (.tuple #[.agg (memCells e0 e1 e2 e3 e4 h' n), .int .i64 0]) ∧ Whole w' h' 22 (words (ws.set k v)) ∧ (h' = h ∨ w.heap.size ≤ h') ∧ Below w.heap.size w w') := by
  have hC := fun w h' => refload_any h n e0 e1 e2 e3 e4 at_ ws w ha h' hn hn2 hl hws
  have hW := fun (A : Option Addr) (c : Nat) (w : World) h' hz => with_any h n k e0 e1 e2 e3 e4 ws A 1 c [v] w h' hn hn2 hz (by omega)
  obtain ⟨a0, a1⟩ := ha
  unfold memCells at *
  have hsz : ((w.alloc (.cells #[.int .u32 e0, .int .u32 e1, .int .u32 e2, .int .u32 e3, .int .u32 e4, .slice (some ⟨h, 0, none⟩) n n] 41)).alloc (.cells #[.int .u32 0, .int .u32 0, .int .u32 0, .int .u32 0, .int .u32 0, .slice none 0 0] 41)).heap.size = w.heap.size + 2 := by simp
  have Q0 := Lib.hid ((Whole.made w 41 #[.int .u32 e0, .int .u32 e1, .int .u32 e2, .int .u32 e3, .int .u32 e4, .slice (some ⟨h, 0, none⟩) n n] _ rfl).alloc (.cells #[.int .u32 0, .int .u32 0, .int .u32 0, .int .u32 0, .int .u32 0, .slice none 0 0] 41))
  have T0 := Lib.hid (Whole.made (w.alloc (.cells #[.int .u32 e0, .int .u32 e1, .int .u32 e2, .int .u32 e3, .int .u32 e4, .slice (some ⟨h, 0, none⟩) n n] 41)) 41 #[.int .u32 0, .int .u32 0, .int .u32 0, .int .u32 0, .int .u32 0, .slice none 0 0] (w.heap.size + 1) (by simp))
  have H0 := Lib.hid ((hw.alloc (.cells #[.int .u32 e0, .int .u32 e1, .int .u32 e2, .int .u32 e3, .int .u32 e4, .slice (some ⟨h, 0, none⟩) n n] 41)).alloc (.cells #[.int .u32 0, .int .u32 0, .int .u32 0, .int .u32 0, .int .u32 0, .slice none 0 0] 41))
  have B0 := Lib.hid (((Below.refl w.heap.size w).alloc (Nat.le_refl _) (.cells #[.int .u32 e0, .int .u32 e1, .int .u32 e2, .int .u32 e3, .int .u32 e4, .slice (some ⟨h, 0, none⟩) n n] 41)).alloc (by simp) (.cells #[.int .u32 0, .int .u32 0, .int .u32 0, .int .u32 0, .int .u32 0, .slice none 0 0] 41))
  have hlt := hw.lt
  have n1 : w.heap.size + 1 ≠ w.heap.size := by omega
  have nh : h ≠ w.heap.size + 1 := by omega
  simp only [he] at hC
  have d1 : decide (at_ < e1) = false := decide_eq_false hge
  have SP := Lib.hid (show splice ws k [v] = ws.set k v by
    have h1 := splice_step (ws := ws) (zs := [v]) (k := k) (j := 0) (by simp; omega) (by simp)
    rw [splice_zero] at h1
    simpa using h1.symm)
  have C := Lib.hid hC
  have WI := Lib.hid hW
  clear hC hw hws hl he hge hW
  generalize readVal at_ e4 ws = rv at *
  go_enter Tryd.func46, Tryd.ntmps46
  go_wp2_with fail
  generalize ((w.alloc (.cells #[.int .u32 e0, .int .u32 e1, .int .u32 e2, .int .u32 e3, .int .u32 e4, .slice (some ⟨h, 0, none⟩) n n] 41)).alloc (.cells #[.int .u32 0, .int .u32 0, .int .u32 0, .int .u32 0, .int .u32 0, .slice none 0 0] 41)) = w1 at *
  refine (C.out _ H0.out).mono ?_
  rintro e w2 ⟨rfl, hb2⟩
  have Q2 := Lib.hid (Q0.out.below hb2 Q0.out.lt)
  have T2 := Lib.hid (T0.out.below hb2 T0.out.lt)
  have H2 := Lib.hid (H0.out.below hb2 H0.out.lt)
  have B2 := Lib.hid (B0.out.trans (hb2.mono B0.out.size))
  clear hb2 Q0 T0 H0 B0
  have q0 : w2.cell? ⟨w.heap.size, 0, none⟩ = some (.int .u32 e0) := Q2.out.cell 0
  have q1 : w2.cell? ⟨w.heap.size, 1, none⟩ = some (.int .u32 e1) := Q2.out.cell 1
  have q2 : w2.cell? ⟨w.heap.size, 2, none⟩ = some (.int .u32 e2) := Q2.out.cell 2
  have q3 : w2.cell? ⟨w.heap.size, 3, none⟩ = some (.int .u32 e3) := Q2.out.cell 3
  have q4 : w2.cell? ⟨w.heap.size, 4, none⟩ = some (.int .u32 e4) := Q2.out.cell 4
  have q5 : w2.cell? ⟨w.heap.size, 5, none⟩ = some (.slice (some ⟨h, 0, none⟩) n n) := Q2.out.cell 5
  have t0 : w2.cell? ⟨w.heap.size + 1, 0, none⟩ = some (.int .u32 0) := T2.out.cell 0
  have t1 : w2.cell? ⟨w.heap.size + 1, 1, none⟩ = some (.int .u32 0) := T2.out.cell 1
  have t2 : w2.cell? ⟨w.heap.size + 1, 2, none⟩ = some (.int .u32 0) := T2.out.cell 2
  have t3 : w2.cell? ⟨w.heap.size + 1, 3, none⟩ = some (.int .u32 0) := T2.out.cell 3
  have t4 : w2.cell? ⟨w.heap.size + 1, 4, none⟩ = some (.int .u32 0) := T2.out.cell 4
  have t5 : w2.cell? ⟨w.heap.size + 1, 5, none⟩ = some (.slice none 0 0) := T2.out.cell 5
  have tf : ∀ i, w2.frozen? ⟨w.heap.size + 1, i, none⟩ = false := T2.out.free
  go_wp2_with fail
  clear q0 q1 q2 q3 q4 q5 t0 t1 t2 t3 t4 t5 tf
  have NB := nums_built .u32 22 w2 [v] _ rfl 1 rfl (by decide) _ rfl
  have T3 := Lib.hid (T2.out.alloc (.cells #[.int .u32 v] 22))
  have H3 := Lib.hid (H2.out.alloc (.cells #[.int .u32 v] 22))
  have B3 := Lib.hid (B2.out.alloc B2.out.size (.cells #[.int .u32 v] 22))
  have l1 := T2.out.lt
  refine (WI.out _ _ _ H3.out NB).mono ?_
  rintro e w4 ⟨h', rfl, hH, hh', hb4⟩
  have T4 := Lib.hid (T3.out.below hb4 T3.out.lt)
  have B4 := Lib.hid (B3.out.trans (hb4.mono B3.out.size))
  have HH := Lib.hid hH
  have nh' : h' ≠ w.heap.size + 1 := by
    have : w2.heap.size + 1 ≤ h' := by simpa using hh'
    omega
  have gh' : w.heap.size ≤ h' := by
    have : w2.heap.size + 1 ≤ h' := by simpa using hh'
    omega
  clear hb4 hH hh' NB Q2 T2 H2 B2 T3 H3 B3
  have t0 : w4.cell? ⟨w.heap.size + 1, 0, none⟩ = some (.int .u32 0) := T4.out.cell 0
  have t1 : w4.cell? ⟨w.heap.size + 1, 1, none⟩ = some (.int .u32 0) := T4.out.cell 1
  have t2 : w4.cell? ⟨w.heap.size + 1, 2, none⟩ = some (.int .u32 0) := T4.out.cell 2
  have t3 : w4.cell? ⟨w.heap.size + 1, 3, none⟩ = some (.int .u32 0) := T4.out.cell 3
  have t4 : w4.cell? ⟨w.heap.size + 1, 4, none⟩ = some (.int .u32 0) := T4.out.cell 4
  have t5 : w4.cell? ⟨w.heap.size + 1, 5, none⟩ = some (.slice none 0 0) := T4.out.cell 5
  have tf : ∀ i, w4.frozen? ⟨w.heap.size + 1, i, none⟩ = false := T4.out.free
  go_wp2_with fail
  have TU := Lib.hid (show Whole ((((((w4.setCell ⟨w.heap.size + 1, 0, none⟩ (.int .u32 e0)).setCell ⟨w.heap.size + 1, 1, none⟩ (.int .u32 e1)).setCell ⟨w.heap.size + 1, 2, none⟩ (.int .u32 e2)).setCell ⟨w.heap.size + 1, 3, none⟩ (.int .u32 e3)).setCell ⟨w.heap.size + 1, 4, none⟩ (.int .u32 e4)).setCell ⟨w.heap.size + 1, 5, none⟩ (.slice (some ⟨h', 0, none⟩) n n)) (w.heap.size + 1) 41 (memCells e0 e1 e2 e3 e4 (h') n) from ((((((T4.out.store 0 (.int .u32 e0)).store 1 (.int .u32 e1)).store 2 (.int .u32 e2)).store 3 (.int .u32 e3)).store 4 (.int .u32 e4)).store 5 (.slice (some ⟨h', 0, none⟩) n n)))
  have WU := Lib.hid (show Whole ((((((w4.setCell ⟨w.heap.size + 1, 0, none⟩ (.int .u32 e0)).setCell ⟨w.heap.size + 1, 1, none⟩ (.int .u32 e1)).setCell ⟨w.heap.size + 1, 2, none⟩ (.int .u32 e2)).setCell ⟨w.heap.size + 1, 3, none⟩ (.int .u32 e3)).setCell ⟨w.heap.size + 1, 4, none⟩ (.int .u32 e4)).setCell ⟨w.heap.size + 1, 5, none⟩ (.slice (some ⟨h', 0, none⟩) n n)) (h') 22 _ from ((((((HH.out.far (p := ⟨w.heap.size + 1, 0, none⟩) nh' _).far (p := ⟨w.heap.size + 1, 1, none⟩) nh' _).far (p := ⟨w.heap.size + 1, 2, none⟩) nh' _).far (p := ⟨w.heap.size + 1, 3, none⟩) nh' _).far (p := ⟨w.heap.size + 1, 4, none⟩) nh' _).far (p := ⟨w.heap.size + 1, 5, none⟩) nh' _))
  have BU := Lib.hid (show Below w.heap.size w ((((((w4.setCell ⟨w.heap.size + 1, 0, none⟩ (.int .u32 e0)).setCell ⟨w.heap.size + 1, 1, none⟩ (.int .u32 e1)).setCell ⟨w.heap.size + 1, 2, none⟩ (.int .u32 e2)).setCell ⟨w.heap.size + 1, 3, none⟩ (.int .u32 e3)).setCell ⟨w.heap.size + 1, 4, none⟩ (.int .u32 e4)).setCell ⟨w.heap.size + 1, 5, none⟩ (.slice (some ⟨h', 0, none⟩) n n)) from ((((((B4.out.setCell (p := ⟨w.heap.size + 1, 0, none⟩) (Nat.le_succ _) _).setCell (p := ⟨w.heap.size + 1, 1, none⟩) (Nat.le_succ _) _).setCell (p := ⟨w.heap.size + 1, 2, none⟩) (Nat.le_succ _) _).setCell (p := ⟨w.heap.size + 1, 3, none⟩) (Nat.le_succ _) _).setCell (p := ⟨w.heap.size + 1, 4, none⟩) (Nat.le_succ _) _).setCell (p := ⟨w.heap.size + 1, 5, none⟩) (Nat.le_succ _) _))
  clear t0 t1 t2 t3 t4 t5 tf
  generalize ((((((w4.setCell ⟨w.heap.size + 1, 0, none⟩ (.int .u32 e0)).setCell ⟨w.heap.size + 1, 1, none⟩ (.int .u32 e1)).setCell ⟨w.heap.size + 1, 2, none⟩ (.int .u32 e2)).setCell ⟨w.heap.size + 1, 3, none⟩ (.int .u32 e3)).setCell ⟨w.heap.size + 1, 4, none⟩ (.int .u32 e4)).setCell ⟨w.heap.size + 1, 5, none⟩ (.slice (some ⟨h', 0, none⟩) n n)) = V at *
  have t0 : V.cell? ⟨w.heap.size + 1, 0, none⟩ = some (.int .u32 e0) := TU.out.cell 0
  have t1 : V.cell? ⟨w.heap.size + 1, 1, none⟩ = some (.int .u32 e1) := TU.out.cell 1
  have t2 : V.cell? ⟨w.heap.size + 1, 2, none⟩ = some (.int .u32 e2) := TU.out.cell 2
  have t3 : V.cell? ⟨w.heap.size + 1, 3, none⟩ = some (.int .u32 e3) := TU.out.cell 3
  have t4 : V.cell? ⟨w.heap.size + 1, 4, none⟩ = some (.int .u32 e4) := TU.out.cell 4
  have t5 : V.cell? ⟨w.heap.size + 1, 5, none⟩ = some (.slice (some ⟨h', 0, none⟩) n n) := TU.out.cell 5
  go_wp2_with fail
  exact bodyPost_ret (v := .tuple #[.agg (memCells e0 e1 e2 e3 e4 (h') n), .int .i64 0]) (by simp [results, Tryd.results46, go_sem, t0, t1, t2, t3, t4, t5, memCells]) rfl ⟨h', rfl, by rw [← SP.out]; exact WU.out, .inr gh', BU.out⟩

theorem refstore_any (h n : Nat) (e0 e1 e2 e3 e4 at_ v : Int) (ws : List Int) (w : World) (ha : U32 at_) (hv : U32 v) (hw : Whole w h 22 (words ws)) (hn : ws.length = n) (hn2 : n ≤ 1000000) (hl : e4 = 4 * n) (hws : ∀ z ∈ ws, U32 z) :
    Calls Tryd.prog 46 #[.agg (memCells e0 e1 e2 e3 e4 h n), .int .u32 at_, .int .u32 v] w (fun e w' => ∃ h', e = .returned (.tuple #[.agg (memCells e0 e1 e2 e3 e4 h' n), .int .i64 (storeRes at_ e1 e4)]) ∧ Whole w' h' 22 (words (storeWs at_ e1 e4 v ws)) ∧ (h' = h ∨ w.heap.size ≤ h') ∧ Below w.heap.size w w') := by
  by_cases he : checkRes at_ e4 = 0
  · obtain ⟨z0, z1⟩ := checkRes_zero he
    by_cases h1 : at_ < e1
    · have R : storeRes at_ e1 e4 = 32 := by unfold storeRes; rw [if_neg (by simpa using he), if_pos h1]
      have RW : storeWs at_ e1 e4 v ws = ws := by unfold storeWs; rw [R]; rfl
      rw [R, RW]
      exact refstore_write h n e0 e1 e2 e3 e4 at_ v ws w ha hv hw hn hn2 hl hws he h1
    · have R : storeRes at_ e1 e4 = 0 := by unfold storeRes; rw [if_neg (by simpa using he), if_neg h1]
      obtain ⟨k, hk⟩ := Int.eq_ofNat_of_zero_le (show 0 ≤ at_ / 4 by have := ha.1; omega)
      have RW : storeWs at_ e1 e4 v ws = ws.set k v := by unfold storeWs; rw [R, if_pos rfl, hk]; rfl
      rw [R, RW]
      exact refstore_ok h n k e0 e1 e2 e3 e4 at_ v ws w ha hv hw hn hn2 hl hws he h1 hk (by omega)
  · have R : storeRes at_ e1 e4 = checkRes at_ e4 := by unfold storeRes; rw [if_pos he]
    have RW : storeWs at_ e1 e4 v ws = ws := by unfold storeWs; rw [R, if_neg he]
    rw [R, RW]
    exact refstore_err h n e0 e1 e2 e3 e4 at_ v ws w ha hv hw hn hn2 hl hws _ rfl he

set_option maxHeartbeats 8000000 in
set_option maxRecDepth 100000 in
theorem reffill_align (h n : Nat) (e0 e1 e2 e3 e4 at_ : Int) (A : Option Addr) (m c : Nat) (ws : List Int) (w : World) (ha : U32 at_) (hw : Whole w h 22 (words ws)) (hn2 : n ≤ 1000000) (hm : m ≤ 1000000) (he : at_ % 4 ≠ 0) :
    Calls Tryd.prog 15 #[.agg (memCells e0 e1 e2 e3 e4 h n), .int .u32 at_, .slice A m c] w (fun e w' => ∃ h', e = .returned (.tuple #[.agg (memCells e0 e1 e2 e3 e4 h' n), .int .i64 30]) ∧ Whole w' h' 22 (words ws) ∧ (h' = h ∨ w.heap.size ≤ h') ∧ Below w.heap.size w w') := by
  obtain ⟨a0, a1⟩ := ha
  unfold memCells at *
  have H0 := Lib.hid ((hw.alloc (.cells #[.int .u32 e0, .int .u32 e1, .int .u32 e2, .int .u32 e3, .int .u32 e4, .slice (some ⟨h, 0, none⟩) n n] 41)).alloc (.cells #[.int .u32 e0, .int .u32 e1, .int .u32 e2, .int .u32 e3, .int .u32 e4, .slice (some ⟨h, 0, none⟩) n n] 41))
  have B0 := Lib.hid (((Below.refl w.heap.size w).alloc (Nat.le_refl _) (.cells #[.int .u32 e0, .int .u32 e1, .int .u32 e2, .int .u32 e3, .int .u32 e4, .slice (some ⟨h, 0, none⟩) n n] 41)).alloc (by simp) (.cells #[.int .u32 e0, .int .u32 e1, .int .u32 e2, .int .u32 e3, .int .u32 e4, .slice (some ⟨h, 0, none⟩) n n] 41))
  have d1 : (at_ % 4 != 0) = true := by simpa using he
  clear he
  clear hw
  go_enter Tryd.func15, Tryd.ntmps15
  go_wp2_with fail
  exact bodyPost_ret (v := .tuple #[.agg (memCells e0 e1 e2 e3 e4 h n), .int .i64 30]) (by simp [results, Tryd.results15, go_sem, memCells]) rfl ⟨h, rfl, H0.out, .inl rfl, B0.out⟩

set_option maxHeartbeats 8000000 in
set_option maxRecDepth 100000 in
theorem reffill_place (h n : Nat) (e0 e1 e2 e3 e4 at_ : Int) (A : Option Addr) (m c : Nat) (ws : List Int) (w : World) (ha : U32 at_) (hw : Whole w h 22 (words ws)) (hn2 : n ≤ 1000000) (hm : m ≤ 1000000) (k : Nat) (hk : at_ / 4 = (k : Int)) (he : at_ % 4 = 0) (hp : n < k + m) :
    Calls Tryd.prog 15 #[.agg (memCells e0 e1 e2 e3 e4 h n), .int .u32 at_, .slice A m c] w (fun e w' => ∃ h', e = .returned (.tuple #[.agg (memCells e0 e1 e2 e3 e4 h' n), .int .i64 31]) ∧ Whole w' h' 22 (words ws) ∧ (h' = h ∨ w.heap.size ≤ h') ∧ Below w.heap.size w w') := by
  obtain ⟨a0, a1⟩ := ha
  unfold memCells at *
  have H0 := Lib.hid ((hw.alloc (.cells #[.int .u32 e0, .int .u32 e1, .int .u32 e2, .int .u32 e3, .int .u32 e4, .slice (some ⟨h, 0, none⟩) n n] 41)).alloc (.cells #[.int .u32 e0, .int .u32 e1, .int .u32 e2, .int .u32 e3, .int .u32 e4, .slice (some ⟨h, 0, none⟩) n n] 41))
  have B0 := Lib.hid (((Below.refl w.heap.size w).alloc (Nat.le_refl _) (.cells #[.int .u32 e0, .int .u32 e1, .int .u32 e2, .int .u32 e3, .int .u32 e4, .slice (some ⟨h, 0, none⟩) n n] 41)).alloc (by simp) (.cells #[.int .u32 e0, .int .u32 e1, .int .u32 e2, .int .u32 e3, .int .u32 e4, .slice (some ⟨h, 0, none⟩) n n] 41))
  have d1 : (at_ % 4 != 0) = false := by simpa using he
  have d2 : decide ((n : Int) < k + m) = true := decide_eq_true (by omega)
  have hk2 : k ≤ 1073741823 := by omega
  clear he
  clear hw
  go_enter Tryd.func15, Tryd.ntmps15
  go_wp2_with fail
  exact bodyPost_ret (v := .tuple #[.agg (memCells e0 e1 e2 e3 e4 h n), .int .i64 31]) (by simp [results, Tryd.results15, go_sem, memCells]) rfl ⟨h, rfl, H0.out, .inl rfl, B0.out⟩

set_option maxHeartbeats 8000000 in
set_option maxRecDepth 100000 in
theorem reffill_ok3 (h n k : Nat) (e0 e1 e2 e3 e4 at_ : Int) (A : Option Addr) (m c : Nat) (ws zs : List Int) (w : World) (ha : U32 at_) (hw : Whole w h 22 (words ws)) (hn : ws.length = n) (hn2 : n ≤ 1000000) (hz : Nums .u32 w A m zs) (hk : at_ / 4 = (k : Int)) (he : at_ % 4 = 0) (hkm : k + m ≤ n) :
    Calls Tryd.prog 15 #[.agg (memCells e0 e1 e2 e3 e4 h n), .int .u32 at_, .slice A m c] w (fun e w' => ∃ h', e = .returned (.tuple #[.agg (memCells e0 e1 e2 e3 e4 h' n), .int .i64 0]) ∧ Whole w' h' 22 (words (splice ws k zs)) ∧ (h' = h ∨ w.heap.size ≤ h') ∧ Below w.heap.size w w') := by
  have hW := fun (w : World) h' hz => with_any h n k e0 e1 e2 e3 e4 ws A m c zs w h' hn hn2 hz hkm
  obtain ⟨a0, a1⟩ := ha
  unfold memCells at *
  have hsz : ((w.alloc (.cells #[.int .u32 e0, .int .u32 e1, .int .u32 e2, .int .u32 e3, .int .u32 e4, .slice (some ⟨h, 0, none⟩) n n] 41)).alloc (.cells #[.int .u32 0, .int .u32 0, .int .u32 0, .int .u32 0, .int .u32 0, .slice none 0 0] 41)).heap.size = w.heap.size + 2 := by simp
  have Q0 := Lib.hid ((Whole.made w 41 #[.int .u32 e0, .int .u32 e1, .int .u32 e2, .int .u32 e3, .int .u32 e4, .slice (some ⟨h, 0, none⟩) n n] _ rfl).alloc (.cells #[.int .u32 0, .int .u32 0, .int .u32 0, .int .u32 0, .int .u32 0, .slice none 0 0] 41))
  have T0 := Lib.hid (Whole.made (w.alloc (.cells #[.int .u32 e0, .int .u32 e1, .int .u32 e2, .int .u32 e3, .int .u32 e4, .slice (some ⟨h, 0, none⟩) n n] 41)) 41 #[.int .u32 0, .int .u32 0, .int .u32 0, .int .u32 0, .int .u32 0, .slice none 0 0] (w.heap.size + 1) (by simp))
  have H0 := Lib.hid ((hw.alloc (.cells #[.int .u32 e0, .int .u32 e1, .int .u32 e2, .int .u32 e3, .int .u32 e4, .slice (some ⟨h, 0, none⟩) n n] 41)).alloc (.cells #[.int .u32 0, .int .u32 0, .int .u32 0, .int .u32 0, .int .u32 0, .slice none 0 0] 41))
  have B0 := Lib.hid (((Below.refl w.heap.size w).alloc (Nat.le_refl _) (.cells #[.int .u32 e0, .int .u32 e1, .int .u32 e2, .int .u32 e3, .int .u32 e4, .slice (some ⟨h, 0, none⟩) n n] 41)).alloc (by simp) (.cells #[.int .u32 0, .int .u32 0, .int .u32 0, .int .u32 0, .int .u32 0, .slice none 0 0] 41))
  have hlt := hw.lt
  have n1 : w.heap.size + 1 ≠ w.heap.size := by omega
  have nh : h ≠ w.heap.size + 1 := by omega
  have NZ := Lib.hid ((hz.below ((Below.refl _ _).alloc (Nat.le_refl _) (.cells #[.int .u32 e0, .int .u32 e1, .int .u32 e2, .int .u32 e3, .int .u32 e4, .slice (some ⟨h, 0, none⟩) n n] 41))).below ((Below.refl _ _).alloc (Nat.le_refl _) (.cells #[.int .u32 0, .int .u32 0, .int .u32 0, .int .u32 0, .int .u32 0, .slice none 0 0] 41)))
  have d1 : (at_ % 4 != 0) = false := by simpa using he
  have d2 : decide ((n : Int) < k + m) = false := decide_eq_false (by omega)
  have hk2 : k ≤ 1073741823 := by omega
  have WI := Lib.hid hW
  clear hw he hW hz
  go_enter Tryd.func15, Tryd.ntmps15
  go_wp2_with fail
  refine (WI.out _ H0.out NZ.out).mono ?_
  rintro e w4 ⟨h', rfl, hH, hh', hb4⟩
  rw [hsz] at hh'
  have T4 := Lib.hid (T0.out.below hb4 T0.out.lt)
  have B4 := Lib.hid (B0.out.trans (hb4.mono B0.out.size))
  have HH := Lib.hid hH
  have nh' : h' ≠ w.heap.size + 1 := by omega
  have gh' : w.heap.size ≤ h' := by omega
  clear hb4 hH hh' Q0 T0 H0 B0
  have t0 : w4.cell? ⟨w.heap.size + 1, 0, none⟩ = some (.int .u32 0) := T4.out.cell 0
  have t1 : w4.cell? ⟨w.heap.size + 1, 1, none⟩ = some (.int .u32 0) := T4.out.cell 1
  have t2 : w4.cell? ⟨w.heap.size + 1, 2, none⟩ = some (.int .u32 0) := T4.out.cell 2
  have t3 : w4.cell? ⟨w.heap.size + 1, 3, none⟩ = some (.int .u32 0) := T4.out.cell 3
  have t4 : w4.cell? ⟨w.heap.size + 1, 4, none⟩ = some (.int .u32 0) := T4.out.cell 4
  have t5 : w4.cell? ⟨w.heap.size + 1, 5, none⟩ = some (.slice none 0 0) := T4.out.cell 5
  have tf : ∀ i, w4.frozen? ⟨w.heap.size + 1, i, none⟩ = false := T4.out.free
  go_wp2_with fail
  have TU := Lib.hid (show Whole ((((((w4.setCell ⟨w.heap.size + 1, 0, none⟩ (.int .u32 e0)).setCell ⟨w.heap.size + 1, 1, none⟩ (.int .u32 e1)).setCell ⟨w.heap.size + 1, 2, none⟩ (.int .u32 e2)).setCell ⟨w.heap.size + 1, 3, none⟩ (.int .u32 e3)).setCell ⟨w.heap.size + 1, 4, none⟩ (.int .u32 e4)).setCell ⟨w.heap.size + 1, 5, none⟩ (.slice (some ⟨h', 0, none⟩) n n)) (w.heap.size + 1) 41 (memCells e0 e1 e2 e3 e4 (h') n) from ((((((T4.out.store 0 (.int .u32 e0)).store 1 (.int .u32 e1)).store 2 (.int .u32 e2)).store 3 (.int .u32 e3)).store 4 (.int .u32 e4)).store 5 (.slice (some ⟨h', 0, none⟩) n n)))
  have WU := Lib.hid (show Whole ((((((w4.setCell ⟨w.heap.size + 1, 0, none⟩ (.int .u32 e0)).setCell ⟨w.heap.size + 1, 1, none⟩ (.int .u32 e1)).setCell ⟨w.heap.size + 1, 2, none⟩ (.int .u32 e2)).setCell ⟨w.heap.size + 1, 3, none⟩ (.int .u32 e3)).setCell ⟨w.heap.size + 1, 4, none⟩ (.int .u32 e4)).setCell ⟨w.heap.size + 1, 5, none⟩ (.slice (some ⟨h', 0, none⟩) n n)) (h') 22 _ from ((((((HH.out.far (p := ⟨w.heap.size + 1, 0, none⟩) nh' _).far (p := ⟨w.heap.size + 1, 1, none⟩) nh' _).far (p := ⟨w.heap.size + 1, 2, none⟩) nh' _).far (p := ⟨w.heap.size + 1, 3, none⟩) nh' _).far (p := ⟨w.heap.size + 1, 4, none⟩) nh' _).far (p := ⟨w.heap.size + 1, 5, none⟩) nh' _))
  have BU := Lib.hid (show Below w.heap.size w ((((((w4.setCell ⟨w.heap.size + 1, 0, none⟩ (.int .u32 e0)).setCell ⟨w.heap.size + 1, 1, none⟩ (.int .u32 e1)).setCell ⟨w.heap.size + 1, 2, none⟩ (.int .u32 e2)).setCell ⟨w.heap.size + 1, 3, none⟩ (.int .u32 e3)).setCell ⟨w.heap.size + 1, 4, none⟩ (.int .u32 e4)).setCell ⟨w.heap.size + 1, 5, none⟩ (.slice (some ⟨h', 0, none⟩) n n)) from ((((((B4.out.setCell (p := ⟨w.heap.size + 1, 0, none⟩) (Nat.le_succ _) _).setCell (p := ⟨w.heap.size + 1, 1, none⟩) (Nat.le_succ _) _).setCell (p := ⟨w.heap.size + 1, 2, none⟩) (Nat.le_succ _) _).setCell (p := ⟨w.heap.size + 1, 3, none⟩) (Nat.le_succ _) _).setCell (p := ⟨w.heap.size + 1, 4, none⟩) (Nat.le_succ _) _).setCell (p := ⟨w.heap.size + 1, 5, none⟩) (Nat.le_succ _) _))
  clear t0 t1 t2 t3 t4 t5 tf
  generalize ((((((w4.setCell ⟨w.heap.size + 1, 0, none⟩ (.int .u32 e0)).setCell ⟨w.heap.size + 1, 1, none⟩ (.int .u32 e1)).setCell ⟨w.heap.size + 1, 2, none⟩ (.int .u32 e2)).setCell ⟨w.heap.size + 1, 3, none⟩ (.int .u32 e3)).setCell ⟨w.heap.size + 1, 4, none⟩ (.int .u32 e4)).setCell ⟨w.heap.size + 1, 5, none⟩ (.slice (some ⟨h', 0, none⟩) n n)) = V at *
  have t0 : V.cell? ⟨w.heap.size + 1, 0, none⟩ = some (.int .u32 e0) := TU.out.cell 0
  have t1 : V.cell? ⟨w.heap.size + 1, 1, none⟩ = some (.int .u32 e1) := TU.out.cell 1
  have t2 : V.cell? ⟨w.heap.size + 1, 2, none⟩ = some (.int .u32 e2) := TU.out.cell 2
  have t3 : V.cell? ⟨w.heap.size + 1, 3, none⟩ = some (.int .u32 e3) := TU.out.cell 3
  have t4 : V.cell? ⟨w.heap.size + 1, 4, none⟩ = some (.int .u32 e4) := TU.out.cell 4
  have t5 : V.cell? ⟨w.heap.size + 1, 5, none⟩ = some (.slice (some ⟨h', 0, none⟩) n n) := TU.out.cell 5
  go_wp2_with fail
  exact bodyPost_ret (v := .tuple #[.agg (memCells e0 e1 e2 e3 e4 (h') n), .int .i64 0]) (by simp [results, Tryd.results15, go_sem, t0, t1, t2, t3, t4, t5, memCells]) rfl ⟨h', rfl, WU.out, .inr gh', BU.out⟩

theorem reffill_any3 (h n : Nat) (e0 e1 e2 e3 e4 at_ : Int) (A : Option Addr) (m c : Nat) (ws zs : List Int) (w : World) (ha : U32 at_) (hw : Whole w h 22 (words ws)) (hn : ws.length = n) (hn2 : n ≤ 1000000) (hz : Nums .u32 w A m zs) (hm : m ≤ 1000000) :
    Calls Tryd.prog 15 #[.agg (memCells e0 e1 e2 e3 e4 h n), .int .u32 at_, .slice A m c] w (fun e w' => ∃ h', e = .returned (.tuple #[.agg (memCells e0 e1 e2 e3 e4 h' n), .int .i64 (fillRes at_ ws.length zs.length)]) ∧ Whole w' h' 22 (words (fillWs at_ ws zs)) ∧ (h' = h ∨ w.heap.size ≤ h') ∧ Below w.heap.size w w') := by
  have hL : fillRes at_ ws.length zs.length = fillRes at_ n m := by rw [hn, hz.1]
  by_cases he : at_ % 4 = 0
  · obtain ⟨k, hk⟩ := Int.eq_ofNat_of_zero_le (show 0 ≤ at_ / 4 by have := ha.1; omega)
    by_cases hp : n < k + m
    · have hR : fillRes at_ n m = 31 := by unfold fillRes; rw [if_neg (by omega), if_pos (by omega)]
      rw [show fillWs at_ ws zs = ws by unfold fillWs; rw [hL, hR]; rfl, hL, hR]
      exact reffill_place h n e0 e1 e2 e3 e4 at_ A m c ws w ha hw hn2 hm k hk he hp
    · have hR : fillRes at_ n m = 0 := by unfold fillRes; rw [if_neg (by omega), if_neg (by omega)]
      rw [show fillWs at_ ws zs = splice ws k zs by unfold fillWs; rw [hL, hR, if_pos rfl, hk]; rfl, hL, hR]
      exact reffill_ok3 h n k e0 e1 e2 e3 e4 at_ A m c ws zs w ha hw hn hn2 hz hk he (by omega)
  · have hR : fillRes at_ n m = 30 := by unfold fillRes; rw [if_pos he]
    rw [show fillWs at_ ws zs = ws by unfold fillWs; rw [hL, hR]; rfl, hL, hR]
    exact reffill_align h n e0 e1 e2 e3 e4 at_ A m c ws w ha hw hn2 hm he

end Go.Proofs.YtinpdgjbiimgkaaDoor

/- Calls on a memory that came in as a list of structs with a list in each: opened at every index. Over any program. -/
namespace Go.Proofs.YtinpdgjbiimgkaaDoor
open Go.ChangeShapes Go.WideShapes Go.ChangeAt Go.RowKit
set_option linter.unusedVariables false

/-- A call: its kind, an address, a word, a list of words. -/
structure OpR where
  kind : Int
  at_ : Int
  v : Int
  A : Option Addr
  m : Nat
  c : Nat
  zs : List Int

instance : Inhabited OpR := ⟨⟨0, 0, 0, none, 0, 0, []⟩⟩

/-- What is known of one call. -/
def OpIn (w : World) (o : OpR) : Prop := (Lit.int .i64 o.kind).wf = true ∧ (Lit.int .u32 o.at_).wf = true ∧ (Lit.int .u32 o.v).wf = true ∧ Nums .u32 w o.A o.m o.zs ∧ o.m ≤ maxLen ∧ ∀ z ∈ o.zs, (Lit.int .u32 z).wf = true

/-- The slice's n elements are these calls. -/
def OpsAt (w : World) (A : Option Addr) (n : Nat) (f : Nat → OpR) : Prop :=
  (0 < n → ∃ b off, A = some ⟨b, off, none⟩ ∧ b < w.heap.size ∧ ∀ j, j < n → w.cell? ⟨b, off + j * 4, none⟩ = some (.int .i64 (f j).kind) ∧ w.cell? ⟨b, off + j * 4 + 1, none⟩ = some (.int .u32 (f j).at_) ∧ w.cell? ⟨b, off + j * 4 + 2, none⟩ = some (.int .u32 (f j).v) ∧ w.cell? ⟨b, off + j * 4 + 3, none⟩ = some (.slice (f j).A (f j).m (f j).c)) ∧ ∀ j, j < n → OpIn w (f j)

theorem OpIn.below {w w' : World} {o : OpR} (h : OpIn w o) (hb : Below w.heap.size w w') : OpIn w' o :=
  ⟨h.1, h.2.1, h.2.2.1, h.2.2.2.1.below hb, h.2.2.2.2⟩

theorem OpsAt.below {w w' : World} {A : Option Addr} {n : Nat} {f : Nat → OpR} (h : OpsAt w A n f) (hb : Below w.heap.size w w') : OpsAt w' A n f :=
  ⟨fun hn => by
    obtain ⟨b, off, rfl, hlt, hc⟩ := h.1 hn
    have k : ∀ i, w'.cell? ⟨b, i, none⟩ = w.cell? ⟨b, i, none⟩ := fun i => hb.cell (p := ⟨b, i, none⟩) hlt
    exact ⟨b, off, rfl, Nat.lt_of_lt_of_le hlt hb.size, fun j hj => by rw [k, k, k, k]; exact hc j hj⟩, fun j hj => (h.2 j hj).below hb⟩

section
variable {H : Type} {enc : TypeId × Value → H} {P : Program} {w : World}

theorem nums_of_trod {t e : TypeId} {k : IntKind} {fuel : Nat} {cs : List Value} {x : DataW H × List MemPlace} (ht : P.underlying t = some (.slice e)) (he : P.underlying e = some (.int k)) (hc : P.cellsOf e = 1)
    (hf : DataW.trod enc P w 0 (fun _ => true) true fuel t cs = some x) :
    ∃ A n c zs, cs = [.slice A n c] ∧ Nums k w A n zs ∧ n ≤ maxLen ∧ ∀ z ∈ zs, (Lit.int k z).wf = true := by
  rcases open_ints ht he hc hf with ⟨hcs, hx⟩ | ⟨a, len, cap, zs, hcs, _, hl, hm, hz, hx, hcell, hwz⟩
  · exact ⟨none, 0, 0, [], hcs, ⟨rfl, fun h => absurd h (by omega)⟩, Nat.zero_le _, fun z h => by cases h⟩
  · simp only [if_true] at hz
    refine ⟨some a, len, cap, zs.take len, hcs, ⟨by simp; omega, fun h0 => ?_⟩, by omega, fun z h => hwz z (List.mem_of_mem_take h)⟩
    obtain ⟨b, off, rfl, hat⟩ := ints_at hcell (by omega)
    refine ⟨b, off, rfl, block_lt (hat 0 (by omega)), fun j hj => ?_⟩
    rw [hat j (by omega)]
    simp [List.getD, hj]

/-- One call out of its four cells. -/
theorem op_of_trod {e q : TypeId} {f0 f1 f2 f3 : Field} {fuel : Nat} {cs : List Value} {x : DataW H × List MemPlace} (he : P.underlying e = some (.struct #[f0, f1, f2, f3])) (ce : P.cellsOf e = 4)
    (o0 : f0.offset = 0) (o1 : f1.offset = 1) (o2 : f2.offset = 2) (o3 : f3.offset = 3) (c0 : P.cellsOf f0.type = 1) (c1 : P.cellsOf f1.type = 1) (c2 : P.cellsOf f2.type = 1) (c3 : P.cellsOf f3.type = 1)
    (u0 : P.underlying f0.type = some (.int .i64)) (u1 : P.underlying f1.type = some (.int .u32)) (u2 : P.underlying f2.type = some (.int .u32)) (u3 : P.underlying f3.type = some (.slice q)) (hq : P.underlying q = some (.int .u32)) (cq : P.cellsOf q = 1)
    (h : DataW.trod enc P w 0 (fun _ => true) true fuel e cs = some x) :
    ∃ o : OpR, cs = [.int .i64 o.kind, .int .u32 o.at_, .int .u32 o.v, .slice o.A o.m o.c] ∧ OpIn w o := by
  obtain ⟨xs, k, rfl, hxy, hcl, hxl, hf⟩ := DataW.trod_struct he h
  rw [ce] at hcl
  match xs, hxl, cs, hcl with
  | [y0, y1, y2, y3], _, [v0, v1, v2, v3], _ =>
    have g0 := hf 0 f0 rfl
    have g1 := hf 1 f1 rfl
    have g2 := hf 2 f2 rfl
    have g3 := hf 3 f3 rfl
    simp [o0, o1, o2, o3, c0, c1, c2, c3] at g0 g1 g2 g3
    obtain ⟨z0, hz0, _, w0⟩ := DataW.trod_int u0 g0
    obtain ⟨z1, hz1, _, w1⟩ := DataW.trod_int u1 g1
    obtain ⟨z2, hz2, _, w2⟩ := DataW.trod_int u2 g2
    obtain ⟨A, n, c, zs, hz3, hn, hm, hw⟩ := nums_of_trod u3 hq cq g3
    refine ⟨⟨z0, z1, z2, A, n, c, zs⟩, ?_, w0, w1, w2, hn, hm, hw⟩
    simp only [List.cons.injEq, and_true] at hz0 hz1 hz2 hz3
    rw [hz0, hz1, hz2, hz3]

theorem open_ops {r : Reach} {b0 : Nat} {v : Value} {d : DataW H} {ps : List MemPlace} {t e q : TypeId} {f0 f1 f2 f3 : Field} (ht : P.underlying t = some (.slice e)) (he : P.underlying e = some (.struct #[f0, f1, f2, f3])) (ce : P.cellsOf e = 4)
    (o0 : f0.offset = 0) (o1 : f1.offset = 1) (o2 : f2.offset = 2) (o3 : f3.offset = 3) (c0 : P.cellsOf f0.type = 1) (c1 : P.cellsOf f1.type = 1) (c2 : P.cellsOf f2.type = 1) (c3 : P.cellsOf f3.type = 1)
    (u0 : P.underlying f0.type = some (.int .i64)) (u1 : P.underlying f1.type = some (.int .u32)) (u2 : P.underlying f2.type = some (.int .u32)) (u3 : P.underlying f3.type = some (.slice q)) (hq : P.underlying q = some (.int .u32)) (cq : P.cellsOf q = 1)
    (hval : Value.okWide P w r b0 t v) (hd : DataW.Trod enc P w 0 (fun _ => true) true t v d ps) :
    ∃ A n c f, v = .slice A n c ∧ OpsAt w A n f ∧ n ≤ maxLen := by
  obtain ⟨a0, len, cap, rfl⟩ := okWide_slice ht hval
  obtain ⟨fuel, hf⟩ := hd
  rcases Go.Deep.open_slice ht hf with ⟨hcs, hx⟩ | ⟨a, len', cap', m, k, D, Pl, hcs, hb, hl, hm, hmm, hx, hcell⟩
  · simp [Value.cells] at hcs
    obtain ⟨rfl, rfl, rfl⟩ := hcs
    exact ⟨none, 0, 0, fun _ => default, rfl, ⟨fun h => absurd h (by omega), fun j h => absurd h (by omega)⟩, Nat.zero_le _⟩
  · simp [Value.cells] at hcs
    obtain ⟨rfl, rfl, rfl⟩ := hcs
    simp only [if_true] at hmm
    subst hmm
    have each : ∀ i, i < len → ∃ o : OpR, (w.cell? (a.add (i * 4)) = some (.int .i64 o.kind) ∧ w.cell? (a.add (i * 4 + 1)) = some (.int .u32 o.at_) ∧ w.cell? (a.add (i * 4 + 2)) = some (.int .u32 o.v) ∧ w.cell? (a.add (i * 4 + 3)) = some (.slice o.A o.m o.c)) ∧ OpIn w o := by
      intro i hi
      obtain ⟨cs', h1, h2⟩ := hcell i (by omega)
      rw [ce] at h1
      obtain ⟨_, hlen, hc⟩ := World.cells?_some h1
      obtain ⟨o, rfl, ho⟩ := op_of_trod he ce o0 o1 o2 o3 c0 c1 c2 c3 u0 u1 u2 u3 hq cq h2
      have e0 := hc 0 (by omega)
      have e1 := hc 1 (by omega)
      have e2 := hc 2 (by omega)
      have e3 := hc 3 (by omega)
      rw [Go.Deep.add_add] at e0 e1 e2 e3
      exact ⟨o, ⟨by simpa using e0, by simpa using e1, by simpa using e2, by simpa using e3⟩, ho⟩
    obtain ⟨f, hff⟩ := Go.Deep.choose_lt each
    refine ⟨some a, len, _, f, rfl, ⟨fun h0 => ?_, fun j hj => (hff j hj).2⟩, by omega⟩
    obtain ⟨c00, _⟩ := (hff 0 h0).1
    obtain ⟨b, off, spot⟩ := a
    have hspot : spot = none := by simpa [Addr.add] using World.cell?_spot c00
    subst hspot
    refine ⟨b, off, rfl, ?_, fun j hj => ?_⟩
    · have := block_lt c00
      rwa [Go.WideShapes.add_plain] at this
    · obtain ⟨⟨g0, g1, g2, g3⟩, _⟩ := hff j hj
      rw [Go.WideShapes.add_plain] at g0 g1 g2 g3
      exact ⟨g0, g1, g2, g3⟩
end
end Go.Proofs.YtinpdgjbiimgkaaDoor

/- The laws' arguments: an array of integers, a struct with a list in it. Over any program. -/
namespace Go.Proofs.YtinpdgjbiimgkaaDoor
open Go.ChangeShapes Go.WideShapes Go.ChangeAt Go.RowKit
set_option linter.unusedVariables false

section
variable {H : Type} {enc : TypeId × Value → H} {P : Program} {w : World}

theorem open_ints_arr {r : Reach} {b0 base : Nat} {sp : Nat → Bool} {held : Bool} {t e : TypeId} {k : IntKind} {n : Nat} {v : Value} {d : DataW H} {p : List MemPlace}
    (ht : P.underlying t = some (.array n e)) (he : P.underlying e = some (.int k)) (hc : P.cellsOf e = 1) (hC : P.cellsOf t = n)
    (hval : Value.okWide P w r b0 t v) (h : DataW.Trod enc P w base sp held t v d p) :
    ∃ zs : List Int, v = .agg (zs.map fun z => Value.int k z).toArray ∧ zs.length = n ∧ ∀ z ∈ zs, (Lit.int k z).wf = true := by
  have hv : ∃ cs, v = .agg cs ∧ cs.size = P.cellsOf t := by
    simp only [Value.okWide, ht] at hval
    obtain ⟨cs, h1, h2, _⟩ := hval
    exact ⟨cs, h1, h2⟩
  obtain ⟨cs, rfl, hsz⟩ := hv
  obtain ⟨fuel, hf⟩ := h
  obtain ⟨xs, m, rfl, hx, hcl, hxl, hat⟩ := DataW.trod_array ht hf
  have hat' : ∀ i (hi : i < cs.size), ∃ z, cs[i] = .int k z ∧ (Lit.int k z).wf = true := by
    intro i hi
    have h1 := hat i (by omega)
    rw [hc, Nat.mul_one, List.getElem?_eq_getElem (show i < xs.length by omega)] at h1
    obtain ⟨z, hz, _, hw⟩ := DataW.trod_int he h1
    refine ⟨z, ?_, hw⟩
    have e := congrArg (·[0]?) hz
    simp [Value.cells] at e
    rw [Array.getElem?_eq_getElem hi] at e
    exact Option.some.inj e
  refine ⟨cs.toList.map theInt, ?_, by simp; omega, ?_⟩
  · congr 1
    apply Array.ext
    · simp
    · intro i h1 h2
      obtain ⟨z, hz, _⟩ := hat' i h1
      simp [hz, theInt]
  · intro z hz
    obtain ⟨v, hv, rfl⟩ := List.mem_map.1 hz
    obtain ⟨i, hi, rfl⟩ := List.getElem_of_mem hv
    obtain ⟨z, hz, hw⟩ := hat' i (by simpa using hi)
    simp only [Array.getElem_toList, hz, theInt]
    exact hw

theorem open_op {r : Reach} {b0 : Nat} {v : Value} {d : DataW H} {ps : List MemPlace} {e q : TypeId} {f0 f1 f2 f3 : Field} (he : P.underlying e = some (.struct #[f0, f1, f2, f3])) (ce : P.cellsOf e = 4)
    (o0 : f0.offset = 0) (o1 : f1.offset = 1) (o2 : f2.offset = 2) (o3 : f3.offset = 3) (c0 : P.cellsOf f0.type = 1) (c1 : P.cellsOf f1.type = 1) (c2 : P.cellsOf f2.type = 1) (c3 : P.cellsOf f3.type = 1)
    (u0 : P.underlying f0.type = some (.int .i64)) (u1 : P.underlying f1.type = some (.int .u32)) (u2 : P.underlying f2.type = some (.int .u32)) (u3 : P.underlying f3.type = some (.slice q)) (hq : P.underlying q = some (.int .u32)) (cq : P.cellsOf q = 1)
    (hval : Value.okWide P w r b0 e v) (hd : DataW.Trod enc P w 0 (fun _ => true) true e v d ps) :
    ∃ o : OpR, v = .agg #[.int .i64 o.kind, .int .u32 o.at_, .int .u32 o.v, .slice o.A o.m o.c] ∧ OpIn w o := by
  obtain ⟨cs, rfl, hsz⟩ := okWide_struct he hval
  obtain ⟨fuel, hf⟩ := hd
  obtain ⟨o, ho, hi⟩ := op_of_trod he ce o0 o1 o2 o3 c0 c1 c2 c3 u0 u1 u2 u3 hq cq hf
  refine ⟨o, ?_, hi⟩
  congr 1
  apply Array.ext'
  simpa [Value.cells] using ho
end

theorem list_two {zs : List Int} (h : zs.length = 2) : ∃ a b, zs = [a, b] := by
  match zs, h with
  | [a, b], _ => exact ⟨a, b, rfl⟩

theorem list_five' {zs : List Int} (h : zs.length = 5) : ∃ a b c d e, zs = [a, b, c, d, e] := by
  match zs, h with
  | [a, b, c, d, e], _ => exact ⟨a, b, c, d, e, rfl⟩
end Go.Proofs.YtinpdgjbiimgkaaDoor
