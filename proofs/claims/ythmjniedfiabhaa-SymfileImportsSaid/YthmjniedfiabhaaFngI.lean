/- Finger: the answers' Reader: fail, Byte, Left. -/
import Derived.Test.YthmjniedfiabhaaFngB
namespace Go.Proofs.Ythmjniedfiabhaa
open Go.ChangeShapes Go.WideShapes Go.ChangeAt Go.RowKit
set_option linter.unusedVariables false
set_option linter.unusedSimpArgs false

abbrev rfT : TypeId := 64

theorem set_two {w : World} {g : Nat} {t : TypeId} {c0 c1 : Value} (h : Whole w g t #[c0, c1]) (u0 u1 : Value) :
    Whole ((w.setCell ⟨g, 0, none⟩ u0).setCell ⟨g, 1, none⟩ u1) g t #[u0, u1] ∧ w.grownBy ((w.setCell ⟨g, 0, none⟩ u0).setCell ⟨g, 1, none⟩ u1) (some g) :=
  ⟨((h.store 0 u0).store 1 u1), ((grown_set w g 0 u0).trans (grown_set _ g 1 u1))⟩

/-- A reader of the answers': what is left (in slice A n c), its error. -/
structure RfV (w : World) (A : Option Addr) (n c : Nat) (zs : List Int) (err : Int) : Prop where
  ok : err = 0 → Nums .u8 w A n zs ∧ n ≤ c
  bad : err ≠ 0 → zs = []

theorem RfV.below {w w' : World} {A : Option Addr} {n c : Nat} {zs : List Int} {err : Int} (h : RfV w A n c zs err) (hb : Below w.heap.size w w') : RfV w' A n c zs err :=
  ⟨fun e => ⟨(h.ok e).1.below hb, (h.ok e).2⟩, h.bad⟩

set_option maxHeartbeats 4000000 in
set_option maxRecDepth 100000 in
theorem reffail_any (A : Option Addr) (n c : Nat) (err e0 : Int) (w : World) :
    Calls Try.prog 81 #[.agg #[.slice A n c, .int .i64 err], .int .i64 e0] w fun e w' => e = .returned (.agg #[.slice A n c, .int .i64 (errP err e0)]) ∧ Below w.heap.size w w' := by
  by_cases h0 : err = 0
  · have E := Lib.hid (show errP err e0 = e0 from if_pos h0)
    rw [E.out]
    subst h0
    have X1 := Lib.hid ((Whole.made w rfT #[.slice A n c, .int .i64 0] _ rfl).alloc (.cells #[.slice none 0 0, .int .i64 0] rfT))
    have X2 := Lib.hid (Whole.made (w.alloc (.cells #[.slice A n c, .int .i64 e0] rfT)) rfT #[.slice A n c, .int .i64 e0] (w.heap.size + 1) (by simp))
    have B2 := Lib.hid (show Below w.heap.size w ((w.alloc (.cells #[.slice A n c, .int .i64 e0] rfT)).alloc (.cells #[.slice A n c, .int .i64 e0] rfT)) from ((Below.refl w.heap.size w).alloc (Nat.le_refl _) _).alloc (by simp) _)
    have q0 : ((w.alloc (.cells #[.slice A n c, .int .i64 0] rfT)).alloc (.cells #[.slice none 0 0, .int .i64 0] rfT)).cell? ⟨w.heap.size, 0, none⟩ = some (.slice A n c) := X1.out.cell 0
    have q1 : ((w.alloc (.cells #[.slice A n c, .int .i64 0] rfT)).alloc (.cells #[.slice none 0 0, .int .i64 0] rfT)).cell? ⟨w.heap.size, 1, none⟩ = some (.int .i64 0) := X1.out.cell 1
    have r0 : ((w.alloc (.cells #[.slice A n c, .int .i64 e0] rfT)).alloc (.cells #[.slice A n c, .int .i64 e0] rfT)).cell? ⟨w.heap.size + 1, 0, none⟩ = some (.slice A n c) := X2.out.cell 0
    have r1 : ((w.alloc (.cells #[.slice A n c, .int .i64 e0] rfT)).alloc (.cells #[.slice A n c, .int .i64 e0] rfT)).cell? ⟨w.heap.size + 1, 1, none⟩ = some (.int .i64 e0) := X2.out.cell 1
    go_enter Try.func81, Try.ntmps81
    go_wp2_with fail
    refine bodyPost_ret (v := .agg #[.slice A n c, .int .i64 e0]) ?_ rfl ⟨rfl, B2.out⟩
    simp [results, Try.results81, go_sem, r0, r1]
  · have E := Lib.hid (show errP err e0 = err from if_neg h0)
    rw [E.out]
    have hne : (err == 0) = false := by simp [h0]
    have X1 := Lib.hid ((Whole.made w rfT #[.slice A n c, .int .i64 err] _ rfl).alloc (.cells #[.slice none 0 0, .int .i64 0] rfT))
    have X2 := Lib.hid (Whole.made (w.alloc (.cells #[.slice A n c, .int .i64 err] rfT)) rfT #[.slice A n c, .int .i64 err] (w.heap.size + 1) (by simp))
    have B2 := Lib.hid (show Below w.heap.size w ((w.alloc (.cells #[.slice A n c, .int .i64 err] rfT)).alloc (.cells #[.slice A n c, .int .i64 err] rfT)) from ((Below.refl w.heap.size w).alloc (Nat.le_refl _) _).alloc (by simp) _)
    have q0 : ((w.alloc (.cells #[.slice A n c, .int .i64 err] rfT)).alloc (.cells #[.slice none 0 0, .int .i64 0] rfT)).cell? ⟨w.heap.size, 0, none⟩ = some (.slice A n c) := X1.out.cell 0
    have q1 : ((w.alloc (.cells #[.slice A n c, .int .i64 err] rfT)).alloc (.cells #[.slice none 0 0, .int .i64 0] rfT)).cell? ⟨w.heap.size, 1, none⟩ = some (.int .i64 err) := X1.out.cell 1
    have r0 : ((w.alloc (.cells #[.slice A n c, .int .i64 err] rfT)).alloc (.cells #[.slice A n c, .int .i64 err] rfT)).cell? ⟨w.heap.size + 1, 0, none⟩ = some (.slice A n c) := X2.out.cell 0
    have r1 : ((w.alloc (.cells #[.slice A n c, .int .i64 err] rfT)).alloc (.cells #[.slice A n c, .int .i64 err] rfT)).cell? ⟨w.heap.size + 1, 1, none⟩ = some (.int .i64 err) := X2.out.cell 1
    go_enter Try.func81, Try.ntmps81
    go_wp2_with fail
    refine bodyPost_ret (v := .agg #[.slice A n c, .int .i64 err]) ?_ rfl ⟨rfl, B2.out⟩
    simp [results, Try.results81, go_sem, r0, r1]

set_option maxHeartbeats 4000000 in
set_option maxRecDepth 100000 in
theorem refleft_any (A : Option Addr) (n c : Nat) (zs : List Int) (err : Int) (w : World) (h : RfV w A n c zs err) :
    Calls Try.prog 33 #[.agg #[.slice A n c, .int .i64 err]] w fun e w' => e = .returned (.int .i64 zs.length) ∧ Below w.heap.size w w' := by
  have X1 := Lib.hid (Whole.made w rfT #[.slice A n c, .int .i64 err] _ rfl)
  have q0 : (w.alloc (.cells #[.slice A n c, .int .i64 err] rfT)).cell? ⟨w.heap.size, 0, none⟩ = some (.slice A n c) := X1.out.cell 0
  have q1 : (w.alloc (.cells #[.slice A n c, .int .i64 err] rfT)).cell? ⟨w.heap.size, 1, none⟩ = some (.int .i64 err) := X1.out.cell 1
  have B2 := Lib.hid ((Below.refl w.heap.size w).alloc (Nat.le_refl _) (.cells #[.slice A n c, .int .i64 err] rfT))
  by_cases h0 : err = 0
  · have hl := (h.ok h0).1.1
    have E := Lib.hid hl
    subst h0
    rw [E.out]
    clear hl h
    go_enter Try.func33, Try.ntmps33
    go_wp2_with fail
    go_ret
    exact ⟨rfl, B2.out⟩
  · have E := Lib.hid (h.bad h0)
    have hne : (err != 0) = true := by simp [h0]
    rw [E.out]
    clear h h0
    go_enter Try.func33, Try.ntmps33
    go_wp2_with fail
    go_ret
    exact ⟨rfl, B2.out⟩

set_option maxHeartbeats 4000000 in
set_option maxRecDepth 100000 in
theorem refbyte_no (A : Option Addr) (n c : Nat) (err : Int) (w : World) (h : err ≠ 0 ∨ n = 0) :
    Calls Try.prog 80 #[.agg #[.slice A n c, .int .i64 err]] w fun e w' => e = .returned (.tuple #[.agg #[.slice A n c, .int .i64 (errP err 120)], .int .u8 0]) ∧ Below w.heap.size w w' := by
  have X1 := Lib.hid ((Whole.made w rfT #[.slice A n c, .int .i64 err] _ rfl).alloc (.cells #[.slice none 0 0, .int .i64 0] rfT))
  have X2 := Lib.hid (Whole.made (w.alloc (.cells #[.slice A n c, .int .i64 err] rfT)) rfT #[.slice none 0 0, .int .i64 0] (w.heap.size + 1) (by simp))
  have B2 := Lib.hid (((Below.refl w.heap.size w).alloc (Nat.le_refl _) (.cells #[.slice A n c, .int .i64 err] rfT)).alloc (by simp) (.cells #[.slice none 0 0, .int .i64 0] rfT))
  have q0 : ((w.alloc (.cells #[.slice A n c, .int .i64 err] rfT)).alloc (.cells #[.slice none 0 0, .int .i64 0] rfT)).cell? ⟨w.heap.size, 0, none⟩ = some (.slice A n c) := X1.out.cell 0
  have q1 : ((w.alloc (.cells #[.slice A n c, .int .i64 err] rfT)).alloc (.cells #[.slice none 0 0, .int .i64 0] rfT)).cell? ⟨w.heap.size, 1, none⟩ = some (.int .i64 err) := X1.out.cell 1
  have F := Lib.hid (reffail_any A n c err 120 ((w.alloc (.cells #[.slice A n c, .int .i64 err] rfT)).alloc (.cells #[.slice none 0 0, .int .i64 0] rfT)))
  generalize errP err 120 = er at *
  by_cases h0 : err = 0
  · obtain rfl : n = 0 := h.elim (fun e => absurd h0 e) id
    subst h0
    clear h
    go_enter Try.func80, Try.ntmps80
    go_wp2_with fail
    refine F.out.mono ?_
    rintro e w1 ⟨rfl, hb⟩
    have Y := Lib.hid (X2.out.below hb X2.out.lt)
    have Y2 := Lib.hid (set_two Y.out (.slice A 0 c) (.int .i64 er))
    have B3 := Lib.hid ((B2.out.trans (hb.mono B2.out.size)).grown Y2.out.2 (Nat.le_trans B2.out.size hb.size) (fun b hb => by injection hb with hb; omega))
    have u0 : w1.cell? ⟨w.heap.size + 1, 0, none⟩ = some (.slice none 0 0) := Y.out.cell 0
    have u1 : w1.cell? ⟨w.heap.size + 1, 1, none⟩ = some (.int .i64 0) := Y.out.cell 1
    have f0 : w1.frozen? ⟨w.heap.size + 1, 0, none⟩ = false := Y.out.free 0
    have f1 : w1.frozen? ⟨w.heap.size + 1, 1, none⟩ = false := Y.out.free 1
    have v0 : ((w1.setCell ⟨w.heap.size + 1, 0, none⟩ (.slice A 0 c)).setCell ⟨w.heap.size + 1, 1, none⟩ (.int .i64 er)).cell? ⟨w.heap.size + 1, 0, none⟩ = some (.slice A 0 c) := Y2.out.1.cell 0
    have v1 : ((w1.setCell ⟨w.heap.size + 1, 0, none⟩ (.slice A 0 c)).setCell ⟨w.heap.size + 1, 1, none⟩ (.int .i64 er)).cell? ⟨w.heap.size + 1, 1, none⟩ = some (.int .i64 er) := Y2.out.1.cell 1
    clear hb q0 q1 F
    go_wp2_with fail
    refine bodyPost_ret (v := .tuple #[.agg #[.slice A 0 c, .int .i64 er], .int .u8 0]) ?_ rfl ⟨rfl, B3.out⟩
    simp [results, Try.results80, go_sem, v0, v1]
  · have hne : (err != 0) = true := by simp [h0]
    have hne2 : (err == 0) = false := by simp [h0]
    have HH := Lib.hid h0
    clear h h0
    go_enter Try.func80, Try.ntmps80
    go_wp2_with fail
    refine F.out.mono ?_
    rintro e w1 ⟨rfl, hb⟩
    have Y := Lib.hid (X2.out.below hb X2.out.lt)
    have Y2 := Lib.hid (set_two Y.out (.slice A n c) (.int .i64 er))
    have B3 := Lib.hid ((B2.out.trans (hb.mono B2.out.size)).grown Y2.out.2 (Nat.le_trans B2.out.size hb.size) (fun b hb => by injection hb with hb; omega))
    have u0 : w1.cell? ⟨w.heap.size + 1, 0, none⟩ = some (.slice none 0 0) := Y.out.cell 0
    have u1 : w1.cell? ⟨w.heap.size + 1, 1, none⟩ = some (.int .i64 0) := Y.out.cell 1
    have f0 : w1.frozen? ⟨w.heap.size + 1, 0, none⟩ = false := Y.out.free 0
    have f1 : w1.frozen? ⟨w.heap.size + 1, 1, none⟩ = false := Y.out.free 1
    have v0 : ((w1.setCell ⟨w.heap.size + 1, 0, none⟩ (.slice A n c)).setCell ⟨w.heap.size + 1, 1, none⟩ (.int .i64 er)).cell? ⟨w.heap.size + 1, 0, none⟩ = some (.slice A n c) := Y2.out.1.cell 0
    have v1 : ((w1.setCell ⟨w.heap.size + 1, 0, none⟩ (.slice A n c)).setCell ⟨w.heap.size + 1, 1, none⟩ (.int .i64 er)).cell? ⟨w.heap.size + 1, 1, none⟩ = some (.int .i64 er) := Y2.out.1.cell 1
    clear hb q0 q1 F
    go_wp2_with fail
    refine bodyPost_ret (v := .tuple #[.agg #[.slice A n c, .int .i64 er], .int .u8 0]) ?_ rfl ⟨rfl, B3.out⟩
    simp [results, Try.results80, go_sem, v0, v1]

theorem RfV.next {w : World} {A A' : Option Addr} {n c : Nat} {b : Int} {r : List Int} (h : RfV w A n c (b :: r) 0) (ha : ∀ g off, A = some ⟨g, off, none⟩ → 1 < c → A' = some ⟨g, off + 1, none⟩) : RfV w A' (n - 1) (c - 1) r 0 :=
  ⟨fun _ => by
    obtain ⟨⟨hl, hc⟩, hn⟩ := h.ok rfl
    rw [List.length_cons] at hl
    refine ⟨⟨by omega, fun h0 => ?_⟩, by omega⟩
    obtain ⟨g, off, rfl, hlt, hcell⟩ := hc (by omega)
    refine ⟨g, off + 1, ha _ _ rfl (by omega), hlt, fun j hj => ?_⟩
    have := hcell (j + 1) (by omega)
    rw [show off + 1 + j = off + (j + 1) by omega, this]
    rfl, fun h => absurd rfl h⟩

set_option maxHeartbeats 4000000 in
set_option maxRecDepth 100000 in
theorem refbyte_yes (A : Option Addr) (n c : Nat) (b : Int) (r : List Int) (V w : World) (hV : Below V.heap.size V w) (h : RfV V A n c (b :: r) 0) (hn : n ≤ 1000000) :
    Calls Try.prog 80 #[.agg #[.slice A n c, .int .i64 0]] w fun e w' => ∃ A' n' c', e = .returned (.tuple #[.agg #[.slice A' n' c', .int .i64 0], .int .u8 b]) ∧ RfV V A' n' c' r 0 ∧ n' ≤ n ∧ Below w.heap.size w w' := by
  obtain ⟨⟨hl, hc⟩, hnc⟩ := (h.below hV).ok rfl
  rw [List.length_cons] at hl
  obtain ⟨g, off, rfl, hlt, hcell⟩ := hc (by omega)
  obtain ⟨A', hs, ha⟩ := slice_lo (some ⟨g, off, none⟩) n c 1 (by omega)
  have NX := Lib.hid (h.next ha)
  have X1 := Lib.hid ((Whole.made w rfT #[.slice (some ⟨g, off, none⟩) n c, .int .i64 0] _ rfl).alloc (.cells #[.slice none 0 0, .int .i64 0] rfT))
  have BA := Lib.hid (((Below.refl w.heap.size w).alloc (Nat.le_refl _) (.cells #[.slice (some ⟨g, off, none⟩) n c, .int .i64 0] rfT)).alloc (by simp) (.cells #[.slice none 0 0, .int .i64 0] rfT))
  have q0 : ((w.alloc (.cells #[.slice (some ⟨g, off, none⟩) n c, .int .i64 0] rfT)).alloc (.cells #[.slice none 0 0, .int .i64 0] rfT)).cell? ⟨w.heap.size, 0, none⟩ = some (.slice (some ⟨g, off, none⟩) n c) := X1.out.cell 0
  have q1 : ((w.alloc (.cells #[.slice (some ⟨g, off, none⟩) n c, .int .i64 0] rfT)).alloc (.cells #[.slice none 0 0, .int .i64 0] rfT)).cell? ⟨w.heap.size, 1, none⟩ = some (.int .i64 0) := X1.out.cell 1
  have c0 : w.cell? ⟨g, off, none⟩ = some (.int .u8 b) := hcell 0 (by omega)
  have x0 : ((w.alloc (.cells #[.slice (some ⟨g, off, none⟩) n c, .int .i64 0] rfT)).alloc (.cells #[.slice none 0 0, .int .i64 0] rfT)).cell? ⟨g, off, none⟩ = some (.int .u8 b) := cell_later c0 BA.out
  have hz : ((n : Int) == 0) = false := by simp; omega
  have hn0 : (0 : Int) < n := by omega
  have hs' : ∀ W, (Instr.slice bsT (.slice (some ⟨g, off, none⟩) n c) (some (.int .i64 1)) none none).run Try.prog W = .ok (.slice A' (n - 1) (c - 1)) W := hs
  have NN := Lib.hid (show n - 1 ≤ n by omega)
  clear h hl hc hcell ha hs hnc hV
  generalize n - 1 = n' at *
  generalize c - 1 = c' at *
  have X2 := Lib.hid (Whole.made (w.alloc (.cells #[.slice A' n' c', .int .i64 0] rfT)) rfT #[.slice A' n' c', .int .i64 0] (w.heap.size + 1) (by simp))
  have B2 := Lib.hid (((Below.refl w.heap.size w).alloc (Nat.le_refl _) (.cells #[.slice A' n' c', .int .i64 0] rfT)).alloc (by simp) (.cells #[.slice A' n' c', .int .i64 0] rfT))
  have v0 : ((w.alloc (.cells #[.slice A' n' c', .int .i64 0] rfT)).alloc (.cells #[.slice A' n' c', .int .i64 0] rfT)).cell? ⟨w.heap.size + 1, 0, none⟩ = some (.slice A' n' c') := X2.out.cell 0
  have v1 : ((w.alloc (.cells #[.slice A' n' c', .int .i64 0] rfT)).alloc (.cells #[.slice A' n' c', .int .i64 0] rfT)).cell? ⟨w.heap.size + 1, 1, none⟩ = some (.int .i64 0) := X2.out.cell 1
  go_enter Try.func80, Try.ntmps80
  go_wp2_with fail
  refine bodyPost_ret (v := .tuple #[.agg #[.slice A' n' c', .int .i64 0], .int .u8 b]) ?_ rfl ⟨_, _, _, rfl, NX.out, NN.out, B2.out⟩
  simp [results, Try.results80, go_sem, v0, v1]
end Go.Proofs.Ythmjniedfiabhaa
