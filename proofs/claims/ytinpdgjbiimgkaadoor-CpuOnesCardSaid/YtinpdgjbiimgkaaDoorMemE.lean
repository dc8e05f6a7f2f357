/- Package memory: Clone, New; the answers' New. -/
import Derived.Test.YtinpdgjbiimgkaaDoorMemD
import Derived.Test.YtinpdgjbiimgkaaDoorMemL
import Derived.Test.YtinpdgjbiimgkaaDoorSlices
namespace Go.Proofs.YtinpdgjbiimgkaaDoor
open Go.ChangeShapes Go.WideShapes Go.ChangeAt Go.RowKit
set_option linter.unusedVariables false

theorem rowU32 : RowOf Tryd.prog 27 22 .u32 4 := rowOf_mk Tryd.underlying27 (by kernel_rfl) (by decide)

theorem made_words (n : Nat) : madeCells #[Value.int .u32 0] n = words (List.replicate n 0) := by
  unfold madeCells words
  apply Array.ext
  · simp
  · intro i h1 h2
    simp [Nat.mod_one]

theorem run_make_words {P : Program} {t e : TypeId} (R : RowOf P t e .u32 4) (k : IntKind) (n : Nat) (hn : n ≤ 1000000) (w : World) :
    (Instr.makeSlice t (.int k n) (.int k n)).run P w = .ok (.slice (some ⟨w.heap.size, 0, none⟩) n n) (w.alloc (.cells (words (List.replicate n 0)) e)) := by
  obtain ⟨ht, ⟨i, hi, hz, hs, hb⟩, hp⟩ := R
  have hr := run_make (P := P) w t e i (.int .u32 0) ht hi hz k k n n (by omega) (Int.le_refl _) (by rw [hb]; omega) (by omega)
  rw [hr, hs, Int.toNat_natCast, Nat.mul_one, show (Value.int .u32 0).cells = #[Value.int .u32 0] from rfl, made_words]

theorem Whole.nums {w : World} {h : Nat} {t : TypeId} {ws : List Int} (hw : Whole w h t (words ws)) : Nums .u32 w (some ⟨h, 0, none⟩) ws.length ws :=
  ⟨rfl, fun _ => ⟨h, 0, rfl, hw.lt, fun j hj => by rw [Nat.zero_add]; exact hw.word hj⟩⟩

theorem splice_all (zs ws : List Int) (h : zs.length = ws.length) : splice zs 0 ws = ws := by
  unfold splice
  simp
  omega

/-- A copy of as many words over all of one's own. -/
theorem run_copy_all {P : Program} {dT sT ty elem : TypeId} (hu : P.underlying dT = some (.slice elem)) (hs : (P.info? elem).map (·.size) = some 1) {t : TypeId} {w : World} {h n c dCap : Nat} {A : Option Addr} {ws zs : List Int} (hw : Whole w h t (words zs)) (hz : Nums .u32 w A n ws) (hl : zs.length = n) :
    (Builtin.copy_ #[dT, sT] ty #[.slice (some ⟨h, 0, none⟩) n dCap, .slice A n c]).run P w = .ok (goInt n) (w.setRow h (words ws)) := by
  rcases Nat.eq_zero_or_pos n with h0 | h0
  · have e1 : ws = [] := List.eq_nil_of_length_eq_zero (by have := hz.1; omega)
    have e2 : zs = [] := List.eq_nil_of_length_eq_zero (by omega)
    subst e1 e2 h0
    rw [run_copy_none (P := P) w dT sT ty elem _ A 0 dCap 0 c hu hs (by simp), setRow_self w h (words []) t (0, 0) hw]
    rfl
  · have hr := run_copy_words (P := P) (dT := dT) (sT := sT) (ty := ty) (dLen := n) (dCap := dCap) (c := c) hu hs (k := 0) hw hz h0 (by omega) (Nat.le_refl _)
    rw [splice_all zs ws (by have := hz.1; omega)] at hr
    exact hr

theorem Whole.drew {w : World} {g : Nat} {t : TypeId} {cs : Array Value} (h : Whole w g t cs) : Whole w.drew g t cs := h

/-- What a call leaves that makes a memory. -/
def MadePost (e0 e1 e2 e3 e4 : Int) (n : Nat) (ws : List Int) (mk : Nat → Value) (w : World) (e : Ending) (w' : World) : Prop :=
  ∃ p' h', e = .returned (mk p') ∧ Whole w' p' 88 (memCells e0 e1 e2 e3 e4 h' n) ∧ Whole w' h' 22 (words ws) ∧ w.heap.size ≤ h' ∧ w.heap.size ≤ p' ∧ p' ≠ h' ∧ Below w.heap.size w w'

set_option maxHeartbeats 4000000 in
set_option maxRecDepth 100000 in
theorem new_bad (e0 e1 e2 e3 e4 : Int) (w : World) (u0 : U32 e0) (u1 : U32 e1) (u2 : U32 e2) (u3 : U32 e3) (u4 : U32 e4) (hok : okEnds e0 e1 e2 e3 e4 = false) :
    Calls Tryd.prog 16 #[endsV e0 e1 e2 e3 e4] w fun e w' => e = .returned (.tuple #[.pointer none, .int .i64 33]) ∧ Below w.heap.size w w' := by
  have hR := fun w => right_any e0 e1 e2 e3 e4 w u0 u1 u2 u3 u4
  simp only [hok] at hR
  have RI := Lib.hid hR
  clear hR hok
  unfold endsV at *
  go_enter Tryd.func16, Tryd.ntmps16
  go_wp2_with fail
  refine (RI.out _).mono ?_
  rintro e w1 ⟨rfl, hb1⟩
  have B1 := Lib.hid (((Below.refl _ _).alloc (Nat.le_refl _) _).trans (hb1.mono (show w.heap.size ≤ _ by simp)))
  clear hb1
  go_wp2_with fail
  go_ret2
  exact ⟨rfl, B1.out⟩

set_option maxHeartbeats 8000000 in
set_option maxRecDepth 100000 in
theorem new_ok (e0 e1 e2 e3 e4 : Int) (n : Nat) (w : World) (u0 : U32 e0) (u1 : U32 e1) (u2 : U32 e2) (u3 : U32 e3) (u4 : U32 e4) (hok : okEnds e0 e1 e2 e3 e4 = true) (hq : e4 / 4 = (n : Int)) (hn2 : n ≤ 1000000) :
    Calls Tryd.prog 16 #[endsV e0 e1 e2 e3 e4] w (MadePost e0 e1 e2 e3 e4 n (List.replicate n 0) (fun p' => .tuple #[.pointer (some ⟨p', 0, none⟩), .int .i64 0]) w) := by
  have hR := fun w => right_any e0 e1 e2 e3 e4 w u0 u1 u2 u3 u4
  simp only [hok] at hR
  have RI := Lib.hid hR
  have EN := Lib.hid (fun w => endsOf_any e0 e1 e2 e3 e4 w)
  have hmake := fun w => run_make_words (P := Tryd.prog) rowU32 .u32 n hn2 w
  obtain ⟨l4, m4⟩ := u4
  have hq4 : IntKind.u32.wrap (e4.tdiv 4) = (n : Int) := by rw [IntKind.wrap_u32, Int.tdiv_eq_ediv_of_nonneg l4]; omega
  clear hR hok
  unfold endsV at *
  go_enter Tryd.func16, Tryd.ntmps16
  go_wp2_with fail
  refine (RI.out _).mono ?_
  rintro e w1 ⟨rfl, hb1⟩
  have Q1 := Lib.hid ((Whole.made w 24 #[.int .u32 e0, .int .u32 e1, .int .u32 e2, .int .u32 e3, .int .u32 e4] _ rfl).below hb1 (by simp))
  have B1 := Lib.hid (((Below.refl _ _).alloc (Nat.le_refl _) _).trans (hb1.mono (show w.heap.size ≤ _ by simp)))
  have hz1 := Q1.out.lt
  clear hb1
  go_wp2_with fail
  have LS : w1.cell? ⟨w.heap.size, 0, none⟩ = some (.int .u32 e0) ∧ w1.cell? ⟨w.heap.size, 1, none⟩ = some (.int .u32 e1) ∧ w1.cell? ⟨w.heap.size, 2, none⟩ = some (.int .u32 e2) ∧ w1.cell? ⟨w.heap.size, 3, none⟩ = some (.int .u32 e3) ∧ w1.cell? ⟨w.heap.size, 4, none⟩ = some (.int .u32 e4) := ⟨Q1.out.cell 0, Q1.out.cell 1, Q1.out.cell 2, Q1.out.cell 3, Q1.out.cell 4⟩
  go_region_held3 (fun y => y.cell? ⟨w.heap.size, 0, none⟩ = some (.int .u32 e0) ∧ y.cell? ⟨w.heap.size, 1, none⟩ = some (.int .u32 e1) ∧ y.cell? ⟨w.heap.size, 2, none⟩ = some (.int .u32 e2) ∧ y.cell? ⟨w.heap.size, 3, none⟩ = some (.int .u32 e3) ∧ y.cell? ⟨w.heap.size, 4, none⟩ = some (.int .u32 e4))
    (first
      | with_reducible assumption
      | with_reducible exact keepL (by assumption) (Below.refl _ _).drew
      | with_reducible exact keepL (by assumption) ((Below.refl _ _).alloc (Nat.le_refl _) _)
      | with_reducible exact keepL (by assumption) hbm)
    (first | (go_at_call 37; refine (EN.out _).mono ?_; rintro e y1 ⟨rfl, hbm⟩))
  · clear hmake LS
    have z1 : w.heap.size ≤ w1.heap.size := B1.out.size
    have z2 : w1.heap.size ≤ y1.heap.size := hbm.size
    have B2 := Lib.hid (B1.out.drew.trans (hbm.mono z1))
    clear hbm
    go_wp2_with fail
    go_ret2
    refine ⟨y1.heap.size + 1, y1.heap.size, rfl, Whole.made _ _ _ _ (by simp), (Whole.made y1 _ _ _ rfl).alloc _, by omega, by omega, by omega, (B2.out.alloc (by omega) _).alloc (by simp; omega) _⟩
  · clear hmake LS
    have z1 : w.heap.size ≤ w1.heap.size := B1.out.size
    have HX := Lib.hid (Whole.below (Whole.made w1.drew 22 (words (List.replicate n 0)) w1.heap.size rfl) hbm (by simp))
    have z2 := HX.out.lt
    have B2 := Lib.hid ((B1.out.drew.alloc z1 _).trans (hbm.mono (show w.heap.size ≤ _ by simp; omega)))
    clear hbm
    go_wp2_with fail
    go_ret2
    refine ⟨y1.heap.size, w1.heap.size, rfl, Whole.made y1 _ _ _ rfl, HX.out.alloc _, z1, by omega, by omega, B2.out.alloc (by omega) _⟩

set_option maxHeartbeats 8000000 in
set_option maxRecDepth 100000 in
theorem refnew_any (e0 e1 e2 e3 e4 : Int) (n : Nat) (w : World) (u0 : U32 e0) (u1 : U32 e1) (u2 : U32 e2) (u3 : U32 e3) (u4 : U32 e4) (hq : e4 / 4 = (n : Int)) (hn2 : n ≤ 1000000) :
    Calls Tryd.prog 22 #[endsV e0 e1 e2 e3 e4] w fun e w' => ∃ h', e = .returned (.agg (memCells e0 e1 e2 e3 e4 h' n)) ∧ Whole w' h' 22 (words (List.replicate n 0)) ∧ w.heap.size ≤ h' ∧ Below w.heap.size w w' := by
  have hmake := fun w => run_make_words (P := Tryd.prog) rowU32 .u32 n hn2 w
  obtain ⟨l4, m4⟩ := u4
  have hq4 : IntKind.u32.wrap (e4.tdiv 4) = (n : Int) := by rw [IntKind.wrap_u32, Int.tdiv_eq_ediv_of_nonneg l4]; omega
  unfold endsV at *
  have Q0 := Lib.hid ((Whole.made w 39 #[.int .u32 e0, .int .u32 e1, .int .u32 e2, .int .u32 e3, .int .u32 e4] _ rfl).alloc (.cells #[.int .u32 0, .int .u32 0, .int .u32 0, .int .u32 0, .int .u32 0, .slice none 0 0] 41))
  have T0 := Lib.hid (Whole.made (w.alloc (.cells #[.int .u32 e0, .int .u32 e1, .int .u32 e2, .int .u32 e3, .int .u32 e4] 39)) 41 #[.int .u32 0, .int .u32 0, .int .u32 0, .int .u32 0, .int .u32 0, .slice none 0 0] (w.heap.size + 1) (by simp))
  have B0 := Lib.hid (((Below.refl w.heap.size w).alloc (Nat.le_refl _) (.cells #[.int .u32 e0, .int .u32 e1, .int .u32 e2, .int .u32 e3, .int .u32 e4] 39)).alloc (by simp) (.cells #[.int .u32 0, .int .u32 0, .int .u32 0, .int .u32 0, .int .u32 0, .slice none 0 0] 41))
  have Z0 := Lib.hid (show ((w.alloc (.cells #[.int .u32 e0, .int .u32 e1, .int .u32 e2, .int .u32 e3, .int .u32 e4] 39)).alloc (.cells #[.int .u32 0, .int .u32 0, .int .u32 0, .int .u32 0, .int .u32 0, .slice none 0 0] 41)).heap.size = w.heap.size + 2 by simp)
  go_enter Tryd.func22, Tryd.ntmps22
  go_wp2_with fail
  generalize (w.alloc (.cells #[.int .u32 e0, .int .u32 e1, .int .u32 e2, .int .u32 e3, .int .u32 e4] 39)).alloc (.cells #[.int .u32 0, .int .u32 0, .int .u32 0, .int .u32 0, .int .u32 0, .slice none 0 0] 41) = w1 at *
  have n01 : w.heap.size ≠ w.heap.size + 1 := by omega
  have n02 : w.heap.size + 1 ≠ w.heap.size := by omega
  have q0 : w1.cell? ⟨w.heap.size, 0, none⟩ = some (.int .u32 e0) := Q0.out.cell 0
  have q1 : w1.cell? ⟨w.heap.size, 1, none⟩ = some (.int .u32 e1) := Q0.out.cell 1
  have q2 : w1.cell? ⟨w.heap.size, 2, none⟩ = some (.int .u32 e2) := Q0.out.cell 2
  have q3 : w1.cell? ⟨w.heap.size, 3, none⟩ = some (.int .u32 e3) := Q0.out.cell 3
  have q4 : w1.cell? ⟨w.heap.size, 4, none⟩ = some (.int .u32 e4) := Q0.out.cell 4
  have t0 : w1.cell? ⟨w.heap.size + 1, 0, none⟩ = some (.int .u32 0) := T0.out.cell 0
  have t1 : w1.cell? ⟨w.heap.size + 1, 1, none⟩ = some (.int .u32 0) := T0.out.cell 1
  have t2 : w1.cell? ⟨w.heap.size + 1, 2, none⟩ = some (.int .u32 0) := T0.out.cell 2
  have t3 : w1.cell? ⟨w.heap.size + 1, 3, none⟩ = some (.int .u32 0) := T0.out.cell 3
  have t4 : w1.cell? ⟨w.heap.size + 1, 4, none⟩ = some (.int .u32 0) := T0.out.cell 4
  have t5 : w1.cell? ⟨w.heap.size + 1, 5, none⟩ = some (.slice none 0 0) := T0.out.cell 5
  have tf : ∀ i, w1.frozen? ⟨w.heap.size + 1, i, none⟩ = false := T0.out.free
  have s1 : w1.heap.size = w.heap.size + 2 := Z0.out
  go_region
  have TU := Lib.hid (show Whole ((((((((w1.setCell ⟨w.heap.size + 1, 0, none⟩ (.int .u32 e0)).setCell ⟨w.heap.size + 1, 1, none⟩ (.int .u32 e1)).setCell ⟨w.heap.size + 1, 2, none⟩ (.int .u32 e2)).setCell ⟨w.heap.size + 1, 3, none⟩ (.int .u32 e3)).setCell ⟨w.heap.size + 1, 4, none⟩ (.int .u32 e4)).setCell ⟨w.heap.size + 1, 5, none⟩ (.slice (some ⟨w.heap.size + 2, 0, none⟩) n n)).alloc (.cells (words (List.replicate n 0)) 22)).drew) (w.heap.size + 1) 41 (memCells e0 e1 e2 e3 e4 (w.heap.size + 2) n) from (((((((T0.out.store 0 (.int .u32 e0)).store 1 (.int .u32 e1)).store 2 (.int .u32 e2)).store 3 (.int .u32 e3)).store 4 (.int .u32 e4)).store 5 (.slice (some ⟨w.heap.size + 2, 0, none⟩) n n)).alloc (.cells (words (List.replicate n 0)) 22)).drew)
  have WU := Lib.hid (show Whole ((((((((w1.setCell ⟨w.heap.size + 1, 0, none⟩ (.int .u32 e0)).setCell ⟨w.heap.size + 1, 1, none⟩ (.int .u32 e1)).setCell ⟨w.heap.size + 1, 2, none⟩ (.int .u32 e2)).setCell ⟨w.heap.size + 1, 3, none⟩ (.int .u32 e3)).setCell ⟨w.heap.size + 1, 4, none⟩ (.int .u32 e4)).setCell ⟨w.heap.size + 1, 5, none⟩ (.slice (some ⟨w.heap.size + 2, 0, none⟩) n n)).alloc (.cells (words (List.replicate n 0)) 22)).drew) (w.heap.size + 2) 22 (words (List.replicate n 0)) from (Whole.made _ _ _ _ (by simp only [World.setCell, Array.size_modify, s1])).drew)
  have BU := Lib.hid (show Below w.heap.size w ((((((((w1.setCell ⟨w.heap.size + 1, 0, none⟩ (.int .u32 e0)).setCell ⟨w.heap.size + 1, 1, none⟩ (.int .u32 e1)).setCell ⟨w.heap.size + 1, 2, none⟩ (.int .u32 e2)).setCell ⟨w.heap.size + 1, 3, none⟩ (.int .u32 e3)).setCell ⟨w.heap.size + 1, 4, none⟩ (.int .u32 e4)).setCell ⟨w.heap.size + 1, 5, none⟩ (.slice (some ⟨w.heap.size + 2, 0, none⟩) n n)).alloc (.cells (words (List.replicate n 0)) 22)).drew) by
    refine Below.drew (Below.alloc ?_ (by simp only [World.setCell, Array.size_modify, s1]; omega) _)
    repeat (first | exact B0.out | refine Below.setCell ?_ (Nat.le_succ _) _))
  clear q0 q1 q2 q3 q4 t0 t1 t2 t3 t4 t5 tf hmake
  generalize (((((((w1.setCell ⟨w.heap.size + 1, 0, none⟩ (.int .u32 e0)).setCell ⟨w.heap.size + 1, 1, none⟩ (.int .u32 e1)).setCell ⟨w.heap.size + 1, 2, none⟩ (.int .u32 e2)).setCell ⟨w.heap.size + 1, 3, none⟩ (.int .u32 e3)).setCell ⟨w.heap.size + 1, 4, none⟩ (.int .u32 e4)).setCell ⟨w.heap.size + 1, 5, none⟩ (.slice (some ⟨w.heap.size + 2, 0, none⟩) n n)).alloc (.cells (words (List.replicate n 0)) 22)).drew = V at *
  have t0 : V.cell? ⟨w.heap.size + 1, 0, none⟩ = some (.int .u32 e0) := TU.out.cell 0
  have t1 : V.cell? ⟨w.heap.size + 1, 1, none⟩ = some (.int .u32 e1) := TU.out.cell 1
  have t2 : V.cell? ⟨w.heap.size + 1, 2, none⟩ = some (.int .u32 e2) := TU.out.cell 2
  have t3 : V.cell? ⟨w.heap.size + 1, 3, none⟩ = some (.int .u32 e3) := TU.out.cell 3
  have t4 : V.cell? ⟨w.heap.size + 1, 4, none⟩ = some (.int .u32 e4) := TU.out.cell 4
  have t5 : V.cell? ⟨w.heap.size + 1, 5, none⟩ = some (.slice (some ⟨w.heap.size + 2, 0, none⟩) n n) := TU.out.cell 5
  go_wp2_with fail
  exact bodyPost_ret (v := .agg (memCells e0 e1 e2 e3 e4 (w.heap.size + 2) n)) (by simp [results, Tryd.results22, go_sem, t0, t1, t2, t3, t4, t5, memCells]) rfl ⟨w.heap.size + 2, rfl, WU.out, by omega, BU.out⟩

end Go.Proofs.YtinpdgjbiimgkaaDoor
