/- Symfile: copies: strings.Clone, slices.Clone of parameters, imports, exports. -/
import Derived.Test.YthmjniedfiabhaaSymE
import Derived.Test.YthmjniedfiabhaaFngM
import Derived.Test.YthmjniedfiabhaaShelf
import Derived.Laws.Cover3
import Derived.Deep.RegionHeld3
namespace Go.Proofs.Ythmjniedfiabhaa
open Go.ChangeShapes Go.WideShapes Go.ChangeAt Go.RowKit
set_option linter.unusedVariables false
set_option linter.unusedSimpArgs false

set_option maxHeartbeats 4000000 in
set_option maxRecDepth 100000 in
theorem sclone_any (s : ByteArray) (w : World) (hs : s.size ≤ 140737488355328) :
    Calls Try.prog 55 #[.string s] w fun e w' => e = .returned (.string s) ∧ Below w.heap.size w w' := by
  have CL := Lib.hid (Try.stringslite_Clone s w (by omega))
  go_enter Try.func55, Try.ntmps55
  go_wp2_with fail
  refine CL.out.mono ?_
  rintro e w1 ⟨rfl, hb⟩
  have HB := Lib.hid hb
  clear hb
  go_wp2_with fail
  go_ret
  exact ⟨rfl, HB.out⟩

theorem one_flat {α : Type} {f : α → List Value} (h : ∀ x, ∀ u ∈ f x, u.oneCell' = true) (l : List α) : ∀ u ∈ l.flatMap f, u.oneCell' = true := by
  intro u hu
  obtain ⟨x, _, hx⟩ := List.mem_flatMap.1 hu
  exact h x u hx

theorem flat_len {α : Type} {f : α → List Value} {k : Nat} (h : ∀ x, (f x).length = k) (l : List α) : (l.flatMap f).length = l.length * k := by
  induction l with
  | nil => simp
  | cons x l ih => rw [List.flatMap_cons, List.length_append, ih, List.length_cons, h, Nat.add_mul]; omega

theorem par_one (q : Int × Bool) : ∀ u ∈ parCells q, u.oneCell' = true := by
  intro u hu
  simp [parCells] at hu
  rcases hu with rfl | rfl <;> rfl

theorem im_one (x : Im) : ∀ u ∈ imCells x, u.oneCell' = true := by
  intro u hu
  simp [imCells] at hu
  rcases hu with rfl | rfl <;> rfl

theorem ex_one (x : Exx) (h : x.2.oneCell' = true) : ∀ u ∈ exCells x, u.oneCell' = true := by
  intro u hu
  simp [exCells] at hu
  rcases hu with rfl | rfl | rfl | rfl | rfl
  all_goals first | rfl | exact h

theorem par_len (ps : List (Int × Bool)) : (ps.flatMap parCells).length = ps.length * 2 := flat_len (f := parCells) (k := 2) (fun _ => rfl) ps

theorem im_len (l : List Im) : (l.flatMap imCells).length = l.length * 2 := flat_len (f := imCells) (k := 2) (fun _ => rfl) l

theorem ex_len (l : List Exx) : (l.flatMap exCells).length = l.length * 5 := flat_len (f := exCells) (k := 5) (fun _ => rfl) l

theorem imInfo : (Try.prog.info? pI).map (fun i => (i.zero, i.size, i.bytes)) = some (some (.agg #[.string ⟨#[]⟩, .int .u32 0]), 2, 24) := by kernel_rfl

set_option maxHeartbeats 4000000 in
set_option maxRecDepth 100000 in
/-- slices.Clone of parameters: a row of its own. -/
theorem pclone_any (v : Value) (B : Nat) (ps : List (Int × Bool)) (w : World) (h : ParV B w v ps) (hn : ps.length * 16 ≤ 140737488355328) :
    Calls Try.prog 58 #[v] w fun e w' => ∃ v', e = .returned v' ∧ Below w.heap.size w w' ∧ ParV B w' v' ps := by
  obtain ⟨i0, hi, hz0, hz1, hz2⟩ := info_parts parInfo
  obtain ⟨A, c, rfl, hnone, hcell⟩ := h
  have HN := Lib.hid hn
  clear hn
  cases A with
  | none =>
    obtain ⟨rfl, rfl⟩ := hnone rfl
    have hnil : ∀ W : World, (binOp .eql 31 (.slice none 0 0) (.slice none 0 0)).run Try.prog W = .ok (.bool true) W := fun W => by
      simp only [binOp]
      simp [run_equal_slice_nil W 31 pP none 0 0 Try.underlying31]
    clear hnone hcell
    go_enter Try.func58, Try.ntmps58
    go_wp2_with fail
    go_ret
    exact ⟨_, rfl, Below.refl _ _, ParV.nil _ _⟩
  | some a =>
    have hnil : ∀ W : World, (binOp .eql 31 (.slice (some a) ps.length c) (.slice none 0 0)).run Try.prog W = .ok (.bool false) W := fun W => by
      simp only [binOp]
      simp [run_equal_slice_nil W 31 pP (some a) ps.length c Try.underlying31]
    have BA := Lib.hid ((Below.refl w.heap.size w).alloc (Nat.le_refl _) (.cells #[] pP))
    have OE := Lib.hid (row_built (e := pP) (sz := 2) w #[] 0 0 rfl (Nat.le_refl _) (Nat.zero_le _) w.heap.size (Nat.le_refl _) _ rfl [] rfl)
    have hzz : w.heap.size ≤ (w.alloc (.cells #[] pP)).heap.size := BA.out.size
    have NC := Lib.hid (show ∀ (j : Nat) u, (ps.flatMap parCells)[j]? = some u → (w.alloc (.cells #[] pP)).cell? (a.add j) = some u from fun j u hj => by
      by_cases hp : ps = []
      · subst hp
        simp at hj
      · obtain ⟨b, off, hA, hb, _, hc⟩ := hcell hp
        injection hA with hA
        subst hA
        rw [Go.WideShapes.add_plain]
        exact (BA.out.cell (p := ⟨b, off + j, none⟩) hb).trans (hc j u hj))
    clear hnone hcell
    go_enter Try.func58, Try.ntmps58
    go_wp2_with (first | (at_builtin; refine wpList_append_own_at _ rfl _ _ 31 rfl w.heap.size pP i0 _ 2 16 Try.underlying31 hi hz0 hz1 hz2 rfl (by decide) (.slice (some ⟨w.heap.size, 0, none⟩) 0 0) 0 [] rfl OE.out a ps.length c (ps.flatMap parCells) rfl (par_len ps) NC.out (one_flat par_one _) (by have := HN.out; unfold maxLen; omega) (by have := HN.out; omega) hzz ?_; intro v3 w3 ho3 hg3 hnl hat; have B3 := Lib.hid (BA.out.grown hg3 hzz (fun b hb => (World.ownsRow.lt OE.out b hb).1)); have O3 := Lib.hid ho3; clear ho3 hg3 hat hnl))
    go_ret
    exact ⟨_, rfl, B3.out, ParV.own (by have := O3.out; rwa [Nat.zero_add, List.nil_append] at this)⟩

set_option maxHeartbeats 4000000 in
set_option maxRecDepth 100000 in
/-- slices.Clone of imports: a row of its own. -/
theorem iclone_any (A : Option Addr) (c B : Nat) (l : List Im) (w : World) (h : ImV B w (.slice A l.length c) l) (hn : l.length * 24 ≤ 140737488355328) :
    Calls Try.prog 56 #[.slice A l.length c] w fun e w' => ∃ v', e = .returned v' ∧ Below w.heap.size w w' ∧ w'.ownsRow w.heap.size pI 2 v' l.length (l.flatMap imCells) := by
  obtain ⟨i0, hi, hz0, hz1, hz2⟩ := info_parts imInfo
  obtain ⟨A', c', he, hcell⟩ := h
  injection he with he he2 he3
  clear he2 he3
  subst he
  have HN := Lib.hid hn
  clear hn
  cases A with
  | none =>
    have hl : l = [] := Classical.byContradiction fun h => by
      obtain ⟨b, off, e, _⟩ := hcell h
      cases e
    subst hl
    have hnil : ∀ W : World, (binOp .eql 23 (.slice none 0 c) (.slice none 0 0)).run Try.prog W = .ok (.bool true) W := fun W => by
      simp only [binOp]
      simp [run_equal_slice_nil W 23 pI none 0 c Try.underlying23]
    clear hcell
    go_enter Try.func56, Try.ntmps56
    go_wp2_with fail
    go_ret
    exact ⟨_, rfl, Below.refl _ _, row_nil _ _ _ _⟩
  | some a =>
    have hnil : ∀ W : World, (binOp .eql 23 (.slice (some a) l.length c) (.slice none 0 0)).run Try.prog W = .ok (.bool false) W := fun W => by
      simp only [binOp]
      simp [run_equal_slice_nil W 23 pI (some a) l.length c Try.underlying23]
    have BA := Lib.hid ((Below.refl w.heap.size w).alloc (Nat.le_refl _) (.cells #[] pI))
    have OE := Lib.hid (row_built (e := pI) (sz := 2) w #[] 0 0 rfl (Nat.le_refl _) (Nat.zero_le _) w.heap.size (Nat.le_refl _) _ rfl [] rfl)
    have hzz : w.heap.size ≤ (w.alloc (.cells #[] pI)).heap.size := BA.out.size
    have NC := Lib.hid (show ∀ (j : Nat) u, (l.flatMap imCells)[j]? = some u → (w.alloc (.cells #[] pI)).cell? (a.add j) = some u from fun j u hj => by
      by_cases hp : l = []
      · subst hp
        simp at hj
      · obtain ⟨b, off, hA, _, hb, hc⟩ := hcell hp
        injection hA with hA
        subst hA
        rw [Go.WideShapes.add_plain]
        exact (BA.out.cell (p := ⟨b, off + j, none⟩) hb).trans (hc j u hj))
    clear hcell
    go_enter Try.func56, Try.ntmps56
    go_wp2_with (first | (at_builtin; refine wpList_append_own_at _ rfl _ _ 23 rfl w.heap.size pI i0 _ 2 24 Try.underlying23 hi hz0 hz1 hz2 rfl (by decide) (.slice (some ⟨w.heap.size, 0, none⟩) 0 0) 0 [] rfl OE.out a l.length c (l.flatMap imCells) rfl (im_len l) NC.out (one_flat im_one _) (by have := HN.out; unfold maxLen; omega) (by have := HN.out; omega) hzz ?_; intro v3 w3 ho3 hg3 hnl hat; have B3 := Lib.hid (BA.out.grown hg3 hzz (fun b hb => (World.ownsRow.lt OE.out b hb).1)); have O3 := Lib.hid ho3; clear ho3 hg3 hat hnl))
    go_ret
    exact ⟨_, rfl, B3.out, by have := O3.out; rwa [Nat.zero_add, List.nil_append] at this⟩

set_option maxHeartbeats 4000000 in
set_option maxRecDepth 100000 in
/-- slices.Clone of exports: a row of its own. -/
theorem eclone_any (A : Option Addr) (c B : Nat) (es : List Exx) (w : World) (h : ExpV B w (.slice A es.length c) es) (hn : es.length * 64 ≤ 140737488355328) :
    Calls Try.prog 57 #[.slice A es.length c] w fun e w' => ∃ v', e = .returned v' ∧ Below w.heap.size w w' ∧ RowE w' B w.heap.size v' es := by
  obtain ⟨i0, hi, hz0, hz1, hz2⟩ := info_parts exInfo
  obtain ⟨A', c', he, hcell, hpar⟩ := h
  injection he with he he2 he3
  clear he2 he3
  subst he
  have HN := Lib.hid hn
  have HP := Lib.hid hpar
  have ON := Lib.hid (show ∀ u ∈ es.flatMap exCells, u.oneCell' = true from fun u hu => by
    obtain ⟨x, hx, hu⟩ := List.mem_flatMap.1 hu
    refine ex_one x ?_ u hu
    obtain ⟨A, c, e⟩ := (hpar x hx).form
    rw [e]
    rfl)
  clear hn hpar
  cases A with
  | none =>
    have hl : es = [] := Classical.byContradiction fun h => by
      obtain ⟨b, off, e, _⟩ := hcell h
      cases e
    subst hl
    have hnil : ∀ W : World, (binOp .eql 24 (.slice none 0 c) (.slice none 0 0)).run Try.prog W = .ok (.bool true) W := fun W => by
      simp only [binOp]
      simp [run_equal_slice_nil W 24 pE none 0 c Try.underlying24]
    clear hcell
    go_enter Try.func57, Try.ntmps57
    go_wp2_with fail
    go_ret
    exact ⟨_, rfl, Below.refl _ _, RowE.nil _ _ _⟩
  | some a =>
    have hnil : ∀ W : World, (binOp .eql 24 (.slice (some a) es.length c) (.slice none 0 0)).run Try.prog W = .ok (.bool false) W := fun W => by
      simp only [binOp]
      simp [run_equal_slice_nil W 24 pE (some a) es.length c Try.underlying24]
    have BA := Lib.hid ((Below.refl w.heap.size w).alloc (Nat.le_refl _) (.cells #[] pE))
    have OE := Lib.hid (row_built (e := pE) (sz := 5) w #[] 0 0 rfl (Nat.le_refl _) (Nat.zero_le _) w.heap.size (Nat.le_refl _) _ rfl [] rfl)
    have hzz : w.heap.size ≤ (w.alloc (.cells #[] pE)).heap.size := BA.out.size
    have NC := Lib.hid (show ∀ (j : Nat) u, (es.flatMap exCells)[j]? = some u → (w.alloc (.cells #[] pE)).cell? (a.add j) = some u from fun j u hj => by
      by_cases hp : es = []
      · subst hp
        simp at hj
      · obtain ⟨b, off, hA, _, hb, hc⟩ := hcell hp
        injection hA with hA
        subst hA
        rw [Go.WideShapes.add_plain]
        exact (BA.out.cell (p := ⟨b, off + j, none⟩) hb).trans (hc j u hj))
    clear hcell
    go_enter Try.func57, Try.ntmps57
    go_wp2_with (first | (at_builtin; refine wpList_append_own_at _ rfl _ _ 24 rfl w.heap.size pE i0 _ 5 64 Try.underlying24 hi hz0 hz1 hz2 rfl (by decide) (.slice (some ⟨w.heap.size, 0, none⟩) 0 0) 0 [] rfl OE.out a es.length c (es.flatMap exCells) rfl (ex_len es) NC.out ON.out (by have := HN.out; unfold maxLen; omega) (by have := HN.out; omega) hzz ?_; intro v3 w3 ho3 hg3 hnl hat; have B3 := Lib.hid (BA.out.grown hg3 hzz (fun b hb => (World.ownsRow.lt OE.out b hb).1)); have O3 := Lib.hid ho3; clear ho3 hg3 hat hnl))
    go_ret
    exact ⟨_, rfl, B3.out, by have := O3.out; rwa [Nat.zero_add, List.nil_append] at this, fun x hx => (HP.out x hx).below B3.out⟩
end Go.Proofs.Ythmjniedfiabhaa
