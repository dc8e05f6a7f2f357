/- LisR LisS LisT LisU LisV LisX LisY LisZ LisW in one. -/
import Derived.Test.YtoffagmoaedkbaaDoorLift
import Derived.Test.YtoffagmoaedkbaaDoorLisAD
import Derived.Test.YtoffagmoaedkbaaDoorSlices
import Derived.Test.YtoffagmoaedkbaaDoorBlocks
import Derived.Lib.BufferMore
import Derived.Test.YtoffagmoaedkbaaDoorInstrJ
import Derived.Deep.LoopGhost
import Derived.WalkMore
import Derived.Deep.QuietTactic
import Derived.BigQuiet

/- Listing, plain: what is marked round by round is what is reached. -/
namespace Go.Proofs.YtoffagmoaedkbaaDoor
set_option linter.unusedVariables false

/-- A place is marked, if there is one. -/
def markAt (s : List Bool) (j : Int) : List Bool := if 0 ≤ j ∧ j < s.length then s.set j.toNat true else s

def sweepK (nx : Nat → List Int) (s : List Bool) (k : Nat) : List Bool := if s.getD k false = true then (nx k).foldl markAt s else s

def sweepL (nx : Nat → List Int) (n : Nat) (s : List Bool) : List Bool := (List.range n).foldl (sweepK nx) s

/-- So many rounds. -/
def sweeps (nx : Nat → List Int) (n : Nat) : Nat → List Bool → List Bool
  | 0, s => s
  | r + 1, s => sweeps nx n r (sweepL nx n s)

/-- What is reached. -/
inductive Reach (nx : Nat → List Int) (n : Nat) (fr : List Int) : Nat → Prop
  | base {j : Int} : j ∈ fr → 0 ≤ j → j < n → Reach nx n fr j.toNat
  | step {k : Nat} {j : Int} : Reach nx n fr k → j ∈ nx k → 0 ≤ j → j < n → Reach nx n fr j.toNat

/-- No mark is lost. -/
def Grows (s t : List Bool) : Prop := t.length = s.length ∧ ∀ i, s.getD i false = true → t.getD i false = true

theorem Grows.refl (s : List Bool) : Grows s s := ⟨rfl, fun _ h => h⟩

theorem Grows.trans {s t u : List Bool} (h1 : Grows s t) (h2 : Grows t u) : Grows s u := ⟨h2.1.trans h1.1, fun i h => h2.2 i (h1.2 i h)⟩

theorem getD_set_true {s : List Bool} {k i : Nat} : (s.set k true).getD i false = true ↔ (s.getD i false = true ∨ (k = i ∧ i < s.length)) := by
  simp only [List.getD_eq_getElem?_getD, List.getElem?_set]
  by_cases h : k = i
  · subst h
    by_cases h2 : k < s.length
    · simp [h2]
    · simp [h2]
  · simp [h]

theorem markAt_grows (s : List Bool) (j : Int) : Grows s (markAt s j) := by
  unfold markAt
  split
  · exact ⟨by simp, fun i h => getD_set_true.2 (.inl h)⟩
  · exact Grows.refl _

theorem markAt_true {s : List Bool} {j : Int} {i : Nat} : (markAt s j).getD i false = true ↔ (s.getD i false = true ∨ (0 ≤ j ∧ j < s.length ∧ j.toNat = i)) := by
  unfold markAt
  split
  · rename_i h
    rw [getD_set_true]
    constructor
    · rintro (h1 | ⟨h1, h2⟩)
      · exact .inl h1
      · exact .inr ⟨h.1, h.2, h1⟩
    · rintro (h1 | ⟨h1, h2, h3⟩)
      · exact .inl h1
      · exact .inr ⟨h3, by omega⟩
  · rename_i h
    constructor
    · exact .inl
    · rintro (h1 | ⟨h1, h2, h3⟩)
      · exact h1
      · exact absurd ⟨h1, h2⟩ h

theorem marks_grow (l : List Int) : ∀ s : List Bool, Grows s (l.foldl markAt s) := by
  induction l with
  | nil => exact Grows.refl
  | cons j l ih => exact fun s => (markAt_grows s j).trans (ih _)

theorem marks_true (l : List Int) : ∀ (s : List Bool) (i : Nat), (l.foldl markAt s).getD i false = true ↔ (s.getD i false = true ∨ ∃ j ∈ l, 0 ≤ j ∧ j < s.length ∧ j.toNat = i) := by
  induction l with
  | nil => intro s i; simp
  | cons a l ih =>
    intro s i
    rw [List.foldl_cons, ih, markAt_true, (markAt_grows s a).1]
    simp only [List.mem_cons, exists_eq_or_imp]
    constructor
    · rintro ((h | h) | h)
      · exact .inl h
      · exact .inr (.inl h)
      · exact .inr (.inr h)
    · rintro (h | h | h)
      · exact .inl (.inl h)
      · exact .inl (.inr h)
      · exact .inr h

section
variable {nx : Nat → List Int} {n : Nat} {fr : List Int}

theorem sweepK_grows (s : List Bool) (k : Nat) : Grows s (sweepK nx s k) := by
  unfold sweepK
  split
  · exact marks_grow _ _
  · exact Grows.refl _

theorem sweepF_grows (ks : List Nat) : ∀ s : List Bool, Grows s (ks.foldl (sweepK nx) s) := by
  induction ks with
  | nil => exact Grows.refl
  | cons k ks ih => exact fun s => (sweepK_grows s k).trans (ih _)

/-- Nothing but what is reached is marked. -/
def Sound (nx : Nat → List Int) (n : Nat) (fr : List Int) (s : List Bool) : Prop := s.length = n ∧ ∀ i, s.getD i false = true → Reach nx n fr i

theorem Sound.sweepK {s : List Bool} (h : Sound nx n fr s) (k : Nat) : Sound nx n fr (sweepK nx s k) := by
  unfold Go.Proofs.YtoffagmoaedkbaaDoor.sweepK
  split
  · rename_i hk
    refine ⟨(marks_grow _ _).1.trans h.1, fun i hi => ?_⟩
    rcases (marks_true _ _ _).1 hi with h1 | ⟨j, hj, h1, h2, rfl⟩
    · exact h.2 i h1
    · exact .step (h.2 k hk) hj h1 (by rw [← h.1]; exact h2)
  · exact h

theorem Sound.sweepF (ks : List Nat) : ∀ {s : List Bool}, Sound nx n fr s → Sound nx n fr (ks.foldl (Go.Proofs.YtoffagmoaedkbaaDoor.sweepK nx) s) := by
  induction ks with
  | nil => exact fun h => h
  | cons k ks ih => exact fun h => ih (h.sweepK k)

theorem Sound.sweeps : ∀ (r : Nat) {s : List Bool}, Sound nx n fr s → Sound nx n fr (Go.Proofs.YtoffagmoaedkbaaDoor.sweeps nx n r s)
  | 0, _, h => h
  | r + 1, _, h => Sound.sweeps r (h.sweepF _)

/-- All that leads on from a mark is marked. -/
def Closed (nx : Nat → List Int) (n : Nat) (s : List Bool) : Prop := ∀ k j, s.getD k false = true → j ∈ nx k → 0 ≤ j → j < n → s.getD j.toNat false = true

theorem sweepF_marks (ks : List Nat) : ∀ {s : List Bool} {k : Nat} {j : Int}, k ∈ ks → s.getD k false = true → j ∈ nx k → 0 ≤ j → j < s.length → (ks.foldl (sweepK nx) s).getD j.toNat false = true := by
  induction ks with
  | nil => intro s k j h; cases h
  | cons a ks ih =>
    intro s k j hk hs hj h0 h1
    rcases List.mem_cons.1 hk with rfl | hk
    · refine (sweepF_grows ks _).2 _ ?_
      unfold sweepK
      rw [if_pos hs]
      exact (marks_true _ _ _).2 (.inr ⟨j, hj, h0, h1, rfl⟩)
    · exact ih hk ((sweepK_grows s a).2 _ hs) hj h0 (by rw [(sweepK_grows s a).1]; exact h1)

theorem closed_of_same {s : List Bool} (hl : s.length = n) (h : sweepL nx n s = s) : Closed nx n s := by
  intro k j hk hj h0 h1
  have hkn : k < n := by
    rcases Nat.lt_or_ge k n with h2 | h2
    · exact h2
    · rw [List.getD_eq_getElem?_getD, List.getElem?_eq_none (by omega)] at hk
      cases hk
  have := sweepF_marks (nx := nx) (List.range n) (List.mem_range.2 hkn) hk hj h0 (by rw [hl]; exact h1)
  unfold sweepL at h
  rw [h] at this
  exact this

theorem grows_count {s t : List Bool} (h : Grows s t) : s.count true ≤ t.count true ∧ (s.count true = t.count true → s = t) := by
  obtain ⟨hl, hg⟩ := h
  induction s generalizing t with
  | nil =>
    cases t with
    | nil => exact ⟨Nat.le_refl _, fun _ => rfl⟩
    | cons => cases hl
  | cons a s ih =>
    cases t with
    | nil => cases hl
    | cons b t =>
      have ih := ih (t := t) (by simpa using hl) (fun i hi => by have := hg (i + 1); simpa using this (by simpa using hi))
      have h0 := hg 0
      cases a <;> cases b <;> simp at h0 ⊢
      · exact ih
      · exact ⟨by omega, by omega⟩
      · exact ih

theorem sweeps_same {s : List Bool} (h : sweepL nx n s = s) : ∀ r, sweeps nx n r s = s
  | 0 => rfl
  | r + 1 => by
    unfold sweeps
    rw [h]
    exact sweeps_same h r

theorem sweeps_closed : ∀ (r : Nat) (s : List Bool), s.length = n → n ≤ r + s.count true → Closed nx n (sweeps nx n r s)
  | 0, s, hl, hc => by
    intro k j _ _ h0 h1
    have hall : s.count true = s.length := Nat.le_antisymm List.count_le_length (by omega)
    have := List.count_eq_length.1 hall
    have hj : j.toNat < s.length := by omega
    show s.getD j.toNat false = true
    rw [List.getD_eq_getElem?_getD, List.getElem?_eq_getElem hj]
    exact (this _ (List.getElem_mem hj)).symm
  | r + 1, s, hl, hc => by
    by_cases h : sweepL nx n s = s
    · rw [sweeps_same h]
      exact closed_of_same hl h
    · have hg : Grows s (sweepL nx n s) := sweepF_grows _ _
      obtain ⟨c1, c2⟩ := grows_count hg
      have : s.count true ≠ (sweepL nx n s).count true := fun he => h (c2 he).symm
      exact sweeps_closed r _ (hg.1.trans hl) (by omega)

theorem sweeps_grow : ∀ (r : Nat) (s : List Bool), Grows s (sweeps nx n r s)
  | 0, s => Grows.refl s
  | r + 1, s => (sweepF_grows (nx := nx) (List.range n) s).trans (sweeps_grow r _)

/-- What holds the starts, is closed and sound, is just what is reached. -/
theorem reach_iff {s : List Bool} (h1 : Sound nx n fr s) (h2 : Closed nx n s) (h3 : ∀ j ∈ fr, 0 ≤ j → j < n → s.getD j.toNat false = true) (i : Nat) : s.getD i false = true ↔ Reach nx n fr i := by
  refine ⟨h1.2 i, fun h => ?_⟩
  induction h with
  | base hj h0 hn => exact h3 _ hj h0 hn
  | step _ hj h0 hn ih => exact h2 _ _ ih hj h0 hn

/-- The answers' rounds come to just what is reached. -/
theorem rounds_reach (i : Nat) : (sweeps nx n n (fr.foldl markAt (List.replicate n false))).getD i false = true ↔ Reach nx n fr i := by
  have hl : (fr.foldl markAt (List.replicate n false)).length = n := (marks_grow _ _).1.trans (by simp)
  have hrep : ∀ i, (List.replicate n false).getD i false = false := fun i => by
    rw [List.getD_eq_getElem?_getD, List.getElem?_replicate]
    split <;> rfl
  refine reach_iff (Sound.sweeps n ⟨hl, fun i hi => ?_⟩) (sweeps_closed n _ hl (by omega)) (fun j hj h0 hn => ?_) i
  · rcases (marks_true _ _ _).1 hi with h | ⟨j, hj, h0, h1, rfl⟩
    · rw [hrep] at h
      cases h
    · exact .base hj h0 (by simpa using h1)
  · exact (sweeps_grow n _).2 _ ((marks_true _ _ _).2 (.inr ⟨j, hj, h0, by simpa using hn, rfl⟩))
end

/-- Lists of marks with the same marks are one. -/
theorem marks_ext {s t : List Bool} (hl : s.length = t.length) (h : ∀ i, s.getD i false = true ↔ t.getD i false = true) : s = t := by
  apply List.ext_getElem hl
  intro i h1 h2
  have := h i
  rw [List.getD_eq_getElem?_getD, List.getD_eq_getElem?_getD, List.getElem?_eq_getElem h1, List.getElem?_eq_getElem h2] at this
  simp at this
  exact this
end Go.Proofs.YtoffagmoaedkbaaDoor

/- The answers' listing: next. -/
namespace Go.Proofs.YtoffagmoaedkbaaDoor
open Go.ChangeShapes Go.WideShapes Go.ChangeAt Go.RowKit
set_option linter.unusedVariables false

theorem rowI64L : RowOf Tryd.prog 54 3 .i64 8 := rowOf_mk Tryd.underlying54 (by kernel_rfl) (by decide)

/-- Does nothing come next behind it? -/
def stops (op : Int) : Prop := op = 1 ∨ op = 22 ∨ op = 24 ∨ op = 28 ∨ op = 29

instance (op : Int) : Decidable (stops op) := by unfold stops; infer_instance

/-- Where one comes to from a word. -/
def nxt (zs : List Int) (k : Nat) : List Int :=
  if OkX (zs.getD k 0) then (if stops (zs.getD k 0 / 16777216) then [] else [(k : Int) + 1]) ++ (if 20 ≤ zs.getD k 0 / 16777216 ∧ zs.getD k 0 / 16777216 ≤ 23 then [(k : Int) + 1 + decN (zs.getD k 0)] else []) else []

def NextPost (l : List Int) (w : World) (e : Ending) (w' : World) : Prop :=
  ∃ v, e = .returned v ∧ Owns .i64 3 w' w.heap.size v l.length l ∧ Below w.heap.size w w'

theorem decN_small {x : Int} (h0 : 0 ≤ x) (h1 : x ≤ 4294967295) (h : shapeOf (x / 16777216) ≠ -1) : -8388608 ≤ decN x ∧ decN x ≤ 8388607 := by
  obtain ⟨_, _, _, _, _, _, _, _, _, n0, n1⟩ := decGood h0 h1 h
  unfold lowOf at n0
  unfold highOf at n1
  split at n0 <;> split at n1 <;> (try split at n0) <;> (try split at n1) <;> (try split at n1) <;> omega

set_option maxHeartbeats 4000000 in
set_option maxRecDepth 100000 in
theorem next_both20 (A : Option Addr) (m cap k : Nat) (zs : List Int) (w : World) (hz : Nums .u32 w A m zs) (hk : k < m) (hm : m ≤ 1000000) (a b c n : Int) (hn : -8388608 ≤ n ∧ n ≤ 8388607) (DC : Hid (∀ w, Calls Tryd.prog 40 #[.int .u32 (zs.getD k 0)] w fun e w' => e = .returned (.tuple #[.agg #[.int .i64 20, .int .i64 a, .int .i64 b, .int .i64 c, .int .i64 n], .int .i64 0]) ∧ Below w.heap.size w w')) :
    Calls Tryd.prog 52 #[.slice A m cap, .int .i64 k] w (NextPost [(k : Int) + 1, (k : Int) + 1 + n] w) := by
  obtain ⟨ba, oa, rfl, _, hcell⟩ := hz.2 (by omega)
  have u0 := hcell k hk
  have kI : (k : Int) < m := by omega
  have LD := Lib.hid (leads_any 20)
  have nI := hn
  clear hz hcell hn
  unfold NextPost
  generalize zs.getD k 0 = x at *
  go_enter Tryd.func52, Tryd.ntmps52
  go_wp2_with fail
  refine (DC.out _).mono ?_
  rintro e w1 ⟨rfl, hb1⟩
  have B1 := Lib.hid (hb1.alloc hb1.size (.cells #[.int .i64 20, .int .i64 a, .int .i64 b, .int .i64 c, .int .i64 n] 91))
  have Q := Lib.hid (Whole.made w1 91 #[.int .i64 20, .int .i64 a, .int .i64 b, .int .i64 c, .int .i64 n] _ rfl)
  clear hb1 u0
  have V0 := Lib.hid (show w.heap.size ≤ (w1.alloc (.cells #[.int .i64 20, .int .i64 a, .int .i64 b, .int .i64 c, .int .i64 n] 91)).heap.size from B1.out.size)
  have NZ := Lib.hid (nums_built .i64 3 (w1.alloc (.cells #[.int .i64 20, .int .i64 a, .int .i64 b, .int .i64 c, .int .i64 n] 91)) [(k : Int) + 1] #[.int .i64 ((k : Int) + 1)] rfl 1 rfl (by decide) (w1.heap.size + 1) (by simp))
  have BA := Lib.hid (B1.out.alloc B1.out.size (.cells #[.int .i64 ((k : Int) + 1)] 3))
  have QA := Lib.hid (Q.out.alloc (.cells #[.int .i64 ((k : Int) + 1)] 3))
  have OA := Lib.hid (Owns.nil .i64 3 ((w1.alloc (.cells #[.int .i64 20, .int .i64 a, .int .i64 b, .int .i64 c, .int .i64 n] 91)).alloc (.cells #[.int .i64 ((k : Int) + 1)] 3)) ((w1.alloc (.cells #[.int .i64 20, .int .i64 a, .int .i64 b, .int .i64 c, .int .i64 n] 91)).alloc (.cells #[.int .i64 ((k : Int) + 1)] 3)).heap.size)
  go_wp2_with (at_builtin; refine wpList_append_nums _ rfl _ _ rfl rowI64L ((w1.alloc (.cells #[.int .i64 20, .int .i64 a, .int .i64 b, .int .i64 c, .int .i64 n] 91)).alloc (.cells #[.int .i64 ((k : Int) + 1)] 3)).heap.size (.slice none 0 0) 0 [] rfl OA.out (some ⟨w1.heap.size + 1, 0, none⟩) 1 1 [(k : Int) + 1] rfl NZ.out (by omega) (Nat.le_refl _) ?_; intro v4 w4 ho4 hg4 _; have BG := Owns.grown_below (Below.refl _ _) OA.out hg4 (Nat.le_refl _); have O4 := Lib.hid (show Owns .i64 3 w4 w.heap.size v4 1 [(k : Int) + 1] from ho4.more (Nat.le_trans V0.out (by simp))); have B4 := Lib.hid (BA.out.trans (BG.mono BA.out.size)); have Q4 := Lib.hid (QA.out.below BG QA.out.lt); have q0 : w4.cell? ⟨w1.heap.size, 0, none⟩ = some (.int .i64 20) := Q4.out.cell 0; have q4 : w4.cell? ⟨w1.heap.size, 4, none⟩ = some (.int .i64 n) := Q4.out.cell 4; clear ho4 hg4 BG NZ BA QA OA)
  refine (LD.out _).mono ?_
  rintro e w5 ⟨rfl, rfl⟩
  rw [show decide ((20 : Int) ≤ 20 ∧ (20 : Int) ≤ 23) = true from by decide]
  have NZ := Lib.hid (nums_built .i64 3 w4 [(k : Int) + 1 + n] #[.int .i64 ((k : Int) + 1 + n)] rfl 1 rfl (by decide) (w4.heap.size) (by rfl))
  have BA := Lib.hid (B4.out.alloc B4.out.size (.cells #[.int .i64 ((k : Int) + 1 + n)] 3))
  have OA := Lib.hid (O4.out.alloc (.cells #[.int .i64 ((k : Int) + 1 + n)] 3))
  go_wp2_with (at_builtin; refine wpList_append_nums _ rfl _ _ rfl rowI64L w.heap.size v4 1 [(k : Int) + 1] rfl OA.out (some ⟨w4.heap.size, 0, none⟩) 1 1 [(k : Int) + 1 + n] rfl NZ.out (by omega) (by have := BA.out.size; simpa using this) ?_; intro v6 w6 ho6 hg6 _; have O6 := Lib.hid ho6; have B6 := Lib.hid (Owns.grown_below BA.out OA.out hg6 (by have := BA.out.size; simpa using this)); clear ho6 hg6 NZ BA OA)
  go_ret
  exact ⟨v6, rfl, by simpa using O6.out, B6.out⟩

set_option maxHeartbeats 4000000 in
set_option maxRecDepth 100000 in
theorem next_both21 (A : Option Addr) (m cap k : Nat) (zs : List Int) (w : World) (hz : Nums .u32 w A m zs) (hk : k < m) (hm : m ≤ 1000000) (a b c n : Int) (hn : -8388608 ≤ n ∧ n ≤ 8388607) (DC : Hid (∀ w, Calls Tryd.prog 40 #[.int .u32 (zs.getD k 0)] w fun e w' => e = .returned (.tuple #[.agg #[.int .i64 21, .int .i64 a, .int .i64 b, .int .i64 c, .int .i64 n], .int .i64 0]) ∧ Below w.heap.size w w')) :
    Calls Tryd.prog 52 #[.slice A m cap, .int .i64 k] w (NextPost [(k : Int) + 1, (k : Int) + 1 + n] w) := by
  obtain ⟨ba, oa, rfl, _, hcell⟩ := hz.2 (by omega)
  have u0 := hcell k hk
  have kI : (k : Int) < m := by omega
  have LD := Lib.hid (leads_any 21)
  have nI := hn
  clear hz hcell hn
  unfold NextPost
  generalize zs.getD k 0 = x at *
  go_enter Tryd.func52, Tryd.ntmps52
  go_wp2_with fail
  refine (DC.out _).mono ?_
  rintro e w1 ⟨rfl, hb1⟩
  have B1 := Lib.hid (hb1.alloc hb1.size (.cells #[.int .i64 21, .int .i64 a, .int .i64 b, .int .i64 c, .int .i64 n] 91))
  have Q := Lib.hid (Whole.made w1 91 #[.int .i64 21, .int .i64 a, .int .i64 b, .int .i64 c, .int .i64 n] _ rfl)
  clear hb1 u0
  have V0 := Lib.hid (show w.heap.size ≤ (w1.alloc (.cells #[.int .i64 21, .int .i64 a, .int .i64 b, .int .i64 c, .int .i64 n] 91)).heap.size from B1.out.size)
  have NZ := Lib.hid (nums_built .i64 3 (w1.alloc (.cells #[.int .i64 21, .int .i64 a, .int .i64 b, .int .i64 c, .int .i64 n] 91)) [(k : Int) + 1] #[.int .i64 ((k : Int) + 1)] rfl 1 rfl (by decide) (w1.heap.size + 1) (by simp))
  have BA := Lib.hid (B1.out.alloc B1.out.size (.cells #[.int .i64 ((k : Int) + 1)] 3))
  have QA := Lib.hid (Q.out.alloc (.cells #[.int .i64 ((k : Int) + 1)] 3))
  have OA := Lib.hid (Owns.nil .i64 3 ((w1.alloc (.cells #[.int .i64 21, .int .i64 a, .int .i64 b, .int .i64 c, .int .i64 n] 91)).alloc (.cells #[.int .i64 ((k : Int) + 1)] 3)) ((w1.alloc (.cells #[.int .i64 21, .int .i64 a, .int .i64 b, .int .i64 c, .int .i64 n] 91)).alloc (.cells #[.int .i64 ((k : Int) + 1)] 3)).heap.size)
  go_wp2_with (at_builtin; refine wpList_append_nums _ rfl _ _ rfl rowI64L ((w1.alloc (.cells #[.int .i64 21, .int .i64 a, .int .i64 b, .int .i64 c, .int .i64 n] 91)).alloc (.cells #[.int .i64 ((k : Int) + 1)] 3)).heap.size (.slice none 0 0) 0 [] rfl OA.out (some ⟨w1.heap.size + 1, 0, none⟩) 1 1 [(k : Int) + 1] rfl NZ.out (by omega) (Nat.le_refl _) ?_; intro v4 w4 ho4 hg4 _; have BG := Owns.grown_below (Below.refl _ _) OA.out hg4 (Nat.le_refl _); have O4 := Lib.hid (show Owns .i64 3 w4 w.heap.size v4 1 [(k : Int) + 1] from ho4.more (Nat.le_trans V0.out (by simp))); have B4 := Lib.hid (BA.out.trans (BG.mono BA.out.size)); have Q4 := Lib.hid (QA.out.below BG QA.out.lt); have q0 : w4.cell? ⟨w1.heap.size, 0, none⟩ = some (.int .i64 21) := Q4.out.cell 0; have q4 : w4.cell? ⟨w1.heap.size, 4, none⟩ = some (.int .i64 n) := Q4.out.cell 4; clear ho4 hg4 BG NZ BA QA OA)
  refine (LD.out _).mono ?_
  rintro e w5 ⟨rfl, rfl⟩
  rw [show decide ((20 : Int) ≤ 21 ∧ (21 : Int) ≤ 23) = true from by decide]
  have NZ := Lib.hid (nums_built .i64 3 w4 [(k : Int) + 1 + n] #[.int .i64 ((k : Int) + 1 + n)] rfl 1 rfl (by decide) (w4.heap.size) (by rfl))
  have BA := Lib.hid (B4.out.alloc B4.out.size (.cells #[.int .i64 ((k : Int) + 1 + n)] 3))
  have OA := Lib.hid (O4.out.alloc (.cells #[.int .i64 ((k : Int) + 1 + n)] 3))
  go_wp2_with (at_builtin; refine wpList_append_nums _ rfl _ _ rfl rowI64L w.heap.size v4 1 [(k : Int) + 1] rfl OA.out (some ⟨w4.heap.size, 0, none⟩) 1 1 [(k : Int) + 1 + n] rfl NZ.out (by omega) (by have := BA.out.size; simpa using this) ?_; intro v6 w6 ho6 hg6 _; have O6 := Lib.hid ho6; have B6 := Lib.hid (Owns.grown_below BA.out OA.out hg6 (by have := BA.out.size; simpa using this)); clear ho6 hg6 NZ BA OA)
  go_ret
  exact ⟨v6, rfl, by simpa using O6.out, B6.out⟩

set_option maxHeartbeats 4000000 in
set_option maxRecDepth 100000 in
theorem next_both23 (A : Option Addr) (m cap k : Nat) (zs : List Int) (w : World) (hz : Nums .u32 w A m zs) (hk : k < m) (hm : m ≤ 1000000) (a b c n : Int) (hn : -8388608 ≤ n ∧ n ≤ 8388607) (DC : Hid (∀ w, Calls Tryd.prog 40 #[.int .u32 (zs.getD k 0)] w fun e w' => e = .returned (.tuple #[.agg #[.int .i64 23, .int .i64 a, .int .i64 b, .int .i64 c, .int .i64 n], .int .i64 0]) ∧ Below w.heap.size w w')) :
    Calls Tryd.prog 52 #[.slice A m cap, .int .i64 k] w (NextPost [(k : Int) + 1, (k : Int) + 1 + n] w) := by
  obtain ⟨ba, oa, rfl, _, hcell⟩ := hz.2 (by omega)
  have u0 := hcell k hk
  have kI : (k : Int) < m := by omega
  have LD := Lib.hid (leads_any 23)
  have nI := hn
  clear hz hcell hn
  unfold NextPost
  generalize zs.getD k 0 = x at *
  go_enter Tryd.func52, Tryd.ntmps52
  go_wp2_with fail
  refine (DC.out _).mono ?_
  rintro e w1 ⟨rfl, hb1⟩
  have B1 := Lib.hid (hb1.alloc hb1.size (.cells #[.int .i64 23, .int .i64 a, .int .i64 b, .int .i64 c, .int .i64 n] 91))
  have Q := Lib.hid (Whole.made w1 91 #[.int .i64 23, .int .i64 a, .int .i64 b, .int .i64 c, .int .i64 n] _ rfl)
  clear hb1 u0
  have V0 := Lib.hid (show w.heap.size ≤ (w1.alloc (.cells #[.int .i64 23, .int .i64 a, .int .i64 b, .int .i64 c, .int .i64 n] 91)).heap.size from B1.out.size)
  have NZ := Lib.hid (nums_built .i64 3 (w1.alloc (.cells #[.int .i64 23, .int .i64 a, .int .i64 b, .int .i64 c, .int .i64 n] 91)) [(k : Int) + 1] #[.int .i64 ((k : Int) + 1)] rfl 1 rfl (by decide) (w1.heap.size + 1) (by simp))
  have BA := Lib.hid (B1.out.alloc B1.out.size (.cells #[.int .i64 ((k : Int) + 1)] 3))
  have QA := Lib.hid (Q.out.alloc (.cells #[.int .i64 ((k : Int) + 1)] 3))
  have OA := Lib.hid (Owns.nil .i64 3 ((w1.alloc (.cells #[.int .i64 23, .int .i64 a, .int .i64 b, .int .i64 c, .int .i64 n] 91)).alloc (.cells #[.int .i64 ((k : Int) + 1)] 3)) ((w1.alloc (.cells #[.int .i64 23, .int .i64 a, .int .i64 b, .int .i64 c, .int .i64 n] 91)).alloc (.cells #[.int .i64 ((k : Int) + 1)] 3)).heap.size)
  go_wp2_with (at_builtin; refine wpList_append_nums _ rfl _ _ rfl rowI64L ((w1.alloc (.cells #[.int .i64 23, .int .i64 a, .int .i64 b, .int .i64 c, .int .i64 n] 91)).alloc (.cells #[.int .i64 ((k : Int) + 1)] 3)).heap.size (.slice none 0 0) 0 [] rfl OA.out (some ⟨w1.heap.size + 1, 0, none⟩) 1 1 [(k : Int) + 1] rfl NZ.out (by omega) (Nat.le_refl _) ?_; intro v4 w4 ho4 hg4 _; have BG := Owns.grown_below (Below.refl _ _) OA.out hg4 (Nat.le_refl _); have O4 := Lib.hid (show Owns .i64 3 w4 w.heap.size v4 1 [(k : Int) + 1] from ho4.more (Nat.le_trans V0.out (by simp))); have B4 := Lib.hid (BA.out.trans (BG.mono BA.out.size)); have Q4 := Lib.hid (QA.out.below BG QA.out.lt); have q0 : w4.cell? ⟨w1.heap.size, 0, none⟩ = some (.int .i64 23) := Q4.out.cell 0; have q4 : w4.cell? ⟨w1.heap.size, 4, none⟩ = some (.int .i64 n) := Q4.out.cell 4; clear ho4 hg4 BG NZ BA QA OA)
  refine (LD.out _).mono ?_
  rintro e w5 ⟨rfl, rfl⟩
  rw [show decide ((20 : Int) ≤ 23 ∧ (23 : Int) ≤ 23) = true from by decide]
  have NZ := Lib.hid (nums_built .i64 3 w4 [(k : Int) + 1 + n] #[.int .i64 ((k : Int) + 1 + n)] rfl 1 rfl (by decide) (w4.heap.size) (by rfl))
  have BA := Lib.hid (B4.out.alloc B4.out.size (.cells #[.int .i64 ((k : Int) + 1 + n)] 3))
  have OA := Lib.hid (O4.out.alloc (.cells #[.int .i64 ((k : Int) + 1 + n)] 3))
  go_wp2_with (at_builtin; refine wpList_append_nums _ rfl _ _ rfl rowI64L w.heap.size v4 1 [(k : Int) + 1] rfl OA.out (some ⟨w4.heap.size, 0, none⟩) 1 1 [(k : Int) + 1 + n] rfl NZ.out (by omega) (by have := BA.out.size; simpa using this) ?_; intro v6 w6 ho6 hg6 _; have O6 := Lib.hid ho6; have B6 := Lib.hid (Owns.grown_below BA.out OA.out hg6 (by have := BA.out.size; simpa using this)); clear ho6 hg6 NZ BA OA)
  go_ret
  exact ⟨v6, rfl, by simpa using O6.out, B6.out⟩

set_option maxHeartbeats 4000000 in
set_option maxRecDepth 100000 in
theorem next_lead22 (A : Option Addr) (m cap k : Nat) (zs : List Int) (w : World) (hz : Nums .u32 w A m zs) (hk : k < m) (hm : m ≤ 1000000) (a b c n : Int) (hn : -8388608 ≤ n ∧ n ≤ 8388607) (DC : Hid (∀ w, Calls Tryd.prog 40 #[.int .u32 (zs.getD k 0)] w fun e w' => e = .returned (.tuple #[.agg #[.int .i64 22, .int .i64 a, .int .i64 b, .int .i64 c, .int .i64 n], .int .i64 0]) ∧ Below w.heap.size w w')) :
    Calls Tryd.prog 52 #[.slice A m cap, .int .i64 k] w (NextPost [(k : Int) + 1 + n] w) := by
  obtain ⟨ba, oa, rfl, _, hcell⟩ := hz.2 (by omega)
  have u0 := hcell k hk
  have kI : (k : Int) < m := by omega
  have LD := Lib.hid (leads_any 22)
  have nI := hn
  clear hz hcell hn
  unfold NextPost
  generalize zs.getD k 0 = x at *
  go_enter Tryd.func52, Tryd.ntmps52
  go_wp2_with fail
  refine (DC.out _).mono ?_
  rintro e w1 ⟨rfl, hb1⟩
  have B1 := Lib.hid (hb1.alloc hb1.size (.cells #[.int .i64 22, .int .i64 a, .int .i64 b, .int .i64 c, .int .i64 n] 91))
  have Q := Lib.hid (Whole.made w1 91 #[.int .i64 22, .int .i64 a, .int .i64 b, .int .i64 c, .int .i64 n] _ rfl)
  clear hb1 u0
  have V0 := Lib.hid (show w.heap.size ≤ (w1.alloc (.cells #[.int .i64 22, .int .i64 a, .int .i64 b, .int .i64 c, .int .i64 n] 91)).heap.size from B1.out.size)
  go_wp2_with fail
  refine (LD.out _).mono ?_
  rintro e w5 ⟨rfl, rfl⟩
  rw [show decide ((20 : Int) ≤ 22 ∧ (22 : Int) ≤ 23) = true from by decide]
  have NZ := Lib.hid (nums_built .i64 3 (w1.alloc (.cells #[.int .i64 22, .int .i64 a, .int .i64 b, .int .i64 c, .int .i64 n] 91)) [(k : Int) + 1 + n] #[.int .i64 ((k : Int) + 1 + n)] rfl 1 rfl (by decide) (w1.heap.size + 1) (by simp))
  have BA := Lib.hid (B1.out.alloc B1.out.size (.cells #[.int .i64 ((k : Int) + 1 + n)] 3))
  have OA := Lib.hid (Owns.nil .i64 3 ((w1.alloc (.cells #[.int .i64 22, .int .i64 a, .int .i64 b, .int .i64 c, .int .i64 n] 91)).alloc (.cells #[.int .i64 ((k : Int) + 1 + n)] 3)) w.heap.size)
  go_wp2_with (at_builtin; refine wpList_append_nums _ rfl _ _ rfl rowI64L w.heap.size (.slice none 0 0) 0 [] rfl OA.out (some ⟨w1.heap.size + 1, 0, none⟩) 1 1 [(k : Int) + 1 + n] rfl NZ.out (by omega) (by have := BA.out.size; simpa using this) ?_; intro v6 w6 ho6 hg6 _; have O6 := Lib.hid ho6; have B6 := Lib.hid (Owns.grown_below BA.out OA.out hg6 (by have := BA.out.size; simpa using this)); clear ho6 hg6 NZ BA OA)
  go_ret
  exact ⟨v6, rfl, by simpa using O6.out, B6.out⟩

set_option maxHeartbeats 4000000 in
set_option maxRecDepth 100000 in
theorem next_none1 (A : Option Addr) (m cap k : Nat) (zs : List Int) (w : World) (hz : Nums .u32 w A m zs) (hk : k < m) (hm : m ≤ 1000000) (a b c n : Int) (hn : -8388608 ≤ n ∧ n ≤ 8388607) (DC : Hid (∀ w, Calls Tryd.prog 40 #[.int .u32 (zs.getD k 0)] w fun e w' => e = .returned (.tuple #[.agg #[.int .i64 1, .int .i64 a, .int .i64 b, .int .i64 c, .int .i64 n], .int .i64 0]) ∧ Below w.heap.size w w')) :
    Calls Tryd.prog 52 #[.slice A m cap, .int .i64 k] w (NextPost [] w) := by
  obtain ⟨ba, oa, rfl, _, hcell⟩ := hz.2 (by omega)
  have u0 := hcell k hk
  have kI : (k : Int) < m := by omega
  have LD := Lib.hid (leads_any 1)
  have nI := hn
  clear hz hcell hn
  unfold NextPost
  generalize zs.getD k 0 = x at *
  go_enter Tryd.func52, Tryd.ntmps52
  go_wp2_with fail
  refine (DC.out _).mono ?_
  rintro e w1 ⟨rfl, hb1⟩
  have B1 := Lib.hid (hb1.alloc hb1.size (.cells #[.int .i64 1, .int .i64 a, .int .i64 b, .int .i64 c, .int .i64 n] 91))
  have Q := Lib.hid (Whole.made w1 91 #[.int .i64 1, .int .i64 a, .int .i64 b, .int .i64 c, .int .i64 n] _ rfl)
  clear hb1 u0
  have V0 := Lib.hid (show w.heap.size ≤ (w1.alloc (.cells #[.int .i64 1, .int .i64 a, .int .i64 b, .int .i64 c, .int .i64 n] 91)).heap.size from B1.out.size)
  go_wp2_with fail
  refine (LD.out _).mono ?_
  rintro e w5 ⟨rfl, rfl⟩
  rw [show decide ((20 : Int) ≤ 1 ∧ (1 : Int) ≤ 23) = false from by decide]
  go_wp2_with fail
  go_ret
  exact ⟨(.slice none 0 0), rfl, Owns.nil _ _ _ _, B1.out⟩

set_option maxHeartbeats 4000000 in
set_option maxRecDepth 100000 in
theorem next_none24 (A : Option Addr) (m cap k : Nat) (zs : List Int) (w : World) (hz : Nums .u32 w A m zs) (hk : k < m) (hm : m ≤ 1000000) (a b c n : Int) (hn : -8388608 ≤ n ∧ n ≤ 8388607) (DC : Hid (∀ w, Calls Tryd.prog 40 #[.int .u32 (zs.getD k 0)] w fun e w' => e = .returned (.tuple #[.agg #[.int .i64 24, .int .i64 a, .int .i64 b, .int .i64 c, .int .i64 n], .int .i64 0]) ∧ Below w.heap.size w w')) :
    Calls Tryd.prog 52 #[.slice A m cap, .int .i64 k] w (NextPost [] w) := by
  obtain ⟨ba, oa, rfl, _, hcell⟩ := hz.2 (by omega)
  have u0 := hcell k hk
  have kI : (k : Int) < m := by omega
  have LD := Lib.hid (leads_any 24)
  have nI := hn
  clear hz hcell hn
  unfold NextPost
  generalize zs.getD k 0 = x at *
  go_enter Tryd.func52, Tryd.ntmps52
  go_wp2_with fail
  refine (DC.out _).mono ?_
  rintro e w1 ⟨rfl, hb1⟩
  have B1 := Lib.hid (hb1.alloc hb1.size (.cells #[.int .i64 24, .int .i64 a, .int .i64 b, .int .i64 c, .int .i64 n] 91))
  have Q := Lib.hid (Whole.made w1 91 #[.int .i64 24, .int .i64 a, .int .i64 b, .int .i64 c, .int .i64 n] _ rfl)
  clear hb1 u0
  have V0 := Lib.hid (show w.heap.size ≤ (w1.alloc (.cells #[.int .i64 24, .int .i64 a, .int .i64 b, .int .i64 c, .int .i64 n] 91)).heap.size from B1.out.size)
  go_wp2_with fail
  refine (LD.out _).mono ?_
  rintro e w5 ⟨rfl, rfl⟩
  rw [show decide ((20 : Int) ≤ 24 ∧ (24 : Int) ≤ 23) = false from by decide]
  go_wp2_with fail
  go_ret
  exact ⟨(.slice none 0 0), rfl, Owns.nil _ _ _ _, B1.out⟩

set_option maxHeartbeats 4000000 in
set_option maxRecDepth 100000 in
theorem next_none28 (A : Option Addr) (m cap k : Nat) (zs : List Int) (w : World) (hz : Nums .u32 w A m zs) (hk : k < m) (hm : m ≤ 1000000) (a b c n : Int) (hn : -8388608 ≤ n ∧ n ≤ 8388607) (DC : Hid (∀ w, Calls Tryd.prog 40 #[.int .u32 (zs.getD k 0)] w fun e w' => e = .returned (.tuple #[.agg #[.int .i64 28, .int .i64 a, .int .i64 b, .int .i64 c, .int .i64 n], .int .i64 0]) ∧ Below w.heap.size w w')) :
    Calls Tryd.prog 52 #[.slice A m cap, .int .i64 k] w (NextPost [] w) := by
  obtain ⟨ba, oa, rfl, _, hcell⟩ := hz.2 (by omega)
  have u0 := hcell k hk
  have kI : (k : Int) < m := by omega
  have LD := Lib.hid (leads_any 28)
  have nI := hn
  clear hz hcell hn
  unfold NextPost
  generalize zs.getD k 0 = x at *
  go_enter Tryd.func52, Tryd.ntmps52
  go_wp2_with fail
  refine (DC.out _).mono ?_
  rintro e w1 ⟨rfl, hb1⟩
  have B1 := Lib.hid (hb1.alloc hb1.size (.cells #[.int .i64 28, .int .i64 a, .int .i64 b, .int .i64 c, .int .i64 n] 91))
  have Q := Lib.hid (Whole.made w1 91 #[.int .i64 28, .int .i64 a, .int .i64 b, .int .i64 c, .int .i64 n] _ rfl)
  clear hb1 u0
  have V0 := Lib.hid (show w.heap.size ≤ (w1.alloc (.cells #[.int .i64 28, .int .i64 a, .int .i64 b, .int .i64 c, .int .i64 n] 91)).heap.size from B1.out.size)
  go_wp2_with fail
  refine (LD.out _).mono ?_
  rintro e w5 ⟨rfl, rfl⟩
  rw [show decide ((20 : Int) ≤ 28 ∧ (28 : Int) ≤ 23) = false from by decide]
  go_wp2_with fail
  go_ret
  exact ⟨(.slice none 0 0), rfl, Owns.nil _ _ _ _, B1.out⟩

set_option maxHeartbeats 4000000 in
set_option maxRecDepth 100000 in
theorem next_none29 (A : Option Addr) (m cap k : Nat) (zs : List Int) (w : World) (hz : Nums .u32 w A m zs) (hk : k < m) (hm : m ≤ 1000000) (a b c n : Int) (hn : -8388608 ≤ n ∧ n ≤ 8388607) (DC : Hid (∀ w, Calls Tryd.prog 40 #[.int .u32 (zs.getD k 0)] w fun e w' => e = .returned (.tuple #[.agg #[.int .i64 29, .int .i64 a, .int .i64 b, .int .i64 c, .int .i64 n], .int .i64 0]) ∧ Below w.heap.size w w')) :
    Calls Tryd.prog 52 #[.slice A m cap, .int .i64 k] w (NextPost [] w) := by
  obtain ⟨ba, oa, rfl, _, hcell⟩ := hz.2 (by omega)
  have u0 := hcell k hk
  have kI : (k : Int) < m := by omega
  have LD := Lib.hid (leads_any 29)
  have nI := hn
  clear hz hcell hn
  unfold NextPost
  generalize zs.getD k 0 = x at *
  go_enter Tryd.func52, Tryd.ntmps52
  go_wp2_with fail
  refine (DC.out _).mono ?_
  rintro e w1 ⟨rfl, hb1⟩
  have B1 := Lib.hid (hb1.alloc hb1.size (.cells #[.int .i64 29, .int .i64 a, .int .i64 b, .int .i64 c, .int .i64 n] 91))
  have Q := Lib.hid (Whole.made w1 91 #[.int .i64 29, .int .i64 a, .int .i64 b, .int .i64 c, .int .i64 n] _ rfl)
  clear hb1 u0
  have V0 := Lib.hid (show w.heap.size ≤ (w1.alloc (.cells #[.int .i64 29, .int .i64 a, .int .i64 b, .int .i64 c, .int .i64 n] 91)).heap.size from B1.out.size)
  go_wp2_with fail
  refine (LD.out _).mono ?_
  rintro e w5 ⟨rfl, rfl⟩
  rw [show decide ((20 : Int) ≤ 29 ∧ (29 : Int) ≤ 23) = false from by decide]
  go_wp2_with fail
  go_ret
  exact ⟨(.slice none 0 0), rfl, Owns.nil _ _ _ _, B1.out⟩

set_option maxHeartbeats 4000000 in
set_option maxRecDepth 100000 in
theorem next_only (A : Option Addr) (m cap k : Nat) (zs : List Int) (w : World) (hz : Nums .u32 w A m zs) (hk : k < m) (hm : m ≤ 1000000) (op a b c n : Int) (hn : -8388608 ≤ n ∧ n ≤ 8388607) (DC : Hid (∀ w, Calls Tryd.prog 40 #[.int .u32 (zs.getD k 0)] w fun e w' => e = .returned (.tuple #[.agg #[.int .i64 op, .int .i64 a, .int .i64 b, .int .i64 c, .int .i64 n], .int .i64 0]) ∧ Below w.heap.size w w')) (h1 : ¬ stops op) (h2 : ¬ (20 ≤ op ∧ op ≤ 23)) :
    Calls Tryd.prog 52 #[.slice A m cap, .int .i64 k] w (NextPost [(k : Int) + 1] w) := by
  obtain ⟨ba, oa, rfl, _, hcell⟩ := hz.2 (by omega)
  have u0 := hcell k hk
  have kI : (k : Int) < m := by omega
  have LD := Lib.hid (leads_any op)
  have nI := hn
  clear hz hcell hn
  unfold NextPost
  generalize zs.getD k 0 = x at *
  have s0 : (op != 1) = true := by unfold stops at h1; rw [bne_iff_ne]; omega
  have s1 : (op != 22) = true := by unfold stops at h1; rw [bne_iff_ne]; omega
  have s2 : (op != 24) = true := by unfold stops at h1; rw [bne_iff_ne]; omega
  have s3 : (op != 28) = true := by unfold stops at h1; rw [bne_iff_ne]; omega
  have s4 : (op != 29) = true := by unfold stops at h1; rw [bne_iff_ne]; omega
  have DL := Lib.hid (decide_eq_false h2)
  clear h1 h2
  go_enter Tryd.func52, Tryd.ntmps52
  go_wp2_with fail
  refine (DC.out _).mono ?_
  rintro e w1 ⟨rfl, hb1⟩
  have B1 := Lib.hid (hb1.alloc hb1.size (.cells #[.int .i64 op, .int .i64 a, .int .i64 b, .int .i64 c, .int .i64 n] 91))
  have Q := Lib.hid (Whole.made w1 91 #[.int .i64 op, .int .i64 a, .int .i64 b, .int .i64 c, .int .i64 n] _ rfl)
  clear hb1 u0
  have V0 := Lib.hid (show w.heap.size ≤ (w1.alloc (.cells #[.int .i64 op, .int .i64 a, .int .i64 b, .int .i64 c, .int .i64 n] 91)).heap.size from B1.out.size)
  have NZ := Lib.hid (nums_built .i64 3 (w1.alloc (.cells #[.int .i64 op, .int .i64 a, .int .i64 b, .int .i64 c, .int .i64 n] 91)) [(k : Int) + 1] #[.int .i64 ((k : Int) + 1)] rfl 1 rfl (by decide) (w1.heap.size + 1) (by simp))
  have BA := Lib.hid (B1.out.alloc B1.out.size (.cells #[.int .i64 ((k : Int) + 1)] 3))
  have QA := Lib.hid (Q.out.alloc (.cells #[.int .i64 ((k : Int) + 1)] 3))
  have OA := Lib.hid (Owns.nil .i64 3 ((w1.alloc (.cells #[.int .i64 op, .int .i64 a, .int .i64 b, .int .i64 c, .int .i64 n] 91)).alloc (.cells #[.int .i64 ((k : Int) + 1)] 3)) ((w1.alloc (.cells #[.int .i64 op, .int .i64 a, .int .i64 b, .int .i64 c, .int .i64 n] 91)).alloc (.cells #[.int .i64 ((k : Int) + 1)] 3)).heap.size)
  go_wp2_with (at_builtin; refine wpList_append_nums _ rfl _ _ rfl rowI64L ((w1.alloc (.cells #[.int .i64 op, .int .i64 a, .int .i64 b, .int .i64 c, .int .i64 n] 91)).alloc (.cells #[.int .i64 ((k : Int) + 1)] 3)).heap.size (.slice none 0 0) 0 [] rfl OA.out (some ⟨w1.heap.size + 1, 0, none⟩) 1 1 [(k : Int) + 1] rfl NZ.out (by omega) (Nat.le_refl _) ?_; intro v4 w4 ho4 hg4 _; have BG := Owns.grown_below (Below.refl _ _) OA.out hg4 (Nat.le_refl _); have O4 := Lib.hid (show Owns .i64 3 w4 w.heap.size v4 1 [(k : Int) + 1] from ho4.more (Nat.le_trans V0.out (by simp))); have B4 := Lib.hid (BA.out.trans (BG.mono BA.out.size)); have Q4 := Lib.hid (QA.out.below BG QA.out.lt); have q0 : w4.cell? ⟨w1.heap.size, 0, none⟩ = some (.int .i64 op) := Q4.out.cell 0; have q4 : w4.cell? ⟨w1.heap.size, 4, none⟩ = some (.int .i64 n) := Q4.out.cell 4; clear ho4 hg4 BG NZ BA QA OA)
  refine (LD.out _).mono ?_
  rintro e w5 ⟨rfl, rfl⟩
  rw [DL.out]
  go_wp2_with fail
  go_ret
  exact ⟨v4, rfl, O4.out, B4.out⟩

end Go.Proofs.YtoffagmoaedkbaaDoor

/- The answers' listing: next, of any word. -/
namespace Go.Proofs.YtoffagmoaedkbaaDoor
open Go.ChangeShapes Go.WideShapes Go.ChangeAt Go.RowKit
set_option linter.unusedVariables false

set_option maxHeartbeats 4000000 in
set_option maxRecDepth 100000 in
theorem next_bad (A : Option Addr) (m cap k : Nat) (zs : List Int) (w : World) (hz : Nums .u32 w A m zs) (hk : k < m) (hm : m ≤ 1000000) (DC : Hid (∀ w, Calls Tryd.prog 40 #[.int .u32 (zs.getD k 0)] w fun e w' => e = .returned (.tuple #[.agg #[.int .i64 0, .int .i64 0, .int .i64 0, .int .i64 0, .int .i64 0], .int .i64 21]) ∧ Below w.heap.size w w')) :
    Calls Tryd.prog 52 #[.slice A m cap, .int .i64 k] w (NextPost [] w) := by
  obtain ⟨ba, oa, rfl, _, hcell⟩ := hz.2 (by omega)
  have u0 := hcell k hk
  have kI : (k : Int) < m := by omega
  clear hz hcell
  unfold NextPost
  generalize zs.getD k 0 = x at *
  go_enter Tryd.func52, Tryd.ntmps52
  go_wp2_with fail
  refine (DC.out _).mono ?_
  rintro e w1 ⟨rfl, hb1⟩
  have B1 := Lib.hid (hb1.alloc hb1.size (.cells #[.int .i64 0, .int .i64 0, .int .i64 0, .int .i64 0, .int .i64 0] 91))
  clear hb1 u0
  go_wp2_with fail
  go_ret
  exact ⟨.slice none 0 0, rfl, Owns.nil _ _ _ _, B1.out⟩

theorem nxt_bad {zs : List Int} {k : Nat} (h : ¬ OkX (zs.getD k 0)) : nxt zs k = [] := if_neg h

theorem nxt_ok {zs : List Int} {k : Nat} (h : OkX (zs.getD k 0)) : nxt zs k = (if stops (zs.getD k 0 / 16777216) then [] else [(k : Int) + 1]) ++ (if 20 ≤ zs.getD k 0 / 16777216 ∧ zs.getD k 0 / 16777216 ≤ 23 then [(k : Int) + 1 + decN (zs.getD k 0)] else []) := if_pos h

theorem refnext_any (A : Option Addr) (m cap k : Nat) (zs : List Int) (w : World) (hz : Nums .u32 w A m zs) (hk : k < m) (hm : m ≤ 1000000) (hu : 0 ≤ zs.getD k 0 ∧ zs.getD k 0 ≤ 4294967295) :
    Calls Tryd.prog 52 #[.slice A m cap, .int .i64 k] w (NextPost (nxt zs k) w) := by
  have DC := fun w => refdecode_any (zs.getD k 0) w hu.1 hu.2
  by_cases hok : OkX (zs.getD k 0)
  case neg =>
    rw [nxt_bad hok]
    have hV : decV (zs.getD k 0) = .tuple #[instrV 0 0 0 0 0, .int .i64 21] := by
      unfold decV
      exact if_neg hok
    rw [hV] at DC
    exact next_bad A m cap k zs w hz hk hm (Lib.hid DC)
  rw [nxt_ok hok]
  have hV : decV (zs.getD k 0) = .tuple #[instrV (zs.getD k 0 / 16777216) (decA (zs.getD k 0)) (decB (zs.getD k 0)) (decC (zs.getD k 0)) (decN (zs.getD k 0)), .int .i64 0] := by
    unfold decV
    exact if_pos hok
  rw [hV] at DC
  have hn := decN_small hu.1 hu.2 hok.1
  unfold instrV at DC
  generalize zs.getD k 0 / 16777216 = op at *
  by_cases h1 : stops op
  · rw [if_pos h1]
    have h1' := h1
    unfold stops at h1'
    rcases h1' with rfl | rfl | rfl | rfl | rfl
    · rw [if_neg (by decide)]
      exact next_none1 A m cap k zs w hz hk hm _ _ _ _ hn (Lib.hid DC)
    · rw [if_pos (by decide)]
      exact next_lead22 A m cap k zs w hz hk hm _ _ _ _ hn (Lib.hid DC)
    · rw [if_neg (by decide)]
      exact next_none24 A m cap k zs w hz hk hm _ _ _ _ hn (Lib.hid DC)
    · rw [if_neg (by decide)]
      exact next_none28 A m cap k zs w hz hk hm _ _ _ _ hn (Lib.hid DC)
    · rw [if_neg (by decide)]
      exact next_none29 A m cap k zs w hz hk hm _ _ _ _ hn (Lib.hid DC)
  · rw [if_neg h1]
    by_cases h2 : 20 ≤ op ∧ op ≤ 23
    · rw [if_pos h2]
      rcases (show op = 20 ∨ op = 21 ∨ op = 23 by unfold stops at h1; omega) with rfl | rfl | rfl
      · exact next_both20 A m cap k zs w hz hk hm _ _ _ _ hn (Lib.hid DC)
      · exact next_both21 A m cap k zs w hz hk hm _ _ _ _ hn (Lib.hid DC)
      · exact next_both23 A m cap k zs w hz hk hm _ _ _ _ hn (Lib.hid DC)
    · rw [if_neg h2]
      exact next_only A m cap k zs w hz hk hm op _ _ _ _ hn (Lib.hid DC) h1 h2
end Go.Proofs.YtoffagmoaedkbaaDoor

/- Listing: a block of marks. -/
namespace Go.Proofs.YtoffagmoaedkbaaDoor
open Go.ChangeShapes Go.WideShapes Go.ChangeAt Go.RowKit
set_option linter.unusedVariables false

/-- Marks, as cells. -/
def marks (s : List Bool) : Array Value := (s.map Value.bool).toArray

theorem marks_get {s : List Bool} {i : Nat} (h : i < s.length) : (marks s)[i]? = some (.bool (s.getD i false)) := by
  simp [marks, List.getD_eq_getElem?_getD, h]

theorem marks_set (s : List Bool) (i : Nat) : (marks s).setIfInBounds i (.bool true) = marks (s.set i true) := by
  unfold marks
  rw [List.setIfInBounds_toArray, List.map_set]

theorem made_marks (n : Nat) : madeCells #[Value.bool false] n = marks (List.replicate n false) := by
  unfold madeCells marks
  apply Array.ext
  · simp
  · intro i h1 h2
    simp [Nat.mod_one]

theorem run_make_marks (n : Nat) (hn : n ≤ 1000000) (w : World) :
    (Instr.makeSlice 55 (.int .i64 n) (.int .i64 n)).run Tryd.prog w = .ok (.slice (some ⟨w.heap.size, 0, none⟩) n n) (w.alloc (.cells (marks (List.replicate n false)) 4)) := by
  have h : (Tryd.prog.info? 4).map (fun i => (i.zero, i.size, i.bytes)) = some (some (.bool false), 1, 1) := by kernel_rfl
  cases hp : Tryd.prog.info? 4 with
  | none => rw [hp] at h; cases h
  | some i =>
    rw [hp] at h
    simp only [Option.map_some, Option.some.injEq, Prod.mk.injEq] at h
    obtain ⟨hz, hs, hb⟩ := h
    have hr := run_make (P := Tryd.prog) w 55 4 i (.bool false) Tryd.underlying55 hp hz .i64 .i64 n n (by omega) (Int.le_refl _) (by rw [hb]; omega) (by omega)
    rw [hr, hs, Int.toNat_natCast, Nat.mul_one, show (Value.bool false).cells = #[Value.bool false] from rfl, made_marks]
end Go.Proofs.YtoffagmoaedkbaaDoor

/- The answers' listing: Reached. -/
namespace Go.Proofs.YtoffagmoaedkbaaDoor
open Go.ChangeShapes Go.WideShapes Go.ChangeAt Go.RowKit
set_option linter.unusedVariables false

theorem markAt_in {s : List Bool} {j : Nat} (h : j < s.length) : markAt s (j : Int) = s.set j true := by
  unfold markAt
  rw [if_pos ⟨by omega, by omega⟩]
  rfl

theorem markAt_out {s : List Bool} {z : Int} (h : ¬ (0 ≤ z ∧ z < s.length)) : markAt s z = s := if_neg h

theorem drop_cons {l : List Int} {t : Nat} (h : t < l.length) : l.drop t = l.getD t 0 :: l.drop (t + 1) := by
  rw [List.drop_eq_getElem_cons h, List.getD_eq_getElem?_getD, List.getElem?_eq_getElem h]
  rfl

theorem range_cons {n t : Nat} (h : t < n) : (List.range n).drop t = t :: (List.range n).drop (t + 1) := by
  rw [List.drop_eq_getElem_cons (by simpa using h)]
  simp

theorem nxt_len (zs : List Int) (k : Nat) : (nxt zs k).length ≤ 2 := by
  unfold nxt
  split
  · split <;> split <;> simp
  · simp

theorem nums_far {k : IntKind} {w : World} {A : Option Addr} {n : Nat} {zs : List Int} (h : Nums k w A n zs) {g j : Nat} (hne : ∀ b off, A = some ⟨b, off, none⟩ → b ≠ g) (v : Value) : Nums k (w.setCell ⟨g, j, none⟩ v) A n zs :=
  ⟨h.1, fun h0 => by
    obtain ⟨b, off, rfl, hlt, hc⟩ := h.2 h0
    refine ⟨b, off, rfl, by simpa using hlt, fun i hi => ?_⟩
    rw [World.cell?_setCell_other _ _ _ _ (fun e => hne b off rfl (by injection e with e1; exact e1.symm))]
    exact hc i hi⟩

def RPost (n : Nat) (S : List Bool) (w : World) (e : Ending) (w' : World) : Prop :=
  ∃ g, e = .returned (.slice (some ⟨g, 0, none⟩) n n) ∧ Whole w' g 4 (marks S) ∧ w.heap.size ≤ g ∧ Below w.heap.size w w'

set_option maxHeartbeats 16000000 in
set_option maxRecDepth 100000 in
theorem refreached_any (A A2 : Option Addr) (n c nf cf : Nat) (zs fr : List Int) (w : World) (hz : Nums .u32 w A n zs) (hf : Nums .i64 w A2 nf fr) (hn : n ≤ 60) (hnf : nf ≤ 60) (hu : ∀ k, 0 ≤ zs.getD k 0 ∧ zs.getD k 0 ≤ 4294967295) :
    Calls Tryd.prog 27 #[.slice A n c, .slice A2 nf cf] w (RPost n (sweeps (nxt zs) n n (fr.foldl markAt (List.replicate n false))) w) := by
  have HZ := Lib.hid hz
  have HF := Lib.hid hf
  have HU := Lib.hid hu
  have hmake := run_make_marks n (by omega) w
  have K0 := Lib.hid (Whole.made w 4 (marks (List.replicate n false)) _ rfl)
  have B0 := Lib.hid ((Below.refl w.heap.size w).alloc (Nat.le_refl _) (.cells (marks (List.replicate n false)) 4))
  have E0 := Lib.hid (show (fr.drop 0).foldl markAt (List.replicate n false) = fr.foldl markAt (List.replicate n false) from rfl)
  have FL := Lib.hid hf.1
  clear hz hf hu
  generalize hSF : sweeps (nxt zs) n n (fr.foldl markAt (List.replicate n false)) = SF
  have HSF := Lib.hid hSF
  clear hSF
  generalize hS0 : fr.foldl markAt (List.replicate n false) = S0 at E0 HSF
  clear hS0
  go_enter Tryd.func27, Tryd.ntmps27
  go_wp2_with fail
  generalize w.alloc (.cells (marks (List.replicate n false)) 4) = W0 at *
  clear hmake
  go_loopw [6] (fun i wr => ∃ (t : Nat) (s : List Bool), t ≤ nf ∧ i = .int .i64 t ∧ s.length = n ∧ Whole wr w.heap.size 4 (marks s) ∧ Below w.heap.size w wr ∧ (fr.drop t).foldl markAt s = S0) (fun i _ => nf - (intOf i).toNat)
  case atStart => exact ⟨0, List.replicate n false, Nat.zero_le _, rfl, by simp, K0.out, B0.out, E0.out⟩
  case round =>
    clear K0 B0 E0
    obtain ⟨t, s, ht, rfl, hs, hK, hB, hE⟩ := hrel
    have KH := Lib.hid hK
    have BH := Lib.hid hB
    have EH := Lib.hid hE
    have SH := Lib.hid hs
    clear hK hB hE hs
    by_cases hlt : t < nf
    · have tI : (t : Int) < nf := by omega
      obtain ⟨bf, of, hA2, _, hcell⟩ := (HF.out.below BH.out).2 (by omega)
      subst hA2
      have u0 := hcell t hlt
      have E1 := Lib.hid (show (fr.drop (t + 1)).foldl markAt (markAt s (fr.getD t 0)) = S0 from by
        have := EH.out
        rw [drop_cons (by rw [FL.out]; exact hlt)] at this
        exact this)
      clear hcell
      generalize fr.getD t 0 = z at *
      by_cases h0 : 0 ≤ z
      · obtain ⟨j, rfl⟩ := Int.eq_ofNat_of_zero_le h0
        by_cases h1 : j < n
        · have h1I : (j : Int) < n := by omega
          have fz : wr.frozen? ⟨w.heap.size, j, none⟩ = false := KH.out.free j
          have cz : wr.cell? ⟨w.heap.size, j, none⟩ = some (.bool (s.getD j false)) := (KH.out.cell j).trans (marks_get (by rw [SH.out]; exact h1))
          have K2 := Lib.hid (KH.out.store j (.bool true))
          have B2 := Lib.hid (BH.out.setCell (p := ⟨w.heap.size, j, none⟩) (Nat.le_refl _) (.bool true))
          go_wp2_with fail
          go_roundw
          case rel => exact ⟨t + 1, s.set j true, by omega, by go_num, by rw [List.length_set]; exact SH.out, by rw [← marks_set]; exact K2.out, B2.out, by rw [← markAt_in (by rw [SH.out]; exact h1)]; exact E1.out⟩
          case measure => simp [intOf]; omega
        · have h1I : ¬ (j : Int) < n := by omega
          have d1 : decide ((j : Int) < n) = false := decide_eq_false h1I
          go_wp2_with fail
          go_roundw
          case rel => exact ⟨t + 1, s, by omega, by go_num, SH.out, KH.out, BH.out, by have := E1.out; rwa [markAt_out (by rw [SH.out]; omega)] at this⟩
          case measure => simp [intOf]; omega
      · have d0 : decide (0 ≤ z) = false := decide_eq_false h0
        go_wp2_with fail
        go_roundw
        case rel => exact ⟨t + 1, s, by omega, by go_num, SH.out, KH.out, BH.out, by have := E1.out; rwa [markAt_out (by omega)] at this⟩
        case measure => simp [intOf]; omega
    · have tI : ¬ (t : Int) < nf := by omega
      obtain rfl : s = S0 := by
        have := EH.out
        rw [List.drop_of_length_le (by rw [FL.out]; omega)] at this
        exact this
      clear EH
      go_wp2_with fail
      clear tI hlt ht
      go_loopw [7] (fun i wr => ∃ (q : Nat) (s2 : List Bool), q ≤ n ∧ i = .int .i64 q ∧ s2.length = n ∧ Whole wr w.heap.size 4 (marks s2) ∧ Below w.heap.size w wr ∧ sweeps (nxt zs) n (n - q) s2 = SF) (fun i _ => n - (intOf i).toNat)
      case atStart => exact ⟨0, s, Nat.zero_le _, rfl, SH.out, KH.out, BH.out, HSF.out⟩
      case round =>
        clear KH BH HSF
        obtain ⟨q, s2, hq, rfl, hs2, hK, hB, hE⟩ := hrel
        have KH := Lib.hid hK
        have BH := Lib.hid hB
        have EH := Lib.hid hE
        have SH2 := Lib.hid hs2
        clear hK hB hE hs2
        by_cases hqn : q < n
        · have qI : (q : Int) < n := by omega
          have EQ := Lib.hid (show sweeps (nxt zs) n (n - (q + 1)) (sweepL (nxt zs) n s2) = SF from by
            have := EH.out
            rw [show n - q = (n - (q + 1)) + 1 by omega] at this
            exact this)
          clear EH
          have E3 := Lib.hid (show ((List.range n).drop 0).foldl (sweepK (nxt zs)) s2 = sweepL (nxt zs) n s2 from rfl)
          generalize hSQ : sweepL (nxt zs) n s2 = SQ at EQ E3
          clear hSQ
          go_wp2_with fail
          go_loopw [8] (fun i wr => ∃ (p : Nat) (s3 : List Bool), p ≤ n ∧ i = .int .i64 p ∧ s3.length = n ∧ Whole wr w.heap.size 4 (marks s3) ∧ Below w.heap.size w wr ∧ ((List.range n).drop p).foldl (sweepK (nxt zs)) s3 = SQ) (fun i _ => n - (intOf i).toNat)
          case atStart => exact ⟨0, s2, Nat.zero_le _, rfl, SH2.out, KH.out, BH.out, E3.out⟩
          case round =>
            clear KH BH E3
            obtain ⟨p, s3, hp, rfl, hs3, hK, hB, hE⟩ := hrel
            have KH := Lib.hid hK
            have BH := Lib.hid hB
            have EH := Lib.hid hE
            have SH3 := Lib.hid hs3
            clear hK hB hE hs3
            by_cases hpn : p < n
            · have pI : (p : Int) < n := by omega
              have c3 : wr.cell? ⟨w.heap.size, p, none⟩ = some (.bool (s3.getD p false)) := (KH.out.cell p).trans (marks_get (by rw [SH3.out]; exact hpn))
              have E4 := Lib.hid (show ((List.range n).drop (p + 1)).foldl (sweepK (nxt zs)) (sweepK (nxt zs) s3 p) = SQ from by
                have := EH.out
                rw [range_cons hpn] at this
                exact this)
              clear EH
              cases hb : s3.getD p false with
              | false =>
                rw [hb] at c3
                have E5 := Lib.hid (show ((List.range n).drop (p + 1)).foldl (sweepK (nxt zs)) s3 = SQ from by
                  have := E4.out
                  rwa [show sweepK (nxt zs) s3 p = s3 from if_neg (by rw [hb]; decide)] at this)
                clear hb E4
                go_wp2_with fail
                go_roundw
                case rel => exact ⟨p + 1, s3, by omega, by go_num, SH3.out, KH.out, BH.out, E5.out⟩
                case measure => simp [intOf]; omega
              | true =>
                rw [hb] at c3
                have E5 := Lib.hid (show ((List.range n).drop (p + 1)).foldl (sweepK (nxt zs)) ((nxt zs p).foldl markAt s3) = SQ from by
                  have := E4.out
                  rwa [show sweepK (nxt zs) s3 p = (nxt zs p).foldl markAt s3 from if_pos hb] at this)
                have NX := Lib.hid (refnext_any A n c p zs wr (HZ.out.below BH.out) hpn (by omega) (HU.out p))
                have lI := nxt_len zs p
                have E6 := Lib.hid (show ((nxt zs p).drop 0).foldl markAt s3 = (nxt zs p).foldl markAt s3 from rfl)
                clear hb E4
                generalize (nxt zs p).foldl markAt s3 = SK at *
                generalize nxt zs p = l at *
                unfold NextPost at NX
                go_wp2_with fail
                refine NX.out.mono ?_
                rintro e w5 ⟨v, rfl, ho, hb5⟩
                have K5 := Lib.hid (KH.out.below hb5 KH.out.lt)
                have B5 := Lib.hid (BH.out.trans (hb5.mono BH.out.size))
                have gl := KH.out.lt
                obtain ⟨Al, cl, rfl, hnl⟩ := ho.form
                have NE := Lib.hid (show ∀ b off, Al = some ⟨b, off, none⟩ → b ≠ w.heap.size from fun b off hA => by
                  have := (ho.lt b (by rw [hA]; rfl)).1
                  omega)
                have NL := Lib.hid hnl
                clear hb5 ho gl hnl KH BH c3
                go_wp2_with fail
                go_loopw [10] (fun i wr => ∃ (u : Nat) (s4 : List Bool), u ≤ l.length ∧ i = .int .i64 u ∧ s4.length = n ∧ Whole wr w.heap.size 4 (marks s4) ∧ Below w.heap.size w wr ∧ Nums .i64 wr Al l.length l ∧ (l.drop u).foldl markAt s4 = SK) (fun i _ => l.length - (intOf i).toNat)
                case atStart => exact ⟨0, s3, Nat.zero_le _, rfl, SH3.out, K5.out, B5.out, NL.out, E6.out⟩
                case round =>
                  clear K5 B5 NL E6
                  obtain ⟨u, s4, hul, rfl, hs4, hK, hB, hNl, hE⟩ := hrel
                  have KH := Lib.hid hK
                  have BH := Lib.hid hB
                  have NH := Lib.hid hNl
                  have EH := Lib.hid hE
                  have SH4 := Lib.hid hs4
                  clear hK hB hE hs4 hNl
                  by_cases hu4 : u < l.length
                  · have uI : (u : Int) < l.length := by omega
                    obtain ⟨bf, of, hA2, _, hcell⟩ := NH.out.2 (by omega)
                    have u0 := hcell u hu4
                    rw [hA2] at NE NH ⊢
                    have E1 := Lib.hid (show (l.drop (u + 1)).foldl markAt (markAt s4 (l.getD u 0)) = SK from by
                      have := EH.out
                      rw [drop_cons hu4] at this
                      exact this)
                    clear hcell hA2
                    generalize l.getD u 0 = z at *
                    by_cases h0 : 0 ≤ z
                    · obtain ⟨j, rfl⟩ := Int.eq_ofNat_of_zero_le h0
                      by_cases h1 : j < n
                      · have h1I : (j : Int) < n := by omega
                        have fz : wr.frozen? ⟨w.heap.size, j, none⟩ = false := KH.out.free j
                        have cz : wr.cell? ⟨w.heap.size, j, none⟩ = some (.bool (s4.getD j false)) := (KH.out.cell j).trans (marks_get (by rw [SH4.out]; exact h1))
                        have K2 := Lib.hid (KH.out.store j (.bool true))
                        have B2 := Lib.hid (BH.out.setCell (p := ⟨w.heap.size, j, none⟩) (Nat.le_refl _) (.bool true))
                        have N2 := Lib.hid (nums_far NH.out (j := j) NE.out (.bool true))
                        go_wp2_with fail
                        go_roundw
                        case rel => exact ⟨u + 1, s4.set j true, by omega, by go_num, by rw [List.length_set]; exact SH4.out, by rw [← marks_set]; exact K2.out, B2.out, N2.out, by rw [← markAt_in (by rw [SH4.out]; exact h1)]; exact E1.out⟩
                        case measure => simp [intOf]; omega
                      · have h1I : ¬ (j : Int) < n := by omega
                        go_wp2_with fail
                        go_roundw
                        case rel => exact ⟨u + 1, s4, by omega, by go_num, SH4.out, KH.out, BH.out, NH.out, by have := E1.out; rwa [markAt_out (by rw [SH4.out]; omega)] at this⟩
                        case measure => simp [intOf]; omega
                    · have d0 : decide (0 ≤ z) = false := decide_eq_false h0
                      go_wp2_with fail
                      go_roundw
                      case rel => exact ⟨u + 1, s4, by omega, by go_num, SH4.out, KH.out, BH.out, NH.out, by have := E1.out; rwa [markAt_out (by omega)] at this⟩
                      case measure => simp [intOf]; omega
                  · have uI : ¬ (u : Int) < l.length := by omega
                    obtain rfl : s4 = SK := by
                      have := EH.out
                      rw [List.drop_of_length_le (by omega)] at this
                      exact this
                    go_wp2_with fail
                    go_roundw
                    case rel => exact ⟨p + 1, s4, by omega, by go_num, SH4.out, KH.out, BH.out, E5.out⟩
                    case measure => simp [intOf]; omega
            · have pI : ¬ (p : Int) < n := by omega
              obtain rfl : s3 = SQ := by
                have := EH.out
                rw [List.drop_of_length_le (by simp; omega)] at this
                exact this
              go_wp2_with fail
              go_roundw
              case rel => exact ⟨q + 1, s3, by omega, by go_num, SH3.out, KH.out, BH.out, EQ.out⟩
              case measure => simp [intOf]; omega
        · have qI : ¬ (q : Int) < n := by omega
          obtain rfl : s2 = SF := by
            have := EH.out
            rw [show n - q = 0 by omega] at this
            exact this
          go_wp2_with fail
          go_ret
          exact ⟨w.heap.size, rfl, KH.out, Nat.le_refl _, BH.out⟩
end Go.Proofs.YtoffagmoaedkbaaDoor

/- Listing, plain: a search with a list of what is pending comes to what is reached. -/
namespace Go.Proofs.YtoffagmoaedkbaaDoor
set_option linter.unusedVariables false

/-- The marks so far, and what is pending: what leads on from a mark is marked, or pending. -/
structure Inv (zs : List Int) (n : Nat) (fr : List Int) (s : List Bool) (P : List Int) : Prop where
  sound : Sound (nxt zs) n fr s
  pend : ∀ j ∈ P, 0 ≤ j → j < n → Reach (nxt zs) n fr j.toNat
  starts : ∀ j ∈ fr, 0 ≤ j → j < n → s.getD j.toNat false = true ∨ j ∈ P
  closed : ∀ k j, s.getD k false = true → j ∈ nxt zs k → 0 ≤ j → j < n → s.getD j.toNat false = true ∨ j ∈ P

section
variable {zs : List Int} {n : Nat} {fr : List Int} {s : List Bool} {P Q : List Int}

theorem inv_start : Inv zs n fr (List.replicate n false) fr := by
  have hrep : ∀ i, (List.replicate n false).getD i false = false := fun i => by
    rw [List.getD_eq_getElem?_getD, List.getElem?_replicate]
    split <;> rfl
  exact ⟨⟨by simp, fun i h => by rw [hrep] at h; cases h⟩, fun j hj h0 h1 => .base hj h0 h1, fun j hj _ _ => .inr hj, fun k j h => by rw [hrep] at h; cases h⟩

theorem Inv.same (h : Inv zs n fr s P) (hp : ∀ j, j ∈ P ↔ j ∈ Q) : Inv zs n fr s Q :=
  ⟨h.sound, fun j hj => h.pend j ((hp j).2 hj), fun j hj h0 h1 => (h.starts j hj h0 h1).imp id (hp j).1, fun k j hk hj h0 h1 => (h.closed k j hk hj h0 h1).imp id (hp j).1⟩

/-- What is no place, or is marked, need not be looked at. -/
theorem Inv.skip {a : Int} (h : Inv zs n fr s (a :: P)) (ha : 0 ≤ a → a < n → s.getD a.toNat false = true) : Inv zs n fr s P := by
  have key : ∀ j, 0 ≤ j → j < (n : Int) → (s.getD j.toNat false = true ∨ j ∈ a :: P) → s.getD j.toNat false = true ∨ j ∈ P := by
    intro j h0 h1 hj
    rcases hj with hj | hj
    · exact .inl hj
    · rcases List.mem_cons.1 hj with rfl | hj
      · exact .inl (ha h0 h1)
      · exact .inr hj
  exact ⟨h.sound, fun j hj => h.pend j (List.mem_cons_of_mem _ hj), fun j hj h0 h1 => key j h0 h1 (h.starts j hj h0 h1), fun k j hk hj h0 h1 => key j h0 h1 (h.closed k j hk hj h0 h1)⟩

/-- A place is marked, and what it leads to is pending. -/
theorem Inv.mark {a : Nat} (h : Inv zs n fr s ((a : Int) :: P)) (ha : a < n) : Inv zs n fr (s.set a true) (nxt zs a ++ P) := by
  have hra : Reach (nxt zs) n fr a := by
    have := h.pend a List.mem_cons_self (by omega) (by omega)
    simpa using this
  have hl := h.sound.1
  have key : ∀ j, 0 ≤ j → j < (n : Int) → (s.getD j.toNat false = true ∨ j ∈ (a : Int) :: P) → (s.set a true).getD j.toNat false = true ∨ j ∈ nxt zs a ++ P := by
    intro j h0 h1 hj
    rcases hj with hj | hj
    · exact .inl (getD_set_true.2 (.inl hj))
    · rcases List.mem_cons.1 hj with rfl | hj
      · exact .inl (getD_set_true.2 (.inr ⟨by simp, by simp; omega⟩))
      · exact .inr (List.mem_append_right _ hj)
  refine ⟨⟨by simpa using hl, fun i hi => ?_⟩, fun j hj h0 h1 => ?_, fun j hj h0 h1 => key j h0 h1 (h.starts j hj h0 h1), fun k j hk hj h0 h1 => ?_⟩
  · rcases getD_set_true.1 hi with hi | ⟨rfl, _⟩
    · exact h.sound.2 i hi
    · exact hra
  · rcases List.mem_append.1 hj with hj | hj
    · exact .step hra hj h0 h1
    · exact h.pend j (List.mem_cons_of_mem _ hj) h0 h1
  · rcases getD_set_true.1 hk with hk | ⟨rfl, _⟩
    · exact key j h0 h1 (h.closed k j hk hj h0 h1)
    · exact .inr (List.mem_append_left _ hj)

/-- With nothing pending the marks are those of the answers' rounds. -/
theorem Inv.done (h : Inv zs n fr s []) : s = sweeps (nxt zs) n n (fr.foldl markAt (List.replicate n false)) := by
  have hl : (fr.foldl markAt (List.replicate n false)).length = n := (marks_grow _ _).1.trans (by simp)
  refine marks_ext (h.sound.1.trans ((sweeps_grow n _).1.trans hl).symm) (fun i => ?_)
  rw [rounds_reach]
  exact reach_iff h.sound (fun k j hk hj h0 h1 => (h.closed k j hk hj h0 h1).resolve_right (by simp)) (fun j hj h0 h1 => (h.starts j hj h0 h1).resolve_right (by simp)) i
end
end Go.Proofs.YtoffagmoaedkbaaDoor

/- Listing: what Go's Reached uses: a stack that shrinks, how many marks are missing, a copy of the starts. -/
namespace Go.Proofs.YtoffagmoaedkbaaDoor
open Go.ChangeShapes Go.WideShapes Go.ChangeAt Go.RowKit
set_option linter.unusedVariables false
set_option linter.unusedSimpArgs false

theorem Owns.pop {k : IntKind} {e : TypeId} {w : World} {B : Nat} {A : Option Addr} {m c : Nat} {zs : List Int} {z : Int} (h : Owns k e w B (.slice A (m + 1) c) (m + 1) (zs ++ [z])) : Owns k e w B (.slice A m c) m zs ∧ m + 1 ≤ c := by
  have hl : zs.length = m := by have := h.len; simpa using this
  rcases h.2 with ⟨h1, _⟩ | ⟨g, cap, cur, h1, hb, hg, hn, hm, hs, ht⟩
  · cases h1
  · injection h1 with h1 h2 h3
    subst h1 h3
    refine ⟨⟨by simpa using hl, .inr ⟨g, c, cur, rfl, hb, hg, by omega, hm, hs, ?_⟩⟩, hn⟩
    have h4 := congrArg (List.take m) ht
    rw [List.take_take] at h4
    simp only [Nat.mul_one] at h4 ⊢
    rw [Nat.min_eq_left (Nat.le_succ m)] at h4
    rw [h4, List.map_append, List.take_left' (by simpa using hl)]

/-- How many places of a block are not marked. -/
def unm (w : World) (g n : Nat) : Nat := ((List.range n).filter fun i => match w.cell? ⟨g, i, none⟩ with | some (.bool false) => true | _ => false).length

theorem unm_eq {w : World} {g : Nat} {s : List Bool} (h : Whole w g 4 (marks s)) : unm w g s.length = ((List.range s.length).filter fun i => !(s.getD i false)).length := by
  unfold unm
  congr 1
  apply List.filter_congr
  intro i hi
  rw [h.cell i, marks_get (List.mem_range.1 hi)]
  cases s.getD i false <;> rfl

theorem miss_set {s : List Bool} {a : Nat} (ha : a < s.length) (hs : s.getD a false = false) : ((List.range (s.set a true).length).filter fun i => !((s.set a true).getD i false)).length < ((List.range s.length).filter fun i => !(s.getD i false)).length := by
  rw [List.length_set]
  have h1 : ((List.range s.length).filter fun i => !((s.set a true).getD i false)) = (((List.range s.length).filter fun i => !(s.getD i false)).filter fun i => decide (i ≠ a)) := by
    rw [List.filter_filter]
    apply List.filter_congr
    intro i hi
    by_cases he : i = a
    · subst he
      have : (s.set i true).getD i false = true := getD_set_true.2 (.inr ⟨rfl, ha⟩)
      rw [this]
      simp
    · have : (s.set a true).getD i false = s.getD i false := by
        simp [List.getD_eq_getElem?_getD, List.getElem?_set, Ne.symm he]
      rw [this]
      simp [he]
  rw [h1]
  apply List.length_filter_lt_length_iff_exists.2
  exact ⟨a, by simp only [List.mem_filter, List.mem_range]; exact ⟨ha, by rw [hs]; rfl⟩, by simp⟩

set_option maxHeartbeats 4000000 in
set_option maxRecDepth 100000 in
theorem cloneI_nil (w : World) :
    Calls Tryd.prog 50 #[.slice none 0 0] w fun e w' => ∃ v, e = .returned v ∧ Owns .i64 3 w' w.heap.size v 0 [] ∧ Below w.heap.size w w' := by
  have hnil : ∀ W, (binOp .eql 54 (.slice none 0 0) (.slice none 0 0)).run Tryd.prog W = .ok (.bool true) W := fun W => Lib.run_eql_slice_nil_nil W _ _ Tryd.underlying54
  go_enter Tryd.func50, Tryd.ntmps50
  go_wp2_with fail
  go_ret
  exact ⟨.slice none 0 0, rfl, Owns.nil _ _ _ _, Below.refl _ _⟩

set_option maxHeartbeats 4000000 in
set_option maxRecDepth 100000 in
theorem cloneI_some (a : Addr) (m cap : Nat) (zs : List Int) (w : World) (hz : Nums .i64 w (some a) m zs) (hm : m ≤ 1000000) :
    Calls Tryd.prog 50 #[.slice (some a) m cap] w fun e w' => ∃ v, e = .returned v ∧ Owns .i64 3 w' w.heap.size v m zs ∧ Below w.heap.size w w' := by
  have NZ := Lib.hid (hz.below ((Below.refl _ _).alloc (Nat.le_refl _) (.cells #[] 3)))
  have OW := Lib.hid (owns_built .i64 3 w [] #[] rfl 0 rfl (Nat.zero_le _) w.heap.size (Nat.le_refl _) w.heap.size rfl)
  have B0 := Lib.hid ((Below.refl w.heap.size w).alloc (Nat.le_refl _) (.cells #[] 3))
  clear hz
  have hnil : ∀ W, (binOp .eql 54 (.slice (some a) m cap) (.slice none 0 0)).run Tryd.prog W = .ok (.bool false) W := fun W => Lib.run_eql_slice_some_nil W _ _ _ Tryd.underlying54
  go_enter Tryd.func50, Tryd.ntmps50
  go_wp2_with (at_builtin; refine wpList_append_nums _ rfl _ _ rfl rowI64L w.heap.size (.slice (some ⟨w.heap.size, 0, none⟩) 0 0) 0 [] rfl OW.out (some a) m cap zs rfl NZ.out (by omega) (by simp) ?_; intro v' w' ho hg hal; have HO := Lib.hid ho; have BG := Lib.hid (OW.out.grown_below B0.out hg (by simp)); clear ho hg)
  go_ret
  exact ⟨v', rfl, by simpa using HO.out, BG.out⟩

theorem clone_ints (A : Option Addr) (m cap : Nat) (zs : List Int) (w : World) (hA : A = none → m = 0 ∧ cap = 0) (hz : Nums .i64 w A m zs) (hm : m ≤ 1000000) :
    Calls Tryd.prog 50 #[.slice A m cap] w fun e w' => ∃ v, e = .returned v ∧ Owns .i64 3 w' w.heap.size v m zs ∧ Below w.heap.size w w' := by
  cases A with
  | none =>
    obtain ⟨rfl, rfl⟩ := hA rfl
    obtain rfl : zs = [] := List.eq_nil_of_length_eq_zero hz.1
    exact cloneI_nil w
  | some a => exact cloneI_some a m cap zs w hz hm
end Go.Proofs.YtoffagmoaedkbaaDoor

/- Package listing: Reached: a search with a stack, against what is reached. -/
namespace Go.Proofs.YtoffagmoaedkbaaDoor
open Go.ChangeShapes Go.WideShapes Go.ChangeAt Go.RowKit
set_option linter.unusedVariables false
set_option linter.unusedSimpArgs false

/-- An own row lies in no block that holds something else. -/
theorem Owns.neq {k : IntKind} {e : TypeId} {w : World} {B : Nat} {v : Value} {n : Nat} {zs : List Int} {g : Nat} {o : Obj} (h : Owns k e w B v n zs) (hb : w.heap[g]? = some o) (ho : ∀ c fz, o ≠ .cells c e fz) : v.ownBlock ≠ some g := by
  rcases h.2 with ⟨rfl, _⟩ | ⟨g', cap, cur, rfl, _, hg, _⟩
  · simp [Value.ownBlock]
  · intro he
    simp only [Value.ownBlock, Option.some.injEq] at he
    subst he
    rw [hg] at hb
    exact ho _ _ (Option.some.inj hb).symm

theorem Owns.afar {k : IntKind} {e : TypeId} {w : World} {B : Nat} {v : Value} {n : Nat} {zs : List Int} {g : Nat} {t : TypeId} {cs : Array Value} (h : Owns k e w B v n zs) (hb : Whole w g t cs) (hne : t ≠ e) (i : Nat) (u : Value) : Owns k e (w.setCell ⟨g, i, none⟩ u) B v n zs :=
  World.ownsRow.kept (row := some g) h ⟨rfl, rfl, rfl, by simp [World.setCell], fun j _ hj => Below.heap_setCell w ⟨g, i, none⟩ u j (fun e => hj (by rw [e]))⟩ (.inr (h.neq hb (fun _ _ h => hne (by injection h))))

theorem bool_ne_int : (4 : TypeId) ≠ 3 := by decide

/-- How many are not marked. -/
def miss (s : List Bool) : Nat := ((List.range s.length).filter fun i => !(s.getD i false)).length

theorem miss_lt {s : List Bool} {a : Nat} (ha : a < s.length) (hs : s.getD a false = false) : miss (s.set a true) < miss s := miss_set ha hs

theorem miss_le (s : List Bool) : miss s ≤ s.length := Nat.le_trans (List.length_filter_le _ _) (by simp)

/-- Between two starts. -/
structure Outer (zs : List Int) (n : Nat) (fr : List Int) (w : World) (g : Nat) (wr : World) (s : List Bool) (st : List Int) (A : Option Addr) (c : Nat) : Prop where
  len : s.length = n
  blk : Whole wr g 4 (marks s)
  own : Owns .i64 3 wr (g + 1) (.slice A st.length c) st.length st
  bel : Below g w wr
  inv : Inv zs n fr s st
  few : 2 * miss s + st.length ≤ 180

theorem Inv.perm {zs : List Int} {n : Nat} {fr : List Int} {s : List Bool} {P Q : List Int} (h : Inv zs n fr s P) (hp : ∀ j, j ∈ P ↔ j ∈ Q) : Inv zs n fr s Q := h.same hp


def ReachedPost (n : Nat) (S : List Bool) (w : World) (e : Ending) (w' : World) : Prop := RPost n S w e w'

set_option maxHeartbeats 16000000 in
set_option maxRecDepth 100000 in
theorem reached_any (A A2 : Option Addr) (n c nf cf : Nat) (zs fr : List Int) (w : World) (hS : ShapesIn w) (hA2 : A2 = none → nf = 0 ∧ cf = 0) (hz : Nums .u32 w A n zs) (hf : Nums .i64 w A2 nf fr) (hn : n ≤ 60) (hnf : nf ≤ 60) (hu : ∀ k, 0 ≤ zs.getD k 0 ∧ zs.getD k 0 ≤ 4294967295) :
    Calls Tryd.prog 26 #[.slice A n c, .slice A2 nf cf] w (RPost n (sweeps (nxt zs) n n (fr.foldl markAt (List.replicate n false))) w) := by
  have HS := Lib.hid hS
  have HZ := Lib.hid hz
  have HU := Lib.hid hu
  have FL := Lib.hid hf.1
  have hmake := run_make_marks n (by omega) w
  have K0 := Lib.hid (Whole.made w 4 (marks (List.replicate n false)) _ rfl)
  have B0 := Lib.hid ((Below.refl w.heap.size w).alloc (Nat.le_refl _) (.cells (marks (List.replicate n false)) 4))
  have S0 := Lib.hid (show (w.alloc (.cells (marks (List.replicate n false)) 4)).heap.size = w.heap.size + 1 by simp)
  have CL := Lib.hid (fun w' h => clone_ints A2 nf cf fr w' hA2 h (by omega))
  have HF := Lib.hid hf
  have DN := Lib.hid (fun s (h : Inv zs n fr s []) => h.done)
  clear hz hf hu hA2 hS
  generalize hSF : sweeps (nxt zs) n n (fr.foldl markAt (List.replicate n false)) = SF at *
  clear hSF
  go_enter Tryd.func26, Tryd.ntmps26
  go_wp2_with fail
  go_step3
  go_wp2_with fail
  generalize w.alloc (.cells (marks (List.replicate n false)) 4) = W0 at *
  clear hmake
  refine (CL.out _ (HF.out.below B0.out)).mono ?_
  rintro e w1 ⟨v1, rfl, ho, hb1⟩
  obtain ⟨A1, c1, rfl, _⟩ := ho.form
  have GW := Lib.hid (Nat.le_refl w.heap.size)
  have O1 := Lib.hid (show Owns .i64 3 w1 (w.heap.size + 1) (.slice A1 fr.length c1) fr.length fr by have := ho.more (B' := w.heap.size + 1) (by rw [S0.out]; exact Nat.le_refl _); rwa [FL.out])
  have K1 := Lib.hid (K0.out.below hb1 K0.out.lt)
  have B1 := Lib.hid (B0.out.trans (hb1.mono B0.out.size))
  have FW := Lib.hid (show 2 * miss (List.replicate n false) + fr.length ≤ 180 by have := miss_le (List.replicate n false); rw [List.length_replicate] at this; rw [FL.out]; omega)
  clear ho hb1 K0 B0 S0 CL HF
  go_wp2_with fail
  go_step3
  go_wp2_with fail
  rw [← FL.out]
  generalize hg : w.heap.size = g at *
  have HG := Lib.hid hg
  clear hg
  go_loopg [6] (2 * miss (List.replicate n false) + fr.length) (fun m v wr => ∃ (s : List Bool) (st : List Int) (A' : Option Addr) (c' : Nat), v = .slice A' st.length c' ∧ Outer zs n fr w g wr s st A' c' ∧ 2 * miss s + st.length = m)
  case atStart => exact ⟨List.replicate n false, fr, A1, c1, rfl, ⟨by simp, K1.out, O1.out, B1.out, inv_start, FW.out⟩, rfl⟩
  case round =>
    clear K1 B1 O1 FW FL
    obtain ⟨s, st, A', c', rfl, hO, hG⟩ := hrel
    subst hG
    obtain ⟨hsl, hmk, hown, hbel, hinv, hfew⟩ := hO
    have SL := Lib.hid hsl
    have KH := Lib.hid hmk
    have OH := Lib.hid hown
    have BH := Lib.hid hbel
    have IH := Lib.hid hinv
    have FEW0 := Lib.hid hfew
    clear hsl hmk hown hbel hinv hfew
    rcases List.eq_nil_or_concat st with rfl | ⟨st', a, hst⟩
    · go_wp2_with fail
      try rw [Exit.noGoto_ret]
      go_ret
      exact ⟨g, rfl, by rw [← DN.out s IH.out]; exact KH.out, by rw [HG.out]; exact Nat.le_refl _, by rw [HG.out]; exact BH.out⟩
    · rw [List.concat_eq_append] at hst
      subst hst
      have hL : (st' ++ [a]).length = st'.length + 1 := by simp
      rw [hL] at OH FEW0 ⊢
      have PO := Lib.hid (Owns.pop OH.out)
      obtain ⟨ba, oa, rfl, _, hcell⟩ := OH.out.nums.2 (by omega)
      have u0 : wr.cell? ⟨ba, oa + st'.length, none⟩ = some (.int .i64 a) := by
        rw [hcell _ (by omega)]
        simp [List.getD_eq_getElem?_getD]
      have hfw : st'.length ≤ 180 := by have := FEW0.out; omega
      have hcap := PO.out.2
      have O2 := Lib.hid PO.out.1
      have I2 := Lib.hid (show Inv zs n fr s (a :: st') from IH.out.perm (fun j => by simp [or_comm]))
      clear hcell hL OH PO IH
      generalize hm : st'.length = m at *
      have HM := Lib.hid hm
      clear hm
      go_wp2_with fail
      go_loopg [6, 8] ((n : Int) - a).toNat (fun g2 v i wr2 => ∃ (x : Int) (s2 : List Bool) (st2 : List Int) (A' : Option Addr) (c' : Nat), i = .int .i64 x ∧ v = .slice A' st2.length c' ∧ s2.length = n ∧ Whole wr2 g 4 (marks s2) ∧ Owns .i64 3 wr2 (g + 1) (.slice A' st2.length c') st2.length st2 ∧ Below g w wr2 ∧ Inv zs n fr s2 (x :: st2) ∧ 2 * miss s2 + st2.length < 2 * miss s + (m + 1) ∧ ((n : Int) - x).toNat = g2)
      case atStart => exact ⟨a, s, st', some ⟨ba, oa, none⟩, c', rfl, by rw [HM.out], SL.out, KH.out, by rw [HM.out]; exact O2.out, BH.out, I2.out, by rw [HM.out]; omega, rfl⟩
      case round =>
        clear KH BH I2 O2 u0 hcap SL
        obtain ⟨x, s2, st2, A3, c3, rfl, rfl, hsl, hmk, hown, hbel, hinv, hlt, hG⟩ := hrel
        subst hG
        have SL2 := Lib.hid hsl
        have KH := Lib.hid hmk
        have OH := Lib.hid hown
        have BH := Lib.hid hbel
        have IH := Lib.hid hinv
        have LTM := Lib.hid hlt
        have FEW1 := Lib.hid (show 2 * miss s2 + st2.length ≤ 180 by have := FEW0.out; omega)
        clear hsl hmk hown hbel hinv hlt
        by_cases h0 : 0 ≤ x
        case neg =>
          have d0 : decide (0 ≤ x) = false := decide_eq_false h0
          have IV := Lib.hid (IH.out.skip (fun h => absurd h h0))
          go_wp2_with fail
          go_roundg (2 * miss s2 + st2.length)
          case measure => (have := LTM.out; have := HM.out; simp; omega)
          case rel => exact ⟨s2, st2, A3, c3, rfl, ⟨SL2.out, KH.out, OH.out, BH.out, IV.out, FEW1.out⟩, rfl⟩
        obtain ⟨k, rfl⟩ := Int.eq_ofNat_of_zero_le h0
        by_cases h1 : k < n
        case neg =>
          have d1 : ¬ (k : Int) < n := by omega
          have IV := Lib.hid (IH.out.skip (fun _ h => by omega))
          go_wp2_with fail
          go_roundg (2 * miss s2 + st2.length)
          case measure => (have := LTM.out; have := HM.out; simp; omega)
          case rel => exact ⟨s2, st2, A3, c3, rfl, ⟨SL2.out, KH.out, OH.out, BH.out, IV.out, FEW1.out⟩, rfl⟩
        have d1 : (k : Int) < n := by omega
        have cz : wr.cell? ⟨g, k, none⟩ = some (.bool (s2.getD k false)) := (KH.out.cell k).trans (marks_get (by rw [SL2.out]; exact h1))
        cases hb : s2.getD k false with
        | true =>
          rw [hb] at cz
          have IV := Lib.hid (IH.out.skip (fun _ _ => by simpa using hb))
          clear hb
          go_wp2_with fail
          go_roundg (2 * miss s2 + st2.length)
          case measure => (have := LTM.out; have := HM.out; simp; omega)
          case rel => exact ⟨s2, st2, A3, c3, rfl, ⟨SL2.out, KH.out, OH.out, BH.out, IV.out, FEW1.out⟩, rfl⟩
        | false =>
          rw [hb] at cz
          have ML := Lib.hid (miss_lt (by rw [SL2.out]; exact h1) hb)
          have fz : wr.frozen? ⟨g, k, none⟩ = false := KH.out.free k
          have K3 := Lib.hid (show Whole (wr.setCell ⟨g, k, none⟩ (.bool true)) g 4 (marks (s2.set k true)) by rw [← marks_set]; exact KH.out.store k (.bool true))
          have O3 := Lib.hid (OH.out.afar KH.out bool_ne_int k (.bool true))
          have B3 := Lib.hid (BH.out.setCell (p := ⟨g, k, none⟩) (Nat.le_refl _) (.bool true))
          have IV := Lib.hid (IH.out.mark h1)
          have SL3 := Lib.hid (show (s2.set k true).length = n by rw [List.length_set]; exact SL2.out)
          have LT3 := Lib.hid (show 2 * miss (s2.set k true) + (st2.length + 1) < 2 * miss s + (m + 1) by have := ML.out; have := LTM.out; omega)
          have FE3 := Lib.hid (show 2 * miss (s2.set k true) + (st2.length + 1) ≤ 180 by have := ML.out; have := FEW1.out; omega)
          obtain ⟨bz, oz, hAz, hbzl, hzc⟩ := HZ.out.2 (by omega)
          subst hAz
          rw [HG.out] at hbzl
          have uw : wr.cell? ⟨bz, oz + k, none⟩ = some (.int .u32 (zs.getD k 0)) := (BH.out.cell (p := ⟨bz, oz + k, none⟩) hbzl).trans (hzc k h1)
          have uz : (wr.setCell ⟨g, k, none⟩ (.bool true)).cell? ⟨bz, oz + k, none⟩ = some (.int .u32 (zs.getD k 0)) := (B3.out.cell (p := ⟨bz, oz + k, none⟩) hbzl).trans (hzc k h1)
          have hbg : bz ≠ g := Nat.ne_of_lt hbzl
          have hgb : g ≠ bz := Ne.symm hbg
          clear hb hzc KH OH BH IH LTM FEW1 ML
          generalize s2.set k true = s3 at *
          have hxu := HU.out k
          generalize hX : zs.getD k 0 = X at *
          have HX := Lib.hid hX
          clear hX
          have DC := Lib.hid (fun w hs => decode_any X w hs hxu.1 hxu.2)
          have HS3 := Lib.hid (HS.out.below (show Below w.heap.size w (wr.setCell ⟨g, k, none⟩ (.bool true)) by rw [HG.out]; exact B3.out) (Nat.le_refl _))
          by_cases hok : OkX X
          case neg =>
            have hV : decV X = .tuple #[instrV 0 0 0 0 0, .int .i64 21] := by unfold decV; exact if_neg hok
            rw [hV] at DC
            have NE := Lib.hid (nxt_bad (zs := zs) (k := k) (by rw [HX.out]; exact hok))
            unfold instrV at DC
            clear hV hok
            go_wp2_with fail
            refine (DC.out _ HS3.out).mono ?_
            rintro e w4 ⟨rfl, hb4⟩
            have B4 := Lib.hid (B3.out.trans (hb4.mono (Nat.le_of_lt K3.out.lt)))
            have K5 := Lib.hid ((K3.out.below hb4 K3.out.lt).alloc (.cells #[.int .i64 0, .int .i64 0, .int .i64 0, .int .i64 0, .int .i64 0] 104))
            have O5 := Lib.hid ((O3.out.below hb4).alloc (.cells #[.int .i64 0, .int .i64 0, .int .i64 0, .int .i64 0, .int .i64 0] 104))
            have B5 := Lib.hid (B4.out.alloc (Nat.le_of_lt (K3.out.below hb4 K3.out.lt).lt) (.cells #[.int .i64 0, .int .i64 0, .int .i64 0, .int .i64 0, .int .i64 0] 104))
            have Q5 := Lib.hid (Whole.made w4 104 #[.int .i64 0, .int .i64 0, .int .i64 0, .int .i64 0, .int .i64 0] _ rfl)
            clear hb4 B4 K3 O3 B3 DC uz uw cz fz
            go_wp2_with fail
            go_roundg (2 * miss s3 + st2.length)
            case measure => (have := LT3.out; have := HM.out; simp; omega)
            case rel => exact ⟨s3, st2, A3, c3, by simp, ⟨SL3.out, K5.out, O5.out, B5.out, IV.out.perm (fun j => by rw [NE.out]; simp [or_comm, or_assoc, or_left_comm]), by have := FE3.out; simp; omega⟩, rfl⟩
          have hV : decV X = .tuple #[instrV (X / 16777216) (decA X) (decB X) (decC X) (decN X), .int .i64 0] := by unfold decV; exact if_pos hok
          rw [hV] at DC
          have NX := Lib.hid (nxt_ok (zs := zs) (k := k) (by rw [HX.out]; exact hok))
          rw [HX.out] at NX
          have hnn := decN_small hxu.1 hxu.2 hok.1
          unfold instrV at DC
          clear hV hok hxu
          generalize decA X = a1 at *
          generalize decB X = b1 at *
          generalize decC X = c1x at *
          generalize decN X = imm at *
          generalize X / 16777216 = op at *
          go_wp2_with fail
          refine (DC.out _ HS3.out).mono ?_
          rintro e w4 ⟨rfl, hb4⟩
          have B4 := Lib.hid (B3.out.trans (hb4.mono (Nat.le_of_lt K3.out.lt)))
          have K5 := Lib.hid ((K3.out.below hb4 K3.out.lt).alloc (.cells #[.int .i64 op, .int .i64 a1, .int .i64 b1, .int .i64 c1x, .int .i64 imm] 104))
          have O5 := Lib.hid ((O3.out.below hb4).alloc (.cells #[.int .i64 op, .int .i64 a1, .int .i64 b1, .int .i64 c1x, .int .i64 imm] 104))
          have B5 := Lib.hid (B4.out.alloc (Nat.le_of_lt (K3.out.below hb4 K3.out.lt).lt) (.cells #[.int .i64 op, .int .i64 a1, .int .i64 b1, .int .i64 c1x, .int .i64 imm] 104))
          have Q5 := Lib.hid (Whole.made w4 104 #[.int .i64 op, .int .i64 a1, .int .i64 b1, .int .i64 c1x, .int .i64 imm] _ rfl)
          clear hb4 B4 K3 O3 B3 DC uz uw cz fz
          have q0 : (w4.alloc (.cells #[.int .i64 op, .int .i64 a1, .int .i64 b1, .int .i64 c1x, .int .i64 imm] 104)).cell? ⟨w4.heap.size, 0, none⟩ = some (.int .i64 op) := Q5.out.cell 0
          have q4 : (w4.alloc (.cells #[.int .i64 op, .int .i64 a1, .int .i64 b1, .int .i64 c1x, .int .i64 imm] 104)).cell? ⟨w4.heap.size, 4, none⟩ = some (.int .i64 imm) := Q5.out.cell 4
          by_cases hop20 : op = 20
          case pos =>
            subst hop20
            have NE := Lib.hid (NX.out.trans (show _ = [(k : Int) + 1, (k : Int) + 1 + imm] by simp [stops]))
            clear NX
            have KA := Lib.hid (K5.out.alloc (.cells #[.int .i64 ((k : Int) + 1 + imm)] 3))
            have OA := Lib.hid (O5.out.alloc (.cells #[.int .i64 ((k : Int) + 1 + imm)] 3))
            have BA := Lib.hid (B5.out.alloc (Nat.le_of_lt K5.out.lt) (.cells #[.int .i64 ((k : Int) + 1 + imm)] 3))
            have NZ := Lib.hid (nums_built .i64 3 (w4.alloc (.cells #[.int .i64 20, .int .i64 a1, .int .i64 b1, .int .i64 c1x, .int .i64 imm] 104)) [(k : Int) + 1 + imm] #[.int .i64 ((k : Int) + 1 + imm)] rfl 1 rfl (by decide) (w4.heap.size + 1) (by simp))
            have GL := Lib.hid (show g + 1 ≤ w4.heap.size + 1 from by have := K5.out.lt; simp at this; omega)
            clear K5 O5 B5 Q5
            go_wp2_with (at_builtin; refine wpList_append_nums _ rfl _ _ rfl rowI64L (g + 1) (.slice A3 st2.length c3) st2.length st2 rfl OA.out (some ⟨w4.heap.size + 1, 0, none⟩) 1 1 [(k : Int) + 1 + imm] rfl NZ.out (by have := FE3.out; omega) (by have := GL.out; simp; omega) ?_; intro v6 w6 ho6 hg6 _; obtain ⟨A6, c6, rfl, _⟩ := ho6.form; have K6 := Lib.hid ((hg6.block g (by exact KA.out.lt) (fun e => OA.out.neq KA.out (fun _ _ h => bool_ne_int (by injection h)) e.symm)).trans KA.out); have B6 := Lib.hid (BA.out.grown hg6 (by have := GL.out; simp; omega) (fun b hb => by have := (OA.out.lt b hb).1; omega)); have O6 := Lib.hid ho6; clear ho6 hg6 KA OA BA NZ q0 q4)
            go_roundg ((n : Int) - ((k : Int) + 1)).toNat
            case measure => omega
            case rel => exact ⟨(k : Int) + 1, s3, (st2 ++ [(k : Int) + 1 + imm]), A6, c6, rfl, by simp, SL3.out, K6.out, by simpa using O6.out, B6.out, IV.out.perm (fun j => by rw [NE.out]; simp [or_comm, or_assoc, or_left_comm]), by have := LT3.out; simp; omega, rfl⟩
          by_cases hop21 : op = 21
          case pos =>
            subst hop21
            have NE := Lib.hid (NX.out.trans (show _ = [(k : Int) + 1, (k : Int) + 1 + imm] by simp [stops]))
            clear NX
            have KA := Lib.hid (K5.out.alloc (.cells #[.int .i64 ((k : Int) + 1 + imm)] 3))
            have OA := Lib.hid (O5.out.alloc (.cells #[.int .i64 ((k : Int) + 1 + imm)] 3))
            have BA := Lib.hid (B5.out.alloc (Nat.le_of_lt K5.out.lt) (.cells #[.int .i64 ((k : Int) + 1 + imm)] 3))
            have NZ := Lib.hid (nums_built .i64 3 (w4.alloc (.cells #[.int .i64 21, .int .i64 a1, .int .i64 b1, .int .i64 c1x, .int .i64 imm] 104)) [(k : Int) + 1 + imm] #[.int .i64 ((k : Int) + 1 + imm)] rfl 1 rfl (by decide) (w4.heap.size + 1) (by simp))
            have GL := Lib.hid (show g + 1 ≤ w4.heap.size + 1 from by have := K5.out.lt; simp at this; omega)
            clear K5 O5 B5 Q5
            go_wp2_with (at_builtin; refine wpList_append_nums _ rfl _ _ rfl rowI64L (g + 1) (.slice A3 st2.length c3) st2.length st2 rfl OA.out (some ⟨w4.heap.size + 1, 0, none⟩) 1 1 [(k : Int) + 1 + imm] rfl NZ.out (by have := FE3.out; omega) (by have := GL.out; simp; omega) ?_; intro v6 w6 ho6 hg6 _; obtain ⟨A6, c6, rfl, _⟩ := ho6.form; have K6 := Lib.hid ((hg6.block g (by exact KA.out.lt) (fun e => OA.out.neq KA.out (fun _ _ h => bool_ne_int (by injection h)) e.symm)).trans KA.out); have B6 := Lib.hid (BA.out.grown hg6 (by have := GL.out; simp; omega) (fun b hb => by have := (OA.out.lt b hb).1; omega)); have O6 := Lib.hid ho6; clear ho6 hg6 KA OA BA NZ q0 q4)
            go_roundg ((n : Int) - ((k : Int) + 1)).toNat
            case measure => omega
            case rel => exact ⟨(k : Int) + 1, s3, (st2 ++ [(k : Int) + 1 + imm]), A6, c6, rfl, by simp, SL3.out, K6.out, by simpa using O6.out, B6.out, IV.out.perm (fun j => by rw [NE.out]; simp [or_comm, or_assoc, or_left_comm]), by have := LT3.out; simp; omega, rfl⟩
          by_cases hop23 : op = 23
          case pos =>
            subst hop23
            have NE := Lib.hid (NX.out.trans (show _ = [(k : Int) + 1, (k : Int) + 1 + imm] by simp [stops]))
            clear NX
            have KA := Lib.hid (K5.out.alloc (.cells #[.int .i64 ((k : Int) + 1 + imm)] 3))
            have OA := Lib.hid (O5.out.alloc (.cells #[.int .i64 ((k : Int) + 1 + imm)] 3))
            have BA := Lib.hid (B5.out.alloc (Nat.le_of_lt K5.out.lt) (.cells #[.int .i64 ((k : Int) + 1 + imm)] 3))
            have NZ := Lib.hid (nums_built .i64 3 (w4.alloc (.cells #[.int .i64 23, .int .i64 a1, .int .i64 b1, .int .i64 c1x, .int .i64 imm] 104)) [(k : Int) + 1 + imm] #[.int .i64 ((k : Int) + 1 + imm)] rfl 1 rfl (by decide) (w4.heap.size + 1) (by simp))
            have GL := Lib.hid (show g + 1 ≤ w4.heap.size + 1 from by have := K5.out.lt; simp at this; omega)
            clear K5 O5 B5 Q5
            go_wp2_with (at_builtin; refine wpList_append_nums _ rfl _ _ rfl rowI64L (g + 1) (.slice A3 st2.length c3) st2.length st2 rfl OA.out (some ⟨w4.heap.size + 1, 0, none⟩) 1 1 [(k : Int) + 1 + imm] rfl NZ.out (by have := FE3.out; omega) (by have := GL.out; simp; omega) ?_; intro v6 w6 ho6 hg6 _; obtain ⟨A6, c6, rfl, _⟩ := ho6.form; have K6 := Lib.hid ((hg6.block g (by exact KA.out.lt) (fun e => OA.out.neq KA.out (fun _ _ h => bool_ne_int (by injection h)) e.symm)).trans KA.out); have B6 := Lib.hid (BA.out.grown hg6 (by have := GL.out; simp; omega) (fun b hb => by have := (OA.out.lt b hb).1; omega)); have O6 := Lib.hid ho6; clear ho6 hg6 KA OA BA NZ q0 q4)
            go_roundg ((n : Int) - ((k : Int) + 1)).toNat
            case measure => omega
            case rel => exact ⟨(k : Int) + 1, s3, (st2 ++ [(k : Int) + 1 + imm]), A6, c6, rfl, by simp, SL3.out, K6.out, by simpa using O6.out, B6.out, IV.out.perm (fun j => by rw [NE.out]; simp [or_comm, or_assoc, or_left_comm]), by have := LT3.out; simp; omega, rfl⟩
          by_cases hop22 : op = 22
          case pos =>
            subst hop22
            have NE := Lib.hid (NX.out.trans (show _ = [(k : Int) + 1 + imm] by simp [stops]))
            clear NX
            have KA := Lib.hid (K5.out.alloc (.cells #[.int .i64 ((k : Int) + 1 + imm)] 3))
            have OA := Lib.hid (O5.out.alloc (.cells #[.int .i64 ((k : Int) + 1 + imm)] 3))
            have BA := Lib.hid (B5.out.alloc (Nat.le_of_lt K5.out.lt) (.cells #[.int .i64 ((k : Int) + 1 + imm)] 3))
            have NZ := Lib.hid (nums_built .i64 3 (w4.alloc (.cells #[.int .i64 22, .int .i64 a1, .int .i64 b1, .int .i64 c1x, .int .i64 imm] 104)) [(k : Int) + 1 + imm] #[.int .i64 ((k : Int) + 1 + imm)] rfl 1 rfl (by decide) (w4.heap.size + 1) (by simp))
            have GL := Lib.hid (show g + 1 ≤ w4.heap.size + 1 from by have := K5.out.lt; simp at this; omega)
            clear K5 O5 B5 Q5
            go_wp2_with (at_builtin; refine wpList_append_nums _ rfl _ _ rfl rowI64L (g + 1) (.slice A3 st2.length c3) st2.length st2 rfl OA.out (some ⟨w4.heap.size + 1, 0, none⟩) 1 1 [(k : Int) + 1 + imm] rfl NZ.out (by have := FE3.out; omega) (by have := GL.out; simp; omega) ?_; intro v6 w6 ho6 hg6 _; obtain ⟨A6, c6, rfl, _⟩ := ho6.form; have K6 := Lib.hid ((hg6.block g (by exact KA.out.lt) (fun e => OA.out.neq KA.out (fun _ _ h => bool_ne_int (by injection h)) e.symm)).trans KA.out); have B6 := Lib.hid (BA.out.grown hg6 (by have := GL.out; simp; omega) (fun b hb => by have := (OA.out.lt b hb).1; omega)); have O6 := Lib.hid ho6; clear ho6 hg6 KA OA BA NZ q0 q4)
            go_roundg (2 * miss s3 + (st2 ++ [(k : Int) + 1 + imm]).length)
            case measure => (have := LT3.out; have := HM.out; simp; omega)
            case rel => exact ⟨s3, (st2 ++ [(k : Int) + 1 + imm]), A6, c6, by simp, ⟨SL3.out, K6.out, by simpa using O6.out, B6.out, IV.out.perm (fun j => by rw [NE.out]; simp [or_comm, or_assoc, or_left_comm]), by have := FE3.out; simp; omega⟩, rfl⟩
          by_cases hop1 : op = 1
          case pos =>
            subst hop1
            have NE := Lib.hid (NX.out.trans (show _ = ([] : List Int) by simp [stops]))
            clear NX
            go_wp2_with fail
            go_roundg (2 * miss s3 + st2.length)
            case measure => (have := LT3.out; have := HM.out; simp; omega)
            case rel => exact ⟨s3, st2, A3, c3, by simp, ⟨SL3.out, K5.out, O5.out, B5.out, IV.out.perm (fun j => by rw [NE.out]; simp [or_comm, or_assoc, or_left_comm]), by have := FE3.out; simp; omega⟩, rfl⟩
          by_cases hop24 : op = 24
          case pos =>
            subst hop24
            have NE := Lib.hid (NX.out.trans (show _ = ([] : List Int) by simp [stops]))
            clear NX
            go_wp2_with fail
            go_roundg (2 * miss s3 + st2.length)
            case measure => (have := LT3.out; have := HM.out; simp; omega)
            case rel => exact ⟨s3, st2, A3, c3, by simp, ⟨SL3.out, K5.out, O5.out, B5.out, IV.out.perm (fun j => by rw [NE.out]; simp [or_comm, or_assoc, or_left_comm]), by have := FE3.out; simp; omega⟩, rfl⟩
          by_cases hop28 : op = 28
          case pos =>
            subst hop28
            have NE := Lib.hid (NX.out.trans (show _ = ([] : List Int) by simp [stops]))
            clear NX
            go_wp2_with fail
            go_roundg (2 * miss s3 + st2.length)
            case measure => (have := LT3.out; have := HM.out; simp; omega)
            case rel => exact ⟨s3, st2, A3, c3, by simp, ⟨SL3.out, K5.out, O5.out, B5.out, IV.out.perm (fun j => by rw [NE.out]; simp [or_comm, or_assoc, or_left_comm]), by have := FE3.out; simp; omega⟩, rfl⟩
          by_cases hop29 : op = 29
          case pos =>
            subst hop29
            have NE := Lib.hid (NX.out.trans (show _ = ([] : List Int) by simp [stops]))
            clear NX
            go_wp2_with fail
            go_roundg (2 * miss s3 + st2.length)
            case measure => (have := LT3.out; have := HM.out; simp; omega)
            case rel => exact ⟨s3, st2, A3, c3, by simp, ⟨SL3.out, K5.out, O5.out, B5.out, IV.out.perm (fun j => by rw [NE.out]; simp [or_comm, or_assoc, or_left_comm]), by have := FE3.out; simp; omega⟩, rfl⟩
          have e20 : (op == 20) = false := by simpa using hop20
          have e21 : (op == 21) = false := by simpa using hop21
          have e23 : (op == 23) = false := by simpa using hop23
          have e22 : (op == 22) = false := by simpa using hop22
          have e1 : (op == 1) = false := by simpa using hop1
          have e24 : (op == 24) = false := by simpa using hop24
          have e28 : (op == 28) = false := by simpa using hop28
          have e29 : (op == 29) = false := by simpa using hop29
          have hst : ¬ stops op := by unfold stops; omega
          have hld : ¬ (20 ≤ op ∧ op ≤ 23) := by omega
          rw [if_neg hst, if_neg hld] at NX
          clear hst hld hop20 hop21 hop23 hop22 hop1 hop24 hop28 hop29
          have NE := Lib.hid (NX.out.trans (show _ = [(k : Int) + 1] by simp [stops]))
          clear NX
          go_wp2_with fail
          go_roundg ((n : Int) - ((k : Int) + 1)).toNat
          case measure => omega
          case rel => exact ⟨(k : Int) + 1, s3, st2, A3, c3, rfl, by simp, SL3.out, K5.out, O5.out, B5.out, IV.out.perm (fun j => by rw [NE.out]; simp [or_comm, or_assoc, or_left_comm]), by have := LT3.out; simp; omega, rfl⟩
end Go.Proofs.YtoffagmoaedkbaaDoor

/- The law ListingReaches: two rows of marks alike; an argument that may be nil. -/
namespace Go.Proofs.YtoffagmoaedkbaaDoor
open Go.ChangeShapes Go.WideShapes Go.ChangeAt Go.RowKit
set_option linter.unusedVariables false

theorem reach_len (f : Nat → List Int) (n : Nat) (fr : List Int) : (sweeps f n n (fr.foldl markAt (List.replicate n false))).length = n :=
  (sweeps_grow n _).1.trans ((marks_grow _ _).1.trans (by simp))

theorem u32_of_wf {zs : List Int} (h : ∀ z ∈ zs, (Lit.int .u32 z).wf = true) (k : Nat) : 0 ≤ zs.getD k 0 ∧ zs.getD k 0 ≤ 4294967295 := by
  rw [List.getD_eq_getElem?_getD]
  cases hk : zs[k]? with
  | none => exact ⟨by decide, by decide⟩
  | some z => exact bounds_u32 (h z (List.mem_of_getElem? hk))
end Go.Proofs.YtoffagmoaedkbaaDoor
