/- Symfile: May of both sides. -/
import Derived.Test.YthmjniedfiabhaaSymB
namespace Go.Proofs.Ythmjniedfiabhaa
open Go.ChangeShapes Go.WideShapes Go.ChangeAt Go.RowKit
set_option linter.unusedVariables false
set_option linter.unusedSimpArgs false

theorem ParV.toV {B : Nat} {w : World} {v : Value} {ps : List (Int × Bool)} (h : ParV B w v ps) : ParV w.heap.size w v ps := by
  obtain ⟨A, c, h1, h2, h3⟩ := h
  refine ⟨A, c, h1, h2, fun hn => ?_⟩
  obtain ⟨b, off, e, hb, _, hc⟩ := h3 hn
  exact ⟨b, off, e, hb, .inl hb, hc⟩

set_option maxHeartbeats 2000000 in
set_option maxRecDepth 100000 in
theorem simple_any (t : Int) (w : World) : Calls Try.prog 66 #[.int .i64 t] w fun e w' => e = .returned (.bool (decide (basicP t))) ∧ w = w' := by
  by_cases h : t = 1 ∨ t = 2 ∨ t = 3
  · rw [show decide (basicP t) = true from decide_eq_true (by unfold basicP; omega)]
    rcases h with rfl | rfl | rfl
    all_goals
      go_enter Try.func66, Try.ntmps66
      go_wp2_with fail
      go_ret
      exact ⟨rfl, rfl⟩
  · rw [show decide (basicP t) = false from decide_eq_false (by unfold basicP; omega)]
    have e1 : (t == 1) = false := by simp; omega
    have e2 : (t == 2) = false := by simp; omega
    have e3 : (t == 3) = false := by simp; omega
    clear h
    go_enter Try.func66, Try.ntmps66
    go_wp2_with fail
    go_ret
    exact ⟨rfl, rfl⟩

set_option maxHeartbeats 2000000 in
set_option maxRecDepth 100000 in
theorem basic_any (t : Int) (w : World) : Calls Try.prog 36 #[.int .i64 t] w fun e w' => e = .returned (.bool (decide (basicP t))) ∧ w = w' := by
  have L := Lib.hid (fun b (h : (b = true ↔ (1 ≤ t ∧ t ≤ 3))) => show b = decide (basicP t) from Bool.eq_iff_iff.2 (h.trans (decide_eq_true_iff (p := basicP t)).symm))
  generalize decide (basicP t) = r at *
  go_enter Try.func36, Try.ntmps36
  go_wp2_with fail
  all_goals go_ret
  all_goals refine ⟨?_, rfl⟩
  all_goals exact congrArg (fun b => Ending.returned (.bool b)) (L.out _ (by
    simp only [Bool.or_eq_true, Bool.and_eq_true, decide_eq_true_eq, beq_iff_eq, Bool.false_eq_true, true_iff, false_iff]
    omega))

/-- May all parameters be? -/
def parsOk (ps : List (Int × Bool)) : Prop := ps.length ≤ 16 ∧ ∀ q ∈ ps, basicP q.1

instance (ps : List (Int × Bool)) : Decidable (parsOk ps) := by unfold parsOk; infer_instance

theorem take_snoc {α : Type} (l : List α) (d : α) {t : Nat} (h : t < l.length) : l.take (t + 1) = l.take t ++ [l.getD t d] := by
  rw [List.take_add_one, List.getD_eq_getElem?_getD, List.getElem?_eq_getElem h]
  rfl

theorem all_snoc {α : Type} {Q : α → Prop} {l : List α} {d : α} {t : Nat} (h : t < l.length) (h1 : ∀ x ∈ l.take t, Q x) (h2 : Q (l.getD t d)) : ∀ x ∈ l.take (t + 1), Q x := by
  rw [take_snoc l d h]
  intro x hx
  rcases List.mem_append.1 hx with hx | hx
  · exact h1 x hx
  · obtain rfl := List.mem_singleton.1 hx
    exact h2

set_option maxHeartbeats 4000000 in
set_option maxRecDepth 100000 in
theorem cpars_any (Ap : Option Addr) (cp B : Nat) (ps : List (Int × Bool)) (w : World) (hp : ParV B w (.slice Ap ps.length cp) ps) (hn : ps.length ≤ 140737488355328) :
    Calls Try.prog 67 #[.slice Ap ps.length cp] w fun e w' => e = .returned (.bool (decide (parsOk ps))) ∧ Below w.heap.size w w' := by
  have HP := Lib.hid hp
  have R0 := Lib.hid (show 16 < ps.length → decide (parsOk ps) = false from fun h => decide_eq_false (fun h' => by have := h'.1; omega))
  have R1 := Lib.hid (show (h : ps.length ≤ 16) → (∀ q ∈ ps, basicP q.1) → decide (parsOk ps) = true from fun h h' => decide_eq_true ⟨h, h'⟩)
  have R2 := Lib.hid (show ∀ t, t < ps.length → ¬ basicP (ps.getD t (0, false)).1 → decide (parsOk ps) = false from fun t ht h => decide_eq_false (fun h' => h (h'.2 _ (getD_mem (0, false) ht))))
  generalize decide (parsOk ps) = r at *
  clear hp
  by_cases h16 : 16 < ps.length
  · have hI : (16 : Int) < ps.length := by omega
    have R := Lib.hid (R0.out h16)
    go_enter Try.func67, Try.ntmps67
    go_wp2_with fail
    go_ret
    rw [R.out]
    exact ⟨rfl, Below.refl _ _⟩
  · have hI : ¬ (16 : Int) < ps.length := by omega
    go_enter Try.func67, Try.ntmps67
    go_wp2_with fail
    go_loopw [10] (fun i wr => ∃ t : Nat, t ≤ ps.length ∧ i = .int .i64 t ∧ (∀ q ∈ ps.take t, basicP q.1) ∧ Below w.heap.size w wr) (fun i _ => ps.length - (intOf i).toNat)
    case atStart => exact ⟨0, Nat.zero_le _, rfl, (fun q h => by cases h), Below.refl _ _⟩
    case round =>
      obtain ⟨t, ht, rfl, hq, hb⟩ := hrel
      have HQ := Lib.hid hq
      have HB := Lib.hid hb
      clear hq
      by_cases hlt : t < ps.length
      · have hI : (t : Int) < ps.length := by omega
        obtain ⟨bb, off, rfl, p0, p1⟩ := (HP.out.below hb).at hlt
        have NX := Lib.hid (fun h => all_snoc (Q := fun q : Int × Bool => basicP q.1) (d := (0, false)) hlt HQ.out h)
        have R2' := Lib.hid (R2.out t hlt)
        generalize ps.getD t (0, false) = q at *
        obtain ⟨qt, qr⟩ := q
        have HB2 := Lib.hid (hb.alloc hb.size (.cells #[.int .i64 qt, .bool qr] pP))
        rw [← Nat.add_assoc] at p1
        simp only at p0 p1
        have IS := Lib.hid (fun W => simple_any qt W)
        clear hb
        by_cases hB : basicP qt
        · rw [decide_eq_true hB] at IS
          have NX' := Lib.hid (NX.out hB)
          clear NX hB R2'
          go_wp2_with fail
          refine (IS.out _).mono ?_
          rintro e w1 ⟨rfl, rfl⟩
          go_wp2_with fail
          go_roundw
          case rel => exact ⟨t + 1, by omega, by go_num, NX'.out, HB2.out⟩
          case measure => simp [intOf]; omega
        · rw [decide_eq_false hB] at IS
          have R := Lib.hid (R2'.out hB)
          clear NX hB R2'
          go_wp2_with fail
          refine (IS.out _).mono ?_
          rintro e w1 ⟨rfl, rfl⟩
          go_wp2_with fail
          go_ret
          rw [R.out]
          exact ⟨rfl, HB2.out⟩
      · have hI : ¬ (t : Int) < ps.length := by omega
        obtain rfl : t = ps.length := by omega
        have R := Lib.hid (R1.out (by omega) (by have := HQ.out; rwa [List.take_length] at this))
        go_wp2_with fail
        go_ret
        rw [R.out]
        exact ⟨rfl, HB.out⟩

/-- Can it be exported, whatever its name is? -/
def canP (x : Ex) : Prop := kindOk x ∧ (x.kd = 1 ∨ 0 ≤ x.vl)

instance (x : Ex) : Decidable (canP x) := by unfold canP; infer_instance

theorem mayP_eq (x : Ex) : mayP x = if nameOk x.nm then (if canP x then 0 else 141) else 140 := by
  unfold mayP
  by_cases h1 : nameOk x.nm
  · rw [if_neg (fun h => h h1), if_pos h1]
    by_cases h2 : canP x
    · rw [if_pos h2, if_neg]
      rintro (h | ⟨h3, h4⟩)
      · exact h h2.1
      · rcases h2.2 with h | h <;> omega
    · rw [if_neg h2, if_pos]
      by_cases h3 : kindOk x
      · right
        constructor
        · intro h
          exact h2 ⟨h3, .inl h⟩
        · by_cases h4 : x.vl < 0
          · exact h4
          · exact absurd (show canP x from ⟨h3, .inr (by omega)⟩) h2
      · exact .inl h3
  · rw [if_pos h1, if_neg h1]

theorem can_simple {nm : ByteArray} {kd ty vl : Int} {ps : List (Int × Bool)} (h : kd = 1 ∨ (kd = 3 ∧ 0 ≤ vl)) : canP ⟨nm, kd, ty, vl, ps⟩ ↔ basicP ty ∧ ps.length = 0 := by
  unfold canP kindOk
  simp only
  constructor
  · rintro ⟨h1, _⟩
    rcases h1 with ⟨_, h2⟩ | ⟨h2, _⟩ | ⟨h2, _⟩
    · exact h2
    · omega
    · omega
  · intro h1
    exact ⟨.inl ⟨by omega, h1⟩, by omega⟩

theorem can_exc {nm : ByteArray} {ty vl : Int} {ps : List (Int × Bool)} (h : 0 ≤ vl) : canP ⟨nm, 7, ty, vl, ps⟩ ↔ ty = 0 ∧ ps.length = 0 := by
  unfold canP kindOk
  simp only
  constructor
  · rintro ⟨h1, _⟩
    rcases h1 with ⟨h2, _⟩ | ⟨_, h2⟩ | ⟨h2, _⟩
    · omega
    · exact h2
    · omega
  · intro h1
    exact ⟨.inr (.inl ⟨trivial, h1⟩), .inr h⟩

theorem can_proc {nm : ByteArray} {ty vl : Int} {ps : List (Int × Bool)} (h : 0 ≤ vl) : canP ⟨nm, 6, ty, vl, ps⟩ ↔ (ty = 0 ∨ basicP ty) ∧ parsOk ps := by
  unfold canP kindOk parsOk basicP
  simp only
  constructor
  · rintro ⟨h1, _⟩
    rcases h1 with ⟨h2, _⟩ | ⟨h2, _⟩ | ⟨_, h2, h3⟩
    · omega
    · omega
    · exact ⟨by omega, h3⟩
  · intro h1
    exact ⟨.inr (.inr ⟨trivial, by omega, h1.2⟩), .inr h⟩

theorem can_neg {nm : ByteArray} {kd ty vl : Int} {ps : List (Int × Bool)} (h : kd ≠ 1 ∧ vl < 0) : ¬ canP ⟨nm, kd, ty, vl, ps⟩ := by
  unfold canP
  simp only
  omega

theorem can_none {nm : ByteArray} {kd ty vl : Int} {ps : List (Int × Bool)} (h : kd ≠ 1 ∧ kd ≠ 3 ∧ kd ≠ 6 ∧ kd ≠ 7) : ¬ canP ⟨nm, kd, ty, vl, ps⟩ := by
  unfold canP kindOk
  simp only
  omega

set_option maxHeartbeats 8000000 in
set_option maxRecDepth 100000 in
theorem can_a (nm : ByteArray) (kd ty vl : Int) (ps : List (Int × Bool)) (Ap : Option Addr) (cp B : Nat) (w : World) (hp : ParV B w (.slice Ap ps.length cp) ps) (hn : ps.length ≤ 140737488355328) (h : kd ≠ 1 ∧ vl < 0) :
    Calls Try.prog 35 #[.agg #[.string nm, .int .i64 kd, .int .i64 ty, .int .i32 vl, .slice Ap ps.length cp]] w fun e w' => e = .returned (.bool (decide (canP ⟨nm, kd, ty, vl, ps⟩))) ∧ Below w.heap.size w w' := by
  rw [decide_eq_false (can_neg h)]
  have BA := Lib.hid ((Below.refl w.heap.size w).alloc (Nat.le_refl _) (.cells #[.string nm, .int .i64 kd, .int .i64 ty, .int .i32 vl, .slice Ap ps.length cp] pE))
  have X := Lib.hid (Whole.made w pE #[.string nm, .int .i64 kd, .int .i64 ty, .int .i32 vl, .slice Ap ps.length cp] _ rfl)
  have q1 : (w.alloc (.cells #[.string nm, .int .i64 kd, .int .i64 ty, .int .i32 vl, .slice Ap ps.length cp] pE)).cell? ⟨w.heap.size, 1, none⟩ = some (.int .i64 kd) := X.out.cell 1
  have q2 : (w.alloc (.cells #[.string nm, .int .i64 kd, .int .i64 ty, .int .i32 vl, .slice Ap ps.length cp] pE)).cell? ⟨w.heap.size, 2, none⟩ = some (.int .i64 ty) := X.out.cell 2
  have q3 : (w.alloc (.cells #[.string nm, .int .i64 kd, .int .i64 ty, .int .i32 vl, .slice Ap ps.length cp] pE)).cell? ⟨w.heap.size, 3, none⟩ = some (.int .i32 vl) := X.out.cell 3
  have q4 : (w.alloc (.cells #[.string nm, .int .i64 kd, .int .i64 ty, .int .i32 vl, .slice Ap ps.length cp] pE)).cell? ⟨w.heap.size, 4, none⟩ = some (.slice Ap ps.length cp) := X.out.cell 4
  have hk : (kd == 1) = false := by simp; omega
  have hk' : (kd != 1) = true := by simp; omega
  have hv : decide (vl < 0) = true := decide_eq_true h.2
  clear h
  go_enter Try.func35, Try.ntmps35
  go_wp2_with fail
  go_ret
  exact ⟨rfl, BA.out⟩

set_option maxHeartbeats 8000000 in
set_option maxRecDepth 100000 in
theorem can_b (nm : ByteArray) (ty vl : Int) (ps : List (Int × Bool)) (Ap : Option Addr) (cp B : Nat) (w : World) (hp : ParV B w (.slice Ap ps.length cp) ps) (hn : ps.length ≤ 140737488355328) :
    Calls Try.prog 35 #[.agg #[.string nm, .int .i64 1, .int .i64 ty, .int .i32 vl, .slice Ap ps.length cp]] w fun e w' => e = .returned (.bool (decide (canP ⟨nm, 1, ty, vl, ps⟩))) ∧ Below w.heap.size w w' := by
  have C := Lib.hid (can_simple (nm := nm) (kd := 1) (ty := ty) (vl := vl) (ps := ps) (.inl rfl))
  have BA := Lib.hid ((Below.refl w.heap.size w).alloc (Nat.le_refl _) (.cells #[.string nm, .int .i64 1, .int .i64 ty, .int .i32 vl, .slice Ap ps.length cp] pE))
  have X := Lib.hid (Whole.made w pE #[.string nm, .int .i64 1, .int .i64 ty, .int .i32 vl, .slice Ap ps.length cp] _ rfl)
  have q1 : (w.alloc (.cells #[.string nm, .int .i64 1, .int .i64 ty, .int .i32 vl, .slice Ap ps.length cp] pE)).cell? ⟨w.heap.size, 1, none⟩ = some (.int .i64 1) := X.out.cell 1
  have q2 : (w.alloc (.cells #[.string nm, .int .i64 1, .int .i64 ty, .int .i32 vl, .slice Ap ps.length cp] pE)).cell? ⟨w.heap.size, 2, none⟩ = some (.int .i64 ty) := X.out.cell 2
  have q3 : (w.alloc (.cells #[.string nm, .int .i64 1, .int .i64 ty, .int .i32 vl, .slice Ap ps.length cp] pE)).cell? ⟨w.heap.size, 3, none⟩ = some (.int .i32 vl) := X.out.cell 3
  have q4 : (w.alloc (.cells #[.string nm, .int .i64 1, .int .i64 ty, .int .i32 vl, .slice Ap ps.length cp] pE)).cell? ⟨w.heap.size, 4, none⟩ = some (.slice Ap ps.length cp) := X.out.cell 4
  have IS := Lib.hid (fun W => simple_any ty W)
  by_cases hb : basicP ty
  · rw [decide_eq_true hb] at IS
    by_cases h0 : ps.length = 0
    · rw [decide_eq_true (C.out.2 ⟨hb, h0⟩)]
      have d0 : ((ps.length : Int) == 0) = true := beq_iff_eq.2 (by omega)
      clear hb C h0
      go_enter Try.func35, Try.ntmps35
      go_wp2_with fail
      refine (IS.out _).mono ?_
      rintro e w1 ⟨rfl, rfl⟩
      go_wp2_with fail
      go_ret
      exact ⟨rfl, BA.out⟩
    · rw [decide_eq_false (fun h => h0 (C.out.1 h).2)]
      have d0 : ((ps.length : Int) == 0) = false := beq_eq_false_iff_ne.2 (by omega)
      clear hb C h0
      go_enter Try.func35, Try.ntmps35
      go_wp2_with fail
      refine (IS.out _).mono ?_
      rintro e w1 ⟨rfl, rfl⟩
      go_wp2_with fail
      go_ret
      exact ⟨rfl, BA.out⟩
  · rw [decide_eq_false hb] at IS
    rw [decide_eq_false (fun h => hb (C.out.1 h).1)]
    clear hb C
    go_enter Try.func35, Try.ntmps35
    go_wp2_with fail
    refine (IS.out _).mono ?_
    rintro e w1 ⟨rfl, rfl⟩
    go_wp2_with fail
    go_ret
    exact ⟨rfl, BA.out⟩

set_option maxHeartbeats 8000000 in
set_option maxRecDepth 100000 in
theorem can_c (nm : ByteArray) (ty vl : Int) (ps : List (Int × Bool)) (Ap : Option Addr) (cp B : Nat) (w : World) (hp : ParV B w (.slice Ap ps.length cp) ps) (hn : ps.length ≤ 140737488355328) (hv : 0 ≤ vl) :
    Calls Try.prog 35 #[.agg #[.string nm, .int .i64 3, .int .i64 ty, .int .i32 vl, .slice Ap ps.length cp]] w fun e w' => e = .returned (.bool (decide (canP ⟨nm, 3, ty, vl, ps⟩))) ∧ Below w.heap.size w w' := by
  have C := Lib.hid (can_simple (nm := nm) (kd := 3) (ty := ty) (vl := vl) (ps := ps) (.inr ⟨rfl, hv⟩))
  have BA := Lib.hid ((Below.refl w.heap.size w).alloc (Nat.le_refl _) (.cells #[.string nm, .int .i64 3, .int .i64 ty, .int .i32 vl, .slice Ap ps.length cp] pE))
  have X := Lib.hid (Whole.made w pE #[.string nm, .int .i64 3, .int .i64 ty, .int .i32 vl, .slice Ap ps.length cp] _ rfl)
  have q1 : (w.alloc (.cells #[.string nm, .int .i64 3, .int .i64 ty, .int .i32 vl, .slice Ap ps.length cp] pE)).cell? ⟨w.heap.size, 1, none⟩ = some (.int .i64 3) := X.out.cell 1
  have q2 : (w.alloc (.cells #[.string nm, .int .i64 3, .int .i64 ty, .int .i32 vl, .slice Ap ps.length cp] pE)).cell? ⟨w.heap.size, 2, none⟩ = some (.int .i64 ty) := X.out.cell 2
  have q3 : (w.alloc (.cells #[.string nm, .int .i64 3, .int .i64 ty, .int .i32 vl, .slice Ap ps.length cp] pE)).cell? ⟨w.heap.size, 3, none⟩ = some (.int .i32 vl) := X.out.cell 3
  have q4 : (w.alloc (.cells #[.string nm, .int .i64 3, .int .i64 ty, .int .i32 vl, .slice Ap ps.length cp] pE)).cell? ⟨w.heap.size, 4, none⟩ = some (.slice Ap ps.length cp) := X.out.cell 4
  have hv' : decide (vl < 0) = false := decide_eq_false (by omega)
  have IS := Lib.hid (fun W => simple_any ty W)
  by_cases hb : basicP ty
  · rw [decide_eq_true hb] at IS
    by_cases h0 : ps.length = 0
    · rw [decide_eq_true (C.out.2 ⟨hb, h0⟩)]
      have d0 : ((ps.length : Int) == 0) = true := beq_iff_eq.2 (by omega)
      clear hb C h0
      go_enter Try.func35, Try.ntmps35
      go_wp2_with fail
      refine (IS.out _).mono ?_
      rintro e w1 ⟨rfl, rfl⟩
      go_wp2_with fail
      go_ret
      exact ⟨rfl, BA.out⟩
    · rw [decide_eq_false (fun h => h0 (C.out.1 h).2)]
      have d0 : ((ps.length : Int) == 0) = false := beq_eq_false_iff_ne.2 (by omega)
      clear hb C h0
      go_enter Try.func35, Try.ntmps35
      go_wp2_with fail
      refine (IS.out _).mono ?_
      rintro e w1 ⟨rfl, rfl⟩
      go_wp2_with fail
      go_ret
      exact ⟨rfl, BA.out⟩
  · rw [decide_eq_false hb] at IS
    rw [decide_eq_false (fun h => hb (C.out.1 h).1)]
    clear hb C
    go_enter Try.func35, Try.ntmps35
    go_wp2_with fail
    refine (IS.out _).mono ?_
    rintro e w1 ⟨rfl, rfl⟩
    go_wp2_with fail
    go_ret
    exact ⟨rfl, BA.out⟩

set_option maxHeartbeats 8000000 in
set_option maxRecDepth 100000 in
theorem can_d (nm : ByteArray) (ty vl : Int) (ps : List (Int × Bool)) (Ap : Option Addr) (cp B : Nat) (w : World) (hp : ParV B w (.slice Ap ps.length cp) ps) (hn : ps.length ≤ 140737488355328) (hv : 0 ≤ vl) :
    Calls Try.prog 35 #[.agg #[.string nm, .int .i64 7, .int .i64 ty, .int .i32 vl, .slice Ap ps.length cp]] w fun e w' => e = .returned (.bool (decide (canP ⟨nm, 7, ty, vl, ps⟩))) ∧ Below w.heap.size w w' := by
  have C := Lib.hid (can_exc (nm := nm) (ty := ty) (vl := vl) (ps := ps) hv)
  have BA := Lib.hid ((Below.refl w.heap.size w).alloc (Nat.le_refl _) (.cells #[.string nm, .int .i64 7, .int .i64 ty, .int .i32 vl, .slice Ap ps.length cp] pE))
  have X := Lib.hid (Whole.made w pE #[.string nm, .int .i64 7, .int .i64 ty, .int .i32 vl, .slice Ap ps.length cp] _ rfl)
  have q1 : (w.alloc (.cells #[.string nm, .int .i64 7, .int .i64 ty, .int .i32 vl, .slice Ap ps.length cp] pE)).cell? ⟨w.heap.size, 1, none⟩ = some (.int .i64 7) := X.out.cell 1
  have q2 : (w.alloc (.cells #[.string nm, .int .i64 7, .int .i64 ty, .int .i32 vl, .slice Ap ps.length cp] pE)).cell? ⟨w.heap.size, 2, none⟩ = some (.int .i64 ty) := X.out.cell 2
  have q3 : (w.alloc (.cells #[.string nm, .int .i64 7, .int .i64 ty, .int .i32 vl, .slice Ap ps.length cp] pE)).cell? ⟨w.heap.size, 3, none⟩ = some (.int .i32 vl) := X.out.cell 3
  have q4 : (w.alloc (.cells #[.string nm, .int .i64 7, .int .i64 ty, .int .i32 vl, .slice Ap ps.length cp] pE)).cell? ⟨w.heap.size, 4, none⟩ = some (.slice Ap ps.length cp) := X.out.cell 4
  have hv' : decide (vl < 0) = false := decide_eq_false (by omega)
  by_cases hb : ty = 0
  · subst hb
    by_cases h0 : ps.length = 0
    · rw [decide_eq_true (C.out.2 ⟨rfl, h0⟩)]
      have d0 : ((ps.length : Int) == 0) = true := beq_iff_eq.2 (by omega)
      clear C h0
      go_enter Try.func35, Try.ntmps35
      go_wp2_with fail
      go_ret
      exact ⟨rfl, BA.out⟩
    · rw [decide_eq_false (fun h => h0 (C.out.1 h).2)]
      have d0 : ((ps.length : Int) == 0) = false := beq_eq_false_iff_ne.2 (by omega)
      clear C h0
      go_enter Try.func35, Try.ntmps35
      go_wp2_with fail
      go_ret
      exact ⟨rfl, BA.out⟩
  · rw [decide_eq_false (fun h => hb (C.out.1 h).1)]
    have d1 : (ty == 0) = false := by simp; omega
    clear hb C
    go_enter Try.func35, Try.ntmps35
    go_wp2_with fail
    go_ret
    exact ⟨rfl, BA.out⟩

set_option maxHeartbeats 8000000 in
set_option maxRecDepth 100000 in
theorem can_e (nm : ByteArray) (ty vl : Int) (ps : List (Int × Bool)) (Ap : Option Addr) (cp B : Nat) (w : World) (hp : ParV B w (.slice Ap ps.length cp) ps) (hn : ps.length ≤ 140737488355328) (hv : 0 ≤ vl) :
    Calls Try.prog 35 #[.agg #[.string nm, .int .i64 6, .int .i64 ty, .int .i32 vl, .slice Ap ps.length cp]] w fun e w' => e = .returned (.bool (decide (canP ⟨nm, 6, ty, vl, ps⟩))) ∧ Below w.heap.size w w' := by
  have C := Lib.hid (can_proc (nm := nm) (ty := ty) (vl := vl) (ps := ps) hv)
  have BA := Lib.hid ((Below.refl w.heap.size w).alloc (Nat.le_refl _) (.cells #[.string nm, .int .i64 6, .int .i64 ty, .int .i32 vl, .slice Ap ps.length cp] pE))
  have X := Lib.hid (Whole.made w pE #[.string nm, .int .i64 6, .int .i64 ty, .int .i32 vl, .slice Ap ps.length cp] _ rfl)
  have q1 : (w.alloc (.cells #[.string nm, .int .i64 6, .int .i64 ty, .int .i32 vl, .slice Ap ps.length cp] pE)).cell? ⟨w.heap.size, 1, none⟩ = some (.int .i64 6) := X.out.cell 1
  have q2 : (w.alloc (.cells #[.string nm, .int .i64 6, .int .i64 ty, .int .i32 vl, .slice Ap ps.length cp] pE)).cell? ⟨w.heap.size, 2, none⟩ = some (.int .i64 ty) := X.out.cell 2
  have q3 : (w.alloc (.cells #[.string nm, .int .i64 6, .int .i64 ty, .int .i32 vl, .slice Ap ps.length cp] pE)).cell? ⟨w.heap.size, 3, none⟩ = some (.int .i32 vl) := X.out.cell 3
  have q4 : (w.alloc (.cells #[.string nm, .int .i64 6, .int .i64 ty, .int .i32 vl, .slice Ap ps.length cp] pE)).cell? ⟨w.heap.size, 4, none⟩ = some (.slice Ap ps.length cp) := X.out.cell 4
  have hv' : decide (vl < 0) = false := decide_eq_false (by omega)
  have CP := Lib.hid (cpars_any Ap cp B ps (w.alloc (.cells #[.string nm, .int .i64 6, .int .i64 ty, .int .i32 vl, .slice Ap ps.length cp] pE)) (hp.below BA.out) hn)
  have IS := Lib.hid (fun W => simple_any ty W)
  by_cases h0 : ty = 0
  · subst h0
    rw [show decide (canP ⟨nm, 6, 0, vl, ps⟩) = decide (parsOk ps) from decide_eq_decide.2 (C.out.trans ⟨fun h => h.2, fun h => ⟨.inl rfl, h⟩⟩)]
    clear C IS
    generalize decide (parsOk ps) = r at *
    go_enter Try.func35, Try.ntmps35
    go_wp2_with fail
    refine CP.out.mono ?_
    rintro e w2 ⟨rfl, hb2⟩
    have B2 := Lib.hid (BA.out.trans (hb2.mono BA.out.size))
    clear hb2
    go_wp2_with fail
    go_ret
    exact ⟨rfl, B2.out⟩
  · have d1 : (ty == 0) = false := by simp; omega
    by_cases hb : basicP ty
    · rw [decide_eq_true hb] at IS
      rw [show decide (canP ⟨nm, 6, ty, vl, ps⟩) = decide (parsOk ps) from decide_eq_decide.2 (C.out.trans ⟨fun h => h.2, fun h => ⟨.inr hb, h⟩⟩)]
      clear C hb h0
      generalize decide (parsOk ps) = r at *
      go_enter Try.func35, Try.ntmps35
      go_wp2_with fail
      refine (IS.out _).mono ?_
      rintro e w1 ⟨rfl, rfl⟩
      go_wp2_with fail
      refine CP.out.mono ?_
      rintro e w2 ⟨rfl, hb2⟩
      have B2 := Lib.hid (BA.out.trans (hb2.mono BA.out.size))
      clear hb2
      go_wp2_with fail
      go_ret
      exact ⟨rfl, B2.out⟩
    · rw [decide_eq_false hb] at IS
      rw [decide_eq_false (fun h => (C.out.1 h).1.elim h0 hb)]
      clear C hb h0 CP
      go_enter Try.func35, Try.ntmps35
      go_wp2_with fail
      refine (IS.out _).mono ?_
      rintro e w1 ⟨rfl, rfl⟩
      go_wp2_with fail
      go_ret
      exact ⟨rfl, BA.out⟩

set_option maxHeartbeats 8000000 in
set_option maxRecDepth 100000 in
theorem can_f (nm : ByteArray) (kd ty vl : Int) (ps : List (Int × Bool)) (Ap : Option Addr) (cp B : Nat) (w : World) (hp : ParV B w (.slice Ap ps.length cp) ps) (hn : ps.length ≤ 140737488355328) (h : kd ≠ 1 ∧ kd ≠ 3 ∧ kd ≠ 6 ∧ kd ≠ 7) (hv : 0 ≤ vl) :
    Calls Try.prog 35 #[.agg #[.string nm, .int .i64 kd, .int .i64 ty, .int .i32 vl, .slice Ap ps.length cp]] w fun e w' => e = .returned (.bool (decide (canP ⟨nm, kd, ty, vl, ps⟩))) ∧ Below w.heap.size w w' := by
  rw [decide_eq_false (can_none h)]
  have BA := Lib.hid ((Below.refl w.heap.size w).alloc (Nat.le_refl _) (.cells #[.string nm, .int .i64 kd, .int .i64 ty, .int .i32 vl, .slice Ap ps.length cp] pE))
  have X := Lib.hid (Whole.made w pE #[.string nm, .int .i64 kd, .int .i64 ty, .int .i32 vl, .slice Ap ps.length cp] _ rfl)
  have q1 : (w.alloc (.cells #[.string nm, .int .i64 kd, .int .i64 ty, .int .i32 vl, .slice Ap ps.length cp] pE)).cell? ⟨w.heap.size, 1, none⟩ = some (.int .i64 kd) := X.out.cell 1
  have q2 : (w.alloc (.cells #[.string nm, .int .i64 kd, .int .i64 ty, .int .i32 vl, .slice Ap ps.length cp] pE)).cell? ⟨w.heap.size, 2, none⟩ = some (.int .i64 ty) := X.out.cell 2
  have q3 : (w.alloc (.cells #[.string nm, .int .i64 kd, .int .i64 ty, .int .i32 vl, .slice Ap ps.length cp] pE)).cell? ⟨w.heap.size, 3, none⟩ = some (.int .i32 vl) := X.out.cell 3
  have q4 : (w.alloc (.cells #[.string nm, .int .i64 kd, .int .i64 ty, .int .i32 vl, .slice Ap ps.length cp] pE)).cell? ⟨w.heap.size, 4, none⟩ = some (.slice Ap ps.length cp) := X.out.cell 4
  have hk : (kd == 1) = false := by simp; omega
  have hk' : (kd != 1) = true := by simp; omega
  have hk3 : (kd == 3) = false := by simp; omega
  have hk6 : (kd == 6) = false := by simp; omega
  have hk7 : (kd == 7) = false := by simp; omega
  have hv' : decide (vl < 0) = false := decide_eq_false (by omega)
  clear h
  go_enter Try.func35, Try.ntmps35
  go_wp2_with fail
  go_ret
  exact ⟨rfl, BA.out⟩

set_option maxHeartbeats 8000000 in
set_option maxRecDepth 100000 in
theorem can_any (nm : ByteArray) (kd ty vl : Int) (ps : List (Int × Bool)) (Ap : Option Addr) (cp B : Nat) (w : World) (hp : ParV B w (.slice Ap ps.length cp) ps) (hn : ps.length ≤ 140737488355328) :
    Calls Try.prog 35 #[.agg #[.string nm, .int .i64 kd, .int .i64 ty, .int .i32 vl, .slice Ap ps.length cp]] w fun e w' => e = .returned (.bool (decide (canP ⟨nm, kd, ty, vl, ps⟩))) ∧ Below w.heap.size w w' := by
  by_cases h1 : kd = 1
  · subst h1
    exact can_b nm ty vl ps Ap cp B w hp hn
  by_cases hv : vl < 0
  · exact can_a nm kd ty vl ps Ap cp B w hp hn ⟨h1, hv⟩
  have hv : 0 ≤ vl := by omega
  by_cases h3 : kd = 3
  · subst h3
    exact can_c nm ty vl ps Ap cp B w hp hn hv
  by_cases h6 : kd = 6
  · subst h6
    exact can_e nm ty vl ps Ap cp B w hp hn hv
  by_cases h7 : kd = 7
  · subst h7
    exact can_d nm ty vl ps Ap cp B w hp hn hv
  exact can_f nm kd ty vl ps Ap cp B w hp hn ⟨h1, h3, h6, h7⟩ hv

set_option maxHeartbeats 8000000 in
set_option maxRecDepth 100000 in
theorem may_any (nm : ByteArray) (kd ty vl : Int) (ps : List (Int × Bool)) (Ap : Option Addr) (cp B : Nat) (w : World) (hp : ParV B w (.slice Ap ps.length cp) ps) (hn : ps.length ≤ 140737488355328) (hs : nm.size ≤ 140737488355328) :
    Calls Try.prog 9 #[.agg #[.string nm, .int .i64 kd, .int .i64 ty, .int .i32 vl, .slice Ap ps.length cp]] w fun e w' => e = .returned (.int .i64 (mayP ⟨nm, kd, ty, vl, ps⟩)) ∧ Below w.heap.size w w' := by
  have BA := Lib.hid ((Below.refl w.heap.size w).alloc (Nat.le_refl _) (.cells #[.string nm, .int .i64 kd, .int .i64 ty, .int .i32 vl, .slice Ap ps.length cp] pE))
  have X := Lib.hid (Whole.made w pE #[.string nm, .int .i64 kd, .int .i64 ty, .int .i32 vl, .slice Ap ps.length cp] _ rfl)
  have q0 : (w.alloc (.cells #[.string nm, .int .i64 kd, .int .i64 ty, .int .i32 vl, .slice Ap ps.length cp] pE)).cell? ⟨w.heap.size, 0, none⟩ = some (.string nm) := X.out.cell 0
  have q1 : (w.alloc (.cells #[.string nm, .int .i64 kd, .int .i64 ty, .int .i32 vl, .slice Ap ps.length cp] pE)).cell? ⟨w.heap.size, 1, none⟩ = some (.int .i64 kd) := X.out.cell 1
  have q2 : (w.alloc (.cells #[.string nm, .int .i64 kd, .int .i64 ty, .int .i32 vl, .slice Ap ps.length cp] pE)).cell? ⟨w.heap.size, 2, none⟩ = some (.int .i64 ty) := X.out.cell 2
  have q3 : (w.alloc (.cells #[.string nm, .int .i64 kd, .int .i64 ty, .int .i32 vl, .slice Ap ps.length cp] pE)).cell? ⟨w.heap.size, 3, none⟩ = some (.int .i32 vl) := X.out.cell 3
  have q4 : (w.alloc (.cells #[.string nm, .int .i64 kd, .int .i64 ty, .int .i32 vl, .slice Ap ps.length cp] pE)).cell? ⟨w.heap.size, 4, none⟩ = some (.slice Ap ps.length cp) := X.out.cell 4
  have ME := Lib.hid (mayP_eq ⟨nm, kd, ty, vl, ps⟩)
  have NA := Lib.hid (fun W => name_any nm W hs)
  have CA := Lib.hid (can_any nm kd ty vl ps Ap cp B (w.alloc (.cells #[.string nm, .int .i64 kd, .int .i64 ty, .int .i32 vl, .slice Ap ps.length cp] pE)) (hp.below BA.out) hn)
  simp only at ME
  generalize hr : mayP ⟨nm, kd, ty, vl, ps⟩ = r at *
  clear hr
  by_cases h1 : nameOk nm
  · rw [decide_eq_true h1] at NA
    rw [if_pos h1] at ME
    by_cases h2 : canP ⟨nm, kd, ty, vl, ps⟩
    · rw [if_pos h2] at ME
      rw [decide_eq_true h2] at CA
      clear h1 h2
      go_enter Try.func9, Try.ntmps9
      go_wp2_with fail
      refine (NA.out _).mono ?_
      rintro e w1 ⟨rfl, rfl⟩
      go_wp2_with fail
      refine CA.out.mono ?_
      rintro e w2 ⟨rfl, hb2⟩
      have B2 := Lib.hid (BA.out.trans (hb2.mono BA.out.size))
      clear hb2
      go_wp2_with fail
      go_ret
      rw [ME.out]
      exact ⟨rfl, B2.out⟩
    · rw [if_neg h2] at ME
      rw [decide_eq_false h2] at CA
      clear h1 h2
      go_enter Try.func9, Try.ntmps9
      go_wp2_with fail
      refine (NA.out _).mono ?_
      rintro e w1 ⟨rfl, rfl⟩
      go_wp2_with fail
      refine CA.out.mono ?_
      rintro e w2 ⟨rfl, hb2⟩
      have B2 := Lib.hid (BA.out.trans (hb2.mono BA.out.size))
      clear hb2
      go_wp2_with fail
      go_ret
      rw [ME.out]
      exact ⟨rfl, B2.out⟩
  · rw [decide_eq_false h1] at NA
    rw [if_neg h1] at ME
    clear h1 CA
    go_enter Try.func9, Try.ntmps9
    go_wp2_with fail
    refine (NA.out _).mono ?_
    rintro e w1 ⟨rfl, rfl⟩
    go_wp2_with fail
    go_ret
    rw [ME.out]
    exact ⟨rfl, BA.out⟩
end Go.Proofs.Ythmjniedfiabhaa
