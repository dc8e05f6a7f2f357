/- Symfile: the answers' May. -/
import Derived.Test.YthmjniedfiabhaaSymC
namespace Go.Proofs.Ythmjniedfiabhaa
open Go.ChangeShapes Go.WideShapes Go.ChangeAt Go.RowKit
set_option linter.unusedVariables false
set_option linter.unusedSimpArgs false

theorem mayP_no {x : Ex} (h : ¬ nameOk x.nm) : mayP x = 140 := by rw [mayP_eq, if_neg h]

theorem mayP_bad {x : Ex} (h : nameOk x.nm) (h2 : ¬ canP x) : mayP x = 141 := by rw [mayP_eq, if_pos h, if_neg h2]

theorem mayP_ok {x : Ex} (h : nameOk x.nm) (h2 : canP x) : mayP x = 0 := by rw [mayP_eq, if_pos h, if_pos h2]

def allB (l : List (Int × Bool)) : Prop := ∀ q ∈ l, basicP q.1

instance (l : List (Int × Bool)) : Decidable (allB l) := List.decidableBAll (fun q : Int × Bool => basicP q.1) l

theorem allB_snoc {l : List (Int × Bool)} {q : Int × Bool} (h : allB l) : decide (allB (l ++ [q])) = decide (basicP q.1) :=
  decide_eq_decide.2 ⟨fun h' => h' _ (by simp), fun h' x hx => (List.mem_append.1 hx).elim (h x) (fun hx => by
    obtain rfl := List.mem_singleton.1 hx
    exact h')⟩

theorem allB_bad {l : List (Int × Bool)} {q : Int × Bool} (h : ¬ allB l) : decide (allB (l ++ [q])) = false :=
  decide_eq_false (fun h' => h (fun x hx => h' x (List.mem_append_left _ hx)))

set_option maxHeartbeats 8000000 in
set_option maxRecDepth 100000 in
theorem rmay_no (nm : ByteArray) (kd ty vl : Int) (ps : List (Int × Bool)) (Ap : Option Addr) (cp B : Nat) (w : World) (hp : ParV B w (.slice Ap ps.length cp) ps) (hn : ps.length ≤ 140737488355328) (hs : nm.size ≤ 140737488355328) (hno : ¬ nameOk nm) :
    Calls Try.prog 10 #[.agg #[.string nm, .int .i64 kd, .int .i64 ty, .int .i32 vl, .slice Ap ps.length cp]] w fun e w' => e = .returned (.int .i64 (mayP ⟨nm, kd, ty, vl, ps⟩)) ∧ Below w.heap.size w w' := by
  have BA := Lib.hid ((Below.refl w.heap.size w).alloc (Nat.le_refl _) (.cells #[.string nm, .int .i64 kd, .int .i64 ty, .int .i32 vl, .slice Ap ps.length cp] pE))
  have X := Lib.hid (Whole.made w pE #[.string nm, .int .i64 kd, .int .i64 ty, .int .i32 vl, .slice Ap ps.length cp] _ rfl)
  have q0 : (w.alloc (.cells #[.string nm, .int .i64 kd, .int .i64 ty, .int .i32 vl, .slice Ap ps.length cp] pE)).cell? ⟨w.heap.size, 0, none⟩ = some (.string nm) := X.out.cell 0
  have q1 : (w.alloc (.cells #[.string nm, .int .i64 kd, .int .i64 ty, .int .i32 vl, .slice Ap ps.length cp] pE)).cell? ⟨w.heap.size, 1, none⟩ = some (.int .i64 kd) := X.out.cell 1
  have q2 : (w.alloc (.cells #[.string nm, .int .i64 kd, .int .i64 ty, .int .i32 vl, .slice Ap ps.length cp] pE)).cell? ⟨w.heap.size, 2, none⟩ = some (.int .i64 ty) := X.out.cell 2
  have q3 : (w.alloc (.cells #[.string nm, .int .i64 kd, .int .i64 ty, .int .i32 vl, .slice Ap ps.length cp] pE)).cell? ⟨w.heap.size, 3, none⟩ = some (.int .i32 vl) := X.out.cell 3
  have q4 : (w.alloc (.cells #[.string nm, .int .i64 kd, .int .i64 ty, .int .i32 vl, .slice Ap ps.length cp] pE)).cell? ⟨w.heap.size, 4, none⟩ = some (.slice Ap ps.length cp) := X.out.cell 4
  have NA := Lib.hid (fun W => refname_any nm W hs)
  have IS := Lib.hid (fun W => basic_any ty W)
  have PV := Lib.hid (hp.below BA.out)
  have M0 := Lib.hid (@mayP_no ⟨nm, kd, ty, vl, ps⟩)
  have M1 := Lib.hid (@mayP_bad ⟨nm, kd, ty, vl, ps⟩)
  have M2 := Lib.hid (@mayP_ok ⟨nm, kd, ty, vl, ps⟩)
  clear hp
  rw [decide_eq_false hno] at NA
  have R := Lib.hid (M0.out hno)
  clear hno
  go_enter Try.func10, Try.ntmps10
  go_wp2_with fail
  refine (NA.out _).mono ?_
  rintro e w1 ⟨rfl, rfl⟩
  go_wp2_with fail
  go_ret
  rw [R.out]
  exact ⟨rfl, BA.out⟩

set_option maxHeartbeats 8000000 in
set_option maxRecDepth 100000 in
theorem rmay_b (nm : ByteArray) (ty vl : Int) (ps : List (Int × Bool)) (Ap : Option Addr) (cp B : Nat) (w : World) (hp : ParV B w (.slice Ap ps.length cp) ps) (hn : ps.length ≤ 140737488355328) (hs : nm.size ≤ 140737488355328) (hno : nameOk nm) :
    Calls Try.prog 10 #[.agg #[.string nm, .int .i64 1, .int .i64 ty, .int .i32 vl, .slice Ap ps.length cp]] w fun e w' => e = .returned (.int .i64 (mayP ⟨nm, 1, ty, vl, ps⟩)) ∧ Below w.heap.size w w' := by
  have BA := Lib.hid ((Below.refl w.heap.size w).alloc (Nat.le_refl _) (.cells #[.string nm, .int .i64 1, .int .i64 ty, .int .i32 vl, .slice Ap ps.length cp] pE))
  have X := Lib.hid (Whole.made w pE #[.string nm, .int .i64 1, .int .i64 ty, .int .i32 vl, .slice Ap ps.length cp] _ rfl)
  have q0 : (w.alloc (.cells #[.string nm, .int .i64 1, .int .i64 ty, .int .i32 vl, .slice Ap ps.length cp] pE)).cell? ⟨w.heap.size, 0, none⟩ = some (.string nm) := X.out.cell 0
  have q1 : (w.alloc (.cells #[.string nm, .int .i64 1, .int .i64 ty, .int .i32 vl, .slice Ap ps.length cp] pE)).cell? ⟨w.heap.size, 1, none⟩ = some (.int .i64 1) := X.out.cell 1
  have q2 : (w.alloc (.cells #[.string nm, .int .i64 1, .int .i64 ty, .int .i32 vl, .slice Ap ps.length cp] pE)).cell? ⟨w.heap.size, 2, none⟩ = some (.int .i64 ty) := X.out.cell 2
  have q3 : (w.alloc (.cells #[.string nm, .int .i64 1, .int .i64 ty, .int .i32 vl, .slice Ap ps.length cp] pE)).cell? ⟨w.heap.size, 3, none⟩ = some (.int .i32 vl) := X.out.cell 3
  have q4 : (w.alloc (.cells #[.string nm, .int .i64 1, .int .i64 ty, .int .i32 vl, .slice Ap ps.length cp] pE)).cell? ⟨w.heap.size, 4, none⟩ = some (.slice Ap ps.length cp) := X.out.cell 4
  have NA := Lib.hid (fun W => refname_any nm W hs)
  have IS := Lib.hid (fun W => basic_any ty W)
  have PV := Lib.hid (hp.below BA.out)
  have M0 := Lib.hid (@mayP_no ⟨nm, 1, ty, vl, ps⟩)
  have M1 := Lib.hid (@mayP_bad ⟨nm, 1, ty, vl, ps⟩)
  have M2 := Lib.hid (@mayP_ok ⟨nm, 1, ty, vl, ps⟩)
  clear hp
  rw [decide_eq_true hno] at NA
  have C := Lib.hid (can_simple (nm := nm) (kd := 1) (ty := ty) (vl := vl) (ps := ps) (.inl rfl))
  by_cases hb : basicP ty
  · rw [decide_eq_true hb] at IS
    by_cases h0 : ps.length = 0
    · have d0 : ((ps.length : Int) == 0) = true := beq_iff_eq.2 (by omega)
      have R := Lib.hid (M2.out hno (C.out.2 ⟨hb, h0⟩))
      clear h0 hb hno
      go_enter Try.func10, Try.ntmps10
      go_wp2_with fail
      refine (NA.out _).mono ?_
      rintro e w1 ⟨rfl, rfl⟩
      go_wp2_with fail
      refine (IS.out _).mono ?_
      rintro e w2 ⟨rfl, rfl⟩
      go_wp2_with fail
      go_ret
      rw [R.out]
      exact ⟨rfl, BA.out⟩
    · have d0 : ((ps.length : Int) == 0) = false := beq_eq_false_iff_ne.2 (by omega)
      have R := Lib.hid (M1.out hno (fun h => h0 (C.out.1 h).2))
      clear h0 hb hno
      go_enter Try.func10, Try.ntmps10
      go_wp2_with fail
      refine (NA.out _).mono ?_
      rintro e w1 ⟨rfl, rfl⟩
      go_wp2_with fail
      refine (IS.out _).mono ?_
      rintro e w2 ⟨rfl, rfl⟩
      go_wp2_with fail
      go_ret
      rw [R.out]
      exact ⟨rfl, BA.out⟩
  · rw [decide_eq_false hb] at IS
    have R := Lib.hid (M1.out hno (fun h => hb (C.out.1 h).1))
    clear hb hno
    go_enter Try.func10, Try.ntmps10
    go_wp2_with fail
    refine (NA.out _).mono ?_
    rintro e w1 ⟨rfl, rfl⟩
    go_wp2_with fail
    refine (IS.out _).mono ?_
    rintro e w2 ⟨rfl, rfl⟩
    go_wp2_with fail
    go_ret
    rw [R.out]
    exact ⟨rfl, BA.out⟩

set_option maxHeartbeats 8000000 in
set_option maxRecDepth 100000 in
theorem rmay_c (nm : ByteArray) (ty vl : Int) (ps : List (Int × Bool)) (Ap : Option Addr) (cp B : Nat) (w : World) (hp : ParV B w (.slice Ap ps.length cp) ps) (hn : ps.length ≤ 140737488355328) (hs : nm.size ≤ 140737488355328) (hno : nameOk nm) :
    Calls Try.prog 10 #[.agg #[.string nm, .int .i64 3, .int .i64 ty, .int .i32 vl, .slice Ap ps.length cp]] w fun e w' => e = .returned (.int .i64 (mayP ⟨nm, 3, ty, vl, ps⟩)) ∧ Below w.heap.size w w' := by
  have BA := Lib.hid ((Below.refl w.heap.size w).alloc (Nat.le_refl _) (.cells #[.string nm, .int .i64 3, .int .i64 ty, .int .i32 vl, .slice Ap ps.length cp] pE))
  have X := Lib.hid (Whole.made w pE #[.string nm, .int .i64 3, .int .i64 ty, .int .i32 vl, .slice Ap ps.length cp] _ rfl)
  have q0 : (w.alloc (.cells #[.string nm, .int .i64 3, .int .i64 ty, .int .i32 vl, .slice Ap ps.length cp] pE)).cell? ⟨w.heap.size, 0, none⟩ = some (.string nm) := X.out.cell 0
  have q1 : (w.alloc (.cells #[.string nm, .int .i64 3, .int .i64 ty, .int .i32 vl, .slice Ap ps.length cp] pE)).cell? ⟨w.heap.size, 1, none⟩ = some (.int .i64 3) := X.out.cell 1
  have q2 : (w.alloc (.cells #[.string nm, .int .i64 3, .int .i64 ty, .int .i32 vl, .slice Ap ps.length cp] pE)).cell? ⟨w.heap.size, 2, none⟩ = some (.int .i64 ty) := X.out.cell 2
  have q3 : (w.alloc (.cells #[.string nm, .int .i64 3, .int .i64 ty, .int .i32 vl, .slice Ap ps.length cp] pE)).cell? ⟨w.heap.size, 3, none⟩ = some (.int .i32 vl) := X.out.cell 3
  have q4 : (w.alloc (.cells #[.string nm, .int .i64 3, .int .i64 ty, .int .i32 vl, .slice Ap ps.length cp] pE)).cell? ⟨w.heap.size, 4, none⟩ = some (.slice Ap ps.length cp) := X.out.cell 4
  have NA := Lib.hid (fun W => refname_any nm W hs)
  have IS := Lib.hid (fun W => basic_any ty W)
  have PV := Lib.hid (hp.below BA.out)
  have M0 := Lib.hid (@mayP_no ⟨nm, 3, ty, vl, ps⟩)
  have M1 := Lib.hid (@mayP_bad ⟨nm, 3, ty, vl, ps⟩)
  have M2 := Lib.hid (@mayP_ok ⟨nm, 3, ty, vl, ps⟩)
  clear hp
  rw [decide_eq_true hno] at NA
  by_cases hv : vl < 0
  · have C := Lib.hid (can_neg (nm := nm) (kd := 3) (ty := ty) (vl := vl) (ps := ps) ⟨by decide, hv⟩)
    have R := Lib.hid (M1.out hno C.out)
    have dv : decide (vl < 0) = true := decide_eq_true hv
    by_cases hb : basicP ty
    · rw [decide_eq_true hb] at IS
      by_cases h0 : ps.length = 0
      · have d0 : ((ps.length : Int) == 0) = true := beq_iff_eq.2 (by omega)
        clear h0 hb hno hv
        go_enter Try.func10, Try.ntmps10
        go_wp2_with fail
        refine (NA.out _).mono ?_
        rintro e w1 ⟨rfl, rfl⟩
        go_wp2_with fail
        refine (IS.out _).mono ?_
        rintro e w2 ⟨rfl, rfl⟩
        go_wp2_with fail
        go_ret
        rw [R.out]
        exact ⟨rfl, BA.out⟩
      · have d0 : ((ps.length : Int) == 0) = false := beq_eq_false_iff_ne.2 (by omega)
        clear h0 hb hno hv
        go_enter Try.func10, Try.ntmps10
        go_wp2_with fail
        refine (NA.out _).mono ?_
        rintro e w1 ⟨rfl, rfl⟩
        go_wp2_with fail
        refine (IS.out _).mono ?_
        rintro e w2 ⟨rfl, rfl⟩
        go_wp2_with fail
        go_ret
        rw [R.out]
        exact ⟨rfl, BA.out⟩
    · rw [decide_eq_false hb] at IS
      clear hb hno hv
      go_enter Try.func10, Try.ntmps10
      go_wp2_with fail
      refine (NA.out _).mono ?_
      rintro e w1 ⟨rfl, rfl⟩
      go_wp2_with fail
      refine (IS.out _).mono ?_
      rintro e w2 ⟨rfl, rfl⟩
      go_wp2_with fail
      go_ret
      rw [R.out]
      exact ⟨rfl, BA.out⟩
  have C := Lib.hid (can_simple (nm := nm) (kd := 3) (ty := ty) (vl := vl) (ps := ps) (.inr ⟨rfl, by omega⟩))
  have dv : decide (vl < 0) = false := decide_eq_false hv
  by_cases hb : basicP ty
  · rw [decide_eq_true hb] at IS
    by_cases h0 : ps.length = 0
    · have d0 : ((ps.length : Int) == 0) = true := beq_iff_eq.2 (by omega)
      have R := Lib.hid (M2.out hno (C.out.2 ⟨hb, h0⟩))
      clear h0 hb hno hv
      go_enter Try.func10, Try.ntmps10
      go_wp2_with fail
      refine (NA.out _).mono ?_
      rintro e w1 ⟨rfl, rfl⟩
      go_wp2_with fail
      refine (IS.out _).mono ?_
      rintro e w2 ⟨rfl, rfl⟩
      go_wp2_with fail
      go_ret
      rw [R.out]
      exact ⟨rfl, BA.out⟩
    · have d0 : ((ps.length : Int) == 0) = false := beq_eq_false_iff_ne.2 (by omega)
      have R := Lib.hid (M1.out hno (fun h => h0 (C.out.1 h).2))
      clear h0 hb hno hv
      go_enter Try.func10, Try.ntmps10
      go_wp2_with fail
      refine (NA.out _).mono ?_
      rintro e w1 ⟨rfl, rfl⟩
      go_wp2_with fail
      refine (IS.out _).mono ?_
      rintro e w2 ⟨rfl, rfl⟩
      go_wp2_with fail
      go_ret
      rw [R.out]
      exact ⟨rfl, BA.out⟩
  · rw [decide_eq_false hb] at IS
    have R := Lib.hid (M1.out hno (fun h => hb (C.out.1 h).1))
    clear hb hno hv
    go_enter Try.func10, Try.ntmps10
    go_wp2_with fail
    refine (NA.out _).mono ?_
    rintro e w1 ⟨rfl, rfl⟩
    go_wp2_with fail
    refine (IS.out _).mono ?_
    rintro e w2 ⟨rfl, rfl⟩
    go_wp2_with fail
    go_ret
    rw [R.out]
    exact ⟨rfl, BA.out⟩

set_option maxHeartbeats 8000000 in
set_option maxRecDepth 100000 in
theorem rmay_d (nm : ByteArray) (ty vl : Int) (ps : List (Int × Bool)) (Ap : Option Addr) (cp B : Nat) (w : World) (hp : ParV B w (.slice Ap ps.length cp) ps) (hn : ps.length ≤ 140737488355328) (hs : nm.size ≤ 140737488355328) (hno : nameOk nm) :
    Calls Try.prog 10 #[.agg #[.string nm, .int .i64 7, .int .i64 ty, .int .i32 vl, .slice Ap ps.length cp]] w fun e w' => e = .returned (.int .i64 (mayP ⟨nm, 7, ty, vl, ps⟩)) ∧ Below w.heap.size w w' := by
  have BA := Lib.hid ((Below.refl w.heap.size w).alloc (Nat.le_refl _) (.cells #[.string nm, .int .i64 7, .int .i64 ty, .int .i32 vl, .slice Ap ps.length cp] pE))
  have X := Lib.hid (Whole.made w pE #[.string nm, .int .i64 7, .int .i64 ty, .int .i32 vl, .slice Ap ps.length cp] _ rfl)
  have q0 : (w.alloc (.cells #[.string nm, .int .i64 7, .int .i64 ty, .int .i32 vl, .slice Ap ps.length cp] pE)).cell? ⟨w.heap.size, 0, none⟩ = some (.string nm) := X.out.cell 0
  have q1 : (w.alloc (.cells #[.string nm, .int .i64 7, .int .i64 ty, .int .i32 vl, .slice Ap ps.length cp] pE)).cell? ⟨w.heap.size, 1, none⟩ = some (.int .i64 7) := X.out.cell 1
  have q2 : (w.alloc (.cells #[.string nm, .int .i64 7, .int .i64 ty, .int .i32 vl, .slice Ap ps.length cp] pE)).cell? ⟨w.heap.size, 2, none⟩ = some (.int .i64 ty) := X.out.cell 2
  have q3 : (w.alloc (.cells #[.string nm, .int .i64 7, .int .i64 ty, .int .i32 vl, .slice Ap ps.length cp] pE)).cell? ⟨w.heap.size, 3, none⟩ = some (.int .i32 vl) := X.out.cell 3
  have q4 : (w.alloc (.cells #[.string nm, .int .i64 7, .int .i64 ty, .int .i32 vl, .slice Ap ps.length cp] pE)).cell? ⟨w.heap.size, 4, none⟩ = some (.slice Ap ps.length cp) := X.out.cell 4
  have NA := Lib.hid (fun W => refname_any nm W hs)
  have IS := Lib.hid (fun W => basic_any ty W)
  have PV := Lib.hid (hp.below BA.out)
  have M0 := Lib.hid (@mayP_no ⟨nm, 7, ty, vl, ps⟩)
  have M1 := Lib.hid (@mayP_bad ⟨nm, 7, ty, vl, ps⟩)
  have M2 := Lib.hid (@mayP_ok ⟨nm, 7, ty, vl, ps⟩)
  clear hp
  rw [decide_eq_true hno] at NA
  by_cases hb : ty = 0
  · subst hb
    by_cases h0 : ps.length = 0
    · have d0 : ((ps.length : Int) == 0) = true := beq_iff_eq.2 (by omega)
      by_cases hv : vl < 0
      · have R := Lib.hid (M1.out hno (can_neg ⟨by decide, hv⟩))
        have dv : decide (vl < 0) = true := decide_eq_true hv
        clear h0 hno hv
        go_enter Try.func10, Try.ntmps10
        go_wp2_with fail
        refine (NA.out _).mono ?_
        rintro e w1 ⟨rfl, rfl⟩
        go_wp2_with fail
        go_ret
        rw [R.out]
        exact ⟨rfl, BA.out⟩
      · have R := Lib.hid (M2.out hno ((can_exc (by omega)).2 ⟨rfl, h0⟩))
        have dv : decide (vl < 0) = false := decide_eq_false hv
        clear h0 hno hv
        go_enter Try.func10, Try.ntmps10
        go_wp2_with fail
        refine (NA.out _).mono ?_
        rintro e w1 ⟨rfl, rfl⟩
        go_wp2_with fail
        go_ret
        rw [R.out]
        exact ⟨rfl, BA.out⟩
    · have d0 : ((ps.length : Int) == 0) = false := beq_eq_false_iff_ne.2 (by omega)
      have R := Lib.hid (M1.out hno (fun h => (Int.lt_or_le vl 0).elim (fun hv => can_neg ⟨by decide, hv⟩ h) (fun hv => h0 ((can_exc hv).1 h).2)))
      clear h0 hno
      go_enter Try.func10, Try.ntmps10
      go_wp2_with fail
      refine (NA.out _).mono ?_
      rintro e w1 ⟨rfl, rfl⟩
      go_wp2_with fail
      go_ret
      rw [R.out]
      exact ⟨rfl, BA.out⟩
  · have d1 : (ty == 0) = false := beq_eq_false_iff_ne.2 hb
    have R := Lib.hid (M1.out hno (fun h => (Int.lt_or_le vl 0).elim (fun hv => can_neg ⟨by decide, hv⟩ h) (fun hv => hb ((can_exc hv).1 h).1)))
    clear hb hno
    go_enter Try.func10, Try.ntmps10
    go_wp2_with fail
    refine (NA.out _).mono ?_
    rintro e w1 ⟨rfl, rfl⟩
    go_wp2_with fail
    go_ret
    rw [R.out]
    exact ⟨rfl, BA.out⟩

set_option maxHeartbeats 8000000 in
set_option maxRecDepth 100000 in
theorem rmay_f (nm : ByteArray) (kd ty vl : Int) (ps : List (Int × Bool)) (Ap : Option Addr) (cp B : Nat) (w : World) (hp : ParV B w (.slice Ap ps.length cp) ps) (hn : ps.length ≤ 140737488355328) (hs : nm.size ≤ 140737488355328) (hno : nameOk nm) (h : kd ≠ 1 ∧ kd ≠ 3 ∧ kd ≠ 6 ∧ kd ≠ 7) :
    Calls Try.prog 10 #[.agg #[.string nm, .int .i64 kd, .int .i64 ty, .int .i32 vl, .slice Ap ps.length cp]] w fun e w' => e = .returned (.int .i64 (mayP ⟨nm, kd, ty, vl, ps⟩)) ∧ Below w.heap.size w w' := by
  have BA := Lib.hid ((Below.refl w.heap.size w).alloc (Nat.le_refl _) (.cells #[.string nm, .int .i64 kd, .int .i64 ty, .int .i32 vl, .slice Ap ps.length cp] pE))
  have X := Lib.hid (Whole.made w pE #[.string nm, .int .i64 kd, .int .i64 ty, .int .i32 vl, .slice Ap ps.length cp] _ rfl)
  have q0 : (w.alloc (.cells #[.string nm, .int .i64 kd, .int .i64 ty, .int .i32 vl, .slice Ap ps.length cp] pE)).cell? ⟨w.heap.size, 0, none⟩ = some (.string nm) := X.out.cell 0
  have q1 : (w.alloc (.cells #[.string nm, .int .i64 kd, .int .i64 ty, .int .i32 vl, .slice Ap ps.length cp] pE)).cell? ⟨w.heap.size, 1, none⟩ = some (.int .i64 kd) := X.out.cell 1
  have q2 : (w.alloc (.cells #[.string nm, .int .i64 kd, .int .i64 ty, .int .i32 vl, .slice Ap ps.length cp] pE)).cell? ⟨w.heap.size, 2, none⟩ = some (.int .i64 ty) := X.out.cell 2
  have q3 : (w.alloc (.cells #[.string nm, .int .i64 kd, .int .i64 ty, .int .i32 vl, .slice Ap ps.length cp] pE)).cell? ⟨w.heap.size, 3, none⟩ = some (.int .i32 vl) := X.out.cell 3
  have q4 : (w.alloc (.cells #[.string nm, .int .i64 kd, .int .i64 ty, .int .i32 vl, .slice Ap ps.length cp] pE)).cell? ⟨w.heap.size, 4, none⟩ = some (.slice Ap ps.length cp) := X.out.cell 4
  have NA := Lib.hid (fun W => refname_any nm W hs)
  have IS := Lib.hid (fun W => basic_any ty W)
  have PV := Lib.hid (hp.below BA.out)
  have M0 := Lib.hid (@mayP_no ⟨nm, kd, ty, vl, ps⟩)
  have M1 := Lib.hid (@mayP_bad ⟨nm, kd, ty, vl, ps⟩)
  have M2 := Lib.hid (@mayP_ok ⟨nm, kd, ty, vl, ps⟩)
  clear hp
  rw [decide_eq_true hno] at NA
  have R := Lib.hid (M1.out hno (can_none h))
  have e1 : (kd == 1) = false := beq_eq_false_iff_ne.2 (by omega)
  have e3 : (kd == 3) = false := beq_eq_false_iff_ne.2 (by omega)
  have e6 : (kd == 6) = false := beq_eq_false_iff_ne.2 (by omega)
  have e7 : (kd == 7) = false := beq_eq_false_iff_ne.2 (by omega)
  clear hno h
  go_enter Try.func10, Try.ntmps10
  go_wp2_with fail
  refine (NA.out _).mono ?_
  rintro e w1 ⟨rfl, rfl⟩
  go_wp2_with fail
  go_ret
  rw [R.out]
  exact ⟨rfl, BA.out⟩

set_option maxHeartbeats 8000000 in
set_option maxRecDepth 100000 in
theorem rmay_e0 (nm : ByteArray) (ty vl : Int) (ps : List (Int × Bool)) (Ap : Option Addr) (cp B : Nat) (w : World) (hp : ParV B w (.slice Ap ps.length cp) ps) (hn : ps.length ≤ 140737488355328) (hs : nm.size ≤ 140737488355328) (hno : nameOk nm) (hbad : ¬ ((0 ≤ ty ∧ ty ≤ 3) ∧ ps.length ≤ 16)) :
    Calls Try.prog 10 #[.agg #[.string nm, .int .i64 6, .int .i64 ty, .int .i32 vl, .slice Ap ps.length cp]] w fun e w' => e = .returned (.int .i64 (mayP ⟨nm, 6, ty, vl, ps⟩)) ∧ Below w.heap.size w w' := by
  have BA := Lib.hid ((Below.refl w.heap.size w).alloc (Nat.le_refl _) (.cells #[.string nm, .int .i64 6, .int .i64 ty, .int .i32 vl, .slice Ap ps.length cp] pE))
  have X := Lib.hid (Whole.made w pE #[.string nm, .int .i64 6, .int .i64 ty, .int .i32 vl, .slice Ap ps.length cp] _ rfl)
  have q0 : (w.alloc (.cells #[.string nm, .int .i64 6, .int .i64 ty, .int .i32 vl, .slice Ap ps.length cp] pE)).cell? ⟨w.heap.size, 0, none⟩ = some (.string nm) := X.out.cell 0
  have q1 : (w.alloc (.cells #[.string nm, .int .i64 6, .int .i64 ty, .int .i32 vl, .slice Ap ps.length cp] pE)).cell? ⟨w.heap.size, 1, none⟩ = some (.int .i64 6) := X.out.cell 1
  have q2 : (w.alloc (.cells #[.string nm, .int .i64 6, .int .i64 ty, .int .i32 vl, .slice Ap ps.length cp] pE)).cell? ⟨w.heap.size, 2, none⟩ = some (.int .i64 ty) := X.out.cell 2
  have q3 : (w.alloc (.cells #[.string nm, .int .i64 6, .int .i64 ty, .int .i32 vl, .slice Ap ps.length cp] pE)).cell? ⟨w.heap.size, 3, none⟩ = some (.int .i32 vl) := X.out.cell 3
  have q4 : (w.alloc (.cells #[.string nm, .int .i64 6, .int .i64 ty, .int .i32 vl, .slice Ap ps.length cp] pE)).cell? ⟨w.heap.size, 4, none⟩ = some (.slice Ap ps.length cp) := X.out.cell 4
  have NA := Lib.hid (fun W => refname_any nm W hs)
  have IS := Lib.hid (fun W => basic_any ty W)
  have PV := Lib.hid (hp.below BA.out)
  have M0 := Lib.hid (@mayP_no ⟨nm, 6, ty, vl, ps⟩)
  have M1 := Lib.hid (@mayP_bad ⟨nm, 6, ty, vl, ps⟩)
  have M2 := Lib.hid (@mayP_ok ⟨nm, 6, ty, vl, ps⟩)
  clear hp
  rw [decide_eq_true hno] at NA
  have R := Lib.hid (M1.out hno (fun h => hbad (by
    have := h.1
    unfold kindOk at this
    simp only at this
    omega)))
  rcases (show (ty < 0) ∨ (0 ≤ ty ∧ 3 < ty) ∨ ((0 ≤ ty ∧ ty ≤ 3) ∧ 16 < ps.length) by omega) with hc | hc | hc
  · have a1 : ¬ (0 ≤ ty) := by omega
    have a1x : decide (0 ≤ ty) = false := decide_eq_false (by omega)
    clear hc hbad hno
    go_enter Try.func10, Try.ntmps10
    go_wp2_with fail
    refine (NA.out _).mono ?_
    rintro e w1 ⟨rfl, rfl⟩
    go_wp2_with fail
    go_loop [4, 5] (fun v i => ∃ t : Nat, t ≤ ps.length ∧ v = .bool false ∧ i = .int .i64 t) (fun _ i => ps.length - (intOf i).toNat)
    case atStart => exact ⟨0, Nat.zero_le _, rfl, rfl⟩
    case round =>
      obtain ⟨t, ht, rfl, rfl⟩ := hrel
      by_cases hlt : t < ps.length
      · have hI : (t : Int) < ps.length := by omega
        go_wp2_with fail
        go_round
        case rel => exact ⟨t + 1, by omega, rfl, by go_num⟩
        case measure => simp [intOf]; omega
      · have hI : ¬ (t : Int) < ps.length := by omega
        go_wp2_with fail
        go_ret
        rw [R.out]
        exact ⟨rfl, BA.out⟩
  · have a1 : 0 ≤ ty := by omega
    have a2 : decide (ty ≤ 3) = false := decide_eq_false (by omega)
    clear hc hbad hno
    go_enter Try.func10, Try.ntmps10
    go_wp2_with fail
    refine (NA.out _).mono ?_
    rintro e w1 ⟨rfl, rfl⟩
    go_wp2_with fail
    go_loop [4, 5] (fun v i => ∃ t : Nat, t ≤ ps.length ∧ v = .bool false ∧ i = .int .i64 t) (fun _ i => ps.length - (intOf i).toNat)
    case atStart => exact ⟨0, Nat.zero_le _, rfl, rfl⟩
    case round =>
      obtain ⟨t, ht, rfl, rfl⟩ := hrel
      by_cases hlt : t < ps.length
      · have hI : (t : Int) < ps.length := by omega
        go_wp2_with fail
        go_round
        case rel => exact ⟨t + 1, by omega, rfl, by go_num⟩
        case measure => simp [intOf]; omega
      · have hI : ¬ (t : Int) < ps.length := by omega
        go_wp2_with fail
        go_ret
        rw [R.out]
        exact ⟨rfl, BA.out⟩
  · have a1 : 0 ≤ ty := by omega
    have a2 : ty ≤ 3 := by omega
    have a3 : decide ((ps.length : Int) ≤ 16) = false := decide_eq_false (by omega)
    clear hc hbad hno
    go_enter Try.func10, Try.ntmps10
    go_wp2_with fail
    refine (NA.out _).mono ?_
    rintro e w1 ⟨rfl, rfl⟩
    go_wp2_with fail
    go_loop [4, 5] (fun v i => ∃ t : Nat, t ≤ ps.length ∧ v = .bool false ∧ i = .int .i64 t) (fun _ i => ps.length - (intOf i).toNat)
    case atStart => exact ⟨0, Nat.zero_le _, rfl, rfl⟩
    case round =>
      obtain ⟨t, ht, rfl, rfl⟩ := hrel
      by_cases hlt : t < ps.length
      · have hI : (t : Int) < ps.length := by omega
        go_wp2_with fail
        go_round
        case rel => exact ⟨t + 1, by omega, rfl, by go_num⟩
        case measure => simp [intOf]; omega
      · have hI : ¬ (t : Int) < ps.length := by omega
        go_wp2_with fail
        go_ret
        rw [R.out]
        exact ⟨rfl, BA.out⟩

set_option maxHeartbeats 8000000 in
set_option maxRecDepth 100000 in
theorem rmay_e1 (nm : ByteArray) (ty vl : Int) (ps : List (Int × Bool)) (Ap : Option Addr) (cp B : Nat) (w : World) (hp : ParV B w (.slice Ap ps.length cp) ps) (hn : ps.length ≤ 140737488355328) (hs : nm.size ≤ 140737488355328) (hno : nameOk nm) (hgood : (0 ≤ ty ∧ ty ≤ 3) ∧ ps.length ≤ 16) :
    Calls Try.prog 10 #[.agg #[.string nm, .int .i64 6, .int .i64 ty, .int .i32 vl, .slice Ap ps.length cp]] w fun e w' => e = .returned (.int .i64 (mayP ⟨nm, 6, ty, vl, ps⟩)) ∧ Below w.heap.size w w' := by
  have BA := Lib.hid ((Below.refl w.heap.size w).alloc (Nat.le_refl _) (.cells #[.string nm, .int .i64 6, .int .i64 ty, .int .i32 vl, .slice Ap ps.length cp] pE))
  have X := Lib.hid (Whole.made w pE #[.string nm, .int .i64 6, .int .i64 ty, .int .i32 vl, .slice Ap ps.length cp] _ rfl)
  have q0 : (w.alloc (.cells #[.string nm, .int .i64 6, .int .i64 ty, .int .i32 vl, .slice Ap ps.length cp] pE)).cell? ⟨w.heap.size, 0, none⟩ = some (.string nm) := X.out.cell 0
  have q1 : (w.alloc (.cells #[.string nm, .int .i64 6, .int .i64 ty, .int .i32 vl, .slice Ap ps.length cp] pE)).cell? ⟨w.heap.size, 1, none⟩ = some (.int .i64 6) := X.out.cell 1
  have q2 : (w.alloc (.cells #[.string nm, .int .i64 6, .int .i64 ty, .int .i32 vl, .slice Ap ps.length cp] pE)).cell? ⟨w.heap.size, 2, none⟩ = some (.int .i64 ty) := X.out.cell 2
  have q3 : (w.alloc (.cells #[.string nm, .int .i64 6, .int .i64 ty, .int .i32 vl, .slice Ap ps.length cp] pE)).cell? ⟨w.heap.size, 3, none⟩ = some (.int .i32 vl) := X.out.cell 3
  have q4 : (w.alloc (.cells #[.string nm, .int .i64 6, .int .i64 ty, .int .i32 vl, .slice Ap ps.length cp] pE)).cell? ⟨w.heap.size, 4, none⟩ = some (.slice Ap ps.length cp) := X.out.cell 4
  have NA := Lib.hid (fun W => refname_any nm W hs)
  have IS := Lib.hid (fun W => basic_any ty W)
  have PV := Lib.hid (hp.below BA.out)
  have M0 := Lib.hid (@mayP_no ⟨nm, 6, ty, vl, ps⟩)
  have M1 := Lib.hid (@mayP_bad ⟨nm, 6, ty, vl, ps⟩)
  have M2 := Lib.hid (@mayP_ok ⟨nm, 6, ty, vl, ps⟩)
  clear hp
  rw [decide_eq_true hno] at NA
  have a1 : 0 ≤ ty := by omega
  have a2 : ty ≤ 3 := by omega
  have a2' : decide (ty ≤ 3) = true := decide_eq_true a2
  have a3 : decide ((ps.length : Int) ≤ 16) = true := decide_eq_true (by omega)
  have HH := Lib.hid hgood
  have IB := Lib.hid (fun t W => basic_any t W)
  clear hgood IS
  have RV := Lib.hid (fun (hv : vl < 0) => M1.out hno (can_neg ⟨by decide, hv⟩))
  have RN := Lib.hid (fun (hv : ¬ vl < 0) (h : ¬ allB ps) => M1.out hno (fun h' => h ((can_proc (by omega)).1 h').2.2))
  have RY := Lib.hid (fun (hv : ¬ vl < 0) (h : allB ps) => M2.out hno ((can_proc (by omega)).2 ⟨by unfold basicP; omega, by have := HH.out; omega, h⟩))
  clear hno
  go_enter Try.func10, Try.ntmps10
  go_wp2_with fail
  refine (NA.out _).mono ?_
  rintro e w1 ⟨rfl, rfl⟩
  go_wp2_with fail
  go_loop [4, 5] (fun v i => ∃ t : Nat, t ≤ ps.length ∧ v = .bool (decide (allB (ps.take t))) ∧ i = .int .i64 t) (fun _ i => ps.length - (intOf i).toNat)
  case atStart => exact ⟨0, Nat.zero_le _, (by rw [List.take_zero, decide_eq_true (show allB [] from fun q h => by cases h)]), rfl⟩
  case round =>
    obtain ⟨t, ht, rfl, rfl⟩ := hrel
    by_cases hlt : t < ps.length
    · have hI : (t : Int) < ps.length := by omega
      obtain ⟨bb, off, rfl, p0, p1⟩ := PV.out.at hlt
      have TK := Lib.hid (take_snoc ps (0, false) hlt)
      by_cases hall : allB (ps.take t)
      · have AS := Lib.hid (show decide (allB (ps.take (t + 1))) = decide (basicP (ps.getD t (0, false)).1) from by rw [TK.out]; exact allB_snoc hall)
        rw [show (decide (allB (ps.take t))) = true from decide_eq_true hall]
        generalize ps.getD t (0, false) = q at *
        obtain ⟨qt, qr⟩ := q
        simp only at p0
        have IS := Lib.hid (fun W => IB.out qt W)
        simp only at AS
        generalize hg : decide (basicP qt) = g at *
        generalize hd : decide (allB (ps.take (t + 1))) = d at *
        have HD := Lib.hid hd
        clear hall TK p1 hg hd
        go_wp2_with fail
        refine (IS.out _).mono ?_
        rintro e w2 ⟨rfl, rfl⟩
        go_wp2_with fail
        go_round
        case rel => exact ⟨t + 1, by omega, by rw [HD.out, AS.out], by go_num⟩
        case measure => simp [intOf]; omega
      · have AS := Lib.hid (show decide (allB (ps.take (t + 1))) = false from by rw [TK.out]; exact allB_bad hall)
        rw [show (decide (allB (ps.take t))) = false from decide_eq_false hall]
        clear hall TK p0 p1
        go_wp2_with fail
        go_round
        case rel => exact ⟨t + 1, by omega, by rw [AS.out], by go_num⟩
        case measure => simp [intOf]; omega
    · have hI : ¬ (t : Int) < ps.length := by omega
      obtain rfl : t = ps.length := by omega
      rw [List.take_length]
      by_cases hv : vl < 0
      · have dv : decide (vl < 0) = true := decide_eq_true hv
        have R := Lib.hid (RV.out hv)
        generalize decide (allB ps) = g at *
        cases g with
        | true =>
          clear hv
          go_wp2_with fail
          go_ret
          rw [R.out]
          exact ⟨rfl, BA.out⟩
        | false =>
          clear hv
          go_wp2_with fail
          go_ret
          rw [R.out]
          exact ⟨rfl, BA.out⟩
      · have dv : decide (vl < 0) = false := decide_eq_false hv
        by_cases hall : allB ps
        · have R := Lib.hid (RY.out (by omega) hall)
          rw [decide_eq_true hall]
          clear hv hall
          go_wp2_with fail
          go_ret
          rw [R.out]
          exact ⟨rfl, BA.out⟩
        · have R := Lib.hid (RN.out (by omega) hall)
          rw [decide_eq_false hall]
          clear hv hall
          go_wp2_with fail
          go_ret
          rw [R.out]
          exact ⟨rfl, BA.out⟩

theorem refmay_any (nm : ByteArray) (kd ty vl : Int) (ps : List (Int × Bool)) (Ap : Option Addr) (cp B : Nat) (w : World) (hp : ParV B w (.slice Ap ps.length cp) ps) (hn : ps.length ≤ 140737488355328) (hs : nm.size ≤ 140737488355328) :
    Calls Try.prog 10 #[.agg #[.string nm, .int .i64 kd, .int .i64 ty, .int .i32 vl, .slice Ap ps.length cp]] w fun e w' => e = .returned (.int .i64 (mayP ⟨nm, kd, ty, vl, ps⟩)) ∧ Below w.heap.size w w' := by
  by_cases hno : nameOk nm
  · by_cases h1 : kd = 1
    · subst h1
      exact rmay_b nm ty vl ps Ap cp B w hp hn hs hno
    by_cases h3 : kd = 3
    · subst h3
      exact rmay_c nm ty vl ps Ap cp B w hp hn hs hno
    by_cases h6 : kd = 6
    · subst h6
      by_cases hg : (0 ≤ ty ∧ ty ≤ 3) ∧ ps.length ≤ 16
      · exact rmay_e1 nm ty vl ps Ap cp B w hp hn hs hno hg
      · exact rmay_e0 nm ty vl ps Ap cp B w hp hn hs hno hg
    by_cases h7 : kd = 7
    · subst h7
      exact rmay_d nm ty vl ps Ap cp B w hp hn hs hno
    exact rmay_f nm kd ty vl ps Ap cp B w hp hn hs hno ⟨h1, h3, h6, h7⟩
  · exact rmay_no nm kd ty vl ps Ap cp B w hp hn hs hno
end Go.Proofs.Ythmjniedfiabhaa
