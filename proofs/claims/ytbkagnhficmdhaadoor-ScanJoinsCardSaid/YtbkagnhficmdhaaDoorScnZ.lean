/- Scan: signs that lie in a row of memory. -/
import Derived.Test.YtbkagnhficmdhaaDoorScnW
import Derived.Test.YtbkagnhficmdhaaDoorScnX
namespace Go.Proofs.YtbkagnhficmdhaaDoor
open Go.ChangeShapes Go.WideShapes Go.ChangeAt Go.RowKit
set_option linter.unusedVariables false
set_option linter.unusedSimpArgs false

/-- A row of signs in a block. -/
structure RowAt (w : World) (b : Nat) (l : List Sgn) : Prop where
  lt : b < w.heap.size
  cells : ∀ j, j < l.length * 5 → w.cell? ⟨b, j, none⟩ = (l.flatMap Sgn.cells)[j]?

theorem RowAt.below {w w' : World} {b : Nat} {l : List Sgn} (h : RowAt w b l) (hb : Below w.heap.size w w') : RowAt w' b l :=
  ⟨Nat.lt_of_lt_of_le h.lt hb.size, fun j hj => (hb.cell (p := ⟨b, j, none⟩) h.lt).trans (h.cells j hj)⟩

theorem RowAt.alloc {w : World} {b : Nat} {l : List Sgn} (h : RowAt w b l) (o : Obj) : RowAt (w.alloc o) b l :=
  h.below ((Below.refl w.heap.size w).alloc (Nat.le_refl _) o)

theorem RowAt.drawn {w : World} {b : Nat} {l : List Sgn} (h : RowAt w b l) (n : Nat) : RowAt (w.drewN n) b l :=
  ⟨h.lt, fun j hj => h.cells j hj⟩

theorem flat_len : ∀ (l : List Sgn), (l.flatMap Sgn.cells).length = l.length * 5
  | [] => rfl
  | x :: l => by
    rw [List.flatMap_cons, List.length_append, flat_len l, List.length_cons]
    show 5 + l.length * 5 = (l.length + 1) * 5
    omega

theorem flat_at (pre : List Sgn) (x : Sgn) (l : List Sgn) {i : Nat} (hi : i < 5) : ((pre ++ x :: l).flatMap Sgn.cells)[pre.length * 5 + i]? = x.cells[i]? := by
  rw [List.flatMap_append, List.flatMap_cons, List.getElem?_append_right (by rw [flat_len]; omega), flat_len, Nat.add_sub_cancel_left, List.getElem?_append_left (by show i < 5; exact hi)]

theorem RowAt.at {w : World} {b : Nat} {pre : List Sgn} {x : Sgn} {l : List Sgn} (h : RowAt w b (pre ++ x :: l)) {i : Nat} (hi : i < 5) : w.cell? ⟨b, pre.length * 5 + i, none⟩ = x.cells[i]? := by
  rw [h.cells _ (by simp; omega), flat_at pre x l hi]

theorem own_rowAt {w : World} {base : Nat} {e : TypeId} {v : Value} {l : List Sgn} (h : w.ownsRow base e 5 v l.length (l.flatMap Sgn.cells)) (hn : 0 < l.length) :
    ∃ b c, v = .slice (some ⟨b, 0, none⟩) l.length c ∧ RowAt w b l ∧ base ≤ b := by
  obtain ⟨b, c, rfl, hb, hc⟩ := own_block h hn
  exact ⟨b, c, rfl, ⟨(World.ownsRow.lt h b rfl).2, hc⟩, hb⟩

theorem own_len {w : World} {base : Nat} {e : TypeId} {v : Value} {l : List Sgn} (h : w.ownsRow base e 5 v l.length (l.flatMap Sgn.cells)) : l.length ≤ maxLen := by
  rcases h.2 with ⟨h1, h2⟩ | ⟨g, cap, cur, h1, h2, h3, h4, h5, _⟩
  · rw [h2]; exact Nat.zero_le _
  · unfold maxLen at *
    omega

set_option maxHeartbeats 8000000 in
set_option maxRecDepth 100000 in
theorem covers_walk (w : World) (s : ByteArray) (hm : s.size ≤ maxLen) :
    Calls Tryd.prog 6 #[.string s] w fun e w' => e = .returned (.bool true) ∧ Below w.heap.size w w' := by
  unfold maxLen at hm
  have AW := Lib.hid (awake08_any w)
  by_cases hs : s.size ≤ 20000
  case neg =>
    have d : decide ((20000 : Int) < s.size) = true := decide_eq_true (by omega)
    go_enter Tryd.func6, Tryd.ntmps6
    go_wp2_with fail
    refine AW.out.mono ?_
    rintro e w1 ⟨rfl, hb1⟩
    have B1 := Lib.hid hb1
    clear hb1
    go_wp2_with fail
    go_ret
    exact ⟨rfl, B1.out⟩
  have d : decide ((20000 : Int) < s.size) = false := decide_eq_false (by omega)
  have AL := Lib.hid (fun w => all_any s w (by omega))
  obtain ⟨hc1, hc2⟩ := allP_cover s
  have C1 := Lib.hid hc1
  have C2 := Lib.hid hc2
  clear hc1 hc2
  unfold AllPost at AL
  generalize allP s = r at *
  obtain ⟨L, fr, c⟩ := r
  go_enter Tryd.func6, Tryd.ntmps6
  go_wp2_with fail
  refine AW.out.mono ?_
  rintro e w1 ⟨rfl, hb1⟩
  have B1 := Lib.hid hb1
  clear hb1
  go_wp2_with fail
  refine (AL.out _).mono ?_
  rintro e w2 ⟨v, rfl, hB, hO⟩
  have B2 := Lib.hid (B1.out.trans (hB.mono B1.out.size))
  by_cases hc : c = 0
  case neg =>
    have dc : (c != 0) = true := by rw [bne, beq_eq_false_iff_ne.2 hc]; rfl
    have hL : L = [] := C1.out hc
    subst hL
    obtain ⟨A0, c0, rfl⟩ := own_form hO
    clear hO hB
    go_wp2_with fail
    go_ret
    exact ⟨rfl, B2.out⟩
  subst hc
  have dc : ((0 : Int) != 0) = false := rfl
  have hCV : CoverL s 0 L := C2.out rfl
  have hlen : 0 < L.length := cover_pos hCV
  have hnl := own_len hO
  obtain ⟨b, cp, rfl, hr, hb⟩ := own_rowAt hO hlen
  unfold maxLen at hnl
  have RA := Lib.hid hr
  have CV := Lib.hid hCV
  clear hO hB hr C1 C2 hCV hb
  have hpos : decide ((0 : Int) < L.length) = true := decide_eq_true (by omega)
  go_wp2_with fail
  go_loopw [6, 7] (fun la i wr => ∃ (k : Nat) (pre rest : List Sgn), L = pre ++ rest ∧ (rest = [] ∨ CoverL s k rest) ∧ la = .int .i64 k ∧ i = .int .i64 pre.length ∧ RowAt wr b L ∧ Below w.heap.size w wr) (fun _ i _ => L.length - (intOf i).toNat)
  case atStart => exact ⟨0, [], L, rfl, .inr CV.out, rfl, rfl, RA.out, B2.out⟩
  case round =>
    obtain ⟨k, pre, rest, hL, hC, rfl, rfl, hra, hbr⟩ := hrel
    have RW := Lib.hid hra
    have BW := Lib.hid hbr
    clear hra hbr
    have hwr : w.heap.size ≤ wr.heap.size := BW.out.size
    cases rest with
    | nil =>
      obtain rfl : L = pre := by rw [hL, List.append_nil]
      have dI : decide ((L.length : Int) < L.length) = false := decide_eq_false (by omega)
      clear hL hC
      go_wp2_with fail
      go_ret
      exact ⟨rfl, BW.out⟩
    | cons x rest =>
      have HL := Lib.hid (show L.length = pre.length + (rest.length + 1) by rw [hL, List.length_append, List.length_cons])
      have dI : (pre.length : Int) < L.length := by have := HL.out; omega
      obtain ⟨hf, ht⟩ := cover_head (hC.resolve_left (List.cons_ne_nil _ _))
      obtain ⟨f1, f2, f3, f4, f5, f6⟩ := hf
      have d1 : decide ((x.frm : Int) < k) = false := decide_eq_false (by omega)
      have d2 : decide ((x.to : Int) < x.frm) = false := decide_eq_false (by omega)
      have d3 : decide ((s.size : Int) < x.to) = false := decide_eq_false (by omega)
      have d5 : (x.kind == 7) = false := beq_eq_false_iff_ne.2 f4
      have hra : RowAt wr b (pre ++ x :: rest) := hL ▸ RW.out
      have c0 : wr.cell? ⟨b, pre.length * 5, none⟩ = some (.int .i64 x.kind) := hra.at (i := 0) (by decide)
      have c1 : wr.cell? ⟨b, pre.length * 5 + 1, none⟩ = some (.int .i64 x.frm) := hra.at (i := 1) (by decide)
      have c2 : wr.cell? ⟨b, pre.length * 5 + 2, none⟩ = some (.int .i64 x.to) := hra.at (i := 2) (by decide)
      have c3 : wr.cell? ⟨b, pre.length * 5 + 3, none⟩ = some (.string x.text) := hra.at (i := 3) (by decide)
      have c4 : wr.cell? ⟨b, pre.length * 5 + 4, none⟩ = some (.int .i32 x.n) := hra.at (i := 4) (by decide)
      have d1n : decide (x.frm < k) = false := decide_eq_false (by omega)
      have d2n : decide (x.to < x.frm) = false := decide_eq_false (by omega)
      have d3n : decide (s.size < x.to) = false := decide_eq_false (by omega)
      have g1 : (x.frm : Int) ≤ x.to := by omega
      have g2 : (x.to : Int) ≤ s.size := by omega
      have HLL := Lib.hid (show L = (pre ++ [x]) ++ rest by rw [hL, List.append_assoc]; rfl)
      have RT := Lib.hid (show rest = [] ∨ CoverL s x.to rest from ht.elim (fun h => .inl h.2) (fun h => .inr h.2.2))
      have F6 := Lib.hid f6
      have F5 := Lib.hid f5
      clear hra hC f5 f6 hL
      have hlm : (1 : Int) ≤ L.length := by omega
      by_cases hk0 : x.kind = 0
      · have dk0 : (x.kind == 0) = true := beq_iff_eq.2 hk0
        have dk4 : (x.kind == 4) = false := beq_eq_false_iff_ne.2 (by omega)
        have hr0 : rest = [] := ht.elim (fun h => h.2) (fun h => absurd hk0 h.1)
        have dl : ((pre.length : Int) == (L.length : Int) - 1) = true := beq_iff_eq.2 (by have h := HL.out; rw [hr0] at h; simp at h; omega)
        have dt : ((s.extract x.frm x.to).toList == x.text.toList) = true := by rw [F5.out (by omega)]; exact beq_self_eq_true _
        clear hr0 ht hk0 f4
        go_wp2_with fail
        go_roundw
        case rel => exact ⟨x.to, pre ++ [x], rest, HLL.out, RT.out, rfl, by simp, RW.out.alloc _, BW.out.alloc hwr _⟩
        case measure => have := HL.out; simp [intOf]; omega
      · have dk0 : (x.kind == 0) = false := beq_eq_false_iff_ne.2 hk0
        have hr0 : rest ≠ [] := ht.elim (fun h => absurd h.1 hk0) (fun h => h.2.1)
        have hr1 : 0 < rest.length := List.length_pos_iff.2 hr0
        have dl : ((pre.length : Int) == (L.length : Int) - 1) = false := beq_eq_false_iff_ne.2 (by have h := HL.out; omega)
        by_cases hk4 : x.kind = 4
        · have dk4 : (x.kind == 4) = true := beq_iff_eq.2 hk4
          obtain ⟨h2, htx⟩ := F6.out hk4
          have hin := (inner_extract s h2 f3).1
          have hge : (2 : Int) ≤ ((x.to - x.frm : Nat) : Int) := by omega
          have dt : (((s.extract x.frm x.to).extract 1 (x.to - x.frm - 1)).toList == x.text.toList) = true := by rw [hin, htx]; exact beq_self_eq_true _
          clear hr0 ht hk0 f4 hk4 h2 htx hin
          go_wp2_with fail
          go_roundw
          case rel => exact ⟨x.to, pre ++ [x], rest, HLL.out, RT.out, rfl, by simp, RW.out.alloc _, BW.out.alloc hwr _⟩
          case measure => have := HL.out; simp [intOf]; omega
        · have dk4 : (x.kind == 4) = false := beq_eq_false_iff_ne.2 hk4
          have dt : ((s.extract x.frm x.to).toList == x.text.toList) = true := by rw [F5.out hk4]; exact beq_self_eq_true _
          clear hr0 ht hk0 f4 hk4
          go_wp2_with fail
          go_roundw
          case rel => exact ⟨x.to, pre ++ [x], rest, HLL.out, RT.out, rfl, by simp, RW.out.alloc _, BW.out.alloc hwr _⟩
          case measure => have := HL.out; simp [intOf]; omega
end Go.Proofs.YtbkagnhficmdhaaDoor
